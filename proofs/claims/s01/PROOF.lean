import PyProof.Rows.All
import Wide.All
import OpenK.AllK
import Wide.FinOn
import Open.SpecLaws
import KE.KStateDown
import KE.OsGo
import KE.OsHead
import HandS.ForSpec
import HandS.Defaults
import HandS.Head0
import HandS.Head1
import HandS.Head2
import HandS.Head3
import HandS.Head4
import HandS.HeadHook1
import HandS.HeadHook2
import HandS.HeadHook3
import HandS.HeadHook4
import HandS.Comp
import HandS.ForMost
import HandS.Flow
import HandS.Conv
import HandS.TupLe
import HandS.TupAny
import HandS.TupMul
import HandS.DeepEq
import KE.DataMinMax
import KE.DataMinKey
import KE.KeyNested
import KE.KTupSum
import HandS.TupSets
import KE.KDictDisplayH
import KE.DataCmp
import HandS.Walk
import HandS.More
import HandS.DictSubView
import HandS.DictTup
import HandS.Lambda
import HandS.SortKw
import HandS.WordsDict
import HandS.CallLocal
import HandS.EndTab
import KE.KNestM
import PySem.Challenge.RW_ringgather_s01_answers
set_option Elab.async false
set_option linter.all false
set_option maxRecDepth 100000
set_option maxHeartbeats 0
namespace RG
open PySem PySem.Spec PyProof.Rows L2
def top (i : Nat) : Stmt := PySem.Challenge.pw_ringgather_s01_answers.main.body.getD i (.Pass ⟨0, 0, 0, 0⟩)
abbrev s_no_such : Stmt := top 1
abbrev s_none_to_take : Stmt := top 2
abbrev s_not_marked : Stmt := top 3
abbrev s_some_is_good : Stmt := top 4
abbrev s_not_begun : Stmt := top 5
abbrev s_may_not_come : Stmt := top 6
abbrev s_marked_already : Stmt := top 7
abbrev s_not_let : Stmt := top 8
abbrev s_too_many_rules : Stmt := top 9
abbrev s_none_may_come : Stmt := top 10
abbrev s_not_gathered : Stmt := top 11
abbrev s_none_is_good : Stmt := top 12
abbrev s_counted : Stmt := top 14
abbrev s_row_from : Stmt := top 16
abbrev s_rings_like : Stmt := top 17
abbrev s_name_of : Stmt := top 18
abbrev s_with_robot : Stmt := top 19
abbrev s_with_gone : Stmt := top 20
abbrev s_names_of : Stmt := top 21
abbrev s_is_together : Stmt := top 22
abbrev s_is_apart : Stmt := top 23
abbrev s_ends_of : Stmt := top 25
abbrev s_eager_in : Stmt := top 26
abbrev s_ways_of : Stmt := top 27
abbrev s_is_move : Stmt := top 28
abbrev s_names_ahead : Stmt := top 29
abbrev s_graph_by : Stmt := top 30
abbrev s_resting_in : Stmt := top 32
abbrev s_most_moves : Stmt := top 33
abbrev s_fewest_moves : Stmt := top 34
abbrev s_sure_names : Stmt := top 35
abbrev s_against_them : Stmt := top 36
abbrev s_helping_them : Stmt := top 37
abbrev s_ways_to_do : Stmt := top 39
abbrev s_how_many_rules : Stmt := top 40
abbrev s_rules_of : Stmt := top 41
abbrev s_Trial_init : Stmt := inClass (top 42) 0
abbrev s_Trial_gathered_of : Stmt := inClass (top 42) 1
abbrev s_Trial_gathers_all : Stmt := inClass (top 42) 2
abbrev s_Foresight_init : Stmt := inClass (top 43) 0
abbrev s_Foresight_coming_by : Stmt := inClass (top 43) 1
abbrev s_Foresight_graph_foreseen : Stmt := inClass (top 43) 2
abbrev s_trials_of : Stmt := top 44
abbrev s_how_many_good : Stmt := top 45
abbrev s_first_of : Stmt := top 46
abbrev s_first_good : Stmt := top 47
abbrev s_most_gathered : Stmt := top 48
abbrev s_first_that_gathers : Stmt := top 49
abbrev s_groups_of : Stmt := top 50
abbrev s_fewest_hopeless : Stmt := top 51
abbrev s_is_too_many : Stmt := top 54
abbrev s_call_found : Stmt := top 55
abbrev s_call_take : Stmt := top 56
abbrev s_call_best : Stmt := top 57
abbrev s_call_why : Stmt := top 58
abbrev s_call_eyesenough : Stmt := top 59
abbrev s_call_allat : Stmt := top 60
abbrev s_call_rest : Stmt := top 62
abbrev s_call_sure : Stmt := top 63
abbrev s_moves_told : Stmt := top 64
abbrev s_call_longest : Stmt := top 65
abbrev s_call_soonest : Stmt := top 66
abbrev s_call_mark : Stmt := top 68
abbrev s_call_unmark : Stmt := top 69
abbrev s_call_markapart : Stmt := top 70
abbrev s_call_marks : Stmt := top 71
abbrev s_call_next : Stmt := top 74
abbrev s_call_go : Stmt := top 75
abbrev s_one_chosen : Stmt := top 76
abbrev s_call_against : Stmt := top 77
abbrev s_call_helped : Stmt := top 78
abbrev s_many_chosen : Stmt := top 79
abbrev s_call_run : Stmt := top 80
abbrev s_call_runhelped : Stmt := top 81
abbrev s_call_back : Stmt := top 82
abbrev s_call_past : Stmt := top 83
abbrev s_refused_to_set : Stmt := top 85
abbrev s_call_set : Stmt := top 86
abbrev s_call_rule : Stmt := top 87
abbrev s_gathered_by : Stmt := top 88
abbrev s_call_good : Stmt := top 89
abbrev s_call_ifset : Stmt := top 90
abbrev s_call_begin : Stmt := top 92
abbrev s_call_at : Stmt := top 93
abbrev s_call_names : Stmt := top 94
abbrev s_call_name : Stmt := top 95
abbrev s_call_place : Stmt := top 96
abbrev s_call_ring : Stmt := top 97
abbrev s_call_sees : Stmt := top 98
abbrev s_call_view : Stmt := top 99
abbrev s_call_told : Stmt := top 100
abbrev s_seen : Stmt := top 102
abbrev s_Sight_init : Stmt := inClass (top 103) 0
abbrev s_sights_of : Stmt := top 104
abbrev s_numbers_of_rings : Stmt := top 105
abbrev s_Field_init : Stmt := inClass (top 106) 0
abbrev s_Field_has_name : Stmt := inClass (top 106) 1
abbrev s_Field_has_view : Stmt := inClass (top 106) 2
abbrev s_Field_views_in : Stmt := inClass (top 106) 3
abbrev s_State_init : Stmt := inClass (top 109) 0
abbrev s_State_begin : Stmt := inClass (top 109) 1
abbrev s_State_name_now : Stmt := inClass (top 109) 2
abbrev s_State_put : Stmt := inClass (top 109) 3
abbrev s_State_come : Stmt := inClass (top 109) 4
abbrev s_State_ahead : Stmt := inClass (top 109) 5
abbrev s_State_rests : Stmt := inClass (top 109) 6
abbrev s_State_graph : Stmt := inClass (top 109) 7
abbrev s_State_moves_to_rest : Stmt := inClass (top 109) 8
abbrev s_State_moves_from_now : Stmt := inClass (top 109) 9
abbrev s_State_run : Stmt := inClass (top 109) 10
abbrev s_State_field_with : Stmt := inClass (top 109) 11
abbrev s_State_trials : Stmt := inClass (top 109) 12
abbrev s_State_trials_now : Stmt := inClass (top 109) 13
abbrev s_answerer_of : Stmt := top 113
abbrev s_answer : Stmt := top 114
abbrev s_answers : Stmt := top 115
def d_no_such : He.DefD := ⟨("no_such", none), "no_such", "no_such", defArgs s_no_such, defBody s_no_such, defScope s_no_such, [], []⟩
def d_none_to_take : He.DefD := ⟨("none_to_take", none), "none_to_take", "none_to_take", defArgs s_none_to_take, defBody s_none_to_take, defScope s_none_to_take, [], []⟩
def d_not_marked : He.DefD := ⟨("not_marked", none), "not_marked", "not_marked", defArgs s_not_marked, defBody s_not_marked, defScope s_not_marked, [], []⟩
def d_some_is_good : He.DefD := ⟨("some_is_good", none), "some_is_good", "some_is_good", defArgs s_some_is_good, defBody s_some_is_good, defScope s_some_is_good, [], []⟩
def d_not_begun : He.DefD := ⟨("not_begun", none), "not_begun", "not_begun", defArgs s_not_begun, defBody s_not_begun, defScope s_not_begun, [], []⟩
def d_may_not_come : He.DefD := ⟨("may_not_come", none), "may_not_come", "may_not_come", defArgs s_may_not_come, defBody s_may_not_come, defScope s_may_not_come, [], []⟩
def d_marked_already : He.DefD := ⟨("marked_already", none), "marked_already", "marked_already", defArgs s_marked_already, defBody s_marked_already, defScope s_marked_already, [], []⟩
def d_not_let : He.DefD := ⟨("not_let", none), "not_let", "not_let", defArgs s_not_let, defBody s_not_let, defScope s_not_let, [], []⟩
def d_too_many_rules : He.DefD := ⟨("too_many_rules", none), "too_many_rules", "too_many_rules", defArgs s_too_many_rules, defBody s_too_many_rules, defScope s_too_many_rules, [], []⟩
def d_none_may_come : He.DefD := ⟨("none_may_come", none), "none_may_come", "none_may_come", defArgs s_none_may_come, defBody s_none_may_come, defScope s_none_may_come, [], []⟩
def d_not_gathered : He.DefD := ⟨("not_gathered", none), "not_gathered", "not_gathered", defArgs s_not_gathered, defBody s_not_gathered, defScope s_not_gathered, [], []⟩
def d_none_is_good : He.DefD := ⟨("none_is_good", none), "none_is_good", "none_is_good", defArgs s_none_is_good, defBody s_none_is_good, defScope s_none_is_good, [], []⟩
def d_counted : He.DefD := ⟨("counted", none), "counted", "counted", defArgs s_counted, defBody s_counted, defScope s_counted, [], []⟩
def d_row_from : He.DefD := ⟨("row_from", none), "row_from", "row_from", defArgs s_row_from, defBody s_row_from, defScope s_row_from, [], []⟩
def d_rings_like : He.DefD := ⟨("rings_like", none), "rings_like", "rings_like", defArgs s_rings_like, defBody s_rings_like, defScope s_rings_like, [], []⟩
def d_name_of : He.DefD := ⟨("name_of", none), "name_of", "name_of", defArgs s_name_of, defBody s_name_of, defScope s_name_of, [], []⟩
def d_with_robot : He.DefD := ⟨("with_robot", none), "with_robot", "with_robot", defArgs s_with_robot, defBody s_with_robot, defScope s_with_robot, [], []⟩
def d_with_gone : He.DefD := ⟨("with_gone", none), "with_gone", "with_gone", defArgs s_with_gone, defBody s_with_gone, defScope s_with_gone, [], []⟩
def d_names_of : He.DefD := ⟨("names_of", none), "names_of", "names_of", defArgs s_names_of, defBody s_names_of, defScope s_names_of, [], []⟩
def d_is_together : He.DefD := ⟨("is_together", none), "is_together", "is_together", defArgs s_is_together, defBody s_is_together, defScope s_is_together, [], []⟩
def d_is_apart : He.DefD := ⟨("is_apart", none), "is_apart", "is_apart", defArgs s_is_apart, defBody s_is_apart, defScope s_is_apart, [], []⟩
def d_ends_of : He.DefD := ⟨("ends_of", none), "ends_of", "ends_of", defArgs s_ends_of, defBody s_ends_of, defScope s_ends_of, [], []⟩
def d_eager_in : He.DefD := ⟨("eager_in", none), "eager_in", "eager_in", defArgs s_eager_in, defBody s_eager_in, defScope s_eager_in, [], []⟩
def d_ways_of : He.DefD := ⟨("ways_of", none), "ways_of", "ways_of", defArgs s_ways_of, defBody s_ways_of, defScope s_ways_of, [], []⟩
def d_is_move : He.DefD := ⟨("is_move", none), "is_move", "is_move", defArgs s_is_move, defBody s_is_move, defScope s_is_move, [], []⟩
def d_names_ahead : He.DefD := ⟨("names_ahead", none), "names_ahead", "names_ahead", defArgs s_names_ahead, defBody s_names_ahead, defScope s_names_ahead, [], []⟩
def d_graph_by : He.DefD := ⟨("graph_by", none), "graph_by", "graph_by", defArgs s_graph_by, defBody s_graph_by, defScope s_graph_by, [], []⟩
def d_resting_in : He.DefD := ⟨("resting_in", none), "resting_in", "resting_in", defArgs s_resting_in, defBody s_resting_in, defScope s_resting_in, [], []⟩
def d_most_moves : He.DefD := ⟨("most_moves", none), "most_moves", "most_moves", defArgs s_most_moves, defBody s_most_moves, defScope s_most_moves, [], []⟩
def d_fewest_moves : He.DefD := ⟨("fewest_moves", none), "fewest_moves", "fewest_moves", defArgs s_fewest_moves, defBody s_fewest_moves, defScope s_fewest_moves, [], []⟩
def d_sure_names : He.DefD := ⟨("sure_names", none), "sure_names", "sure_names", defArgs s_sure_names, defBody s_sure_names, defScope s_sure_names, [], []⟩
def d_against_them : He.DefD := ⟨("against_them", none), "against_them", "against_them", defArgs s_against_them, defBody s_against_them, defScope s_against_them, [], []⟩
def d_helping_them : He.DefD := ⟨("helping_them", none), "helping_them", "helping_them", defArgs s_helping_them, defBody s_helping_them, defScope s_helping_them, [], []⟩
def d_ways_to_do : He.DefD := ⟨("ways_to_do", none), "ways_to_do", "ways_to_do", defArgs s_ways_to_do, defBody s_ways_to_do, defScope s_ways_to_do, [], []⟩
def d_how_many_rules : He.DefD := ⟨("how_many_rules", none), "how_many_rules", "how_many_rules", defArgs s_how_many_rules, defBody s_how_many_rules, defScope s_how_many_rules, [], []⟩
def d_rules_of : He.DefD := ⟨("rules_of", none), "rules_of", "rules_of", defArgs s_rules_of, defBody s_rules_of, defScope s_rules_of, [], []⟩
def d_Trial_init : He.DefD := ⟨("Trial", some "__init__"), "__init__", "Trial.__init__", defArgs s_Trial_init, defBody s_Trial_init, defScope s_Trial_init, [], []⟩
def d_Trial_gathered_of : He.DefD := ⟨("Trial", some "gathered_of"), "gathered_of", "Trial.gathered_of", defArgs s_Trial_gathered_of, defBody s_Trial_gathered_of, defScope s_Trial_gathered_of, [], []⟩
def d_Trial_gathers_all : He.DefD := ⟨("Trial", some "gathers_all"), "gathers_all", "Trial.gathers_all", defArgs s_Trial_gathers_all, defBody s_Trial_gathers_all, defScope s_Trial_gathers_all, [], []⟩
def d_Foresight_init : He.DefD := ⟨("Foresight", some "__init__"), "__init__", "Foresight.__init__", defArgs s_Foresight_init, defBody s_Foresight_init, defScope s_Foresight_init, [], []⟩
def d_Foresight_coming_by : He.DefD := ⟨("Foresight", some "coming_by"), "coming_by", "Foresight.coming_by", defArgs s_Foresight_coming_by, defBody s_Foresight_coming_by, defScope s_Foresight_coming_by, [], []⟩
def d_Foresight_graph_foreseen : He.DefD := ⟨("Foresight", some "graph_foreseen"), "graph_foreseen", "Foresight.graph_foreseen", defArgs s_Foresight_graph_foreseen, defBody s_Foresight_graph_foreseen, defScope s_Foresight_graph_foreseen, [], []⟩
def d_trials_of : He.DefD := ⟨("trials_of", none), "trials_of", "trials_of", defArgs s_trials_of, defBody s_trials_of, defScope s_trials_of, [], []⟩
def d_how_many_good : He.DefD := ⟨("how_many_good", none), "how_many_good", "how_many_good", defArgs s_how_many_good, defBody s_how_many_good, defScope s_how_many_good, [], []⟩
def d_first_of : He.DefD := ⟨("first_of", none), "first_of", "first_of", defArgs s_first_of, defBody s_first_of, defScope s_first_of, [], []⟩
def d_first_good : He.DefD := ⟨("first_good", none), "first_good", "first_good", defArgs s_first_good, defBody s_first_good, defScope s_first_good, [], []⟩
def d_most_gathered : He.DefD := ⟨("most_gathered", none), "most_gathered", "most_gathered", defArgs s_most_gathered, defBody s_most_gathered, defScope s_most_gathered, [], []⟩
def d_first_that_gathers : He.DefD := ⟨("first_that_gathers", none), "first_that_gathers", "first_that_gathers", defArgs s_first_that_gathers, defBody s_first_that_gathers, defScope s_first_that_gathers, [], []⟩
def d_groups_of : He.DefD := ⟨("groups_of", none), "groups_of", "groups_of", defArgs s_groups_of, defBody s_groups_of, defScope s_groups_of, [], []⟩
def d_fewest_hopeless : He.DefD := ⟨("fewest_hopeless", none), "fewest_hopeless", "fewest_hopeless", defArgs s_fewest_hopeless, defBody s_fewest_hopeless, defScope s_fewest_hopeless, [], []⟩
def d_is_too_many : He.DefD := ⟨("is_too_many", none), "is_too_many", "is_too_many", defArgs s_is_too_many, defBody s_is_too_many, defScope s_is_too_many, [], []⟩
def d_call_found : He.DefD := ⟨("call_found", none), "call_found", "call_found", defArgs s_call_found, defBody s_call_found, defScope s_call_found, [], []⟩
def d_call_take : He.DefD := ⟨("call_take", none), "call_take", "call_take", defArgs s_call_take, defBody s_call_take, defScope s_call_take, [], []⟩
def d_call_best : He.DefD := ⟨("call_best", none), "call_best", "call_best", defArgs s_call_best, defBody s_call_best, defScope s_call_best, [], []⟩
def d_call_why : He.DefD := ⟨("call_why", none), "call_why", "call_why", defArgs s_call_why, defBody s_call_why, defScope s_call_why, [], []⟩
def d_call_eyesenough : He.DefD := ⟨("call_eyesenough", none), "call_eyesenough", "call_eyesenough", defArgs s_call_eyesenough, defBody s_call_eyesenough, defScope s_call_eyesenough, [], []⟩
def d_call_allat : He.DefD := ⟨("call_allat", none), "call_allat", "call_allat", defArgs s_call_allat, defBody s_call_allat, defScope s_call_allat, [], []⟩
def d_call_rest : He.DefD := ⟨("call_rest", none), "call_rest", "call_rest", defArgs s_call_rest, defBody s_call_rest, defScope s_call_rest, [], []⟩
def d_call_sure : He.DefD := ⟨("call_sure", none), "call_sure", "call_sure", defArgs s_call_sure, defBody s_call_sure, defScope s_call_sure, [], []⟩
def d_moves_told : He.DefD := ⟨("moves_told", none), "moves_told", "moves_told", defArgs s_moves_told, defBody s_moves_told, defScope s_moves_told, [], []⟩
def d_call_longest : He.DefD := ⟨("call_longest", none), "call_longest", "call_longest", defArgs s_call_longest, defBody s_call_longest, defScope s_call_longest, [], []⟩
def d_call_soonest : He.DefD := ⟨("call_soonest", none), "call_soonest", "call_soonest", defArgs s_call_soonest, defBody s_call_soonest, defScope s_call_soonest, [], []⟩
def d_call_mark : He.DefD := ⟨("call_mark", none), "call_mark", "call_mark", defArgs s_call_mark, defBody s_call_mark, defScope s_call_mark, [], []⟩
def d_call_unmark : He.DefD := ⟨("call_unmark", none), "call_unmark", "call_unmark", defArgs s_call_unmark, defBody s_call_unmark, defScope s_call_unmark, [], []⟩
def d_call_markapart : He.DefD := ⟨("call_markapart", none), "call_markapart", "call_markapart", defArgs s_call_markapart, defBody s_call_markapart, defScope s_call_markapart, [], []⟩
def d_call_marks : He.DefD := ⟨("call_marks", none), "call_marks", "call_marks", defArgs s_call_marks, defBody s_call_marks, defScope s_call_marks, [], []⟩
def d_call_next : He.DefD := ⟨("call_next", none), "call_next", "call_next", defArgs s_call_next, defBody s_call_next, defScope s_call_next, [], []⟩
def d_call_go : He.DefD := ⟨("call_go", none), "call_go", "call_go", defArgs s_call_go, defBody s_call_go, defScope s_call_go, [], []⟩
def d_one_chosen : He.DefD := ⟨("one_chosen", none), "one_chosen", "one_chosen", defArgs s_one_chosen, defBody s_one_chosen, defScope s_one_chosen, [], []⟩
def d_call_against : He.DefD := ⟨("call_against", none), "call_against", "call_against", defArgs s_call_against, defBody s_call_against, defScope s_call_against, [], []⟩
def d_call_helped : He.DefD := ⟨("call_helped", none), "call_helped", "call_helped", defArgs s_call_helped, defBody s_call_helped, defScope s_call_helped, [], []⟩
def d_many_chosen : He.DefD := ⟨("many_chosen", none), "many_chosen", "many_chosen", defArgs s_many_chosen, defBody s_many_chosen, defScope s_many_chosen, [], []⟩
def d_call_run : He.DefD := ⟨("call_run", none), "call_run", "call_run", defArgs s_call_run, defBody s_call_run, defScope s_call_run, [], []⟩
def d_call_runhelped : He.DefD := ⟨("call_runhelped", none), "call_runhelped", "call_runhelped", defArgs s_call_runhelped, defBody s_call_runhelped, defScope s_call_runhelped, [], []⟩
def d_call_back : He.DefD := ⟨("call_back", none), "call_back", "call_back", defArgs s_call_back, defBody s_call_back, defScope s_call_back, [], []⟩
def d_call_past : He.DefD := ⟨("call_past", none), "call_past", "call_past", defArgs s_call_past, defBody s_call_past, defScope s_call_past, [], []⟩
def d_refused_to_set : He.DefD := ⟨("refused_to_set", none), "refused_to_set", "refused_to_set", defArgs s_refused_to_set, defBody s_refused_to_set, defScope s_refused_to_set, [], []⟩
def d_call_set : He.DefD := ⟨("call_set", none), "call_set", "call_set", defArgs s_call_set, defBody s_call_set, defScope s_call_set, [], []⟩
def d_call_rule : He.DefD := ⟨("call_rule", none), "call_rule", "call_rule", defArgs s_call_rule, defBody s_call_rule, defScope s_call_rule, [], []⟩
def d_gathered_by : He.DefD := ⟨("gathered_by", none), "gathered_by", "gathered_by", defArgs s_gathered_by, defBody s_gathered_by, defScope s_gathered_by, [], []⟩
def d_call_good : He.DefD := ⟨("call_good", none), "call_good", "call_good", defArgs s_call_good, defBody s_call_good, defScope s_call_good, [], []⟩
def d_call_ifset : He.DefD := ⟨("call_ifset", none), "call_ifset", "call_ifset", defArgs s_call_ifset, defBody s_call_ifset, defScope s_call_ifset, [], []⟩
def d_call_begin : He.DefD := ⟨("call_begin", none), "call_begin", "call_begin", defArgs s_call_begin, defBody s_call_begin, defScope s_call_begin, [], []⟩
def d_call_at : He.DefD := ⟨("call_at", none), "call_at", "call_at", defArgs s_call_at, defBody s_call_at, defScope s_call_at, [], []⟩
def d_call_names : He.DefD := ⟨("call_names", none), "call_names", "call_names", defArgs s_call_names, defBody s_call_names, defScope s_call_names, [], []⟩
def d_call_name : He.DefD := ⟨("call_name", none), "call_name", "call_name", defArgs s_call_name, defBody s_call_name, defScope s_call_name, [], []⟩
def d_call_place : He.DefD := ⟨("call_place", none), "call_place", "call_place", defArgs s_call_place, defBody s_call_place, defScope s_call_place, [], []⟩
def d_call_ring : He.DefD := ⟨("call_ring", none), "call_ring", "call_ring", defArgs s_call_ring, defBody s_call_ring, defScope s_call_ring, [], []⟩
def d_call_sees : He.DefD := ⟨("call_sees", none), "call_sees", "call_sees", defArgs s_call_sees, defBody s_call_sees, defScope s_call_sees, [], []⟩
def d_call_view : He.DefD := ⟨("call_view", none), "call_view", "call_view", defArgs s_call_view, defBody s_call_view, defScope s_call_view, [], []⟩
def d_call_told : He.DefD := ⟨("call_told", none), "call_told", "call_told", defArgs s_call_told, defBody s_call_told, defScope s_call_told, [], []⟩
def d_seen : He.DefD := ⟨("seen", none), "seen", "seen", defArgs s_seen, defBody s_seen, defScope s_seen, [], []⟩
def d_Sight_init : He.DefD := ⟨("Sight", some "__init__"), "__init__", "Sight.__init__", defArgs s_Sight_init, defBody s_Sight_init, defScope s_Sight_init, [], []⟩
def d_sights_of : He.DefD := ⟨("sights_of", none), "sights_of", "sights_of", defArgs s_sights_of, defBody s_sights_of, defScope s_sights_of, [], []⟩
def d_numbers_of_rings : He.DefD := ⟨("numbers_of_rings", none), "numbers_of_rings", "numbers_of_rings", defArgs s_numbers_of_rings, defBody s_numbers_of_rings, defScope s_numbers_of_rings, [], []⟩
def d_Field_init : He.DefD := ⟨("Field", some "__init__"), "__init__", "Field.__init__", defArgs s_Field_init, defBody s_Field_init, defScope s_Field_init, [], []⟩
def d_Field_has_name : He.DefD := ⟨("Field", some "has_name"), "has_name", "Field.has_name", defArgs s_Field_has_name, defBody s_Field_has_name, defScope s_Field_has_name, [], []⟩
def d_Field_has_view : He.DefD := ⟨("Field", some "has_view"), "has_view", "Field.has_view", defArgs s_Field_has_view, defBody s_Field_has_view, defScope s_Field_has_view, [], []⟩
def d_Field_views_in : He.DefD := ⟨("Field", some "views_in"), "views_in", "Field.views_in", defArgs s_Field_views_in, defBody s_Field_views_in, defScope s_Field_views_in, [], []⟩
def d_State_init : He.DefD := ⟨("State", some "__init__"), "__init__", "State.__init__", defArgs s_State_init, defBody s_State_init, defScope s_State_init, [], []⟩
def d_State_begin : He.DefD := ⟨("State", some "begin"), "begin", "State.begin", defArgs s_State_begin, defBody s_State_begin, defScope s_State_begin, [], []⟩
def d_State_name_now : He.DefD := ⟨("State", some "name_now"), "name_now", "State.name_now", defArgs s_State_name_now, defBody s_State_name_now, defScope s_State_name_now, [], []⟩
def d_State_put : He.DefD := ⟨("State", some "put"), "put", "State.put", defArgs s_State_put, defBody s_State_put, defScope s_State_put, [], []⟩
def d_State_come : He.DefD := ⟨("State", some "come"), "come", "State.come", defArgs s_State_come, defBody s_State_come, defScope s_State_come, [], []⟩
def d_State_ahead : He.DefD := ⟨("State", some "ahead"), "ahead", "State.ahead", defArgs s_State_ahead, defBody s_State_ahead, defScope s_State_ahead, [], []⟩
def d_State_rests : He.DefD := ⟨("State", some "rests"), "rests", "State.rests", defArgs s_State_rests, defBody s_State_rests, defScope s_State_rests, [], []⟩
def d_State_graph : He.DefD := ⟨("State", some "graph"), "graph", "State.graph", defArgs s_State_graph, defBody s_State_graph, defScope s_State_graph, [], []⟩
def d_State_moves_to_rest : He.DefD := ⟨("State", some "moves_to_rest"), "moves_to_rest", "State.moves_to_rest", defArgs s_State_moves_to_rest, defBody s_State_moves_to_rest, defScope s_State_moves_to_rest, [], []⟩
def d_State_moves_from_now : He.DefD := ⟨("State", some "moves_from_now"), "moves_from_now", "State.moves_from_now", defArgs s_State_moves_from_now, defBody s_State_moves_from_now, defScope s_State_moves_from_now, [], []⟩
def d_State_run : He.DefD := ⟨("State", some "run"), "run", "State.run", defArgs s_State_run, defBody s_State_run, defScope s_State_run, [], []⟩
def d_State_field_with : He.DefD := ⟨("State", some "field_with"), "field_with", "State.field_with", defArgs s_State_field_with, defBody s_State_field_with, defScope s_State_field_with, [], []⟩
def d_State_trials : He.DefD := ⟨("State", some "trials"), "trials", "State.trials", defArgs s_State_trials, defBody s_State_trials, defScope s_State_trials, [], []⟩
def d_State_trials_now : He.DefD := ⟨("State", some "trials_now"), "trials_now", "State.trials_now", defArgs s_State_trials_now, defBody s_State_trials_now, defScope s_State_trials_now, [], []⟩
def d_answerer_of : He.DefD := ⟨("answerer_of", none), "answerer_of", "answerer_of", defArgs s_answerer_of, defBody s_answerer_of, defScope s_answerer_of, [], []⟩
def d_answer : He.DefD := ⟨("answer", none), "answer", "answer", defArgs s_answer, defBody s_answer, defScope s_answer, [], []⟩
def d_answers : He.DefD := ⟨("answers", none), "answers", "answers", defArgs s_answers, defBody s_answers, defScope s_answers, [], []⟩
def fn0 : List He.DefD := [d_no_such, d_none_to_take, d_not_marked, d_some_is_good, d_not_begun, d_may_not_come, d_marked_already, d_not_let, d_too_many_rules, d_none_may_come, d_not_gathered, d_none_is_good, d_counted, d_row_from, d_rings_like, d_name_of, d_with_robot, d_with_gone, d_names_of, d_is_together, d_is_apart, d_ends_of, d_eager_in, d_ways_of, d_is_move, d_names_ahead, d_graph_by, d_resting_in, d_most_moves, d_fewest_moves]
def fn1 : List He.DefD := [d_sure_names, d_against_them, d_helping_them, d_ways_to_do, d_how_many_rules, d_rules_of, d_Trial_init, d_Trial_gathered_of, d_Trial_gathers_all, d_Foresight_init, d_Foresight_coming_by, d_Foresight_graph_foreseen, d_trials_of, d_how_many_good, d_first_of, d_first_good, d_most_gathered, d_first_that_gathers, d_groups_of, d_fewest_hopeless, d_is_too_many, d_call_found, d_call_take, d_call_best, d_call_why, d_call_eyesenough, d_call_allat, d_call_rest, d_call_sure, d_moves_told]
def fn2 : List He.DefD := [d_call_longest, d_call_soonest, d_call_mark, d_call_unmark, d_call_markapart, d_call_marks, d_call_next, d_call_go, d_one_chosen, d_call_against, d_call_helped, d_many_chosen, d_call_run, d_call_runhelped, d_call_back, d_call_past, d_refused_to_set, d_call_set, d_call_rule, d_gathered_by, d_call_good, d_call_ifset, d_call_begin, d_call_at, d_call_names, d_call_name, d_call_place, d_call_ring, d_call_sees, d_call_view]
def fn3 : List He.DefD := [d_call_told, d_seen, d_Sight_init, d_sights_of, d_numbers_of_rings, d_Field_init, d_Field_has_name, d_Field_has_view, d_Field_views_in, d_State_init, d_State_begin, d_State_name_now, d_State_put, d_State_come, d_State_ahead, d_State_rests, d_State_graph, d_State_moves_to_rest, d_State_moves_from_now, d_State_run, d_State_field_with, d_State_trials, d_State_trials_now, d_answerer_of, d_answer, d_answers]
def fn : List He.DefD := fn0 ++ (fn1 ++ (fn2 ++ (fn3)))
def fa0 : List He.Fa := [.glo "no_such", .glo "none_to_take", .glo "not_marked", .glo "some_is_good", .glo "not_begun", .glo "may_not_come", .glo "marked_already", .glo "not_let", .glo "too_many_rules", .glo "none_may_come", .glo "not_gathered", .glo "none_is_good", .glo "counted", .glo "row_from", .glo "rings_like", .glo "name_of", .glo "with_robot", .glo "with_gone", .glo "names_of", .glo "is_together", .glo "is_apart", .glo "ends_of", .glo "eager_in", .glo "ways_of", .glo "is_move", .glo "names_ahead", .glo "graph_by", .glo "resting_in", .glo "most_moves", .glo "fewest_moves"]
def fa1 : List He.Fa := [.glo "sure_names", .glo "against_them", .glo "helping_them", .glo "ways_to_do", .glo "how_many_rules", .glo "rules_of", .glo "trials_of", .glo "how_many_good", .glo "first_of", .glo "first_good", .glo "most_gathered", .glo "first_that_gathers", .glo "groups_of", .glo "fewest_hopeless", .glo "is_too_many", .glo "call_found", .glo "call_take", .glo "call_best", .glo "call_why", .glo "call_eyesenough", .glo "call_allat", .glo "call_rest", .glo "call_sure", .glo "moves_told", .glo "call_longest", .glo "call_soonest", .glo "call_mark", .glo "call_unmark", .glo "call_markapart", .glo "call_marks"]
def fa2 : List He.Fa := [.glo "call_next", .glo "call_go", .glo "one_chosen", .glo "call_against", .glo "call_helped", .glo "many_chosen", .glo "call_run", .glo "call_runhelped", .glo "call_back", .glo "call_past", .glo "refused_to_set", .glo "call_set", .glo "call_rule", .glo "gathered_by", .glo "call_good", .glo "call_ifset", .glo "call_begin", .glo "call_at", .glo "call_names", .glo "call_name", .glo "call_place", .glo "call_ring", .glo "call_sees", .glo "call_view", .glo "call_told", .glo "seen", .glo "sights_of", .glo "numbers_of_rings", .glo "answerer_of", .glo "answer"]
def fa3 : List He.Fa := [.glo "answers", .glo "Trial", .glo "Foresight", .glo "Sight", .glo "Field", .glo "State", .glo "ARGUMENTS", .free "len", .free "min", .free "max", .free "sorted", .free "sum", .free "list", .free "tuple", .free "range", .free "enumerate", .free "zip", .free "any", .free "all", .int "MOST_RULES" 6000, .int "MOST_RUN" 60, .int "MOST_KEPT" 60, .int "BEGIN" 0, .cls "Trial", .mkr "Trial", .noat "Trial" "sure", .noat "Trial" "first", .noat "Trial" "rules", .meth "Trial" "gathered_of", .meth "Trial" "gathers_all"]
def fa4 : List He.Fa := [.cls "Foresight", .mkr "Foresight", .noat "Foresight" "field", .noat "Foresight" "moves", .noat "Foresight" "views_had", .noat "Foresight" "foreseen", .meth "Foresight" "coming_by", .meth "Foresight" "graph_foreseen", .cls "Sight", .mkr "Sight", .noat "Sight" "place", .noat "Sight" "lesser", .noat "Sight" "even", .noat "Sight" "way", .cls "Field", .mkr "Field", .noat "Field" "places", .noat "Field" "eyes", .noat "Field" "robots", .noat "Field" "names", .noat "Field" "name_numbers", .noat "Field" "sights", .noat "Field" "views", .noat "Field" "evens", .noat "Field" "view_numbers", .meth "Field" "has_name", .meth "Field" "has_view", .meth "Field" "views_in", .cls "State", .mkr "State"]
def fa5 : List He.Fa := [.noat "State" "field", .noat "State" "moves", .noat "State" "rule", .noat "State" "marked", .noat "State" "past", .noat "State" "tried", .meth "State" "begin", .meth "State" "name_now", .meth "State" "put", .meth "State" "come", .meth "State" "ahead", .meth "State" "rests", .meth "State" "graph", .meth "State" "moves_to_rest", .meth "State" "moves_from_now", .meth "State" "run", .meth "State" "field_with", .meth "State" "trials", .meth "State" "trials_now"]
def fa : List He.Fa := fa0 ++ (fa1 ++ (fa2 ++ (fa3 ++ (fa4 ++ (fa5)))))
def names0 : List PySem.Str := ["no_such", "none_to_take", "not_marked", "some_is_good", "not_begun", "may_not_come", "marked_already", "not_let", "too_many_rules", "none_may_come", "not_gathered", "none_is_good", "counted", "row_from", "rings_like", "name_of", "with_robot", "with_gone", "names_of", "is_together", "is_apart", "ends_of", "eager_in", "ways_of", "is_move", "names_ahead", "graph_by", "resting_in", "most_moves", "fewest_moves"]
def names1 : List PySem.Str := ["sure_names", "against_them", "helping_them", "ways_to_do", "how_many_rules", "rules_of", "trials_of", "how_many_good", "first_of", "first_good", "most_gathered", "first_that_gathers", "groups_of", "fewest_hopeless", "is_too_many", "call_found", "call_take", "call_best", "call_why", "call_eyesenough", "call_allat", "call_rest", "call_sure", "moves_told", "call_longest", "call_soonest", "call_mark", "call_unmark", "call_markapart", "call_marks"]
def names2 : List PySem.Str := ["call_next", "call_go", "one_chosen", "call_against", "call_helped", "many_chosen", "call_run", "call_runhelped", "call_back", "call_past", "refused_to_set", "call_set", "call_rule", "gathered_by", "call_good", "call_ifset", "call_begin", "call_at", "call_names", "call_name", "call_place", "call_ring", "call_sees", "call_view", "call_told", "seen", "sights_of", "numbers_of_rings", "answerer_of", "answer"]
def names3 : List PySem.Str := ["Trial", "Foresight", "Sight", "Field", "State", "MOST_RULES", "MOST_RUN", "MOST_KEPT", "BEGIN", "ARGUMENTS"]
def names : List PySem.Str := names0 ++ (names1 ++ (names2 ++ (names3)))

abbrev Rr : PySem.W.OpenSpec := PySem.Challenge.rw_ringgather_s01_answers
abbrev qv : Program := PySem.W.view Rr.prog [115]
def argsN : List He.Dv := [4, 1, 0, 1, 1, 0, 0, 1, 2, 0, 0, 1, 0, 0, 1, 1, 0, 0, 0, 0, 0, 0, 1, 1, 0, 0, 0, 2, 0, 0, 0, 0, 0, 0, 0].map He.Dv.int
def exB (K : PySem.W.Frag) : Bool := He.tupB K "ARGUMENTS" argsN
def tf : List He.Defn := [("against_them", none), ("helping_them", none)]
/-! ### what of the heap is looked at: the module's names, the code of its defs, its classes' own dicts, their defs and these defs' code -/
def stepFn (g : Addr → Option Obj) (a : Addr) : List Addr := match g a with
  | some o => (match o.data with
    | .func fd => He.refV fd.code
    | .cls cd => [cd.ns]
    | _ => [])
  | none => []
def stepNs (g : Addr → Option Obj) (a : Addr) : List Addr := match g a with
  | some o => (match o.data with
    | .dict es _ => es.toList.flatMap fun e => He.refV e.val
    | _ => [])
  | none => []
def asM (g : Addr → Option Obj) : List Addr :=
  let l1 := stepNs g mainGlobals
  let l2 := l1.flatMap (stepFn g)
  let l3 := l2.flatMap (stepNs g)
  let l4 := l3.flatMap (stepFn g)
  mainGlobals :: (l1 ++ (l2 ++ (l3 ++ l4)))
abbrev kM (g : Addr → Option Obj) : PySem.W.Frag := He.frT g (asM g)
structure SaysM (h : Heap) (K : PySem.W.Frag) : Prop where
  d : He.SaysD fa fn K
  ex : exB K = true
  tb : ∀ p ∈ tf, PySem.W.codeHdIn K (He.cT K p).1 (He.cT K p).2 = true ∧ K.lookup (He.cT K p).2 = none ∧ h.get? (He.cT K p).2 = some { cls := .none, data := .fields #[] }
abbrev AlM : Type := He.AlD × Bool
def obsM (g : Addr → Option Obj) : AlM := (He.obsD fa fn (kM g), exB (kM g) && He.tabsB g tf (kM g))
theorem saysM_of {h : Heap} (e : obsM h.get? = (He.valD fn, true)) : SaysM h (kM h.get?) := by
  have e1 : He.obsD fa fn (kM h.get?) = He.valD fn := congrArg Prod.fst e
  have e2 : (exB (kM h.get?) && He.tabsB h.get? tf (kM h.get?)) = true := congrArg Prod.snd e
  rw [Bool.and_eq_true] at e2
  refine ⟨e1, e2.1, fun p hp => ?_⟩
  have e3 := List.all_eq_true.mp e2.2 p hp
  rw [Bool.and_eq_true] at e3
  obtain ⟨a1, a2⟩ := e3
  cases q : h.get? (He.cT (kM h.get?) p).2 with
  | none => rw [q] at a2; cases a2
  | some o =>
    rw [q] at a2
    refine ⟨a1, He.frT_none q a2, ?_⟩
    rw [He.emptyTab_eq a2]
def hk : PySem.W.Hook where
  α := AlM
  obs := fun s => obsM s.heap.get?
  val := fun _ => (He.valD fn, true)
  says := fun _ h => ∃ K : PySem.W.Frag, K.In h ∧ SaysM h K
  of := fun _ _ e => ⟨_, He.frT_in, saysM_of e⟩
  keeps := fun _ _ _ ⟨K, hK, c⟩ k => ⟨K, PySem.W.Frag.In.keeps hK k, ⟨c.d, c.ex, fun p hp => ⟨(c.tb p hp).1, (c.tb p hp).2.1, k _ _ (c.tb p hp).2.2⟩⟩⟩
def ob (s : PySem.W.SharedT) : AlM := obsM (HandSHeadRun.getT s)
theorem ob_eq (s : PySem.W.SharedT) : ob s = hk.obs s.abs := by
  have e : HandSHeadRun.getT s = s.abs.heap.get? := funext (HandSHeadRun.getT_eq s)
  show obsM (HandSHeadRun.getT s) = obsM s.abs.heap.get?
  rw [e]

/-! ### the facts, by name -/
/-- what the top has left, as far as it is looked at -/
def Txt (K : PySem.W.Frag) (mg : Str → Option Value) : Prop := ∃ h : Heap, K.In h ∧ h.Ns mainGlobals mg ∧ SaysM h K
def DefF (K : PySem.W.Frag) (mg : Str → Option Value) (x : Str) (st : Stmt) (f : Addr) (fd : FuncData) : Prop :=
  mg x = some (.ref f) ∧ FunD K x x (defArgs st) (defBody st) (defScope st) [] [] f fd
def MethF (K : PySem.W.Frag) (c : Str) (m qual : Str) (st : Stmt) (f : Addr) (fd : FuncData) : Prop :=
  Meth K (He.ga K c) m f ∧ FunD K m qual (defArgs st) (defBody st) (defScope st) [] [] f fd
def InitF (K : PySem.W.Frag) (c : Str) (qual : Str) (st : Stmt) (f : Addr) (fd : FuncData) : Prop :=
  Mk K (He.ga K c) f ∧ FunD K "__init__" qual (defArgs st) (defBody st) (defScope st) [] [] f fd
section
variable {K : PySem.W.Frag} {mg : Str → Option Value}
theorem Txt.fact (T : Txt K mg) (i : Nat) {f : He.Fa} (e : fa[i]? = some f := by rfl) : f.ok K = true := by
  obtain ⟨h, _, _, c⟩ := T
  exact c.d.fact i e
theorem Txt.glo (T : Txt K mg) {x : Str} (c : (He.Fa.glo x).ok K = true) : mg x = some (.ref (He.ga K x)) := by
  obtain ⟨h, X, G, _⟩ := T
  exact He.glo_ok X G c
theorem Txt.free (T : Txt K mg) {x : Str} (c : (He.Fa.free x).ok K = true) : mg x = none := by
  obtain ⟨h, X, G, _⟩ := T
  exact He.free_ok X G c
theorem Txt.int (T : Txt K mg) {x : Str} {i : Int} (c : (He.Fa.int x i).ok K = true) : ∃ t, mg x = some (.int i t) := by
  obtain ⟨h, X, G, _⟩ := T
  exact He.int_ok X G c
theorem Txt.defF (T : Txt K mg) {x : Str} {st : Stmt} (i j : Nat) (e1 : fn[i]? = some (⟨(x, none), x, x, defArgs st, defBody st, defScope st, [], []⟩ : He.DefD)) (e2 : fa[j]? = some (.glo x)) : ∃ f fd, DefF K mg x st f fd := by
  have g := T.glo (T.fact j e2)
  obtain ⟨h, X, G, c⟩ := T
  obtain ⟨fd, F⟩ := c.d.def_ i e1
  exact ⟨_, fd, g, F⟩
theorem Txt.methF (T : Txt K mg) {c m qual : Str} {st : Stmt} (i j : Nat) (e1 : fn[i]? = some (⟨(c, some m), m, qual, defArgs st, defBody st, defScope st, [], []⟩ : He.DefD)) (e2 : fa[j]? = some (.meth c m)) : ∃ f fd, MethF K c m qual st f fd := by
  have g := He.meth_ok (T.fact j e2)
  obtain ⟨h, X, G, s⟩ := T
  obtain ⟨fd, F⟩ := s.d.def_ i e1
  exact ⟨_, fd, g, F⟩
theorem Txt.initF (T : Txt K mg) {c qual : Str} {st : Stmt} (i j : Nat) (e1 : fn[i]? = some (⟨(c, some "__init__"), "__init__", qual, defArgs st, defBody st, defScope st, [], []⟩ : He.DefD)) (e2 : fa[j]? = some (.mkr c)) : ∃ f fd, InitF K c qual st f fd := by
  have g := He.mkr_ok (T.fact j e2)
  obtain ⟨h, X, G, s⟩ := T
  obtain ⟨fd, F⟩ := s.d.def_ i e1
  exact ⟨_, fd, g, F⟩

theorem F_no_such (T : Txt K mg) : ∃ f fd, DefF K mg "no_such" s_no_such f fd := T.defF 0 0 rfl rfl
theorem F_none_to_take (T : Txt K mg) : ∃ f fd, DefF K mg "none_to_take" s_none_to_take f fd := T.defF 1 1 rfl rfl
theorem F_not_marked (T : Txt K mg) : ∃ f fd, DefF K mg "not_marked" s_not_marked f fd := T.defF 2 2 rfl rfl
theorem F_some_is_good (T : Txt K mg) : ∃ f fd, DefF K mg "some_is_good" s_some_is_good f fd := T.defF 3 3 rfl rfl
theorem F_not_begun (T : Txt K mg) : ∃ f fd, DefF K mg "not_begun" s_not_begun f fd := T.defF 4 4 rfl rfl
theorem F_may_not_come (T : Txt K mg) : ∃ f fd, DefF K mg "may_not_come" s_may_not_come f fd := T.defF 5 5 rfl rfl
theorem F_marked_already (T : Txt K mg) : ∃ f fd, DefF K mg "marked_already" s_marked_already f fd := T.defF 6 6 rfl rfl
theorem F_not_let (T : Txt K mg) : ∃ f fd, DefF K mg "not_let" s_not_let f fd := T.defF 7 7 rfl rfl
theorem F_too_many_rules (T : Txt K mg) : ∃ f fd, DefF K mg "too_many_rules" s_too_many_rules f fd := T.defF 8 8 rfl rfl
theorem F_none_may_come (T : Txt K mg) : ∃ f fd, DefF K mg "none_may_come" s_none_may_come f fd := T.defF 9 9 rfl rfl
theorem F_not_gathered (T : Txt K mg) : ∃ f fd, DefF K mg "not_gathered" s_not_gathered f fd := T.defF 10 10 rfl rfl
theorem F_none_is_good (T : Txt K mg) : ∃ f fd, DefF K mg "none_is_good" s_none_is_good f fd := T.defF 11 11 rfl rfl
theorem F_counted (T : Txt K mg) : ∃ f fd, DefF K mg "counted" s_counted f fd := T.defF 12 12 rfl rfl
theorem F_row_from (T : Txt K mg) : ∃ f fd, DefF K mg "row_from" s_row_from f fd := T.defF 13 13 rfl rfl
theorem F_rings_like (T : Txt K mg) : ∃ f fd, DefF K mg "rings_like" s_rings_like f fd := T.defF 14 14 rfl rfl
theorem F_name_of (T : Txt K mg) : ∃ f fd, DefF K mg "name_of" s_name_of f fd := T.defF 15 15 rfl rfl
theorem F_with_robot (T : Txt K mg) : ∃ f fd, DefF K mg "with_robot" s_with_robot f fd := T.defF 16 16 rfl rfl
theorem F_with_gone (T : Txt K mg) : ∃ f fd, DefF K mg "with_gone" s_with_gone f fd := T.defF 17 17 rfl rfl
theorem F_names_of (T : Txt K mg) : ∃ f fd, DefF K mg "names_of" s_names_of f fd := T.defF 18 18 rfl rfl
theorem F_is_together (T : Txt K mg) : ∃ f fd, DefF K mg "is_together" s_is_together f fd := T.defF 19 19 rfl rfl
theorem F_is_apart (T : Txt K mg) : ∃ f fd, DefF K mg "is_apart" s_is_apart f fd := T.defF 20 20 rfl rfl
theorem F_ends_of (T : Txt K mg) : ∃ f fd, DefF K mg "ends_of" s_ends_of f fd := T.defF 21 21 rfl rfl
theorem F_eager_in (T : Txt K mg) : ∃ f fd, DefF K mg "eager_in" s_eager_in f fd := T.defF 22 22 rfl rfl
theorem F_ways_of (T : Txt K mg) : ∃ f fd, DefF K mg "ways_of" s_ways_of f fd := T.defF 23 23 rfl rfl
theorem F_is_move (T : Txt K mg) : ∃ f fd, DefF K mg "is_move" s_is_move f fd := T.defF 24 24 rfl rfl
theorem F_names_ahead (T : Txt K mg) : ∃ f fd, DefF K mg "names_ahead" s_names_ahead f fd := T.defF 25 25 rfl rfl
theorem F_graph_by (T : Txt K mg) : ∃ f fd, DefF K mg "graph_by" s_graph_by f fd := T.defF 26 26 rfl rfl
theorem F_resting_in (T : Txt K mg) : ∃ f fd, DefF K mg "resting_in" s_resting_in f fd := T.defF 27 27 rfl rfl
theorem F_most_moves (T : Txt K mg) : ∃ f fd, DefF K mg "most_moves" s_most_moves f fd := T.defF 28 28 rfl rfl
theorem F_fewest_moves (T : Txt K mg) : ∃ f fd, DefF K mg "fewest_moves" s_fewest_moves f fd := T.defF 29 29 rfl rfl
theorem F_sure_names (T : Txt K mg) : ∃ f fd, DefF K mg "sure_names" s_sure_names f fd := T.defF 30 30 rfl rfl
theorem F_against_them (T : Txt K mg) : ∃ f fd, DefF K mg "against_them" s_against_them f fd := T.defF 31 31 rfl rfl
theorem F_helping_them (T : Txt K mg) : ∃ f fd, DefF K mg "helping_them" s_helping_them f fd := T.defF 32 32 rfl rfl
theorem F_ways_to_do (T : Txt K mg) : ∃ f fd, DefF K mg "ways_to_do" s_ways_to_do f fd := T.defF 33 33 rfl rfl
theorem F_how_many_rules (T : Txt K mg) : ∃ f fd, DefF K mg "how_many_rules" s_how_many_rules f fd := T.defF 34 34 rfl rfl
theorem F_rules_of (T : Txt K mg) : ∃ f fd, DefF K mg "rules_of" s_rules_of f fd := T.defF 35 35 rfl rfl
theorem F_Trial_init (T : Txt K mg) : ∃ f fd, InitF K "Trial" "Trial.__init__" s_Trial_init f fd := T.initF 36 114 rfl rfl
theorem F_Trial_gathered_of (T : Txt K mg) : ∃ f fd, MethF K "Trial" "gathered_of" "Trial.gathered_of" s_Trial_gathered_of f fd := T.methF 37 118 rfl rfl
theorem F_Trial_gathers_all (T : Txt K mg) : ∃ f fd, MethF K "Trial" "gathers_all" "Trial.gathers_all" s_Trial_gathers_all f fd := T.methF 38 119 rfl rfl
theorem F_Foresight_init (T : Txt K mg) : ∃ f fd, InitF K "Foresight" "Foresight.__init__" s_Foresight_init f fd := T.initF 39 121 rfl rfl
theorem F_Foresight_coming_by (T : Txt K mg) : ∃ f fd, MethF K "Foresight" "coming_by" "Foresight.coming_by" s_Foresight_coming_by f fd := T.methF 40 126 rfl rfl
theorem F_Foresight_graph_foreseen (T : Txt K mg) : ∃ f fd, MethF K "Foresight" "graph_foreseen" "Foresight.graph_foreseen" s_Foresight_graph_foreseen f fd := T.methF 41 127 rfl rfl
theorem F_trials_of (T : Txt K mg) : ∃ f fd, DefF K mg "trials_of" s_trials_of f fd := T.defF 42 36 rfl rfl
theorem F_how_many_good (T : Txt K mg) : ∃ f fd, DefF K mg "how_many_good" s_how_many_good f fd := T.defF 43 37 rfl rfl
theorem F_first_of (T : Txt K mg) : ∃ f fd, DefF K mg "first_of" s_first_of f fd := T.defF 44 38 rfl rfl
theorem F_first_good (T : Txt K mg) : ∃ f fd, DefF K mg "first_good" s_first_good f fd := T.defF 45 39 rfl rfl
theorem F_most_gathered (T : Txt K mg) : ∃ f fd, DefF K mg "most_gathered" s_most_gathered f fd := T.defF 46 40 rfl rfl
theorem F_first_that_gathers (T : Txt K mg) : ∃ f fd, DefF K mg "first_that_gathers" s_first_that_gathers f fd := T.defF 47 41 rfl rfl
theorem F_groups_of (T : Txt K mg) : ∃ f fd, DefF K mg "groups_of" s_groups_of f fd := T.defF 48 42 rfl rfl
theorem F_fewest_hopeless (T : Txt K mg) : ∃ f fd, DefF K mg "fewest_hopeless" s_fewest_hopeless f fd := T.defF 49 43 rfl rfl
theorem F_is_too_many (T : Txt K mg) : ∃ f fd, DefF K mg "is_too_many" s_is_too_many f fd := T.defF 50 44 rfl rfl
theorem F_call_found (T : Txt K mg) : ∃ f fd, DefF K mg "call_found" s_call_found f fd := T.defF 51 45 rfl rfl
theorem F_call_take (T : Txt K mg) : ∃ f fd, DefF K mg "call_take" s_call_take f fd := T.defF 52 46 rfl rfl
theorem F_call_best (T : Txt K mg) : ∃ f fd, DefF K mg "call_best" s_call_best f fd := T.defF 53 47 rfl rfl
theorem F_call_why (T : Txt K mg) : ∃ f fd, DefF K mg "call_why" s_call_why f fd := T.defF 54 48 rfl rfl
theorem F_call_eyesenough (T : Txt K mg) : ∃ f fd, DefF K mg "call_eyesenough" s_call_eyesenough f fd := T.defF 55 49 rfl rfl
theorem F_call_allat (T : Txt K mg) : ∃ f fd, DefF K mg "call_allat" s_call_allat f fd := T.defF 56 50 rfl rfl
theorem F_call_rest (T : Txt K mg) : ∃ f fd, DefF K mg "call_rest" s_call_rest f fd := T.defF 57 51 rfl rfl
theorem F_call_sure (T : Txt K mg) : ∃ f fd, DefF K mg "call_sure" s_call_sure f fd := T.defF 58 52 rfl rfl
theorem F_moves_told (T : Txt K mg) : ∃ f fd, DefF K mg "moves_told" s_moves_told f fd := T.defF 59 53 rfl rfl
theorem F_call_longest (T : Txt K mg) : ∃ f fd, DefF K mg "call_longest" s_call_longest f fd := T.defF 60 54 rfl rfl
theorem F_call_soonest (T : Txt K mg) : ∃ f fd, DefF K mg "call_soonest" s_call_soonest f fd := T.defF 61 55 rfl rfl
theorem F_call_mark (T : Txt K mg) : ∃ f fd, DefF K mg "call_mark" s_call_mark f fd := T.defF 62 56 rfl rfl
theorem F_call_unmark (T : Txt K mg) : ∃ f fd, DefF K mg "call_unmark" s_call_unmark f fd := T.defF 63 57 rfl rfl
theorem F_call_markapart (T : Txt K mg) : ∃ f fd, DefF K mg "call_markapart" s_call_markapart f fd := T.defF 64 58 rfl rfl
theorem F_call_marks (T : Txt K mg) : ∃ f fd, DefF K mg "call_marks" s_call_marks f fd := T.defF 65 59 rfl rfl
theorem F_call_next (T : Txt K mg) : ∃ f fd, DefF K mg "call_next" s_call_next f fd := T.defF 66 60 rfl rfl
theorem F_call_go (T : Txt K mg) : ∃ f fd, DefF K mg "call_go" s_call_go f fd := T.defF 67 61 rfl rfl
theorem F_one_chosen (T : Txt K mg) : ∃ f fd, DefF K mg "one_chosen" s_one_chosen f fd := T.defF 68 62 rfl rfl
theorem F_call_against (T : Txt K mg) : ∃ f fd, DefF K mg "call_against" s_call_against f fd := T.defF 69 63 rfl rfl
theorem F_call_helped (T : Txt K mg) : ∃ f fd, DefF K mg "call_helped" s_call_helped f fd := T.defF 70 64 rfl rfl
theorem F_many_chosen (T : Txt K mg) : ∃ f fd, DefF K mg "many_chosen" s_many_chosen f fd := T.defF 71 65 rfl rfl
theorem F_call_run (T : Txt K mg) : ∃ f fd, DefF K mg "call_run" s_call_run f fd := T.defF 72 66 rfl rfl
theorem F_call_runhelped (T : Txt K mg) : ∃ f fd, DefF K mg "call_runhelped" s_call_runhelped f fd := T.defF 73 67 rfl rfl
theorem F_call_back (T : Txt K mg) : ∃ f fd, DefF K mg "call_back" s_call_back f fd := T.defF 74 68 rfl rfl
theorem F_call_past (T : Txt K mg) : ∃ f fd, DefF K mg "call_past" s_call_past f fd := T.defF 75 69 rfl rfl
theorem F_refused_to_set (T : Txt K mg) : ∃ f fd, DefF K mg "refused_to_set" s_refused_to_set f fd := T.defF 76 70 rfl rfl
theorem F_call_set (T : Txt K mg) : ∃ f fd, DefF K mg "call_set" s_call_set f fd := T.defF 77 71 rfl rfl
theorem F_call_rule (T : Txt K mg) : ∃ f fd, DefF K mg "call_rule" s_call_rule f fd := T.defF 78 72 rfl rfl
theorem F_gathered_by (T : Txt K mg) : ∃ f fd, DefF K mg "gathered_by" s_gathered_by f fd := T.defF 79 73 rfl rfl
theorem F_call_good (T : Txt K mg) : ∃ f fd, DefF K mg "call_good" s_call_good f fd := T.defF 80 74 rfl rfl
theorem F_call_ifset (T : Txt K mg) : ∃ f fd, DefF K mg "call_ifset" s_call_ifset f fd := T.defF 81 75 rfl rfl
theorem F_call_begin (T : Txt K mg) : ∃ f fd, DefF K mg "call_begin" s_call_begin f fd := T.defF 82 76 rfl rfl
theorem F_call_at (T : Txt K mg) : ∃ f fd, DefF K mg "call_at" s_call_at f fd := T.defF 83 77 rfl rfl
theorem F_call_names (T : Txt K mg) : ∃ f fd, DefF K mg "call_names" s_call_names f fd := T.defF 84 78 rfl rfl
theorem F_call_name (T : Txt K mg) : ∃ f fd, DefF K mg "call_name" s_call_name f fd := T.defF 85 79 rfl rfl
theorem F_call_place (T : Txt K mg) : ∃ f fd, DefF K mg "call_place" s_call_place f fd := T.defF 86 80 rfl rfl
theorem F_call_ring (T : Txt K mg) : ∃ f fd, DefF K mg "call_ring" s_call_ring f fd := T.defF 87 81 rfl rfl
theorem F_call_sees (T : Txt K mg) : ∃ f fd, DefF K mg "call_sees" s_call_sees f fd := T.defF 88 82 rfl rfl
theorem F_call_view (T : Txt K mg) : ∃ f fd, DefF K mg "call_view" s_call_view f fd := T.defF 89 83 rfl rfl
theorem F_call_told (T : Txt K mg) : ∃ f fd, DefF K mg "call_told" s_call_told f fd := T.defF 90 84 rfl rfl
theorem F_seen (T : Txt K mg) : ∃ f fd, DefF K mg "seen" s_seen f fd := T.defF 91 85 rfl rfl
theorem F_Sight_init (T : Txt K mg) : ∃ f fd, InitF K "Sight" "Sight.__init__" s_Sight_init f fd := T.initF 92 129 rfl rfl
theorem F_sights_of (T : Txt K mg) : ∃ f fd, DefF K mg "sights_of" s_sights_of f fd := T.defF 93 86 rfl rfl
theorem F_numbers_of_rings (T : Txt K mg) : ∃ f fd, DefF K mg "numbers_of_rings" s_numbers_of_rings f fd := T.defF 94 87 rfl rfl
theorem F_Field_init (T : Txt K mg) : ∃ f fd, InitF K "Field" "Field.__init__" s_Field_init f fd := T.initF 95 135 rfl rfl
theorem F_Field_has_name (T : Txt K mg) : ∃ f fd, MethF K "Field" "has_name" "Field.has_name" s_Field_has_name f fd := T.methF 96 145 rfl rfl
theorem F_Field_has_view (T : Txt K mg) : ∃ f fd, MethF K "Field" "has_view" "Field.has_view" s_Field_has_view f fd := T.methF 97 146 rfl rfl
theorem F_Field_views_in (T : Txt K mg) : ∃ f fd, MethF K "Field" "views_in" "Field.views_in" s_Field_views_in f fd := T.methF 98 147 rfl rfl
theorem F_State_init (T : Txt K mg) : ∃ f fd, InitF K "State" "State.__init__" s_State_init f fd := T.initF 99 149 rfl rfl
theorem F_State_begin (T : Txt K mg) : ∃ f fd, MethF K "State" "begin" "State.begin" s_State_begin f fd := T.methF 100 156 rfl rfl
theorem F_State_name_now (T : Txt K mg) : ∃ f fd, MethF K "State" "name_now" "State.name_now" s_State_name_now f fd := T.methF 101 157 rfl rfl
theorem F_State_put (T : Txt K mg) : ∃ f fd, MethF K "State" "put" "State.put" s_State_put f fd := T.methF 102 158 rfl rfl
theorem F_State_come (T : Txt K mg) : ∃ f fd, MethF K "State" "come" "State.come" s_State_come f fd := T.methF 103 159 rfl rfl
theorem F_State_ahead (T : Txt K mg) : ∃ f fd, MethF K "State" "ahead" "State.ahead" s_State_ahead f fd := T.methF 104 160 rfl rfl
theorem F_State_rests (T : Txt K mg) : ∃ f fd, MethF K "State" "rests" "State.rests" s_State_rests f fd := T.methF 105 161 rfl rfl
theorem F_State_graph (T : Txt K mg) : ∃ f fd, MethF K "State" "graph" "State.graph" s_State_graph f fd := T.methF 106 162 rfl rfl
theorem F_State_moves_to_rest (T : Txt K mg) : ∃ f fd, MethF K "State" "moves_to_rest" "State.moves_to_rest" s_State_moves_to_rest f fd := T.methF 107 163 rfl rfl
theorem F_State_moves_from_now (T : Txt K mg) : ∃ f fd, MethF K "State" "moves_from_now" "State.moves_from_now" s_State_moves_from_now f fd := T.methF 108 164 rfl rfl
theorem F_State_run (T : Txt K mg) : ∃ f fd, MethF K "State" "run" "State.run" s_State_run f fd := T.methF 109 165 rfl rfl
theorem F_State_field_with (T : Txt K mg) : ∃ f fd, MethF K "State" "field_with" "State.field_with" s_State_field_with f fd := T.methF 110 166 rfl rfl
theorem F_State_trials (T : Txt K mg) : ∃ f fd, MethF K "State" "trials" "State.trials" s_State_trials f fd := T.methF 111 167 rfl rfl
theorem F_State_trials_now (T : Txt K mg) : ∃ f fd, MethF K "State" "trials_now" "State.trials_now" s_State_trials_now f fd := T.methF 112 168 rfl rfl
theorem F_answerer_of (T : Txt K mg) : ∃ f fd, DefF K mg "answerer_of" s_answerer_of f fd := T.defF 113 88 rfl rfl
theorem F_answer (T : Txt K mg) : ∃ f fd, DefF K mg "answer" s_answer f fd := T.defF 114 89 rfl rfl
theorem F_answers (T : Txt K mg) : ∃ f fd, DefF K mg "answers" s_answers f fd := T.defF 115 90 rfl rfl
theorem Txt.b_len (T : Txt K mg) : mg "len" = none := T.free (T.fact 97 rfl)
theorem Txt.b_min (T : Txt K mg) : mg "min" = none := T.free (T.fact 98 rfl)
theorem Txt.b_max (T : Txt K mg) : mg "max" = none := T.free (T.fact 99 rfl)
theorem Txt.b_sorted (T : Txt K mg) : mg "sorted" = none := T.free (T.fact 100 rfl)
theorem Txt.b_sum (T : Txt K mg) : mg "sum" = none := T.free (T.fact 101 rfl)
theorem Txt.b_list (T : Txt K mg) : mg "list" = none := T.free (T.fact 102 rfl)
theorem Txt.b_tuple (T : Txt K mg) : mg "tuple" = none := T.free (T.fact 103 rfl)
theorem Txt.b_range (T : Txt K mg) : mg "range" = none := T.free (T.fact 104 rfl)
theorem Txt.b_enumerate (T : Txt K mg) : mg "enumerate" = none := T.free (T.fact 105 rfl)
theorem Txt.b_zip (T : Txt K mg) : mg "zip" = none := T.free (T.fact 106 rfl)
theorem Txt.b_any (T : Txt K mg) : mg "any" = none := T.free (T.fact 107 rfl)
theorem Txt.b_all (T : Txt K mg) : mg "all" = none := T.free (T.fact 108 rfl)
theorem Txt.c_MOST_RULES (T : Txt K mg) : ∃ t, mg "MOST_RULES" = some (.int 6000 t) := T.int (T.fact 109 rfl)
theorem Txt.c_MOST_RUN (T : Txt K mg) : ∃ t, mg "MOST_RUN" = some (.int 60 t) := T.int (T.fact 110 rfl)
theorem Txt.c_MOST_KEPT (T : Txt K mg) : ∃ t, mg "MOST_KEPT" = some (.int 60 t) := T.int (T.fact 111 rfl)
theorem Txt.c_BEGIN (T : Txt K mg) : ∃ t, mg "BEGIN" = some (.int 0 t) := T.int (T.fact 112 rfl)
theorem Txt.cl_Trial (T : Txt K mg) : Cls K (He.ga K "Trial") := He.cls_ok (T.fact 113 rfl)
theorem Txt.n_Trial_sure (T : Txt K mg) : NoAttr K (He.ga K "Trial") "sure" := He.noat_ok (T.fact 115 rfl)
theorem Txt.n_Trial_first (T : Txt K mg) : NoAttr K (He.ga K "Trial") "first" := He.noat_ok (T.fact 116 rfl)
theorem Txt.n_Trial_rules (T : Txt K mg) : NoAttr K (He.ga K "Trial") "rules" := He.noat_ok (T.fact 117 rfl)
theorem Txt.cl_Foresight (T : Txt K mg) : Cls K (He.ga K "Foresight") := He.cls_ok (T.fact 120 rfl)
theorem Txt.n_Foresight_field (T : Txt K mg) : NoAttr K (He.ga K "Foresight") "field" := He.noat_ok (T.fact 122 rfl)
theorem Txt.n_Foresight_moves (T : Txt K mg) : NoAttr K (He.ga K "Foresight") "moves" := He.noat_ok (T.fact 123 rfl)
theorem Txt.n_Foresight_views_had (T : Txt K mg) : NoAttr K (He.ga K "Foresight") "views_had" := He.noat_ok (T.fact 124 rfl)
theorem Txt.n_Foresight_foreseen (T : Txt K mg) : NoAttr K (He.ga K "Foresight") "foreseen" := He.noat_ok (T.fact 125 rfl)
theorem Txt.cl_Sight (T : Txt K mg) : Cls K (He.ga K "Sight") := He.cls_ok (T.fact 128 rfl)
theorem Txt.n_Sight_place (T : Txt K mg) : NoAttr K (He.ga K "Sight") "place" := He.noat_ok (T.fact 130 rfl)
theorem Txt.n_Sight_lesser (T : Txt K mg) : NoAttr K (He.ga K "Sight") "lesser" := He.noat_ok (T.fact 131 rfl)
theorem Txt.n_Sight_even (T : Txt K mg) : NoAttr K (He.ga K "Sight") "even" := He.noat_ok (T.fact 132 rfl)
theorem Txt.n_Sight_way (T : Txt K mg) : NoAttr K (He.ga K "Sight") "way" := He.noat_ok (T.fact 133 rfl)
theorem Txt.cl_Field (T : Txt K mg) : Cls K (He.ga K "Field") := He.cls_ok (T.fact 134 rfl)
theorem Txt.n_Field_places (T : Txt K mg) : NoAttr K (He.ga K "Field") "places" := He.noat_ok (T.fact 136 rfl)
theorem Txt.n_Field_eyes (T : Txt K mg) : NoAttr K (He.ga K "Field") "eyes" := He.noat_ok (T.fact 137 rfl)
theorem Txt.n_Field_robots (T : Txt K mg) : NoAttr K (He.ga K "Field") "robots" := He.noat_ok (T.fact 138 rfl)
theorem Txt.n_Field_names (T : Txt K mg) : NoAttr K (He.ga K "Field") "names" := He.noat_ok (T.fact 139 rfl)
theorem Txt.n_Field_name_numbers (T : Txt K mg) : NoAttr K (He.ga K "Field") "name_numbers" := He.noat_ok (T.fact 140 rfl)
theorem Txt.n_Field_sights (T : Txt K mg) : NoAttr K (He.ga K "Field") "sights" := He.noat_ok (T.fact 141 rfl)
theorem Txt.n_Field_views (T : Txt K mg) : NoAttr K (He.ga K "Field") "views" := He.noat_ok (T.fact 142 rfl)
theorem Txt.n_Field_evens (T : Txt K mg) : NoAttr K (He.ga K "Field") "evens" := He.noat_ok (T.fact 143 rfl)
theorem Txt.n_Field_view_numbers (T : Txt K mg) : NoAttr K (He.ga K "Field") "view_numbers" := He.noat_ok (T.fact 144 rfl)
theorem Txt.cl_State (T : Txt K mg) : Cls K (He.ga K "State") := He.cls_ok (T.fact 148 rfl)
theorem Txt.n_State_field (T : Txt K mg) : NoAttr K (He.ga K "State") "field" := He.noat_ok (T.fact 150 rfl)
theorem Txt.n_State_moves (T : Txt K mg) : NoAttr K (He.ga K "State") "moves" := He.noat_ok (T.fact 151 rfl)
theorem Txt.n_State_rule (T : Txt K mg) : NoAttr K (He.ga K "State") "rule" := He.noat_ok (T.fact 152 rfl)
theorem Txt.n_State_marked (T : Txt K mg) : NoAttr K (He.ga K "State") "marked" := He.noat_ok (T.fact 153 rfl)
theorem Txt.n_State_past (T : Txt K mg) : NoAttr K (He.ga K "State") "past" := He.noat_ok (T.fact 154 rfl)
theorem Txt.n_State_tried (T : Txt K mg) : NoAttr K (He.ga K "State") "tried" := He.noat_ok (T.fact 155 rfl)
theorem Txt.g_Trial (T : Txt K mg) : mg "Trial" = some (.ref (He.ga K "Trial")) := T.glo (T.fact 91 rfl)
theorem Txt.g_Foresight (T : Txt K mg) : mg "Foresight" = some (.ref (He.ga K "Foresight")) := T.glo (T.fact 92 rfl)
theorem Txt.g_Sight (T : Txt K mg) : mg "Sight" = some (.ref (He.ga K "Sight")) := T.glo (T.fact 93 rfl)
theorem Txt.g_Field (T : Txt K mg) : mg "Field" = some (.ref (He.ga K "Field")) := T.glo (T.fact 94 rfl)
theorem Txt.g_State (T : Txt K mg) : mg "State" = some (.ref (He.ga K "State")) := T.glo (T.fact 95 rfl)
theorem Txt.g_ARGUMENTS (T : Txt K mg) : mg "ARGUMENTS" = some (.ref (He.ga K "ARGUMENTS")) := T.glo (T.fact 96 rfl)
theorem Txt.t_ARGUMENTS (T : Txt K mg) (H : Hp) : SqT K H (He.ga K "ARGUMENTS") (argsN.map (He.Dv.v K)) := by
  obtain ⟨h, X, G, c⟩ := T
  exact He.tupB_ok c.ex H
end
end RG
namespace RG
open PySem PySem.Spec PyProof.Rows L2
/-! the head's run, with an own Hook: what F0's Hook says, and that the two lambdas' tables are two -/
def tabP (K : PySem.W.Frag) (x : Str) : Addr := (He.cT K (x, none)).2
def exB2 (K : PySem.W.Frag) : Bool := exB K && !decide (tabP K "against_them" = tabP K "helping_them")
structure SaysM2 (h : Heap) (K : PySem.W.Frag) : Prop where
  d : He.SaysD fa fn K
  ex : exB2 K = true
  tb : ∀ p ∈ tf, PySem.W.codeHdIn K (He.cT K p).1 (He.cT K p).2 = true ∧ K.lookup (He.cT K p).2 = none ∧ h.get? (He.cT K p).2 = some { cls := .none, data := .fields #[] }
abbrev AlM2 : Type := He.AlD × Bool
def obsM2 (g : Addr → Option Obj) : AlM2 := (He.obsD fa fn (kM g), exB2 (kM g) && He.tabsB g tf (kM g))
theorem saysM2_of {h : Heap} (e : obsM2 h.get? = (He.valD fn, true)) : SaysM2 h (kM h.get?) := by
  have e1 : He.obsD fa fn (kM h.get?) = He.valD fn := congrArg Prod.fst e
  have e2 : (exB2 (kM h.get?) && He.tabsB h.get? tf (kM h.get?)) = true := congrArg Prod.snd e
  rw [Bool.and_eq_true] at e2
  refine ⟨e1, e2.1, fun p hp => ?_⟩
  have e3 := List.all_eq_true.mp e2.2 p hp
  rw [Bool.and_eq_true] at e3
  obtain ⟨a1, a2⟩ := e3
  cases q : h.get? (He.cT (kM h.get?) p).2 with
  | none => rw [q] at a2; cases a2
  | some o =>
    rw [q] at a2
    refine ⟨a1, He.frT_none q a2, ?_⟩
    rw [He.emptyTab_eq a2]
def hk2 : PySem.W.Hook where
  α := AlM2
  obs := fun s => obsM2 s.heap.get?
  val := fun _ => (He.valD fn, true)
  says := fun _ h => ∃ K : PySem.W.Frag, K.In h ∧ SaysM2 h K
  of := fun _ _ e => ⟨_, He.frT_in, saysM2_of e⟩
  keeps := fun _ _ _ ⟨K, hK, c⟩ k => ⟨K, PySem.W.Frag.In.keeps hK k, ⟨c.d, c.ex, fun p hp => ⟨(c.tb p hp).1, (c.tb p hp).2.1, k _ _ (c.tb p hp).2.2⟩⟩⟩
def ob2 (s : PySem.W.SharedT) : AlM2 := obsM2 (HandSHeadRun.getT s)
theorem ob2_eq (s : PySem.W.SharedT) : ob2 s = hk2.obs s.abs := by
  have e : HandSHeadRun.getT s = s.abs.heap.get? := funext (HandSHeadRun.getT_eq s)
  show obsM2 (HandSHeadRun.getT s) = obsM2 s.abs.heap.get?
  rw [e]

theorem SaysM2.says {h : Heap} {K : PySem.W.Frag} (c : SaysM2 h K) : SaysM h K ∧ tabP K "against_them" ≠ tabP K "helping_them" := by
  have e := c.ex
  unfold exB2 at e
  rw [Bool.and_eq_true, Bool.not_eq_true', decide_eq_false_iff_not] at e
  exact ⟨⟨c.d, e.1, c.tb⟩, e.2⟩
theorem run (w : World) : HandSHeadRun.RunEqS Rr qv hk2 ob2 40000 names w := by
  intro os
  kernel_rfl
end RG
/-! how a def's promise is said here, and the short words -/
namespace RG
open PySem PySem.Spec PyProof.Rows L2
/-- the module's def x keeps its promise -/
def DefOk (P : Program) (w : World) (K : PySem.W.Frag) (mg : Str → Option Value) (base : Heap) (k : Nat) (x : Str) (ps : List Str) (sp : Sp) : Prop :=
  ∃ f fd, mg x = some (.ref f) ∧ PySem.W.keepIn K (.ref f) = true ∧ Binds K fd ps [] ∧ FnOk P w K mg base CX0 k f fd ps sp
/-- the method m of the class c -/
def MethOk (P : Program) (w : World) (K : PySem.W.Frag) (mg : Str → Option Value) (base : Heap) (k : Nat) (c m : Str) (ps : List Str) (sp : Sp) : Prop :=
  ∃ f fd, Meth K (He.ga K c) m f ∧ Binds K fd ps [] ∧ FnOk P w K mg base CX0 k f fd ps sp
/-- the class c's __init__ -/
def InitOk (P : Program) (w : World) (K : PySem.W.Frag) (mg : Str → Option Value) (base : Heap) (k : Nat) (c : Str) (ps : List Str) (sp : Sp) : Prop :=
  ∃ f fd, Mk K (He.ga K c) f ∧ Binds K fd ps [] ∧ FnOk P w K mg base CX0 k f fd ps sp
abbrev BindT (x qual : Str) (st : Stmt) (ps : List Str) : Prop := ∀ (kV doc pm : Value) (an : Option Addr) (cdv ct : Value) (us : List Value), us.length = ps.length → bindArgs (PySem.W.fnOf x qual (defArgs st) (defBody st) (defScope st) .none kV doc pm an cdv ct) ⟨us, []⟩ = pure (ps.zip us)
section
variable {P : Program} {w : World} {K : PySem.W.Frag} {mg : Str → Option Value} {base : Heap} {k : Nat} {x c m qual : Str} {ps N : List Str} {sp : Sp} {st : Stmt} {f : Addr} {fd : FuncData}
abbrev BodyT (P : Program) (w : World) (K : PySem.W.Frag) (mg : Str → Option Value) (base : Heap) (k : Nat) (qual : Str) (N : List Str) (st : Stmt) (f : Addr) (sp : Sp) : Prop :=
  ∀ (cdv : Value) (A : Around) (outer : List Env) (s : Shared) (H : Hp) (vs : List V) (Q : VK) (E : XK), Room k (A.deeper (envOfC qual (defScope st) s.heap.objs.size f cdv)) → sp vs H Q E →
      ∃ t, PSs (cxOf CX0 P w K mg base N qual (defScope st) f cdv A outer s H E).nox (defBody st) t ∧ t { nx := fun _ H' => Q .non H', rt := Q } (start N vs) H
theorem fn_of_body (F : FunD K x qual (defArgs st) (defBody st) (defScope st) [] [] f fd) (S : FnScope N ps (defScope st)) (len : ∀ vs H Q E, sp vs H Q E → vs.length = ps.length) (hbody : BodyT P w K mg base k qual N st f sp) : FnOk P w K mg base CX0 (k + 1) f fd ps sp :=
  F.ok S len fun cdv A outer s H vs Q E hr hsp => by
    obtain ⟨t, h1, h2⟩ := hbody cdv A outer s H vs Q E hr hsp
    exact ⟨t, h1.nox, h2⟩
theorem def_ok (T : ∃ f fd, DefF K mg x st f fd) (S : FnScope N ps (defScope st)) (B : BindT x x st ps) (len : ∀ vs H Q E, sp vs H Q E → vs.length = ps.length) (hbody : ∀ f, BodyT P w K mg base k x N st f sp) : DefOk P w K mg base (k + 1) x ps sp := by
  obtain ⟨f, fd, g, F⟩ := T
  exact ⟨f, fd, g, F.kp, F.bindsN B, fn_of_body F S len (hbody f)⟩
theorem meth_ok (T : ∃ f fd, MethF K c m qual st f fd) (S : FnScope N ps (defScope st)) (B : BindT m qual st ps) (len : ∀ vs H Q E, sp vs H Q E → vs.length = ps.length) (hbody : ∀ f, BodyT P w K mg base k qual N st f sp) : MethOk P w K mg base (k + 1) c m ps sp := by
  obtain ⟨f, fd, g, F⟩ := T
  exact ⟨f, fd, g, F.bindsN B, fn_of_body F S len (hbody f)⟩
theorem init_ok (T : ∃ f fd, InitF K c qual st f fd) (S : FnScope N ps (defScope st)) (B : BindT "__init__" qual st ps) (len : ∀ vs H Q E, sp vs H Q E → vs.length = ps.length) (hbody : ∀ f, BodyT P w K mg base k qual N st f sp) : InitOk P w K mg base (k + 1) c ps sp := by
  obtain ⟨f, fd, g, F⟩ := T
  exact ⟨f, fd, g, F.bindsN B, fn_of_body F S len (hbody f)⟩
end
section
variable {X : Cx} {k : Nat} {x c m : Str} {ps : List Str} {sp : Sp} {e o : Expr} {es : List Expr} {t : TA} {ta : TE} {p pos apos : Pos}
/-- f(e, ..) -/
theorem pe_cd (D : DefOk X.prog X.w X.K X.mg X.base k x ps sp) (hr : Room k X.A) (ha : PA X (e :: es) t) (hg : Gl X x := by rfl)
    (hdb : (x == ("__debug__" : Str)) = false := by decide) (he : starEach (e :: es) X.env = (false, eval e X.env) :: starEach es X.env := by rfl) (hpl : (backTo pos (starEach es X.env)).any (·.1) = false := by rfl) :
    PE X (.Call (.Name x p) (e :: es) [] pos) (tCall sp [] E0 t) := by
  obtain ⟨f, fd, g, kp, b, F⟩ := D
  exact pe_call F hr hg g kp b .nil pass0 ha hdb he hpl
/-- f() -/
theorem pe_cd0 (D : DefOk X.prog X.w X.K X.mg X.base k x ps sp) (hr : Room k X.A) (hg : Gl X x := by rfl) (hdb : (x == ("__debug__" : Str)) = false := by decide) : PE X (.Call (.Name x p) [] [] pos) (tCall sp [] E0 tNil) := by
  obtain ⟨f, fd, g, kp, b, F⟩ := D
  exact pe_call0 F hr hg g kp b .nil pass0 hdb
/-- o.m(e, ..); C: the class's place -/
theorem pe_md {pl : Sem Bool} (C : Addr) (D : MethOk X.prog X.w X.K X.mg X.base k c m ps sp) (hc : Cls X.K (He.ga X.K c)) (hr : Room k X.A) (he : PE X o ta) (ha : PA X (e :: es) t) (hC : He.ga X.K c = C := by rfl)
    (hst : starEach (e :: es) X.env = (false, eval e X.env) :: starEach es X.env := by rfl) (hpl : (backTo pos (starEach es X.env)).any (·.1) = false := by rfl)
    (ht : eval (.Call (.Attribute o m apos) (e :: es) [] pos) X.env = (do
      let ov ← eval o X.env
      standAt apos.atName
      let (f, first) ← holding [ov] (getMethod ov m pl)
      callWith pos f first (backTo pos (starEach (e :: es) X.env)) (backToKw pos (keywordEach [] X.env))) := by rfl) : PE X (.Call (.Attribute o m apos) (e :: es) [] pos) (tMeth C m sp [] E0 ta t) := by
  obtain ⟨f, fd, g, b, F⟩ := D
  subst hC
  exact pe_meth he hc g F hr b .nil pass0 ha hst hpl ht
/-- o.m() -/
theorem pe_md0 {pl : Sem Bool} (C : Addr) (D : MethOk X.prog X.w X.K X.mg X.base k c m ps sp) (hc : Cls X.K (He.ga X.K c)) (hr : Room k X.A) (he : PE X o ta) (hC : He.ga X.K c = C := by rfl)
    (ht : eval (.Call (.Attribute o m apos) [] [] pos) X.env = (do
      let ov ← eval o X.env
      standAt apos.atName
      let (f, first) ← holding [ov] (getMethod ov m pl)
      callWith pos f first (backTo pos (starEach [] X.env)) (backToKw pos (keywordEach [] X.env))) := by rfl) : PE X (.Call (.Attribute o m apos) [] [] pos) (tMeth C m sp [] E0 ta tNil) := by
  obtain ⟨f, fd, g, b, F⟩ := D
  subst hC
  exact pe_meth0 he hc g F hr b .nil pass0 ht
/-- C(e, ..) -/
theorem pe_mk (C : Addr) (D : InitOk X.prog X.w X.K X.mg X.base k c ps sp) (hr : Room (k + 1) X.A) (hm : X.mg c = some (.ref (He.ga X.K c))) (ha : PA X (e :: es) t) (hC : He.ga X.K c = C := by rfl) (hg : Gl X c := by rfl)
    (hdb : (c == ("__debug__" : Str)) = false := by decide) (he : starEach (e :: es) X.env = (false, eval e X.env) :: starEach es X.env := by rfl) (hpl : (backTo pos (starEach es X.env)).any (·.1) = false := by rfl) :
    PE X (.Call (.Name c p) (e :: es) [] pos) (tMake C sp [] E0 t) := by
  obtain ⟨f, fd, g, b, F⟩ := D
  subst hC
  exact pe_make g F hr hg hm b .nil pass0 ha hdb he hpl
theorem pe_mk0 (C : Addr) (D : InitOk X.prog X.w X.K X.mg X.base k c ps sp) (hr : Room (k + 1) X.A) (hm : X.mg c = some (.ref (He.ga X.K c))) (hC : He.ga X.K c = C := by rfl) (hg : Gl X c := by rfl)
    (hdb : (c == ("__debug__" : Str)) = false := by decide) : PE X (.Call (.Name c p) [] [] pos) (tMake C sp [] E0 tNil) := by
  obtain ⟨f, fd, g, b, F⟩ := D
  subst hC
  exact pe_make0 g F hr hg hm b .nil pass0 hdb
end
section
variable {X : Cx} {o e : Expr} {to : TE} {t : TA} {apos cpos : Pos}
/-- xs.append(e) -/
theorem pe_append (ho : PE X o to) (ha : PA X [e] t)
    (hbase : attributeBase o "append" X.env (eval o X.env) = eval o X.env := by rfl)
    (hfew : ((backTo cpos (starEach [e] X.env)).all (fun x => !x.1) && (backToKw cpos (keywordEach [] X.env)).all (fun x => x.1.isSome)
      && decide ([e].length + ([] : List Keyword).length + (if ([] : List Keyword).isEmpty then 0 else 1) < 30)) = true := by rfl)
    (hline : (apos.endLine == cpos.line) = true := by rfl) (hs : starEach [e] X.env = (false, eval e X.env) :: starEach [] X.env := by rfl) : PE X (.Call (.Attribute o "append" apos) [e] [] cpos) (tBM X.K "list" rAppend to t) :=
  pe_bm PySem.F.plainAttrs_list PySem.F.slot_list_append PySem.F.type_list_append mt_append ho ha hbase hfew hline hs rfl
/-- len(x) of a list or a tuple -/
theorem pe_len {p pos : Pos} (hm : X.mg "len" = none) (ha : PA X [e] t) (hg : Gl X "len" := by rfl) (hst : starEach [e] X.env = (false, eval e X.env) :: starEach [] X.env := by rfl) : PE X (.Call (.Name "len" p) [e] [] pos) (tCB (fun xs H Q => ∃ p ys, xs = [.ref p] ∧ (SqL X.K H p ys ∨ SqT X.K H p ys) ∧ Q (.int ys.length) H) t) :=
  pe_callB call_len_seq hg hm boot_len ha (he := hst)
end
abbrev vI (l : List Int) : List V := l.map V.int
theorem vI_len (l : List Int) : (vI l).length = l.length := List.length_map ..
/-! ### the heap -/
/-- the tuples of whole numbers that stand at these places -/
abbrev Tups (H : Hp) : List Addr → List (List Int) → Prop := Paired fun a l => H a = some (.tup (vI l))
theorem Paired.imp' {α β : Type} {R S : α → β → Prop} (f : ∀ a b, R a b → S a b) : ∀ {as : List α} {bs : List β}, Paired R as bs → Paired S as bs
  | _, _, .nil => .nil
  | _, _, .cons h t => .cons (f _ _ h) (Paired.imp' f t)
theorem Paired.app' {α β : Type} {R : α → β → Prop} : ∀ {as as2 : List α} {bs bs2 : List β}, Paired R as bs → Paired R as2 bs2 → Paired R (as ++ as2) (bs ++ bs2)
  | _, _, _, _, .nil, k => k
  | _, _, _, _, .cons h t, k => .cons h (Paired.app' t k)
theorem Paired.len' {α β : Type} {R : α → β → Prop} : ∀ {as : List α} {bs : List β}, Paired R as bs → as.length = bs.length
  | _, _, .nil => rfl
  | _, _, .cons _ t => congrArg Nat.succ (Paired.len' t)
theorem Paired.right {α β : Type} {R : α → β → Prop} : ∀ {as : List α} {bs : List β} {i : Nat} {b : β}, Paired R as bs → bs[i]? = some b → ∃ a, as[i]? = some a ∧ R a b
  | _, _, 0, b, .cons h _, e => by
    cases e
    exact ⟨_, rfl, h⟩
  | _, _, i + 1, b, .cons _ t, e => Paired.right (i := i) t (by simpa using e)
  | _, _, 0, _, .nil, e => by simp at e
  | _, _, _ + 1, _, .nil, e => by simp at e
theorem Paired.left {α β : Type} {R : α → β → Prop} : ∀ {as : List α} {bs : List β} {i : Nat} {a : α}, Paired R as bs → as[i]? = some a → ∃ b, bs[i]? = some b ∧ R a b
  | _, _, 0, a, .cons h _, e => by
    cases e
    exact ⟨_, rfl, h⟩
  | _, _, i + 1, a, .cons _ t, e => Paired.left (i := i) t (by simpa using e)
  | _, _, 0, _, .nil, e => by simp at e
  | _, _, _ + 1, _, .nil, e => by simp at e
theorem Paired.one {α β : Type} {R : α → β → Prop} {a : α} {b : β} (h : R a b) : Paired R [a] [b] := .cons h .nil
theorem upd_other {H : Hp} {p b : Addr} {o o' u : HO} (hp : H p = some o') (hb : H b = some u) (d : u ≠ o') : upd H p o b = some u := by
  rw [upd_ne (ne_of hb hp d)]
  exact hb
theorem Tups.upd {H : Hp} {p : Addr} {o : HO} {xs : List V} (hp : H p = some (.lst xs)) {as : List Addr} {ls : List (List Int)} (h : Tups H as ls) : Tups (upd H p o) as ls :=
  Paired.imp' (fun a l e => upd_other hp e (by intro z; cases z)) h
theorem Tups.same {H H' : Hp} (s : Same H H') {as : List Addr} {ls : List (List Int)} (h : Tups H as ls) : Tups H' as ls := Paired.imp' (fun a l e => s _ _ e) h
theorem ne_new {H : Hp} {a p : Addr} {o : HO} (h : H a = some o) (hp : H p = none) : a ≠ p := ne_of_none h hp
theorem Same.rfl' {H : Hp} : Same H H := fun _ _ e => e
theorem Same.new {H H1 : Hp} {p : Addr} {o : HO} (s : Same H H1) (hp : H1 p = none) : Same H (upd H1 p o) := fun b u e => by
  rw [upd_ne (ne_of_none (s b u e) hp)]
  exact s b u e
/-- a change at p, which was not there before -/
theorem Same.at_ {H H1 : Hp} {p : Addr} {o : HO} (s : Same H H1) (hp : H p = none) : Same H (upd H1 p o) := fun b u e => by
  rw [upd_ne (ne_of_none e hp)]
  exact s b u e
theorem Same.none {H H1 : Hp} (s : Same H H1) {p : Addr} (hp : H1 p = none) : H p = none := by
  cases e : H p with
  | none => rfl
  | some u => rw [s p u e] at hp; cases hp
theorem Rd.same {H H' : Hp} {a : Addr} {u : HO} (s : Same H H') (r : Rd H a u) : Rd H' a u := r.imp (s _ _) fun ⟨o, e⟩ => ⟨o, s _ _ e⟩
theorem SqT.same {K : PySem.W.Frag} {H H' : Hp} {a : Addr} {xs : List V} (h : SqT K H a xs) (s : Same H H') : SqT K H' a xs := h.imp (Rd.same s) id
theorem SqL.same {K : PySem.W.Frag} {H H' : Hp} {a : Addr} {xs : List V} (h : SqL K H a xs) (s : Same H H') : SqL K H' a xs := h.imp (Rd.same s) id
/-- a list or a tuple -/
def Sq (K : PySem.W.Frag) (H : Hp) (a : Addr) (xs : List V) : Prop := SqL K H a xs ∨ SqT K H a xs
theorem Sq.same {K : PySem.W.Frag} {H H' : Hp} {a : Addr} {xs : List V} (h : Sq K H a xs) (s : Same H H') : Sq K H' a xs := Or.imp (fun q => SqL.same q s) (fun q => SqT.same q s) h
theorem Sq.lst {K : PySem.W.Frag} {H : Hp} {a : Addr} {xs : List V} (h : H a = some (.lst xs)) : Sq K H a xs := .inl (SqL.of h)
theorem Sq.tup {K : PySem.W.Frag} {H : Hp} {a : Addr} {xs : List V} (h : H a = some (.tup xs)) : Sq K H a xs := .inr (SqT.of h)
/-- an if whose test is known -/
theorem yesT {σ : L2.St} {H : Hp} {F G : Hp → Prop} (h : F H) : tYes σ H (fun b H3 => if b = true then F H3 else G H3) := h
theorem noT {A B : Prop} (h : B) : if false = true then A else B := h
theorem ifT {p : Prop} [Decidable p] {A B : Prop} (h : p) (a : A) : if decide p = true then A else B := by
  rw [if_pos (decide_eq_true h)]
  exact a
theorem ifF {p : Prop} [Decidable p] {A B : Prop} (h : ¬ p) (b : B) : if decide p = true then A else B := by
  rw [if_neg (by rw [decide_eq_false h]; decide)]
  exact b
theorem ifTb {c : Bool} {A B : Prop} (h : c = true) (a : A) : if c = true then A else B := by
  rw [if_pos h]
  exact a
theorem ifFb {c : Bool} {A B : Prop} (h : c = false) (b : B) : if c = true then A else B := by
  rw [if_neg (by rw [h]; decide)]
  exact b
theorem rIx_sq {K : PySem.W.Frag} {H : Hp} {a : Addr} {xs : List V} {i : Int} {v : V} {Q : VK} (h : Sq K H a xs) (e : atI xs i = some v) (q : Q v H) : rIx K (.ref a) (.int i) H Q :=
  h.elim (fun h => .inl ⟨a, xs, i, v, rfl, rfl, h, e, q⟩) fun h => .inr (.inl ⟨a, xs, i, v, rfl, rfl, h, e, q⟩)
theorem atI_int {l : List Int} {j : Int} (h0 : 0 ≤ j) (h1 : j < l.length) : atI (vI l) j = some (.int (l.getD j.toNat 0)) := by
  have e : j = ((j.toNat : Nat) : Int) := (Int.toNat_of_nonneg h0).symm
  rw [e]
  refine atI_nat ?_
  have h2 : j.toNat < l.length := by omega
  rw [Int.toNat_natCast, List.getElem?_map, List.getElem?_eq_getElem h2, List.getD_eq_getElem?_getD, List.getElem?_eq_getElem h2]
  rfl
theorem take_snoc {α : Type} {l : List α} {i : Nat} {x : α} (h : l[i]? = some x) : l.take (i + 1) = l.take i ++ [x] := by
  rw [List.take_add_one, h]
  rfl
theorem vI_snoc {l : List Int} {i : Nat} {x : Int} (h : l[i]? = some x) : vI (l.take (i + 1)) = vI (l.take i) ++ [.int x] := by
  rw [take_snoc h]
  exact List.map_append
theorem small_take {n : Nat} {α : Type} {l : List α} (i : Nat) (h : l.length ≤ 100000) : (l.take i).length < sizeLine := by
  rw [List.length_take]
  exact Nat.lt_of_le_of_lt (Nat.le_trans (Nat.min_le_right _ _) h) (by decide)
end RG
namespace RG
open PySem PySem.Spec PyProof.Rows L2
section
variable {P : Program} {w : World} {K : PySem.W.Frag} {mg : Str → Option Value} {base : Heap}
/-- a refusal: a new list of one number -/
def spRef (n : Int) : Sp := fun vs H Q _ => vs = [] ∧ ∀ p, H p = none → Q (.ref p) (upd H p (.lst [.int n]))
theorem sc_no_such : FnScope [] [] (defScope s_no_such) := ⟨rfl, rfl, rfl, by decide +kernel, rfl, by decide +kernel, by decide +kernel⟩
theorem ok_no_such (T : Txt K mg) : DefOk P w K mg base 1 "no_such" [] (spRef (-2)) := by
  refine def_ok (F_no_such T) sc_no_such (fun _ _ _ _ _ _ us hl => match us, hl with | [], _ => rfl) (fun vs H Q E h => by obtain ⟨rfl, _⟩ := h; rfl) fun f cdv A outer s H vs Q E hr h => ?_
  obtain ⟨rfl, h⟩ := h
  exact ⟨_, pss_one (ps_ret (pe_lst (pa_cons (pe_un un_neg pe_int) pa_nil))), _, rfl, by show 1 ≤ sizeLine; decide, fun p hp => h p hp⟩
theorem sc_none_to_take : FnScope [] [] (defScope s_none_to_take) := ⟨rfl, rfl, rfl, by decide +kernel, rfl, by decide +kernel, by decide +kernel⟩
theorem ok_none_to_take (T : Txt K mg) : DefOk P w K mg base 1 "none_to_take" [] (spRef (-6)) := by
  refine def_ok (F_none_to_take T) sc_none_to_take (fun _ _ _ _ _ _ us hl => match us, hl with | [], _ => rfl) (fun vs H Q E h => by obtain ⟨rfl, _⟩ := h; rfl) fun f cdv A outer s H vs Q E hr h => ?_
  obtain ⟨rfl, h⟩ := h
  exact ⟨_, pss_one (ps_ret (pe_lst (pa_cons (pe_un un_neg pe_int) pa_nil))), _, rfl, by show 1 ≤ sizeLine; decide, fun p hp => h p hp⟩
theorem sc_not_marked : FnScope [] [] (defScope s_not_marked) := ⟨rfl, rfl, rfl, by decide +kernel, rfl, by decide +kernel, by decide +kernel⟩
theorem ok_not_marked (T : Txt K mg) : DefOk P w K mg base 1 "not_marked" [] (spRef (-6)) := by
  refine def_ok (F_not_marked T) sc_not_marked (fun _ _ _ _ _ _ us hl => match us, hl with | [], _ => rfl) (fun vs H Q E h => by obtain ⟨rfl, _⟩ := h; rfl) fun f cdv A outer s H vs Q E hr h => ?_
  obtain ⟨rfl, h⟩ := h
  exact ⟨_, pss_one (ps_ret (pe_lst (pa_cons (pe_un un_neg pe_int) pa_nil))), _, rfl, by show 1 ≤ sizeLine; decide, fun p hp => h p hp⟩
theorem sc_some_is_good : FnScope [] [] (defScope s_some_is_good) := ⟨rfl, rfl, rfl, by decide +kernel, rfl, by decide +kernel, by decide +kernel⟩
theorem ok_some_is_good (T : Txt K mg) : DefOk P w K mg base 1 "some_is_good" [] (spRef (-6)) := by
  refine def_ok (F_some_is_good T) sc_some_is_good (fun _ _ _ _ _ _ us hl => match us, hl with | [], _ => rfl) (fun vs H Q E h => by obtain ⟨rfl, _⟩ := h; rfl) fun f cdv A outer s H vs Q E hr h => ?_
  obtain ⟨rfl, h⟩ := h
  exact ⟨_, pss_one (ps_ret (pe_lst (pa_cons (pe_un un_neg pe_int) pa_nil))), _, rfl, by show 1 ≤ sizeLine; decide, fun p hp => h p hp⟩
theorem sc_not_begun : FnScope [] [] (defScope s_not_begun) := ⟨rfl, rfl, rfl, by decide +kernel, rfl, by decide +kernel, by decide +kernel⟩
theorem ok_not_begun (T : Txt K mg) : DefOk P w K mg base 1 "not_begun" [] (spRef (-11)) := by
  refine def_ok (F_not_begun T) sc_not_begun (fun _ _ _ _ _ _ us hl => match us, hl with | [], _ => rfl) (fun vs H Q E h => by obtain ⟨rfl, _⟩ := h; rfl) fun f cdv A outer s H vs Q E hr h => ?_
  obtain ⟨rfl, h⟩ := h
  exact ⟨_, pss_one (ps_ret (pe_lst (pa_cons (pe_un un_neg pe_int) pa_nil))), _, rfl, by show 1 ≤ sizeLine; decide, fun p hp => h p hp⟩
theorem sc_may_not_come : FnScope [] [] (defScope s_may_not_come) := ⟨rfl, rfl, rfl, by decide +kernel, rfl, by decide +kernel, by decide +kernel⟩
theorem ok_may_not_come (T : Txt K mg) : DefOk P w K mg base 1 "may_not_come" [] (spRef (-12)) := by
  refine def_ok (F_may_not_come T) sc_may_not_come (fun _ _ _ _ _ _ us hl => match us, hl with | [], _ => rfl) (fun vs H Q E h => by obtain ⟨rfl, _⟩ := h; rfl) fun f cdv A outer s H vs Q E hr h => ?_
  obtain ⟨rfl, h⟩ := h
  exact ⟨_, pss_one (ps_ret (pe_lst (pa_cons (pe_un un_neg pe_int) pa_nil))), _, rfl, by show 1 ≤ sizeLine; decide, fun p hp => h p hp⟩
theorem sc_marked_already : FnScope [] [] (defScope s_marked_already) := ⟨rfl, rfl, rfl, by decide +kernel, rfl, by decide +kernel, by decide +kernel⟩
theorem ok_marked_already (T : Txt K mg) : DefOk P w K mg base 1 "marked_already" [] (spRef (-17)) := by
  refine def_ok (F_marked_already T) sc_marked_already (fun _ _ _ _ _ _ us hl => match us, hl with | [], _ => rfl) (fun vs H Q E h => by obtain ⟨rfl, _⟩ := h; rfl) fun f cdv A outer s H vs Q E hr h => ?_
  obtain ⟨rfl, h⟩ := h
  exact ⟨_, pss_one (ps_ret (pe_lst (pa_cons (pe_un un_neg pe_int) pa_nil))), _, rfl, by show 1 ≤ sizeLine; decide, fun p hp => h p hp⟩
theorem sc_not_let : FnScope [] [] (defScope s_not_let) := ⟨rfl, rfl, rfl, by decide +kernel, rfl, by decide +kernel, by decide +kernel⟩
theorem ok_not_let (T : Txt K mg) : DefOk P w K mg base 1 "not_let" [] (spRef (-22)) := by
  refine def_ok (F_not_let T) sc_not_let (fun _ _ _ _ _ _ us hl => match us, hl with | [], _ => rfl) (fun vs H Q E h => by obtain ⟨rfl, _⟩ := h; rfl) fun f cdv A outer s H vs Q E hr h => ?_
  obtain ⟨rfl, h⟩ := h
  exact ⟨_, pss_one (ps_ret (pe_lst (pa_cons (pe_un un_neg pe_int) pa_nil))), _, rfl, by show 1 ≤ sizeLine; decide, fun p hp => h p hp⟩
theorem sc_too_many_rules : FnScope [] [] (defScope s_too_many_rules) := ⟨rfl, rfl, rfl, by decide +kernel, rfl, by decide +kernel, by decide +kernel⟩
theorem ok_too_many_rules (T : Txt K mg) : DefOk P w K mg base 1 "too_many_rules" [] (spRef (-28)) := by
  refine def_ok (F_too_many_rules T) sc_too_many_rules (fun _ _ _ _ _ _ us hl => match us, hl with | [], _ => rfl) (fun vs H Q E h => by obtain ⟨rfl, _⟩ := h; rfl) fun f cdv A outer s H vs Q E hr h => ?_
  obtain ⟨rfl, h⟩ := h
  exact ⟨_, pss_one (ps_ret (pe_lst (pa_cons (pe_un un_neg pe_int) pa_nil))), _, rfl, by show 1 ≤ sizeLine; decide, fun p hp => h p hp⟩
theorem sc_none_may_come : FnScope [] [] (defScope s_none_may_come) := ⟨rfl, rfl, rfl, by decide +kernel, rfl, by decide +kernel, by decide +kernel⟩
theorem ok_none_may_come (T : Txt K mg) : DefOk P w K mg base 1 "none_may_come" [] (spRef (-33)) := by
  refine def_ok (F_none_may_come T) sc_none_may_come (fun _ _ _ _ _ _ us hl => match us, hl with | [], _ => rfl) (fun vs H Q E h => by obtain ⟨rfl, _⟩ := h; rfl) fun f cdv A outer s H vs Q E hr h => ?_
  obtain ⟨rfl, h⟩ := h
  exact ⟨_, pss_one (ps_ret (pe_lst (pa_cons (pe_un un_neg pe_int) pa_nil))), _, rfl, by show 1 ≤ sizeLine; decide, fun p hp => h p hp⟩
theorem sc_not_gathered : FnScope [] [] (defScope s_not_gathered) := ⟨rfl, rfl, rfl, by decide +kernel, rfl, by decide +kernel, by decide +kernel⟩
theorem ok_not_gathered (T : Txt K mg) : DefOk P w K mg base 1 "not_gathered" [] (spRef (-33)) := by
  refine def_ok (F_not_gathered T) sc_not_gathered (fun _ _ _ _ _ _ us hl => match us, hl with | [], _ => rfl) (fun vs H Q E h => by obtain ⟨rfl, _⟩ := h; rfl) fun f cdv A outer s H vs Q E hr h => ?_
  obtain ⟨rfl, h⟩ := h
  exact ⟨_, pss_one (ps_ret (pe_lst (pa_cons (pe_un un_neg pe_int) pa_nil))), _, rfl, by show 1 ≤ sizeLine; decide, fun p hp => h p hp⟩
theorem sc_none_is_good : FnScope [] [] (defScope s_none_is_good) := ⟨rfl, rfl, rfl, by decide +kernel, rfl, by decide +kernel, by decide +kernel⟩
theorem ok_none_is_good (T : Txt K mg) : DefOk P w K mg base 1 "none_is_good" [] (spRef (-33)) := by
  refine def_ok (F_none_is_good T) sc_none_is_good (fun _ _ _ _ _ _ us hl => match us, hl with | [], _ => rfl) (fun vs H Q E h => by obtain ⟨rfl, _⟩ := h; rfl) fun f cdv A outer s H vs Q E hr h => ?_
  obtain ⟨rfl, h⟩ := h
  exact ⟨_, pss_one (ps_ret (pe_lst (pa_cons (pe_un un_neg pe_int) pa_nil))), _, rfl, by show 1 ≤ sizeLine; decide, fun p hp => h p hp⟩

/-- counted: a list or a tuple -/
def spCounted (K : PySem.W.Frag) : Sp := fun vs H Q _ => ∃ (a : Addr) (xs : List V), vs = [.ref a] ∧ Sq K H a xs ∧ xs.length + 1 ≤ sizeLine ∧
  ∀ H' p, Same H H' → H p = none → H' p = some (.lst (.int xs.length :: xs)) → Q (.ref p) H'
theorem sc_counted : FnScope ["numbers"] ["numbers"] (defScope s_counted) := ⟨rfl, rfl, rfl, by decide +kernel, rfl, by decide +kernel, by decide +kernel⟩
theorem ok_counted (T : Txt K mg) : DefOk P w K mg base 1 "counted" ["numbers"] (spCounted K) := by
  refine def_ok (F_counted T) sc_counted (fun _ _ _ _ _ _ us hl => match us, hl with | [_], _ => rfl) (fun vs H Q E h => by obtain ⟨a, xs, rfl, _⟩ := h; rfl) fun f cdv A outer s H vs Q E hr h => ?_
  obtain ⟨a, xs, rfl, hs, hl, h⟩ := h
  refine ⟨_, pss_one (ps_ret (pe_op op_cat (pe_lst (pa_cons (pe_callB call_len_seq (by rfl) T.b_len boot_len (pa_cons (pv 0) pa_nil)) pa_nil)) (pe_callTy (call_list_of) (by rfl) T.b_list (by decide +kernel) (pa_cons (pv 0) pa_nil)))), ?_⟩
  refine ⟨_, rfl, a, xs, rfl, hs, by show 1 ≤ sizeLine; decide, fun p hp => ⟨_, rfl, a, xs, rfl, ?_, fun q hq => ?_⟩⟩
  · exact Sq.same hs (Same.new (Same.refl H) hp)
  · have npq : p ≠ q := ne_of_none upd_same hq
    refine ⟨p, q, _, _, rfl, rfl, by rw [upd_ne npq]; exact upd_same, upd_same, by simp only [List.length_cons, List.length_nil]; omega, fun r hr => ?_⟩
    exact h _ r (Same.new (Same.new (Same.new (Same.refl H) hp) hq) hr) (Same.none (Same.new (Same.new (Same.refl H) hp) hq) hr) upd_same
end
end RG
namespace RG
open PySem PySem.Spec PyProof.Rows L2
/-- a row of a ring from a place on, one way round -/
def rowM (l : List Int) (p s : Int) : List Int := (List.range l.length).map fun (i : Nat) => l.getD ((p + s * i) % l.length).toNat 0
section
variable {P : Program} {w : World} {K : PySem.W.Frag} {mg : Str → Option Value} {base : Heap}
def spRow (K : PySem.W.Frag) : Sp := fun vs H Q _ => ∃ (a : Addr) (l : List Int) (p s : Int), vs = [.ref a, .int p, .int s] ∧ Sq K H a (vI l) ∧ 0 < l.length ∧ l.length ≤ 1000 ∧ (s = 1 ∨ s = -1) ∧
  ∀ H' q, Same H H' → H q = none → H' q = some (.tup (vI (rowM l p s))) → Q (.ref q) H'
theorem sc_row_from : FnScope ["ring", "place", "step", "size", "i"] ["ring", "place", "step"] (defScope s_row_from) := ⟨rfl, rfl, rfl, by decide +kernel, rfl, by decide +kernel, by decide +kernel⟩
theorem ok_row_from (T : Txt K mg) : DefOk P w K mg base 1 "row_from" ["ring", "place", "step"] (spRow K) := by
  refine def_ok (F_row_from T) sc_row_from (fun _ _ _ _ _ _ us hl => match us, hl with | [_, _, _], _ => rfl) (fun vs H Q E h => by obtain ⟨a, l, p, s, rfl, _⟩ := h; rfl) fun f cdv A outer s H vs Q E hr h => ?_
  obtain ⟨a, l, p, s, rfl, hs, h0, hl, hst, h⟩ := h
  refine ⟨_, pss_cons (ps_set (i := 3) sc_row_from.nd rfl (Or.inr rfl) (pe_callB call_len_seq (by rfl) T.b_len boot_len (pa_cons (pv 0) pa_nil)))
    (pss_one (ps_ret (pe_callTy call_tuple_of (by rfl) T.b_tuple (by decide +kernel) (pa_cons (pe_lc (own := [("i", 4)]) (g := gName 4) (tt := tYes) (by rfl) sc_row_from.nd (pi_range1 (by rfl) T.b_range (pa_cons (pv 3) pa_nil)) (blkOk_by (N := ["ring", "place", "step", "size", "i"]) (sc := defScope s_row_from) (own := [("i", 4)]) (by decide +kernel))
      (fun _ _ _ _ _ => pg_name (i := 4) sc_row_from.nd rfl (Or.inl rfl)) (fun _ _ _ _ _ => pts_nil)
      (fun _ _ _ _ _ => pe_ix (r := rIx K) ix_seq (pv 0) (pe_op op_mod (pe_op op_add (pv 1) (pe_op op_mul (pv 2) (pv 4))) (pv 3)) (fun _ _ => rfl))) pa_nil)))), ?_⟩
  refine ⟨_, rfl, a, vI l, rfl, hs, ?_⟩
  rw [vI_len]
  refine ⟨_, rfl, _, rfl, by omega, by omega, fun D hD => ?_⟩
  rw [Int.toNat_natCast]
  refine lc_range (lo := 0) (n := l.length) (fun i H' => (∀ b o, H b = some o → H' b = some o) ∧ H' D = some (.lst (vI ((rowM l p s).take i)))) ⟨Same.new (Same.refl H) hD, upd_same⟩ (fun i H1 hi ⟨s1, h1⟩ => ?_) fun H1 ⟨s1, h1⟩ => ?_
  · refine ⟨rfl, yesT ?_⟩
    have hm := Int.emod_nonneg (p + s * (0 + (i : Int))) (show ((l.length : Nat) : Int) ≠ 0 by omega)
    have hm2 := Int.emod_lt_of_pos (p + s * (0 + (i : Int))) (show (0 : Int) < ((l.length : Nat) : Int) by omega)
    have hi2 : (rowM l p s)[i]? = some (l.getD ((p + s * (0 + (i : Int))) % (l.length : Int)).toNat 0) := by
      unfold rowM
      rw [List.getElem?_map, List.getElem?_range hi, Int.zero_add]
      rfl
    refine ⟨_, rfl, _, rfl, _, rfl, _, rfl, s, _, rfl, rfl, .inl (by rcases hst with e | e <;> subst e <;> decide), p, _, rfl, rfl, _, rfl, _, _, rfl, rfl, by show (0 : Int) < (l.length : Int); omega, rIx_sq (Sq.same hs s1) (atI_int hm hm2) ?_⟩
    refine ⟨_, h1, ?_, Same.at_ s1 hD, ?_⟩
    · rw [vI_len]
      exact small_take (n := 0) i (by unfold rowM; rw [List.length_map, List.length_range]; omega)
    · rw [vI_snoc hi2]
      exact upd_same
  · have hlen : (rowM l p s).length = l.length := by unfold rowM; rw [List.length_map, List.length_range]
    rw [← hlen, List.take_length] at h1
    refine ⟨D, vI (rowM l p s), rfl, .inl ⟨SqL.of h1, fun q hq => ?_⟩⟩
    exact h _ q (Same.new s1 hq) (Same.none s1 hq) upd_same
/-- all rows of a ring -/
def likeM (l : List Int) : List (List Int) := (List.range l.length).flatMap fun (p : Nat) => [rowM l p 1, rowM l p (-1)]
def spLike (K : PySem.W.Frag) : Sp := fun vs H Q _ => ∃ (a : Addr) (l : List Int), vs = [.ref a] ∧ Sq K H a (vI l) ∧ 0 < l.length ∧ l.length ≤ 1000 ∧
  ∀ H' p as, Same H H' → H p = none → H' p = some (.lst (as.map V.ref)) → Tups H' as (likeM l) → Q (.ref p) H'
theorem range_flat {α : Type} (g : Nat → List α) (i : Nat) : (List.range (i + 1)).flatMap g = (List.range i).flatMap g ++ g i := by
  rw [List.range_succ, List.flatMap_append]
  simp
theorem len_flat {α : Type} (g : Nat → List α) (c : Nat) (hc : ∀ i, (g i).length = c) : ∀ n, ((List.range n).flatMap g).length = n * c
  | 0 => by simp
  | n + 1 => by rw [range_flat, List.length_append, len_flat g c hc n, hc, Nat.succ_mul]
theorem sc_rings_like : FnScope ["ring", "rings", "place"] ["ring"] (defScope s_rings_like) := ⟨rfl, rfl, rfl, by decide +kernel, rfl, by decide +kernel, by decide +kernel⟩
theorem ok_rings_like (T : Txt K mg) : DefOk P w K mg base 2 "rings_like" ["ring"] (spLike K) := by
  refine def_ok (F_rings_like T) sc_rings_like (fun _ _ _ _ _ _ us hl => match us, hl with | [_], _ => rfl) (fun vs H Q E h => by obtain ⟨a, l, rfl, _⟩ := h; rfl) fun f cdv A outer s H vs Q E hr h => ?_
  obtain ⟨a, l, rfl, hs, h0, hl, h⟩ := h
  refine ⟨_, pss_cons (ps_set (i := 1) sc_rings_like.nd rfl (Or.inl rfl) (pe_lst pa_nil))
    (pss_cons (ps_for PassesOwn.never rfl (pi_range1 (by rfl) T.b_range (pa_cons (pe_len T.b_len (pa_cons (pv 0) pa_nil)) pa_nil)) (pg_name (i := 2) sc_rings_like.nd rfl (Or.inl rfl))
      (pss_cons (ps_expr (pe_append (pv 1) (pa_cons (pe_cd (ok_row_from T) hr (pa_cons (pv 0) (pa_cons (pv 2) (pa_cons pe_int pa_nil)))) pa_nil)))
      (pss_one (ps_expr (pe_append (pv 1) (pa_cons (pe_cd (ok_row_from T) hr (pa_cons (pv 0) (pa_cons (pv 2) (pa_cons (pe_un un_neg pe_int) pa_nil)))) pa_nil))))))
    (pss_one (ps_ret (pv 1)))), ?_⟩
  refine ⟨by decide, fun p hp => ⟨_, rfl, a, vI l, rfl, Sq.same hs (Same.new (Same.refl H) hp), ?_⟩⟩
  rw [vI_len]
  refine ⟨_, rfl, by omega, by omega, ?_⟩
  rw [Int.toNat_natCast]
  refine for_range (lo := 0) (n := l.length) (fun i σ H' => ∃ as v, σ = [some (.ref a), some (.ref p), v] ∧ Same H H' ∧ H' p = some (.lst (as.map V.ref)) ∧ Tups H' as ((List.range i).flatMap fun (p : Nat) => [rowM l p 1, rowM l p (-1)]))
    ⟨[], none, rfl, Same.new (Same.refl H) hp, upd_same, .nil⟩ ?_ ?_
  · rintro i σ H1 hi ⟨as, v, rfl, s1, h1, t1⟩
    have hlen : as.length = i * 2 := by rw [Paired.len' t1]; exact len_flat _ 2 (fun _ => rfl) i
    refine ⟨_, rfl, .inl ⟨rfl, _, SqL.of h1⟩, _, rfl, _, rfl, a, l, _, 1, rfl, Sq.same hs s1, h0, hl, .inl rfl, fun H2 q s2 hq e2 => ?_⟩
    have pq : p ≠ q := ne_of_none h1 hq
    refine ⟨p, _, _, rfl, rfl, s2 _ _ h1, by rw [List.length_map, hlen]; exact Nat.lt_of_lt_of_le (show i * 2 < 5000 by omega) (by decide), ?_⟩
    have s3 : Same H (upd H2 p (.lst (as.map V.ref ++ [.ref q]))) := Same.at_ (Same.trans s1 s2) hp
    refine ⟨_, rfl, .inl ⟨rfl, _, SqL.of upd_same⟩, _, rfl, _, rfl, 1, rfl, a, l, _, -1, rfl, Sq.same hs s3, h0, hl, .inr rfl, fun H4 r s4 hr4 e4 => ?_⟩
    refine ⟨p, _, _, rfl, rfl, s4 _ _ upd_same, by rw [List.length_append, List.length_map, hlen]; exact Nat.lt_of_lt_of_le (show i * 2 + 1 < 5000 by omega) (by decide), ?_⟩
    have pr : p ≠ r := ne_of_none upd_same hr4
    refine ⟨as ++ [q] ++ [r], some (.int (0 + (i : Int))), rfl, Same.at_ (Same.trans s3 s4) hp, ?_, ?_⟩
    · rw [List.map_append, List.map_append]
      exact upd_same
    · rw [range_flat]
      have t2 : Tups (upd H2 p (.lst (as.map V.ref ++ [.ref q]))) (as ++ [q]) (((List.range i).flatMap fun (p : Nat) => [rowM l p 1, rowM l p (-1)]) ++ [rowM l (0 + (i : Int)) 1]) :=
        Tups.upd (s2 _ _ h1) (Paired.app' (Tups.same s2 t1) (Paired.one e2))
      have t3 := Tups.upd (o := .lst (as.map V.ref ++ [.ref q] ++ [.ref r])) (s4 _ _ upd_same) (Paired.app' (Tups.same s4 t2) (Paired.one e4))
      rw [Int.zero_add] at t3
      simpa only [List.append_assoc, List.cons_append, List.nil_append] using t3
  · rintro σ H1 ⟨as, v, rfl, s1, h1, t1⟩
    exact ⟨_, rfl, h _ p as s1 hp h1 t1⟩
end
end RG
/-! more rules: min of tuples of whole numbers -/
namespace RG
open PySem PySem.Spec PyProof.Rows L2
open Sem (wp)
abbrev ltL : List Int → List Int → Bool := HT.lexLt
def tupD (l : List Int) : PyData := .tuple (l.map PyData.int)
theorem alike_ints : ∀ x y : List Int, PySem.W.alikeAll (x.map PyData.int) (y.map PyData.int) = true
  | [], _ => by simp [PySem.W.alikeAll]
  | _ :: _, [] => by simp [PySem.W.alikeAll]
  | a :: x, b :: y => by
    rw [List.map_cons, List.map_cons, PySem.W.alikeAll, alike_ints x y]
    rfl
theorem lt_ints : ∀ x y : List Int, PyProof.Rows.lexLt PyProof.Rows.itemOrd (PySem.W.keyToksAll (x.map PyData.int)) (PySem.W.keyToksAll (y.map PyData.int)) = ltL x y
  | [], [] => by decide
  | [], b :: y => by
    rw [List.map_cons, PySem.W.toks_all_cons]
    show PyProof.Rows.lexLt PyProof.Rows.itemOrd (PySem.W.keyToksAll []) _ = true
    rw [PySem.W.keyToksAll]
    rw [PySem.W.lex_atom (by decide)]
    decide
  | a :: x, [] => by
    rw [List.map_cons, PySem.W.toks_all_cons]
    show PyProof.Rows.lexLt PyProof.Rows.itemOrd _ (PySem.W.keyToksAll []) = false
    rw [PySem.W.keyToksAll]
    rw [PySem.W.lex_atom (by decide)]
    decide
  | a :: x, b :: y => by
    rw [List.map_cons, List.map_cons]
    by_cases e : a = b
    · subst e
      rw [PySem.W.dataLt_all_yes rfl (by simp [PyData.eqv]), lt_ints x y]
      show _ = HT.lexLt (a :: x) (a :: y)
      rw [HT.lexLt_cons, if_pos rfl]
    · rw [PySem.W.dataLt_all_no rfl (by simp [PyData.eqv, e]), PySem.W.dataLt_int]
      show _ = HT.lexLt (a :: x) (b :: y)
      rw [HT.lexLt_cons, if_neg e]
theorem dataLt_tup (x y : List Int) : PySem.W.dataLt (tupD x) (tupD y) = ltL x y := by
  unfold tupD
  rw [PySem.W.dataLt_tuple]
  exact lt_ints x y
/-- the first of the least -/
def minT (x : List Int) (l : List (List Int)) : List Int := l.foldl (fun a y => if ltL y a = true then y else a) x
theorem minD_tup : ∀ (l : List (List Int)) (x : List Int), PySem.W.minD (tupD x) (l.map tupD) = tupD (minT x l)
  | [], _ => rfl
  | y :: l, x => by
    have ih := minD_tup l (if ltL y x = true then y else x)
    unfold PySem.W.minD at ih ⊢
    rw [List.map_cons, List.foldl_cons, dataLt_tup]
    have e : (if ltL y x = true then tupD y else tupD x) = tupD (if ltL y x = true then y else x) := by split <;> rfl
    rw [e]
    exact ih
theorem depth_ints : ∀ l : List Int, PyData.depthAll (l.map PyData.int) = 0
  | [] => rfl
  | _ :: l => by
    rw [List.map_cons, PyData.depthAll, depth_ints l]
    rfl
theorem depth_tups : ∀ l : List (List Int), PyData.depthAll (l.map tupD) ≤ 1
  | [] => Nat.zero_le _
  | x :: l => by
    rw [List.map_cons, PyData.depthAll]
    have := depth_tups l
    have e : (tupD x).depth = 1 := by
      unfold tupD
      rw [PyData.depth, depth_ints]
    omega
section
variable {h : Heap}
theorem reads_ints : ∀ {l : List Int} {us : List Value}, Vals (vI l) us → ReadsAll h us (l.map PyData.int) []
  | [], _, .nil => .nil
  | x :: l, _, .cons r t => by
    obtain ⟨tk, rfl⟩ := r
    exact ReadsAll.cons (as := []) (.int x tk) (reads_ints t)
theorem ints_read : ∀ {l m : List Int} {us : List Value} {as bs : List Addr}, ReadsAll h us (l.map PyData.int) as → ReadsAll h us (m.map PyData.int) bs → l = m
  | [], [], _, _, _, _, _ => rfl
  | [], _ :: _, _, _, _, r1, r2 => by cases r1; cases r2
  | _ :: _, [], _, _, _, r1, r2 => by cases r2; cases r1
  | x :: l, y :: m, _, _, _, r1, r2 => by
    cases r1 with
    | cons a1 b1 =>
      cases r2 with
      | cons a2 b2 =>
        cases a1
        cases a2
        rw [ints_read b1 b2]
variable {P : Program} {w : World} {H : Hp}
theorem reads_tup (ok : HOk P w H h) {a : Addr} {l : List Int} (e : H a = some (.tup (vI l))) : Reads h (.ref a) (tupD l) [] := by
  obtain ⟨_, its, r, o, ho, hc, n, hd⟩ := ok a _ e
  refine .tuple ho hc hd ?_
  exact reads_ints r
theorem reads_tups (ok : HOk P w H h) : ∀ {as : List Addr} {ls : List (List Int)}, Tups H as ls → ReadsAll h (as.map Value.ref) (ls.map tupD) []
  | _, _, .nil => .nil
  | _, _, .cons e t => ReadsAll.cons (as := []) (reads_tup ok e) (reads_tups ok t)
theorem reads_same (ok : HOk P w H h) {h' : Heap} (k : ∀ b o, h.get? b = some o → h'.get? b = some o) {a : Addr} {l m : List Int} {bs : List Addr} (e : H a = some (.tup (vI l))) (r : Reads h' (.ref a) (tupD m) bs) : l = m := by
  obtain ⟨_, its, r1, o, ho, hc, n, hd⟩ := ok a _ e
  unfold tupD at r
  cases r with
  | tuple h1 h2 h3 h4 =>
    have e1 := k _ _ ho
    rw [h1] at e1
    cases e1
    rw [hd] at h3
    cases h3
    exact ints_read (reads_ints r1) h4
end
theorem vals_refs : ∀ {as : List Addr} {us : List Value}, Vals (as.map V.ref) us → us = as.map Value.ref
  | [], _, .nil => rfl
  | a :: as, _, .cons r t => by
    rw [vals_refs t]
    have e : _ = Value.ref a := r
    rw [e]
    rfl
section
variable {X : Cx}
/-- min of a list of tuples of whole numbers -/
def rMinT (K : PySem.W.Frag) : List V → Hp → VK → Prop := fun vs H Q => ∃ (a : Addr) (as : List Addr) (x : List Int) (l : List (List Int)), vs = [.ref a] ∧ SqL K H a (as.map V.ref) ∧ Tups H as (x :: l) ∧
  ∀ q, H q = some (.tup (vI (minT x l))) → Q (.ref q) H
theorem cr_minT (hc : X.calm = true) (hu : X.A.units + 2 < cLine) : CallR X (.builtin "min") (rMinT X.K) := by
  intro pins s σ H vs us Q I r h
  obtain ⟨a, as, x, l, rfl, hs, ht, q⟩ := h
  obtain ⟨its, rv, hl, _⟩ := I.list hs
  rw [Vals.ref1 r]
  have e1 := vals_refs rv
  subst e1
  refine PySem.W.min_list_data (x := tupD x) (xs := l.map tupD) (as := []) (I.ok.hd hc) hl.isList (by simpa using reads_tups I.hok ht) ⟨fun u hu v hv => ?_, fun u hu => ?_⟩ ?_ fun i v h' tk bs hv hr hk => ?_
  · rw [← List.map_cons, List.mem_map] at hu hv
    obtain ⟨u0, _, rfl⟩ := hu
    obtain ⟨v0, _, rfl⟩ := hv
    exact alike_ints u0 v0
  · rw [← List.map_cons, List.mem_map] at hu
    obtain ⟨u0, _, rfl⟩ := hu
    intro z
    cases z
  · have := depth_tups (x :: l)
    rw [List.map_cons] at this
    omega
  · rw [minD_tup] at hr
    have hv' : (as.map Value.ref)[i]? = some v := by simpa using hv
    rw [List.getElem?_map, Option.map_eq_some_iff] at hv'
    obtain ⟨b, hb, rfl⟩ := hv'
    obtain ⟨m, _, hm⟩ := Paired.left ht hb
    have e2 := reads_same I.hok hk hm hr
    subst e2
    exact ⟨.ref b, H, I.kept hk, rfl, q b hm⟩
end
end RG
namespace RG
open PySem PySem.Spec PyProof.Rows L2
open Sem (wp)
section
variable {X : Cx}
/-- xs[j] read, to be stored again -/
def rGetL (K : PySem.W.Frag) : V → V → Hp → VK → Prop := fun o i H Q => ∃ (p : Addr) (xs : List V) (j : Nat) (v : V), o = .ref p ∧ i = .int (j : Int) ∧ SqL K H p xs ∧ xs[j]? = some v ∧ Q v H
theorem get_list : PGet X (rGetL X.K) := by
  intro pins s σ H o i ov iv Q I ro ri h
  obtain ⟨p, xs, j, v, rfl, rfl, hs, hv, q⟩ := h
  cases ro
  obtain ⟨t, rfl⟩ := ri
  obtain ⟨its, r, pl, hz⟩ := I.list hs
  obtain ⟨u, e, rv⟩ := r.get hv
  have hj : j < xs.length := (List.getElem?_eq_some_iff.mp hv).1
  have hn := line63
  exact wpAny_getItem_list pl.isList (by omega) (by omega) (by simpa using e) ⟨v, H, I, rv, q⟩
end
/-- the greatest of numbers -/
def maxI : List Int → Int
  | [] => 0
  | n :: ns => ns.foldl max n
section
variable {X : Cx}
/-- max(t) of a tuple of whole numbers -/
def rMaxTI (K : PySem.W.Frag) : List V → Hp → VK → Prop := fun vs H Q => ∃ (a : Addr) (n : Int) (ns : List Int), vs = [.ref a] ∧ SqT K H a (vI (n :: ns)) ∧ Q (.int (maxI (n :: ns))) H
theorem cr_maxTI (hc : X.calm = true) (hu : X.A.units + 2 < cLine) : CallR X (.builtin "max") (rMaxTI X.K) := by
  intro pins s σ H vs us Q I r h
  obtain ⟨a, n, ns, rfl, hs, q⟩ := h
  obtain ⟨its, rv, hl, _⟩ := I.tuple hs
  rw [Vals.ref1 r]
  have hd := depth_ints (n :: ns)
  rw [List.map_cons] at hd
  refine PySem.W.max_tuple_data (x := .int n) (xs := ns.map .int) (as := []) (I.ok.hd hc) hl ?_ ⟨fun u hu v hv => ?_, fun u hu => ?_⟩ (by omega) fun i v h' tk bs hv hr hk => ?_
  · have := reads_ints (h := s.heap) rv
    simpa using this
  · rw [← List.map_cons, List.mem_map] at hu hv
    obtain ⟨u0, _, rfl⟩ := hu
    obtain ⟨v0, _, rfl⟩ := hv
    rfl
  · rw [← List.map_cons, List.mem_map] at hu
    obtain ⟨u0, _, rfl⟩ := hu
    intro z
    cases z
  · rw [PySem.W.maxD_ints] at hr
    cases hr
    exact ⟨.int _, H, I.kept hk, ⟨_, rfl⟩, q⟩
/-- sum(t) of a tuple of whole numbers -/
def rSumTI (K : PySem.W.Frag) : List V → Hp → VK → Prop := fun vs H Q => ∃ (a : Addr) (ns : List Int), vs = [.ref a] ∧ SqT K H a (vI ns) ∧ Q (.int ns.sum) H
theorem cr_sumTI (hc : X.calm = true) : CallR X (.builtin "sum") (rSumTI X.K) := by
  intro pins s σ H vs us Q I r h
  obtain ⟨a, ns, rfl, hs, q⟩ := h
  obtain ⟨its, rv, hl, _⟩ := I.tuple hs
  rw [Vals.ref1 r]
  have hi : IntsAre its ns := rv.ints
  obtain ⟨xs, e⟩ := hi.allInts.items
  have e2 : xs.toList.map (·.1) = ns := by
    rw [← nums_intItems, ← e]
    exact hi.numsOf
  rw [e] at hl
  refine PySem.W.ktm_sumG (I.ok.hd hc) hl fun h' tk t' hk => ?_
  rw [preSum_eq, e2, List.take_of_length_le (by rw [← e2]; simp)]
  exact ⟨.int _, H, I.kept hk, ⟨_, rfl⟩, q⟩
end
/-! min(a, b) of two things that are compared over the heap -/
section
variable {prog : Program} {w : World} {A : Around} {E : Value → Shared → Prop} {s : Shared}
theorem min_two_walk {a b : Value} {Q : Value → Shared → Prop}
    (h : wpAny (model prog w) A.in1 (pyIter (.ref s.heap.objs.size)) (fun it s2 => ∃ I fp wr G n P St H bt, it = .ref I ∧ WalksS prog w A.in1 I fp wr G n P St ∧ St 0 s2 ∧ (∀ b ∈ fp, b < s2.heap.objs.size) ∧ 0 < n ∧
      (∀ b o, H.get? b = some o → b ∉ wr) ∧ (∀ b o, H.get? b = some o → s2.heap.get? b = some o) ∧ CmpIn prog w A.in1 .Lt H P bt ∧ ∀ v s', P (argBest bt (n - 1)) v → Moved wr G s2 s' → Q v s') E
      { s with heap := s.heap.push { cls := .type "tuple", data := .seq #[a, b] } }) :
    wpAny (model prog w) A (call (.builtin "min") [a, b]) Q E s := by
  have nm : (toString "min" ++ toString ".loop" : String) = "min.loop" := by decide
  refine call_function_tree F.kind_min F.plain_min F.entry_min (F.args_min2 _ _) ?_
  show wpAny _ A.in1 (Builtin.Builtins.bindParams "min" ["key", "default"] 0 ⟨[], []⟩ >>= _) _ _ s
  refine wpAny_bind (wpAny_of_eq (show Builtin.Builtins.bindParams "min" ["key", "default"] 0 ⟨[], []⟩ = pure [none, none] from rfl) ?_)
  show wpAny _ A.in1 (newTuple [a, b] >>= _) _ _ s
  refine wpAny_bind (wpAny_newObj_type ?_)
  refine wpAny_bind (wpAny_mono h (fun it s2 hz => ?_) fun _ _ z => z)
  obtain ⟨I, fp, wr, G, n, P, St, H, bt, rfl, W, st, lo, pos, away, stays, cmp, fin⟩ := hz
  refine wpAny_bind (wpAny_newObj_type ?_)
  have off : s2.heap.objs.size ∉ fp := fun z => Nat.lt_irrefl _ (lo _ z)
  rw [nm]
  refine wpAny_pure ⟨plainId_quiet F.plain_min_loop _, ?_⟩
  refine codeAny_min_loop_firstH W H away bt cmp s2.heap.objs.size off (fresh_in stays) _ pos (fun b o e => Heap.get?_push_of_some _ (stays b o e)) (W.frame 0 s2 _ s2.toks st (Nat.le_refl _) fun b _ o e => Heap.get?_push_of_some _ e) (Heap.get?_push_size _ rfl) fun v s' hP m => ?_
  exact fin v s' hP (Moved.drop_new (tk := s2.toks) m (Nat.le_refl _))
/-- min(a, b) of alike data: one of the two, as it stands -/
theorem min_two_data {a b : Value} {x y : PyData} {as bs : List Addr} {Q : Value → Shared → Prop} (hh : A.handled = none) (ra : Reads s.heap a x as) (rb : Reads s.heap b y bs) (al : PySem.W.AlikeAll [x, y]) (hu : A.units + 1 + PyData.depthAll [x, y] < cLine)
    (h : ∀ h' tk, (∀ c o, s.heap.get? c = some o → h'.get? c = some o) → Q (if PySem.W.dataLt y x = true then b else a) { s with heap := h', toks := tk }) : wpAny (model prog w) A (call (.builtin "min") [a, b]) Q E s := by
  have hT : (s.heap.push { cls := .type "tuple", data := .seq #[a, b] }).IsTuple s.heap.objs.size #[a, b] := ⟨_, Heap.get?_push_size _ rfl, rfl, 0, rfl⟩
  have k0 : ∀ c o, s.heap.get? c = some o → (s.heap.push { cls := .type "tuple", data := .seq #[a, b] }).get? c = some o := fun c o e => Heap.get?_push_of_some _ e
  have rr : ReadsAll s.heap [a, b] [x, y] (as ++ (bs ++ [])) := .cons ra (.cons rb .nil)
  refine min_two_walk (PySem.W.iter_tupleW (A := A.in1) (s := { s with heap := s.heap.push { cls := .type "tuple", data := .seq #[a, b] } }) hh hT fun s2 e W st lo away stays => ?_)
  refine ⟨_, _, _, _, _, _, _, s.heap, _, rfl, W, st, lo, by simp, fun c o z => away c o (k0 c o z), fun c o z => stays c o (k0 c o z), PySem.W.cmpIn_lt (A := A.in1) (vs := #[a, b]) (s := s) (by simpa using rr) al (by show A.units + 1 + _ < _; exact hu), fun v s' hP m => ?_⟩
  obtain ⟨h', tk, rfl, hk'⟩ := PySem.W.moved_old (s := { s with heap := s.heap.push { cls := .type "tuple", data := .seq #[a, b] } }) e rfl m
  have q := h h' tk fun c o z => hk' c o (k0 c o z)
  have ev : v = if PySem.W.dataLt y x = true then b else a := by
    have hP2 : (#[a, b] : Array Value)[argBest (fun i j => PySem.W.dataLt ([x, y].getD i .none) ([x, y].getD j .none)) 1]? = some v := hP
    by_cases c : PySem.W.dataLt y x = true
    · rw [if_pos c]
      have e1 : argBest (fun i j => PySem.W.dataLt ([x, y].getD i .none) ([x, y].getD j .none)) 1 = 1 := by simp [argBest, c]
      rw [e1] at hP2
      exact (Option.some.inj hP2).symm
    · rw [if_neg c]
      have e1 : argBest (fun i j => PySem.W.dataLt ([x, y].getD i .none) ([x, y].getD j .none)) 1 = 0 := by simp [argBest, c]
      rw [e1] at hP2
      exact (Option.some.inj hP2).symm
  rw [ev]
  exact q
end
section
variable {X : Cx}
/-- min(a, b) of two tuples of whole numbers -/
def rMin2T : List V → Hp → VK → Prop := fun vs H Q => ∃ (a b : Addr) (x y : List Int), vs = [.ref a, .ref b] ∧ H a = some (.tup (vI x)) ∧ H b = some (.tup (vI y)) ∧ ∀ q, H q = some (.tup (vI (if ltL y x = true then y else x))) → Q (.ref q) H
theorem cr_min2T (hc : X.calm = true) (hu : X.A.units + 2 < cLine) : CallR X (.builtin "min") rMin2T := by
  intro pins s σ H vs us Q I r h
  obtain ⟨a, b, x, y, rfl, ha, hb, q⟩ := h
  have e : us = [Value.ref a, Value.ref b] := by
    cases r with
    | cons r1 t =>
      cases t with
      | cons r2 t2 =>
        cases t2
        cases r1
        cases r2
        rfl
  subst e
  have hd := depth_tups [x, y]
  refine min_two_data (x := tupD x) (y := tupD y) (I.ok.hd hc) (reads_tup I.hok ha) (reads_tup I.hok hb) ⟨fun u hu v hv => ?_, fun u hu => ?_⟩ (by simp only [List.map_cons, List.map_nil] at hd; omega) fun h' tk hk => ?_
  · have hu' : u ∈ [x, y].map tupD := hu
    have hv' : v ∈ [x, y].map tupD := hv
    rw [List.mem_map] at hu' hv'
    obtain ⟨u0, _, rfl⟩ := hu'
    obtain ⟨v0, _, rfl⟩ := hv'
    exact alike_ints u0 v0
  · have hu' : u ∈ [x, y].map tupD := hu
    rw [List.mem_map] at hu'
    obtain ⟨u0, _, rfl⟩ := hu'
    intro z
    cases z
  · rw [dataLt_tup]
    by_cases c : ltL y x = true
    · rw [if_pos c]
      exact ⟨.ref b, H, I.kept hk, rfl, q b (by rw [if_pos c]; exact hb)⟩
    · rw [if_neg c]
      exact ⟨.ref a, H, I.kept hk, rfl, q a (by rw [if_neg c]; exact ha)⟩
end
end RG
/-! sorted(d) of a dict whose keys are tuples of whole numbers -/
namespace RG
open PySem PySem.Spec PyProof.Rows L2
open Sem (wp)
abbrev kk (l : List Int) : List Key := l.map Sum.inl
theorem kk_kV (l : List Int) : (kk l).map kV = vI l := by
  unfold kk
  rw [List.map_map]
  rfl
theorem kk_inj : ∀ {l m : List Int}, kk l = kk m → l = m
  | [], [], _ => rfl
  | [], _ :: _, h => by cases h
  | _ :: _, [], h => by cases h
  | x :: l, y :: m, h => by
    have h1 : (Sum.inl x : Key) :: kk l = Sum.inl y :: kk m := h
    injection h1 with h2 h3
    rw [Sum.inl.inj h2, kk_inj h3]
/-- equal or less, place by place -/
def leL (x y : List Int) : Prop := ltL y x = false
theorem code_le {B : Int} : ∀ {x y : List Int}, x.length = y.length → TS.Bd B x → TS.Bd B y → TS.code B x ≤ TS.code B y → leL x y
  | [], [], _, _, _, _ => rfl
  | [], _ :: _, h, _, _, _ => by cases h
  | _ :: _, [], h, _, _, _ => by cases h
  | a :: x, b :: y, h, h1, h2, hc => by
    have hl : x.length = y.length := by simpa using h
    unfold leL
    show HT.lexLt (b :: y) (a :: x) = false
    rw [HT.lexLt_cons]
    by_cases e : b = a
    · subst e
      rw [if_pos rfl]
      refine code_le hl h1.tail h2.tail ?_
      unfold TS.code at hc
      rw [hl] at hc
      exact Int.le_of_add_le_add_left hc
    · rw [if_neg e]
      by_cases l : b < a
      · exact absurd hc (Int.not_le.mpr (TS.code_lt hl.symm h2.tail h1.tail l))
      · exact decide_eq_false l
section
variable {P : Program} {w : World} {H : Hp} {h : Heap}
theorem tupInts_of (ok : HOk P w H h) {a : Addr} {l : List Int} (e : H a = some (.tup (vI l))) : TS.TupInts h (.ref a) l := by
  obtain ⟨_, its, r, t⟩ := ok a _ e
  exact ⟨a, its.toArray, rfl, t, by simpa using r.ints⟩
end
def refA : Value → Addr
  | .ref a => a
  | _ => 0
theorem keyTups {H : Hp} : ∀ {kvs : List (List Key × V)} {xs : List (List Key × Addr × Value)}, KT H kvs xs → ∀ ks : List (List Int), kvs.map (·.1) = ks.map kk → Tups H (xs.map fun x => x.2.1) ks
  | _, _, .nil, [], _ => .nil
  | _, _, .nil, _ :: _, h => by cases h
  | _, _, .cons _ _, [], h => by cases h
  | _, _, .cons hp t, k :: ks, h => by
    rw [List.map_cons, List.map_cons] at h
    injection h with e1 e2
    refine .cons ?_ (keyTups t ks e2)
    rw [hp.2.1, e1, kk_kV]
theorem tups_map {H : Hp} {f : Addr → List Int} : ∀ {bs : List Addr}, (∀ b ∈ bs, H b = some (.tup (vI (f b)))) → Tups H bs (bs.map f)
  | [], _ => .nil
  | b :: bs, h => .cons (h b List.mem_cons_self) (tups_map fun c hc => h c (List.mem_cons_of_mem _ hc))
theorem map_tups {H : Hp} {f : Addr → List Int} (hf : ∀ b l, H b = some (.tup (vI l)) → f b = l) : ∀ {bs : List Addr} {ls : List (List Int)}, Tups H bs ls → bs.map f = ls
  | _, _, .nil => rfl
  | _, _, .cons e t => by rw [List.map_cons, hf _ _ e, map_tups hf t]
theorem refA_map (l : List Addr) : l.map (refA ∘ Value.ref) = l := by
  induction l with
  | nil => rfl
  | cons a l ih =>
    rw [List.map_cons, ih]
    rfl
section
variable {X : Cx}
def rSortDT : List V → Hp → VK → Prop := fun vs H Q => ∃ (a : Addr) (kvs : List (List Key × V)) (ks : List (List Int)) (d : Nat) (B : Int), vs = [.ref a] ∧ Rd H a (.dT kvs) ∧ kvs.map (·.1) = ks.map kk ∧ ks.length < 64 ∧ 1 ≤ d ∧ (∀ k ∈ ks, k.length = d ∧ TS.Bd B k) ∧
  ∀ (bs : List Addr) (L : List (List Int)) (p : Addr), L.Perm ks → L.Pairwise leL → Tups H bs L → H p = none → Q (.ref p) (upd H p (.lst (bs.map V.ref)))
theorem cr_sortDT (hc : X.calm = true) : CallR X (.builtin "sorted") rSortDT := by
  intro pins s σ H vs us Q I r h
  obtain ⟨a, kvs, ks, d, B, rfl, hd, hks, h64, h1, hB, q⟩ := h
  rw [Vals.ref1 r]
  obtain ⟨z, lo, xs, pr, o, es, ep, ho, hx, hdt, he, hn⟩ := (show ObjOk X.prog X.w H s.heap a (.dT kvs) from hd.ok I.hok)
  have n1 : es.size = xs.length := size_of_entries he
  have n2 : kvs.length = xs.length := Paired.len' pr
  have n3 : kvs.length = ks.length := by
    have := congrArg List.length hks
    simpa using this
  have tp := keyTups pr ks hks
  refine Calls.call_function_entry kind_sorted plain_sorted entry_sorted (args_sorted1 _) ?_
  unfold Builtin.«sorted»
  refine wpAny_bind (m := checkCount "sorted" 1 1 _) (wpAny_pure ?_)
  refine wpAny_bind (PySem.W.kdu_collect (A := X.A.in1) (kdl_raw lo hx hdt) (I.ok.hd hc) ho (by rw [n1, ← n2, n3, sizeLine_eq]; omega) fun h' tk acc hk it => ?_)
  have ea : acc.toList = (xs.map fun x => x.2.1).map Value.ref := by
    apply List.ext_getElem?
    intro j
    rw [List.getElem?_map, List.getElem?_map]
    have hl : acc.size = xs.length := it.1.trans n1
    cases hj : acc[j]? with
    | none =>
      have g1 : xs.length ≤ j := by rw [← hl]; exact Array.getElem?_eq_none_iff.mp hj
      rw [Array.getElem?_toList, hj, List.getElem?_eq_none g1]
      rfl
    | some v =>
      obtain ⟨en, g1, g2⟩ := it.2 j v hj
      have g3 := entry_at he j
      rw [g1] at g3
      rw [Array.getElem?_toList, hj]
      cases g4 : xs[j]? with
      | none => rw [g4] at g3; cases g3
      | some b =>
        rw [g4] at g3
        have g5 : en = entryOfKey (tupleKind (mixKind X.prog X.w)) b := Option.some.inj g3
        rw [g2, g5]
        rfl
  have I1 : Inv X pins σ H { s with heap := h', toks := tk } := I.kept hk
  have hlen : acc.toList.length < 64 := by rw [ea, List.length_map, List.length_map, ← n2, n3]; exact h64
  refine wpAny_bind (wpAny_newList ?_ (by rw [sizeLine_eq]; omega))
  have hoL : (h'.push (seqObj "list" acc.toList.toArray 0)).get? h'.objs.size = some (seqObj "list" acc.toList.toArray 0) := Heap.get?_push_size _ rfl
  have I2 : HOk X.prog X.w H (h'.push (seqObj "list" acc.toList.toArray 0)) := I1.hok.kept fun b u e => Heap.get?_push_of_some _ e
  have ok : TS.TupsOk (h'.push (seqObj "list" acc.toList.toArray 0)) d B acc.toList := fun v hv => by
    rw [ea, List.mem_map] at hv
    obtain ⟨b, hb, rfl⟩ := hv
    obtain ⟨i, hi⟩ := List.mem_iff_getElem?.mp hb
    obtain ⟨l, hl, e⟩ := Paired.left tp hi
    exact ⟨l, tupInts_of I2 e, hB l (List.mem_of_getElem? hl)⟩
  show wpAny _ _ _ _ _ { s with heap := h'.push (seqObj "list" acc.toList.toArray 0), toks := tk }
  refine wpAny_bind (wpAny_holding (wpAny_call_entry slot_list_sort ⟨_, hoL, rfl⟩ entry_list_sort (TS.sort_tups (s := { s with heap := h'.push (seqObj "list" acc.toList.toArray 0), toks := tk }) hoL hlen h1 ok (fun v => TS.code B (TS.intsOf (h'.push (seqObj "list" acc.toList.toArray 0)) v)) (fun v hv ns t => by
    show TS.code B (TS.intsOf _ v) = _
    rw [t.ints]) fun out p1 p2 => ⟨_, rfl, ?_⟩) (args_list_sort _)))
  obtain ⟨e', he'⟩ := sortedHeap_at (vs := acc.toList) (out := out) hoL
  -- what stands in order now
  have b1 : (out.toList.map refA).Perm (xs.map fun x => x.2.1) := by
    have := p1.map refA
    rw [ea, List.map_map] at this
    rw [refA_map] at this
    exact this
  have b2 : out.toList = (out.toList.map refA).map Value.ref := by
    rw [List.map_map]
    refine (List.map_id _).symm.trans (List.map_congr_left fun v hv => ?_)
    have := p1.mem_iff.mp hv
    rw [ea, List.mem_map] at this
    obtain ⟨b, _, rfl⟩ := this
    rfl
  have at_ : ∀ b l, H b = some (.tup (vI l)) → TS.intsOf (h'.push (seqObj "list" acc.toList.toArray 0)) (.ref b) = l := fun b l e => (tupInts_of I2 e).ints
  have b3 : ∀ b ∈ out.toList.map refA, H b = some (.tup (vI (TS.intsOf (h'.push (seqObj "list" acc.toList.toArray 0)) (.ref b)))) := fun b hb => by
    obtain ⟨i, hi⟩ := List.mem_iff_getElem?.mp (b1.mem_iff.mp hb)
    obtain ⟨l, hl, e⟩ := Paired.left tp hi
    rw [at_ b l e]
    exact e
  have b4 : ((out.toList.map refA).map fun b => TS.intsOf (h'.push (seqObj "list" acc.toList.toArray 0)) (.ref b)).Perm ks := by
    have := b1.map fun b => TS.intsOf (h'.push (seqObj "list" acc.toList.toArray 0)) (.ref b)
    rw [map_tups at_ tp] at this
    exact this
  have b5 : ((out.toList.map refA).map fun b => TS.intsOf (h'.push (seqObj "list" acc.toList.toArray 0)) (.ref b)) = out.toList.map (TS.intsOf (h'.push (seqObj "list" acc.toList.toArray 0))) := by
    conv => rhs; rw [b2]
    rw [List.map_map (g := TS.intsOf _)]
    rfl
  have b6 : ((out.toList.map refA).map fun b => TS.intsOf (h'.push (seqObj "list" acc.toList.toArray 0)) (.ref b)).Pairwise leL := by
    have in_ : ∀ v ∈ out.toList, (TS.intsOf (h'.push (seqObj "list" acc.toList.toArray 0)) v) ∈ ks := fun v hv => b4.mem_iff.mp (by rw [b5]; exact List.mem_map_of_mem hv)
    rw [b5, List.pairwise_map]
    exact List.Pairwise.imp_of_mem (fun {u v} hu hv c => code_le ((hB _ (in_ u hu)).1.trans (hB _ (in_ v hv)).1.symm) (hB _ (in_ u hu)).2 (hB _ (in_ v hv)).2 c) p2
  have hl2 : ((out.toList.map refA).map V.ref).length ≤ sizeLine := by
    rw [List.length_map, List.length_map, p1.length_eq, sizeLine_eq]
    omega
  refine wpAny_pure ⟨_, rfl, .ref h'.objs.size, upd H h'.objs.size (.lst ((out.toList.map refA).map V.ref)), I1.laid (t' := tk) (fun b u e => ?_) (Nat.le_refl _) (show ObjOk X.prog X.w _ _ _ (.lst ((out.toList.map refA).map V.ref)) from ⟨hl2, out.toList, e', ?_, by rw [Array.toArray_toList]; exact he'⟩), rfl, q _ _ _ b4 b6 (tups_map b3) (I1.hok.fresh (Nat.le_refl _))⟩
  · have hb : b < h'.objs.size := Heap.lt_size e
    rw [sortedHeap_old (Nat.ne_of_lt hb) (by rw [size_push']; exact Nat.lt_succ_of_lt hb)]
    exact Heap.get?_push_of_some _ e
  · conv => rhs; rw [b2]
    exact L2.vals_refs _
end
end RG
/-! a dict whose keys are pairs of a number and a tuple of numbers; every value is True -/
namespace RG
open PySem PySem.Spec PyProof.Rows L2
open Sem (wp)
abbrev NK : Type := Int × List Int
def nkey (k : NK) : NestedKey := .tup [.num k.1, .tup (k.2.map .num)]
theorem nums_inj : ∀ {l m : List Int}, l.map NestedKey.num = m.map NestedKey.num → l = m
  | [], [], _ => rfl
  | [], _ :: _, h => by cases h
  | _ :: _, [], h => by cases h
  | x :: l, y :: m, h => by
    rw [List.map_cons, List.map_cons] at h
    injection h with h1 h2
    injection h1 with h1
    rw [h1, nums_inj h2]
theorem nkey_inj {a b : NK} (h : nkey a = nkey b) : a = b := by
  unfold nkey at h
  injection h with h
  injection h with h1 h2
  injection h2 with h2 _
  injection h1 with h1
  injection h2 with h2
  exact Prod.ext h1 (nums_inj h2)
theorem nums_depth : ∀ l : List Int, NestedKey.depthAll (l.map NestedKey.num) = 0
  | [] => rfl
  | _ :: l => by
    rw [List.map_cons, NestedKey.depthAll, nums_depth l]
    rfl
theorem nkey_depth (k : NK) : (nkey k).depth ≤ 8 := by
  have e : (nkey k).depth = 2 := by
    unfold nkey
    simp only [NestedKey.depth, NestedKey.depthAll, nums_depth]
    rfl
  omega
theorem nested_nums {h : Heap} : ∀ {l : List Int} {us : List Value}, Vals (vI l) us → NestedAll h (l.map NestedKey.num) us
  | [], _, .nil => .nil
  | x :: l, _, .cons r t => by
    obtain ⟨tk, rfl⟩ := r
    exact .cons (.int x tk) (nested_nums t)
/-- the key k stands at q -/
def NKAt (H : Hp) (k : NK) (q : Addr) : Prop := ∃ b, H q = some (.tup [.int k.1, .ref b]) ∧ H b = some (.tup (vI k.2))
theorem NKAt.same {H H' : Hp} {k : NK} {q : Addr} (s : Same H H') (h : NKAt H k q) : NKAt H' k q := by
  obtain ⟨b, h1, h2⟩ := h
  exact ⟨b, s _ _ h1, s _ _ h2⟩
section
variable {P : Program} {w : World} {H : Hp} {h : Heap}
theorem NKAt.is (ok : HOk P w H h) {k : NK} {q : Addr} (x : NKAt H k q) : (nestedKind P w).is h (nkey k) q := by
  obtain ⟨b, h1, h2⟩ := x
  obtain ⟨_, us, r, o, ho, hc, n, hd⟩ := ok q _ h1
  obtain ⟨_, vs, r2, o2, ho2, hc2, n2, hd2⟩ := ok b _ h2
  refine ⟨?_, nkey_depth k⟩
  cases r with
  | cons ra t =>
    cases t with
    | cons rb t2 =>
      cases t2
      obtain ⟨tk, rfl⟩ := ra
      cases rb
      exact .tup ho hc hd (.cons (.int _ tk) (.cons (.tup ho2 hc2 hd2 (by simpa using nested_nums r2)) .nil))
end
def nxs (L : List (NK × Addr)) : List (NestedKey × Addr × Value) := L.map fun x => (nkey x.1, x.2, Value.bool true)
/-- what stands at a: the keys and their places, in order -/
def ND (P : Program) (w : World) (a : Addr) (L : List (NK × Addr)) : HO :=
  .ext fun h => (a == sysModules) = false ∧ ∃ (o : Obj) (es : Array DictEntry) (ep : Nat), h.get? a = some o ∧ o.ExactDict ∧ o.data = .dict es ep ∧ es.toList = (nxs L).map (entryOfKey (nestedKind P w))
structure NDict (P : Program) (w : World) (H : Hp) (a : Addr) (L : List (NK × Addr)) : Prop where
  at_ : H a = some (ND P w a L)
  keys : ∀ x ∈ L, NKAt H x.1 x.2
  nd : (L.map (·.1)).Nodup
def putN (L : List (NK × Addr)) (k : NK) (q : Addr) : List (NK × Addr) := if (L.any fun x => decide (x.1 = k)) = true then L else L ++ [(k, q)]
theorem nd_map {L : List (NK × Addr)} (h : (L.map (·.1)).Nodup) : ((nxs L).map (·.1)).Nodup := by
  unfold nxs
  rw [List.map_map, show ((fun x : NestedKey × Addr × Value => x.1) ∘ fun x : NK × Addr => (nkey x.1, x.2, Value.bool true)) = nkey ∘ (·.1) from rfl, ← List.map_map]
  exact List.Pairwise.map nkey (fun a b e z => e (nkey_inj z)) h
section
variable {P : Program} {w : World} {H H' : Hp} {h h' : Heap} {a : Addr} {L : List (NK × Addr)}
theorem ND.ok (ok : ObjOk P w H h a (ND P w a L)) : (a == sysModules) = false ∧ ∃ (o : Obj) (es : Array DictEntry) (ep : Nat), h.get? a = some o ∧ o.ExactDict ∧ o.data = .dict es ep ∧ es.toList = (nxs L).map (entryOfKey (nestedKind P w)) := ok.1
theorem ND.mk (lo : (a == sysModules) = false) {o : Obj} {es : Array DictEntry} {ep : Nat} (ho : h.get? a = some o) (hx : o.ExactDict) (hd : o.data = .dict es ep) (he : es.toList = (nxs L).map (entryOfKey (nestedKind P w))) : ObjOk P w H h a (ND P w a L) :=
  ⟨⟨lo, o, es, ep, ho, hx, hd, he⟩, ⟨o, ho⟩, fun h1 h2 ⟨lo, o, es, ep, ho, r⟩ k => ⟨lo, o, es, ep, k _ ho, r⟩⟩
theorem NDict.dictOf (ok : HOk P w H h) (d : NDict P w H a L) : (a == sysModules) = false ∧ h.DictOfH (nestedKind P w) a (nxs L) := by
  obtain ⟨lo, o, es, ep, ho, hx, hd, he⟩ := ND.ok (ok a _ d.at_)
  refine ⟨lo, o, es, ep, ho, hx, hd, he, fun x hx => ?_, nd_map d.nd⟩
  unfold nxs at hx
  rw [List.mem_map] at hx
  obtain ⟨y, hy, rfl⟩ := hx
  exact NKAt.is ok (d.keys y hy)
theorem atKey_nxs (k : NK) : ∀ L : List (NK × Addr), (atKey (nxs L) (nkey k)).isSome = (L.any fun x => decide (x.1 = k))
  | [] => rfl
  | x :: L => by
    have ih := atKey_nxs k L
    unfold atKey nxs at ih ⊢
    rw [List.map_cons, List.find?_cons, List.any_cons]
    by_cases e : x.1 = k
    · rw [decide_eq_true e, decide_eq_true (congrArg nkey e)]
      rfl
    · rw [decide_eq_false e, decide_eq_false fun z => e (nkey_inj z)]
      exact ih
theorem stored_nxs (L : List (NK × Addr)) (k : NK) (q : Addr) : storedH (nxs L) (nkey k) q (.bool true) = nxs (putN L k q) := by
  unfold storedH putN
  rw [atKey_nxs]
  split
  · unfold nxs
    rw [List.map_map]
    refine List.map_congr_left fun x _ => ?_
    show putAt (nkey k) (Value.bool true) (nkey x.1, x.2, Value.bool true) = _
    unfold putAt
    split <;> rfl
  · unfold nxs
    rw [List.map_append]
    rfl
theorem putN_nodup {k : NK} {q : Addr} (h : (L.map (·.1)).Nodup) : ((putN L k q).map (·.1)).Nodup := by
  unfold putN
  split
  · exact h
  · rename_i hn
    rw [List.map_append, List.nodup_append]
    refine ⟨h, by simp, fun x hx y hy e => ?_⟩
    rw [List.map_cons, List.map_nil, List.mem_singleton] at hy
    rw [List.mem_map] at hx
    obtain ⟨z, hz, ez⟩ := hx
    exact hn (List.any_eq_true.mpr ⟨z, hz, decide_eq_true (by rw [ez, e, hy])⟩)
theorem putN_len {k : NK} {q : Addr} : (putN L k q).length ≤ L.length + 1 := by
  unfold putN
  split
  · omega
  · rw [List.length_append]
    exact Nat.le_refl _
theorem putN_mem {k : NK} {q : Addr} {x : NK × Addr} (h : x ∈ putN L k q) : x ∈ L ∨ x = (k, q) := by
  unfold putN at h
  split at h
  · exact .inl h
  · rcases List.mem_append.mp h with h | h
    · exact .inl h
    · exact .inr (List.mem_singleton.mp h)
theorem putN_keys {k k' : NK} {q : Addr} : k' ∈ (putN L k q).map (·.1) ↔ k' ∈ L.map (·.1) ∨ k' = k := by
  unfold putN
  split
  · rename_i hn
    obtain ⟨z, hz, ez⟩ := List.any_eq_true.mp hn
    refine ⟨.inl, fun h => h.elim id fun e => ?_⟩
    rw [e, ← of_decide_eq_true ez]
    exact List.mem_map_of_mem hz
  · rw [List.map_append, List.mem_append, List.map_cons, List.map_nil, List.mem_singleton]
end
section
variable {X : Cx}
/-- {} -/
def tNewN (P : Program) (w : World) : TE := fun _ H Q => ∀ p, H p = none → Q (.ref p) (upd H p (ND P w p []))
theorem pe_newN {pos : Pos} : PE X (.Dict [] [] pos) (tNewN X.prog X.w) := ⟨fun pins s σ H Q I h =>
  wpAny_Dict_empty ⟨.ref s.heap.objs.size, _, I.laid (a := s.heap.objs.size) (o := ND X.prog X.w s.heap.objs.size []) (t' := s.toks) (fun _ _ q => Heap.get?_push_of_some _ q) (Nat.le_refl _)
    (ND.mk (beq_eq_false_iff_ne.mpr (Ne.symm (Nat.ne_of_lt I.big))) (Heap.get?_push_size _ rfl) ⟨rfl, rfl, rfl⟩ rfl rfl), rfl, h _ (I.hok.fresh (Nat.le_refl _))⟩⟩
/-- d[k] = True -/
def rSetN (P : Program) (w : World) : TSet := fun o i v H Q => ∃ (a q : Addr) (L : List (NK × Addr)) (k : NK), o = .ref a ∧ i = .ref q ∧ v = .bl true ∧ NDict P w H a L ∧ L.length ≤ sizeLine ∧ NKAt H k q ∧ Q (upd H a (ND P w a (putN L k q)))
theorem NDict.put {P : Program} {w : World} {H : Hp} {a q : Addr} {L : List (NK × Addr)} {k : NK} (d : NDict P w H a L) (hk : NKAt H k q) : NDict P w (upd H a (ND P w a (putN L k q))) a (putN L k q) := by
  have keep : ∀ k q, NKAt H k q → NKAt (upd H a (ND P w a (putN L k q))) k q := fun k q h => by
    obtain ⟨b, h1, h2⟩ := h
    exact ⟨b, upd_other d.at_ h1 (fun z => by unfold ND at z; cases z), upd_other d.at_ h2 (fun z => by unfold ND at z; cases z)⟩
  have keep2 : ∀ k' q', NKAt H k' q' → NKAt (upd H a (ND P w a (putN L k q))) k' q' := fun k' q' h => by
    obtain ⟨b, h1, h2⟩ := h
    exact ⟨b, upd_other d.at_ h1 (fun z => by unfold ND at z; cases z), upd_other d.at_ h2 (fun z => by unfold ND at z; cases z)⟩
  refine ⟨upd_same, fun x hx => ?_, putN_nodup d.nd⟩
  rcases putN_mem hx with h | h
  · exact keep2 _ _ (d.keys x h)
  · rw [h]
    exact keep2 _ _ hk
theorem set_N (hu : X.A.units + 10 < cLine) : PSet X (rSetN X.prog X.w) := by
  intro pins s σ H o i v ov iv u Q I ro ri rv h
  obtain ⟨a, q, L, k, rfl, rfl, rfl, hd, hl, hk, fin⟩ := h
  cases ro
  cases ri
  obtain rfl : u = Value.bool true := rv
  obtain ⟨lo, dd⟩ := hd.dictOf I.hok
  have room : (nestedKind X.prog X.w).room X.A.in1 := by
    show X.A.in1.units + 8 < cLine
    rw [Around.in1_units]
    omega
  refine wpAny_setItem_heap (hsz := by unfold nxs; rw [List.length_map]; exact hl) room (NKAt.is I.hok hk) dd fun h' dd' hs => ?_
  rw [stored_nxs] at dd'
  obtain ⟨o, es, ep, ho, hx, hdt, he, _, _⟩ := dd'
  refine ⟨_, d_write I (by rw [hd.at_]; exact True.intro) hs ⟨o, ho⟩ (ND.mk lo ho hx hdt he), fin⟩
/-- the keys of the locked dict at d -/
def Itn (P : Program) (w : World) (d : Addr) (o : Obj) (L : List (NK × Addr)) : It :=
  ⟨fun i H => H d = some (.frz o (ND P w d L)) ∧ i < L.length, fun i H x H' => H' = H ∧ ∃ (k : NK) (q : Addr), L[i]? = some (k, q) ∧ x = .ref q, fun i H => H d = some (.frz o (ND P w d L)) ∧ L.length ≤ i⟩
theorem frz_N {pins : List (Addr × Obj)} {σ : L2.St} {H : Hp} {s : Shared} {d : Addr} {o : Obj} {L : List (NK × Addr)} (I : Inv X pins σ H s) (h : H d = some (.frz o (ND X.prog X.w d L))) :
    (d == sysModules) = false ∧ s.heap.get? d = some o ∧ o.ExactDict ∧ ∃ (es : Array DictEntry) (ep : Nat), o.data = .dict es ep ∧ es.size = L.length ∧ ∀ (i : Nat) (k : NK) (q : Addr), L[i]? = some (k, q) → ∃ en : DictEntry, es[i]? = some en ∧ en.key = .ref q := by
  obtain ⟨hd, hn⟩ := I.hok d _ h
  obtain ⟨lo, o', es, ep, ho, hx, hdt, he⟩ := ND.ok hn
  rw [hd] at ho
  cases ho
  have l1 : es.size = L.length := by
    rw [size_of_entries he]
    unfold nxs
    rw [List.length_map]
  refine ⟨lo, hd, hx, es, ep, hdt, l1, fun i k q e => ?_⟩
  have g := entry_at he i
  unfold nxs at g
  rw [List.getElem?_map, e] at g
  exact ⟨_, g, rfl⟩
theorem turn_N {P : Program} {w : World} {K : PySem.W.Frag} {tg : Expr} {d : Addr} {o : Obj} {es : Array DictEntry} {ep : Nat} {L : List (NK × Addr)} (it : Addr) (hod : o.data = .dict es ep) :
    Turn P w K tg (Itn P w d o L) [it] it (fun i h => h.IsKeyIter it d i L.length ep) where
  mem := List.mem_singleton.mpr rfl
  obj := fun i h st b hb => by
    obtain rfl := List.mem_singleton.mp hb
    obtain ⟨oi, e, c, dd⟩ := st
    exact ⟨oi, e, fun v z => by rw [dd] at z; cases z⟩
  keep := fun i h h' st k => st.at fun oi e => k it (List.mem_singleton.mpr rfl) oi e
  item := by
    intro X hP hw hK hc i pins s σ H E I hf st hg
    subst hP hw hK
    obtain ⟨hd, hi⟩ := hg
    obtain ⟨f0, f1, f2, f3, f4, f5⟩ := hf it (List.mem_singleton.mpr rfl)
    obtain ⟨hs, hgd, hx, es', ep', hdt, hsz, ent⟩ := frz_N I hd
    obtain ⟨rfl, rfl⟩ := dict_ep hod hdt
    obtain ⟨⟨k, q⟩, hkv⟩ : ∃ p, L[i]? = some p := ⟨L[i], List.getElem?_eq_getElem hi⟩
    obtain ⟨en, hen, hkey⟩ := ent i k q hkv
    refine next_key_item st hgd hdt hsz hen fun h' st' sb => ?_
    have J : Inv X pins σ H { s with heap := h' } := I.turned (t' := s.toks) (fun b u hb e => (sb.2 b hb).trans e) f0 f1 f3 f4 f5
    obtain ⟨oi, e, c, dd⟩ := id st'
    exact ⟨en.key, rfl, go_of (s := { s with heap := h' }) e c dd (by decide) ⟨.ref q, H, J, hkey, ⟨rfl, k, q, hkv, rfl⟩, st', fun b hb => (hf b hb).1⟩⟩
  done := by
    intro X hP hw hK hc i pins s σ H E I hf st hg
    subst hP hw hK
    obtain ⟨hd, hi⟩ := hg
    obtain ⟨f0, f1, f2, f3, f4, f5⟩ := hf it (List.mem_singleton.mpr rfl)
    obtain ⟨hs, hgd, hx, es', ep', hdt, hsz, ent⟩ := frz_N I hd
    obtain ⟨rfl, rfl⟩ := dict_ep hod hdt
    exact next_key_end (I.ok.hd hc) st hgd hdt hsz hi fun h' eb => ⟨rfl, I.turned (t' := s.toks) (fun b u hb e => eb b u hb e) f0 f1 f3 f4 f5⟩
  self := fun A i s Q E st h => by
    refine wpAny_pyIter_slot st.typeIs F.slot_dict_keyiterator_iter (wpAny_call_entry F.slot_dict_keyiterator_iter st.typeIs F.entry_dict_keyiterator_iter ?_ (F.args_dict_keyiterator_iter_1 _))
    show wpAny _ _ (ret (.ref it)) _ _ s
    exact wpAny_pure ⟨_, rfl, "dict_keyiterator", _, st.typeIs, F.slot_dict_keyiterator_next.lookup, h⟩
def iKeysN (P : Program) (w : World) (td : TE) : TI := fun σ H R => td σ H fun x H1 => ∃ d o L, x = .ref d ∧ H1 d = some (.frz o (ND P w d L)) ∧ R (Itn P w d o L) H1
theorem pi_keysN {tg e : Expr} {td : TE} (he : PE X e td) : PI X tg e (iKeysN X.prog X.w td) := by
  refine ⟨fun pins s σ H R I h => ?_⟩
  refine thn (he.run pins s σ H _ I h) fun u s1 ⟨x, H1, I1, rx, d, o, L, ex, hd, q⟩ => ?_
  subst ex
  obtain rfl : u = Value.ref d := rx
  obtain ⟨hs, hgd, hx, es, ep, hdt, hsz, ent⟩ := frz_N I1 hd
  refine iter_keys hs hgd hx hdt (pi_one (tk := s1.toks) I1 _ (turn_N _ hdt) ⟨_, Heap.get?_push_size _ rfl, rfl, ?_⟩ q)
  rw [hsz]
  rfl
/-- list(d) -/
theorem call_list_N (hc : X.calm = true) : CallR X (.type "list") (fun xs H Q => ∃ d L, xs = [V.ref d] ∧ H d = some (ND X.prog X.w d L) ∧ L.length ≤ sizeLine ∧ ∀ p, H p = none → Q (.ref p) (upd H p (.lst (L.map fun x => V.ref x.2)))) := by
  intro pins s σ H xs us Q I r h
  obtain ⟨d, L, rfl, hd, hz, q⟩ := h
  rw [Vals.ref1 r]
  obtain ⟨lo, o, es, ep, ho, hx, hdt, he⟩ := ND.ok (I.hok d _ hd)
  have l1 : es.size = L.length := by
    rw [size_of_entries he]
    unfold nxs
    rw [List.length_map]
  refine PySem.W.kdl_call (kdl_raw lo hx hdt) (I.ok.hd hc) ho (by omega) fun h' tk acc c kp e it => ?_
  have ea : acc.toList = (L.map fun x => x.2).map Value.ref := by
    apply List.ext_getElem?
    intro j
    rw [List.getElem?_map, List.getElem?_map]
    have hl : acc.size = L.length := it.1.trans l1
    cases hj : acc[j]? with
    | none =>
      have g1 : L.length ≤ j := by rw [← hl]; exact Array.getElem?_eq_none_iff.mp hj
      rw [Array.getElem?_toList, hj, List.getElem?_eq_none g1]
      rfl
    | some v =>
      obtain ⟨en, g1, g2⟩ := it.2 j v hj
      have g3 := entry_at he j
      unfold nxs at g3
      rw [g1, List.getElem?_map] at g3
      rw [Array.getElem?_toList, hj]
      cases g4 : L[j]? with
      | none => rw [g4] at g3; cases g3
      | some b =>
        rw [g4] at g3
        have g5 : en = entryOfKey (nestedKind X.prog X.w) (nkey b.1, b.2, Value.bool true) := Option.some.inj g3
        rw [g2, g5]
        rfl
  have rv : Vals (L.map fun x => V.ref x.2) acc.toList := by
    rw [ea, show (L.map fun x => V.ref x.2) = (L.map fun x => x.2).map V.ref from by rw [List.map_map]; rfl]
    exact L2.vals_refs _
  refine ⟨.ref s.heap.objs.size, _, I.laid (t' := tk) (o := .lst (L.map fun x => V.ref x.2)) kp (Nat.le_refl _) ?_, rfl, q _ (I.hok.fresh (Nat.le_refl _))⟩
  exact ⟨by rw [List.length_map]; exact hz, acc.toList, c, rv, by rw [Array.toArray_toList]; exact e⟩
/-- {k: True} -/
def tDisp1N (P : Program) (w : World) (tk tv : TE) : TE := fun σ H Q => ∀ p, H p = none → tPairs [(tk, tv)] σ (upd H p (ND P w p [])) fun ps H1 => ∃ q k, ps = [(.ref q, .bl true)] ∧ NDict P w H1 p [] ∧ NKAt H1 k q ∧ Q (.ref p) (upd H1 p (ND P w p [(k, q)]))
theorem pe_disp1N {ke ve : Expr} {pos : Pos} {tk tv : TE} (hu : X.A.units + 10 < cLine) (h : PPs X pos [some ke] [ve] [(tk, tv)]) : PE X (.Dict [some ke] [ve] pos) (tDisp1N X.prog X.w tk tv) := by
  refine ⟨fun pins s σ H Q I q => ?_⟩
  have hn := I.hok.fresh (Nat.le_refl s.heap.objs.size)
  have I1 := I.laid (a := s.heap.objs.size) (o := ND X.prog X.w s.heap.objs.size []) (h' := s.heap.push { cls := .type "dict", data := .dict #[] }) (t' := s.toks) (fun _ _ q => Heap.get?_push_of_some _ q) (Nat.le_refl _)
    (ND.mk (beq_eq_false_iff_ne.mpr (Ne.symm (Nat.ne_of_lt I.big))) (Heap.get?_push_size _ rfl) ⟨rfl, rfl, rfl⟩ rfl rfl)
  have room : (nestedKind X.prog X.w).room X.A := by
    show X.A.units + 8 < cLine
    omega
  rw [arm_eval_Dict, zip_pairTrees [some ke] [ve] X.env pos rfl rfl, dictDisplay_pairs _ (by intro z; cases z) (by show 1 < 17; decide)]
  refine wpAny_bind (wpAny_standAt (wpAny_bind (wpAny_subDictH (knd := nestedKind X.prog X.w) (Q := fun d s' => wpAny (model X.prog X.w) X.A (pure (Value.ref d)) (EP X pins σ Q) X.xe s') room (by show 1 ≤ 15; decide)
    (thn (h.run pins _ σ _ _ I1 (q _ hn)) fun ws s2 ⟨ps, H2, I2, rel, b, k, e, hd, hk, fin⟩ => ?_))))
  subst e
  cases rel with
  | @cons _ pr _ _ rp t =>
    cases t
    obtain ⟨kv, vv⟩ := pr
    obtain ⟨r1, r2⟩ := rp
    obtain rfl : kv = Value.ref b := r1
    obtain rfl : vv = Value.bool true := r2
    obtain ⟨lo, dd⟩ := hd.dictOf I2.hok
    refine ⟨[(nkey k, b, Value.bool true)], ⟨rfl, rfl, NKAt.is I2.hok hk, trivial⟩, dd, fun h' tk dd' hs => ?_⟩
    obtain ⟨o, es, ep, ho, hx, hdt, he, _, _⟩ := dd'
    have he : es.toList = (nxs [(k, b)]).map (entryOfKey (nestedKind X.prog X.w)) := he
    exact wpAny_pure ⟨.ref s.heap.objs.size, _, d_write I2 (by rw [hd.at_]; exact True.intro) hs ⟨o, ho⟩ (ND.mk lo ho hx hdt he), rfl, fin⟩
end
end RG
namespace RG
open PySem PySem.Spec PyProof.Rows L2
section
variable {P : Program} {w : World} {K : PySem.W.Frag} {mg : Str → Option Value} {base : Heap}
/-! ### name_of -/
def leastM : List (List Int) → List Int
  | [] => []
  | x :: l => minT x l
def nameM (l : List Int) : List Int := leastM (likeM l)
def spName (K : PySem.W.Frag) : Sp := fun vs H Q _ => ∃ (a : Addr) (l : List Int), vs = [.ref a] ∧ Sq K H a (vI l) ∧ 0 < l.length ∧ l.length ≤ 1000 ∧
  ∀ H' q, Same H H' → H' q = some (.tup (vI (nameM l))) → Q (.ref q) H'
theorem likeM_ne {l : List Int} (h : 0 < l.length) : ∃ x r, likeM l = x :: r := by
  unfold likeM
  obtain ⟨n, e⟩ : ∃ n, l.length = n + 1 := ⟨l.length - 1, by omega⟩
  rw [e, List.range_succ_eq_map, List.flatMap_cons]
  exact ⟨_, _, rfl⟩
theorem hu2 {A : Around} {k : Nat} (hr : Room k A) : A.units + 2 < cLine := by have := hr.units; omega
theorem hu10 {A : Around} {k : Nat} (hr : Room k A) : A.units + 10 < cLine := by have := hr.units; omega
theorem sc_name_of : FnScope ["ring"] ["ring"] (defScope s_name_of) := ⟨rfl, rfl, rfl, by decide +kernel, rfl, by decide +kernel, by decide +kernel⟩
theorem ok_name_of (T : Txt K mg) : DefOk P w K mg base 3 "name_of" ["ring"] (spName K) := by
  refine def_ok (F_name_of T) sc_name_of (fun _ _ _ _ _ _ us hl => match us, hl with | [_], _ => rfl) (fun vs H Q E h => by obtain ⟨a, l, rfl, _⟩ := h; rfl) fun f cdv A outer s H vs Q E hr h => ?_
  obtain ⟨a, l, rfl, hs, h0, hl, h⟩ := h
  refine ⟨_, pss_one (ps_ret (pe_callB (cr_minT (by rfl) (hu2 hr)) (by rfl) T.b_min (by decide +kernel) (pa_cons (pe_cd (ok_rings_like T) hr (pa_cons (pv 0) pa_nil)) pa_nil))), ?_⟩
  refine ⟨_, rfl, a, l, rfl, hs, h0, hl, fun H1 p as s1 hp e t => ?_⟩
  obtain ⟨x, r, ex⟩ := likeM_ne h0
  rw [ex] at t
  refine ⟨p, as, x, r, rfl, SqL.of e, t, fun q hq => h H1 q s1 ?_⟩
  unfold nameM
  rw [ex]
  exact hq
/-! ### with_robot, with_gone -/
def robotM (l : List Int) (p : Nat) : List Int := l.set p (l.getD p 0 + 1)
def goneM (l : List Int) (p q : Nat) : List Int := (l.set p (l.getD p 0 - 1)).set q ((l.set p (l.getD p 0 - 1)).getD q 0 + 1)
def spRobot (K : PySem.W.Frag) : Sp := fun vs H Q _ => ∃ (a : Addr) (l : List Int) (p : Nat), vs = [.ref a, .int (p : Int)] ∧ Sq K H a (vI l) ∧ p < l.length ∧
  ∀ H' q, Same H H' → H q = none → H' q = some (.tup (vI (robotM l p))) → Q (.ref q) H'
theorem vI_get {l : List Int} {p : Nat} (h : p < l.length) : (vI l)[p]? = some (.int (l.getD p 0)) := by
  rw [List.getElem?_map, List.getD_eq_getElem?_getD, List.getElem?_eq_getElem h]
  rfl
theorem vI_set (l : List Int) (p : Nat) (x : Int) : (vI l).set p (.int x) = vI (l.set p x) := (List.map_set ..).symm
theorem ixN_nat {n p : Nat} (h : p < n) : ixN n (p : Int) = some p := by
  unfold ixN
  rw [if_pos (by omega), if_pos (by omega), Int.toNat_natCast]
theorem sc_with_robot : FnScope ["ring", "place", "changed"] ["ring", "place"] (defScope s_with_robot) := ⟨rfl, rfl, rfl, by decide +kernel, rfl, by decide +kernel, by decide +kernel⟩
theorem ok_with_robot (T : Txt K mg) : DefOk P w K mg base 1 "with_robot" ["ring", "place"] (spRobot K) := by
  refine def_ok (F_with_robot T) sc_with_robot (fun _ _ _ _ _ _ us hl => match us, hl with | [_, _], _ => rfl) (fun vs H Q E h => by obtain ⟨a, l, p, rfl, _⟩ := h; rfl) fun f cdv A outer s H vs Q E hr h => ?_
  obtain ⟨a, l, p, rfl, hs, hp, h⟩ := h
  refine ⟨_, pss_cons (ps_set (i := 2) sc_with_robot.nd rfl (Or.inl rfl) (pe_callTy call_list_of (by rfl) T.b_list (by decide +kernel) (pa_cons (pv 0) pa_nil)))
    (pss_cons (ps_augS (pv 2) (pv 1) get_list pe_int ip_add set_list)
    (pss_one (ps_ret (pe_callTy call_tuple_of (by rfl) T.b_tuple (by decide +kernel) (pa_cons (pv 2) pa_nil))))), ?_⟩
  refine ⟨_, rfl, a, vI l, rfl, hs, fun c hc => ?_⟩
  refine ⟨_, rfl, _, rfl, c, vI l, p, _, rfl, rfl, SqL.of upd_same, vI_get hp, _, _, rfl, rfl, ?_⟩
  refine ⟨c, vI l, _, p, rfl, rfl, upd_same, by rw [vI_len]; exact ixN_nat hp, ?_⟩
  rw [vI_set, upd_upd]
  refine ⟨_, rfl, c, _, rfl, .inl ⟨SqL.of upd_same, fun q hq => ?_⟩⟩
  exact h _ q (Same.new (Same.new (Same.refl H) hc) hq) (Same.none (Same.new (Same.refl H) hc) hq) upd_same
def spGone (K : PySem.W.Frag) : Sp := fun vs H Q _ => ∃ (a : Addr) (l : List Int) (p r : Nat), vs = [.ref a, .int (p : Int), .int (r : Int)] ∧ Sq K H a (vI l) ∧ p < l.length ∧ r < l.length ∧
  ∀ H' q, Same H H' → H q = none → H' q = some (.tup (vI (goneM l p r))) → Q (.ref q) H'
theorem sc_with_gone : FnScope ["ring", "place", "end", "changed"] ["ring", "place", "end"] (defScope s_with_gone) := ⟨rfl, rfl, rfl, by decide +kernel, rfl, by decide +kernel, by decide +kernel⟩
theorem ok_with_gone (T : Txt K mg) : DefOk P w K mg base 1 "with_gone" ["ring", "place", "end"] (spGone K) := by
  refine def_ok (F_with_gone T) sc_with_gone (fun _ _ _ _ _ _ us hl => match us, hl with | [_, _, _], _ => rfl) (fun vs H Q E h => by obtain ⟨a, l, p, r, rfl, _⟩ := h; rfl) fun f cdv A outer s H vs Q E hr h => ?_
  obtain ⟨a, l, p, r, rfl, hs, hp, hq, h⟩ := h
  refine ⟨_, pss_cons (ps_set (i := 3) sc_with_gone.nd rfl (Or.inl rfl) (pe_callTy call_list_of (by rfl) T.b_list (by decide +kernel) (pa_cons (pv 0) pa_nil)))
    (pss_cons (ps_augS (pv 3) (pv 1) get_list pe_int ip_sub set_list)
    (pss_cons (ps_augS (pv 3) (pv 2) get_list pe_int ip_add set_list)
    (pss_one (ps_ret (pe_callTy call_tuple_of (by rfl) T.b_tuple (by decide +kernel) (pa_cons (pv 3) pa_nil)))))), ?_⟩
  refine ⟨_, rfl, a, vI l, rfl, hs, fun c hc => ?_⟩
  refine ⟨_, rfl, _, rfl, c, vI l, p, _, rfl, rfl, SqL.of upd_same, vI_get hp, _, _, rfl, rfl, ?_⟩
  refine ⟨c, vI l, _, p, rfl, rfl, upd_same, by rw [vI_len]; exact ixN_nat hp, ?_⟩
  rw [vI_set, upd_upd]
  have hq2 : r < (l.set p (l.getD p 0 - 1)).length := by rw [List.length_set]; exact hq
  refine ⟨_, rfl, _, rfl, c, _, r, _, rfl, rfl, SqL.of upd_same, vI_get hq2, _, _, rfl, rfl, ?_⟩
  refine ⟨c, _, _, r, rfl, rfl, upd_same, by rw [vI_len]; exact ixN_nat hq2, ?_⟩
  rw [vI_set, upd_upd]
  refine ⟨_, rfl, c, _, rfl, .inl ⟨SqL.of upd_same, fun q hq => ?_⟩⟩
  exact h _ q (Same.new (Same.new (Same.refl H) hc) hq) (Same.none (Same.new (Same.refl H) hc) hq) upd_same
/-! ### is_together, is_apart -/
def togetherM (l : List Int) : Bool := decide (maxI l = l.sum)
def apartM (l : List Int) : Bool := decide (maxI l = 1)
def spTog (K : PySem.W.Frag) : Sp := fun vs H Q _ => ∃ (a : Addr) (l : List Int), vs = [.ref a] ∧ SqT K H a (vI l) ∧ 0 < l.length ∧ Q (.bl (togetherM l)) H
def spApt (K : PySem.W.Frag) : Sp := fun vs H Q _ => ∃ (a : Addr) (l : List Int), vs = [.ref a] ∧ SqT K H a (vI l) ∧ 0 < l.length ∧ Q (.bl (apartM l)) H
theorem dec_int (a b : Int) : decide (V.int a = V.int b) = decide (a = b) := by
  by_cases e : a = b
  · rw [e, decide_eq_true rfl, decide_eq_true rfl]
  · rw [decide_eq_false e, decide_eq_false fun z => e (by injection z)]
theorem sc_is_together : FnScope ["ring"] ["ring"] (defScope s_is_together) := ⟨rfl, rfl, rfl, by decide +kernel, rfl, by decide +kernel, by decide +kernel⟩
theorem ok_is_together (T : Txt K mg) : DefOk P w K mg base 1 "is_together" ["ring"] (spTog K) := by
  refine def_ok (F_is_together T) sc_is_together (fun _ _ _ _ _ _ us hl => match us, hl with | [_], _ => rfl) (fun vs H Q E h => by obtain ⟨a, l, rfl, _⟩ := h; rfl) fun f cdv A outer s H vs Q E hr h => ?_
  obtain ⟨a, l, rfl, hs, h0, h⟩ := h
  refine ⟨_, pss_one (ps_ret (pe_cmpR op_eq (pe_callB (cr_maxTI (by rfl) (hu2 hr)) (by rfl) T.b_max (by decide +kernel) (pa_cons (pv 0) pa_nil)) (pe_callB (cr_sumTI (by rfl)) (by rfl) T.b_sum (by decide +kernel) (pa_cons (pv 0) pa_nil)) (nomark _))), ?_⟩
  cases l with
  | nil => exact absurd h0 (by decide)
  | cons n ns =>
    refine ⟨_, rfl, a, n, ns, rfl, hs, _, rfl, a, n :: ns, rfl, hs, rfl, ?_⟩
    rw [dec_int]
    exact h
theorem sc_is_apart : FnScope ["ring"] ["ring"] (defScope s_is_apart) := ⟨rfl, rfl, rfl, by decide +kernel, rfl, by decide +kernel, by decide +kernel⟩
theorem ok_is_apart (T : Txt K mg) : DefOk P w K mg base 1 "is_apart" ["ring"] (spApt K) := by
  refine def_ok (F_is_apart T) sc_is_apart (fun _ _ _ _ _ _ us hl => match us, hl with | [_], _ => rfl) (fun vs H Q E h => by obtain ⟨a, l, rfl, _⟩ := h; rfl) fun f cdv A outer s H vs Q E hr h => ?_
  obtain ⟨a, l, rfl, hs, h0, h⟩ := h
  refine ⟨_, pss_one (ps_ret (pe_cmpR op_eq (pe_callB (cr_maxTI (by rfl) (hu2 hr)) (by rfl) T.b_max (by decide +kernel) (pa_cons (pv 0) pa_nil)) pe_int (nomark _))), ?_⟩
  cases l with
  | nil => exact absurd h0 (by decide)
  | cons n ns =>
    refine ⟨_, rfl, a, n, ns, rfl, hs, rfl, ?_⟩
    rw [dec_int]
    exact h
end
end RG
namespace RG
open PySem PySem.Spec PyProof.Rows L2
/-! ### order -/
theorem ltL_cons (x y : Int) (xs ys : List Int) : ltL (x :: xs) (y :: ys) = if x = y then ltL xs ys else decide (x < y) := HT.lexLt_cons x y xs ys
theorem leL_antisymm : ∀ {x y : List Int}, leL x y → leL y x → x = y
  | [], [], _, _ => rfl
  | [], b :: y, _, h => by
    have h' : true = false := h
    cases h'
  | a :: x, [], h, _ => by
    have h' : true = false := h
    cases h'
  | a :: x, b :: y, h1, h2 => by
    unfold leL at h1 h2
    rw [ltL_cons] at h1 h2
    by_cases e : a = b
    · subst e
      rw [if_pos rfl] at h1 h2
      rw [leL_antisymm (x := x) (y := y) h1 h2]
    · rw [if_neg e] at h2
      rw [if_neg fun z => e z.symm] at h1
      have := of_decide_eq_false h1
      have := of_decide_eq_false h2
      omega
theorem leL_refl : ∀ x : List Int, leL x x
  | [] => rfl
  | a :: x => by
    unfold leL
    rw [ltL_cons, if_pos rfl]
    exact leL_refl x
theorem ltL_trans : ∀ {x y z : List Int}, ltL x y = true → ltL y z = true → ltL x z = true
  | [], [], _, h, _ => by cases h
  | [], _ :: _, [], _, h => by cases h
  | [], _ :: _, _ :: _, _, _ => rfl
  | _ :: _, [], _, h, _ => by cases h
  | _ :: _, _ :: _, [], _, h => by cases h
  | a :: x, b :: y, c :: z, h1, h2 => by
    rw [ltL_cons] at h1 h2 ⊢
    by_cases e1 : a = b
    · by_cases e2 : b = c
      · rw [if_pos e1] at h1
        rw [if_pos e2] at h2
        rw [if_pos (e1.trans e2)]
        exact ltL_trans h1 h2
      · rw [if_neg e2] at h2
        rw [e1, if_neg e2]
        exact h2
    · rw [if_neg e1] at h1
      have := of_decide_eq_true h1
      by_cases e2 : b = c
      · rw [← e2, if_neg e1]
        exact h1
      · rw [if_neg e2] at h2
        have := of_decide_eq_true h2
        rw [if_neg (by omega)]
        exact decide_eq_true (by omega)
theorem ltL_total : ∀ {x y : List Int}, ltL x y = false → ltL y x = false → x = y := fun h1 h2 => leL_antisymm h2 h1
theorem ltL_asymm {x y : List Int} (h : ltL x y = true) : ltL y x = false := by
  cases e : ltL y x with
  | false => rfl
  | true =>
    have := ltL_trans h e
    rw [leL_refl x] at this
    cases this
theorem leL_trans {x y z : List Int} (h1 : leL x y) (h2 : leL y z) : leL x z := by
  cases e : ltL z x with
  | false => exact e
  | true =>
    by_cases c : ltL x y = true
    · have := ltL_trans e c
      rw [show ltL z y = false from h2] at this
      cases this
    · have e2 : x = y := ltL_total (by simpa using c) h1
      rw [e2] at e
      rw [show ltL z y = false from h2] at e
      cases e
/-- two lists in order of the same items are one -/
theorem sorted_unique : ∀ {l m : List (List Int)}, l.Perm m → l.Pairwise leL → m.Pairwise leL → l = m
  | [], m, p, _, _ => (List.nil_perm.mp p).symm ▸ rfl
  | a :: l, [], p, _, _ => absurd p.symm.nil_eq (by simp)
  | a :: l, b :: m, p, h1, h2 => by
    obtain ⟨a1, a2⟩ := List.pairwise_cons.mp h1
    obtain ⟨b1, b2⟩ := List.pairwise_cons.mp h2
    have e : a = b := by
      have ha : a ∈ b :: m := p.mem_iff.mp List.mem_cons_self
      have hb : b ∈ a :: l := p.mem_iff.mpr List.mem_cons_self
      rcases List.mem_cons.mp ha with e | ha
      · exact e
      rcases List.mem_cons.mp hb with e | hb
      · exact e.symm
      exact leL_antisymm (a1 b hb) (b1 a ha)
    subst e
    rw [sorted_unique ((List.perm_cons a).mp p) a2 b2]
def insM (x : List Int) : List (List Int) → List (List Int)
  | [] => [x]
  | y :: r => if ltL y x = true then y :: insM x r else x :: y :: r
def sortM : List (List Int) → List (List Int)
  | [] => []
  | x :: r => insM x (sortM r)
theorem insM_perm (x : List Int) : ∀ l : List (List Int), (insM x l).Perm (x :: l)
  | [] => .refl _
  | y :: r => by
    unfold insM
    split
    · exact ((insM_perm x r).cons y).trans (.swap x y r)
    · exact .refl _
theorem sortM_perm : ∀ l : List (List Int), (sortM l).Perm l
  | [] => .refl _
  | x :: r => (insM_perm x (sortM r)).trans ((sortM_perm r).cons x)
theorem insM_sorted (x : List Int) : ∀ l : List (List Int), l.Pairwise leL → (insM x l).Pairwise leL
  | [], _ => List.pairwise_singleton _ _
  | y :: r, h => by
    obtain ⟨h1, h2⟩ := List.pairwise_cons.mp h
    unfold insM
    split
    · rename_i c
      refine List.pairwise_cons.mpr ⟨fun z hz => ?_, insM_sorted x r h2⟩
      rcases List.mem_cons.mp ((insM_perm x r).mem_iff.mp hz) with e | hz
      · rw [e]
        exact ltL_asymm c
      · exact h1 z hz
    · rename_i c
      have c' : leL x y := by simpa [leL] using c
      refine List.pairwise_cons.mpr ⟨fun z hz => ?_, h⟩
      rcases List.mem_cons.mp hz with e | hz
      · rw [e]
        exact c'
      · exact leL_trans c' (h1 z hz)
theorem sortM_sorted : ∀ l : List (List Int), (sortM l).Pairwise leL
  | [] => List.Pairwise.nil
  | x :: r => insM_sorted x _ (sortM_sorted r)
theorem sortM_of {l m : List (List Int)} (p : l.Perm m) (h : l.Pairwise leL) : l = sortM m := sorted_unique (p.trans (sortM_perm m).symm) h (sortM_sorted m)
/-! ### the keys of a dict, as they come -/
def addK {α : Type} [DecidableEq α] (o : List α) (x : α) : List α := if x ∈ o then o else o ++ [x]
theorem put_keys {kvs : List (List Key × V)} {ks : List (List Int)} {x : List Int} {v : V} (h : kvs.map (·.1) = ks.map kk) : (putK kvs (kk x) v).map (·.1) = (addK ks x).map kk := by
  have e : (kvs.any fun kv => decide (kv.1 = kk x)) = decide (x ∈ ks) := by
    rw [Bool.eq_iff_iff, decide_eq_true_iff, List.any_eq_true]
    constructor
    · rintro ⟨p, hp, e⟩
      have e1 := of_decide_eq_true e
      have : p.1 ∈ kvs.map (·.1) := List.mem_map_of_mem hp
      rw [h, List.mem_map] at this
      obtain ⟨y, hy, e2⟩ := this
      rw [← kk_inj (e2.trans e1)]
      exact hy
    · intro hx
      have : kk x ∈ ks.map kk := List.mem_map_of_mem hx
      rw [← h, List.mem_map] at this
      obtain ⟨p, hp, e1⟩ := this
      exact ⟨p, hp, decide_eq_true e1⟩
  unfold putK addK
  by_cases c : x ∈ ks
  · rw [e, if_pos (decide_eq_true c), if_pos c, ← h, List.map_map]
    refine List.map_congr_left fun p _ => ?_
    show (if p.1 = kk x then (p.1, v) else p).1 = p.1
    split <;> rfl
  · rw [e, if_neg (by simpa using c), if_neg c, List.map_append, List.map_append, h]
    rfl
theorem addK_len {α : Type} [DecidableEq α] (o : List α) (x : α) : (addK o x).length ≤ o.length + 1 := by
  unfold addK
  split
  · omega
  · rw [List.length_append]
    exact Nat.le_refl _
theorem foldK_len {α : Type} [DecidableEq α] : ∀ (l o : List α), (l.foldl addK o).length ≤ o.length + l.length
  | [], _ => Nat.le_refl _
  | x :: l, o => by
    have h1 := foldK_len l (addK o x)
    have h2 := addK_len o x
    rw [List.foldl_cons, List.length_cons]
    omega
theorem keys_len {kvs : List (List Key × V)} {ks : List (List Int)} (h : kvs.map (·.1) = ks.map kk) : kvs.length = ks.length := by
  have := congrArg List.length h
  simpa using this
/-! ### names -/
def growM (n : Nat) (l : List (List Int)) : List (List Int) := l.flatMap fun nm => (List.range n).map fun p => nameM (robotM nm p)
def namesM (n : Nat) : Nat → List (List Int)
  | 0 => [List.replicate n 0]
  | k + 1 => sortM ((growM n (namesM n k)).foldl addK [])
def namesOk (n k : Nat) : Bool := (namesM n k).all (fun l => l.length == n && l.all fun x => decide (0 ≤ x) && decide (x < 4)) && decide ((namesM n k).length < 64)
theorem names_ok : ∀ n, 3 ≤ n → n ≤ 7 → ∀ k, k ≤ 3 → namesOk n k = true := by
  have h : ∀ n, n < 8 → ∀ k, k < 4 → 3 ≤ n → namesOk n k = true := by decide +kernel
  intro n h1 h2 k hk
  exact h n (by omega) k (by omega) h1
end RG
namespace RG
open PySem PySem.Spec PyProof.Rows L2
theorem growM_len (n : Nat) : ∀ l : List (List Int), (growM n l).length = l.length * n
  | [] => by simp [growM]
  | x :: l => by
    have ih := growM_len n l
    unfold growM at ih ⊢
    rw [List.flatMap_cons, List.length_append, ih, List.length_map, List.length_range, List.length_cons, Nat.succ_mul, Nat.add_comm]
theorem growM_snoc (n : Nat) (l : List (List Int)) (x : List Int) : growM n (l ++ [x]) = growM n l ++ (List.range n).map fun p => nameM (robotM x p) := by
  unfold growM
  rw [List.flatMap_append]
  simp
section
variable {P : Program} {w : World} {K : PySem.W.Frag} {mg : Str → Option Value} {base : Heap}
def spNames : Sp := fun vs H Q _ => ∃ (n k : Nat), vs = [.int (n : Int), .int (k : Int)] ∧ 3 ≤ n ∧ n ≤ 7 ∧ k ≤ 3 ∧
  ∀ H' p as, Same H H' → H p = none → H' p = some (.lst (as.map V.ref)) → Tups H' as (namesM n k) → Q (.ref p) H'
theorem get_refs {as : List Addr} {i : Nat} {x : V} (h : (as.map V.ref)[i]? = some x) : ∃ a, as[i]? = some a ∧ x = .ref a := by
  rw [List.getElem?_map, Option.map_eq_some_iff] at h
  obtain ⟨a, e, rfl⟩ := h
  exact ⟨a, e, rfl⟩
theorem rep_flat : ∀ n : Nat, (List.replicate n [V.int 0]).flatten = vI (List.replicate n 0)
  | 0 => rfl
  | n + 1 => by
    rw [List.replicate_succ, List.flatten_cons, rep_flat n, List.replicate_succ]
    rfl
/-- what the dict of one round holds behind so many names and so many places of the next -/
def seenM (n : Nat) (l : List (List Int)) (x : List Int) (m : Nat) : List (List Int) := (growM n l ++ (List.range m).map fun p => nameM (robotM x p)).foldl addK []
theorem seenM_succ (n : Nat) (l : List (List Int)) (x : List Int) (m : Nat) : seenM n l x (m + 1) = addK (seenM n l x m) (nameM (robotM x m)) := by
  unfold seenM
  rw [List.range_succ, List.map_append, ← List.append_assoc, List.foldl_append]
  rfl
theorem seenM_zero (n : Nat) (l : List (List Int)) (x : List Int) : seenM n l x 0 = (growM n l).foldl addK [] := by
  unfold seenM
  simp
theorem seenM_all (n : Nat) (l : List (List Int)) (x : List Int) : seenM n l x n = (growM n (l ++ [x])).foldl addK [] := by
  rw [growM_snoc]
  rfl
theorem seenM_len (n : Nat) (l : List (List Int)) (x : List Int) (m : Nat) : (seenM n l x m).length ≤ l.length * n + m := by
  have := foldK_len (growM n l ++ (List.range m).map fun p => nameM (robotM x p)) []
  unfold seenM
  simpa [growM_len] using this
def growOk (n k : Nat) : Bool := decide (((growM n (namesM n k)).foldl addK []).length < 64) && ((growM n (namesM n k)).foldl addK []).all fun l => l.length == n && l.all fun x => decide (0 ≤ x) && decide (x < 4)
theorem grow_ok : ∀ n, 3 ≤ n → n ≤ 7 → ∀ k, k < 3 → growOk n k = true := by
  have h : ∀ n, n < 8 → ∀ k, k < 3 → 3 ≤ n → growOk n k = true := by decide +kernel
  intro n h1 h2 k hk
  exact h n (by omega) k hk h1
theorem bd_of {n : Nat} {l : List Int} (h : (l.length == n && l.all fun x => decide (0 ≤ x) && decide (x < 4)) = true) : l.length = n ∧ TS.Bd 4 l := by
  rw [Bool.and_eq_true, List.all_eq_true] at h
  refine ⟨by simpa using h.1, fun x hx => ?_⟩
  have := h.2 x hx
  rw [Bool.and_eq_true] at this
  exact ⟨of_decide_eq_true this.1, of_decide_eq_true this.2⟩
theorem sc_names_of : FnScope ["places", "robots", "names", "robot", "larger", "name", "place"] ["places", "robots"] (defScope s_names_of) := ⟨rfl, rfl, rfl, by decide +kernel, rfl, by decide +kernel, by decide +kernel⟩
theorem ok_names_of (T : Txt K mg) : DefOk P w K mg base 4 "names_of" ["places", "robots"] spNames := by
  refine def_ok (F_names_of T) sc_names_of (fun _ _ _ _ _ _ us hl => match us, hl with | [_, _], _ => rfl) (fun vs H Q E h => by obtain ⟨a, l, rfl, _⟩ := h; rfl) fun f cdv A outer s H vs Q E hr h => ?_
  obtain ⟨n, k, rfl, n3, n7, k3, h⟩ := h
  refine ⟨_, pss_cons (ps_set (i := 2) sc_names_of.nd rfl (Or.inl rfl) (pe_lst (pa_cons (pe_op op_repT (pe_tup (pa_cons pe_int pa_nil)) (pv 0)) pa_nil)))
    (pss_cons (ps_for PassesOwn.never rfl (pi_range1 (by rfl) T.b_range (pa_cons (pv 1) pa_nil)) (pg_name (i := 3) sc_names_of.nd rfl (Or.inl rfl))
      (pss_cons (ps_set (i := 4) sc_names_of.nd rfl (Or.inl rfl) pe_dnewT)
      (pss_cons (ps_for PassesOwn.never rfl (pi_list (pv 2)) (pg_name (i := 5) sc_names_of.nd rfl (Or.inl rfl))
        (pss_one (ps_for PassesOwn.never rfl (pi_range1 (by rfl) T.b_range (pa_cons (pv 0) pa_nil)) (pg_name (i := 6) sc_names_of.nd rfl (Or.inl rfl))
          (pss_one (ps_dput (hu_of hr) (pv 4) (pe_cd (ok_name_of T) hr (pa_cons (pe_cd (ok_with_robot T) (hr.mono (by decide)) (pa_cons (pv 5) (pa_cons (pv 6) pa_nil))) pa_nil)) pe_bl rfl)))))
      (pss_one (ps_set (i := 2) sc_names_of.nd rfl (Or.inl rfl) (pe_callB (cr_sortDT (by rfl)) (by rfl) T.b_sorted (by decide +kernel) (pa_cons (pv 4) pa_nil)))))))
    (pss_one (ps_ret (pv 2)))), ?_⟩
  refine ⟨by show 1 ≤ sizeLine; decide, fun t ht => ⟨_, rfl, t, n, [.int 0], rfl, rfl, SqT.of upd_same, by simp, by omega, by omega, by simp, fun q hq => ⟨by show 1 ≤ sizeLine; decide, fun p hp => ?_⟩⟩⟩
  have s1 : Same H (upd (upd (upd H t (.tup [.int 0])) q (.tup (List.replicate ((n : Int)).toNat [V.int 0]).flatten)) p (.lst [.ref q])) := Same.new (Same.new (Same.new (Same.refl H) ht) hq) hp
  have hp0 : H p = none := Same.none (Same.new (Same.new (Same.refl H) ht) hq) hp
  have e0 : (List.replicate ((n : Int)).toNat [V.int 0]).flatten = vI (List.replicate n 0) := by rw [Int.toNat_natCast, rep_flat]
  have t1 : Tups (upd (upd (upd H t (.tup [.int 0])) q (.tup (List.replicate ((n : Int)).toNat [V.int 0]).flatten)) p (.lst [.ref q])) [q] (namesM n 0) := by
    refine Paired.one ?_
    rw [upd_ne (ne_of_none upd_same hp), upd_same, e0]
  have p1 : upd (upd (upd H t (.tup [.int 0])) q (.tup (List.replicate ((n : Int)).toNat [V.int 0]).flatten)) p (.lst [.ref q]) p = some (.lst ([q].map V.ref)) := upd_same
  generalize (upd (upd (upd H t (.tup [.int 0])) q (.tup (List.replicate ((n : Int)).toNat [V.int 0]).flatten)) p (.lst [.ref q])) = H1 at s1 t1 p1
  refine ⟨_, rfl, _, rfl, by omega, by omega, ?_⟩
  rw [Int.toNat_natCast]
  refine for_range (lo := 0) (n := k) (fun i σ H' => ∃ p as v3 v4 v5 v6, σ = [some (.int (n : Int)), some (.int (k : Int)), some (.ref p), v3, v4, v5, v6] ∧ Same H H' ∧ H p = none ∧ H' p = some (.lst (as.map V.ref)) ∧ Tups H' as (namesM n i))
    ⟨p, [q], none, none, none, none, rfl, s1, hp0, p1, t1⟩ ?_ ?_
  · rintro i σ H2 hi ⟨p, as, v3, v4, v5, v6, rfl, s2, hp, p2, t2⟩
    obtain ⟨g1, g2⟩ := Bool.and_eq_true_iff.mp (grow_ok n n3 n7 i (by omega))
    have g1 := of_decide_eq_true g1
    obtain ⟨o1, o2⟩ := Bool.and_eq_true_iff.mp (names_ok n n3 n7 i (by omega))
    have o2 := of_decide_eq_true o2
    intro d hd
    have as_len : as.length = (namesM n i).length := Paired.len' t2
    refine ⟨_, rfl, p, rfl, ⟨_, SqL.of (Same.new (Same.refl H2) hd _ _ p2)⟩, for_list (K := K) (a := p) (xs := as.map V.ref) (fun j σ H' => ∃ kvs v5 v6, σ = [some (.int (n : Int)), some (.int (k : Int)), some (.ref p), some (.int (0 + (i : Int))), some (.ref d), v5, v6] ∧ Same H2 H' ∧ H' d = some (.dT kvs) ∧
      kvs.map (·.1) = ((growM n ((namesM n i).take j)).foldl addK []).map kk) ⟨[], v5, v6, rfl, Same.new (Same.refl H2) hd, upd_same, rfl⟩ (fun j σ H' _ ⟨_, _, _, _, s3, _⟩ => SqL.of (s3 _ _ p2)) ?_ ?_⟩
    · rintro j x σ H3 hx ⟨kvs, v5, v6, rfl, s3, d3, k3⟩
      obtain ⟨b, hb, rfl⟩ := get_refs hx
      obtain ⟨l, hl, e⟩ := Paired.left t2 hb
      have l_ok := bd_of (List.all_eq_true.mp o1 l (List.mem_of_getElem? hl))
      refine ⟨_, rfl, _, rfl, by omega, by omega, ?_⟩
      rw [Int.toNat_natCast]
      refine for_range (lo := 0) (n := n) (fun m σ H' => ∃ kvs v6, σ = [some (.int (n : Int)), some (.int (k : Int)), some (.ref p), some (.int (0 + (i : Int))), some (.ref d), some (.ref b), v6] ∧ Same H2 H' ∧ H' d = some (.dT kvs) ∧
        kvs.map (·.1) = (seenM n ((namesM n i).take j) l m).map kk) ⟨kvs, v6, rfl, s3, d3, by rw [seenM_zero]; exact k3⟩ ?_ ?_
      · rintro m σ H4 hm ⟨kvs, v6, rfl, s4, d4, k4⟩
        refine ⟨_, rfl, _, rfl, _, rfl, b, l, m, by rw [Int.zero_add]; rfl, Sq.tup (s4 _ _ e), by rw [l_ok.1]; exact hm, fun H5 q s5 hq e5 => ?_⟩
        refine ⟨q, robotM l m, rfl, Sq.tup e5, by unfold robotM; rw [List.length_set, l_ok.1]; omega, by unfold robotM; rw [List.length_set, l_ok.1]; omega, fun H6 r s6 e6 => ?_⟩
        have kl : kvs.length < sizeLine := by
          rw [keys_len k4]
          have h1 := seenM_len n ((namesM n i).take j) l m
          have h2 : ((namesM n i).take j).length ≤ 64 := by rw [List.length_take]; omega
          have h3 := Nat.mul_le_mul h2 n7
          exact Nat.lt_of_le_of_lt (show _ ≤ 500 by omega) (by decide)
        have d6 : H6 d = some (.dT kvs) := s6 _ _ (s5 _ _ d4)
        refine ⟨d, _, rfl, DPut.t (k := kk (nameM (robotM l m))) d6 (by rw [kk_kV]; exact e6) kl, ?_⟩
        exact ⟨_, _, rfl, Same.at_ (Same.trans s4 (Same.trans s5 s6)) hd, upd_same, by rw [seenM_succ]; exact put_keys k4⟩
      · rintro σ H4 ⟨kvs, v6, rfl, s4, d4, k4⟩
        refine ⟨kvs, _, _, rfl, s4, d4, ?_⟩
        rw [k4, seenM_all, ← take_snoc hl]
    · rintro σ H3 ⟨kvs, v5, v6, rfl, s3, d3, k3⟩
      rw [List.length_map, as_len, List.take_length] at k3
      refine ⟨_, rfl, d, kvs, _, n, 4, rfl, .inl d3, k3, g1, by omega, fun l hl => bd_of (List.all_eq_true.mp g2 l hl), fun bs L r pm so t5 hr5 => ?_⟩
      refine ⟨r, bs, _, _, _, _, rfl, Same.trans s2 (Same.new s3 hr5), Same.none s2 (Same.none s3 hr5), upd_same, ?_⟩
      have eL : L = namesM n (i + 1) := sortM_of pm so
      rw [← eL]
      exact Tups.same (Same.new (Same.refl H3) hr5) t5
  · rintro σ H2 ⟨p, as, v3, v4, v5, v6, rfl, s2, hp, p2, t2⟩
    exact ⟨_, rfl, h H2 p as s2 hp p2 t2⟩
end
end RG
namespace RG
open PySem PySem.Spec PyProof.Rows L2
/-! ### comparing tuples of numbers -/
theorem eqv_ints : ∀ x y : List Int, PyData.eqvAll (x.map PyData.int) (y.map PyData.int) = decide (x = y)
  | [], [] => rfl
  | [], _ :: _ => by simp [PyData.eqvAll]
  | _ :: _, [] => by simp [PyData.eqvAll]
  | a :: x, b :: y => by
    rw [List.map_cons, List.map_cons, PyData.eqvAll, eqv_ints x y]
    simp only [PyData.eqv]
    by_cases e : a = b
    · subst e
      simp
    · simp [e]
theorem eqv_tup (x y : List Int) : PyData.eqv (tupD x) (tupD y) = decide (x = y) := by
  unfold tupD
  rw [PyData.eqv]
  exact eqv_ints x y
theorem dp_ints {K : PySem.W.Frag} {H : Hp} : ∀ l : List Int, DpAll K H (vI l) (l.map PyData.int)
  | [] => .nil
  | x :: l => .cons (.int x) (dp_ints l)
theorem lay_ints : ∀ l : List Int, PyData.canLayAll0 (l.map PyData.int) = true
  | [] => rfl
  | x :: l => by
    rw [List.map_cons, PyData.canLayAll0, lay_ints l]
    rfl
theorem shaped_tup (l : List Int) : SeqAt.shaped (tupD l) = true := by
  unfold SeqAt.shaped
  have e : (tupD l).depth = 1 := by
    unfold tupD
    rw [PyData.depth, depth_ints]
  rw [e]
  have e2 : (tupD l).canLay0 = true := by
    unfold tupD
    rw [PyData.canLay0]
    exact lay_ints l
  rw [e2]
  rfl
section
variable {X : Cx}
def rEqT (K : PySem.W.Frag) : R2 := fun x y H Q => ∃ (a b : Addr) (l m : List Int), x = .ref a ∧ y = .ref b ∧ SqT K H a (vI l) ∧ SqT K H b (vI m) ∧ Q (.bl (decide (l = m))) H
theorem op_eqT (hu : X.A.units + 64 < cLine) : OpR X (compareOp .Eq) (rEqT X.K) := by
  intro pins s σ H x y v u Q I rx ry h
  obtain ⟨a, b, l, m, rfl, rfl, h1, h2, q⟩ := h
  refine op_eqD hu pins s σ H _ _ v u Q I rx ry ⟨tupD l, tupD m, .tup h1 (dp_ints l), .tup h2 (dp_ints m), shaped_tup l, shaped_tup m, ?_⟩
  rw [eqv_tup]
  exact q
def rLeTT : R2 := fun x y H Q => ∃ (a b : Addr) (l m : List Int), x = .ref a ∧ y = .ref b ∧ H a = some (.tup (vI l)) ∧ H b = some (.tup (vI m)) ∧ Q (.bl (!ltL m l)) H
theorem op_leTT (hu : X.A.units + 2 < cLine) : OpR X (compareOp .LtE) rLeTT := by
  intro pins s σ H x y v u Q I rx ry h
  obtain ⟨a, b, l, m, rfl, rfl, h1, h2, q⟩ := h
  cases rx
  cases ry
  have hd := depth_tups [l]
  refine PySem.W.le_data (reads_tup I.hok h1) (reads_tup I.hok h2) (alike_ints l m) (by intro z; cases z) ?_ ?_
  · have e : (tupD l).depth = 1 := by
      unfold tupD
      rw [PyData.depth, depth_ints]
    have := Nat.min_le_left (tupD l).depth (tupD m).depth
    omega
  · rw [dataLt_tup]
    exact ⟨.bl _, H, I, rfl, q⟩
end
/-! ### what is seen -/
def seenI (e c : Int) : Int := if e = 0 then c else if e = 1 then (if 2 < c then 2 else c) else (if 1 < c then 1 else c)
structure SightD where
  place : Int
  lesser : List Int
  even : Bool
  way : Int
  deriving DecidableEq
def sightM (l : List Int) (p : Nat) (e : Int) : SightD :=
  let sh := l.map (seenI e)
  let on := rowM sh p 1
  let bk := rowM sh p (-1)
  ⟨p, if ltL bk on = true then bk else on, decide (on = bk), if (!ltL bk on) = true then 1 else -1⟩
def SightAt (K : PySem.W.Frag) (H : Hp) (a : Addr) (d : SightD) : Prop :=
  ∃ dx lp, H a = some (.ins (He.ga K "Sight") dx [("place", .int d.place), ("lesser", .ref lp), ("even", .bl d.even), ("way", .int d.way)]) ∧ H lp = some (.tup (vI d.lesser))
theorem SightAt.same {K : PySem.W.Frag} {H H' : Hp} {a : Addr} {d : SightD} (s : Same H H') (h : SightAt K H a d) : SightAt K H' a d := by
  obtain ⟨dx, lp, h1, h2⟩ := h
  exact ⟨dx, lp, s _ _ h1, s _ _ h2⟩
section
variable {P : Program} {w : World} {K : PySem.W.Frag} {mg : Str → Option Value} {base : Heap}
def spSeen : Sp := fun vs H Q _ => ∃ c e : Int, vs = [.int c, .int e] ∧ Q (.int (seenI e c)) H
theorem sc_seen : FnScope ["count", "eyes"] ["count", "eyes"] (defScope s_seen) := ⟨rfl, rfl, rfl, by decide +kernel, rfl, by decide +kernel, by decide +kernel⟩
theorem ok_seen (T : Txt K mg) : DefOk P w K mg base 1 "seen" ["count", "eyes"] spSeen := by
  refine def_ok (F_seen T) sc_seen (fun _ _ _ _ _ _ us hl => match us, hl with | [_, _], _ => rfl) (fun vs H Q E h => by obtain ⟨c, e, rfl, _⟩ := h; rfl) fun f cdv A outer s H vs Q E hr h => ?_
  obtain ⟨c, e, rfl, h⟩ := h
  refine ⟨_, pss_cons (ps_if (pt_cmpR op_eq (pv 1) pe_int (nomark _)) (pss_one (ps_ret (pv 0))) pss_nil)
    (pss_cons (ps_if (pt_cmpR op_eq (pv 1) pe_int (nomark _)) (pss_one (ps_ret (pe_callB (call_min2 rfl) (by rfl) T.b_min (by decide +kernel) (pa_cons (pv 0) (pa_cons pe_int pa_nil))))) pss_nil)
    (pss_one (ps_ret (pe_callB (call_min2 rfl) (by rfl) T.b_min (by decide +kernel) (pa_cons (pv 0) (pa_cons pe_int pa_nil)))))), ?_⟩
  refine ⟨_, rfl, rfl, _, rfl, ?_⟩
  unfold seenI at h
  by_cases e0 : e = 0
  · rw [if_pos e0] at h
    rw [dec_int, decide_eq_true e0]
    exact ⟨_, rfl, h⟩
  · rw [if_neg e0] at h
    rw [dec_int, decide_eq_false e0]
    refine ⟨_, rfl, rfl, _, rfl, ?_⟩
    by_cases e1 : e = 1
    · rw [if_pos e1] at h
      rw [dec_int, decide_eq_true e1]
      exact ⟨_, rfl, _, _, rfl, h⟩
    · rw [if_neg e1] at h
      rw [dec_int, decide_eq_false e1]
      exact ⟨_, rfl, _, _, rfl, h⟩
def spSightI (K : PySem.W.Frag) : Sp := fun vs H Q _ => ∃ (p dx a : Addr) (l : List Int) (pl : Nat) (e : Int), vs = [.ref p, .ref a, .int (pl : Int), .int e] ∧ H p = some (.ins (He.ga K "Sight") dx []) ∧ H a = some (.tup (vI l)) ∧ 0 < l.length ∧ l.length ≤ 1000 ∧
  ∀ H', SightAt K H' p (sightM l pl e) → (∀ b o, H b = some o → b ≠ p → H' b = some o) → Q .non H'
theorem sc_Sight_init : FnScope ["self", "ring", "place", "eyes", "shown", "onward", "backward", "count"] ["self", "ring", "place", "eyes"] (defScope s_Sight_init) := ⟨rfl, rfl, rfl, by decide +kernel, rfl, by decide +kernel, by decide +kernel⟩
theorem ok_Sight_init (T : Txt K mg) : InitOk P w K mg base 2 "Sight" ["self", "ring", "place", "eyes"] (spSightI K) := by
  refine init_ok (F_Sight_init T) sc_Sight_init (fun _ _ _ _ _ _ us hl => match us, hl with | [_, _, _, _], _ => rfl) (fun vs H Q E h => by obtain ⟨c, e, _, _, _, _, rfl, _⟩ := h; rfl) fun f cdv A outer s H vs Q E hr h => ?_
  obtain ⟨p, dx, a, l, pl, e, rfl, hp, ha, h0, hl, h⟩ := h
  refine ⟨_, pss_cons (ps_setLc (i := 4) (own := [("count", 7)]) (g := gName 7) (tt := tYes) (by rfl) sc_Sight_init.nd rfl rfl (sw_true rfl rfl rfl (by decide +kernel)) (pi_tup (pv 1)) (blkOk_by (N := ["self", "ring", "place", "eyes", "shown", "onward", "backward", "count"]) (sc := defScope s_Sight_init) (own := [("count", 7)]) (by decide +kernel))
      (fun _ _ _ _ _ => pg_name (i := 7) sc_Sight_init.nd rfl (Or.inl rfl)) (fun _ _ _ _ _ => pts_nil) (fun _ _ _ _ _ => pe_cd (ok_seen T) hr (pa_cons (pv 7) (pa_cons (pv 3) pa_nil))))
    (pss_cons (ps_set (i := 5) sc_Sight_init.nd rfl (Or.inl rfl) (pe_cd (ok_row_from T) hr (pa_cons (pv 4) (pa_cons (pv 2) (pa_cons pe_int pa_nil)))))
    (pss_cons (ps_set (i := 6) sc_Sight_init.nd rfl (Or.inl rfl) (pe_cd (ok_row_from T) hr (pa_cons (pv 4) (pa_cons (pv 2) (pa_cons (pe_un un_neg pe_int) pa_nil)))))
    (pss_cons (ps_fld (pv 0) (pv 2) rfl)
    (pss_cons (ps_fld (pv 0) (pe_callB (cr_min2T (by rfl) (hu2 hr)) (by rfl) T.b_min (by decide +kernel) (pa_cons (pv 5) (pa_cons (pv 6) pa_nil))) rfl)
    (pss_cons (ps_fld (pv 0) (pe_cmpR (op_eqT hr.units) (pv 5) (pv 6) (nomark _)) rfl)
    (pss_one (ps_fld (pv 0) (pe_ifExp (pt_cmpR (op_leTT (hu2 hr)) (pv 5) (pv 6) (nomark _)) pe_int (pe_un un_neg pe_int)) rfl))))))), ?_⟩
  have pa : p ≠ a := ne_of hp ha (by intro z; cases z)
  refine ⟨_, rfl, a, rfl, ⟨_, SqT.of ha⟩, fun D hD => ?_⟩
  refine lc_tup (K := K) (a := a) (xs := vI l) (fun i H' => Same H H' ∧ H' D = some (.lst (vI ((l.map (seenI e)).take i)))) ⟨Same.new (Same.refl H) hD, upd_same⟩ (fun i H1 _ ⟨s1, _⟩ => SqT.of (s1 _ _ ha)) (fun i x H1 hx ⟨s1, h1⟩ => ?_) fun H1 ⟨s1, h1⟩ => ?_
  · rw [List.getElem?_map, Option.map_eq_some_iff] at hx
    obtain ⟨c, hc, rfl⟩ := hx
    refine ⟨rfl, yesT ⟨_, rfl, _, rfl, c, e, rfl, _, h1, ?_, Same.at_ s1 hD, ?_⟩⟩
    · rw [vI_len]
      exact small_take (n := 0) i (by rw [List.length_map]; omega)
    · rw [vI_snoc (l := l.map (seenI e)) (x := seenI e c) (by rw [List.getElem?_map, hc]; rfl)]
      exact upd_same
  · rw [vI_len, ← List.length_map (f := seenI e) (as := l), List.take_length] at h1
    have hlen : (l.map (seenI e)).length = l.length := List.length_map ..
    refine ⟨_, rfl, _, rfl, D, l.map (seenI e), _, 1, rfl, Sq.lst h1, by omega, by omega, .inl rfl, fun H2 q s2 hq2 hq => ?_⟩
    refine ⟨_, rfl, _, rfl, 1, rfl, D, l.map (seenI e), _, -1, rfl, Sq.lst (s2 _ _ h1), by omega, by omega, .inr rfl, fun H3 r s3 hr3 hr => ?_⟩
    have s13 : Same H H3 := Same.trans s1 (Same.trans s2 s3)
    have q3 := s3 _ _ hq
    have pq : p ≠ q := ne_of (s13 _ _ hp) q3 (by intro z; cases z)
    have pr : p ≠ r := ne_of (s13 _ _ hp) hr (by intro z; cases z)
    refine ⟨_, rfl, _, rfl, p, _, dx, _, rfl, s13 _ _ hp, T.cl_Sight, T.n_Sight_place, by decide, ?_⟩
    refine ⟨_, rfl, _, rfl, q, r, _, _, rfl, by rw [upd_ne pq.symm]; exact q3, by rw [upd_ne pr.symm]; exact hr, fun m hm => ?_⟩
    refine ⟨_, rfl, p, _, dx, _, rfl, upd_same, T.cl_Sight, T.n_Sight_lesser, by show 1 < 1000; decide, ?_⟩
    rw [upd_upd]
    refine ⟨_, rfl, _, rfl, q, r, _, _, rfl, rfl, SqT.of (by rw [upd_ne pq.symm]; exact q3), SqT.of (by rw [upd_ne pr.symm]; exact hr), ?_⟩
    refine ⟨_, rfl, p, _, dx, _, rfl, upd_same, T.cl_Sight, T.n_Sight_even, by show 2 < 1000; decide, ?_⟩
    rw [upd_upd]
    refine ⟨_, rfl, _, rfl, q, r, _, _, rfl, rfl, by rw [upd_ne pq.symm]; exact q3, by rw [upd_ne pr.symm]; exact hr, _, rfl, ?_⟩
    have pm : m ≠ p := fun z => by
      rw [z, upd_same] at hm
      cases hm
    have hm3 : H3 m = some (.tup (vI (sightM l pl e).lesser)) := by
      rw [upd_ne pm] at hm
      exact hm
    have fin : ∀ wy : Int, wy = (sightM l pl e).way → Q .non (upd H3 p (.ins (He.ga K "Sight") dx [("place", .int pl), ("lesser", .ref m), ("even", .bl (sightM l pl e).even), ("way", .int wy)])) := fun wy ew => by
      refine h _ ⟨dx, m, ?_, ?_⟩ fun b o e hb => ?_
      · rw [ew]
        exact upd_same
      · rw [upd_ne pm]
        exact hm3
      · rw [upd_ne hb]
        exact s13 _ _ e
    by_cases c : (!ltL (rowM (l.map (seenI e)) pl (-1)) (rowM (l.map (seenI e)) pl 1)) = true
    · have ew : (1 : Int) = (sightM l pl e).way := by
        show 1 = if (!ltL (rowM (l.map (seenI e)) pl (-1)) (rowM (l.map (seenI e)) pl 1)) = true then 1 else -1
        rw [if_pos c]
      rw [c]
      refine ⟨_, rfl, p, _, dx, _, rfl, upd_same, T.cl_Sight, T.n_Sight_way, by show 3 < 1000; decide, ?_⟩
      rw [upd_upd]
      exact fin 1 ew
    · have ew : (-1 : Int) = (sightM l pl e).way := by
        show -1 = if (!ltL (rowM (l.map (seenI e)) pl (-1)) (rowM (l.map (seenI e)) pl 1)) = true then 1 else -1
        rw [if_neg c]
      have c' : (!ltL (rowM (l.map (seenI e)) pl (-1)) (rowM (l.map (seenI e)) pl 1)) = false := by simpa using c
      rw [c']
      refine ⟨1, rfl, _, rfl, p, _, dx, _, rfl, upd_same, T.cl_Sight, T.n_Sight_way, by show 3 < 1000; decide, ?_⟩
      rw [upd_upd]
      exact fin (-1) ew
end
end RG
namespace RG
open PySem PySem.Spec PyProof.Rows L2
def sightsM (l : List Int) (e : Int) : List SightD := ((List.range l.length).filter fun p => decide (0 < l.getD p 0)).map fun p => sightM l p e
abbrev Sights (K : PySem.W.Frag) (H : Hp) : List Addr → List SightD → Prop := Paired fun a d => SightAt K H a d
section
variable {P : Program} {w : World} {K : PySem.W.Frag} {mg : Str → Option Value} {base : Heap}
def spSights (K : PySem.W.Frag) : Sp := fun vs H Q _ => ∃ (a : Addr) (l : List Int) (e : Int), vs = [.ref a, .int e] ∧ H a = some (.tup (vI l)) ∧ 0 < l.length ∧ l.length ≤ 1000 ∧
  ∀ H' p bs, Same H H' → H p = none → H' p = some (.lst (bs.map V.ref)) → Sights K H' bs (sightsM l e) → Q (.ref p) H'
theorem sc_sights_of : FnScope ["ring", "eyes", "place"] ["ring", "eyes"] (defScope s_sights_of) := ⟨rfl, rfl, rfl, by decide +kernel, rfl, by decide +kernel, by decide +kernel⟩
theorem Sights.same {K : PySem.W.Frag} {H H' : Hp} (s : Same H H') {bs : List Addr} {ds : List SightD} (h : Sights K H bs ds) : Sights K H' bs ds := Paired.imp' (fun _ _ e => SightAt.same s e) h
theorem SightAt.upd {K : PySem.W.Frag} {H : Hp} {p a : Addr} {d : SightD} {xs : List V} {o : HO} (hp : H p = some (.lst xs)) (h : SightAt K H a d) : SightAt K (upd H p o) a d := by
  obtain ⟨dx, lp, h1, h2⟩ := h
  exact ⟨dx, lp, upd_other hp h1 (by intro z; cases z), upd_other hp h2 (by intro z; cases z)⟩
theorem ok_sights_of (T : Txt K mg) : DefOk P w K mg base 4 "sights_of" ["ring", "eyes"] (spSights K) := by
  refine def_ok (F_sights_of T) sc_sights_of (fun _ _ _ _ _ _ us hl => match us, hl with | [_, _], _ => rfl) (fun vs H Q E h => by obtain ⟨c, l, e, rfl, _⟩ := h; rfl) fun f cdv A outer s H vs Q E hr h => ?_
  obtain ⟨a, l, e, rfl, ha, h0, hl, h⟩ := h
  refine ⟨_, pss_one (ps_ret (pe_lc (own := [("place", 2)]) (g := gName 2) (by rfl) sc_sights_of.nd (pi_range1 (by rfl) T.b_range (pa_cons (pe_len T.b_len (pa_cons (pv 0) pa_nil)) pa_nil)) (blkOk_by (N := ["ring", "eyes", "place"]) (sc := defScope s_sights_of) (own := [("place", 2)]) (by decide +kernel))
      (fun _ _ _ _ _ => pg_name (i := 2) sc_sights_of.nd rfl (Or.inl rfl)) (fun _ _ _ _ _ => pts_one (pt_cmpR op_gt (pe_ix (r := rIxT K) ix_tup (pv 0) (pv 2) (fun _ _ => rfl)) pe_int (nomark _)))
      (fun _ _ _ _ _ => pe_mk (He.ga K "Sight") (ok_Sight_init T) hr T.g_Sight (pa_cons (pv 0) (pa_cons (pv 2) (pa_cons (pv 1) pa_nil)))))), ?_⟩
  refine ⟨_, rfl, a, vI l, rfl, .inr (SqT.of ha), ?_⟩
  rw [vI_len]
  refine ⟨_, rfl, by omega, by omega, fun D hD => ?_⟩
  rw [Int.toNat_natCast]
  refine lc_range (lo := 0) (n := l.length) (fun i H' => ∃ bs, Same H H' ∧ H' D = some (.lst (bs.map V.ref)) ∧ Sights K H' bs (((List.range i).filter fun p => decide (0 < l.getD p 0)).map fun p => sightM l p e)) ⟨[], Same.new (Same.refl H) hD, upd_same, .nil⟩ (fun i H1 hi ⟨bs, s1, h1, t1⟩ => ?_) fun H1 ⟨bs, s1, h1, t1⟩ => ?_
  · have hg := vI_get hi
    refine ⟨rfl, _, rfl, _, rfl, a, vI l, _, _, rfl, rfl, SqT.of (s1 _ _ ha), by rw [Int.zero_add]; exact atI_nat hg, _, _, rfl, rfl, _, rfl, ?_⟩
    by_cases c : 0 < l.getD i 0
    · refine ifT c ?_
      refine ⟨_, rfl, _, rfl, _, rfl, ?_⟩
      intro x dx nx nd ne
      have ax : a ≠ x := ne_of_none (s1 _ _ ha) nx
      have ad : a ≠ dx := ne_of_none (s1 _ _ ha) nd
      refine ⟨x, dx, a, l, i, e, by rw [Int.zero_add]; rfl, upd_same, by rw [upd_ne ax, upd_ne ad]; exact s1 _ _ ha, h0, hl, fun H2 sa kp => ⟨rfl, ?_⟩⟩
      have s2 : Same H1 H2 := Same.made nx nd kp
      have h2 := s2 _ _ h1
      have lb : bs.length ≤ i := by
        rw [Paired.len' t1, List.length_map]
        exact Nat.le_trans (List.length_filter_le _ _) (by rw [List.length_range]; exact Nat.le_refl _)
      refine ⟨_, h2, by rw [List.length_map]; exact Nat.lt_of_le_of_lt (show bs.length ≤ 1000 by omega) (by decide), bs ++ [x], Same.at_ (Same.trans s1 s2) hD, by rw [List.map_append]; exact upd_same, ?_⟩
      rw [List.range_succ, List.filter_append, List.map_append]
      refine Paired.app' (Paired.imp' (fun _ _ z => SightAt.upd h2 z) (Sights.same s2 t1)) ?_
      rw [List.filter_cons, if_pos (decide_eq_true c)]
      exact Paired.one (SightAt.upd h2 sa)
    · refine ifF c ⟨bs, s1, h1, ?_⟩
      rw [List.range_succ, List.filter_append, List.map_append, List.filter_cons, if_neg (by rw [decide_eq_false c]; decide)]
      simpa using t1
  · exact h _ D bs s1 hD h1 t1
end
end RG
namespace RG
open PySem PySem.Spec PyProof.Rows L2
abbrev KVs : Type := List (List Key × V)
/-- each ring's number: what the dict holds behind the names -/
def numName (acc : KVs) (i : Nat) (rs : List (List Int)) : KVs := rs.foldl (fun o r => putK o (kk r) (.int (i : Int))) acc
def numsM (l : List (List Int)) : KVs := l.zipIdx.foldl (fun o p => numName o p.2 (likeM p.1)) []
theorem numsM_snoc (l : List (List Int)) (x : List Int) : numsM (l ++ [x]) = numName (numsM l) l.length (likeM x) := by
  unfold numsM
  rw [List.zipIdx_append, List.foldl_append]
  simp
theorem numName_snoc (acc : KVs) (i : Nat) (rs : List (List Int)) (r : List Int) : numName acc i (rs ++ [r]) = putK (numName acc i rs) (kk r) (.int (i : Int)) := by
  unfold numName
  rw [List.foldl_append]
  rfl
theorem numName_len (i : Nat) : ∀ (rs : List (List Int)) (acc : KVs), (numName acc i rs).length ≤ acc.length + rs.length
  | [], _ => Nat.le_refl _
  | r :: rs, acc => by
    have h1 := numName_len i rs (putK acc (kk r) (.int (i : Int)))
    have h2 := length_putK acc (kk r) (.int (i : Int))
    unfold numName at h1 ⊢
    rw [List.foldl_cons, List.length_cons]
    omega
theorem likeM_len (l : List Int) : (likeM l).length = l.length * 2 := len_flat _ 2 (fun _ => rfl) l.length
theorem numsM_len : ∀ (n : Nat) (l : List (List Int)), l.length = n → (∀ x ∈ l, x.length ≤ 1000) → (numsM l).length ≤ n * 2000
  | 0, l, h, _ => by
    rw [List.length_eq_zero_iff.mp h]
    decide
  | n + 1, l, h, hx => by
    have e : l = l.dropLast ++ [l.getLast (by intro z; rw [z] at h; cases h)] := (List.dropLast_concat_getLast _).symm
    have h1 := numsM_len n l.dropLast (by rw [List.length_dropLast]; omega) fun x q => hx x (List.dropLast_subset l q)
    have h2 := numName_len l.dropLast.length (likeM (l.getLast (by intro z; rw [z] at h; cases h))) (numsM l.dropLast)
    rw [likeM_len] at h2
    have h3 := hx _ (List.getLast_mem (l := l) (by intro z; rw [z] at h; cases h))
    rw [e, numsM_snoc]
    omega
section
variable {P : Program} {w : World} {K : PySem.W.Frag} {mg : Str → Option Value} {base : Heap}
def spNums : Sp := fun vs H Q _ => ∃ (a : Addr) (as : List Addr) (L : List (List Int)), vs = [.ref a] ∧ H a = some (.lst (as.map V.ref)) ∧ Tups H as L ∧ L.length ≤ 100 ∧ (∀ l ∈ L, 0 < l.length ∧ l.length ≤ 1000) ∧
  ∀ H' p, Same H H' → H p = none → H' p = some (.dT (numsM L)) → Q (.ref p) H'
theorem sc_numbers_of_rings : FnScope ["names", "numbers", "number", "name", "ring"] ["names"] (defScope s_numbers_of_rings) := ⟨rfl, rfl, rfl, by decide +kernel, rfl, by decide +kernel, by decide +kernel⟩
theorem ok_numbers_of_rings (T : Txt K mg) : DefOk P w K mg base 3 "numbers_of_rings" ["names"] spNums := by
  refine def_ok (F_numbers_of_rings T) sc_numbers_of_rings (fun _ _ _ _ _ _ us hl => match us, hl with | [_], _ => rfl) (fun vs H Q E h => by obtain ⟨c, l, e, rfl, _⟩ := h; rfl) fun f cdv A outer s H vs Q E hr h => ?_
  obtain ⟨a, as, L, rfl, ha, ht, hL, hl, h⟩ := h
  refine ⟨_, pss_cons (ps_set (i := 1) sc_numbers_of_rings.nd rfl (Or.inl rfl) pe_dnewT)
    (pss_cons (ps_for PassesOwn.never rfl (pi_enum (by rfl) T.b_enumerate (pa_cons (pv 0) pa_nil)) (pg_tup rfl (pgs_cons (pg_name (i := 2) sc_numbers_of_rings.nd rfl (Or.inl rfl)) (pgs_cons (pg_name (i := 3) sc_numbers_of_rings.nd rfl (Or.inl rfl)) pgs_nil)))
      (pss_one (ps_for PassesOwn.never rfl (pi_list (pe_cd (ok_rings_like T) hr (pa_cons (pv 3) pa_nil))) (pg_name (i := 4) sc_numbers_of_rings.nd rfl (Or.inl rfl))
        (pss_one (ps_dput (hu_of hr) (pv 1) (pv 4) (pv 2) rfl)))))
    (pss_one (ps_ret (pv 1)))), ?_⟩
  intro d hd
  have has : as.length = L.length := Paired.len' ht
  refine ⟨_, rfl, a, as.map V.ref, rfl, SqL.of (Same.new (Same.refl H) hd _ _ ha), ?_⟩
  refine for_it (walk_enum (K := K) (a := a) (xs := as.map V.ref)) (fun i σ H' => ∃ v2 v3 v4, σ = [some (.ref a), some (.ref d), v2, v3, v4] ∧ Same H H' ∧ H' d = some (.dT (numsM (L.take i))))
    ⟨none, none, none, rfl, Same.new (Same.refl H) hd, upd_same⟩ (fun i σ H' _ ⟨_, _, _, _, s1, _⟩ => SqL.of (s1 _ _ ha)) ?_ ?_
  · rintro i x σ H1 H2 hi ⟨v2, v3, v4, rfl, s1, h1⟩ ⟨t, y, z, rfl, ht0, rfl, ey, ez⟩
    cases ey
    obtain ⟨b, hb, rfl⟩ := get_refs ez
    obtain ⟨l, el, e⟩ := Paired.left ht hb
    have s2 : Same H (upd H1 t (.tup [.int (i : Int), .ref b])) := Same.new s1 ht0
    refine ⟨t, _, rfl, SqT.of upd_same, rfl, _, _, rfl, _, _, rfl, rfl, ?_⟩
    have hll := hl l (List.mem_of_getElem? el)
    have d2 : upd H1 t (.tup [.int (i : Int), .ref b]) d = some (.dT (numsM (L.take i))) := by
      rw [upd_ne (ne_of_none h1 ht0)]
      exact h1
    generalize upd H1 t (.tup [.int (i : Int), .ref b]) = H2 at s2 d2
    refine ⟨_, rfl, b, l, rfl, Sq.tup (s2 _ _ e), hll.1, hll.2, fun H3 p bs s3 hp h3 t3 => ?_⟩
    refine ⟨p, rfl, ⟨_, SqL.of h3⟩, ?_⟩
    have dp : p ≠ d := fun q => by
      rw [q] at hp
      rw [d2] at hp
      cases hp
    have bl : bs.length = (likeM l).length := Paired.len' t3
    refine for_list (K := K) (a := p) (xs := bs.map V.ref) (fun j σ H' => ∃ v4, σ = [some (.ref a), some (.ref d), some (.int (i : Int)), some (.ref b), v4] ∧ Same H H' ∧ (∀ b o, H3 b = some o → b ≠ d → H' b = some o) ∧ H' d = some (.dT (numName (numsM (L.take i)) i ((likeM l).take j))))
      ⟨v4, rfl, Same.trans s2 s3, fun _ _ e _ => e, s3 _ _ d2⟩ (fun j σ H' _ ⟨_, _, _, k4, _⟩ => SqL.of (k4 _ _ h3 dp)) ?_ ?_
    · rintro j x σ H4 hx ⟨v4, rfl, s4, k4, d4⟩
      obtain ⟨c, hc, rfl⟩ := get_refs hx
      obtain ⟨r, er, ec⟩ := Paired.left t3 hc
      have cd : c ≠ d := ne_of ec (s3 _ _ d2) (by intro z; cases z)
      have e1 := numName_len i ((likeM l).take j) (numsM (L.take i))
      have e2 := numsM_len (L.take i).length (L.take i) rfl fun x q => (hl x (List.mem_of_mem_take q)).2
      have e3 : (L.take i).length ≤ 100 := by rw [List.length_take]; omega
      have e4 : ((likeM l).take j).length ≤ 2000 := by
        rw [List.length_take, likeM_len]
        omega
      refine ⟨_, rfl, _, rfl, _, rfl, d, _, rfl, DPut.t (k := kk r) d4 (by rw [kk_kV]; exact k4 _ _ ec cd) (Nat.lt_of_le_of_lt (show _ ≤ 300000 by omega) (by decide)), ?_⟩
      refine ⟨_, rfl, fun b o e => ?_, fun b o e hb => by rw [upd_ne hb]; exact k4 _ _ e hb, ?_⟩
      · rw [upd_ne (ne_of_none e hd)]
        exact s4 _ _ e
      · rw [take_snoc er, numName_snoc]
        exact upd_same
    · rintro σ H4 ⟨v4, rfl, s4, k4, d4⟩
      refine ⟨_, _, _, rfl, s4, ?_⟩
      rw [List.length_map, bl, List.take_length] at d4
      rw [take_snoc el, numsM_snoc, List.length_take]
      have hi2 : i < L.length := by rw [List.length_map] at hi; omega
      rw [Nat.min_eq_left (Nat.le_of_lt hi2)]
      exact d4
  · rintro σ H1 ⟨v2, v3, v4, rfl, s1, h1⟩
    rw [List.length_map, has, List.take_length] at h1
    exact ⟨_, rfl, h H1 d s1 hd h1⟩
end
end RG
namespace RG
open PySem PySem.Spec PyProof.Rows L2
/-! ### what a field holds -/
def putEv (o : KVs) (s : SightD) : KVs := putK o (kk s.lesser) (.bl s.even)
def addEv (o : List (List Int)) (s : SightD) : List (List Int) := addK o s.lesser
def allS (n e k : Nat) : List (List SightD) := (namesM n k).map fun l => sightsM l (e : Int)
def evKV (ds : List SightD) : KVs := ds.foldl putEv []
def evKeys (ds : List SightD) : List (List Int) := ds.foldl addEv []
def evensAll (n e k : Nat) : KVs := evKV (allS n e k).flatten
def viewsM (n e k : Nat) : List (List Int) := sortM (evKeys (allS n e k).flatten)
def blOf : Option V → Bool
  | some (.bl b) => b
  | _ => false
def evensM (n e k : Nat) : List Bool := (viewsM n e k).map fun r => blOf (valV (evensAll n e k) (kk r))
def vnumsM (l : List (List Int)) : KVs := l.zipIdx.foldl (fun o p => putK o (kk p.1) (.int (p.2 : Int))) []
theorem vnumsM_snoc (l : List (List Int)) (x : List Int) : vnumsM (l ++ [x]) = putK (vnumsM l) (kk x) (.int (l.length : Int)) := by
  unfold vnumsM
  rw [List.zipIdx_append, List.foldl_append]
  simp
theorem vnumsM_len : ∀ (n : Nat) (l : List (List Int)), l.length = n → (vnumsM l).length ≤ n
  | 0, l, h => by
    rw [List.length_eq_zero_iff.mp h]
    decide
  | n + 1, l, h => by
    have hne : l ≠ [] := by
      intro z
      rw [z] at h
      cases h
    have e : l = l.dropLast ++ [l.getLast hne] := (List.dropLast_concat_getLast _).symm
    have h1 := vnumsM_len n l.dropLast (by rw [List.length_dropLast]; omega)
    have h2 := length_putK (vnumsM l.dropLast) (kk (l.getLast hne)) (.int (l.dropLast.length : Int))
    rw [e, vnumsM_snoc]
    omega
theorem ev_keys : ∀ (ds : List SightD) (o : KVs) (ks : List (List Int)), o.map (·.1) = ks.map kk → (ds.foldl putEv o).map (·.1) = (ds.foldl addEv ks).map kk
  | [], _, _, h => h
  | s :: ds, o, ks, h => by
    rw [List.foldl_cons, List.foldl_cons]
    exact ev_keys ds _ _ (put_keys h)
theorem evKV_keys (ds : List SightD) : (evKV ds).map (·.1) = (evKeys ds).map kk := ev_keys ds [] [] rfl
theorem evKV_len : ∀ (ds : List SightD) (o : KVs), (ds.foldl putEv o).length ≤ o.length + ds.length
  | [], _ => Nat.le_refl _
  | s :: ds, o => by
    have h1 := evKV_len ds (putEv o s)
    have h2 := length_putK o (kk s.lesser) (.bl s.even)
    rw [List.foldl_cons, List.length_cons]
    unfold putEv at h1 ⊢
    omega
def fieldOk (n e k : Nat) : Bool :=
  decide ((evKeys (allS n e k).flatten).length < 64) && (evKeys (allS n e k).flatten).all (fun l => l.length == n && l.all fun x => decide (0 ≤ x) && decide (x < 4)) &&
  ((viewsM n e k).all fun r => decide (valV (evensAll n e k) (kk r) = some (.bl (blOf (valV (evensAll n e k) (kk r)))))) && decide ((allS n e k).flatten.length < 100)
theorem field_ok : ∀ n, 3 ≤ n → n ≤ 7 → ∀ k, 1 ≤ k → k ≤ 3 → ∀ e, e ≤ 2 → fieldOk n e k = true := by
  have h : ∀ n, n < 8 → ∀ k, k < 4 → ∀ e, e < 3 → 3 ≤ n → 1 ≤ k → fieldOk n e k = true := by decide +kernel
  intro n h1 h2 k h3 h4 e h5
  exact h n (by omega) k (by omega) e (by omega) h1 h3
structure FieldOk (n e k : Nat) : Prop where
  keys : (evKeys (allS n e k).flatten).length < 64
  bd : ∀ l ∈ evKeys (allS n e k).flatten, l.length = n ∧ TS.Bd 4 l
  val : ∀ r ∈ viewsM n e k, valV (evensAll n e k) (kk r) = some (.bl (blOf (valV (evensAll n e k) (kk r))))
  few : (allS n e k).flatten.length < 100
theorem field_okP {n e k : Nat} (h1 : 3 ≤ n) (h2 : n ≤ 7) (h3 : 1 ≤ k) (h4 : k ≤ 3) (h5 : e ≤ 2) : FieldOk n e k := by
  have h := field_ok n h1 h2 k h3 h4 e h5
  unfold fieldOk at h
  simp only [Bool.and_eq_true] at h
  obtain ⟨⟨⟨a, b⟩, c⟩, d⟩ := h
  exact ⟨of_decide_eq_true a, fun l hl => bd_of (List.all_eq_true.mp b l hl), fun r hr => of_decide_eq_true (List.all_eq_true.mp c r hr), of_decide_eq_true d⟩
end RG
namespace RG
open PySem PySem.Spec PyProof.Rows L2
/-- o.f = e: the attributes afterwards are the reader's to name -/
def sFldN (K : PySem.W.Frag) (ta tv : TE) (f : Str) : TS := fun D σ H => tv σ H fun y H1 => ta σ H1 fun x H2 => ∃ (a C dx : Addr) (fs fs' : List (Str × V)), x = .ref a ∧ H2 a = some (.ins C dx fs) ∧ Cls K C ∧ NoAttr K C f ∧ fs.length < 1000 ∧ putF f y fs = fs' ∧ D.nx σ (upd H2 a (.ins C dx fs'))
theorem sFldN_eq (K : PySem.W.Frag) (ta tv : TE) (f : Str) : sFldN K ta tv f = sFld K ta tv f := by
  unfold sFldN sFld
  funext D σ H
  congr 1
  funext y H1
  congr 1
  funext x H2
  refine propext ⟨?_, ?_⟩
  · rintro ⟨a, C, dx, fs, fs', h1, h2, h3, h4, h5, rfl, h6⟩
    exact ⟨a, C, dx, fs, h1, h2, h3, h4, h5, h6⟩
  · rintro ⟨a, C, dx, fs, h1, h2, h3, h4, h5, h6⟩
    exact ⟨a, C, dx, fs, _, h1, h2, h3, h4, h5, rfl, h6⟩
theorem ps_fldN {X : Cx} {o value : Expr} {ta tv : TE} {f : Str} {pos pos' : Pos} (ha : PE X o ta) (hv : PE X value tv) (hs : swapsWith value (some (.Attribute o f pos')) pos.line X.env = pure false) : PS X (.Assign [.Attribute o f pos'] value pos) (sFldN X.K ta tv f) := by
  rw [sFldN_eq]
  exact ps_fld ha hv hs
end RG
namespace RG
open PySem PySem.Spec PyProof.Rows L2
/-- a list of what is seen stands at b -/
def SeenAt (K : PySem.W.Frag) (H : Hp) (b : Addr) (ds : List SightD) : Prop := ∃ bs, H b = some (.lst (bs.map V.ref)) ∧ Sights K H bs ds
theorem SeenAt.same {K : PySem.W.Frag} {H H' : Hp} {b : Addr} {ds : List SightD} (s : Same H H') (h : SeenAt K H b ds) : SeenAt K H' b ds := by
  obtain ⟨bs, h1, h2⟩ := h
  exact ⟨bs, s _ _ h1, Sights.same s h2⟩
abbrev NotSight (u : HO) : Prop := (∀ xs, u ≠ .lst xs) ∧ (∀ xs, u ≠ .tup xs) ∧ ∀ C dx x r, u ≠ .ins C dx (("place", x) :: r)
theorem SightAt.updN {K : PySem.W.Frag} {H : Hp} {p a : Addr} {d : SightD} {u o : HO} (hp : H p = some u) (hn : NotSight u) (h : SightAt K H a d) : SightAt K (L2.upd H p o) a d := by
  obtain ⟨dx, lp, h1, h2⟩ := h
  exact ⟨dx, lp, upd_other hp h1 (fun z => hn.2.2 _ _ _ _ z.symm), upd_other hp h2 (fun z => hn.2.1 _ z.symm)⟩
theorem SeenAt.updN {K : PySem.W.Frag} {H : Hp} {p b : Addr} {ds : List SightD} {u o : HO} (hp : H p = some u) (hn : NotSight u) (h : SeenAt K H b ds) : SeenAt K (L2.upd H p o) b ds := by
  obtain ⟨bs, h1, h2⟩ := h
  exact ⟨bs, upd_other hp h1 (fun z => hn.1 _ z.symm), Paired.imp' (fun _ _ z => SightAt.updN hp hn z) h2⟩
theorem SeenAt.updL {K : PySem.W.Frag} {H : Hp} {D b : Addr} {ds : List SightD} {o : HO} {xs : List V} (hD : H D = some (.lst xs)) (hb : b ≠ D) (h : SeenAt K H b ds) : SeenAt K (L2.upd H D o) b ds := by
  obtain ⟨bs, h1, h2⟩ := h
  refine ⟨bs, by rw [upd_ne hb]; exact h1, Paired.imp' (fun _ _ z => ?_) h2⟩
  obtain ⟨dx, lp, h3, h4⟩ := z
  exact ⟨dx, lp, upd_other hD h3 (fun z => nomatch z), upd_other hD h4 (fun z => nomatch z)⟩
theorem SeenAll.updL {K : PySem.W.Frag} {H : Hp} {D : Addr} {o : HO} {xs : List V} (hD : H D = some (.lst xs)) : ∀ {ss : List Addr} {ds : List (List SightD)}, (∀ b ∈ ss, b ≠ D) → Paired (fun b ds => SeenAt K H b ds) ss ds → Paired (fun b ds => SeenAt K (L2.upd H D o) b ds) ss ds
  | _, _, _, .nil => .nil
  | _, _, hb, .cons e t => .cons (SeenAt.updL hD (hb _ List.mem_cons_self) e) (SeenAll.updL hD (fun c hc => hb c (List.mem_cons_of_mem _ hc)) t)
theorem Tups.updN {H : Hp} {p : Addr} {u o : HO} (hp : H p = some u) (hn : ∀ xs, u ≠ .tup xs) {as : List Addr} {ls : List (List Int)} (h : Tups H as ls) : Tups (L2.upd H p o) as ls :=
  Paired.imp' (fun a l e => upd_other hp e (fun z => hn _ z.symm)) h
abbrev SeenAll (K : PySem.W.Frag) (H : Hp) : List Addr → List (List SightD) → Prop := Paired fun b ds => SeenAt K H b ds
def fieldF (n e k : Nat) (pn pq ps pv pe pm : Addr) : List (Str × V) :=
  [("places", .int n), ("eyes", .int e), ("robots", .int k), ("names", .ref pn), ("name_numbers", .ref pq), ("sights", .ref ps), ("views", .ref pv), ("evens", .ref pe), ("view_numbers", .ref pm)]
/-- the field of such rings and eyes stands at a -/
structure FieldParts (K : PySem.W.Frag) (H : Hp) (n e k : Nat) (pn pq ps pv pe pm : Addr) : Prop where
  names : ∃ as, H pn = some (.lst (as.map V.ref)) ∧ Tups H as (namesM n k)
  nums : H pq = some (.dT (numsM (namesM n k)))
  seen : ∃ ss, H ps = some (.lst (ss.map V.ref)) ∧ SeenAll K H ss (allS n e k)
  views : ∃ vs, H pv = some (.lst (vs.map V.ref)) ∧ Tups H vs (viewsM n e k)
  evens : H pe = some (.lst ((evensM n e k).map V.bl))
  vnums : H pm = some (.dT (vnumsM (viewsM n e k)))
def FieldAt (K : PySem.W.Frag) (H : Hp) (a : Addr) (n e k : Nat) : Prop :=
  ∃ dx pn pq ps pv pe pm, H a = some (.ins (He.ga K "Field") dx (fieldF n e k pn pq ps pv pe pm)) ∧ FieldParts K H n e k pn pq ps pv pe pm
theorem FieldParts.same {K : PySem.W.Frag} {H H' : Hp} {n e k : Nat} {pn pq ps pv pe pm : Addr} (s : Same H H') (h : FieldParts K H n e k pn pq ps pv pe pm) : FieldParts K H' n e k pn pq ps pv pe pm := by
  obtain ⟨⟨as, a1, a2⟩, b, ⟨ss, c1, c2⟩, ⟨vs, d1, d2⟩, e, f⟩ := h
  exact ⟨⟨as, s _ _ a1, Tups.same s a2⟩, s _ _ b, ⟨ss, s _ _ c1, Paired.imp' (fun _ _ z => SeenAt.same s z) c2⟩, ⟨vs, s _ _ d1, Tups.same s d2⟩, s _ _ e, s _ _ f⟩
theorem FieldAt.same {K : PySem.W.Frag} {H H' : Hp} {a : Addr} {n e k : Nat} (s : Same H H') (h : FieldAt K H a n e k) : FieldAt K H' a n e k := by
  obtain ⟨dx, pn, pq, ps, pv, pe, pm, h1, h2⟩ := h
  exact ⟨dx, pn, pq, ps, pv, pe, pm, s _ _ h1, h2.same s⟩
/-- all but p stays -/
def But (p : Addr) (H H' : Hp) : Prop := ∀ b o, H b = some o → b ≠ p → H' b = some o
theorem But.same {p : Addr} {H H1 H2 : Hp} (h : But p H H1) (s : Same H1 H2) : But p H H2 := fun b o e hb => s _ _ (h b o e hb)
theorem But.upd {p : Addr} {H H1 : Hp} {o : HO} (h : But p H H1) : But p H (L2.upd H1 p o) := fun b u e hb => by
  rw [upd_ne hb]
  exact h b u e hb
theorem But.refl {p : Addr} {H : Hp} : But p H H := fun _ _ e _ => e
/-- .. and what is written at a place that was not there -/
theorem But.new {p q : Addr} {H H1 : Hp} {o : HO} (h : But p H H1) (hq : H q = none) : But p H (L2.upd H1 q o) := fun b u e hb => by
  rw [upd_ne (ne_of_none e hq)]
  exact h b u e hb
section
variable {P : Program} {w : World} {K : PySem.W.Frag} {mg : Str → Option Value} {base : Heap}
def spFieldI (K : PySem.W.Frag) : Sp := fun vs H Q _ => ∃ (p dx : Addr) (n e k : Nat), vs = [.ref p, .int (n : Int), .int (e : Int), .int (k : Int)] ∧ H p = some (.ins (He.ga K "Field") dx []) ∧ 3 ≤ n ∧ n ≤ 7 ∧ 1 ≤ k ∧ k ≤ 3 ∧ e ≤ 2 ∧
  ∀ H', FieldAt K H' p n e k → (∀ b o, H b = some o → b ≠ p → H' b = some o) → Q .non H'
abbrev NField : List Str := ["self", "places", "eyes", "robots", "evens", "sights", "sight", "row", "number", "name"]
theorem sc_Field_init : FnScope NField ["self", "places", "eyes", "robots"] (defScope s_Field_init) := ⟨rfl, rfl, rfl, by decide +kernel, rfl, by decide +kernel, by decide +kernel⟩
theorem names_len {n k : Nat} (n3 : 3 ≤ n) (n7 : n ≤ 7) (k3 : k ≤ 3) : (namesM n k).length < 64 ∧ ∀ l ∈ namesM n k, l.length = n := by
  obtain ⟨o1, o2⟩ := Bool.and_eq_true_iff.mp (names_ok n n3 n7 k k3)
  exact ⟨of_decide_eq_true o2, fun l hl => (bd_of (List.all_eq_true.mp o1 l hl)).1⟩
theorem ok_Field_init (T : Txt K mg) : InitOk P w K mg base 5 "Field" ["self", "places", "eyes", "robots"] (spFieldI K) := by
  refine init_ok (F_Field_init T) sc_Field_init (fun _ _ _ _ _ _ us hl => match us, hl with | [_, _, _, _], _ => rfl) (fun vs H Q E h => by obtain ⟨c, e, _, _, _, rfl, _⟩ := h; rfl) fun f cdv A outer s H vs Q E hr h => ?_
  obtain ⟨p, dx, n, e, k, rfl, hp, n3, n7, k1, k3, e2, h⟩ := h
  refine ⟨_, pss_cons (ps_fldN (pv 0) (pv 1) rfl) (pss_cons (ps_fldN (pv 0) (pv 2) rfl) (pss_cons (ps_fldN (pv 0) (pv 3) rfl)
    (pss_cons (ps_fldN (pv 0) (pe_cd (ok_names_of T) hr (pa_cons (pv 1) (pa_cons (pv 3) pa_nil))) rfl)
    (pss_cons (ps_fldN (pv 0) (pe_cd (ok_numbers_of_rings T) (hr.mono (by decide)) (pa_cons (pe_fld (pv 0) rfl) pa_nil)) rfl)
    (pss_cons (ps_fldN (pv 0) (pe_lc (own := [("name", 9)]) (g := gName 9) (tt := tYes) (by rfl) sc_Field_init.nd (pi_list (pe_fld (pv 0) rfl)) (blkOk_by (N := NField) (sc := defScope s_Field_init) (own := [("name", 9)]) (by decide +kernel))
      (fun _ _ _ _ _ => pg_name (i := 9) sc_Field_init.nd rfl (Or.inl rfl)) (fun _ _ _ _ _ => pts_nil) (fun _ _ _ _ _ => pe_cd (ok_sights_of T) hr (pa_cons (pv 9) (pa_cons (pv 2) pa_nil)))) rfl)
    (pss_cons (ps_set (i := 4) sc_Field_init.nd rfl (Or.inr rfl) pe_dnewT)
    (pss_cons (ps_for PassesOwn.never rfl (pi_list (pe_fld (pv 0) rfl)) (pg_name (i := 5) sc_Field_init.nd rfl (Or.inl rfl))
      (pss_one (ps_for PassesOwn.never rfl (pi_list (pv 5)) (pg_name (i := 6) sc_Field_init.nd rfl (Or.inl rfl))
        (pss_one (ps_dput (hu_of hr) (pv 4) (pe_fld (pv 6) rfl) (pe_fld (pv 6) rfl) rfl)))))
    (pss_cons (ps_fldN (pv 0) (pe_callB (cr_sortDT (by rfl)) (by rfl) T.b_sorted (by decide +kernel) (pa_cons (pv 4) pa_nil)) rfl)
    (pss_cons (ps_fldN (pv 0) (pe_lc (own := [("row", 7)]) (g := gName 7) (tt := tYes) (by rfl) sc_Field_init.nd (pi_list (pe_fld (pv 0) rfl)) (blkOk_by (N := NField) (sc := defScope s_Field_init) (own := [("row", 7)]) (by decide +kernel))
      (fun _ _ _ _ _ => pg_name (i := 7) sc_Field_init.nd rfl (Or.inl rfl)) (fun _ _ _ _ _ => pts_nil) (fun _ _ _ _ _ => pe_dget (hu_of hr) (pv 4) (pv 7) (fun _ _ => rfl))) rfl)
    (pss_cons (ps_fldN (pv 0) pe_dnewT rfl)
    (pss_one (ps_for PassesOwn.never rfl (pi_enum (by rfl) T.b_enumerate (pa_cons (pe_fld (pv 0) rfl) pa_nil)) (pg_tup rfl (pgs_cons (pg_name (i := 8) sc_Field_init.nd rfl (Or.inl rfl)) (pgs_cons (pg_name (i := 7) sc_Field_init.nd rfl (Or.inl rfl)) pgs_nil)))
      (pss_one (ps_dput (hu_of hr) (pe_fld (pv 0) rfl) (pv 7) (pv 8) rfl)))))))))))))), ?_⟩
  have fo := field_okP n3 n7 k1 k3 e2
  obtain ⟨nl64, nl⟩ := names_len n3 n7 k3
  have hC : Cls K (He.ga K "Field") := T.cl_Field
  have ns : ∀ (dx : Addr) (r : List (Str × V)), NotSight (.ins (He.ga K "Field") dx (("places", .int n) :: r)) := fun dx r => ⟨(fun _ z => nomatch z), (fun _ z => nomatch z), fun C dx x r z => by
    injection z with _ _ z
    injection z with z _
    injection z with z _
    exact absurd z (by decide +kernel)⟩
  -- self.places, self.eyes, self.robots
  refine ⟨_, rfl, _, rfl, p, _, dx, _, [("places", .int n)], rfl, hp, hC, T.n_Field_places, by decide, rfl, ?_⟩
  refine ⟨_, rfl, _, rfl, p, _, dx, _, [("places", .int n), ("eyes", .int e)], rfl, upd_same, hC, T.n_Field_eyes, by show 1 < 1000; decide, rfl, ?_⟩
  rw [upd_upd]
  refine ⟨_, rfl, _, rfl, p, _, dx, _, [("places", .int n), ("eyes", .int e), ("robots", .int k)], rfl, upd_same, hC, T.n_Field_robots, by show 2 < 1000; decide, rfl, ?_⟩
  rw [upd_upd]
  have b0 : But p H (upd H p (.ins (He.ga K "Field") dx [("places", .int n), ("eyes", .int e), ("robots", .int k)])) := But.upd But.refl
  -- self.names
  refine ⟨_, rfl, _, rfl, n, k, rfl, n3, n7, k3, fun H1 pn as s1 hn1 n1 t1 => ?_⟩
  have p1 : H1 p = some (.ins (He.ga K "Field") dx [("places", .int n), ("eyes", .int e), ("robots", .int k)]) := s1 _ _ upd_same
  have b1 := b0.same s1
  clear s1 b0 hn1
  refine ⟨_, rfl, p, _, dx, _, [("places", .int n), ("eyes", .int e), ("robots", .int k), ("names", .ref pn)], rfl, p1, hC, T.n_Field_names, by show 3 < 1000; decide, rfl, ?_⟩
  generalize hf : HO.ins (He.ga K "Field") dx [("places", .int n), ("eyes", .int e), ("robots", .int k), ("names", .ref pn)] = o1
  have t1 := Tups.updN (o := o1) p1 (fun _ z => nomatch z) t1
  have n1 := upd_other (o := o1) p1 n1 (fun z => nomatch z)
  have b1 := But.upd (o := o1) b1
  have p1 : upd H1 p o1 p = some o1 := upd_same
  generalize upd H1 p o1 = H1 at t1 n1 b1 p1 ⊢
  subst hf
  -- self.name_numbers
  refine ⟨_, rfl, p, _, dx, _, _, rfl, p1, hC, T.n_Field_names, rfl, pn, as, _, rfl, n1, t1, by omega, fun l hl => by have := nl l hl; omega, fun H2 pq s2 hq2 q2 => ?_⟩
  have p2 := s2 _ _ p1
  have b2 := b1.same s2
  have t2 := Tups.same s2 t1
  have n2 := s2 _ _ n1
  clear s2 b1 hq2 t1 n1 p1
  refine ⟨_, rfl, p, _, dx, _, [("places", .int n), ("eyes", .int e), ("robots", .int k), ("names", .ref pn), ("name_numbers", .ref pq)], rfl, p2, hC, T.n_Field_name_numbers, by show 4 < 1000; decide, rfl, ?_⟩
  generalize hf : HO.ins (He.ga K "Field") dx [("places", .int n), ("eyes", .int e), ("robots", .int k), ("names", .ref pn), ("name_numbers", .ref pq)] = o2
  have q2 := upd_other (o := o2) p2 q2 (fun z => nomatch z)
  have t2 := Tups.updN (o := o2) p2 (fun _ z => nomatch z) t2
  have n2 := upd_other (o := o2) p2 n2 (fun z => nomatch z)
  have b2 := But.upd (o := o2) b2
  have p2 : upd H2 p o2 p = some o2 := upd_same
  generalize upd H2 p o2 = H2 at t2 n2 b2 p2 q2 ⊢
  subst hf
  -- self.sights
  have as_len : as.length = (namesM n k).length := Paired.len' t2
  refine ⟨_, rfl, p, _, dx, _, _, rfl, p2, hC, T.n_Field_names, rfl, pn, rfl, ⟨_, SqL.of n2⟩, fun D hD => ?_⟩
  refine lc_list (K := K) (a := pn) (xs := as.map V.ref) (fun i H' => ∃ ss, Same H2 H' ∧ H' D = some (.lst (ss.map V.ref)) ∧ (∀ b ∈ ss, b ≠ D) ∧ SeenAll K H' ss (((namesM n k).take i).map fun l => sightsM l (e : Int))) ⟨[], Same.new (Same.refl H2) hD, upd_same, (fun _ z => nomatch z), .nil⟩ (fun i H1 _ ⟨_, s1, _⟩ => SqL.of (s1 _ _ n2)) (fun i x H3 hx ⟨ss, s3, d3, f3, a3⟩ => ?_) fun H3 ⟨ss, s3, d3, f3, a3⟩ => ?_
  · obtain ⟨b, hb, rfl⟩ := get_refs hx
    obtain ⟨l, hl, el⟩ := Paired.left t2 hb
    have hll := nl l (List.mem_of_getElem? hl)
    refine ⟨rfl, yesT ⟨_, rfl, _, rfl, b, l, (e : Int), rfl, s3 _ _ el, by omega, by omega, fun H4 r bs s4 hr4 r4 a4 => ?_⟩⟩
    have d4 := s4 _ _ d3
    have lss : ss.length ≤ 64 := by
      rw [Paired.len' a3, List.length_map, List.length_take]
      omega
    have rD : r ≠ D := fun z => by rw [z, d3] at hr4; cases hr4
    refine ⟨_, d4, by rw [List.length_map]; exact Nat.lt_of_le_of_lt lss (by decide), ss ++ [r], Same.at_ (Same.trans s3 s4) hD, by rw [List.map_append]; exact upd_same, fun c hc => ?_, ?_⟩
    · rcases List.mem_append.mp hc with hc | hc
      · exact f3 c hc
      · rw [List.mem_singleton.mp hc]
        exact rD
    · rw [take_snoc hl, List.map_append]
      refine Paired.app' (SeenAll.updL d4 f3 (Paired.imp' (fun _ _ z => SeenAt.same s4 z) a3)) (Paired.one (SeenAt.updL d4 rD ⟨bs, r4, a4⟩))
  · rw [List.length_map, as_len, List.take_length] at a3
    have a3 : SeenAll K H3 ss (allS n e k) := a3
    have p3 := s3 _ _ p2
    have b3 := b2.same s3
    have t3 := Tups.same s3 t2
    have n3' := s3 _ _ n2
    have q3 := s3 _ _ q2
    clear s3 b2 t2 n2 q2 p2 f3
    refine ⟨_, rfl, p, _, dx, _, [("places", .int n), ("eyes", .int e), ("robots", .int k), ("names", .ref pn), ("name_numbers", .ref pq), ("sights", .ref D)], rfl, p3, hC, T.n_Field_sights, by show 5 < 1000; decide, rfl, ?_⟩
    generalize hf : HO.ins (He.ga K "Field") dx [("places", .int n), ("eyes", .int e), ("robots", .int k), ("names", .ref pn), ("name_numbers", .ref pq), ("sights", .ref D)] = o3
    have a3 := Paired.imp' (fun b ds z => SeenAt.updN (o := o3) p3 (ns _ _) z) a3
    have d3 := upd_other (o := o3) p3 d3 (fun z => nomatch z)
    have q3 := upd_other (o := o3) p3 q3 (fun z => nomatch z)
    have t3 := Tups.updN (o := o3) p3 (fun _ z => nomatch z) t3
    have n3' := upd_other (o := o3) p3 n3' (fun z => nomatch z)
    have b3 := But.upd (o := o3) b3
    have p3 : upd H3 p o3 p = some o3 := upd_same
    generalize upd H3 p o3 = H3 at t3 n3' b3 p3 q3 d3 a3 ⊢
    subst hf
    -- evens = {}
    intro ev hev
    refine ⟨_, rfl, p, _, dx, _, _, rfl, Same.new (Same.refl H3) hev _ _ p3, hC, T.n_Field_sights, rfl, D, rfl, ⟨_, SqL.of (Same.new (Same.refl H3) hev _ _ d3)⟩, ?_⟩
    have ss_len : ss.length = (allS n e k).length := Paired.len' a3
    refine for_list (K := K) (a := D) (xs := ss.map V.ref) (fun i σ H' => ∃ v5 v6, σ = [some (.ref p), some (.int (n : Int)), some (.int (e : Int)), some (.int (k : Int)), some (.ref ev), v5, v6, none, none, none] ∧ Same H3 H' ∧ H' ev = some (.dT (evKV ((allS n e k).take i).flatten)))
      ⟨none, none, rfl, Same.new (Same.refl H3) hev, upd_same⟩ (fun i σ H' _ ⟨_, _, _, s4, _⟩ => SqL.of (s4 _ _ d3)) ?_ ?_
    · rintro i x σ H4 hx ⟨v5, v6, rfl, s4, e4⟩
      obtain ⟨b, hb, rfl⟩ := get_refs hx
      obtain ⟨ds, hds, bs, eb, sb⟩ := Paired.left a3 hb
      refine ⟨_, rfl, b, rfl, ⟨_, SqL.of (s4 _ _ eb)⟩, ?_⟩
      have bs_len : bs.length = ds.length := Paired.len' sb
      refine for_list (K := K) (a := b) (xs := bs.map V.ref) (fun j σ H' => ∃ v6, σ = [some (.ref p), some (.int (n : Int)), some (.int (e : Int)), some (.int (k : Int)), some (.ref ev), some (.ref b), v6, none, none, none] ∧ Same H3 H' ∧ H' ev = some (.dT (evKV (((allS n e k).take i).flatten ++ ds.take j))))
        ⟨v6, rfl, s4, by rw [List.take_zero, List.append_nil]; exact e4⟩ (fun j σ H' _ ⟨_, _, s5, _⟩ => SqL.of (s5 _ _ eb)) ?_ ?_
      · rintro j x σ H5 hx ⟨v6, rfl, s5, e5⟩
        obtain ⟨c, hc, rfl⟩ := get_refs hx
        obtain ⟨d, hd, dx2, lp, c1, c2⟩ := Paired.left sb hc
        have few : (((allS n e k).take i).flatten ++ ds.take j).length < 1000 := by
          have h1 := fo.few
          have h2 : ((allS n e k).take i).flatten.length ≤ (allS n e k).flatten.length := by
            conv => rhs; rw [← List.take_append_drop i (allS n e k), List.flatten_append, List.length_append]
            omega
          have h3 : ds.length ≤ (allS n e k).flatten.length := (List.sublist_flatten_of_mem (List.mem_of_getElem? hds)).length_le
          rw [List.length_append, List.length_take]
          omega
        have kl := evKV_len (((allS n e k).take i).flatten ++ ds.take j) []
        refine ⟨_, rfl, c, _, dx2, _, _, rfl, s5 _ _ c1, T.cl_Sight, T.n_Sight_even, rfl, _, rfl, _, rfl, c, _, dx2, _, _, rfl, s5 _ _ c1, T.cl_Sight, T.n_Sight_lesser, rfl, ev, _, rfl,
          DPut.t (k := kk d.lesser) e5 (by rw [kk_kV]; exact s5 _ _ c2) (Nat.lt_of_le_of_lt (show (evKV _).length ≤ 1000 by unfold evKV; simp only [List.length_nil] at kl; omega) (by decide)), ?_⟩
        refine ⟨_, rfl, Same.at_ s5 hev, ?_⟩
        rw [take_snoc hd, ← List.append_assoc]
        unfold evKV
        rw [List.foldl_append (l' := [d])]
        exact upd_same
      · rintro σ H5 ⟨v6, rfl, s5, e5⟩
        refine ⟨_, _, rfl, s5, ?_⟩
        rw [List.length_map, bs_len, List.take_length] at e5
        rw [take_snoc hds, List.flatten_append]
        simpa using e5
    · rintro σ H4 ⟨v5', v6', rfl, s4, e4⟩
      rw [List.length_map, ss_len, List.take_length] at e4
      have p4 := s4 _ _ p3
      have b4 := b3.same s4
      have t4 := Tups.same s4 t3
      have n4 := s4 _ _ n3'
      have q4 := s4 _ _ q3
      have d4 := s4 _ _ d3
      have a4 := Paired.imp' (fun _ _ z => SeenAt.same s4 z) a3
      clear s4 b3 t3 n3' q3 d3 a3 p3
      -- self.views
      refine ⟨_, rfl, ev, _, _, n, 4, rfl, .inl e4, evKV_keys _, fo.keys, by omega, fo.bd, fun vs L pv pm0 so tv hv => ?_⟩
      have eL : L = viewsM n e k := sortM_of pm0 so
      subst eL
      have s5 : Same H4 (upd H4 pv (.lst (vs.map V.ref))) := Same.new (Same.refl H4) hv
      have p5 := s5 _ _ p4
      have b5 := b4.same s5
      have t5 := Tups.same s5 t4
      have n5 := s5 _ _ n4
      have q5 := s5 _ _ q4
      have d5 := s5 _ _ d4
      have e5 := s5 _ _ e4
      have a5 := Paired.imp' (fun _ _ z => SeenAt.same s5 z) a4
      have tv := Tups.same s5 tv
      have v5 : upd H4 pv (.lst (vs.map V.ref)) pv = some (.lst (vs.map V.ref)) := upd_same
      generalize upd H4 pv (.lst (vs.map V.ref)) = H5 at p5 b5 t5 n5 q5 d5 e5 a5 tv v5 ⊢
      clear s5 hv p4 b4 t4 n4 q4 d4 e4 a4
      refine ⟨_, rfl, p, _, dx, _, [("places", .int n), ("eyes", .int e), ("robots", .int k), ("names", .ref pn), ("name_numbers", .ref pq), ("sights", .ref D), ("views", .ref pv)], rfl, p5, hC, T.n_Field_views, by show 6 < 1000; decide, rfl, ?_⟩
      generalize hf : HO.ins (He.ga K "Field") dx [("places", .int n), ("eyes", .int e), ("robots", .int k), ("names", .ref pn), ("name_numbers", .ref pq), ("sights", .ref D), ("views", .ref pv)] = o5
      have a5 := Paired.imp' (fun b ds z => SeenAt.updN (o := o5) p5 (ns _ _) z) a5
      have d5 := upd_other (o := o5) p5 d5 (fun z => nomatch z)
      have q5 := upd_other (o := o5) p5 q5 (fun z => nomatch z)
      have e5 := upd_other (o := o5) p5 e5 (fun z => nomatch z)
      have v5 := upd_other (o := o5) p5 v5 (fun z => nomatch z)
      have t5 := Tups.updN (o := o5) p5 (fun _ z => nomatch z) t5
      have tv := Tups.updN (o := o5) p5 (fun _ z => nomatch z) tv
      have n5 := upd_other (o := o5) p5 n5 (fun z => nomatch z)
      have b5 := But.upd (o := o5) b5
      have p5 : upd H5 p o5 p = some o5 := upd_same
      generalize upd H5 p o5 = H5 at p5 b5 t5 n5 q5 d5 e5 a5 tv v5 ⊢
      subst hf
      have vs_len : vs.length = (viewsM n e k).length := Paired.len' tv
      have vw64 : (viewsM n e k).length < 64 := by
        unfold viewsM
        rw [(sortM_perm _).length_eq]
        exact fo.keys
      -- self.evens
      refine ⟨_, rfl, p, _, dx, _, _, rfl, p5, hC, T.n_Field_views, rfl, pv, rfl, ⟨_, SqL.of v5⟩, fun E5 hE => ?_⟩
      refine lc_list (K := K) (a := pv) (xs := vs.map V.ref) (fun i H' => Same H5 H' ∧ H' E5 = some (.lst (((evensM n e k).take i).map V.bl))) ⟨Same.new (Same.refl H5) hE, upd_same⟩ (fun i H1 _ ⟨s1, _⟩ => SqL.of (s1 _ _ v5)) (fun i x H6 hx ⟨s6, d6⟩ => ?_) fun H6 ⟨s6, d6⟩ => ?_
      · obtain ⟨b, hb, rfl⟩ := get_refs hx
        obtain ⟨r, hr6, er⟩ := Paired.left tv hb
        have hv := fo.val r (List.mem_of_getElem? hr6)
        have g := DGet.t (k := kk r) (s6 _ _ e5) (by rw [kk_kV]; exact s6 _ _ er)
        rw [show valV (evKV (allS n e k).flatten) (kk r) = some (.bl (blOf (valV (evensAll n e k) (kk r)))) from hv] at g
        refine ⟨rfl, yesT ⟨_, rfl, _, rfl, ev, _, rfl, g, _, d6, ?_, Same.at_ s6 hE, ?_⟩⟩
        · rw [List.length_map, List.length_take]
          exact Nat.lt_of_le_of_lt (show _ ≤ 64 by unfold evensM; rw [List.length_map]; omega) (by decide)
        · rw [take_snoc (l := evensM n e k) (x := blOf (valV (evensAll n e k) (kk r))) (by unfold evensM; rw [List.getElem?_map, hr6]; rfl), List.map_append]
          exact upd_same
      · have ev_len : (evensM n e k).length = (viewsM n e k).length := List.length_map ..
        rw [List.length_map, vs_len, ← ev_len, List.take_length] at d6
        have p6 := s6 _ _ p5
        have b6 := b5.same s6
        have t6 := Tups.same s6 t5
        have tv := Tups.same s6 tv
        have n6 := s6 _ _ n5
        have q6 := s6 _ _ q5
        have D6 := s6 _ _ d5
        have v6 := s6 _ _ v5
        have a6 := Paired.imp' (fun _ _ z => SeenAt.same s6 z) a5
        clear s6 p5 b5 t5 n5 q5 d5 v5 a5
        refine ⟨_, rfl, p, _, dx, _, [("places", .int n), ("eyes", .int e), ("robots", .int k), ("names", .ref pn), ("name_numbers", .ref pq), ("sights", .ref D), ("views", .ref pv), ("evens", .ref E5)], rfl, p6, hC, T.n_Field_evens, by show 7 < 1000; decide, rfl, ?_⟩
        generalize hf : HO.ins (He.ga K "Field") dx [("places", .int n), ("eyes", .int e), ("robots", .int k), ("names", .ref pn), ("name_numbers", .ref pq), ("sights", .ref D), ("views", .ref pv), ("evens", .ref E5)] = o6
        have a6 := Paired.imp' (fun b ds z => SeenAt.updN (o := o6) p6 (ns _ _) z) a6
        have D6 := upd_other (o := o6) p6 D6 (fun z => nomatch z)
        have q6 := upd_other (o := o6) p6 q6 (fun z => nomatch z)
        have d6 := upd_other (o := o6) p6 d6 (fun z => nomatch z)
        have v6 := upd_other (o := o6) p6 v6 (fun z => nomatch z)
        have t6 := Tups.updN (o := o6) p6 (fun _ z => nomatch z) t6
        have tv := Tups.updN (o := o6) p6 (fun _ z => nomatch z) tv
        have n6 := upd_other (o := o6) p6 n6 (fun z => nomatch z)
        have b6 := But.upd (o := o6) b6
        have p6 : upd H6 p o6 p = some o6 := upd_same
        generalize upd H6 p o6 = H6 at p6 b6 t6 n6 q6 D6 d6 a6 tv v6 ⊢
        subst hf
        -- self.view_numbers
        intro m hm
        have s7 : Same H6 (upd H6 m (.dT [])) := Same.new (Same.refl H6) hm
        have p7 := s7 _ _ p6
        have b7 := b6.same s7
        have t7 := Tups.same s7 t6
        have tv := Tups.same s7 tv
        have n7' := s7 _ _ n6
        have q7 := s7 _ _ q6
        have D7 := s7 _ _ D6
        have v7 := s7 _ _ v6
        have d7 := s7 _ _ d6
        have a7 := Paired.imp' (fun _ _ z => SeenAt.same s7 z) a6
        have m7 : upd H6 m (.dT []) m = some (.dT []) := upd_same
        generalize upd H6 m (.dT []) = H7 at p7 b7 t7 tv n7' q7 D7 v7 d7 a7 m7 ⊢
        have pq_m : pq ≠ m := ne_of_none q6 hm
        have m_new : ∀ b o, H b = some o → b ≠ p → b ≠ m := fun b o e hb => ne_of_none (b6 b o e hb) hm
        clear s7 p6 b6 t6 n6 q6 D6 v6 d6 a6
        refine ⟨_, rfl, p, _, dx, _, fieldF n e k pn pq D pv E5 m, rfl, p7, hC, T.n_Field_view_numbers, by show 8 < 1000; decide, rfl, ?_⟩
        generalize hf : HO.ins (He.ga K "Field") dx (fieldF n e k pn pq D pv E5 m) = o7
        have a7 := Paired.imp' (fun b ds z => SeenAt.updN (o := o7) p7 (ns _ _) z) a7
        have D7 := upd_other (o := o7) p7 D7 (fun z => nomatch z)
        have q7 := upd_other (o := o7) p7 q7 (fun z => nomatch z)
        have d7 := upd_other (o := o7) p7 d7 (fun z => nomatch z)
        have v7 := upd_other (o := o7) p7 v7 (fun z => nomatch z)
        have m7 := upd_other (o := o7) p7 m7 (fun z => nomatch z)
        have t7 := Tups.updN (o := o7) p7 (fun _ z => nomatch z) t7
        have tv := Tups.updN (o := o7) p7 (fun _ z => nomatch z) tv
        have n7' := upd_other (o := o7) p7 n7' (fun z => nomatch z)
        have b7 := But.upd (o := o7) b7
        have p7 : upd H7 p o7 p = some o7 := upd_same
        generalize upd H7 p o7 = H7 at p7 b7 t7 n7' q7 D7 d7 a7 tv v7 m7 ⊢
        subst hf
        refine ⟨_, rfl, p, _, dx, _, _, rfl, p7, hC, T.n_Field_views, rfl, pv, _, rfl, SqL.of v7, ?_⟩
        have neS : ∀ {b : Addr} {xs : List V}, H7 b = some (.lst xs) → b ≠ m := fun e => ne_of e m7 (fun z => nomatch z)
        have neT : ∀ {b : Addr} {xs : List V}, H7 b = some (.tup xs) → b ≠ m := fun e => ne_of e m7 (fun z => nomatch z)
        have p_m : p ≠ m := ne_of p7 m7 (fun z => nomatch z)
        refine for_it (walk_enum (K := K) (a := pv) (xs := vs.map V.ref)) (fun i σ H' => ∃ v7 v8, σ = [some (.ref p), some (.int (n : Int)), some (.int (e : Int)), some (.int (k : Int)), some (.ref ev), v5', v6', v7, v8, none] ∧ But m H7 H' ∧ H' m = some (.dT (vnumsM ((viewsM n e k).take i))))
          ⟨none, none, rfl, But.refl, m7⟩ (fun i σ H' _ ⟨_, _, _, k8, _⟩ => SqL.of (k8 _ _ v7 (neS v7))) ?_ ?_
        · rintro i x σ H8 H9 hi ⟨v7', v8', rfl, k8, m8⟩ ⟨t, y, z, rfl, ht0, rfl, ey, ez⟩
          cases ey
          obtain ⟨b, hb, rfl⟩ := get_refs ez
          obtain ⟨r, er, eb⟩ := Paired.left tv hb
          refine ⟨t, _, rfl, SqT.of upd_same, rfl, _, _, rfl, _, _, rfl, rfl, ?_⟩
          have tm : t ≠ m := fun z => by rw [z, m8] at ht0; cases ht0
          have m9 : upd H8 t (.tup [.int (i : Int), .ref b]) m = some (.dT (vnumsM ((viewsM n e k).take i))) := by
            rw [upd_ne tm.symm]
            exact m8
          have s9 : Same H8 (upd H8 t (.tup [.int (i : Int), .ref b])) := Same.new (Same.refl H8) ht0
          have kl := vnumsM_len _ ((viewsM n e k).take i) rfl
          rw [List.length_take] at kl
          refine ⟨_, rfl, _, rfl, p, _, dx, _, _, rfl, s9 _ _ (k8 _ _ p7 p_m), hC, T.n_Field_view_numbers, rfl, _, rfl, m, _, rfl, DPut.t (k := kk r) m9 (by rw [kk_kV]; exact s9 _ _ (k8 _ _ eb (neT eb))) (Nat.lt_of_le_of_lt (show _ ≤ 64 by omega) (by decide)), ?_⟩
          refine ⟨_, _, rfl, fun c o e hc => ?_, ?_⟩
          · rw [upd_ne hc]
            exact s9 _ _ (k8 c o e hc)
          · have hi2 : i < (viewsM n e k).length := by rw [List.length_map] at hi; omega
            rw [take_snoc er, vnumsM_snoc, List.length_take, Nat.min_eq_left (Nat.le_of_lt hi2)]
            exact upd_same
        · rintro σ H8 ⟨v7', v8', rfl, k8, m8⟩
          rw [List.length_map, vs_len, List.take_length] at m8
          refine h H8 ⟨dx, pn, pq, D, pv, E5, m, k8 _ _ p7 p_m, ⟨as, k8 _ _ n7' (neS n7'), ?_⟩, k8 _ _ q7 pq_m, ⟨ss, k8 _ _ D7 (neS D7), ?_⟩, ⟨vs, k8 _ _ v7 (neS v7), ?_⟩, k8 _ _ d7 (neS d7), m8⟩ fun b o e hb => ?_
          · exact Paired.imp' (fun _ _ z => k8 _ _ z (neT z)) t7
          · refine Paired.imp' (fun _ _ z => ?_) a7
            obtain ⟨bs, z1, z2⟩ := z
            refine ⟨bs, k8 _ _ z1 (neS z1), Paired.imp' (fun _ _ y => ?_) z2⟩
            obtain ⟨dy, lp, y1, y2⟩ := y
            exact ⟨dy, lp, k8 _ _ y1 (ne_of y1 m7 (fun z => nomatch z)), k8 _ _ y2 (neT y2)⟩
          · exact Paired.imp' (fun _ _ z => k8 _ _ z (neT z)) tv
          · exact k8 _ _ (b7 b o e hb) (m_new b o e hb)
end
end RG
namespace RG
/-! ### rings that so many robots may make -/
def rowsI : Nat → Nat → List (List Int)
  | 0, k => if k = 0 then [[]] else []
  | n + 1, k => (List.range (k + 1)).flatMap fun x => (rowsI n (k - x)).map fun r => (x : Int) :: r
structure RingOk (n k : Nat) (r : List Int) : Prop where
  len : r.length = n
  sum : r.sum = (k : Int)
  pos : ∀ x ∈ r, 0 ≤ x
theorem sum_nonneg : ∀ {r : List Int}, (∀ x ∈ r, 0 ≤ x) → 0 ≤ r.sum
  | [], _ => by simp
  | x :: r, h => by
    rw [List.sum_cons]
    have h1 := h x List.mem_cons_self
    have h2 := sum_nonneg (r := r) fun y hy => h y (List.mem_cons_of_mem _ hy)
    omega
theorem rows_mem : ∀ (n k : Nat) (r : List Int), RingOk n k r → r ∈ rowsI n k
  | 0, k, r, h => by
    have e := List.length_eq_zero_iff.mp h.len
    subst e
    have := h.sum
    simp only [List.sum_nil] at this
    unfold rowsI
    rw [if_pos (by omega)]
    exact List.mem_singleton.mpr rfl
  | n + 1, k, [], h => by
    have := h.len
    cases this
  | n + 1, k, x :: r, h => by
    have h1 := h.pos x List.mem_cons_self
    have h2 := sum_nonneg (r := r) fun y hy => h.pos y (List.mem_cons_of_mem _ hy)
    have h3 := h.sum
    rw [List.sum_cons] at h3
    unfold rowsI
    refine List.mem_flatMap.mpr ⟨x.toNat, List.mem_range.mpr (by omega), List.mem_map.mpr ⟨r, rows_mem n (k - x.toNat) r ⟨by simpa using h.len, by omega, fun y hy => h.pos y (List.mem_cons_of_mem _ hy)⟩, ?_⟩⟩
    rw [Int.toNat_of_nonneg h1]
def intOf : Option L2.V → Nat
  | some (.int j) => j.toNat
  | _ => 0
/-- a ring's number; a view's -/
def numM (n k : Nat) (r : List Int) : Nat := intOf (L2.valV (numsM (namesM n k)) (kk r))
def vnumM (n e k : Nat) (r : List Int) : Nat := intOf (L2.valV (vnumsM (viewsM n e k)) (kk r))
def numOk (n k : Nat) : Bool := (rowsI n k).all fun r => decide (L2.valV (numsM (namesM n k)) (kk r) = some (.int (numM n k r))) && decide (numM n k r < (namesM n k).length)
theorem num_ok : ∀ n, 3 ≤ n → n ≤ 7 → ∀ k, 1 ≤ k → k ≤ 3 → numOk n k = true := by
  have h : ∀ n, n < 8 → ∀ k, k < 4 → 3 ≤ n → 1 ≤ k → numOk n k = true := by decide +kernel
  intro n h1 h2 k h3 h4
  exact h n (by omega) k (by omega) h1 h3
theorem num_at {n k : Nat} (h1 : 3 ≤ n) (h2 : n ≤ 7) (h3 : 1 ≤ k) (h4 : k ≤ 3) {r : List Int} (h : RingOk n k r) : L2.valV (numsM (namesM n k)) (kk r) = some (.int (numM n k r)) ∧ numM n k r < (namesM n k).length := by
  have := List.all_eq_true.mp (num_ok n h1 h2 k h3 h4) r (rows_mem n k r h)
  rw [Bool.and_eq_true] at this
  exact ⟨of_decide_eq_true this.1, of_decide_eq_true this.2⟩
def vnumOk (n e k : Nat) : Bool := ((allS n e k).all fun ds => ds.all fun d => decide (L2.valV (vnumsM (viewsM n e k)) (kk d.lesser) = some (.int (vnumM n e k d.lesser))) && decide (vnumM n e k d.lesser < (viewsM n e k).length)) &&
  (namesM n k).all fun l => decide (l.sum = (k : Int))
theorem vnum_ok : ∀ n, 3 ≤ n → n ≤ 7 → ∀ k, 1 ≤ k → k ≤ 3 → ∀ e, e ≤ 2 → vnumOk n e k = true := by
  have h : ∀ n, n < 8 → ∀ k, k < 4 → ∀ e, e < 3 → 3 ≤ n → 1 ≤ k → vnumOk n e k = true := by decide +kernel
  intro n h1 h2 k h3 h4 e h5
  exact h n (by omega) k (by omega) e (by omega) h1 h3
theorem vnum_at {n e k : Nat} (h1 : 3 ≤ n) (h2 : n ≤ 7) (h3 : 1 ≤ k) (h4 : k ≤ 3) (h5 : e ≤ 2) {ds : List SightD} (h : ds ∈ allS n e k) {d : SightD} (hd : d ∈ ds) :
    L2.valV (vnumsM (viewsM n e k)) (kk d.lesser) = some (.int (vnumM n e k d.lesser)) ∧ vnumM n e k d.lesser < (viewsM n e k).length := by
  have := vnum_ok n h1 h2 k h3 h4 e h5
  unfold vnumOk at this
  rw [Bool.and_eq_true] at this
  have := List.all_eq_true.mp (List.all_eq_true.mp this.1 ds h) d hd
  rw [Bool.and_eq_true] at this
  exact ⟨of_decide_eq_true this.1, of_decide_eq_true this.2⟩
theorem name_ring {n k : Nat} (h1 : 3 ≤ n) (h2 : n ≤ 7) (h3 : 1 ≤ k) (h4 : k ≤ 3) {l : List Int} (h : l ∈ namesM n k) : RingOk n k l := by
  have a := vnum_ok n h1 h2 k h3 h4 0 (by omega)
  unfold vnumOk at a
  rw [Bool.and_eq_true] at a
  have b := names_ok n h1 h2 k h4
  unfold namesOk at b
  rw [Bool.and_eq_true] at b
  have c := bd_of (List.all_eq_true.mp b.1 l h)
  exact ⟨c.1, of_decide_eq_true (List.all_eq_true.mp a.2 l h), fun x hx => (c.2 x hx).1⟩
end RG
namespace RG
open PySem PySem.Spec PyProof.Rows L2
/-- such rings and eyes -/
structure Dims (n e k : Nat) : Prop where
  n3 : 3 ≤ n
  n7 : n ≤ 7
  k1 : 1 ≤ k
  k3 : k ≤ 3
  e2 : e ≤ 2
/-- the ends of a robot that sees so -/
def endsM (s : SightD) (told : Int) (size : Nat) : List Nat :=
  if told = 0 then [] else if s.even = true then [((s.place + s.way) % size).toNat, ((s.place - s.way) % size).toNat] else if told = 1 then [((s.place + s.way) % size).toNat] else [((s.place - s.way) % size).toNat]
abbrev vN (l : List Nat) : List V := l.map fun (q : Nat) => V.int (q : Int)
theorem vN_vI (l : List Nat) : vN l = vI (l.map fun (q : Nat) => (q : Int)) := by
  unfold vN vI
  rw [List.map_map]
  rfl
abbrev Eager : Type := List (Nat × List Nat)
def EagAt (H : Hp) (t : Addr) (x : Nat × List Nat) : Prop := ∃ q, H t = some (.tup [.int (x.1 : Int), .ref q]) ∧ H q = some (.lst (vN x.2))
theorem EagAt.same {H H' : Hp} (s : Same H H') {t : Addr} {x : Nat × List Nat} (h : EagAt H t x) : EagAt H' t x := by
  obtain ⟨q, h1, h2⟩ := h
  exact ⟨q, s _ _ h1, s _ _ h2⟩
abbrev Eags (H : Hp) : List Addr → Eager → Prop := Paired fun t x => EagAt H t x
/-- the eager of a ring, by what each view is told -/
def eagOf (s : SightD) (told : Int) (ring : List Int) : Eager := if endsM s told ring.length = [] then [] else List.replicate (ring.getD s.place.toNat 0).toNat (s.place.toNat, endsM s told ring.length)
def eagerM (ds : List SightD) (tell : List Int → Int) (ring : List Int) : Eager := ds.flatMap fun s => eagOf s (tell s.lesser) ring
section
variable {P : Program} {w : World} {K : PySem.W.Frag} {mg : Str → Option Value} {base : Heap}
def spHasName (K : PySem.W.Frag) : Sp := fun vs H Q _ => ∃ (a : Addr) (n e k : Nat) (i : Int), vs = [.ref a, .int i] ∧ FieldAt K H a n e k ∧ Q (.bl (decide (i < ((namesM n k).length : Int)))) H
theorem sc_Field_has_name : FnScope ["self", "number"] ["self", "number"] (defScope s_Field_has_name) := ⟨rfl, rfl, rfl, by decide +kernel, rfl, by decide +kernel, by decide +kernel⟩
theorem ok_has_name (T : Txt K mg) : MethOk P w K mg base 1 "Field" "has_name" ["self", "number"] (spHasName K) := by
  refine meth_ok (F_Field_has_name T) sc_Field_has_name (fun _ _ _ _ _ _ us hl => match us, hl with | [_, _], _ => rfl) (fun vs H Q E h => by obtain ⟨c, e, _, _, _, rfl, _⟩ := h; rfl) fun f cdv A outer s H vs Q E hr h => ?_
  obtain ⟨a, n, e, k, i, rfl, ⟨dx, pn, pq, ps, pv', pe, pm, ha, fp⟩, h⟩ := h
  obtain ⟨as, h1, h2⟩ := fp.names
  refine ⟨_, pss_one (ps_ret (pe_cmpR op_lt (pv 1) (pe_len T.b_len (pa_cons (pe_fld (pv 0) rfl) pa_nil)) (nomark _))), ?_⟩
  refine ⟨_, rfl, _, rfl, a, _, dx, _, _, rfl, ha, T.cl_Field, T.n_Field_names, rfl, pn, as.map V.ref, rfl, .inl (SqL.of h1), _, _, rfl, rfl, ?_⟩
  rw [List.length_map, Paired.len' h2]
  exact h
def spHasView (K : PySem.W.Frag) : Sp := fun vs H Q _ => ∃ (a : Addr) (n e k : Nat) (i : Int), vs = [.ref a, .int i] ∧ FieldAt K H a n e k ∧ Q (.bl (decide (i < ((viewsM n e k).length : Int)))) H
theorem sc_Field_has_view : FnScope ["self", "number"] ["self", "number"] (defScope s_Field_has_view) := ⟨rfl, rfl, rfl, by decide +kernel, rfl, by decide +kernel, by decide +kernel⟩
theorem ok_has_view (T : Txt K mg) : MethOk P w K mg base 1 "Field" "has_view" ["self", "number"] (spHasView K) := by
  refine meth_ok (F_Field_has_view T) sc_Field_has_view (fun _ _ _ _ _ _ us hl => match us, hl with | [_, _], _ => rfl) (fun vs H Q E h => by obtain ⟨c, e, _, _, _, rfl, _⟩ := h; rfl) fun f cdv A outer s H vs Q E hr h => ?_
  obtain ⟨a, n, e, k, i, rfl, ⟨dx, pn, pq, ps, pv', pe, pm, ha, fp⟩, h⟩ := h
  obtain ⟨as, h1, h2⟩ := fp.views
  refine ⟨_, pss_one (ps_ret (pe_cmpR op_lt (pv 1) (pe_len T.b_len (pa_cons (pe_fld (pv 0) rfl) pa_nil)) (nomark _))), ?_⟩
  refine ⟨_, rfl, _, rfl, a, _, dx, _, _, rfl, ha, T.cl_Field, T.n_Field_views, rfl, pv', as.map V.ref, rfl, .inl (SqL.of h1), _, _, rfl, rfl, ?_⟩
  rw [List.length_map, Paired.len' h2]
  exact h
/-! ### views_in -/
def viewsIn (n e k : Nat) (ds : List SightD) : List Nat := ds.foldl (fun o s => addK o (vnumM n e k s.lesser)) []
theorem putI_keys {kvs : List (Key × V)} {ks : List Nat} {x : Nat} {v : V} (h : kvs.map (·.1) = ks.map fun (q : Nat) => (Sum.inl (q : Int) : Key)) : (putK kvs (Sum.inl (x : Int) : Key) v).map (·.1) = (addK ks x).map fun (q : Nat) => (Sum.inl (q : Int) : Key) := by
  have inj : ∀ {a b : Nat}, (Sum.inl (a : Int) : Key) = Sum.inl (b : Int) → a = b := fun z => by
    have := Sum.inl.inj z
    omega
  have e : (kvs.any fun kv => decide (kv.1 = (Sum.inl (x : Int) : Key))) = decide (x ∈ ks) := by
    rw [Bool.eq_iff_iff, decide_eq_true_iff, List.any_eq_true]
    constructor
    · rintro ⟨p, hp, e⟩
      have e1 := of_decide_eq_true e
      have : p.1 ∈ kvs.map (·.1) := List.mem_map_of_mem hp
      rw [h, List.mem_map] at this
      obtain ⟨y, hy, e2⟩ := this
      rw [← inj (e2.trans e1)]
      exact hy
    · intro hx
      have : (Sum.inl (x : Int) : Key) ∈ ks.map fun (q : Nat) => (Sum.inl (q : Int) : Key) := List.mem_map.mpr ⟨x, hx, rfl⟩
      rw [← h, List.mem_map] at this
      obtain ⟨p, hp, e1⟩ := this
      exact ⟨p, hp, decide_eq_true e1⟩
  unfold putK addK
  by_cases c : x ∈ ks
  · rw [e, if_pos (decide_eq_true c), if_pos c, ← h, List.map_map]
    refine List.map_congr_left fun p _ => ?_
    show (if p.1 = _ then (p.1, v) else p).1 = p.1
    split <;> rfl
  · rw [e, if_neg (by simpa using c), if_neg c, List.map_append, List.map_append, h]
    rfl
theorem keysI_len {kvs : List (Key × V)} {ks : List Nat} (h : kvs.map (·.1) = ks.map fun (q : Nat) => (Sum.inl (q : Int) : Key)) : kvs.length = ks.length := by
  have := congrArg List.length h
  simpa using this
theorem foldV_len {α : Type} (f : α → Nat) : ∀ (l : List α) (o : List Nat), (l.foldl (fun o s => addK o (f s)) o).length ≤ o.length + l.length
  | [], _ => Nat.le_refl _
  | x :: l, o => by
    have h1 := foldV_len f l (addK o (f x))
    have h2 := addK_len o (f x)
    rw [List.foldl_cons, List.length_cons]
    omega
theorem seen_few {n e k : Nat} (D : Dims n e k) {ds : List SightD} (h : ds ∈ allS n e k) : ds.length < 100 :=
  Nat.lt_of_le_of_lt (List.sublist_flatten_of_mem h).length_le (field_okP D.n3 D.n7 D.k1 D.k3 D.e2).few
def spViewsIn (K : PySem.W.Frag) : Sp := fun vs H Q _ => ∃ (a : Addr) (n e k i : Nat) (ds : List SightD), vs = [.ref a, .int (i : Int)] ∧ Dims n e k ∧ FieldAt K H a n e k ∧ (allS n e k)[i]? = some ds ∧
  ∀ H' p, Same H H' → H p = none → H' p = some (.lst (vN (viewsIn n e k ds))) → Q (.ref p) H'
theorem sc_Field_views_in : FnScope ["self", "name", "had", "sight"] ["self", "name"] (defScope s_Field_views_in) := ⟨rfl, rfl, rfl, by decide +kernel, rfl, by decide +kernel, by decide +kernel⟩
theorem ok_views_in (T : Txt K mg) : MethOk P w K mg base 1 "Field" "views_in" ["self", "name"] (spViewsIn K) := by
  refine meth_ok (F_Field_views_in T) sc_Field_views_in (fun _ _ _ _ _ _ us hl => match us, hl with | [_, _], _ => rfl) (fun vs H Q E h => by obtain ⟨c, e, _, _, _, _, rfl, _⟩ := h; rfl) fun f cdv A outer s H vs Q E hr h => ?_
  obtain ⟨a, n, e, k, i, ds, rfl, dm, ⟨dx, pn, pq, ps, pv', pe, pm, ha, fp⟩, hds, h⟩ := h
  obtain ⟨ss, h1, h2⟩ := fp.seen
  obtain ⟨b, hb, bs, hbs, sb⟩ := Paired.right h2 hds
  refine ⟨_, pss_cons (ps_set (i := 2) sc_Field_views_in.nd rfl (Or.inl rfl) pe_dnewK)
    (pss_cons (ps_for PassesOwn.never rfl (pi_list (pe_ix ix_list (pe_fld (pv 0) rfl) (pv 1) (fun _ _ => rfl))) (pg_name (i := 3) sc_Field_views_in.nd rfl (Or.inl rfl))
      (pss_one (ps_dput (hu_of hr) (pv 2) (pe_dget (hu_of hr) (pe_fld (pv 0) rfl) (pe_fld (pv 3) rfl) (fun _ _ => rfl)) pe_bl rfl)))
    (pss_one (ps_ret (pe_callTy (call_listD (by rfl)) (by rfl) T.b_list (by decide +kernel) (pa_cons (pv 2) pa_nil))))), ?_⟩
  intro d hd
  have s0 : Same H (upd H d (.dK [])) := Same.new (Same.refl H) hd
  refine ⟨_, rfl, a, _, dx, _, _, rfl, s0 _ _ ha, T.cl_Field, T.n_Field_sights, rfl, _, rfl, ps, ss.map V.ref, _, .ref b, rfl, rfl, SqL.of (s0 _ _ h1), atI_nat (by rw [List.getElem?_map, hb]; rfl), b, rfl, ⟨_, SqL.of (s0 _ _ hbs)⟩, ?_⟩
  have bl : bs.length = ds.length := Paired.len' sb
  refine for_list (K := K) (a := b) (xs := bs.map V.ref) (fun j σ H' => ∃ kvs v3, σ = [some (.ref a), some (.int (i : Int)), some (.ref d), v3] ∧ Same H H' ∧ H' d = some (.dK kvs) ∧ kvs.map (·.1) = (viewsIn n e k (ds.take j)).map fun (q : Nat) => (Sum.inl (q : Int) : Key))
    ⟨[], none, rfl, s0, upd_same, rfl⟩ (fun j σ H' _ ⟨_, _, _, s1, _⟩ => SqL.of (s1 _ _ hbs)) ?_ ?_
  · rintro j x σ H1 hx ⟨kvs, v3, rfl, s1, d1, k1⟩
    obtain ⟨c, hc, rfl⟩ := get_refs hx
    obtain ⟨sd, hsd, dy, lp, c1, c2⟩ := Paired.left sb hc
    have hv := (vnum_at dm.n3 dm.n7 dm.k1 dm.k3 dm.e2 (List.mem_of_getElem? hds) (List.mem_of_getElem? hsd)).1
    have g := DGet.t (k := kk sd.lesser) (s1 _ _ fp.vnums) (by rw [kk_kV]; exact s1 _ _ c2)
    rw [hv] at g
    have kl : kvs.length < sizeLine := by
      rw [keysI_len k1]
      have h1 := foldV_len (fun s : SightD => vnumM n e k s.lesser) (ds.take j) []
      have h2 := seen_few dm (List.mem_of_getElem? hds)
      rw [List.length_take] at h1
      exact Nat.lt_of_le_of_lt (show _ ≤ 100 by unfold viewsIn; simp only [List.length_nil] at h1; omega) (by decide)
    refine ⟨_, rfl, _, rfl, a, _, dx, _, _, rfl, s1 _ _ ha, T.cl_Field, T.n_Field_view_numbers, rfl, _, rfl, c, _, dy, _, _, rfl, s1 _ _ c1, T.cl_Sight, T.n_Sight_lesser, rfl, pm, _, rfl, g, d, _, rfl, DPut.k (k := Sum.inl _) d1 kl, ?_⟩
    refine ⟨_, _, rfl, Same.at_ s1 hd, upd_same, ?_⟩
    rw [take_snoc hsd]
    unfold viewsIn
    rw [List.foldl_append]
    exact putI_keys k1
  · rintro σ H1 ⟨kvs, v3, rfl, s1, d1, k1⟩
    rw [List.length_map, bl, List.take_length] at k1
    refine ⟨_, rfl, d, kvs, rfl, .inl d1, fun p hp => h _ p (Same.new s1 hp) (Same.none s1 hp) ?_⟩
    rw [show (kvs.map fun kv => kV kv.1) = (kvs.map (·.1)).map kV from by rw [List.map_map]; rfl, k1, List.map_map]
    exact upd_same
end
end RG
namespace RG
open PySem PySem.Spec PyProof.Rows L2
theorem sights_mem {l : List Int} {e : Int} {s : SightD} (h : s ∈ sightsM l e) : ∃ p, p < l.length ∧ 0 < l.getD p 0 ∧ s = sightM l p e := by
  unfold sightsM at h
  obtain ⟨p, hp, rfl⟩ := List.mem_map.mp h
  obtain ⟨h1, h2⟩ := List.mem_filter.mp hp
  exact ⟨p, List.mem_range.mp h1, of_decide_eq_true h2, rfl⟩
theorem name_bd {n k : Nat} (n3 : 3 ≤ n) (n7 : n ≤ 7) (k3 : k ≤ 3) {l : List Int} (h : l ∈ namesM n k) : l.length = n ∧ TS.Bd 4 l := by
  obtain ⟨o1, o2⟩ := Bool.and_eq_true_iff.mp (names_ok n n3 n7 k k3)
  exact bd_of (List.all_eq_true.mp o1 l h)
theorem getD_bd {l : List Int} (h : TS.Bd 4 l) (p : Nat) : 0 ≤ l.getD p 0 ∧ l.getD p 0 < 4 := by
  rw [List.getD_eq_getElem?_getD]
  cases e : l[p]? with
  | none => exact ⟨by decide, by decide⟩
  | some x => exact h x (List.mem_of_getElem? e)
section
variable {P : Program} {w : World} {K : PySem.W.Frag} {mg : Str → Option Value} {base : Heap}
def spEnds (K : PySem.W.Frag) : Sp := fun vs H Q _ => ∃ (a : Addr) (s : SightD) (told : Int) (size : Nat), vs = [.ref a, .int told, .int (size : Int)] ∧ SightAt K H a s ∧ 0 < size ∧
  ∀ H' p, Same H H' → H p = none → H' p = some (.lst (vN (endsM s told size))) → Q (.ref p) H'
theorem sc_ends_of : FnScope ["sight", "told", "size", "by_lesser", "by_other"] ["sight", "told", "size"] (defScope s_ends_of) := ⟨rfl, rfl, rfl, by decide +kernel, rfl, by decide +kernel, by decide +kernel⟩
theorem ok_ends_of (T : Txt K mg) : DefOk P w K mg base 1 "ends_of" ["sight", "told", "size"] (spEnds K) := by
  refine def_ok (F_ends_of T) sc_ends_of (fun _ _ _ _ _ _ us hl => match us, hl with | [_, _, _], _ => rfl) (fun vs H Q E h => by obtain ⟨c, e, _, _, rfl, _⟩ := h; rfl) fun f cdv A outer s H vs Q E hr h => ?_
  obtain ⟨a, d, told, size, rfl, ⟨dx, lp, ha, hlp⟩, hs, h⟩ := h
  refine ⟨_, pss_cons (ps_set (i := 3) sc_ends_of.nd rfl (Or.inl rfl) (pe_op op_mod (pe_op op_add (pe_fld (pv 0) rfl) (pe_fld (pv 0) rfl)) (pv 2)))
    (pss_cons (ps_set (i := 4) sc_ends_of.nd rfl (Or.inl rfl) (pe_op op_mod (pe_op op_sub (pe_fld (pv 0) rfl) (pe_fld (pv 0) rfl)) (pv 2)))
    (pss_cons (ps_if (pt_cmpR op_eq (pv 1) pe_int (nomark _)) (pss_one (ps_ret (pe_lst pa_nil))) pss_nil)
    (pss_cons (ps_if (pt_val (pe_fld (pv 0) rfl)) (pss_one (ps_ret (pe_lst (pa_cons (pv 3) (pa_cons (pv 4) pa_nil))))) pss_nil)
    (pss_cons (ps_if (pt_cmpR op_eq (pv 1) pe_int (nomark _)) (pss_one (ps_ret (pe_lst (pa_cons (pv 3) pa_nil)))) pss_nil)
    (pss_one (ps_ret (pe_lst (pa_cons (pv 4) pa_nil)))))))), ?_⟩
  have C := T.cl_Sight
  have z1 := Int.emod_nonneg (d.place + d.way) (show ((size : Nat) : Int) ≠ 0 by omega)
  have z2 := Int.emod_nonneg (d.place - d.way) (show ((size : Nat) : Int) ≠ 0 by omega)
  refine ⟨_, rfl, a, _, dx, _, _, rfl, ha, C, T.n_Sight_place, rfl, _, rfl, a, _, dx, _, _, rfl, ha, C, T.n_Sight_way, rfl, _, _, rfl, rfl, _, rfl, _, _, rfl, rfl, by show (0 : Int) < (size : Int); omega, ?_⟩
  refine ⟨_, rfl, a, _, dx, _, _, rfl, ha, C, T.n_Sight_place, rfl, _, rfl, a, _, dx, _, _, rfl, ha, C, T.n_Sight_way, rfl, _, _, rfl, rfl, _, rfl, _, _, rfl, rfl, by show (0 : Int) < (size : Int); omega, ?_⟩
  have fin : ∀ xs : List Int, vI xs = vN (endsM d told size) → ∀ p, H p = none → Q (.ref p) (upd H p (.lst (vI xs))) := fun xs e p hp => h _ p (Same.new (Same.refl H) hp) hp (by rw [e]; exact upd_same)
  refine ⟨_, rfl, rfl, _, rfl, ?_⟩
  rw [dec_int]
  by_cases c0 : told = 0
  · refine ifT c0 ⟨by decide, fin [] ?_⟩
    unfold endsM
    rw [if_pos c0]
    rfl
  refine ifF c0 ?_
  refine ⟨_, rfl, a, _, dx, _, _, rfl, ha, C, T.n_Sight_even, rfl, _, rfl, ?_⟩
  by_cases c1 : d.even = true
  · refine ifTb c1 ⟨_, rfl, _, rfl, by show 2 ≤ sizeLine; decide, fin [(d.place + d.way) % size, (d.place - d.way) % size] ?_⟩
    unfold endsM
    rw [if_neg c0, if_pos c1, vN_vI]
    simp only [List.map_cons, List.map_nil]
    rw [Int.toNat_of_nonneg z1, Int.toNat_of_nonneg z2]
  refine ifFb (by simpa using c1) ?_
  refine ⟨_, rfl, rfl, _, rfl, ?_⟩
  rw [dec_int]
  by_cases c2 : told = 1
  · refine ifT c2 ⟨_, rfl, by show 1 ≤ sizeLine; decide, fin [(d.place + d.way) % size] ?_⟩
    unfold endsM
    rw [if_neg c0, if_neg c1, if_pos c2, vN_vI]
    simp only [List.map_cons, List.map_nil]
    rw [Int.toNat_of_nonneg z1]
  refine ifF c2 ⟨_, rfl, by show 1 ≤ sizeLine; decide, fin [(d.place - d.way) % size] ?_⟩
  unfold endsM
  rw [if_neg c0, if_neg c1, if_neg c2, vN_vI]
  simp only [List.map_cons, List.map_nil]
  rw [Int.toNat_of_nonneg z2]
/-! ### eager_in -/
def EagN (D : Addr) (H : Hp) (t : Addr) (x : Nat × List Nat) : Prop := ∃ q, q ≠ D ∧ H t = some (.tup [.int (x.1 : Int), .ref q]) ∧ H q = some (.lst (vN x.2))
theorem EagN.same {D : Addr} {H H' : Hp} (s : Same H H') {t : Addr} {x : Nat × List Nat} (h : EagN D H t x) : EagN D H' t x := by
  obtain ⟨q, h0, h1, h2⟩ := h
  exact ⟨q, h0, s _ _ h1, s _ _ h2⟩
theorem EagN.upd {D : Addr} {H : Hp} {o : HO} {xs : List V} (hD : H D = some (.lst xs)) {t : Addr} {x : Nat × List Nat} (h : EagN D H t x) : EagN D (L2.upd H D o) t x := by
  obtain ⟨q, h0, h1, h2⟩ := h
  exact ⟨q, h0, upd_other hD h1 (fun z => nomatch z), by rw [upd_ne h0]; exact h2⟩
def spEager (K : PySem.W.Frag) : Sp := fun vs H Q _ => ∃ (a b : Addr) (n e k i : Nat) (R : List Int) (l : List Int) (ds : List SightD), vs = [.ref a, .int (i : Int), .ref b] ∧ Dims n e k ∧ FieldAt K H a n e k ∧ (namesM n k)[i]? = some l ∧ (allS n e k)[i]? = some ds ∧ Sq K H b (vI R) ∧ R.length = (viewsM n e k).length ∧
  ∀ H' p as, Same H H' → H p = none → H' p = some (.lst (as.map V.ref)) → Eags H' as (eagerM ds (fun r => R.getD (vnumM n e k r) 0) l) → Q (.ref p) H'
theorem eagerM_snoc (ds : List SightD) (s : SightD) (tell : List Int → Int) (l : List Int) : eagerM (ds ++ [s]) tell l = eagerM ds tell l ++ eagOf s (tell s.lesser) l := by
  unfold eagerM
  rw [List.flatMap_append]
  simp
theorem eagOf_len {l : List Int} (h : TS.Bd 4 l) (s : SightD) (t : Int) : (eagOf s t l).length ≤ 3 := by
  unfold eagOf
  split
  · exact Nat.zero_le _
  · rw [List.length_replicate]
    have := getD_bd h s.place.toNat
    omega
theorem eagerM_len {l : List Int} (h : TS.Bd 4 l) (tell : List Int → Int) : ∀ ds : List SightD, (eagerM ds tell l).length ≤ ds.length * 3
  | [] => Nat.le_refl _
  | s :: ds => by
    have h1 := eagerM_len h tell ds
    have h2 := eagOf_len h s (tell s.lesser)
    unfold eagerM at h1 ⊢
    rw [List.flatMap_cons, List.length_append, List.length_cons]
    omega
abbrev NEag : List Str := ["field", "name", "rule", "ring", "eager", "sight", "ends", "robot"]
theorem sc_eager_in : FnScope NEag ["field", "name", "rule"] (defScope s_eager_in) := ⟨rfl, rfl, rfl, by decide +kernel, rfl, by decide +kernel, by decide +kernel⟩
theorem ok_eager_in (T : Txt K mg) : DefOk P w K mg base 2 "eager_in" ["field", "name", "rule"] (spEager K) := by
  refine def_ok (F_eager_in T) sc_eager_in (fun _ _ _ _ _ _ us hl => match us, hl with | [_, _, _], _ => rfl) (fun vs H Q E h => by obtain ⟨c, e, _, _, _, _, _, _, _, rfl, _⟩ := h; rfl) fun f cdv A outer s H vs Q E hr h => ?_
  obtain ⟨a, b, n, e, k, i, R, l, ds, rfl, dm, ⟨dx, pn, pq, ps, pv', pe, pm, ha, fp⟩, hl, hds, hR, hRl, h⟩ := h
  obtain ⟨as, n1, n2⟩ := fp.names
  obtain ⟨ra, hra, hring⟩ := Paired.right n2 hl
  obtain ⟨ss, h1, h2⟩ := fp.seen
  obtain ⟨sl, hsl, bs, hbs, sb⟩ := Paired.right h2 hds
  obtain ⟨ln, lb⟩ := name_bd dm.n3 dm.n7 dm.k3 (List.mem_of_getElem? hl)
  have C := T.cl_Field
  have CS := T.cl_Sight
  refine ⟨_, pss_cons (ps_set (i := 3) sc_eager_in.nd rfl (Or.inl rfl) (pe_ix ix_list (pe_fld (pv 0) rfl) (pv 1) (fun _ _ => rfl)))
    (pss_cons (ps_set (i := 4) sc_eager_in.nd rfl (Or.inl rfl) (pe_lst pa_nil))
    (pss_cons (ps_for PassesOwn.never rfl (pi_list (pe_ix ix_list (pe_fld (pv 0) rfl) (pv 1) (fun _ _ => rfl))) (pg_name (i := 5) sc_eager_in.nd rfl (Or.inl rfl))
      (pss_cons (ps_set (i := 6) sc_eager_in.nd rfl (Or.inl rfl) (pe_cd (ok_ends_of T) hr (pa_cons (pv 5) (pa_cons (pe_ix ix_seq (pv 2) (pe_dget (hu_of hr) (pe_fld (pv 0) rfl) (pe_fld (pv 5) rfl) (fun _ _ => rfl)) (fun _ _ => rfl)) (pa_cons (pe_len T.b_len (pa_cons (pv 3) pa_nil)) pa_nil)))))
      (pss_one (ps_if (pt_truth (pv 6) (by intro _; rfl)) (pss_one (ps_for PassesOwn.never rfl (pi_range1 (by rfl) T.b_range (pa_cons (pe_ix ix_tup (pv 3) (pe_fld (pv 5) rfl) (fun _ _ => rfl)) pa_nil)) (pg_name (i := 7) sc_eager_in.nd rfl (Or.inl rfl))
        (pss_one (ps_expr (pe_append (pv 4) (pa_cons (pe_tup (pa_cons (pe_fld (pv 5) rfl) (pa_cons (pv 6) pa_nil))) pa_nil)))))) pss_nil))))
    (pss_one (ps_ret (pv 4))))), ?_⟩
  refine ⟨_, rfl, a, _, dx, _, _, rfl, ha, C, T.n_Field_names, rfl, _, rfl, pn, _, _, .ref ra, rfl, rfl, SqL.of n1, atI_nat (by rw [List.getElem?_map, hra]; rfl), ?_⟩
  refine ⟨by decide, fun D hD => ?_⟩
  have s0 : Same H (upd H D (.lst [])) := Same.new (Same.refl H) hD
  refine ⟨_, rfl, a, _, dx, _, _, rfl, s0 _ _ ha, C, T.n_Field_sights, rfl, _, rfl, ps, _, _, .ref sl, rfl, rfl, SqL.of (s0 _ _ h1), atI_nat (by rw [List.getElem?_map, hsl]; rfl), sl, rfl, ⟨_, SqL.of (s0 _ _ hbs)⟩, ?_⟩
  have bl : bs.length = ds.length := Paired.len' sb
  refine for_list (K := K) (a := sl) (xs := bs.map V.ref) (fun j σ H' => ∃ ts v5 v6 v7, σ = [some (.ref a), some (.int (i : Int)), some (.ref b), some (.ref ra), some (.ref D), v5, v6, v7] ∧ Same H H' ∧ H' D = some (.lst (ts.map V.ref)) ∧ Paired (fun t x => EagN D H' t x) ts (eagerM (ds.take j) (fun r => R.getD (vnumM n e k r) 0) l))
    ⟨[], none, none, none, rfl, s0, upd_same, .nil⟩ (fun j σ H' _ ⟨_, _, _, _, _, s1, _⟩ => SqL.of (s1 _ _ hbs)) ?_ ?_
  · rintro j x σ H1 hx ⟨ts, v5, v6, v7, rfl, s1, d1, t1⟩
    obtain ⟨c, hc, rfl⟩ := get_refs hx
    obtain ⟨sd, hsd, dy, lp, c1, c2⟩ := Paired.left sb hc
    obtain ⟨hv, hvl⟩ := vnum_at dm.n3 dm.n7 dm.k1 dm.k3 dm.e2 (List.mem_of_getElem? hds) (List.mem_of_getElem? hsd)
    have g := DGet.t (k := kk sd.lesser) (s1 _ _ fp.vnums) (by rw [kk_kV]; exact s1 _ _ c2)
    rw [hv] at g
    refine ⟨_, rfl, _, rfl, _, rfl, a, _, dx, _, _, rfl, s1 _ _ ha, C, T.n_Field_view_numbers, rfl, _, rfl, c, _, dy, _, _, rfl, s1 _ _ c1, CS, T.n_Sight_lesser, rfl, pm, _, rfl, g, rIx_sq (Sq.same hR s1) (atI_nat (vI_get (by omega))) ?_⟩
    refine ⟨_, rfl, ra, vI l, rfl, .inr (SqT.of (s1 _ _ hring)), ?_⟩
    rw [vI_len]
    refine ⟨c, sd, _, l.length, rfl, ⟨dy, lp, s1 _ _ c1, s1 _ _ c2⟩, by have := dm.n3; omega, fun H2 q s2 hq2 q2 => ?_⟩
    have hds2 : ds = sightsM l (e : Int) := by
      unfold allS at hds
      rw [List.getElem?_map, hl] at hds
      exact (Option.some.inj hds).symm
    obtain ⟨pl, hpl, hpos, hsdE⟩ := sights_mem (l := l) (e := (e : Int)) (s := sd) (by rw [← hds2]; exact List.mem_of_getElem? hsd)
    have hplace : sd.place = (pl : Int) := by rw [hsdE]; rfl
    have d2 := s2 _ _ d1
    have qD : q ≠ D := fun z => by rw [z, d1] at hq2; cases hq2
    have s12 := Same.trans s1 s2
    have t2 := Paired.imp' (fun _ _ z => EagN.same s2 z) t1
    refine ⟨_, rfl, !(vN (endsM sd (R.getD (vnumM n e k sd.lesser) 0) l.length)).isEmpty, .inl ⟨_, SqL.of q2, rfl⟩, ?_⟩
    by_cases ce : endsM sd (R.getD (vnumM n e k sd.lesser) 0) l.length = []
    · refine ifFb (by rw [ce]; rfl) ⟨ts, _, _, _, rfl, s12, d2, ?_⟩
      rw [take_snoc hsd, eagerM_snoc]
      unfold eagOf
      rw [if_pos ce, List.append_nil]
      exact t2
    · refine ifTb (by
        cases hE : endsM sd (R.getD (vnumM n e k sd.lesser) 0) l.length with
        | nil => exact absurd hE ce
        | cons _ _ => rfl) ?_
      have hg := getD_bd lb pl
      refine ⟨_, rfl, _, rfl, c, _, dy, _, _, rfl, s12 _ _ c1, CS, T.n_Sight_place, rfl, ra, vI l, _, _, rfl, rfl, SqT.of (s12 _ _ hring), by rw [hplace]; exact atI_nat (vI_get hpl), _, rfl, by omega, by omega, ?_⟩
      refine for_range (lo := 0) (n := (l.getD pl 0).toNat) (fun m σ H' => ∃ ts v7, σ = [some (.ref a), some (.int (i : Int)), some (.ref b), some (.ref ra), some (.ref D), some (.ref c), some (.ref q), v7] ∧ Same H H' ∧ H' D = some (.lst (ts.map V.ref)) ∧ H' q = some (.lst (vN (endsM sd (R.getD (vnumM n e k sd.lesser) 0) l.length))) ∧
        Paired (fun t x => EagN D H' t x) ts (eagerM (ds.take j) (fun r => R.getD (vnumM n e k r) 0) l ++ List.replicate m (pl, endsM sd (R.getD (vnumM n e k sd.lesser) 0) l.length)))
        ⟨ts, v7, rfl, s12, d2, q2, by rw [List.replicate_zero, List.append_nil]; exact t2⟩ ?_ ?_
      · rintro m σ H3 hm ⟨ts, v7, rfl, s3, d3, q3, t3⟩
        refine ⟨_, rfl, .inl ⟨rfl, _, SqL.of d3⟩, _, rfl, c, _, dy, _, _, rfl, s3 _ _ c1, CS, T.n_Sight_place, rfl, _, rfl, by show 2 ≤ sizeLine; decide, fun t ht => ?_⟩
        have tD : t ≠ D := fun z => by rw [z, d3] at ht; cases ht
        have s4 : Same H3 (upd H3 t (.tup [.int sd.place, .ref q])) := Same.new (Same.refl H3) ht
        have len : ts.length < 1000 := by
          rw [Paired.len' t3, List.length_append, List.length_replicate]
          have h1 := eagerM_len lb (fun r => R.getD (vnumM n e k r) 0) (ds.take j)
          have h2 := seen_few dm (List.mem_of_getElem? hds)
          rw [List.length_take] at h1
          omega
        refine ⟨D, _, _, rfl, rfl, s4 _ _ d3, by rw [List.length_map]; exact Nat.lt_trans len (by decide), ?_⟩
        refine ⟨ts ++ [t], _, rfl, Same.at_ (Same.trans s3 s4) hD, by rw [List.map_append]; exact upd_same, by rw [upd_ne qD]; exact s4 _ _ q3, ?_⟩
        rw [List.replicate_succ', ← List.append_assoc]
        refine Paired.app' (Paired.imp' (fun _ _ z => EagN.upd (s4 _ _ d3) (EagN.same s4 z)) t3) (Paired.one (EagN.upd (s4 _ _ d3) ⟨q, qD, ?_, s4 _ _ q3⟩))
        rw [← hplace]
        exact upd_same
      · rintro σ H3 ⟨ts, v7, rfl, s3, d3, q3, t3⟩
        refine ⟨ts, _, _, _, rfl, s3, d3, ?_⟩
        rw [take_snoc hsd, eagerM_snoc]
        unfold eagOf
        rw [if_neg ce, hplace, Int.toNat_natCast]
        exact t3
  · rintro σ H1 ⟨ts, v5, v6, v7, rfl, s1, d1, t1⟩
    rw [List.length_map, bl, List.take_length] at t1
    exact ⟨_, rfl, h H1 D ts s1 hD d1 (Paired.imp' (fun _ _ ⟨q, _, z1, z2⟩ => ⟨q, z1, z2⟩) t1)⟩
end
end RG
namespace RG
/-! ### what may come of a ring -/
abbrev NKey : Type := Int × List Int
def wayAll (x : Nat × List Nat) (o : List NKey) (k : NKey) : List NKey := x.2.foldl (fun o q => addK o (k.1 + 1, goneM k.2 x.1 q)) (addK o k)
def wayStep (W : List NKey) (x : Nat × List Nat) : List NKey := W.foldl (wayAll x) []
def waysM (r : List Int) (E : List (Nat × List Nat)) : List NKey := E.foldl wayStep [(0, r)]
theorem waysM_snoc (r : List Int) (E : List (Nat × List Nat)) (x : Nat × List Nat) : waysM r (E ++ [x]) = wayStep (waysM r E) x := by
  unfold waysM
  rw [List.foldl_append]
  rfl
theorem addK_mem {α : Type} [DecidableEq α] {o : List α} {x y : α} : y ∈ addK o x ↔ y ∈ o ∨ y = x := by
  unfold addK
  split
  · rename_i h
    exact ⟨.inl, fun h2 => h2.elim id fun e => e ▸ h⟩
  · rw [List.mem_append, List.mem_singleton]
theorem foldK_mem {α β : Type} [DecidableEq α] (f : β → α) : ∀ (l : List β) (o : List α) (y : α), y ∈ l.foldl (fun o q => addK o (f q)) o ↔ y ∈ o ∨ ∃ q ∈ l, y = f q
  | [], o, y => by simp
  | x :: l, o, y => by
    rw [List.foldl_cons, foldK_mem f l, addK_mem]
    constructor
    · rintro ((h | h) | ⟨q, hq, h⟩)
      · exact .inl h
      · exact .inr ⟨x, List.mem_cons_self, h⟩
      · exact .inr ⟨q, List.mem_cons_of_mem _ hq, h⟩
    · rintro (h | ⟨q, hq, h⟩)
      · exact .inl (.inl h)
      · rcases List.mem_cons.mp hq with e | hq
        · exact .inl (.inr (e ▸ h))
        · exact .inr ⟨q, hq, h⟩
theorem wayAll_mem {x : Nat × List Nat} {o : List NKey} {k y : NKey} : y ∈ wayAll x o k ↔ y ∈ o ∨ y = k ∨ ∃ q ∈ x.2, y = (k.1 + 1, goneM k.2 x.1 q) := by
  unfold wayAll
  rw [foldK_mem (fun q => ((k.1 + 1, goneM k.2 x.1 q) : NKey)), addK_mem]
  exact or_assoc
theorem wayFold_mem {x : Nat × List Nat} : ∀ (W o : List NKey) (y : NKey), y ∈ W.foldl (wayAll x) o ↔ y ∈ o ∨ ∃ k ∈ W, y = k ∨ ∃ q ∈ x.2, y = (k.1 + 1, goneM k.2 x.1 q)
  | [], o, y => by simp
  | k :: W, o, y => by
    rw [List.foldl_cons, wayFold_mem W, wayAll_mem]
    constructor
    · rintro ((h | h) | ⟨k', hk, h⟩)
      · exact .inl h
      · exact .inr ⟨k, List.mem_cons_self, h⟩
      · exact .inr ⟨k', List.mem_cons_of_mem _ hk, h⟩
    · rintro (h | ⟨k', hk, h⟩)
      · exact .inl (.inl h)
      · rcases List.mem_cons.mp hk with e | hk
        · exact .inl (.inr (e ▸ h))
        · exact .inr ⟨k', hk, h⟩
theorem wayStep_mem {x : Nat × List Nat} {W : List NKey} {y : NKey} : y ∈ wayStep W x ↔ ∃ k ∈ W, y = k ∨ ∃ q ∈ x.2, y = (k.1 + 1, goneM k.2 x.1 q) := by
  unfold wayStep
  rw [wayFold_mem]
  simp
theorem goneM_len (l : List Int) (p q : Nat) : (goneM l p q).length = l.length := by
  unfold goneM
  rw [List.length_set, List.length_set]
/-- the moves of some of these, one behind another -/
inductive Sel : List (Nat × List Nat) → List (Nat × Nat) → Prop
  | nil : Sel [] []
  | skip {E ms x} : Sel E ms → Sel (E ++ [x]) ms
  | take {E ms x q} : Sel E ms → q ∈ x.2 → Sel (E ++ [x]) (ms ++ [(x.1, q)])
def doAllM (r : List Int) (ms : List (Nat × Nat)) : List Int := ms.foldl (fun r m => goneM r m.1 m.2) r
theorem doAllM_snoc (r : List Int) (ms : List (Nat × Nat)) (m : Nat × Nat) : doAllM r (ms ++ [m]) = goneM (doAllM r ms) m.1 m.2 := by
  unfold doAllM
  rw [List.foldl_append]
  rfl
theorem ways_sel (r : List Int) : ∀ (n : Nat) (E : List (Nat × List Nat)), E.length = n → ∀ y : NKey, y ∈ waysM r E ↔ ∃ ms, Sel E ms ∧ y = ((ms.length : Int), doAllM r ms)
  | 0, E, h, y => by
    have e := List.length_eq_zero_iff.mp h
    subst e
    show y ∈ [((0 : Int), r)] ↔ _
    rw [List.mem_singleton]
    constructor
    · intro e
      exact ⟨[], .nil, e⟩
    · rintro ⟨ms, hs, e⟩
      have : ms = [] := by
        generalize hE : ([] : List (Nat × List Nat)) = F at hs
        cases hs with
        | nil => rfl
        | skip _ => simp at hE
        | take _ _ => simp at hE
      subst this
      exact e
  | n + 1, E, h, y => by
    have hne : E ≠ [] := by
      intro z
      rw [z] at h
      cases h
    obtain ⟨E', x, rfl⟩ : ∃ E' x, E = E' ++ [x] := ⟨E.dropLast, E.getLast hne, (List.dropLast_concat_getLast hne).symm⟩
    have ih := ways_sel r n E' (by simpa using h)
    rw [waysM_snoc, wayStep_mem]
    constructor
    · rintro ⟨k, hk, h⟩
      obtain ⟨ms, hs, e⟩ := (ih k).mp hk
      rcases h with h | ⟨q, hq, h⟩
      · exact ⟨ms, .skip hs, h.trans e⟩
      · refine ⟨ms ++ [(x.1, q)], .take hs hq, ?_⟩
        rw [h, e, doAllM_snoc, List.length_append]
        simp
    · rintro ⟨ms, hs, e⟩
      generalize hE : E' ++ [x] = F at hs
      cases hs with
      | nil => simp at hE
      | @skip E2 ms x2 hs =>
        obtain ⟨e1, e2⟩ := List.append_inj' hE rfl
        subst e1
        exact ⟨y, (ih y).mpr ⟨ms, hs, e⟩, .inl rfl⟩
      | @take E2 ms x2 q hs hq =>
        obtain ⟨e1, e2⟩ := List.append_inj' hE rfl
        subst e1
        have e3 : x = x2 := by simpa using e2
        subst e3
        refine ⟨((ms.length : Int), doAllM r ms), (ih _).mpr ⟨ms, hs, rfl⟩, .inr ⟨q, hq, ?_⟩⟩
        rw [e, doAllM_snoc, List.length_append]
        simp
theorem doAllM_len (r : List Int) : ∀ ms : List (Nat × Nat), (doAllM r ms).length = r.length := by
  intro ms
  unfold doAllM
  induction ms generalizing r with
  | nil => rfl
  | cons m ms ih => rw [List.foldl_cons, ih, goneM_len]
theorem waysM_len {r : List Int} {E : List (Nat × List Nat)} {y : NKey} (h : y ∈ waysM r E) : y.2.length = r.length := by
  obtain ⟨ms, _, rfl⟩ := (ways_sel r _ E rfl y).mp h
  exact doAllM_len r ms
theorem wayAll_len (x : Nat × List Nat) (o : List NKey) (k : NKey) : (wayAll x o k).length ≤ o.length + (1 + x.2.length) := by
  have aux : ∀ (l : List Nat) (o : List NKey), (l.foldl (fun o q => addK o ((k.1 + 1, goneM k.2 x.1 q) : NKey)) o).length ≤ o.length + l.length := by
    intro l
    induction l with
    | nil => intro o; exact Nat.le_refl _
    | cons q l ih =>
      intro o
      have h1 := ih (addK o ((k.1 + 1, goneM k.2 x.1 q) : NKey))
      have h2 := addK_len o ((k.1 + 1, goneM k.2 x.1 q) : NKey)
      rw [List.foldl_cons, List.length_cons]
      omega
  have h1 : (wayAll x o k).length ≤ (addK o k).length + x.2.length := aux x.2 (addK o k)
  have h2 := addK_len o k
  omega
theorem wayStep_len (x : Nat × List Nat) : ∀ (W o : List NKey), (W.foldl (wayAll x) o).length ≤ o.length + W.length * (1 + x.2.length)
  | [], _ => by simp
  | k :: W, o => by
    have h1 := wayStep_len x W (wayAll x o k)
    have h2 := wayAll_len x o k
    rw [List.foldl_cons, List.length_cons, Nat.succ_mul]
    omega
theorem waysM_few (r : List Int) : ∀ (n : Nat) (E : List (Nat × List Nat)), E.length = n → (∀ x ∈ E, x.2.length ≤ 2) → (waysM r E).length ≤ 3 ^ n
  | 0, E, h, _ => by
    have e := List.length_eq_zero_iff.mp h
    subst e
    exact Nat.le_refl _
  | n + 1, E, h, hx => by
    have hne : E ≠ [] := by
      intro z
      rw [z] at h
      cases h
    obtain ⟨E', x, rfl⟩ : ∃ E' x, E = E' ++ [x] := ⟨E.dropLast, E.getLast hne, (List.dropLast_concat_getLast hne).symm⟩
    have ih := waysM_few r n E' (by simpa using h) fun y hy => hx y (List.mem_append_left _ hy)
    have h2 := wayStep_len x (waysM r E') []
    have h3 := hx x (List.mem_append_right _ (List.mem_singleton.mpr rfl))
    rw [waysM_snoc]
    unfold wayStep
    have h4 : (waysM r E').length * (1 + x.2.length) ≤ 3 ^ n * 3 := Nat.mul_le_mul ih (by omega)
    rw [Nat.pow_succ]
    simp only [List.length_nil] at h2
    omega
end RG
namespace RG
open PySem PySem.Spec PyProof.Rows L2
theorem putN_addK (L : List (NK × Addr)) (k : NK) (q : Addr) : (putN L k q).map (·.1) = addK (L.map (·.1)) k := by
  have e : (L.any fun x => decide (x.1 = k)) = decide (k ∈ L.map (·.1)) := by
    rw [Bool.eq_iff_iff, decide_eq_true_iff, List.any_eq_true, List.mem_map]
    exact ⟨fun ⟨x, hx, e⟩ => ⟨x, hx, of_decide_eq_true e⟩, fun ⟨x, hx, e⟩ => ⟨x, hx, decide_eq_true e⟩⟩
  unfold putN addK
  rw [e]
  by_cases c : k ∈ L.map (·.1)
  · rw [if_pos (decide_eq_true c), if_pos c]
  · rw [if_neg (by simpa using c), if_neg c, List.map_append]
    rfl
theorem NKAt.upd {H : Hp} {p q : Addr} {k : NK} {u o : HO} (hp : H p = some u) (hn : ∀ xs, u ≠ .tup xs) (h : NKAt H k q) : NKAt (L2.upd H p o) k q := by
  obtain ⟨b, h1, h2⟩ := h
  exact ⟨b, upd_other hp h1 (fun z => hn _ z.symm), upd_other hp h2 (fun z => hn _ z.symm)⟩
theorem NDict.upd {P : Program} {w : World} {H : Hp} {p a : Addr} {L : List (NK × Addr)} {u o : HO} (hp : H p = some u) (hn : ∀ xs, u ≠ .tup xs) (hpa : a ≠ p) (h : NDict P w H a L) : NDict P w (L2.upd H p o) a L :=
  ⟨by rw [upd_ne hpa]; exact h.at_, fun x hx => NKAt.upd hp hn (h.keys x hx), h.nd⟩
theorem NDict.same {P : Program} {w : World} {H H' : Hp} {a : Addr} {L : List (NK × Addr)} (s : Same H H') (h : NDict P w H a L) : NDict P w H' a L :=
  ⟨s _ _ h.at_, fun x hx => NKAt.same s (h.keys x hx), h.nd⟩
theorem walk_N {P : Program} {w : World} {d : Addr} {o : Obj} {L : List (NK × Addr)} : Walk (Itn P w d o L) L.length (fun H => H d = some (.frz o (ND P w d L))) (fun i H x H' => H' = H ∧ ∃ (k : NK) (q : Addr), L[i]? = some (k, q) ∧ x = .ref q) :=
  ⟨fun _ _ hi q => ⟨q, hi⟩, fun _ q => ⟨q, Nat.le_refl _⟩, fun _ _ _ _ _ _ y => y⟩
section
variable {X : Cx}
theorem pe_newP (P : Program) (w : World) {pos : Pos} (hP : X.prog = P := by rfl) (hw : X.w = w := by rfl) : PE X (.Dict [] [] pos) (tNewN P w) := by
  subst hP hw
  exact pe_newN
theorem set_NP (P : Program) (w : World) (hu : X.A.units + 10 < cLine) (hP : X.prog = P := by rfl) (hw : X.w = w := by rfl) : PSet X (rSetN P w) := by
  subst hP hw
  exact set_N hu
theorem pi_keysP (P : Program) (w : World) {tg e : Expr} {td : TE} (he : PE X e td) (hP : X.prog = P := by rfl) (hw : X.w = w := by rfl) : PI X tg e (iKeysN P w td) := by
  subst hP hw
  exact pi_keysN he
theorem pe_dispP (P : Program) (w : World) {ke ve : Expr} {pos : Pos} {tk tv : TE} (hu : X.A.units + 10 < cLine) (h : PPs X pos [some ke] [ve] [(tk, tv)]) (hP : X.prog = P := by rfl) (hw : X.w = w := by rfl) : PE X (.Dict [some ke] [ve] pos) (tDisp1N P w tk tv) := by
  subst hP hw
  exact pe_disp1N hu h
theorem list_NP (P : Program) (w : World) (hc : X.calm = true) (hP : X.prog = P := by rfl) (hw : X.w = w := by rfl) : CallR X (.type "list") (fun xs H Q => ∃ d L, xs = [V.ref d] ∧ H d = some (ND P w d L) ∧ L.length ≤ sizeLine ∧ ∀ p, H p = none → Q (.ref p) (upd H p (.lst (L.map fun x => V.ref x.2)))) := by
  subst hP hw
  exact call_list_N hc
end
section
variable {P : Program} {w : World} {K : PySem.W.Frag} {mg : Str → Option Value} {base : Heap}
def spWays : Sp := fun vs H Q _ => ∃ (a b : Addr) (r : List Int) (E : Eager) (as : List Addr), vs = [.ref a, .ref b] ∧ H a = some (.tup (vI r)) ∧ H b = some (.lst (as.map V.ref)) ∧ Eags H as E ∧ E.length ≤ 3 ∧ (∀ x ∈ E, x.1 < r.length ∧ x.2.length ≤ 2 ∧ ∀ q ∈ x.2, q < r.length) ∧
  ∀ (H' : Hp) (p : Addr) (L : List (NK × Addr)), Same H H' → H p = none → H' p = some (.lst (L.map fun x => V.ref x.2)) → (∀ x ∈ L, NKAt H' x.1 x.2) → L.map (·.1) = waysM r E → Q (.ref p) H'
abbrev NWays : List Str := ["ring", "eager", "ways", "place", "ends", "more", "gone", "now", "end"]
theorem sc_ways_of : FnScope NWays ["ring", "eager"] (defScope s_ways_of) := ⟨rfl, rfl, rfl, by decide +kernel, rfl, by decide +kernel, by decide +kernel⟩
theorem ok_ways_of (T : Txt K mg) : DefOk P w K mg base 2 "ways_of" ["ring", "eager"] spWays := by
  refine def_ok (F_ways_of T) sc_ways_of (fun _ _ _ _ _ _ us hl => match us, hl with | [_, _], _ => rfl) (fun vs H Q E h => by obtain ⟨c, e, _, _, _, rfl, _⟩ := h; rfl) fun f cdv A outer s H vs Q E hr h => ?_
  obtain ⟨a, b, r, E, as, rfl, ha, hb, ht, hE, hEx, h⟩ := h
  refine ⟨_, pss_cons (ps_set (i := 2) sc_ways_of.nd rfl (Or.inl rfl) (pe_dispP P w (hu10 hr) (pps_cons (pe_tup (pa_cons pe_int (pa_cons (pv 0) pa_nil))) pe_bl pps_nil)))
    (pss_cons (ps_for PassesOwn.never rfl (pi_list (pv 1)) (pg_tup rfl (pgs_cons (pg_name (i := 3) sc_ways_of.nd rfl (Or.inl rfl)) (pgs_cons (pg_name (i := 4) sc_ways_of.nd rfl (Or.inl rfl)) pgs_nil)))
        (pss_cons (ps_set (i := 5) sc_ways_of.nd rfl (Or.inl rfl) (pe_newP P w))
        (pss_cons (ps_lock (ps_for PassesOwn.never rfl (pi_keysP P w (pv 2)) (pg_tup rfl (pgs_cons (pg_name (i := 6) sc_ways_of.nd rfl (Or.inl rfl)) (pgs_cons (pg_name (i := 7) sc_ways_of.nd rfl (Or.inl rfl)) pgs_nil)))
            (pss_cons (ps_asg pe_bl (pg_sub (pv 5) (pe_tup (pa_cons (pv 6) (pa_cons (pv 7) pa_nil))) (set_NP P w (hu10 hr))))
            (pss_one (ps_for PassesOwn.never rfl (pi_list (pv 4)) (pg_name (i := 8) sc_ways_of.nd rfl (Or.inl rfl))
                (pss_one (ps_asg pe_bl (pg_sub (pv 5) (pe_tup (pa_cons (pe_op op_add (pv 6) pe_int) (pa_cons (pe_cd (ok_with_gone T) hr (pa_cons (pv 7) (pa_cons (pv 3) (pa_cons (pv 8) pa_nil)))) pa_nil))) (set_NP P w (hu10 hr))))))))))
        (pss_one (ps_set (i := 2) sc_ways_of.nd rfl (Or.inl rfl) (pv 5))))))
    (pss_one (ps_ret (pe_callTy (list_NP P w (by rfl)) (by rfl) T.b_list (by decide +kernel) (pa_cons (pv 2) pa_nil))))), ?_⟩
  have len27 : ∀ i, (waysM r (E.take i)).length ≤ 27 := fun i => by
    have h1 := waysM_few r _ (E.take i) rfl fun x hx => (hEx x (List.mem_of_mem_take hx)).2.1
    have h2 : (E.take i).length ≤ 3 := by rw [List.length_take]; omega
    exact Nat.le_trans h1 (Nat.pow_le_pow_right (by decide) h2)
  -- ways = {(0, ring): True}
  intro d hd
  have s0 : Same H (upd H d (ND P w d [])) := Same.new (Same.refl H) hd
  refine ⟨_, rfl, by show 2 ≤ sizeLine; decide, fun t ht0 => ?_⟩
  have s1 : Same H (upd (upd H d (ND P w d [])) t (.tup [.int 0, .ref a])) := Same.new s0 ht0
  have td : t ≠ d := fun z => by rw [z, upd_same] at ht0; cases ht0
  have nd0 : NDict P w (upd (upd H d (ND P w d [])) t (.tup [.int 0, .ref a])) d [] := ⟨by rw [upd_ne td.symm]; exact upd_same, (fun _ z => nomatch z), List.nodup_nil⟩
  have nk0 : NKAt (upd (upd H d (ND P w d [])) t (.tup [.int 0, .ref a])) (0, r) t := ⟨a, upd_same, s1 _ _ ha⟩
  refine ⟨t, (0, r), rfl, nd0, nk0, ?_⟩
  have nd1 := NDict.put nd0 nk0
  have s2 : Same H (upd (upd (upd H d (ND P w d [])) t (.tup [.int 0, .ref a])) d (ND P w d [((0, r), t)])) := Same.at_ s1 hd
  have nd1 : NDict P w (upd (upd (upd H d (ND P w d [])) t (.tup [.int 0, .ref a])) d (ND P w d [((0, r), t)])) d [((0, r), t)] := nd1
  generalize upd (upd (upd H d (ND P w d [])) t (.tup [.int 0, .ref a])) d (ND P w d [((0, r), t)]) = H1 at s2 nd1
  refine ⟨_, rfl, b, rfl, ⟨_, SqL.of (s2 _ _ hb)⟩, ?_⟩
  have al : as.length = E.length := Paired.len' ht
  refine for_list (K := K) (a := b) (xs := as.map V.ref) (fun i σ H' => ∃ d L v3 v4 v5 v6 v7 v8, σ = [some (.ref a), some (.ref b), some (.ref d), v3, v4, v5, v6, v7, v8] ∧ Same H H' ∧ H d = none ∧ NDict P w H' d L ∧ L.map (·.1) = waysM r (E.take i))
    ⟨d, _, none, none, none, none, none, none, rfl, s2, hd, nd1, rfl⟩ (fun i σ H' _ ⟨_, _, _, _, _, _, _, _, _, s, _⟩ => SqL.of (s _ _ hb)) ?_ ?_
  · rintro i x σ H2 hx ⟨d, L, v3, v4, v5, v6, v7, v8, rfl, s2, hd, nd, hL⟩
    obtain ⟨c, hc, rfl⟩ := get_refs hx
    obtain ⟨x, hxE, q, c1, c2⟩ := Paired.left ht hc
    obtain ⟨xp, xe, xq⟩ := hEx x (List.mem_of_getElem? hxE)
    refine ⟨c, _, rfl, SqT.of (s2 _ _ c1), rfl, _, _, rfl, _, _, rfl, rfl, fun m hm => ?_⟩
    have s3 : Same H2 (upd H2 m (ND P w m [])) := Same.new (Same.refl H2) hm
    have md : m ≠ d := fun z => by rw [z, nd.at_] at hm; cases hm
    have m0 : H m = none := Same.none s2 hm
    have ndm : NDict P w (upd H2 m (ND P w m [])) m [] := ⟨upd_same, (fun _ z => nomatch z), List.nodup_nil⟩
    have ndd := NDict.same s3 nd
    have s23 := Same.trans s2 s3
    generalize upd H2 m (ND P w m []) = H3 at s3 ndm ndd s23
    refine ⟨d, ND P w d L, ndd.at_, trivial, fun od => ?_⟩
    refine ⟨_, rfl, d, od, L, rfl, upd_same, ?_⟩
    have dq : q ≠ d := ne_of (s23 _ _ c2) ndd.at_ (fun z => by unfold ND at z; cases z)
    have dm' : m ≠ d := md
    have kp0 : But d H3 (upd H3 d (.frz od (ND P w d L))) := But.upd But.refl
    refine for_it (walk_N (P := P) (w := w) (d := d) (o := od) (L := L)) (fun j σ H' => ∃ M v6 v7 v8, σ = [some (.ref a), some (.ref b), some (.ref d), some (.int (x.1 : Int)), some (.ref q), some (.ref m), v6, v7, v8] ∧ (∀ b o, H3 b = some o → b ≠ d → b ≠ m → H' b = some o) ∧ H' d = some (.frz od (ND P w d L)) ∧ NDict P w H' m M ∧
        M.map (·.1) = ((L.take j).map (·.1)).foldl (wayAll x) [])
      ⟨[], v6, v7, v8, rfl, fun b o e hb _ => kp0 b o e hb, upd_same, NDict.upd ndd.at_ (fun _ z => by unfold ND at z; cases z) md ndm, rfl⟩ (fun j σ H' _ ⟨_, _, _, _, _, _, z, _⟩ => z) ?_ ?_
    · rintro j y σ H4 H5 hj ⟨M, v6, v7, v8, rfl, k4, d4, m4, e4⟩ ⟨rfl, k, qk, hk, rfl⟩
      have mem := List.mem_of_getElem? hk
      obtain ⟨rb, n1, n2⟩ := ndd.keys _ mem
      have NDne : ∀ {L : List (NK × Addr)} {dd : Addr} {xs : List V}, HO.tup xs ≠ ND P w dd L := fun z => by unfold ND at z; cases z
      have n1' := k4 _ _ n1 (ne_of n1 ndd.at_ NDne) (ne_of n1 ndm.at_ NDne)
      have n2' := k4 _ _ n2 (ne_of n2 ndd.at_ NDne) (ne_of n2 ndm.at_ NDne)
      have klen : k.2.length = r.length := by
        have : k ∈ waysM r (E.take i) := by
          rw [← hL]
          exact List.mem_map.mpr ⟨(k, qk), mem, rfl⟩
        exact waysM_len this
      have Mlen : ∀ {M : List (NK × Addr)} {W : List NK}, M.map (·.1) = W → W.length ≤ 1000 → M.length ≤ sizeLine := fun e hl => by
        have := congrArg List.length e
        rw [List.length_map] at this
        rw [this]
        exact Nat.le_trans hl (by decide)
      have L27 : L.length ≤ 27 := by
        have := congrArg List.length hL
        rw [List.length_map] at this
        rw [this]
        exact len27 i
      have wl := wayStep_len x ((L.take j).map (·.1)) []
      have wl2 : ((L.take j).map (·.1)).length * (1 + x.2.length) ≤ 27 * 3 := Nat.mul_le_mul (by rw [List.length_map, List.length_take]; omega) (by omega)
      simp only [List.length_nil] at wl
      -- more[(gone, now)] = True
      refine ⟨qk, _, rfl, SqT.of n1', rfl, _, _, rfl, _, _, rfl, rfl, _, rfl, _, rfl, _, rfl, by show 2 ≤ sizeLine; decide, fun t ht1 => ?_⟩
      have tm : t ≠ m := fun z => by rw [z, m4.at_] at ht1; cases ht1
      have td : t ≠ d := fun z => by rw [z, d4] at ht1; cases ht1
      have s5 : Same H5 (upd H5 t (.tup [.int k.1, .ref rb])) := Same.new (Same.refl H5) ht1
      have nk : NKAt (upd H5 t (.tup [.int k.1, .ref rb])) k t := ⟨rb, upd_same, s5 _ _ n2'⟩
      have m5 := NDict.same s5 m4
      refine ⟨m, t, M, k, rfl, rfl, rfl, m5, Mlen e4 (by omega), nk, ?_⟩
      have m6 := NDict.put m5 nk
      have e6 : (putN M k t).map (·.1) = addK (((L.take j).map (·.1)).foldl (wayAll x) []) k := by rw [putN_addK, e4]
      have k6 : ∀ b o, H3 b = some o → b ≠ d → b ≠ m → upd (upd H5 t (.tup [.int k.1, .ref rb])) m (ND P w m (putN M k t)) b = some o := fun b o e h1 h2 => by
        rw [upd_ne h2]
        exact s5 _ _ (k4 b o e h1 h2)
      have d6 : upd (upd H5 t (.tup [.int k.1, .ref rb])) m (ND P w m (putN M k t)) d = some (.frz od (ND P w d L)) := by
        rw [upd_ne md.symm]
        exact s5 _ _ d4
      generalize upd (upd H5 t (.tup [.int k.1, .ref rb])) m (ND P w m (putN M k t)) = H6 at m6 k6 d6
      clear m5 nk s5 ht1 tm td
      have mq : q ≠ m := ne_of (s23 _ _ c2) ndm.at_ (fun z => by unfold ND at z; cases z)
      refine ⟨_, rfl, q, rfl, ⟨_, SqL.of (k6 _ _ (s23 _ _ c2) dq mq)⟩, ?_⟩
      refine for_list (K := K) (a := q) (xs := vN x.2) (fun z σ H' => ∃ M v8, σ = [some (.ref a), some (.ref b), some (.ref d), some (.int (x.1 : Int)), some (.ref q), some (.ref m), some (.int k.1), some (.ref rb), v8] ∧ (∀ b o, H3 b = some o → b ≠ d → b ≠ m → H' b = some o) ∧ H' d = some (.frz od (ND P w d L)) ∧ NDict P w H' m M ∧
          M.map (·.1) = (x.2.take z).foldl (fun o q => addK o (k.1 + 1, goneM k.2 x.1 q)) (addK (((L.take j).map (·.1)).foldl (wayAll x) []) k))
        ⟨_, v8, rfl, k6, d6, m6, e6⟩ (fun z σ H' _ ⟨_, _, _, k7, _⟩ => SqL.of (k7 _ _ (s23 _ _ c2) dq mq)) ?_ ?_
      · rintro z y σ H7 hz ⟨M2, v8, rfl, k7, d7, m7, e7⟩
        rw [List.getElem?_map, Option.map_eq_some_iff] at hz
        obtain ⟨ge, hge, rfl⟩ := hz
        have n2'' := k7 _ _ n2 (ne_of n2 ndd.at_ NDne) (ne_of n2 ndm.at_ NDne)
        have gel := xq ge (List.mem_of_getElem? hge)
        refine ⟨_, rfl, _, rfl, _, _, rfl, rfl, _, rfl, _, rfl, _, rfl, rb, k.2, x.1, ge, rfl, Sq.tup n2'', by rw [klen]; exact xp, by rw [klen]; exact gel, fun H8 g s8 hg8 g8 => ?_⟩
        refine ⟨by show 2 ≤ sizeLine; decide, fun t ht8 => ?_⟩
        have s9 : Same H7 (upd H8 t (.tup [.int (k.1 + 1), .ref g])) := Same.new s8 ht8
        have nk : NKAt (upd H8 t (.tup [.int (k.1 + 1), .ref g])) (k.1 + 1, goneM k.2 x.1 ge) t := ⟨g, upd_same, by rw [upd_ne (ne_of_none g8 ht8)]; exact g8⟩
        have m9 := NDict.same s9 m7
        have fl : ((x.2.take z).foldl (fun o q => addK o (k.1 + 1, goneM k.2 x.1 q)) (addK (((L.take j).map (·.1)).foldl (wayAll x) []) k)).length ≤ 1000 := by
          have aux : ∀ (l : List Nat) (o : List NK), (l.foldl (fun o q => addK o ((k.1 + 1, goneM k.2 x.1 q) : NK)) o).length ≤ o.length + l.length := by
            intro l
            induction l with
            | nil => intro o; exact Nat.le_refl _
            | cons q l ih =>
              intro o
              have h1 := ih (addK o ((k.1 + 1, goneM k.2 x.1 q) : NK))
              have h2 := addK_len o ((k.1 + 1, goneM k.2 x.1 q) : NK)
              rw [List.foldl_cons, List.length_cons]
              omega
          have h1 := aux (x.2.take z) (addK (((L.take j).map (·.1)).foldl (wayAll x) []) k)
          have h2 := addK_len (((L.take j).map (·.1)).foldl (wayAll x) []) k
          have h3 : (x.2.take z).length ≤ 2 := by rw [List.length_take]; omega
          refine Nat.le_trans h1 ?_
          omega
        refine ⟨m, t, M2, (k.1 + 1, goneM k.2 x.1 ge), rfl, rfl, rfl, m9, Mlen e7 fl, nk, ?_⟩
        refine ⟨_, _, rfl, fun b o e h1 h2 => ?_, ?_, NDict.put m9 nk, ?_⟩
        · rw [upd_ne h2]
          exact s9 _ _ (k7 b o e h1 h2)
        · rw [upd_ne md.symm]
          exact s9 _ _ d7
        · rw [putN_addK, e7, take_snoc hge, List.foldl_append]
          rfl
      · rintro σ H7 ⟨M2, v8, rfl, k7, d7, m7, e7⟩
        rw [List.length_map, List.take_length] at e7
        refine ⟨M2, _, _, _, rfl, k7, d7, m7, ?_⟩
        rw [e7, take_snoc hk, List.map_append, List.foldl_append]
        rfl
    · rintro σ H4 ⟨M, v6, v7, v8, rfl, k4, d4, m4, e4⟩
      rw [List.take_length, hL] at e4
      refine ⟨d4, _, rfl, m, M, _, _, _, _, _, _, rfl, fun b o e => ?_, m0, NDict.upd d4 (fun _ z => nomatch z) md m4, ?_⟩
      · rw [upd_ne (ne_of_none e hd)]
        exact k4 _ _ (s23 _ _ e) (ne_of_none e hd) (ne_of_none e m0)
      · rw [take_snoc hxE, waysM_snoc]
        exact e4
  · rintro σ H2 ⟨d, L, v3, v4, v5, v6, v7, v8, rfl, s2, hd, nd, hL⟩
    rw [List.length_map, al, List.take_length] at hL
    have L27 : L.length ≤ 27 := by
      have := congrArg List.length hL
      rw [List.length_map] at this
      have h2 := len27 E.length
      rw [List.take_length] at h2
      omega
    refine ⟨_, rfl, d, L, rfl, nd.at_, Nat.le_trans L27 (by decide), fun p hp => ?_⟩
    exact h _ p L (Same.new s2 hp) (Same.none s2 hp) upd_same (fun x hx => NKAt.same (Same.new (Same.refl H2) hp) (nd.keys x hx)) hL
end
end RG
namespace RG
theorem sum_set : ∀ (l : List Int) (i : Nat) (x : Int), i < l.length → (l.set i x).sum = l.sum - l.getD i 0 + x
  | [], _, _, h => absurd h (Nat.not_lt_zero _)
  | a :: l, 0, x, _ => by
    rw [List.set_cons_zero, List.sum_cons, List.sum_cons, List.getD_cons_zero]
    omega
  | a :: l, i + 1, x, h => by
    rw [List.set_cons_succ, List.sum_cons, List.sum_cons, List.getD_cons_succ, sum_set l i x (by simpa using h)]
    omega
theorem getD_set (l : List Int) (i j : Nat) (x : Int) (h : i < l.length) : (l.set i x).getD j 0 = if i = j then x else l.getD j 0 := by
  rw [List.getD_eq_getElem?_getD, List.getD_eq_getElem?_getD, List.getElem?_set]
  split
  · rename_i e
    subst e
    rfl
  · rfl
theorem gone_sum {l : List Int} {p q : Nat} (hp : p < l.length) (hq : q < l.length) : (goneM l p q).sum = l.sum := by
  unfold goneM
  rw [sum_set _ q _ (by rw [List.length_set]; exact hq), sum_set l p _ hp]
  omega
theorem gone_get {l : List Int} {p q : Nat} (hp : p < l.length) (hq : q < l.length) (i : Nat) : (goneM l p q).getD i 0 = l.getD i 0 - (if p = i then 1 else 0) + (if q = i then 1 else 0) := by
  unfold goneM
  rw [getD_set _ q i _ (by rw [List.length_set]; exact hq), getD_set l p i _ hp, getD_set l p q _ hp]
  split <;> split <;> (try split) <;> (try subst_vars) <;> omega
abbrev Ms : Type := List (Nat × Nat)
def cnt (ms : Ms) (p : Nat) : Nat := (ms.filter fun m => decide (m.1 = p)).length
def cntE (E : List (Nat × List Nat)) (p : Nat) : Nat := (E.filter fun m => decide (m.1 = p)).length
theorem cntE_append (E F : List (Nat × List Nat)) (p : Nat) : cntE (E ++ F) p = cntE E p + cntE F p := by
  unfold cntE
  rw [List.filter_append, List.length_append]
theorem sel_cnt {E : List (Nat × List Nat)} {ms : Ms} (h : Sel E ms) (p : Nat) : cnt ms p ≤ cntE E p := by
  induction h with
  | nil => exact Nat.le_refl _
  | skip _ ih =>
    rw [cntE_append]
    omega
  | @take E ms x q _ hq ih =>
    rw [cntE_append]
    unfold cnt cntE at ih ⊢
    rw [List.filter_append, List.length_append]
    have : (List.filter (fun m => decide (m.1 = p)) [(x.1, q)]).length = (List.filter (fun m => decide (m.1 = p)) [x]).length := by
      by_cases e : x.1 = p
      · simp [e]
      · simp [e]
    omega
theorem sel_mem {E : List (Nat × List Nat)} {ms : Ms} (h : Sel E ms) : ∀ m ∈ ms, ∃ x ∈ E, m.1 = x.1 ∧ m.2 ∈ x.2 := by
  induction h with
  | nil => intro m hm; cases hm
  | skip _ ih =>
    intro m hm
    obtain ⟨x, hx, r⟩ := ih m hm
    exact ⟨x, List.mem_append_left _ hx, r⟩
  | @take E ms x q _ hq ih =>
    intro m hm
    rcases List.mem_append.mp hm with hm | hm
    · obtain ⟨x, hx, r⟩ := ih m hm
      exact ⟨x, List.mem_append_left _ hx, r⟩
    · rw [List.mem_singleton.mp hm]
      exact ⟨x, List.mem_append_right _ (List.mem_singleton.mpr rfl), rfl, hq⟩
theorem cnt_cons (m : Nat × Nat) (ms : Ms) (p : Nat) : cnt (m :: ms) p = (if m.1 = p then 1 else 0) + cnt ms p := by
  unfold cnt
  rw [List.filter_cons]
  split
  · rename_i h
    rw [if_pos (of_decide_eq_true h), List.length_cons]
    omega
  · rename_i h
    rw [if_neg (by simpa using h)]
    omega
theorem doAll_sum : ∀ (ms : Ms) (r : List Int), (∀ m ∈ ms, m.1 < r.length ∧ m.2 < r.length) → (doAllM r ms).sum = r.sum
  | [], _, _ => rfl
  | m :: ms, r, h => by
    have hm := h m List.mem_cons_self
    have ih := doAll_sum ms (goneM r m.1 m.2) fun x hx => by
      rw [goneM_len]
      exact h x (List.mem_cons_of_mem _ hx)
    show (doAllM (goneM r m.1 m.2) ms).sum = r.sum
    rw [ih, gone_sum hm.1 hm.2]
theorem doAll_ge : ∀ (ms : Ms) (r : List Int), (∀ m ∈ ms, m.1 < r.length ∧ m.2 < r.length) → ∀ i, r.getD i 0 - (cnt ms i : Int) ≤ (doAllM r ms).getD i 0
  | [], r, _, i => by
    show r.getD i 0 - ((0 : Nat) : Int) ≤ r.getD i 0
    omega
  | m :: ms, r, h, i => by
    have hm := h m List.mem_cons_self
    have ih := doAll_ge ms (goneM r m.1 m.2) (fun x hx => by
      rw [goneM_len]
      exact h x (List.mem_cons_of_mem _ hx)) i
    rw [gone_get hm.1 hm.2] at ih
    rw [cnt_cons]
    show _ ≤ (doAllM (goneM r m.1 m.2) ms).getD i 0
    have e : (((if m.1 = i then 1 else 0) + cnt ms i : Nat) : Int) = (if m.1 = i then 1 else 0) + (cnt ms i : Int) := by split <;> simp
    rw [e]
    split at ih <;> split at ih <;> (try rw [if_pos (by assumption)]) <;> (try rw [if_neg (by assumption)]) <;> omega
/-! ### the eager of a name -/
theorem ends_len (s : SightD) (t : Int) (n : Nat) : (endsM s t n).length ≤ 2 := by
  unfold endsM
  split
  · exact Nat.zero_le _
  · split
    · exact Nat.le_refl _
    · split <;> exact Nat.le_succ _
theorem ends_lt {s : SightD} {t : Int} {n : Nat} (h : 0 < n) : ∀ q ∈ endsM s t n, q < n := by
  have z1 := Int.emod_nonneg (s.place + s.way) (show ((n : Nat) : Int) ≠ 0 by omega)
  have z2 := Int.emod_nonneg (s.place - s.way) (show ((n : Nat) : Int) ≠ 0 by omega)
  have z3 := Int.emod_lt_of_pos (s.place + s.way) (show (0 : Int) < (n : Int) by omega)
  have z4 := Int.emod_lt_of_pos (s.place - s.way) (show (0 : Int) < (n : Int) by omega)
  intro q hq
  unfold endsM at hq
  split at hq
  · cases hq
  · split at hq
    · simp only [List.mem_cons, List.not_mem_nil, or_false] at hq
      rcases hq with e | e <;> omega
    · split at hq
      · simp only [List.mem_cons, List.not_mem_nil, or_false] at hq
        omega
      · simp only [List.mem_cons, List.not_mem_nil, or_false] at hq
        omega
def partS (l : List Int) (e : Int) (m : Nat) : List SightD := ((List.range m).filter fun p => decide (0 < l.getD p 0)).map fun p => sightM l p e
theorem partS_succ (l : List Int) (e : Int) (m : Nat) : partS l e (m + 1) = partS l e m ++ if 0 < l.getD m 0 then [sightM l m e] else [] := by
  unfold partS
  rw [List.range_succ, List.filter_append, List.map_append]
  congr 1
  rw [List.filter_cons]
  by_cases h : 0 < l.getD m 0
  · rw [if_pos (decide_eq_true h), if_pos h]
    rfl
  · rw [if_neg (by simpa using h), if_neg h]
    rfl
theorem eag_at (l : List Int) (m : Nat) (e t : Int) : ∀ x ∈ eagOf (sightM l m e) t l, x = (m, endsM (sightM l m e) t l.length) := by
  intro x hx
  unfold eagOf at hx
  split at hx
  · cases hx
  · exact (List.mem_replicate.mp hx).2
theorem eag_cnt (l : List Int) (m : Nat) (e t : Int) : (eagOf (sightM l m e) t l).length ≤ (l.getD m 0).toNat := by
  unfold eagOf
  split
  · exact Nat.zero_le _
  · rw [List.length_replicate]
    exact Nat.le_refl _
theorem cntE_eag (l : List Int) (m : Nat) (e t : Int) (p : Nat) : cntE (eagOf (sightM l m e) t l) p ≤ if m = p then (l.getD p 0).toNat else 0 := by
  by_cases h : m = p
  · rw [if_pos h, ← h]
    exact Nat.le_trans (List.length_filter_le _ _) (eag_cnt l m e t)
  · rw [if_neg h]
    unfold cntE
    rw [List.filter_eq_nil_iff.mpr fun x hx => by
      rw [eag_at l m e t x hx]
      simpa using h]
    exact Nat.le_refl _
theorem cntE_part (l : List Int) (e : Int) (tell : List Int → Int) (p : Nat) : ∀ m, cntE (eagerM (partS l e m) tell l) p ≤ if p < m then (l.getD p 0).toNat else 0
  | 0 => by
    show cntE [] p ≤ _
    exact Nat.zero_le _
  | m + 1 => by
    have ih := cntE_part l e tell p m
    rw [partS_succ]
    split
    · rw [eagerM_snoc, cntE_append]
      have h2 := cntE_eag l m e (tell (sightM l m e).lesser) p
      split at ih <;> split at h2 <;> split <;> omega
    · rw [List.append_nil]
      split at ih <;> split <;> omega
theorem eager_few (l : List Int) (e : Int) (tell : List Int → Int) (h : ∀ x ∈ l, 0 ≤ x) : ∀ m, m ≤ l.length → ((eagerM (partS l e m) tell l).length : Int) ≤ (l.take m).sum
  | 0, _ => by
    show ((0 : Nat) : Int) ≤ _
    simp
  | m + 1, hm => by
    have ih := eager_few l e tell h m (by omega)
    have hg : l[m]? = some (l.getD m 0) := by
      rw [List.getD_eq_getElem?_getD, List.getElem?_eq_getElem (by omega)]
      rfl
    have h0 := h _ (List.mem_of_getElem? hg)
    rw [List.take_add_one, hg, List.sum_append, partS_succ]
    simp only [Option.toList_some, List.sum_cons, List.sum_nil]
    split
    · rw [eagerM_snoc, List.length_append]
      have h2 := eag_cnt l m e (tell (sightM l m e).lesser)
      omega
    · rw [List.append_nil]
      omega
theorem eager_ok {n k : Nat} {l : List Int} (e : Int) (tell : List Int → Int) (h : RingOk n k l) (h0 : 0 < n) : (eagerM (sightsM l e) tell l).length ≤ k ∧ (∀ x ∈ eagerM (sightsM l e) tell l, x.1 < l.length ∧ x.2.length ≤ 2 ∧ ∀ q ∈ x.2, q < l.length) ∧ ∀ p, cntE (eagerM (sightsM l e) tell l) p ≤ (l.getD p 0).toNat := by
  have hp : sightsM l e = partS l e l.length := rfl
  refine ⟨?_, fun x hx => ?_, fun p => ?_⟩
  · have := eager_few l e tell h.pos l.length (Nat.le_refl _)
    rw [List.take_length, h.sum] at this
    rw [hp]
    omega
  · unfold eagerM at hx
    obtain ⟨s, hs, hx⟩ := List.mem_flatMap.mp hx
    obtain ⟨p, hp1, hp2, rfl⟩ := sights_mem hs
    rw [eag_at l p e _ x hx]
    have hl : 0 < l.length := by rw [h.len]; exact h0
    exact ⟨hp1, ends_len _ _ _, ends_lt hl⟩
  · have := cntE_part l e tell p l.length
    rw [hp]
    split at this <;> omega
/-- what comes of a name by moves is a ring with as many robots -/
theorem ways_ring {n k : Nat} {l : List Int} {e : Int} {tell : List Int → Int} (h : RingOk n k l) (h0 : 0 < n) {y : NKey} (hy : y ∈ waysM l (eagerM (sightsM l e) tell l)) : RingOk n k y.2 := by
  obtain ⟨ms, hs, rfl⟩ := (ways_sel _ _ _ rfl y).mp hy
  obtain ⟨_, h2, h3⟩ := eager_ok e tell h h0
  have hm : ∀ m ∈ ms, m.1 < l.length ∧ m.2 < l.length := fun m hm => by
    obtain ⟨x, hx, e1, e2⟩ := sel_mem hs m hm
    obtain ⟨a, _, b⟩ := h2 x hx
    exact ⟨e1 ▸ a, b _ e2⟩
  refine ⟨(doAllM_len _ _).trans h.len, (doAll_sum ms l hm).trans h.sum, fun x hx => ?_⟩
  obtain ⟨i, hi⟩ := List.mem_iff_getElem?.mp hx
  have h4 := doAll_ge ms l hm i
  have h5 := sel_cnt hs i
  have h6 := h3 i
  have h7 : (doAllM l ms).getD i 0 = x := by
    rw [List.getD_eq_getElem?_getD]
    show ((doAllM l ms)[i]?).getD 0 = x
    rw [show (doAllM l ms)[i]? = some x from hi]
    rfl
  rw [h7] at h4
  have h8 : 0 ≤ l.getD i 0 := by
    rw [List.getD_eq_getElem?_getD]
    cases e : l[i]? with
    | none => exact Int.le_refl _
    | some z => exact h.pos z (List.mem_of_getElem? e)
  omega
end RG
namespace RG
open PySem PySem.Spec PyProof.Rows L2
/-! ### numbers in order -/
def insN (x : Nat) : List Nat → List Nat
  | [] => [x]
  | y :: r => if y < x then y :: insN x r else x :: y :: r
def sortN : List Nat → List Nat
  | [] => []
  | x :: r => insN x (sortN r)
theorem insN_perm (x : Nat) : ∀ l : List Nat, (insN x l).Perm (x :: l)
  | [] => .refl _
  | y :: r => by
    unfold insN
    split
    · exact ((insN_perm x r).cons y).trans (.swap x y r)
    · exact .refl _
theorem sortN_perm : ∀ l : List Nat, (sortN l).Perm l
  | [] => .refl _
  | x :: r => (insN_perm x (sortN r)).trans ((sortN_perm r).cons x)
theorem insN_sorted (x : Nat) : ∀ l : List Nat, l.Pairwise (· ≤ ·) → (insN x l).Pairwise (· ≤ ·)
  | [], _ => List.pairwise_singleton _ _
  | y :: r, h => by
    obtain ⟨h1, h2⟩ := List.pairwise_cons.mp h
    unfold insN
    split
    · refine List.pairwise_cons.mpr ⟨fun z hz => ?_, insN_sorted x r h2⟩
      rcases List.mem_cons.mp ((insN_perm x r).mem_iff.mp hz) with e | hz
      · omega
      · exact h1 z hz
    · refine List.pairwise_cons.mpr ⟨fun z hz => ?_, h⟩
      rcases List.mem_cons.mp hz with e | hz
      · omega
      · have := h1 z hz
        omega
theorem sortN_sorted : ∀ l : List Nat, (sortN l).Pairwise (· ≤ ·)
  | [] => List.Pairwise.nil
  | x :: r => insN_sorted x _ (sortN_sorted r)
theorem sorted_uniqueI : ∀ {l m : List Int}, l.Perm m → l.Pairwise (· ≤ ·) → m.Pairwise (· ≤ ·) → l = m
  | [], m, p, _, _ => (List.nil_perm.mp p).symm ▸ rfl
  | a :: l, [], p, _, _ => absurd p.symm.nil_eq (by simp)
  | a :: l, b :: m, p, h1, h2 => by
    obtain ⟨a1, a2⟩ := List.pairwise_cons.mp h1
    obtain ⟨b1, b2⟩ := List.pairwise_cons.mp h2
    have e : a = b := by
      have ha : a ∈ b :: m := p.mem_iff.mp List.mem_cons_self
      have hb : b ∈ a :: l := p.mem_iff.mpr List.mem_cons_self
      rcases List.mem_cons.mp ha with e | ha
      · exact e
      rcases List.mem_cons.mp hb with e | hb
      · exact e.symm
      have := a1 b hb
      have := b1 a ha
      omega
    subst e
    rw [sorted_uniqueI ((List.perm_cons a).mp p) a2 b2]
abbrev iN (l : List Nat) : List Int := l.map fun (q : Nat) => (q : Int)
theorem sortI_of {ys : List Int} {ks : List Nat} (p : ys.Perm (iN ks)) (h : ys.Pairwise (· ≤ ·)) : ys = iN (sortN ks) := by
  refine sorted_uniqueI (p.trans ((sortN_perm ks).map _).symm) h ?_
  unfold iN
  rw [List.pairwise_map]
  exact (sortN_sorted ks).imp fun {a b} h => by omega
/-! ### names_ahead -/
def isMoveM (g : Int) (e : Nat) (m : Int) : Bool := if m = 0 then decide (g = 1) else if m = 1 then decide (1 ≤ g) else (decide (1 ≤ g) && decide (g = (e : Int)))
def keyStep (n k : Nat) (e : Nat) (m : Int) (o : List Nat) (y : NKey) : List Nat := if isMoveM y.1 e m = true then addK o (numM n k y.2) else o
def aheadKeys (n k : Nat) (E : Eager) (l : List Int) (m : Int) : List Nat := (waysM l E).foldl (keyStep n k E.length m) []
def tellM (n e k : Nat) (R : List Int) (r : List Int) : Int := R.getD (vnumM n e k r) 0
def eagL (n e k : Nat) (R : List Int) (l : List Int) : Eager := eagerM (sightsM l (e : Int)) (tellM n e k R) l
def aheadL (n e k : Nat) (R : List Int) (m : Int) (l : List Int) : List Nat := sortN (aheadKeys n k (eagL n e k R l) l m)
theorem foldKS_len (n k e : Nat) (m : Int) : ∀ (W : List NKey) (o : List Nat), (W.foldl (keyStep n k e m) o).length ≤ o.length + W.length
  | [], _ => Nat.le_refl _
  | y :: W, o => by
    have h1 := foldKS_len n k e m W (keyStep n k e m o y)
    have h2 : (keyStep n k e m o y).length ≤ o.length + 1 := by
      unfold keyStep
      split
      · exact addK_len _ _
      · omega
    rw [List.foldl_cons, List.length_cons]
    omega
section
variable {P : Program} {w : World} {K : PySem.W.Frag} {mg : Str → Option Value} {base : Heap}
def spIsMove : Sp := fun vs H Q _ => ∃ (g : Int) (e : Nat) (m : Int), vs = [.int g, .int (e : Int), .int m] ∧ Q (.bl (isMoveM g e m)) H
theorem sc_is_move : FnScope ["gone", "eager", "moves"] ["gone", "eager", "moves"] (defScope s_is_move) := ⟨rfl, rfl, rfl, by decide +kernel, rfl, by decide +kernel, by decide +kernel⟩
theorem ok_is_move (T : Txt K mg) : DefOk P w K mg base 1 "is_move" ["gone", "eager", "moves"] spIsMove := by
  refine def_ok (F_is_move T) sc_is_move (fun _ _ _ _ _ _ us hl => match us, hl with | [_, _, _], _ => rfl) (fun vs H Q E h => by obtain ⟨c, l, e, rfl, _⟩ := h; rfl) fun f cdv A outer s H vs Q E hr h => ?_
  obtain ⟨g, e, m, rfl, h⟩ := h
  refine ⟨_, pss_cons (ps_if (pt_cmpR op_eq (pv 2) pe_int (nomark _)) (pss_one (ps_ret (pe_cmpR op_eq (pv 0) pe_int (nomark _)))) pss_nil)
    (pss_cons (ps_if (pt_cmpR op_eq (pv 2) pe_int (nomark _)) (pss_one (ps_ret (pe_cmpR op_ge (pv 0) pe_int (nomark _)))) pss_nil)
    (pss_one (ps_ret (pe_and (pe_cmpR op_ge (pv 0) pe_int (nomark _)) (pe_one (pe_cmpR op_eq (pv 0) (pv 1) (nomark _))))))), ?_⟩
  unfold isMoveM at h
  refine ⟨_, rfl, rfl, _, rfl, ?_⟩
  rw [dec_int]
  by_cases c0 : m = 0
  · rw [if_pos c0] at h
    refine ifT c0 ⟨_, rfl, rfl, ?_⟩
    rw [dec_int]
    exact h
  rw [if_neg c0] at h
  refine ifF c0 ⟨_, rfl, rfl, _, rfl, ?_⟩
  rw [dec_int]
  by_cases c1 : m = 1
  · rw [if_pos c1] at h
    refine ifT c1 ⟨_, rfl, _, _, rfl, rfl, h⟩
  rw [if_neg c1] at h
  refine ifF c1 ⟨_, rfl, _, _, rfl, rfl, _, rfl, ?_⟩
  by_cases c2 : (1 : Int) ≤ g
  · rw [decide_eq_true c2, Bool.true_and] at h
    refine ifT c2 ⟨_, rfl, _, rfl, rfl, ?_⟩
    rw [dec_int]
    exact h
  · rw [decide_eq_false c2, Bool.false_and] at h
    exact ifF c2 h
end
end RG
namespace RG
open PySem PySem.Spec PyProof.Rows L2
theorem dm_ring {n e k : Nat} (D : Dims n e k) {l : List Int} (h : l ∈ namesM n k) : RingOk n k l := name_ring D.n3 D.n7 D.k1 D.k3 h
theorem fold_snoc {α β : Type} (f : β → α → β) (l : List α) (x : α) (o : β) : (l ++ [x]).foldl f o = f (l.foldl f o) x := by
  rw [List.foldl_append]
  rfl
theorem keyStep_yes {n k e : Nat} {m : Int} {o : List Nat} {y : NKey} (h : isMoveM y.1 e m = true) : keyStep n k e m o y = addK o (numM n k y.2) := if_pos h
theorem keyStep_no {n k e : Nat} {m : Int} {o : List Nat} {y : NKey} (h : ¬ isMoveM y.1 e m = true) : keyStep n k e m o y = o := if_neg h
theorem all_at {n e k i : Nat} {l : List Int} (h : (namesM n k)[i]? = some l) : (allS n e k)[i]? = some (sightsM l (e : Int)) := by
  unfold allS
  rw [List.getElem?_map, h]
  rfl
section
variable {P : Program} {w : World} {K : PySem.W.Frag} {mg : Str → Option Value} {base : Heap}
def spAhead (K : PySem.W.Frag) : Sp := fun vs H Q _ => ∃ (a b : Addr) (n e k i : Nat) (R l : List Int) (m : Int), vs = [.ref a, .int (i : Int), .ref b, .int m] ∧ Dims n e k ∧ FieldAt K H a n e k ∧ (namesM n k)[i]? = some l ∧ Sq K H b (vI R) ∧ R.length = (viewsM n e k).length ∧
  ∀ H' p, Same H H' → H p = none → H' p = some (.lst (vN (aheadL n e k R m l))) → Q (.ref p) H'
abbrev NAhead : List Str := ["field", "name", "rule", "moves", "eager", "coming", "gone", "ring"]
theorem sc_names_ahead : FnScope NAhead ["field", "name", "rule", "moves"] (defScope s_names_ahead) := ⟨rfl, rfl, rfl, by decide +kernel, rfl, by decide +kernel, by decide +kernel⟩
theorem ok_names_ahead (T : Txt K mg) : DefOk P w K mg base 3 "names_ahead" ["field", "name", "rule", "moves"] (spAhead K) := by
  refine def_ok (F_names_ahead T) sc_names_ahead (fun _ _ _ _ _ _ us hl => match us, hl with | [_, _, _, _], _ => rfl) (fun vs H Q E h => by obtain ⟨c, e, _, _, _, _, _, _, _, rfl, _⟩ := h; rfl) fun f cdv A outer s H vs Q E hr h => ?_
  obtain ⟨a, b, n, e, k, i, R, l, m, rfl, dm, fa, hl, hR, hRl, h⟩ := h
  obtain ⟨dx, pn, pq, ps, pv', pe, pm, ha, fp⟩ := id fa
  obtain ⟨as, n1, n2⟩ := fp.names
  obtain ⟨ra, hra, hring⟩ := Paired.right n2 hl
  have C := T.cl_Field
  have rg := dm_ring dm (List.mem_of_getElem? hl)
  obtain ⟨e1, e2, _⟩ := eager_ok (e : Int) (tellM n e k R) rg (by have := dm.n3; omega)
  refine ⟨_, pss_cons (ps_set (i := 4) sc_names_ahead.nd rfl (Or.inl rfl) (pe_cd (ok_eager_in T) hr (pa_cons (pv 0) (pa_cons (pv 1) (pa_cons (pv 2) pa_nil)))))
    (pss_cons (ps_set (i := 5) sc_names_ahead.nd rfl (Or.inl rfl) pe_dnewK)
    (pss_cons (ps_for PassesOwn.never rfl (pi_list (pe_cd (ok_ways_of T) hr (pa_cons (pe_ix ix_list (pe_fld (pv 0) rfl) (pv 1) (fun _ _ => rfl)) (pa_cons (pv 4) pa_nil)))) (pg_tup rfl (pgs_cons (pg_name (i := 6) sc_names_ahead.nd rfl (Or.inl rfl)) (pgs_cons (pg_name (i := 7) sc_names_ahead.nd rfl (Or.inl rfl)) pgs_nil)))
      (pss_one (ps_if (pt_val (pe_cd (ok_is_move T) (hr.mono (by decide)) (pa_cons (pv 6) (pa_cons (pe_len T.b_len (pa_cons (pv 4) pa_nil)) (pa_cons (pv 3) pa_nil)))))
        (pss_one (ps_dput (hu_of hr) (pv 5) (pe_dget (hu_of hr) (pe_fld (pv 0) rfl) (pv 7) (fun _ _ => rfl)) pe_bl rfl)) pss_nil)))
    (pss_one (ps_ret (pe_callB (call_sortedDI (by rfl)) (by rfl) T.b_sorted (by decide +kernel) (pa_cons (pv 5) pa_nil)))))), ?_⟩
  refine ⟨_, rfl, _, rfl, _, rfl, a, b, n, e, k, i, R, l, _, rfl, dm, fa, hl, all_at hl, hR, hRl, fun H1 p1 ts s1 hp1 q1 t1 => ?_⟩
  intro d hd
  have s2 : Same H (upd H1 d (.dK [])) := Same.new s1 hd
  have q2 : upd H1 d (.dK []) p1 = some (.lst (ts.map V.ref)) := Same.new (Same.refl H1) hd _ _ q1
  have t2 : Eags (upd H1 d (.dK [])) ts (eagL n e k R l) := Paired.imp' (fun _ _ z => EagAt.same (Same.new (Same.refl H1) hd) z) t1
  have d2 : upd H1 d (.dK []) d = some (.dK []) := upd_same
  have d0 : H d = none := Same.none s1 hd
  generalize upd H1 d (.dK []) = H2 at s2 q2 t2 d2
  clear s1 hp1 q1 t1 hd
  refine ⟨_, rfl, a, _, dx, _, _, rfl, s2 _ _ ha, C, T.n_Field_names, rfl, _, rfl, pn, _, _, .ref ra, rfl, rfl, SqL.of (s2 _ _ n1), atI_nat (by rw [List.getElem?_map, hra]; rfl), _, rfl, ra, p1, l, eagL n e k R l, ts, rfl, s2 _ _ hring, q2, t2, Nat.le_trans e1 dm.k3, e2, fun H3 p3 L s3 hp3 q3 k3 e3 => ?_⟩
  have s23 := Same.trans s2 s3
  have d3 := s3 _ _ d2
  refine ⟨p3, rfl, ⟨_, SqL.of q3⟩, ?_⟩
  have tl : ts.length = (eagL n e k R l).length := Paired.len' t2
  have Ll : L.length = (waysM l (eagL n e k R l)).length := by
    have := congrArg List.length e3
    rw [List.length_map] at this
    exact this
  have few : (waysM l (eagL n e k R l)).length ≤ 27 := by
    have h1 := waysM_few l _ (eagL n e k R l) rfl fun x hx => (e2 x hx).2.1
    exact Nat.le_trans h1 (Nat.pow_le_pow_right (by decide) (Nat.le_trans e1 dm.k3))
  have p3d : p3 ≠ d := fun z => by
    rw [z, d2] at hp3
    cases hp3
  refine for_list (K := K) (a := p3) (xs := L.map fun x => V.ref x.2) (fun j σ H' => ∃ kvs v6 v7, σ = [some (.ref a), some (.int (i : Int)), some (.ref b), some (.int m), some (.ref p1), some (.ref d), v6, v7] ∧ (∀ b o, H3 b = some o → b ≠ d → H' b = some o) ∧ H' d = some (.dK kvs) ∧
      kvs.map (·.1) = (((waysM l (eagL n e k R l)).take j).foldl (keyStep n k (eagL n e k R l).length m) []).map fun (q : Nat) => (Sum.inl (q : Int) : Key))
    ⟨[], none, none, rfl, fun _ _ e _ => e, d3, rfl⟩ (fun j σ H' _ ⟨_, _, _, _, k4, _⟩ => SqL.of (k4 _ _ q3 p3d)) ?_ ?_
  · rintro j x σ H4 hx ⟨kvs, v6, v7, rfl, k4, d4, e4⟩
    rw [List.getElem?_map, Option.map_eq_some_iff] at hx
    obtain ⟨⟨⟨g, r⟩, qk⟩, hk, rfl⟩ := hx
    have mem := List.mem_of_getElem? hk
    obtain ⟨rb, z1, z2⟩ := k3 _ mem
    have hW : (waysM l (eagL n e k R l))[j]? = some (g, r) := by
      rw [← e3, List.getElem?_map, hk]
      rfl
    have z1' := k4 _ _ z1 (ne_of z1 d3 (fun z => nomatch z))
    have z2' := k4 _ _ z2 (ne_of z2 d3 (fun z => nomatch z))
    have q2' := k4 _ _ (s3 _ _ q2) (ne_of (s3 _ _ q2) d3 (fun z => nomatch z))
    have rr : RingOk n k r := ways_ring rg (by have := dm.n3; omega) (List.mem_of_getElem? hW)
    obtain ⟨nv, nl⟩ := num_at dm.n3 dm.n7 dm.k1 dm.k3 rr
    refine ⟨qk, _, rfl, SqT.of z1', rfl, _, _, rfl, _, _, rfl, rfl, ?_⟩
    refine ⟨_, rfl, _, rfl, p1, _, rfl, .inl (SqL.of q2'), _, rfl, g, (eagL n e k R l).length, m, by rw [List.length_map, tl]; rfl, _, rfl, ?_⟩
    rw [take_snoc hW, fold_snoc]
    by_cases c : isMoveM g (eagL n e k R l).length m = true
    · refine ifTb c ?_
      have fn : H4 pq = some (.dT (numsM (namesM n k))) := k4 _ _ (s23 _ _ fp.nums) (ne_of_none (fp.nums) d0)
      have gt := DGet.t (k := kk r) fn (by rw [kk_kV]; exact z2')
      rw [nv] at gt
      have kl : kvs.length < sizeLine := by
        rw [keysI_len e4]
        have h1 := foldKS_len n k (eagL n e k R l).length m ((waysM l (eagL n e k R l)).take j) []
        rw [List.length_take] at h1
        simp only [List.length_nil] at h1
        exact Nat.lt_of_le_of_lt (show _ ≤ 100 by omega) (by decide)
      refine ⟨_, rfl, _, rfl, a, _, dx, _, _, rfl, k4 _ _ (s23 _ _ ha) (ne_of_none ha d0), C, T.n_Field_name_numbers, rfl, _, rfl, pq, _, rfl, gt, d, _, rfl, DPut.k (k := Sum.inl _) d4 kl, ?_⟩
      refine ⟨_, _, _, rfl, fun c o e hc => by rw [upd_ne hc]; exact k4 c o e hc, upd_same, ?_⟩
      rw [putI_keys e4, keyStep_yes (y := (g, r)) c]
    · refine ifFb (by simpa using c) ⟨kvs, _, _, rfl, k4, d4, ?_⟩
      rw [e4, keyStep_no (y := (g, r)) c]
  · rintro σ H4 ⟨kvs, v6, v7, rfl, k4, d4, e4⟩
    rw [List.length_map, Ll, List.take_length] at e4
    have e4 : kvs.map (·.1) = (aheadKeys n k (eagL n e k R l) l m).map fun (q : Nat) => (Sum.inl (q : Int) : Key) := e4
    refine ⟨_, rfl, d, kvs, iN (aheadKeys n k (eagL n e k R l) l m), rfl, .inl d4, by rw [e4, List.map_map]; rfl, ?_, fun ys p pm so hp => ?_⟩
    · have h1 := foldKS_len n k (eagL n e k R l).length m (waysM l (eagL n e k R l)) []
      rw [List.length_map]
      unfold aheadKeys
      simp only [List.length_nil] at h1
      omega
    · have ey := sortI_of pm so
      refine h _ p (fun c o e => ?_) ?_ ?_
      · have h1 := k4 _ _ (s23 _ _ e) (ne_of_none e d0)
        rw [upd_ne (ne_of_none h1 hp)]
        exact h1
      · cases hc : H p with
        | none => rfl
        | some u =>
          have h1 := k4 _ _ (s23 _ _ hc) (ne_of_none hc d0)
          rw [h1] at hp
          cases hp
      · rw [upd_same, ey, vN_vI]
        rfl
end
end RG
namespace RG
/-! ### plays on a graph -/
section
variable {α : Type} (nx : α → List α) (rest : α → Bool)
/-- gathers surely within m moves -/
def SureIn : Nat → α → Bool
  | 0, x => rest x
  | m + 1, x => rest x || (!(nx x).isEmpty && (nx x).all (SureIn m))
/-- can come to rest within m moves -/
def CanIn : Nat → α → Bool
  | 0, x => rest x
  | m + 1, x => rest x || (nx x).any (CanIn m)
end
section
variable {α : Type} {nx : α → List α} {rest : α → Bool}
theorem sure_succ {m : Nat} {x : α} : SureIn nx rest (m + 1) x = true ↔ rest x = true ∨ (nx x ≠ [] ∧ ∀ y ∈ nx x, SureIn nx rest m y = true) := by
  show (rest x || (!(nx x).isEmpty && (nx x).all (SureIn nx rest m))) = true ↔ _
  rw [Bool.or_eq_true, Bool.and_eq_true, List.all_eq_true]
  simp
theorem can_succ {m : Nat} {x : α} : CanIn nx rest (m + 1) x = true ↔ rest x = true ∨ ∃ y ∈ nx x, CanIn nx rest m y = true := by
  show (rest x || (nx x).any (CanIn nx rest m)) = true ↔ _
  rw [Bool.or_eq_true, List.any_eq_true]
theorem sure_step : ∀ {m : Nat} {x : α}, SureIn nx rest m x = true → SureIn nx rest (m + 1) x = true
  | 0, _, h => sure_succ.mpr (.inl h)
  | m + 1, x, h => by
    rcases sure_succ.mp h with h | ⟨h1, h2⟩
    · exact sure_succ.mpr (.inl h)
    · exact sure_succ.mpr (.inr ⟨h1, fun y hy => sure_step (h2 y hy)⟩)
theorem sure_mono {m k : Nat} {x : α} (h : m ≤ k) (h1 : SureIn nx rest m x = true) : SureIn nx rest k x = true := by
  induction h with
  | refl => exact h1
  | step _ ih => exact sure_step ih
theorem can_step : ∀ {m : Nat} {x : α}, CanIn nx rest m x = true → CanIn nx rest (m + 1) x = true
  | 0, _, h => can_succ.mpr (.inl h)
  | m + 1, x, h => by
    rcases can_succ.mp h with h | ⟨y, h1, h2⟩
    · exact can_succ.mpr (.inl h)
    · exact can_succ.mpr (.inr ⟨y, h1, can_step h2⟩)
theorem can_mono {m k : Nat} {x : α} (h : m ≤ k) (h1 : CanIn nx rest m x = true) : CanIn nx rest k x = true := by
  induction h with
  | refl => exact h1
  | step _ ih => exact can_step ih
end
/-- the least number of which p holds, if there is one -/
def Least (p : Nat → Bool) : Option Nat → Prop
  | some m => p m = true ∧ ∀ j, j < m → p j = false
  | none => ∀ m, p m = false
theorem Least.unique {p : Nat → Bool} : ∀ {a b : Option Nat}, Least p a → Least p b → a = b
  | none, none, _, _ => rfl
  | none, some m, h, k => by
    have := h m
    rw [k.1] at this
    cases this
  | some m, none, h, k => by
    have := k m
    rw [h.1] at this
    cases this
  | some m, some l, h, k => by
    rcases Nat.lt_trichotomy m l with c | c | c
    · have := k.2 m c
      rw [h.1] at this
      cases this
    · rw [c]
    · have := h.2 l c
      rw [k.1] at this
      cases this
theorem Least.congr {p q : Nat → Bool} (e : ∀ m, p m = q m) {a : Option Nat} (h : Least p a) : Least q a := by
  have : p = q := funext e
  rw [← this]
  exact h
abbrev Gr : Type := List (List Nat)
abbrev gNx (g : Gr) (i : Nat) : List Nat := g.getD i []
abbrev gRs (rs : List Bool) (i : Nat) : Bool := rs.getD i false
structure GrOk (g : Gr) (rs : List Bool) : Prop where
  len : rs.length = g.length
  into : ∀ i, ∀ j ∈ gNx g i, j < g.length
  still : ∀ i, gRs rs i = true → gNx g i = []
def MostOf (g : Gr) (rs : List Bool) (ms : List (Option Nat)) : Prop := ms.length = g.length ∧ ∀ i o, ms[i]? = some o → Least (fun m => SureIn (gNx g) (gRs rs) m i) o
def FewOf (g : Gr) (rs : List Bool) (ms : List (Option Nat)) : Prop := ms.length = g.length ∧ ∀ i o, ms[i]? = some o → Least (fun m => CanIn (gNx g) (gRs rs) m i) o
def startMs (rs : List Bool) : List (Option Nat) := rs.map fun b => if b = true then some 0 else none
/-! ### the most moves, sweep by sweep -/
structure Sound (g : Gr) (rs : List Bool) (ms : List (Option Nat)) : Prop where
  len : ms.length = g.length
  rest : ∀ i, i < g.length → gRs rs i = true → ms[i]? = some (some 0)
  ok : ∀ i m, ms[i]? = some (some m) → Least (fun m => SureIn (gNx g) (gRs rs) m i) (some m)
theorem rs_at {rs : List Bool} {i : Nat} (h : i < rs.length) : rs[i]? = some (gRs rs i) := by
  unfold gRs
  rw [List.getD_eq_getElem?_getD, List.getElem?_eq_getElem h]
  rfl
theorem start_at {rs : List Bool} {i : Nat} (h : i < rs.length) : (startMs rs)[i]? = some (if gRs rs i = true then some 0 else none) := by
  unfold startMs
  rw [List.getElem?_map, rs_at h]
  rfl
theorem start_sound {g : Gr} {rs : List Bool} (G : GrOk g rs) : Sound g rs (startMs rs) := by
  have hl : (startMs rs).length = g.length := by
    unfold startMs
    rw [List.length_map, G.len]
  refine ⟨hl, fun i hi hr => ?_, fun i m h => ?_⟩
  · rw [start_at (by rw [G.len]; exact hi), if_pos hr]
  · have hi : i < rs.length := by
      have := (List.getElem?_eq_some_iff.mp h).1
      rw [hl] at this
      rw [G.len]
      exact this
    rw [start_at hi] at h
    by_cases c : gRs rs i = true
    · rw [if_pos c] at h
      cases h
      exact ⟨c, fun j hj => absurd hj (Nat.not_lt_zero _)⟩
    · rw [if_neg c] at h
      cases h
/-- the moves of these names, all of them told -/
def toldAll (ms : List (Option Nat)) (l : List Nat) : Bool := l.all fun j => (ms.getD j none).isSome
def valsOf (ms : List (Option Nat)) (l : List Nat) : List Nat := l.map fun j => (ms.getD j none).getD 0
def maxN : List Nat → Nat
  | [] => 0
  | x :: r => max x (maxN r)
theorem le_maxN : ∀ {l : List Nat} {x : Nat}, x ∈ l → x ≤ maxN l
  | y :: l, x, h => by
    rcases List.mem_cons.mp h with e | h
    · rw [e]
      exact Nat.le_max_left _ _
    · exact Nat.le_trans (le_maxN h) (Nat.le_max_right _ _)
theorem maxN_mem : ∀ {l : List Nat}, l ≠ [] → maxN l ∈ l
  | [], h => absurd rfl h
  | [x], _ => by
    show max x 0 ∈ [x]
    rw [Nat.max_eq_left (Nat.zero_le _)]
    exact List.mem_singleton.mpr rfl
  | x :: y :: l, _ => by
    have ih := maxN_mem (l := y :: l) (by simp)
    show max x (maxN (y :: l)) ∈ _
    rcases Nat.le_total x (maxN (y :: l)) with c | c
    · rw [Nat.max_eq_right c]
      exact List.mem_cons_of_mem _ ih
    · rw [Nat.max_eq_left c]
      exact List.mem_cons_self
theorem getD_some {ms : List (Option Nat)} {j : Nat} (h : (ms.getD j none).isSome = true) : ∃ m, ms[j]? = some (some m) ∧ (ms.getD j none).getD 0 = m := by
  rw [List.getD_eq_getElem?_getD] at h ⊢
  cases e : ms[j]? with
  | none =>
    rw [e] at h
    cases h
  | some o =>
    rw [e] at h
    cases o with
    | none => cases h
    | some m => exact ⟨m, rfl, rfl⟩
theorem Sound.put {g : Gr} {rs : List Bool} {ms : List (Option Nat)} (S : Sound g rs ms) {i : Nat} (hi : i < g.length) (h0 : ms[i]? = some none) (h1 : gNx g i ≠ []) (h2 : toldAll ms (gNx g i) = true) :
    Sound g rs (ms.set i (some (1 + maxN (valsOf ms (gNx g i))))) := by
  have told : ∀ j ∈ gNx g i, ∃ m, ms[j]? = some (some m) ∧ (ms.getD j none).getD 0 = m := fun j hj => getD_some (List.all_eq_true.mp h2 j hj)
  have nr : gRs rs i = false := by
    cases c : gRs rs i with
    | false => rfl
    | true =>
      have := S.rest i hi c
      rw [h0] at this
      cases this
  refine ⟨by rw [List.length_set]; exact S.len, fun j hj hr => ?_, fun j m h => ?_⟩
  · by_cases e : i = j
    · subst e
      rw [nr] at hr
      cases hr
    · rw [List.getElem?_set_ne e]
      exact S.rest j hj hr
  · by_cases e : i = j
    · subst e
      rw [List.getElem?_set_self (by rw [S.len]; exact hi)] at h
      cases h
      refine ⟨?_, fun t ht => ?_⟩
      · rw [Nat.add_comm]
        refine sure_succ.mpr (.inr ⟨h1, fun j hj => ?_⟩)
        obtain ⟨m, e1, e2⟩ := told j hj
        refine sure_mono ?_ (S.ok j m e1).1
        rw [← e2]
        exact le_maxN (List.mem_map.mpr ⟨j, hj, rfl⟩)
      · show SureIn (gNx g) (gRs rs) t i = false
        cases c : SureIn (gNx g) (gRs rs) t i with
        | false => rfl
        | true =>
          cases t with
          | zero =>
            have : gRs rs i = true := c
            rw [nr] at this
            cases this
          | succ t =>
            rcases sure_succ.mp c with c | ⟨_, c⟩
            · rw [nr] at c
              cases c
            · have hne : valsOf ms (gNx g i) ≠ [] := by
                unfold valsOf
                simpa using h1
              obtain ⟨j, hj, ej⟩ := List.mem_map.mp (maxN_mem hne)
              obtain ⟨m, e1, e2⟩ := told j hj
              have ej2 : m = maxN (valsOf ms (gNx g i)) := e2.symm.trans ej
              have : SureIn (gNx g) (gRs rs) t j = false := (S.ok j m e1).2 t (by rw [ej2]; omega)
              rw [c j hj] at this
              cases this
    · rw [List.getElem?_set_ne e] at h
      exact S.ok j m h
/-- nothing more is told -/
def Stable (g : Gr) (ms : List (Option Nat)) (n : Nat) : Prop := ∀ i, i < n → ms[i]? = some none → gNx g i ≠ [] → toldAll ms (gNx g i) = false
theorem Sound.most {g : Gr} {rs : List Bool} {ms : List (Option Nat)} (G : GrOk g rs) (S : Sound g rs ms) (st : Stable g ms g.length) : MostOf g rs ms := by
  have full : ∀ m i, i < g.length → SureIn (gNx g) (gRs rs) m i = true → ms[i]? ≠ some none := by
    intro m
    induction m with
    | zero =>
      intro i hi h e
      rw [S.rest i hi h] at e
      cases e
    | succ m ih =>
      intro i hi h e
      rcases sure_succ.mp h with h | ⟨h1, h2⟩
      · rw [S.rest i hi h] at e
        cases e
      · have := st i hi e h1
        rw [← Bool.not_eq_true] at this
        refine this (List.all_eq_true.mpr fun j hj => ?_)
        have hj2 := G.into i j hj
        have := ih j hj2 (h2 j hj)
        rw [List.getD_eq_getElem?_getD, List.getElem?_eq_getElem (by rw [S.len]; exact hj2)]
        rw [List.getElem?_eq_getElem (by rw [S.len]; exact hj2)] at this
        cases c : ms[j]'(by rw [S.len]; exact hj2) with
        | none =>
          rw [c] at this
          exact absurd rfl this
        | some _ => rfl
  refine ⟨S.len, fun i o h => ?_⟩
  cases o with
  | some m => exact S.ok i m h
  | none =>
    intro m
    have hi : i < g.length := by
      rw [← S.len]
      exact (List.getElem?_eq_some_iff.mp h).1
    show SureIn (gNx g) (gRs rs) m i = false
    cases c : SureIn (gNx g) (gRs rs) m i with
    | false => rfl
    | true => exact absurd h (full m i hi c)
/-- how many are not told yet -/
def untold (ms : List (Option Nat)) : Nat := (ms.filter fun o => o.isNone).length
theorem untold_set : ∀ {ms : List (Option Nat)} {i m : Nat}, ms[i]? = some none → untold (ms.set i (some m)) + 1 = untold ms
  | [], _, _, h => by simp at h
  | o :: ms, 0, m, h => by
    cases h
    rfl
  | o :: ms, i + 1, m, h => by
    have ih := untold_set (ms := ms) (i := i) (m := m) (by simpa using h)
    unfold untold at ih ⊢
    rw [List.set_cons_succ, List.filter_cons, List.filter_cons]
    split
    · rw [List.length_cons, List.length_cons, ih]
    · exact ih
/-! ### the fewest moves, level by level -/
structure Level (g : Gr) (rs : List Bool) (t : Nat) (ms : List (Option Nat)) : Prop where
  len : ms.length = g.length
  ok : ∀ i, i < g.length → ∀ m, ms[i]? = some (some m) ↔ m ≤ t ∧ Least (fun m => CanIn (gNx g) (gRs rs) m i) (some m)
theorem start_level {g : Gr} {rs : List Bool} (G : GrOk g rs) : Level g rs 0 (startMs rs) := by
  refine ⟨by unfold startMs; rw [List.length_map, G.len], fun i hi m => ?_⟩
  rw [start_at (by rw [G.len]; exact hi)]
  by_cases c : gRs rs i = true
  · rw [if_pos c]
    constructor
    · intro h
      cases h
      exact ⟨Nat.le_refl _, c, fun j hj => absurd hj (Nat.not_lt_zero _)⟩
    · rintro ⟨h, _⟩
      rw [Nat.le_zero.mp h]
  · rw [if_neg c]
    constructor
    · intro h
      cases h
    · rintro ⟨h, h2⟩
      rw [Nat.le_zero.mp h] at h2
      exact absurd h2.1 c
/-- somebody comes to a name that takes just t moves -/
def toT (ms : List (Option Nat)) (t : Nat) (l : List Nat) : Bool := l.any fun j => decide (ms.getD j none = some t)
theorem not_upto {g : Gr} {rs : List Bool} {t i : Nat} {ms : List (Option Nat)} (L : Level g rs t ms) (hi : i < g.length) (h : ms[i]? = some none) : ∀ m, m ≤ t → CanIn (gNx g) (gRs rs) m i = false := by
  intro m hm
  induction m using Nat.strongRecOn with
  | ind m ih =>
    cases c : CanIn (gNx g) (gRs rs) m i with
    | false => rfl
    | true =>
      have := (L.ok i hi m).mpr ⟨hm, c, fun j hj => ih j hj (Nat.le_trans (Nat.le_of_lt hj) hm)⟩
      rw [h] at this
      cases this
theorem next_level {g : Gr} {rs : List Bool} {t : Nat} {ms ms' : List (Option Nat)} (G : GrOk g rs) (L : Level g rs t ms) (hl : ms'.length = g.length)
    (h : ∀ i, i < g.length → ms'[i]? = if ms[i]? = some none ∧ toT ms t (gNx g i) = true then some (some (t + 1)) else ms[i]?) : Level g rs (t + 1) ms' := by
  refine ⟨hl, fun i hi m => ?_⟩
  rw [h i hi]
  obtain ⟨o, ho⟩ : ∃ o, ms[i]? = some o := ⟨ms[i]'(by rw [L.len]; exact hi), List.getElem?_eq_getElem _⟩
  have atT : toT ms t (gNx g i) = true ↔ ∃ j ∈ gNx g i, Least (fun m => CanIn (gNx g) (gRs rs) m j) (some t) := by
    unfold toT
    rw [List.any_eq_true]
    constructor
    · rintro ⟨j, hj, e⟩
      have hj2 := G.into i j hj
      have e := of_decide_eq_true e
      rw [List.getD_eq_getElem?_getD, List.getElem?_eq_getElem (by rw [L.len]; exact hj2)] at e
      have e2 : ms[j]? = some (some t) := by
        rw [List.getElem?_eq_getElem (by rw [L.len]; exact hj2)]
        exact congrArg some e
      exact ⟨j, hj, ((L.ok j hj2 t).mp e2).2⟩
    · rintro ⟨j, hj, e⟩
      have hj2 := G.into i j hj
      have e2 := (L.ok j hj2 t).mpr ⟨Nat.le_refl _, e⟩
      refine ⟨j, hj, decide_eq_true ?_⟩
      rw [List.getD_eq_getElem?_getD, e2]
      rfl
  cases o with
  | some k =>
    rw [if_neg (by rw [ho]; rintro ⟨h, _⟩; cases h)]
    constructor
    · intro e
      have := (L.ok i hi m).mp e
      exact ⟨by omega, this.2⟩
    · rintro ⟨_, e⟩
      have := ((L.ok i hi k).mp ho).2
      rw [Least.unique e this]
      exact ho
  | none =>
    have no := not_upto L hi ho
    by_cases c : toT ms t (gNx g i) = true
    · rw [if_pos ⟨ho, c⟩]
      obtain ⟨j, hj, e⟩ := atT.mp c
      have key : Least (fun m => CanIn (gNx g) (gRs rs) m i) (some (t + 1)) := ⟨can_succ.mpr (.inr ⟨j, hj, e.1⟩), fun k hk => no k (by omega)⟩
      constructor
      · intro e
        cases e
        exact ⟨Nat.le_refl _, key⟩
      · rintro ⟨_, e⟩
        rw [Least.unique e key]
    · rw [if_neg (fun h => c h.2), ho]
      constructor
      · intro e
        cases e
      · rintro ⟨hm, e⟩
        exfalso
        have e0 : CanIn (gNx g) (gRs rs) m i = true := e.1
        by_cases hmt : m ≤ t
        · rw [no m hmt] at e0
          cases e0
        have hm1 : m = t + 1 := by omega
        subst hm1
        rcases can_succ.mp e0 with r | ⟨j, hj, hc⟩
        · have := no 0 (Nat.zero_le _)
          have r' : CanIn (gNx g) (gRs rs) 0 i = true := r
          rw [r'] at this
          cases this
        · refine c (atT.mpr ⟨j, hj, hc, fun k hk => ?_⟩)
          show CanIn (gNx g) (gRs rs) k j = false
          cases c2 : CanIn (gNx g) (gRs rs) k j with
          | false => rfl
          | true =>
            have h1 : CanIn (gNx g) (gRs rs) (k + 1) i = true := can_succ.mpr (.inr ⟨j, hj, c2⟩)
            have h2 := no (k + 1) (by omega)
            rw [h1] at h2
            cases h2
/-- no name at a level: none at any further -/
theorem level_few {g : Gr} {rs : List Bool} {t : Nat} {ms : List (Option Nat)} (G : GrOk g rs) (L : Level g rs t ms) (h : ∀ i, i < g.length → ms[i]? = some none → toT ms t (gNx g i) = false) : FewOf g rs ms := by
  have never : ∀ d i, i < g.length → ms[i]? = some none → CanIn (gNx g) (gRs rs) (t + d) i = false := by
    intro d
    induction d with
    | zero => exact fun i hi ho => not_upto L hi ho t (Nat.le_refl _)
    | succ d ih =>
      intro i hi ho
      cases c : CanIn (gNx g) (gRs rs) (t + (d + 1)) i with
      | false => rfl
      | true =>
        rcases can_succ.mp c with r | ⟨j, hj, hc⟩
        · have := not_upto L hi ho 0 (Nat.zero_le _)
          have r' : CanIn (gNx g) (gRs rs) 0 i = true := r
          rw [r'] at this
          cases this
        · have hj2 := G.into i j hj
          obtain ⟨o, hoj⟩ : ∃ o, ms[j]? = some o := ⟨ms[j]'(by rw [L.len]; exact hj2), List.getElem?_eq_getElem _⟩
          cases o with
          | none =>
            have : CanIn (gNx g) (gRs rs) (t + d) j = false := ih j hj2 hoj
            have hc : CanIn (gNx g) (gRs rs) (t + d) j = true := hc
            rw [hc] at this
            cases this
          | some k =>
            obtain ⟨hk, lk⟩ := (L.ok j hj2 k).mp hoj
            have hno := h i hi ho
            by_cases e : k = t
            · subst e
              rw [← Bool.not_eq_true] at hno
              exact absurd (List.any_eq_true.mpr ⟨j, hj, decide_eq_true (by rw [List.getD_eq_getElem?_getD, hoj]; rfl)⟩) hno
            · have h1 : CanIn (gNx g) (gRs rs) (k + 1) i = true := can_succ.mpr (.inr ⟨j, hj, lk.1⟩)
              have h2 := not_upto L hi ho (k + 1) (by omega)
              rw [h1] at h2
              cases h2
  refine ⟨L.len, fun i o ho => ?_⟩
  have hi : i < g.length := by
    rw [← L.len]
    exact (List.getElem?_eq_some_iff.mp ho).1
  cases o with
  | some m => exact ((L.ok i hi m).mp ho).2
  | none =>
    intro m
    rcases Nat.le_total m t with c | c
    · exact not_upto L hi ho m c
    · have := never (m - t) i hi ho
      rwa [Nat.add_sub_cancel' c] at this
end RG
namespace RG
open PySem PySem.Spec PyProof.Rows L2
/-- a graph stands at a: a list of lists of numbers -/
abbrev Rows (H : Hp) : List Addr → List (List Nat) → Prop := Paired fun x l => H x = some (.lst (vN l))
def GraphAt (H : Hp) (a : Addr) (g : List (List Nat)) : Prop := ∃ as, H a = some (.lst (as.map V.ref)) ∧ Rows H as g
/-- a graph that was made behind H -/
def GraphNew (H H' : Hp) (a : Addr) (g : List (List Nat)) : Prop := ∃ as, H' a = some (.lst (as.map V.ref)) ∧ Rows H' as g ∧ ∀ x ∈ as, H x = none
theorem GraphNew.at_ {H H' : Hp} {a : Addr} {g : List (List Nat)} (h : GraphNew H H' a g) : GraphAt H' a g := by
  obtain ⟨as, h1, h2, _⟩ := h
  exact ⟨as, h1, h2⟩
theorem Rows.same {H H' : Hp} (s : Same H H') {as : List Addr} {g : List (List Nat)} (h : Rows H as g) : Rows H' as g := Paired.imp' (fun _ _ e => s _ _ e) h
theorem GraphAt.same {H H' : Hp} (s : Same H H') {a : Addr} {g : List (List Nat)} (h : GraphAt H a g) : GraphAt H' a g := by
  obtain ⟨as, h1, h2⟩ := h
  exact ⟨as, s _ _ h1, Rows.same s h2⟩
abbrev RowN (D : Addr) (H : Hp) : List Addr → List (List Nat) → Prop := Paired fun x l => x ≠ D ∧ H x = some (.lst (vN l))
theorem RowN.upd {D : Addr} {H : Hp} {o : HO} {as : List Addr} {g : List (List Nat)} (h : RowN D H as g) : RowN D (L2.upd H D o) as g := Paired.imp' (fun _ _ e => ⟨e.1, by rw [upd_ne e.1]; exact e.2⟩) h
theorem RowN.same {D : Addr} {H H' : Hp} (s : Same H H') {as : List Addr} {g : List (List Nat)} (h : RowN D H as g) : RowN D H' as g := Paired.imp' (fun _ _ e => ⟨e.1, s _ _ e.2⟩) h
def graphL (n e k : Nat) (R : List Int) (m : Int) : List (List Nat) := (namesM n k).map (aheadL n e k R m)
section
variable {P : Program} {w : World} {K : PySem.W.Frag} {mg : Str → Option Value} {base : Heap}
def spGraph (K : PySem.W.Frag) : Sp := fun vs H Q _ => ∃ (a b : Addr) (n e k : Nat) (R : List Int) (m : Int), vs = [.ref a, .ref b, .int m] ∧ Dims n e k ∧ FieldAt K H a n e k ∧ Sq K H b (vI R) ∧ R.length = (viewsM n e k).length ∧
  ∀ H' p, Same H H' → H p = none → GraphNew H H' p (graphL n e k R m) → Q (.ref p) H'
theorem sc_graph_by : FnScope ["field", "rule", "moves", "name"] ["field", "rule", "moves"] (defScope s_graph_by) := ⟨rfl, rfl, rfl, by decide +kernel, rfl, by decide +kernel, by decide +kernel⟩
theorem ok_graph_by (T : Txt K mg) : DefOk P w K mg base 4 "graph_by" ["field", "rule", "moves"] (spGraph K) := by
  refine def_ok (F_graph_by T) sc_graph_by (fun _ _ _ _ _ _ us hl => match us, hl with | [_, _, _], _ => rfl) (fun vs H Q E h => by obtain ⟨c, e, _, _, _, _, _, rfl, _⟩ := h; rfl) fun f cdv A outer s H vs Q E hr h => ?_
  obtain ⟨a, b, n, e, k, R, m, rfl, dm, fa, hR, hRl, h⟩ := h
  obtain ⟨dx, pn, pq, ps, pv', pe, pm, ha, fp⟩ := id fa
  obtain ⟨as, n1, n2⟩ := fp.names
  have C := T.cl_Field
  have nlen := (names_len dm.n3 dm.n7 dm.k3 (n := n) (k := k)).1
  have al : as.length = (namesM n k).length := Paired.len' n2
  refine ⟨_, pss_one (ps_ret (pe_lc (own := [("name", 3)]) (g := gName 3) (tt := tYes) (by rfl) sc_graph_by.nd (pi_range1 (by rfl) T.b_range (pa_cons (pe_len T.b_len (pa_cons (pe_fld (pv 0) rfl) pa_nil)) pa_nil)) (blkOk_by (N := ["field", "rule", "moves", "name"]) (sc := defScope s_graph_by) (own := [("name", 3)]) (by decide +kernel))
      (fun _ _ _ _ _ => pg_name (i := 3) sc_graph_by.nd rfl (Or.inl rfl)) (fun _ _ _ _ _ => pts_nil) (fun _ _ _ _ _ => pe_cd (ok_names_ahead T) hr (pa_cons (pv 0) (pa_cons (pv 3) (pa_cons (pv 1) (pa_cons (pv 2) pa_nil))))))), ?_⟩
  refine ⟨_, rfl, a, _, dx, _, _, rfl, ha, C, T.n_Field_names, rfl, pn, _, rfl, .inl (SqL.of n1), ?_⟩
  rw [List.length_map, al]
  refine ⟨_, rfl, by omega, by omega, fun D hD => ?_⟩
  rw [Int.toNat_natCast]
  refine lc_range (lo := 0) (n := (namesM n k).length) (fun i H' => ∃ bs, Same H H' ∧ H' D = some (.lst (bs.map V.ref)) ∧ RowN D H' bs (((namesM n k).take i).map (aheadL n e k R m)) ∧ ∀ x ∈ bs, H x = none) ⟨[], Same.new (Same.refl H) hD, upd_same, .nil, fun _ z => nomatch z⟩ (fun i H1 hi ⟨bs, s1, h1, t1, w1⟩ => ?_) fun H1 ⟨bs, s1, h1, t1, w1⟩ => ?_
  · obtain ⟨l, hl⟩ : ∃ l, (namesM n k)[i]? = some l := ⟨_, List.getElem?_eq_getElem hi⟩
    refine ⟨rfl, yesT ⟨_, rfl, _, rfl, _, rfl, _, rfl, a, b, n, e, k, i, R, l, m, by rw [Int.zero_add]; rfl, dm, fa.same s1, hl, hR.same s1, hRl, fun H2 q s2 hq q2 => ?_⟩⟩
    have h2 := s2 _ _ h1
    have qD : q ≠ D := fun z => by rw [z, h1] at hq; cases hq
    refine ⟨_, h2, ?_, bs ++ [q], Same.at_ (Same.trans s1 s2) hD, by rw [List.map_append]; exact upd_same, ?_, fun x hx => (List.mem_append.mp hx).elim (w1 x) fun hx => by rw [List.mem_singleton.mp hx]; exact Same.none s1 hq⟩
    · rw [List.length_map, Paired.len' t1, List.length_map, List.length_take]
      exact Nat.lt_of_le_of_lt (show _ ≤ 64 by omega) (by decide)
    · rw [take_snoc hl, List.map_append]
      exact Paired.app' (RowN.upd (RowN.same s2 t1)) (Paired.one ⟨qD, by rw [upd_ne qD]; exact q2⟩)
  · rw [List.take_length] at t1
    exact h _ D s1 hD ⟨bs, h1, Paired.imp' (fun _ _ e => e.2) t1, w1⟩
/-! ### resting_in -/
def restL (n k : Nat) (g : List (List Nat)) : List Bool := (namesM n k).zipWith (fun l c => togetherM l && c.isEmpty) g
end
end RG
namespace RG
open PySem PySem.Spec PyProof.Rows L2
section
variable {X : Cx}
theorem pe_notK (K : PySem.W.Frag) {a : Expr} {ta : TE} {pos : Pos} (ha : PE X a ta) (h : X.K = K := by rfl) : PE X (.UnaryOp .Not a pos) (tNotT K ta) := by
  subst h
  exact pe_notT ha
def restsL (ns : List (List Int)) (g : List (List Nat)) : List Bool := ns.zipWith (fun l c => togetherM l && c.isEmpty) g
theorem restL_at {ns : List (List Int)} {g : List (List Nat)} {i : Nat} {l : List Int} {c : List Nat} (h1 : ns[i]? = some l) (h2 : g[i]? = some c) : (restsL ns g)[i]? = some (togetherM l && c.isEmpty) := by
  unfold restsL
  rw [List.getElem?_zipWith, h1, h2]
end
section
variable {P : Program} {w : World} {K : PySem.W.Frag} {mg : Str → Option Value} {base : Heap}
/-- a list of names stands at a -/
def NamesAt (H : Hp) (a : Addr) (ns : List (List Int)) : Prop := ∃ as, H a = some (.lst (as.map V.ref)) ∧ Tups H as ns
theorem NamesAt.same {H H' : Hp} (s : Same H H') {a : Addr} {ns : List (List Int)} (h : NamesAt H a ns) : NamesAt H' a ns := by
  obtain ⟨as, h1, h2⟩ := h
  exact ⟨as, s _ _ h1, Tups.same s h2⟩
def spResting (K : PySem.W.Frag) : Sp := fun vs H Q _ => ∃ (a b : Addr) (ns : List (List Int)) (g : List (List Nat)), vs = [.ref a, .ref b] ∧ NamesAt H a ns ∧ GraphAt H b g ∧ ns.length = g.length ∧ g.length ≤ 64 ∧ (∀ l ∈ ns, 0 < l.length) ∧
  ∀ H' p, Same H H' → H p = none → H' p = some (.lst ((restsL ns g).map V.bl)) → Q (.ref p) H'
theorem sc_resting_in : FnScope ["names", "graph", "name", "coming"] ["names", "graph"] (defScope s_resting_in) := ⟨rfl, rfl, rfl, by decide +kernel, rfl, by decide +kernel, by decide +kernel⟩
theorem ok_resting_in (T : Txt K mg) : DefOk P w K mg base 2 "resting_in" ["names", "graph"] (spResting K) := by
  refine def_ok (F_resting_in T) sc_resting_in (fun _ _ _ _ _ _ us hl => match us, hl with | [_, _], _ => rfl) (fun vs H Q E h => by obtain ⟨c, e, _, _, rfl, _⟩ := h; rfl) fun f cdv A outer s H vs Q E hr h => ?_
  obtain ⟨a, b, ns, g, rfl, ⟨as, ha, hns⟩, ⟨bs, hb, hg⟩, hl, few, pos, h⟩ := h
  have al : as.length = ns.length := Paired.len' hns
  have bl : bs.length = g.length := Paired.len' hg
  refine ⟨_, pss_one (ps_ret (pe_lc (own := [("name", 2), ("coming", 3)]) (g := gTup K 2 (gCons (gName 2) (gCons (gName 3) gNil))) (tt := tYes) (by rfl) sc_resting_in.nd (pi_zip (by rfl) T.b_zip (pa_cons (pv 0) (pa_cons (pv 1) pa_nil))) (blkOk_by (N := ["names", "graph", "name", "coming"]) (sc := defScope s_resting_in) (own := [("name", 2), ("coming", 3)]) (by decide +kernel))
      (fun _ _ _ _ _ => pg_tup rfl (pgs_cons (pg_name (i := 2) sc_resting_in.nd rfl (Or.inl rfl)) (pgs_cons (pg_name (i := 3) sc_resting_in.nd rfl (Or.inl rfl)) pgs_nil))) (fun _ _ _ _ _ => pts_nil)
      (fun _ _ _ _ _ => pe_and (pe_cd (ok_is_together T) hr (pa_cons (pv 2) pa_nil)) (pe_one (pe_notK K (pv 3)))))), ?_⟩
  refine ⟨_, rfl, _, rfl, a, b, as.map V.ref, bs.map V.ref, rfl, SqL.of ha, SqL.of hb, fun D hD => ?_⟩
  refine lc_it (walk_zip (n := ns.length) (by rw [List.length_map, List.length_map]; omega)) (fun i H' => Same H H' ∧ H' D = some (.lst (((restsL ns g).take i).map V.bl))) ⟨Same.new (Same.refl H) hD, upd_same⟩ (fun i H1 _ ⟨s1, _⟩ => ⟨SqL.of (s1 _ _ ha), SqL.of (s1 _ _ hb)⟩) (fun i x H1 H2 hi ⟨s1, d1⟩ y => ?_) fun H1 ⟨s1, d1⟩ => ?_
  · obtain ⟨t, u, v, rfl, ht, rfl, hu, hv⟩ := y
    obtain ⟨c, hc, rfl⟩ := get_refs hu
    obtain ⟨d, hd, rfl⟩ := get_refs hv
    obtain ⟨l, hl1, el⟩ := Paired.left hns hc
    obtain ⟨r, hr1, er⟩ := Paired.left hg hd
    have s2 : Same H1 (upd H1 t (.tup [.ref c, .ref d])) := Same.new (Same.refl H1) ht
    have s12 := Same.trans s1 s2
    have hR := restL_at hl1 hr1
    refine ⟨t, _, rfl, SqT.of upd_same, rfl, _, _, rfl, _, _, rfl, rfl, rfl, yesT ?_⟩
    refine ⟨_, rfl, c, l, rfl, SqT.of (s12 _ _ el), pos l (List.mem_of_getElem? hl1), _, rfl, ?_⟩
    have fin : ∀ bb, (togetherM l && r.isEmpty) = bb → ∃ acc, upd H1 t (.tup [.ref c, .ref d]) D = some (.lst acc) ∧ acc.length < sizeLine ∧ Same H (upd (upd H1 t (.tup [.ref c, .ref d])) D (.lst (acc ++ [.bl bb]))) ∧ upd (upd H1 t (.tup [.ref c, .ref d])) D (.lst (acc ++ [.bl bb])) D = some (.lst (((restsL ns g).take (i + 1)).map V.bl)) := by
      rintro _ rfl
      refine ⟨_, s2 _ _ d1, ?_, Same.at_ s12 hD, ?_⟩
      · rw [List.length_map, List.length_take]
        exact Nat.lt_of_le_of_lt (show _ ≤ 64 by omega) (by decide)
      · rw [upd_same, take_snoc hR, List.map_append]
        rfl
    by_cases e1 : togetherM l = true
    · refine ifTb e1 ⟨_, rfl, _, .inl ⟨_, SqL.of (s12 _ _ er), rfl⟩, fin _ ?_⟩
      rw [e1]
      cases r <;> rfl
    · refine ifFb (by simpa using e1) (fin _ ?_)
      rw [show togetherM l = false by simpa using e1]
      rfl
  · rw [show ns.length = (restsL ns g).length by unfold restsL; rw [List.length_zipWith]; omega, List.take_length] at d1
    exact h _ D s1 hD d1
end
end RG
namespace RG
open PySem PySem.Spec PyProof.Rows L2
def mV : Option Nat → V
  | some m => .int (m : Int)
  | none => .non
abbrev mVs (ms : List (Option Nat)) : List V := ms.map mV
theorem mVs_len (ms : List (Option Nat)) : (mVs ms).length = ms.length := List.length_map ..
theorem mVs_at {ms : List (Option Nat)} {i : Nat} {o : Option Nat} (h : ms[i]? = some o) : (mVs ms)[i]? = some (mV o) := by
  rw [List.getElem?_map, h]
  rfl
theorem mV_non (o : Option Nat) : decide (mV o = .non) = o.isNone := by
  cases o with
  | none => rfl
  | some m => exact decide_eq_false (fun z => nomatch z)
theorem mVs_set (ms : List (Option Nat)) (i : Nat) (o : Option Nat) : (mVs ms).set i (mV o) = mVs (ms.set i o) := by
  unfold mVs
  rw [List.map_set]
/-- the moves of these, as they stand in a list -/
theorem at_in {g : Gr} {ms : List (Option Nat)} (hl : ms.length = g.length) {l : List Nat} (h : ∀ j ∈ l, j < g.length) {i j : Nat} (hj : l[i]? = some j) : ms[j]? = some (ms.getD j none) := by
  have := h j (List.mem_of_getElem? hj)
  rw [List.getD_eq_getElem?_getD, List.getElem?_eq_getElem (by omega)]
  rfl
theorem vN_at {l : List Nat} {i : Nat} {x : V} (h : (vN l)[i]? = some x) : ∃ j, l[i]? = some j ∧ x = .int (j : Int) := by
  rw [List.getElem?_map, Option.map_eq_some_iff] at h
  obtain ⟨j, h1, rfl⟩ := h
  exact ⟨j, h1, rfl⟩
theorem max_iN {l : List Nat} {m : Int} (h : l ≠ []) (h1 : m ∈ iN l) (h2 : ∀ y ∈ iN l, y ≤ m) : m = ((maxN l : Nat) : Int) := by
  obtain ⟨q, hq, rfl⟩ := List.mem_map.mp h1
  have a := le_maxN hq
  have b := h2 _ (List.mem_map.mpr ⟨_, maxN_mem h, rfl⟩)
  omega
theorem untold_le (ms : List (Option Nat)) : untold ms ≤ ms.length := List.length_filter_le _ _
section
variable {P : Program} {w : World} {K : PySem.W.Frag} {mg : Str → Option Value} {base : Heap}
abbrev NMost : List Str := ["graph", "resting", "most", "grown", "name", "coming", "rests", "other"]
def spMost (K : PySem.W.Frag) : Sp := fun vs H Q _ => ∃ (a b : Addr) (g : Gr) (rs : List Bool), vs = [.ref a, .ref b] ∧ GraphAt H a g ∧ H b = some (.lst (rs.map V.bl)) ∧ GrOk g rs ∧ g.length ≤ 64 ∧ (∀ l ∈ g, l.length ≤ 64) ∧
  ∀ H' p ms, Same H H' → H p = none → H' p = some (.lst (mVs ms)) → MostOf g rs ms → Q (.ref p) H'
theorem sc_most_moves : FnScope NMost ["graph", "resting"] (defScope s_most_moves) := ⟨rfl, rfl, rfl, by decide +kernel, rfl, by decide +kernel, by decide +kernel⟩
theorem gnx_at {g : Gr} {i : Nat} {l : List Nat} (h : g[i]? = some l) : gNx g i = l := by
  unfold gNx
  rw [List.getD_eq_getElem?_getD, h]
  rfl
def WMost (H : Hp) (a b M : Addr) (g : Gr) (rs : List Bool) (n : Nat) (σ : L2.St) (H' : Hp) : Prop := ∃ ms gr v4 v5 v6 v7, σ = [some (.ref a), some (.ref b), some (.ref M), some (.bl gr), v4, v5, v6, v7] ∧ Same H H' ∧ H' M = some (.lst (mVs ms)) ∧ Sound g rs ms ∧ n = 2 * untold ms + (if gr = true then 1 else 0) ∧ (gr = false → Stable g ms g.length)
theorem ok_most_moves (T : Txt K mg) : DefOk P w K mg base 1 "most_moves" ["graph", "resting"] (spMost K) := by
  refine def_ok (F_most_moves T) sc_most_moves (fun _ _ _ _ _ _ us hl => match us, hl with | [_, _], _ => rfl) (fun vs H Q E h => by obtain ⟨c, e, _, _, rfl, _⟩ := h; rfl) fun f cdv A outer s H vs Q E hr h => ?_
  obtain ⟨a, b, g, rs, rfl, ⟨as, ha, hg⟩, hb, G, few, fewr, h⟩ := h
  have al : as.length = g.length := Paired.len' hg
  refine ⟨_, pss_cons (ps_set (i := 2) sc_most_moves.nd rfl (Or.inr rfl) (pe_lc (own := [("rests", 6)]) (g := gName 6) (tt := tYes) (by rfl) sc_most_moves.nd (pi_list (pv 1)) (blkOk_by (N := NMost) (sc := defScope s_most_moves) (own := [("rests", 6)]) (by decide +kernel))
        (fun _ _ _ _ _ => pg_name (i := 6) sc_most_moves.nd rfl (Or.inl rfl)) (fun _ _ _ _ _ => pts_nil) (fun _ _ _ _ _ => pe_ifExp (pt_val (pv 6)) pe_int pe_non)))
    (pss_cons (ps_set (i := 3) sc_most_moves.nd rfl (Or.inl rfl) pe_bl)
    (pss_cons (ps_while PassesOwn.never (pt_val (pv 3))
      (pss_cons (ps_set (i := 3) sc_most_moves.nd rfl (Or.inl rfl) pe_bl)
      (pss_one (ps_for PassesOwn.never rfl (pi_enum (by rfl) T.b_enumerate (pa_cons (pv 0) pa_nil)) (pg_tup rfl (pgs_cons (pg_name (i := 4) sc_most_moves.nd rfl (Or.inl rfl)) (pgs_cons (pg_name (i := 5) sc_most_moves.nd rfl (Or.inl rfl)) pgs_nil)))
        (pss_one (ps_if (PW.pt (pw_and (pt_cmpR op_isN (pe_ix ix_list (pv 2) (pv 4) (fun _ _ => rfl)) pe_non (nomark _)) (pw_and (pt_truth (pv 5) (by intro _; rfl)) (pw_and1 (pt_val (pe_callB (cr_all (by rfl)) (by rfl) T.b_all (by decide +kernel) (pa_cons
              (pe_lc (own := [("other", 7)]) (g := gName 7) (tt := tYes) (by rfl) sc_most_moves.nd (pi_list (pv 5)) (blkOk_by (N := NMost) (sc := defScope s_most_moves) (own := [("other", 7)]) (by decide +kernel))
                (fun _ _ _ _ _ => pg_name (i := 7) sc_most_moves.nd rfl (Or.inl rfl)) (fun _ _ _ _ _ => pts_nil) (fun _ _ _ _ _ => pe_cmpR op_notN (pe_ix (r := rIxL K) ix_list (pv 2) (pv 7) (fun _ _ => rfl)) pe_non (nomark _))) pa_nil)))))))
          (pss_cons (ps_asg (pe_op op_add pe_int (pe_callB (cr_max (by rfl)) (by rfl) T.b_max (by decide +kernel) (pa_cons
              (pe_lc (own := [("other", 7)]) (g := gName 7) (tt := tYes) (by rfl) sc_most_moves.nd (pi_list (pv 5)) (blkOk_by (N := NMost) (sc := defScope s_most_moves) (own := [("other", 7)]) (by decide +kernel))
                (fun _ _ _ _ _ => pg_name (i := 7) sc_most_moves.nd rfl (Or.inl rfl)) (fun _ _ _ _ _ => pts_nil) (fun _ _ _ _ _ => pe_ix (r := rIxL K) ix_list (pv 2) (pv 7) (fun _ _ => rfl))) pa_nil))) (pg_sub (pv 2) (pv 4) set_list))
          (pss_one (ps_set (i := 3) sc_most_moves.nd rfl (Or.inl rfl) pe_bl))) pss_nil))))))
    (pss_one (ps_ret (pv 2))))), ?_⟩
  refine ⟨_, rfl, b, rfl, ⟨_, SqL.of hb⟩, fun M hM => ?_⟩
  refine lc_list (K := K) (a := b) (xs := rs.map V.bl) (fun i H' => Same H H' ∧ H' M = some (.lst (mVs ((startMs rs).take i)))) ⟨Same.new (Same.refl H) hM, upd_same⟩ (fun i H1 _ ⟨s1, _⟩ => SqL.of (s1 _ _ hb)) (fun i x H1 hx ⟨s1, d1⟩ => ?_) fun H1 ⟨s1, d1⟩ => ?_
  · rw [List.getElem?_map, Option.map_eq_some_iff] at hx
    obtain ⟨r, hr1, rfl⟩ := hx
    have hst : (startMs rs)[i]? = some (if r = true then some 0 else none) := by
      unfold startMs
      rw [List.getElem?_map, hr1]
      rfl
    have hil : i < rs.length := (List.getElem?_eq_some_iff.mp hr1).1
    have fin : ∀ v, mV (if r = true then some 0 else none) = v → ∃ acc, H1 M = some (.lst acc) ∧ acc.length < sizeLine ∧ Same H (upd H1 M (.lst (acc ++ [v]))) ∧ upd H1 M (.lst (acc ++ [v])) M = some (.lst (mVs ((startMs rs).take (i + 1)))) := by
      rintro _ rfl
      refine ⟨_, d1, ?_, Same.at_ s1 hM, ?_⟩
      · rw [mVs_len, List.length_take]
        have := G.len
        exact Nat.lt_of_le_of_lt (show _ ≤ 64 by omega) (by decide)
      · rw [upd_same, take_snoc hst]
        unfold mVs
        rw [List.map_append]
        rfl
    refine ⟨rfl, yesT ⟨_, rfl, r, rfl, ?_⟩⟩
    by_cases c : r = true
    · exact ifTb c (fin _ (by rw [if_pos c]; rfl))
    · exact ifFb (by simpa using c) (fin _ (by rw [if_neg c]; rfl))
  rw [List.length_map, show rs.length = (startMs rs).length by unfold startMs; rw [List.length_map], List.take_length] at d1
  refine ⟨WMost H a b M g rs, ⟨_, startMs rs, true, none, none, none, none, rfl, s1, d1, start_sound G, rfl, (fun z => nomatch z)⟩, ?_⟩
  rintro m σ H2 ⟨ms, gr, v4, v5, v6, v7, rfl, s2, d2, S, rfl, st⟩
  refine ⟨_, rfl, gr, rfl, ?_⟩
  cases gr with
  | false => exact ifFb rfl ⟨_, rfl, h H2 M ms s2 hM d2 (S.most G (st rfl))⟩
  | true =>
    refine ifTb rfl ⟨fun σ' H' => ∃ m', m' < 2 * untold ms + 1 ∧ WMost H a b M g rs m' σ' H', fun _ _ z => z, ?_⟩
    refine ⟨_, rfl, a, as.map V.ref, rfl, SqL.of (s2 _ _ ha), ?_⟩
    refine for_it walk_enum (fun i σ H' => ∃ ms' gr v4 v5 v6 v7, σ = [some (.ref a), some (.ref b), some (.ref M), some (.bl gr), v4, v5, v6, v7] ∧ Same H H' ∧ H' M = some (.lst (mVs ms')) ∧ Sound g rs ms' ∧ ((gr = true ∧ untold ms' < untold ms) ∨ (gr = false ∧ ms' = ms ∧ Stable g ms i)))
      ⟨ms, false, v4, v5, v6, v7, rfl, s2, d2, S, .inr ⟨rfl, rfl, fun _ z => absurd z (Nat.not_lt_zero _)⟩⟩ (fun i σ H' _ ⟨_, _, _, _, _, _, _, s, _⟩ => SqL.of (s _ _ ha)) ?_ ?_
    · rintro i x σ H3 H4 hi ⟨ms', gr, v4, v5, v6, v7, rfl, s3, d3, S3, c3⟩ y
      obtain ⟨t, u, v, rfl, ht, rfl, hu, hv⟩ := y
      cases hu
      obtain ⟨q, hq, rfl⟩ := get_refs hv
      obtain ⟨l, hl, el⟩ := Paired.left hg hq
      have hig : i < g.length := (List.getElem?_eq_some_iff.mp hl).1
      have hgn := gnx_at hl
      have s4 : Same H (upd H3 t (.tup [.int (i : Int), .ref q])) := Same.new s3 ht
      have d4 : upd H3 t (.tup [.int (i : Int), .ref q]) M = some (.lst (mVs ms')) := Same.new (Same.refl H3) ht _ _ d3
      refine ⟨t, _, rfl, SqT.of upd_same, rfl, _, _, rfl, _, _, rfl, rfl, ?_⟩
      generalize upd H3 t (.tup [.int (i : Int), .ref q]) = H4 at s4 d4
      clear s3 d3 ht
      have into : ∀ j ∈ l, j < g.length := fun j hj => G.into i j (by rw [hgn]; exact hj)
      have ll : l.length ≤ 64 := fewr l (List.mem_of_getElem? hl)
      have keep : ∀ H5, Same H H5 → H5 M = some (.lst (mVs ms')) → (ms'[i]? = some none → gNx g i ≠ [] → toldAll ms' (gNx g i) = false) →
          ∃ ms' gr' v4 v5 v6' v7', [some (.ref a), some (.ref b), some (.ref M), some (.bl gr), some (V.int (i : Int)), some (.ref q), v6, v7] = [some (.ref a), some (.ref b), some (.ref M), some (.bl gr'), v4, v5, v6', v7'] ∧ Same H H5 ∧ H5 M = some (.lst (mVs ms')) ∧ Sound g rs ms' ∧ ((gr' = true ∧ untold ms' < untold ms) ∨ (gr' = false ∧ ms' = ms ∧ Stable g ms (i + 1))) := by
        intro H5 s5 d5 hh
        refine ⟨ms', gr, _, _, v6, v7, rfl, s5, d5, S3, ?_⟩
        rcases c3 with c | ⟨c1, rfl, c2⟩
        · exact .inl c
        · refine .inr ⟨c1, rfl, fun j hj => ?_⟩
          rcases Nat.lt_succ_iff_lt_or_eq.mp hj with c | rfl
          · exact c2 j c
          · exact hh
      obtain ⟨o, ho⟩ : ∃ o, ms'[i]? = some o := ⟨ms'[i]'(by rw [S3.len]; exact hig), List.getElem?_eq_getElem _⟩
      refine ⟨_, rfl, _, rfl, M, _, _, _, rfl, rfl, SqL.of d4, atI_nat (mVs_at ho), rfl, _, rfl, ?_⟩
      rw [mV_non]
      cases o with
      | some m => exact ifFb rfl (noT (keep _ s4 d4 fun z => by rw [ho] at z; cases z))
      | none =>
        refine ifTb rfl ?_
        refine ⟨_, rfl, !(vN l).isEmpty, .inl ⟨_, SqL.of (s4 _ _ el), rfl⟩, ?_⟩
        by_cases cl : l = []
        · exact ifFb (by rw [cl]; rfl) (noT (keep _ s4 d4 fun _ z => absurd (hgn.trans cl) z))
        refine ifTb (by
          cases l with
          | nil => exact absurd rfl cl
          | cons _ _ => rfl) ?_
        refine ⟨_, rfl, q, rfl, ⟨_, SqL.of (s4 _ _ el)⟩, fun D hD => ?_⟩
        have dD : M ≠ D := fun z => by rw [← z, d4] at hD; cases hD
        refine lc_list (K := K) (a := q) (xs := vN l) (fun j H' => Same H4 H' ∧ H' D = some (.lst (((l.take j).map fun j => (ms'.getD j none).isSome).map V.bl))) ⟨Same.new (Same.refl H4) hD, upd_same⟩ (fun i H1 _ ⟨s1, _⟩ => SqL.of (s1 _ _ (s4 _ _ el))) (fun k x H5 hx ⟨s5, e5⟩ => ?_) fun H5 ⟨s5, e5⟩ => ?_
        · obtain ⟨j, hj, rfl⟩ := vN_at hx
          refine ⟨rfl, yesT ⟨_, rfl, _, rfl, M, _, _, _, rfl, rfl, SqL.of (s5 _ _ d4), atI_nat (mVs_at (at_in S3.len into hj)), rfl, ?_⟩⟩
          rw [mV_non, Option.not_isNone]
          refine ⟨_, e5, ?_, Same.at_ s5 hD, ?_⟩
          · rw [List.length_map, List.length_map, List.length_take]
            exact Nat.lt_of_le_of_lt (show _ ≤ 64 by omega) (by decide)
          · rw [upd_same, take_snoc hj, List.map_append, List.map_append]
            rfl
        rw [List.length_map, List.take_length] at e5
        refine ⟨D, _, rfl, SqL.of e5, _, rfl, ?_⟩
        have ea : (l.map fun j => (ms'.getD j none).isSome).all id = toldAll ms' l := by
          unfold toldAll
          rw [List.all_map]
          rfl
        rw [ea]
        have s45 := Same.trans s4 s5
        have d5 := s5 _ _ d4
        clear s5 e5 ea hD dD s4 d4
        by_cases ct : toldAll ms' l = true
        · refine ifTb ct ?_
          have told : ∀ j ∈ l, ∃ m, ms'[j]? = some (some m) ∧ (ms'.getD j none).getD 0 = m := fun j hj => getD_some (List.all_eq_true.mp ct j hj)
          refine ⟨_, rfl, q, rfl, ⟨_, SqL.of (s45 _ _ el)⟩, fun D hD => ?_⟩
          refine lc_list (K := K) (a := q) (xs := vN l) (fun j H' => Same H5 H' ∧ H' D = some (.lst (vI (iN (valsOf ms' (l.take j)))))) ⟨Same.new (Same.refl H5) hD, upd_same⟩ (fun i H1 _ ⟨s1, _⟩ => SqL.of (s1 _ _ (s45 _ _ el))) (fun k x H6 hx ⟨s6, e6⟩ => ?_) fun H6 ⟨s6, e6⟩ => ?_
          · obtain ⟨j, hj, rfl⟩ := vN_at hx
            obtain ⟨m, m1, m2⟩ := told j (List.mem_of_getElem? hj)
            refine ⟨rfl, yesT ⟨_, rfl, _, rfl, M, _, _, _, rfl, rfl, SqL.of (s6 _ _ d5), atI_nat (mVs_at m1), ?_⟩⟩
            refine ⟨_, e6, ?_, Same.at_ s6 hD, ?_⟩
            · rw [vI_len, List.length_map]
              unfold valsOf
              rw [List.length_map, List.length_take]
              exact Nat.lt_of_le_of_lt (show _ ≤ 64 by omega) (by decide)
            · rw [upd_same, take_snoc hj]
              simp only [valsOf, iN, vI, List.map_append, List.map_cons, List.map_nil, m2]
              rfl
          rw [List.length_map, List.take_length] at e6
          have vne : valsOf ms' l ≠ [] := by
            unfold valsOf
            simpa using cl
          refine ⟨D, iN (valsOf ms' l), rfl, SqL.of e6, by rw [List.length_map]; exact List.length_pos_iff.mpr vne, fun mm hmem hmax => ?_⟩
          have emm := max_iN vne hmem hmax
          subst emm
          have d6 := s6 _ _ d5
          have s46 := Same.trans s45 s6
          refine ⟨_, _, rfl, rfl, ?_⟩
          refine ⟨_, rfl, _, rfl, M, _, _, i, rfl, rfl, d6, by rw [mVs_len]; exact ixN_nat (by rw [S3.len]; exact hig), ?_⟩
          have ev : V.int (1 + ((maxN (valsOf ms' l) : Nat) : Int)) = mV (some (1 + maxN (valsOf ms' l))) := by
            exact congrArg V.int (by omega)
          refine ⟨ms'.set i (some (1 + maxN (valsOf ms' l))), _, _, _, _, _, rfl, Same.at_ s46 hM, by rw [upd_same, ← mVs_set, ← ev], ?_, .inl ⟨rfl, ?_⟩⟩
          · have := S3.put hig ho (by rw [hgn]; exact cl) (by rw [hgn]; exact ct)
            rwa [hgn] at this
          · have h1 := untold_set (m := 1 + maxN (valsOf ms' l)) ho
            have h2 : untold ms' ≤ untold ms := by
              rcases c3 with ⟨_, c⟩ | ⟨_, c, _⟩
              · omega
              · rw [c]
                exact Nat.le_refl _
            omega
        · exact ifFb (by simpa using ct) (keep _ s45 d5 fun _ _ => by rw [hgn]; simpa using ct)
    · rintro σ H3 ⟨ms', gr, v4, v5, v6, v7, rfl, s3, d3, S3, c3⟩
      rcases c3 with ⟨rfl, c⟩ | ⟨rfl, rfl, c⟩
      · exact ⟨2 * untold ms' + 1, by omega, ms', true, _, _, _, _, rfl, s3, d3, S3, rfl, fun z => nomatch z⟩
      · refine ⟨2 * untold ms' + 0, by omega, ms', false, _, _, _, _, rfl, s3, d3, S3, rfl, fun _ => ?_⟩
        rw [List.length_map, al] at c
        exact c
end
end RG
namespace RG
open PySem PySem.Spec PyProof.Rows L2
/-- within a sweep of the level t, the first i done -/
structure Mid (g : Gr) (ms : List (Option Nat)) (t i : Nat) (ms' : List (Option Nat)) : Prop where
  len : ms'.length = g.length
  at_ : ∀ j, j < g.length → ms'[j]? = if j < i ∧ ms[j]? = some none ∧ toT ms t (gNx g j) = true then some (some (t + 1)) else ms[j]?
theorem Mid.start {g : Gr} {ms : List (Option Nat)} {t : Nat} (h : ms.length = g.length) : Mid g ms t 0 ms := ⟨h, fun j _ => by rw [if_neg fun z => absurd z.1 (Nat.not_lt_zero _)]⟩
theorem Mid.at_t {g : Gr} {ms ms' : List (Option Nat)} {t i j : Nat} (M : Mid g ms t i ms') (hj : j < g.length) : ms'[j]? = some (some t) ↔ ms[j]? = some (some t) := by
  rw [M.at_ j hj]
  by_cases c : j < i ∧ ms[j]? = some none ∧ toT ms t (gNx g j) = true
  · rw [if_pos c, c.2.1]
    constructor
    · intro z
      have := Option.some.inj (Option.some.inj z)
      omega
    · intro z
      cases z
  · rw [if_neg c]
theorem getD_eqT {ms : List (Option Nat)} {j t : Nat} : ms.getD j none = some t ↔ ms[j]? = some (some t) := by
  rw [List.getD_eq_getElem?_getD]
  cases e : ms[j]? with
  | none => simp
  | some o => simp
theorem Mid.same_t {g : Gr} {ms ms' : List (Option Nat)} {t i : Nat} (M : Mid g ms t i ms') {l : List Nat} (h : ∀ j ∈ l, j < g.length) : toT ms' t l = toT ms t l := by
  rw [Bool.eq_iff_iff]
  unfold RG.toT
  rw [List.any_eq_true, List.any_eq_true]
  constructor
  · rintro ⟨j, hj, e⟩
    exact ⟨j, hj, decide_eq_true (getD_eqT.mpr ((M.at_t (h j hj)).mp (getD_eqT.mp (of_decide_eq_true e))))⟩
  · rintro ⟨j, hj, e⟩
    exact ⟨j, hj, decide_eq_true (getD_eqT.mpr ((M.at_t (h j hj)).mpr (getD_eqT.mp (of_decide_eq_true e))))⟩
theorem Mid.here {g : Gr} {ms ms' : List (Option Nat)} {t i : Nat} (M : Mid g ms t i ms') (hi : i < g.length) : ms'[i]? = ms[i]? := by
  rw [M.at_ i hi, if_neg fun z => absurd z.1 (Nat.lt_irrefl _)]
theorem Mid.skip {g : Gr} {ms ms' : List (Option Nat)} {t i : Nat} (M : Mid g ms t i ms') (h : ms[i]? = some none → toT ms t (gNx g i) = false) : Mid g ms t (i + 1) ms' := by
  refine ⟨M.len, fun j hj => ?_⟩
  rw [M.at_ j hj]
  by_cases c : j < i ∧ ms[j]? = some none ∧ RG.toT ms t (gNx g j) = true
  · rw [if_pos c, if_pos ⟨by omega, c.2⟩]
  · rw [if_neg c, if_neg]
    rintro ⟨z1, z2, z3⟩
    by_cases e : j = i
    · subst e
      rw [h z2] at z3
      cases z3
    · exact c ⟨by omega, z2, z3⟩
theorem Mid.put {g : Gr} {ms ms' : List (Option Nat)} {t i : Nat} (M : Mid g ms t i ms') (hi : i < g.length) (h1 : ms[i]? = some none) (h2 : toT ms t (gNx g i) = true) : Mid g ms t (i + 1) (ms'.set i (some (t + 1))) := by
  refine ⟨by rw [List.length_set]; exact M.len, fun j hj => ?_⟩
  by_cases e : i = j
  · subst e
    rw [List.getElem?_set_self (by rw [M.len]; exact hi), if_pos ⟨by omega, h1, h2⟩]
  · rw [List.getElem?_set_ne e, M.at_ j hj]
    by_cases c : j < i ∧ ms[j]? = some none ∧ RG.toT ms t (gNx g j) = true
    · rw [if_pos c, if_pos ⟨by omega, c.2⟩]
    · rw [if_neg c, if_neg]
      rintro ⟨z1, z2⟩
      exact c ⟨by omega, z2⟩
theorem Mid.level {g : Gr} {rs : List Bool} {ms ms' : List (Option Nat)} {t : Nat} (G : GrOk g rs) (L : Level g rs t ms) (M : Mid g ms t g.length ms') : Level g rs (t + 1) ms' := by
  refine next_level G L M.len fun i hi => ?_
  rw [M.at_ i hi]
  by_cases c : ms[i]? = some none ∧ RG.toT ms t (gNx g i) = true
  · rw [if_pos c, if_pos ⟨hi, c⟩]
  · rw [if_neg c, if_neg fun z => c z.2]
theorem dec_mV (o : Option Nat) (t : Nat) : decide (mV o = .int (t : Int)) = decide (o = some t) := by
  cases o with
  | none => rfl
  | some m =>
    unfold mV
    rw [dec_int, Bool.eq_iff_iff, decide_eq_true_iff, decide_eq_true_iff]
    constructor
    · intro z
      congr 1
      omega
    · intro z
      cases z
      rfl
theorem scal_mV (o : Option Nat) (t : Int) : scal (mV o) (.int t) = true := by cases o <;> rfl
section
variable {P : Program} {w : World} {K : PySem.W.Frag} {mg : Str → Option Value} {base : Heap}
abbrev NFew : List Str := ["graph", "resting", "fewest", "moves", "grown", "name", "coming", "rests", "other"]
def spFew (K : PySem.W.Frag) : Sp := fun vs H Q _ => ∃ (a b : Addr) (g : Gr) (rs : List Bool), vs = [.ref a, .ref b] ∧ GraphAt H a g ∧ H b = some (.lst (rs.map V.bl)) ∧ GrOk g rs ∧ g.length ≤ 64 ∧ (∀ l ∈ g, l.length ≤ 64) ∧
  ∀ H' p ms, Same H H' → H p = none → H' p = some (.lst (mVs ms)) → FewOf g rs ms → Q (.ref p) H'
theorem sc_fewest_moves : FnScope NFew ["graph", "resting"] (defScope s_fewest_moves) := ⟨rfl, rfl, rfl, by decide +kernel, rfl, by decide +kernel, by decide +kernel⟩
def WFew (H : Hp) (a b M : Addr) (g : Gr) (rs : List Bool) (n : Nat) (σ : L2.St) (H' : Hp) : Prop := ∃ ms t gr v5 v6 v7 v8, σ = [some (.ref a), some (.ref b), some (.ref M), some (.int ((t : Nat) : Int)), some (.bl gr), v5, v6, v7, v8] ∧ Same H H' ∧ H' M = some (.lst (mVs ms)) ∧ Level g rs t ms ∧ n = 2 * untold ms + (if gr = true then 1 else 0) ∧ (gr = false → FewOf g rs ms)
theorem ok_fewest_moves (T : Txt K mg) : DefOk P w K mg base 1 "fewest_moves" ["graph", "resting"] (spFew K) := by
  refine def_ok (F_fewest_moves T) sc_fewest_moves (fun _ _ _ _ _ _ us hl => match us, hl with | [_, _], _ => rfl) (fun vs H Q E h => by obtain ⟨c, e, _, _, rfl, _⟩ := h; rfl) fun f cdv A outer s H vs Q E hr h => ?_
  obtain ⟨a, b, g, rs, rfl, ⟨as, ha, hg⟩, hb, G, few, fewr, h⟩ := h
  have al : as.length = g.length := Paired.len' hg
  refine ⟨_, pss_cons (ps_set (i := 2) sc_fewest_moves.nd rfl (Or.inr rfl) (pe_lc (own := [("rests", 7)]) (g := gName 7) (tt := tYes) (by rfl) sc_fewest_moves.nd (pi_list (pv 1)) (blkOk_by (N := NFew) (sc := defScope s_fewest_moves) (own := [("rests", 7)]) (by decide +kernel))
        (fun _ _ _ _ _ => pg_name (i := 7) sc_fewest_moves.nd rfl (Or.inl rfl)) (fun _ _ _ _ _ => pts_nil) (fun _ _ _ _ _ => pe_ifExp (pt_val (pv 7)) pe_int pe_non)))
    (pss_cons (ps_set (i := 3) sc_fewest_moves.nd rfl (Or.inr rfl) pe_int)
    (pss_cons (ps_set (i := 4) sc_fewest_moves.nd rfl (Or.inl rfl) pe_bl)
    (pss_cons (ps_while PassesOwn.never (pt_val (pv 4))
      (pss_cons (ps_set (i := 4) sc_fewest_moves.nd rfl (Or.inl rfl) pe_bl)
      (pss_cons (ps_for PassesOwn.never rfl (pi_enum (by rfl) T.b_enumerate (pa_cons (pv 0) pa_nil)) (pg_tup rfl (pgs_cons (pg_name (i := 5) sc_fewest_moves.nd rfl (Or.inl rfl)) (pgs_cons (pg_name (i := 6) sc_fewest_moves.nd rfl (Or.inl rfl)) pgs_nil)))
        (pss_one (ps_if (PW.pt (pw_and (pt_cmpR op_isN (pe_ix ix_list (pv 2) (pv 5) (fun _ _ => rfl)) pe_non (nomark _)) (pw_and1 (pt_val (pe_callB (cr_any (by rfl)) (by rfl) T.b_any (by decide +kernel) (pa_cons
              (pe_lc (own := [("other", 8)]) (g := gName 8) (tt := tYes) (by rfl) sc_fewest_moves.nd (pi_list (pv 6)) (blkOk_by (N := NFew) (sc := defScope s_fewest_moves) (own := [("other", 8)]) (by decide +kernel))
                (fun _ _ _ _ _ => pg_name (i := 8) sc_fewest_moves.nd rfl (Or.inl rfl)) (fun _ _ _ _ _ => pts_nil) (fun _ _ _ _ _ => pe_cmpR op_eq (pe_ix (r := rIxL K) ix_list (pv 2) (pv 8) (fun _ _ => rfl)) (pv 3) (nomark _))) pa_nil))))))
          (pss_cons (ps_asg (pe_op op_add (pv 3) pe_int) (pg_sub (pv 2) (pv 5) set_list))
          (pss_one (ps_set (i := 4) sc_fewest_moves.nd rfl (Or.inl rfl) pe_bl))) pss_nil)))
      (pss_one (ps_aug (i := 3) sc_fewest_moves.nd rfl (Or.inr rfl) pe_int ip_add)))))
    (pss_one (ps_ret (pv 2)))))), ?_⟩
  refine ⟨_, rfl, b, rfl, ⟨_, SqL.of hb⟩, fun M hM => ?_⟩
  refine lc_list (K := K) (a := b) (xs := rs.map V.bl) (fun i H' => Same H H' ∧ H' M = some (.lst (mVs ((startMs rs).take i)))) ⟨Same.new (Same.refl H) hM, upd_same⟩ (fun i H1 _ ⟨s1, _⟩ => SqL.of (s1 _ _ hb)) (fun i x H1 hx ⟨s1, d1⟩ => ?_) fun H1 ⟨s1, d1⟩ => ?_
  · rw [List.getElem?_map, Option.map_eq_some_iff] at hx
    obtain ⟨r, hr1, rfl⟩ := hx
    have hst : (startMs rs)[i]? = some (if r = true then some 0 else none) := by
      unfold startMs
      rw [List.getElem?_map, hr1]
      rfl
    have hil : i < rs.length := (List.getElem?_eq_some_iff.mp hr1).1
    have fin : ∀ v, mV (if r = true then some 0 else none) = v → ∃ acc, H1 M = some (.lst acc) ∧ acc.length < sizeLine ∧ Same H (upd H1 M (.lst (acc ++ [v]))) ∧ upd H1 M (.lst (acc ++ [v])) M = some (.lst (mVs ((startMs rs).take (i + 1)))) := by
      rintro _ rfl
      refine ⟨_, d1, ?_, Same.at_ s1 hM, ?_⟩
      · rw [mVs_len, List.length_take]
        have := G.len
        exact Nat.lt_of_le_of_lt (show _ ≤ 64 by omega) (by decide)
      · rw [upd_same, take_snoc hst]
        unfold mVs
        rw [List.map_append]
        rfl
    refine ⟨rfl, yesT ⟨_, rfl, r, rfl, ?_⟩⟩
    by_cases c : r = true
    · exact ifTb c (fin _ (by rw [if_pos c]; rfl))
    · exact ifFb (by simpa using c) (fin _ (by rw [if_neg c]; rfl))
  rw [List.length_map, show rs.length = (startMs rs).length by unfold startMs; rw [List.length_map], List.take_length] at d1
  refine ⟨WFew H a b M g rs, ⟨_, startMs rs, 0, true, none, none, none, none, rfl, s1, d1, start_level G, rfl, (fun z => nomatch z)⟩, ?_⟩
  rintro m σ H2 ⟨ms, t, gr, v5, v6, v7, v8, rfl, s2, d2, L, rfl, st⟩
  refine ⟨_, rfl, gr, rfl, ?_⟩
  cases gr with
  | false => exact ifFb rfl ⟨_, rfl, h H2 M ms s2 hM d2 (st rfl)⟩
  | true =>
    refine ifTb rfl ⟨fun σ' H' => ∃ m', m' < 2 * untold ms + 1 ∧ WFew H a b M g rs m' σ' H', fun _ _ z => z, ?_⟩
    refine ⟨_, rfl, a, as.map V.ref, rfl, SqL.of (s2 _ _ ha), ?_⟩
    refine for_it walk_enum (fun i σ H' => ∃ ms' gr v5 v6 v7 v8, σ = [some (.ref a), some (.ref b), some (.ref M), some (.int ((t : Nat) : Int)), some (.bl gr), v5, v6, v7, v8] ∧ Same H H' ∧ H' M = some (.lst (mVs ms')) ∧ Mid g ms t i ms' ∧ ((gr = true ∧ untold ms' < untold ms) ∨ (gr = false ∧ ms' = ms ∧ ∀ j, j < i → ms[j]? = some none → toT ms t (gNx g j) = false)))
      ⟨ms, false, v5, v6, v7, v8, rfl, s2, d2, Mid.start L.len, .inr ⟨rfl, rfl, fun _ z => absurd z (Nat.not_lt_zero _)⟩⟩ (fun i σ H' _ ⟨_, _, _, _, _, _, _, s, _⟩ => SqL.of (s _ _ ha)) ?_ ?_
    · rintro i x σ H3 H4 hi ⟨ms', gr, v5, v6, v7, v8, rfl, s3, d3, S3, c3⟩ y
      obtain ⟨u', u, v, rfl, ht, rfl, hu, hv⟩ := y
      cases hu
      obtain ⟨q, hq, rfl⟩ := get_refs hv
      obtain ⟨l, hl, el⟩ := Paired.left hg hq
      have hig : i < g.length := (List.getElem?_eq_some_iff.mp hl).1
      have hgn := gnx_at hl
      have s4 : Same H (upd H3 u' (.tup [.int (i : Int), .ref q])) := Same.new s3 ht
      have d4 : upd H3 u' (.tup [.int (i : Int), .ref q]) M = some (.lst (mVs ms')) := Same.new (Same.refl H3) ht _ _ d3
      refine ⟨u', _, rfl, SqT.of upd_same, rfl, _, _, rfl, _, _, rfl, rfl, ?_⟩
      generalize upd H3 u' (.tup [.int (i : Int), .ref q]) = H4 at s4 d4
      clear s3 d3 ht
      have into : ∀ j ∈ l, j < g.length := fun j hj => G.into i j (by rw [hgn]; exact hj)
      have ll : l.length ≤ 64 := fewr l (List.mem_of_getElem? hl)
      have keep : ∀ H5, Same H H5 → H5 M = some (.lst (mVs ms')) → (ms[i]? = some none → toT ms t (gNx g i) = false) →
          ∃ ms' gr' v5 v6 v7' v8', [some (.ref a), some (.ref b), some (.ref M), some (.int ((t : Nat) : Int)), some (.bl gr), some (V.int (i : Int)), some (.ref q), v7, v8] = [some (.ref a), some (.ref b), some (.ref M), some (.int ((t : Nat) : Int)), some (.bl gr'), v5, v6, v7', v8'] ∧ Same H H5 ∧ H5 M = some (.lst (mVs ms')) ∧ Mid g ms t (i + 1) ms' ∧ ((gr' = true ∧ untold ms' < untold ms) ∨ (gr' = false ∧ ms' = ms ∧ ∀ j, j < i + 1 → ms[j]? = some none → toT ms t (gNx g j) = false)) := by
        intro H5 s5 d5 hh
        refine ⟨ms', gr, _, _, v7, v8, rfl, s5, d5, S3.skip hh, ?_⟩
        rcases c3 with c | ⟨c1, rfl, c2⟩
        · exact .inl c
        · refine .inr ⟨c1, rfl, fun j hj => ?_⟩
          rcases Nat.lt_succ_iff_lt_or_eq.mp hj with c | rfl
          · exact c2 j c
          · exact hh
      obtain ⟨o, ho⟩ : ∃ o, ms'[i]? = some o := ⟨ms'[i]'(by rw [S3.len]; exact hig), List.getElem?_eq_getElem _⟩
      have ho' : ms[i]? = some o := (S3.here hig).symm.trans ho
      refine ⟨_, rfl, _, rfl, M, _, _, _, rfl, rfl, SqL.of d4, atI_nat (mVs_at ho), rfl, _, rfl, ?_⟩
      rw [mV_non]
      cases o with
      | some m => exact ifFb rfl (noT (keep _ s4 d4 fun z => by rw [ho'] at z; cases z))
      | none =>
        refine ifTb rfl ?_
        refine ⟨_, rfl, q, rfl, ⟨_, SqL.of (s4 _ _ el)⟩, fun D hD => ?_⟩
        have dD : M ≠ D := fun z => by rw [← z, d4] at hD; cases hD
        refine lc_list (K := K) (a := q) (xs := vN l) (fun j H' => Same H4 H' ∧ H' D = some (.lst (((l.take j).map fun j => decide (ms'.getD j none = some t)).map V.bl))) ⟨Same.new (Same.refl H4) hD, upd_same⟩ (fun i H1 _ ⟨s1, _⟩ => SqL.of (s1 _ _ (s4 _ _ el))) (fun k x H5 hx ⟨s5, e5⟩ => ?_) fun H5 ⟨s5, e5⟩ => ?_
        · obtain ⟨j, hj, rfl⟩ := vN_at hx
          refine ⟨rfl, yesT ⟨_, rfl, _, rfl, M, _, _, _, rfl, rfl, SqL.of (s5 _ _ d4), atI_nat (mVs_at (at_in S3.len into hj)), _, rfl, scal_mV _ _, ?_⟩⟩
          rw [dec_mV]
          refine ⟨_, e5, ?_, Same.at_ s5 hD, ?_⟩
          · rw [List.length_map, List.length_map, List.length_take]
            exact Nat.lt_of_le_of_lt (show _ ≤ 64 by omega) (by decide)
          · rw [upd_same, take_snoc hj, List.map_append, List.map_append]
            rfl
        rw [List.length_map, List.take_length] at e5
        refine ⟨D, _, rfl, SqL.of e5, _, rfl, ?_⟩
        have ea : (l.map fun j => decide (ms'.getD j none = some t)).any id = toT ms t l := by
          rw [← S3.same_t into]
          unfold toT
          rw [List.any_map]
          rfl
        rw [ea]
        have s45 := Same.trans s4 s5
        have d5 := s5 _ _ d4
        clear s5 e5 ea hD dD s4 d4
        by_cases ct : toT ms t l = true
        · refine ifTb ct ?_
          refine ⟨_, rfl, _, _, rfl, rfl, ?_⟩
          refine ⟨_, rfl, _, rfl, M, _, _, i, rfl, rfl, d5, by rw [mVs_len]; exact ixN_nat (by rw [S3.len]; exact hig), ?_⟩
          have ev : V.int (((t : Nat) : Int) + 1) = mV (some (t + 1)) := rfl
          refine ⟨ms'.set i (some (t + 1)), _, _, _, _, _, rfl, Same.at_ s45 hM, by rw [upd_same, ← mVs_set, ← ev], S3.put hig ho' (by rw [hgn]; exact ct), .inl ⟨rfl, ?_⟩⟩
          have h1 := untold_set (m := t + 1) ho
          have h2 : untold ms' ≤ untold ms := by
            rcases c3 with ⟨_, c⟩ | ⟨_, c, _⟩
            · omega
            · rw [c]
              exact Nat.le_refl _
          omega
        · exact ifFb (by simpa using ct) (keep _ s45 d5 fun _ => by rw [hgn]; simpa using ct)
    · rintro σ H3 ⟨ms', gr, v5, v6, v7, v8, rfl, s3, d3, S3, c3⟩
      rw [List.length_map, al] at S3 c3
      have lev := S3.level G L
      refine ⟨_, rfl, _, _, rfl, rfl, ?_⟩
      rcases c3 with ⟨rfl, c⟩ | ⟨rfl, rfl, c⟩
      · exact ⟨2 * untold ms' + 1, by omega, ms', t + 1, true, _, _, _, _, rfl, s3, d3, lev, rfl, fun z => nomatch z⟩
      · exact ⟨2 * untold ms' + 0, by omega, ms', t + 1, false, _, _, _, _, rfl, s3, d3, lev, rfl, fun _ => level_few G L c⟩
end
end RG
namespace RG
open PySem PySem.Spec PyProof.Rows L2
/-- the numbers of those that are told -/
def sureIx (ms : List (Option Nat)) : List Nat := (List.range ms.length).filter fun i => (ms.getD i none).isSome
theorem rests_ok {ns : List (List Int)} {g : Gr} (hl : ns.length = g.length) (h : ∀ i, ∀ j ∈ gNx g i, j < g.length) : GrOk g (restsL ns g) := by
  refine ⟨by unfold restsL; rw [List.length_zipWith]; omega, h, fun i hi => ?_⟩
  unfold gRs at hi
  rw [List.getD_eq_getElem?_getD] at hi
  unfold gNx
  rw [List.getD_eq_getElem?_getD]
  cases e : g[i]? with
  | none => rfl
  | some l =>
    have : i < g.length := (List.getElem?_eq_some_iff.mp e).1
    obtain ⟨nm, hn⟩ : ∃ nm, ns[i]? = some nm := ⟨ns[i]'(by omega), List.getElem?_eq_getElem _⟩
    rw [restL_at hn e] at hi
    have := (Bool.and_eq_true_iff.mp (show (togetherM nm && l.isEmpty) = true from hi)).2
    exact List.isEmpty_iff.mp this
section
variable {P : Program} {w : World} {K : PySem.W.Frag} {mg : Str → Option Value} {base : Heap}
abbrev NSure : List Str := ["names", "graph", "most", "name", "moves"]
def spSure (K : PySem.W.Frag) : Sp := fun vs H Q _ => ∃ (a b : Addr) (ns : List (List Int)) (g : List (List Nat)), vs = [.ref a, .ref b] ∧ NamesAt H a ns ∧ GraphAt H b g ∧ ns.length = g.length ∧ g.length ≤ 64 ∧ (∀ l ∈ ns, 0 < l.length) ∧ (∀ i, ∀ j ∈ gNx g i, j < g.length) ∧ (∀ l ∈ g, l.length ≤ 64) ∧
  ∀ H' p ms, Same H H' → H p = none → MostOf g (restsL ns g) ms → H' p = some (.lst (vN (sureIx ms))) → Q (.ref p) H'
theorem sc_sure_names : FnScope NSure ["names", "graph"] (defScope s_sure_names) := ⟨rfl, rfl, rfl, by decide +kernel, rfl, by decide +kernel, by decide +kernel⟩
theorem ok_sure_names (T : Txt K mg) : DefOk P w K mg base 3 "sure_names" ["names", "graph"] (spSure K) := by
  refine def_ok (F_sure_names T) sc_sure_names (fun _ _ _ _ _ _ us hl => match us, hl with | [_, _], _ => rfl) (fun vs H Q E h => by obtain ⟨c, e, _, _, rfl, _⟩ := h; rfl) fun f cdv A outer s H vs Q E hr h => ?_
  obtain ⟨a, b, ns, g, rfl, na, ga, hl, few, pos, into, fewr, h⟩ := h
  refine ⟨_, pss_cons (ps_set (i := 2) sc_sure_names.nd rfl (Or.inl rfl) (pe_cd (ok_most_moves T) (hr.mono (by decide)) (pa_cons (pv 1) (pa_cons (pe_cd (ok_resting_in T) hr (pa_cons (pv 0) (pa_cons (pv 1) pa_nil))) pa_nil))))
    (pss_one (ps_ret (pe_lc (own := [("name", 3), ("moves", 4)]) (g := gTup K 2 (gCons (gName 3) (gCons (gName 4) gNil))) (by rfl) sc_sure_names.nd (pi_enum (by rfl) T.b_enumerate (pa_cons (pv 2) pa_nil)) (blkOk_by (N := NSure) (sc := defScope s_sure_names) (own := [("name", 3), ("moves", 4)]) (by decide +kernel))
      (fun _ _ _ _ _ => pg_tup rfl (pgs_cons (pg_name (i := 3) sc_sure_names.nd rfl (Or.inl rfl)) (pgs_cons (pg_name (i := 4) sc_sure_names.nd rfl (Or.inl rfl)) pgs_nil))) (fun _ _ _ _ _ => pts_one (pt_cmpR op_notN (pv 4) pe_non (nomark _)))
      (fun _ _ _ _ _ => pv 3)))), ?_⟩
  refine ⟨_, rfl, _, rfl, _, rfl, a, b, ns, g, rfl, na, ga, hl, few, pos, fun H1 r s1 hr1 r1 => ?_⟩
  refine ⟨b, r, g, _, rfl, ga.same s1, r1, rests_ok hl into, few, fewr, fun H2 m ms s2 hm m2 mo => ?_⟩
  have s02 := Same.trans s1 s2
  have lm := mo.1
  refine ⟨_, rfl, m, mVs ms, rfl, SqL.of m2, fun D hD => ?_⟩
  refine lc_it (walk_enum (K := K) (a := m) (xs := mVs ms)) (fun i H' => Same H2 H' ∧ H' D = some (.lst (vN ((List.range i).filter fun i => (ms.getD i none).isSome)))) ⟨Same.new (Same.refl H2) hD, upd_same⟩ (fun i H1 _ ⟨s1, _⟩ => SqL.of (s1 _ _ m2)) (fun i x H3 H4 hi ⟨s3, d3⟩ y => ?_) fun H3 ⟨s3, d3⟩ => ?_
  · obtain ⟨t, u, v, rfl, ht, rfl, hu, hv⟩ := y
    cases hu
    rw [mVs_len] at hi
    have ho : ms[i]? = some (ms.getD i none) := by
      rw [List.getD_eq_getElem?_getD, List.getElem?_eq_getElem hi]
      rfl
    have hv : (mVs ms)[i]? = some v := hv
    rw [mVs_at ho] at hv
    cases hv
    have s4 : Same H2 (upd H3 t (.tup [.int (i : Int), mV (ms.getD i none)])) := Same.new s3 ht
    have d4 : upd H3 t (.tup [.int (i : Int), mV (ms.getD i none)]) D = some (.lst (vN ((List.range i).filter fun i => (ms.getD i none).isSome))) := Same.new (Same.refl H3) ht _ _ d3
    refine ⟨t, _, rfl, SqT.of upd_same, rfl, _, _, rfl, _, _, rfl, rfl, rfl, _, rfl, rfl, _, rfl, ?_⟩
    rw [mV_non, Option.not_isNone, List.range_succ, List.filter_append, List.filter_cons]
    cases c : (ms.getD i none).isSome with
    | true =>
      refine ifTb rfl ⟨_, rfl, _, d4, ?_, Same.at_ s4 hD, ?_⟩
      · rw [List.length_map]
        refine Nat.lt_of_le_of_lt (show _ ≤ 64 from ?_) (by decide)
        have h1 := List.length_filter_le (fun i => (ms.getD i none).isSome) (List.range i)
        rw [List.length_range] at h1
        omega
      · rw [upd_same, if_pos rfl]
        unfold vN
        rw [List.map_append]
        rfl
    | false => exact ifFb rfl ⟨s4, by rw [if_neg (by decide), List.filter_nil, List.append_nil]; exact d4⟩
  · rw [mVs_len] at d3
    exact h _ D ms (Same.trans s02 s3) (Same.none s02 hD) mo d3
end
end RG
namespace RG
open PySem PySem.Spec PyProof.Rows L2
section
variable {X : Cx}
theorem ip_mul : PIp X .Mult (fun x y H Q => ∃ i j, x = .int i ∧ y = .int j ∧ CMul i j ∧ Q (.int (i * j)) H) := by
  intro pins s σ H x y v u Q I r1 r2 h
  obtain ⟨i, j, e1, e2, hc, q⟩ := h
  subst e1; subst e2
  obtain ⟨t, rfl⟩ := r1
  obtain ⟨t', rfl⟩ := r2
  exact imul_int ⟨.int _, H, I.tok _, ⟨_, rfl⟩, q⟩ hc.ok
/-- () + u is u itself -/
theorem cat_tup0 {prog : Program} {w : World} {A : Around} {E : Value → Shared → Prop} {s : Shared} {t b : Addr} {vs ws : List Value} {Q : Value → Shared → Prop} (ht : IsTup s.heap t vs.toArray) (hb : IsTup s.heap b ws.toArray) (hv : vs = [])
    (h1 : Q (.ref b) s) : wpAny (model prog w) A (binaryOp .Add (.ref t) (.ref b)) Q E s := by
  obtain ⟨⟨cls, dd, data, sl⟩, ho, hc, n, hd⟩ := id ht
  obtain ⟨⟨cls2, dd2, data2, sl2⟩, ho2, hc2, n2, hd2⟩ := id hb
  simp only at hc hd hc2 hd2
  subst hc hd hc2 hd2
  exact concat_meets ⟨_, ho, rfl⟩ ⟨_, ho2, rfl⟩ noFill_tuple_add seq_tuple_add PySem.F.slot_tuple_add PySem.F.entry_tuple_add (PySem.F.args_tuple_add_2 _ _)
      (tuple_addW0 t b vs.toArray ws.toArray n n2 dd dd2 sl sl2 (by rw [hv]; rfl)) ⟨ho, ho2, h1⟩
/-- t + (x, ..), the right one not empty -/
def rCatN (K : PySem.W.Frag) : R2 := fun x y H Q => ∃ a b xs ys, x = .ref a ∧ y = .ref b ∧ SqT K H a xs ∧ H b = some (.tup ys) ∧ ys ≠ [] ∧ xs.length + ys.length ≤ sizeLine ∧ ∀ p H', Same H H' → H' p = some (.tup (xs ++ ys)) → (H p = none ∨ p = b) → Q (.ref p) H'
theorem op_catN : OpR X (binaryOp .Add) (rCatN X.K) := by
  intro pins s σ H x y v u Q I rx ry h
  obtain ⟨a, b, xs, ys, rfl, rfl, ha, hb, hy, hz, q⟩ := h
  by_cases hx : xs = []
  · cases rx
    cases ry
    obtain ⟨its, r1, p1, _⟩ := I.tuple ha
    obtain ⟨its2, r2, p2, _⟩ := I.tuple (SqT.of (K := X.K) hb)
    exact cat_tup0 p1 p2 (r1.nil_iff.mpr hx) ⟨.ref b, H, I, rfl, q b H (Same.refl H) (by rw [hx]; exact hb) (.inr rfl)⟩
  · exact op_catT pins s σ H _ _ v u Q I rx ry ⟨a, b, xs, ys, rfl, rfl, ha, SqT.of hb, hx, hz, fun z => absurd z hy, fun _ p hp => q p _ (Same.new (Same.refl H) hp) upd_same (.inl hp)⟩
theorem vals_kt {H : Hp} : ∀ {kvs : List (List Key × V)} {ks : List (List Key × Addr × Value)}, KT H kvs ks → Vals (kvs.map Prod.snd) (ks.map fun x => x.2.2)
  | _, _, .nil => .nil
  | _, _, .cons h t => .cons h.2.2 (vals_kt t)
/-- d.values() -/
def rValsT : V → List V → Hp → VK → Prop := fun x xs H Q => ∃ (a : Addr) (kvs : List (List Key × V)), x = .ref a ∧ xs = [] ∧ H a = some (.dT kvs) ∧ ∀ p, H p = none → Q (.ref p) (upd H p (viewO "dict_values" p a))
theorem mt_valuesT : MtR X "dict.values" rValsT := by
  intro pins s σ H x xs v us Q I rx rxs h
  obtain ⟨a, kvs, rfl, rfl, ha, q⟩ := h
  cases rx
  cases rxs
  obtain ⟨z, hd, xs', rel, dof⟩ := dt_of I.hok ha
  obtain ⟨o, es, ep, ho, hx, hdat, _⟩ := id dof
  refine call_meetsIn PySem.F.slot_dict_values ⟨o, ho, hx.1⟩ PySem.F.entry_dict_values (PySem.F.args_dict_values_1 _) (meets_dict_values_raw (prog := X.prog) (w := X.w) a hd) ⟨⟨es, ep, o, ho, hx, hdat⟩, ?_⟩
  exact ⟨.ref s.heap.objs.size, _, I.laid (t' := s.toks) (fun b u e => Heap.get?_push_of_some _ e) (Nat.le_refl _) (viewO_ok (Heap.get?_push_size _ rfl)), rfl, q _ (I.hok.fresh (Nat.le_refl _))⟩
/-- list(d.values()) -/
theorem call_list_valsT (hc : X.calm = true) : CallR X (.type "list") (fun xs H Q => ∃ p d kvs, xs = [V.ref p] ∧ H p = some (viewO "dict_values" p d) ∧ H d = some (.dT kvs) ∧ ∀ q, H q = none → Q (.ref q) (upd H q (.lst (kvs.map Prod.snd)))) := by
  intro pins s σ H xs us Q I r h
  obtain ⟨p, d, kvs, rfl, hp, hd, q⟩ := h
  obtain ⟨u, rfl, rx⟩ := r.one
  cases rx
  have hv : s.heap.get? p = some (DSub.viewOb "dict_values" d) := (show ObjOk X.prog X.w H s.heap p (viewO "dict_values" p d) from I.hok p _ hp).1
  obtain ⟨z, hs, ks, pr, o, es, ep, ho, hx, hdt, he, hi, hn⟩ := dt_of I.hok hd
  have l1 : es.size = ks.length := size_of_entries he
  have l2 : kvs.length = ks.length := Paired.length pr
  refine PySem.W.kdl_call (KdlSrc.rawValues (r := p) (d := d) (es := es) (ep := ep)) (I.ok.hd hc) ⟨⟨_, hv, rfl, rfl⟩, o, ho, hx, hdt⟩ (by omega) fun h' tk acc' c' kp e it => ?_
  have ea : acc'.toList = ks.map fun x => x.2.2 := by
    have hl : acc'.toList.length = ks.length := by rw [Array.length_toList, it.1]; exact l1
    apply List.ext_getElem?
    intro j
    rw [List.getElem?_map]
    cases hj : acc'.toList[j]? with
    | none =>
      have h1 := List.getElem?_eq_none_iff.mp hj
      rw [List.getElem?_eq_none (by omega)]
      rfl
    | some v =>
      obtain ⟨hlt, hv⟩ := it.2 j v (by rw [← Array.getElem?_toList]; exact hj)
      have qe := entry_at he j
      rw [Array.getElem?_eq_getElem hlt] at qe
      cases hb : ks[j]? with
      | none =>
        rw [hb] at qe
        exact nomatch qe
      | some b =>
        rw [hb] at qe
        have e2 := Option.some.inj qe
        rw [hv, e2]
        rfl
  have rv : Vals (kvs.map Prod.snd) acc'.toList := by
    rw [ea]
    exact vals_kt pr
  have hz : (kvs.map Prod.snd).length ≤ sizeLine := by rw [List.length_map]; exact z
  refine ⟨.ref s.heap.objs.size, _, I.laid (t' := tk) (o := .lst (kvs.map Prod.snd)) kp (Nat.le_refl _) ?_, rfl, q _ (I.hok.fresh (Nat.le_refl _))⟩
  exact ⟨hz, acc'.toList, c', rv, by rw [Array.toArray_toList]; exact e⟩
/-- list(d.values()), the whole -/
theorem pe_values {o : Expr} {to : TE} {apos cpos : Pos} (ho : PE X o to) (hbase : attributeBase o "values" X.env (eval o X.env) = eval o X.env := by rfl) (hline : (apos.endLine == cpos.line) = true := by rfl) : PE X (.Call (.Attribute o "values" apos) [] [] cpos) (tBM0 X.K "dict" rValsT to) :=
  pe_bm0 PySem.F.plainAttrs_dict PySem.F.slot_dict_values PySem.F.type_dict_values mt_valuesT ho hbase hline
end
end RG
namespace RG
open PySem PySem.Spec PyProof.Rows L2
def waysN (b : Bool) : Nat := if b = true then 2 else 3
def prodN (bs : List Bool) : Nat := bs.foldl (fun x b => x * waysN b) 1
def ruleExt (b : Bool) (r : List Int) : List (List Int) := (List.range (waysN b)).map fun (d : Nat) => r ++ [(d : Int)]
def ruleStep (rs : List (List Int)) (b : Bool) : List (List Int) := rs.flatMap (ruleExt b)
def rulesM (bs : List Bool) : List (List Int) := bs.foldl ruleStep [[]]
theorem ways_pos (b : Bool) : 2 ≤ waysN b ∧ waysN b ≤ 3 := by cases b <;> decide
theorem ext_len (b : Bool) (r : List Int) : (ruleExt b r).length = waysN b := by
  unfold ruleExt
  rw [List.length_map, List.length_range]
theorem step_len (b : Bool) : ∀ rs : List (List Int), (ruleStep rs b).length = rs.length * waysN b
  | [] => by simp [ruleStep]
  | r :: rs => by
    have ih := step_len b rs
    unfold ruleStep at ih ⊢
    rw [List.flatMap_cons, List.length_append, ext_len, ih, List.length_cons, Nat.succ_mul]
    omega
theorem fold_len : ∀ (bs : List Bool) (rs : List (List Int)), rs.length ≤ (bs.foldl ruleStep rs).length
  | [], _ => Nat.le_refl _
  | b :: bs, rs => by
    have h1 := fold_len bs (ruleStep rs b)
    have h2 := step_len b rs
    have h3 := Nat.mul_le_mul_left rs.length (ways_pos b).1
    rw [List.foldl_cons]
    omega
theorem rules_len : ∀ (bs : List Bool) (rs : List (List Int)) (x : Nat), rs.length = x → (bs.foldl ruleStep rs).length = bs.foldl (fun x b => x * waysN b) x
  | [], _, _, h => h
  | b :: bs, rs, x, h => by
    rw [List.foldl_cons, List.foldl_cons]
    refine rules_len bs _ _ ?_
    rw [step_len, h]
theorem rulesM_len (bs : List Bool) : (rulesM bs).length = prodN bs := rules_len bs [[]] 1 rfl
theorem rules_take (bs : List Bool) (i : Nat) : (rulesM (bs.take i)).length ≤ (rulesM bs).length := by
  have e : rulesM bs = (bs.drop i).foldl ruleStep (rulesM (bs.take i)) := by
    unfold rulesM
    rw [← List.foldl_append, List.take_append_drop]
  rw [e]
  exact fold_len _ _
theorem rules_snoc {bs : List Bool} {i : Nat} {b : Bool} (h : bs[i]? = some b) : rulesM (bs.take (i + 1)) = ruleStep (rulesM (bs.take i)) b := by
  rw [take_snoc h]
  unfold rulesM
  exact fold_snoc ruleStep _ _ _
theorem rules_width : ∀ (bs : List Bool) (rs : List (List Int)) (x : Nat), (∀ l ∈ rs, l.length = x) → ∀ l ∈ bs.foldl ruleStep rs, l.length = x + bs.length
  | [], _, _, h, l, hl => h l hl
  | b :: bs, rs, x, h, l, hl => by
    rw [List.foldl_cons] at hl
    have := rules_width bs (ruleStep rs b) (x + 1) (fun l hl => by
      unfold ruleStep at hl
      obtain ⟨r, hr, hl⟩ := List.mem_flatMap.mp hl
      unfold ruleExt at hl
      obtain ⟨d, _, rfl⟩ := List.mem_map.mp hl
      rw [List.length_append, h r hr]
      rfl) l hl
    rw [this, List.length_cons]
    omega
theorem rulesM_width {bs : List Bool} {l : List Int} (h : l ∈ rulesM bs) : l.length = bs.length := by
  have := rules_width bs [[]] 0 (fun l hl => by rw [List.mem_singleton.mp hl]; rfl) l h
  omega
theorem views_few {n e k : Nat} (D : Dims n e k) : (viewsM n e k).length < 64 := by
  unfold viewsM
  rw [(sortM_perm _).length_eq]
  exact (field_okP D.n3 D.n7 D.k1 D.k3 D.e2).keys
theorem evens_len (n e k : Nat) : (evensM n e k).length = (viewsM n e k).length := List.length_map ..
theorem get_bls {bs : List Bool} {i : Nat} {x : V} (h : (bs.map V.bl)[i]? = some x) : ∃ b, bs[i]? = some b ∧ x = .bl b := by
  rw [List.getElem?_map, Option.map_eq_some_iff] at h
  obtain ⟨b, h1, rfl⟩ := h
  exact ⟨b, h1, rfl⟩
section
variable {P : Program} {w : World} {K : PySem.W.Frag} {mg : Str → Option Value} {base : Heap}
def spWaysTo : Sp := fun vs H Q _ => ∃ b : Bool, vs = [.bl b] ∧ Q (.int (waysN b : Int)) H
theorem sc_ways_to_do : FnScope ["even"] ["even"] (defScope s_ways_to_do) := ⟨rfl, rfl, rfl, by decide +kernel, rfl, by decide +kernel, by decide +kernel⟩
theorem ok_ways_to_do (T : Txt K mg) : DefOk P w K mg base 1 "ways_to_do" ["even"] spWaysTo := by
  refine def_ok (F_ways_to_do T) sc_ways_to_do (fun _ _ _ _ _ _ us hl => match us, hl with | [_], _ => rfl) (fun vs H Q E h => by obtain ⟨c, rfl, _⟩ := h; rfl) fun f cdv A outer s H vs Q E hr h => ?_
  obtain ⟨b, rfl, h⟩ := h
  refine ⟨_, pss_one (ps_ret (pe_ifExp (pt_val (pv 0)) pe_int pe_int)), ?_⟩
  refine ⟨_, rfl, b, rfl, ?_⟩
  cases b with
  | true => exact ifTb rfl h
  | false => exact ifFb rfl h
def spHowMany (K : PySem.W.Frag) : Sp := fun vs H Q _ => ∃ (a : Addr) (n e k : Nat), vs = [.ref a] ∧ FieldAt K H a n e k ∧ Q (.int (prodN (evensM n e k) : Int)) H
theorem sc_how_many_rules : FnScope ["field", "rules", "even"] ["field"] (defScope s_how_many_rules) := ⟨rfl, rfl, rfl, by decide +kernel, rfl, by decide +kernel, by decide +kernel⟩
theorem ok_how_many_rules (T : Txt K mg) : DefOk P w K mg base 2 "how_many_rules" ["field"] (spHowMany K) := by
  refine def_ok (F_how_many_rules T) sc_how_many_rules (fun _ _ _ _ _ _ us hl => match us, hl with | [_], _ => rfl) (fun vs H Q E h => by obtain ⟨c, e, _, _, rfl, _⟩ := h; rfl) fun f cdv A outer s H vs Q E hr h => ?_
  obtain ⟨a, n, e, k, rfl, ⟨dx, pn, pq, ps, pv', pe, pm, ha, fp⟩, h⟩ := h
  refine ⟨_, pss_cons (ps_set (i := 1) sc_how_many_rules.nd rfl (Or.inl rfl) pe_int)
    (pss_cons (ps_for PassesOwn.never rfl (pi_list (pe_fld (pv 0) rfl)) (pg_name (i := 2) sc_how_many_rules.nd rfl (Or.inl rfl))
      (pss_one (ps_aug (i := 1) sc_how_many_rules.nd rfl (Or.inl rfl) (pe_cd (ok_ways_to_do T) hr (pa_cons (pv 2) pa_nil)) ip_mul)))
    (pss_one (ps_ret (pv 1)))), ?_⟩
  refine ⟨_, rfl, a, _, dx, _, _, rfl, ha, T.cl_Field, T.n_Field_evens, rfl, pe, rfl, ⟨_, SqL.of fp.evens⟩, ?_⟩
  refine for_list (K := K) (a := pe) (xs := (evensM n e k).map V.bl) (fun i σ H' => ∃ v2, σ = [some (.ref a), some (.int (prodN ((evensM n e k).take i) : Int)), v2] ∧ H' = H) ⟨none, rfl, rfl⟩ (fun i σ H' _ ⟨_, _, z⟩ => by rw [z]; exact SqL.of fp.evens) ?_ ?_
  · rintro i x σ H1 hx ⟨v2, rfl, rfl⟩
    obtain ⟨b, hb, rfl⟩ := get_bls hx
    have wb := ways_pos b
    have e : (prodN ((evensM n e k).take i) : Int) * (waysN b : Int) = (prodN ((evensM n e k).take (i + 1)) : Int) := by
      rw [take_snoc hb]
      unfold prodN
      rw [fold_snoc, Int.natCast_mul]
    refine ⟨_, rfl, _, rfl, b, rfl, _, _, rfl, rfl, .inr ⟨by omega, by omega⟩, some (.bl b), by rw [e]; rfl, rfl⟩
  · rintro σ H1 ⟨v2, rfl, rfl⟩
    rw [List.length_map, List.take_length]
    exact ⟨_, rfl, h⟩
def spRules (K : PySem.W.Frag) : Sp := fun vs H Q _ => ∃ (a : Addr) (n e k : Nat), vs = [.ref a] ∧ Dims n e k ∧ FieldAt K H a n e k ∧ prodN (evensM n e k) ≤ 6000 ∧
  ∀ H' p as, Same H H' → H p = none → H' p = some (.lst (as.map V.ref)) → Tups H' as (rulesM (evensM n e k)) → Q (.ref p) H'
abbrev NRules : List Str := ["field", "rules", "even", "longer", "rule", "done"]
theorem sc_rules_of : FnScope NRules ["field"] (defScope s_rules_of) := ⟨rfl, rfl, rfl, by decide +kernel, rfl, by decide +kernel, by decide +kernel⟩
theorem ok_rules_of (T : Txt K mg) : DefOk P w K mg base 2 "rules_of" ["field"] (spRules K) := by
  refine def_ok (F_rules_of T) sc_rules_of (fun _ _ _ _ _ _ us hl => match us, hl with | [_], _ => rfl) (fun vs H Q E h => by obtain ⟨c, e, _, _, rfl, _⟩ := h; rfl) fun f cdv A outer s H vs Q E hr h => ?_
  obtain ⟨a, n, e, k, rfl, dm, ⟨dx, pn, pq, ps, pv', pe, pm, ha, fp⟩, hN, h⟩ := h
  rw [← rulesM_len] at hN
  refine ⟨_, pss_cons (ps_set (i := 1) sc_rules_of.nd rfl (Or.inl rfl) (pe_lst (pa_cons (pe_tup pa_nil) pa_nil)))
    (pss_cons (ps_for PassesOwn.never rfl (pi_list (pe_fld (pv 0) rfl)) (pg_name (i := 2) sc_rules_of.nd rfl (Or.inl rfl))
      (pss_cons (ps_set (i := 3) sc_rules_of.nd rfl (Or.inl rfl) (pe_lst pa_nil))
      (pss_cons (ps_for PassesOwn.never rfl (pi_list (pv 1)) (pg_name (i := 4) sc_rules_of.nd rfl (Or.inl rfl))
        (pss_one (ps_for PassesOwn.never rfl (pi_range1 (by rfl) T.b_range (pa_cons (pe_cd (ok_ways_to_do T) hr (pa_cons (pv 2) pa_nil)) pa_nil)) (pg_name (i := 5) sc_rules_of.nd rfl (Or.inl rfl))
          (pss_one (ps_expr (pe_append (pv 3) (pa_cons (pe_op op_catN (pv 4) (pe_tup (pa_cons (pv 5) pa_nil))) pa_nil)))))))
      (pss_one (ps_set (i := 1) sc_rules_of.nd rfl (Or.inl rfl) (pv 3))))))
    (pss_one (ps_ret (pv 1)))), ?_⟩
  refine ⟨by show 0 ≤ sizeLine; decide, fun t ht => ?_⟩
  have s0 : Same H (upd H t (.tup [])) := Same.new (Same.refl H) ht
  refine ⟨by show 1 ≤ sizeLine; decide, fun R hR => ?_⟩
  have s1 : Same H (upd (upd H t (.tup [])) R (.lst [.ref t])) := Same.new s0 hR
  have R0 : H R = none := Same.none s0 hR
  have tR : t ≠ R := fun z => by rw [← z, upd_same] at hR; cases hR
  have t1 : Tups (upd (upd H t (.tup [])) R (.lst [.ref t])) [t] [[]] := Paired.one (by rw [upd_ne tR, upd_same]; rfl)
  have r1 : upd (upd H t (.tup [])) R (.lst [.ref t]) R = some (.lst ([t].map V.ref)) := upd_same
  generalize upd (upd H t (.tup [])) R (.lst [.ref t]) = H1 at s1 t1 r1
  clear s0 ht hR tR
  refine ⟨_, rfl, a, _, dx, _, _, rfl, s1 _ _ ha, T.cl_Field, T.n_Field_evens, rfl, pe, rfl, ⟨_, SqL.of (s1 _ _ fp.evens)⟩, ?_⟩
  refine for_list (K := K) (a := pe) (xs := (evensM n e k).map V.bl) (fun i σ H' => ∃ R as v2 v3 v4 v5, σ = [some (.ref a), some (.ref R), v2, v3, v4, v5] ∧ Same H H' ∧ H R = none ∧ H' R = some (.lst (as.map V.ref)) ∧ Tups H' as (rulesM ((evensM n e k).take i)))
    ⟨R, [t], none, none, none, none, rfl, s1, R0, r1, t1⟩ (fun i σ H' _ ⟨_, _, _, _, _, _, _, s, _⟩ => SqL.of (s _ _ fp.evens)) ?_ ?_
  · rintro i x σ H2 hx ⟨R, as, v2, v3, v4, v5, rfl, s2, R0, r2, t2⟩
    obtain ⟨b, hb, rfl⟩ := get_bls hx
    have hstep := rules_snoc hb
    have hmax := rules_take (evensM n e k) (i + 1)
    rw [hstep, step_len] at hmax
    have al : as.length = (rulesM ((evensM n e k).take i)).length := Paired.len' t2
    refine ⟨by show 0 ≤ sizeLine; decide, fun L hL => ?_⟩
    have s3 : Same H2 (upd H2 L (.lst [])) := Same.new (Same.refl H2) hL
    have L0 : H L = none := Same.none s2 hL
    have d3 : upd H2 L (.lst []) L = some (.lst (([] : List Addr).map V.ref)) := upd_same
    refine ⟨_, rfl, R, rfl, ⟨_, SqL.of (s3 _ _ r2)⟩, ?_⟩
    generalize upd H2 L (.lst []) = H3 at s3 d3
    refine for_list (K := K) (a := R) (xs := as.map V.ref) (fun j σ H' => ∃ ts v4 v5, σ = [some (.ref a), some (.ref R), some (.bl b), some (.ref L), v4, v5] ∧ Same H2 H' ∧ H' L = some (.lst (ts.map V.ref)) ∧ Tups H' ts (((rulesM ((evensM n e k).take i)).take j).flatMap (ruleExt b)))
      ⟨[], v4, v5, rfl, s3, d3, .nil⟩ (fun j σ H' _ ⟨_, _, _, _, s, _⟩ => SqL.of (s _ _ r2)) ?_ ?_
    · rintro j x σ H4 hx ⟨ts, v4, v5, rfl, s4, d4, t4⟩
      obtain ⟨c, hc, rfl⟩ := get_refs hx
      obtain ⟨l, hl, el⟩ := Paired.left t2 hc
      have hj : j < (rulesM ((evensM n e k).take i)).length := (List.getElem?_eq_some_iff.mp hl).1
      have wb := ways_pos b
      refine ⟨_, rfl, b, rfl, _, rfl, by omega, by omega, ?_⟩
      rw [Int.toNat_natCast]
      refine for_range (lo := 0) (n := waysN b) (fun d σ H' => ∃ ts v5, σ = [some (.ref a), some (.ref R), some (.bl b), some (.ref L), some (.ref c), v5] ∧ Same H2 H' ∧ H' L = some (.lst (ts.map V.ref)) ∧ Tups H' ts (((rulesM ((evensM n e k).take i)).take j).flatMap (ruleExt b) ++ (List.range d).map fun (d : Nat) => l ++ [(d : Int)]))
        ⟨ts, v5, rfl, s4, d4, by rw [List.range_zero, List.map_nil, List.append_nil]; exact t4⟩ ?_ ?_
      · rintro d σ H5 hd ⟨ts, v5, rfl, s5, d5, t5⟩
        have tl : ts.length = j * waysN b + d := by
          rw [Paired.len' t5, List.length_append, List.length_map, List.length_range]
          have := step_len b ((rulesM ((evensM n e k).take i)).take j)
          unfold ruleStep at this
          rw [this, List.length_take, Nat.min_eq_left (Nat.le_of_lt hj)]
        have h6 : (j + 1) * waysN b ≤ (rulesM ((evensM n e k).take i)).length * waysN b := Nat.mul_le_mul_right _ hj
        rw [Nat.succ_mul] at h6
        refine ⟨_, rfl, .inl ⟨rfl, _, SqL.of d5⟩, _, rfl, _, rfl, by show 1 ≤ sizeLine; decide, fun u hu => ?_⟩
        have s6 : Same H5 (upd H5 u (.tup [.int (0 + (d : Int))])) := Same.new (Same.refl H5) hu
        have u6 : upd H5 u (.tup [.int (0 + (d : Int))]) u = some (.tup [.int (0 + (d : Int))]) := upd_same
        rw [Int.zero_add] at s6 u6 ⊢
        generalize upd H5 u (.tup [.int (d : Int)]) = H6 at s6 u6
        have ll : l.length ≤ 100 := by
          have h1 := rulesM_width (List.mem_of_getElem? hl)
          rw [List.length_take, evens_len] at h1
          have h2 := views_few dm
          omega
        refine ⟨c, u, vI l, _, rfl, rfl, SqT.of (s6 _ _ (s5 _ _ el)), u6, (by intro z; cases z), by rw [vI_len]; exact Nat.le_trans (show _ ≤ 101 by show l.length + 1 ≤ 101; omega) (by decide), fun p H7 s7 p7 _ => ?_⟩
        have s67 := Same.trans s6 s7
        refine ⟨L, _, _, rfl, rfl, s67 _ _ d5, by rw [List.length_map, tl]; exact Nat.lt_of_le_of_lt (show _ ≤ 6000 by omega) (by decide), ?_⟩
        refine ⟨ts ++ [p], _, rfl, Same.at_ (Same.trans s5 s67) hL, by rw [List.map_append]; exact upd_same, ?_⟩
        rw [List.range_succ, List.map_append, ← List.append_assoc]
        refine Paired.app' (Tups.upd (s67 _ _ d5) (Tups.same s67 t5)) (Paired.one ?_)
        rw [upd_other (s67 _ _ d5) p7 (fun z => nomatch z)]
        unfold vI
        rw [List.map_append]
        rfl
      · rintro σ H5 ⟨ts, v5, rfl, s5, d5, t5⟩
        refine ⟨ts, _, v5, rfl, s5, d5, ?_⟩
        rw [take_snoc hl, List.flatMap_append]
        simpa [ruleExt] using t5
    · rintro σ H4 ⟨ts, v4, v5, rfl, s4, d4, t4⟩
      rw [List.length_map, al, List.take_length] at t4
      refine ⟨_, rfl, L, ts, _, _, v4, v5, rfl, Same.trans s2 s4, L0, d4, ?_⟩
      rw [hstep]
      exact t4
  · rintro σ H2 ⟨R, as, v2, v3, v4, v5, rfl, s2, R0, r2, t2⟩
    rw [List.length_map, List.take_length] at t2
    exact ⟨_, rfl, h H2 R as s2 R0 r2 t2⟩
end
end RG
namespace RG
open PySem PySem.Spec PyProof.Rows L2
structure TrialD where
  sure : List Nat
  first : List Int
  rules : Nat
abbrev trialF (ps pf : Addr) (r : Nat) : List (Str × V) := [("sure", .ref ps), ("first", .ref pf), ("rules", .int (r : Int))]
def TrialAt (K : PySem.W.Frag) (H : Hp) (a : Addr) (t : TrialD) : Prop := ∃ dx ps pf, H a = some (.ins (He.ga K "Trial") dx (trialF ps pf t.rules)) ∧ H ps = some (.tup (vN t.sure)) ∧ H pf = some (.tup (vI t.first))
theorem TrialAt.same {K : PySem.W.Frag} {H H' : Hp} {a : Addr} {t : TrialD} (s : Same H H') (h : TrialAt K H a t) : TrialAt K H' a t := by
  obtain ⟨dx, ps, pf, h1, h2, h3⟩ := h
  exact ⟨dx, ps, pf, s _ _ h1, s _ _ h2, s _ _ h3⟩
def gatN (sure : List Nat) (ms : List Nat) : Nat := (ms.filter fun m => decide (m ∈ sure)).length
theorem inV_ints (m : Nat) : ∀ l : List Nat, inV (.int (m : Int)) (vN l) = decide (m ∈ l)
  | [] => by simp [inV]
  | x :: l => by
    have ih := inV_ints m l
    unfold inV at ih ⊢
    rw [vN, List.map_cons, List.any_cons]
    rw [show (List.map (fun (q : Nat) => V.int (q : Int)) l) = vN l from rfl, ih]
    have e : eqV (.int (x : Int)) (.int (m : Int)) = decide (m = x) := by
      rw [Bool.eq_iff_iff, decide_eq_true_iff]
      simp [eqV]
      omega
    rw [e, Bool.eq_iff_iff, Bool.or_eq_true, decide_eq_true_iff, decide_eq_true_iff, decide_eq_true_iff, List.mem_cons]
theorem vN_app (l m : List Nat) : vN (l ++ m) = vN l ++ vN m := List.map_append
theorem flat_ints : ∀ l : List Nat, (vN l).all flatV = true
  | [] => rfl
  | x :: l => by
    rw [vN, List.map_cons, List.all_cons]
    exact flat_ints l
section
variable {X : Cx}
theorem pe_fldK (K : PySem.W.Frag) {e : Expr} {ta : TE} {f : Str} {pos : Pos} (he : PE X e ta) (hb : attributeBase e f X.env (eval e X.env) = eval e X.env) (h : X.K = K := by rfl) : PE X (.Attribute e f pos) (tFld K ta f) := by
  subst h
  exact pe_fld he hb
end
section
variable {P : Program} {w : World} {K : PySem.W.Frag} {mg : Str → Option Value} {base : Heap}
def spTrialI (K : PySem.W.Frag) : Sp := fun vs H Q _ => ∃ (p dx a b : Addr) (sure : List Nat) (first : List Int), vs = [.ref p, .ref a, .ref b] ∧ H p = some (.ins (He.ga K "Trial") dx []) ∧ H a = some (.tup (vN sure)) ∧ H b = some (.tup (vI first)) ∧
  ∀ H', TrialAt K H' p ⟨sure, first, 0⟩ → But p H H' → Q .non H'
theorem sc_Trial_init : FnScope ["self", "sure", "first"] ["self", "sure", "first"] (defScope s_Trial_init) := ⟨rfl, rfl, rfl, by decide +kernel, rfl, by decide +kernel, by decide +kernel⟩
theorem ok_Trial_init (T : Txt K mg) : InitOk P w K mg base 1 "Trial" ["self", "sure", "first"] (spTrialI K) := by
  refine init_ok (F_Trial_init T) sc_Trial_init (fun _ _ _ _ _ _ us hl => match us, hl with | [_, _, _], _ => rfl) (fun vs H Q E h => by obtain ⟨c, e, _, _, _, _, rfl, _⟩ := h; rfl) fun f cdv A outer s H vs Q E hr h => ?_
  obtain ⟨p, dx, a, b, sure, first, rfl, hp, ha, hb, h⟩ := h
  refine ⟨_, pss_cons (ps_fldN (pv 0) (pv 1) rfl) (pss_cons (ps_fldN (pv 0) (pv 2) rfl) (pss_one (ps_fldN (pv 0) pe_int rfl))), ?_⟩
  have pa : p ≠ a := ne_of hp ha (fun z => nomatch z)
  have pb : p ≠ b := ne_of hp hb (fun z => nomatch z)
  refine ⟨_, rfl, _, rfl, p, _, dx, _, [("sure", .ref a)], rfl, hp, T.cl_Trial, T.n_Trial_sure, by decide, rfl, ?_⟩
  refine ⟨_, rfl, _, rfl, p, _, dx, _, [("sure", .ref a), ("first", .ref b)], rfl, upd_same, T.cl_Trial, T.n_Trial_first, by show 1 < 1000; decide, rfl, ?_⟩
  rw [upd_upd]
  refine ⟨_, rfl, p, _, dx, _, trialF a b 0, rfl, upd_same, T.cl_Trial, T.n_Trial_rules, by show 2 < 1000; decide, rfl, ?_⟩
  rw [upd_upd]
  exact h _ ⟨dx, a, b, upd_same, by rw [upd_ne pa.symm]; exact ha, by rw [upd_ne pb.symm]; exact hb⟩ (But.upd But.refl)
def spGathered (K : PySem.W.Frag) : Sp := fun vs H Q _ => ∃ (a b : Addr) (t : TrialD) (ms : List Nat), vs = [.ref a, .ref b] ∧ TrialAt K H a t ∧ H b = some (.lst (vN ms)) ∧ ms.length ≤ 64 ∧ ∀ H', Same H H' → Q (.int (gatN t.sure ms : Int)) H'
abbrev NGat : List Str := ["self", "names", "name"]
theorem sc_Trial_gathered_of : FnScope NGat ["self", "names"] (defScope s_Trial_gathered_of) := ⟨rfl, rfl, rfl, by decide +kernel, rfl, by decide +kernel, by decide +kernel⟩
theorem ok_gathered_of (T : Txt K mg) : MethOk P w K mg base 1 "Trial" "gathered_of" ["self", "names"] (spGathered K) := by
  refine meth_ok (F_Trial_gathered_of T) sc_Trial_gathered_of (fun _ _ _ _ _ _ us hl => match us, hl with | [_, _], _ => rfl) (fun vs H Q E h => by obtain ⟨c, e, _, _, rfl, _⟩ := h; rfl) fun f cdv A outer s H vs Q E hr h => ?_
  obtain ⟨a, b, t, ms, rfl, ⟨dx, ps, pf, ha, hs, hf⟩, hb, hm, h⟩ := h
  refine ⟨_, pss_one (ps_ret (pe_len T.b_len (pa_cons (pe_lc (own := [("name", 2)]) (g := gName 2) (by rfl) sc_Trial_gathered_of.nd (pi_list (pv 1)) (blkOk_by (N := NGat) (sc := defScope s_Trial_gathered_of) (own := [("name", 2)]) (by decide +kernel))
      (fun _ _ _ _ _ => pg_name (i := 2) sc_Trial_gathered_of.nd rfl (Or.inl rfl)) (fun _ _ _ _ _ => pts_one (pt_cmpR (r := rIn K false) op_in_seq (pv 2) (pe_fldK K (pv 0) rfl) (by rfl))) (fun _ _ _ _ _ => pv 2)) pa_nil))), ?_⟩
  refine ⟨_, rfl, b, rfl, ⟨_, SqL.of hb⟩, fun D hD => ?_⟩
  refine lc_list (K := K) (a := b) (xs := vN ms) (fun i H' => Same H H' ∧ H' D = some (.lst (vN ((ms.take i).filter fun m => decide (m ∈ t.sure))))) ⟨Same.new (Same.refl H) hD, upd_same⟩ (fun i H1 _ ⟨s1, _⟩ => SqL.of (s1 _ _ hb)) (fun i x H1 hx ⟨s1, d1⟩ => ?_) fun H1 ⟨s1, d1⟩ => ?_
  · obtain ⟨j, hj, rfl⟩ := vN_at hx
    refine ⟨rfl, _, rfl, _, rfl, a, _, dx, _, _, rfl, s1 _ _ ha, T.cl_Trial, T.n_Trial_sure, rfl, ps, _, rfl, .inr (SqT.of (s1 _ _ hs)), rfl, flat_ints _, _, rfl, ?_⟩
    rw [if_neg (by decide), inV_ints, take_snoc hj, List.filter_append, List.filter_cons, List.filter_nil]
    by_cases c : j ∈ t.sure
    · refine ifT c ⟨_, rfl, _, d1, ?_, Same.at_ s1 hD, ?_⟩
      · rw [List.length_map]
        refine Nat.lt_of_le_of_lt (Nat.le_trans (List.length_filter_le _ _) (show _ ≤ 64 from ?_)) (by decide)
        rw [List.length_take]
        omega
      · rw [upd_same, if_pos (decide_eq_true c), vN_app]
        rfl
    · refine ifF c ⟨s1, ?_⟩
      rw [if_neg (by rw [decide_eq_false c]; decide), List.append_nil]
      exact d1
  · rw [List.length_map, List.take_length] at d1
    refine ⟨D, _, rfl, .inl (SqL.of d1), ?_⟩
    rw [List.length_map]
    exact h H1 s1
def spGatAll (K : PySem.W.Frag) : Sp := fun vs H Q _ => ∃ (a b : Addr) (t : TrialD) (ms : List Nat), vs = [.ref a, .ref b] ∧ TrialAt K H a t ∧ H b = some (.lst (vN ms)) ∧ ms.length ≤ 64 ∧ ∀ H', Same H H' → Q (.bl (decide (gatN t.sure ms = ms.length))) H'
theorem sc_Trial_gathers_all : FnScope ["self", "names"] ["self", "names"] (defScope s_Trial_gathers_all) := ⟨rfl, rfl, rfl, by decide +kernel, rfl, by decide +kernel, by decide +kernel⟩
theorem ok_gathers_all (T : Txt K mg) : MethOk P w K mg base 2 "Trial" "gathers_all" ["self", "names"] (spGatAll K) := by
  refine meth_ok (F_Trial_gathers_all T) sc_Trial_gathers_all (fun _ _ _ _ _ _ us hl => match us, hl with | [_, _], _ => rfl) (fun vs H Q E h => by obtain ⟨c, e, _, _, rfl, _⟩ := h; rfl) fun f cdv A outer s H vs Q E hr h => ?_
  obtain ⟨a, b, t, ms, rfl, ta, hb, hm, h⟩ := h
  refine ⟨_, pss_one (ps_ret (pe_cmpR op_eq (pe_md (He.ga K "Trial") (ok_gathered_of T) T.cl_Trial hr (pv 0) (pa_cons (pv 1) pa_nil)) (pe_len T.b_len (pa_cons (pv 1) pa_nil)) (nomark _))), ?_⟩
  obtain ⟨dx, ps, pf, ha, hs, hf⟩ := id ta
  refine ⟨_, rfl, a, dx, _, rfl, ha, rfl, _, rfl, a, b, t, ms, rfl, ta, hb, hm, fun H1 s1 => ?_⟩
  refine ⟨_, rfl, b, vN ms, rfl, .inl (SqL.of (s1 _ _ hb)), rfl, ?_⟩
  have e : decide (V.int (gatN t.sure ms : Int) = V.int ((vN ms).length : Int)) = decide (gatN t.sure ms = ms.length) := by
    rw [dec_int, List.length_map, Bool.eq_iff_iff, decide_eq_true_iff, decide_eq_true_iff]
    omega
  rw [e]
  exact h H1 s1
end
end RG
namespace RG
open PySem PySem.Spec PyProof.Rows L2
/-! ### what may come hangs on what is told of the views that are had -/
def tells (n e k : Nat) (R l : List Int) : List Int := (viewsIn n e k (sightsM l (e : Int))).map fun (v : Nat) => R.getD v 0
def hadM (n e k : Nat) : List (List Nat) := (namesM n k).map fun l => viewsIn n e k (sightsM l (e : Int))
theorem views_mem {n e k : Nat} : ∀ {ds : List SightD} {o : List Nat} {v : Nat}, v ∈ ds.foldl (fun o s => addK o (vnumM n e k s.lesser)) o ↔ v ∈ o ∨ ∃ s ∈ ds, v = vnumM n e k s.lesser
  | [], o, v => by simp
  | s :: ds, o, v => by
    rw [List.foldl_cons, views_mem, addK_mem]
    simp only [List.mem_cons]
    constructor
    · rintro ((h | h) | ⟨t, h1, h2⟩)
      · exact .inl h
      · exact .inr ⟨s, .inl rfl, h⟩
      · exact .inr ⟨t, .inr h1, h2⟩
    · rintro (h | ⟨t, h1 | h1, h2⟩)
      · exact .inl (.inl h)
      · subst h1
        exact .inl (.inr h2)
      · exact .inr ⟨t, h1, h2⟩
theorem viewsIn_len {n e k : Nat} : ∀ (ds : List SightD) (o : List Nat), (ds.foldl (fun o s => addK o (vnumM n e k s.lesser)) o).length ≤ o.length + ds.length
  | [], _ => Nat.le_refl _
  | s :: ds, o => by
    have h1 := viewsIn_len (n := n) (e := e) (k := k) ds (addK o (vnumM n e k s.lesser))
    have h2 := addK_len o (vnumM n e k s.lesser)
    rw [List.foldl_cons, List.length_cons]
    omega
theorem flatMap_congr' {α β : Type} {f g : α → List β} : ∀ {l : List α}, (∀ x ∈ l, f x = g x) → l.flatMap f = l.flatMap g
  | [], _ => rfl
  | x :: l, h => by
    rw [List.flatMap_cons, List.flatMap_cons, h x List.mem_cons_self, flatMap_congr' fun y hy => h y (List.mem_cons_of_mem _ hy)]
theorem ahead_congr {n e k : Nat} {R R' l : List Int} {m : Int} (h : tells n e k R l = tells n e k R' l) : aheadL n e k R m l = aheadL n e k R' m l := by
  have hE : eagL n e k R l = eagL n e k R' l := by
    unfold eagL eagerM
    refine flatMap_congr' fun s hs => ?_
    have hv : vnumM n e k s.lesser ∈ viewsIn n e k (sightsM l (e : Int)) := views_mem.mpr (.inr ⟨s, hs, rfl⟩)
    have := (List.map_inj_left.mp h) _ hv
    unfold tellM
    rw [this]
  unfold aheadL
  rw [hE]
/-! ### what is foreseen -/
/-- all but these stay -/
def ButD (ws : List Addr) (H H' : Hp) : Prop := ∀ b o, H b = some o → b ∉ ws → H' b = some o
theorem ButD.refl {ws : List Addr} {H : Hp} : ButD ws H H := fun _ _ e _ => e
theorem ButD.trans {ws : List Addr} {H H1 H2 : Hp} (a : ButD ws H H1) (b : ButD ws H1 H2) : ButD ws H H2 := fun c o e n => b c o (a c o e n) n
theorem ButD.of {ws : List Addr} {H H' : Hp} (s : Same H H') : ButD ws H H' := fun b o e _ => s b o e
theorem ButD.at_ {ws : List Addr} {H H' : Hp} {p : Addr} {o : HO} (a : ButD ws H H') (hp : H p = none ∨ p ∈ ws) : ButD ws H (upd H' p o) := fun b u e n => by
  rw [upd_ne]
  · exact a b u e n
  · intro z
    subst z
    rcases hp with hp | hp
    · rw [hp] at e
      cases e
    · exact n hp
abbrev foreF (fa : Addr) (m : Int) (pv pw : Addr) : List (Str × V) := [("field", .ref fa), ("moves", .int m), ("views_had", .ref pv), ("foreseen", .ref pw)]
structure ForeS (K : PySem.W.Frag) (H : Hp) (a fa pv pw : Addr) (vs ws : List Addr) (n e k : Nat) (m : Int) : Prop where
  obj : ∃ dx, H a = some (.ins (He.ga K "Foresight") dx (foreF fa m pv pw))
  field : FieldAt K H fa n e k
  had : H pv = some (.lst (vs.map V.ref))
  hads : Rows H vs (hadM n e k)
  seen : H pw = some (.lst (ws.map V.ref))
def FDict (H : Hp) (av : Addr → Prop) (wd : Addr) (n e k : Nat) (m : Int) (l : List Int) (c : Nat) : Prop :=
  ∃ kvs, H wd = some (.dT kvs) ∧ kvs.length ≤ c ∧ ∀ key v, valV kvs key = some v → ∃ R, key = kk (tells n e k R l) ∧ ∃ q, v = .ref q ∧ ¬ av q ∧ H q = some (.lst (vN (aheadL n e k R m l)))
structure Fore (K : PySem.W.Frag) (H : Hp) (a fa pv pw : Addr) (vs ws : List Addr) (n e k : Nat) (m : Int) (av : Addr → Prop) (cs : Nat → Nat) : Prop where
  st : ∀ H', ButD ws H H' → ForeS K H' a fa pv pw vs ws n e k m
  len : ws.length = (namesM n k).length
  nd : ws.Nodup
  dicts : ∀ i wd l, ws[i]? = some wd → (namesM n k)[i]? = some l → FDict H av wd n e k m l (cs i)
theorem FDict.mono {H : Hp} {av : Addr → Prop} {wd : Addr} {n e k : Nat} {m : Int} {l : List Int} {c c' : Nat} (h : FDict H av wd n e k m l c) (hc : c ≤ c') : FDict H av wd n e k m l c' := by
  obtain ⟨kvs, h1, h2, h3⟩ := h
  exact ⟨kvs, h1, Nat.le_trans h2 hc, h3⟩
theorem FDict.same {H H' : Hp} {av : Addr → Prop} {wd : Addr} {n e k : Nat} {m : Int} {l : List Int} {c : Nat} (s : Same H H') (h : FDict H av wd n e k m l c) : FDict H' av wd n e k m l c := by
  obtain ⟨kvs, h1, h2, h3⟩ := h
  exact ⟨kvs, s _ _ h1, h2, fun key v hv => by
    obtain ⟨R, r1, q, r2, r3, r4⟩ := h3 key v hv
    exact ⟨R, r1, q, r2, r3, s _ _ r4⟩⟩
/-- a write at a place that is not the dict's nor the lists' -/
theorem FDict.upd {H : Hp} {av : Addr → Prop} {wd p : Addr} {u o : HO} {n e k : Nat} {m : Int} {l : List Int} {c : Nat} (hp : H p = some u) (hw : wd ≠ p) (hl : av p ∨ ∀ xs, u ≠ .lst xs) (h : FDict H av wd n e k m l c) : FDict (L2.upd H p o) av wd n e k m l c := by
  obtain ⟨kvs, h1, h2, h3⟩ := h
  refine ⟨kvs, by rw [upd_ne hw]; exact h1, h2, fun key v hv => ?_⟩
  obtain ⟨R, r1, q, r2, r3, r4⟩ := h3 key v hv
  refine ⟨R, r1, q, r2, r3, ?_⟩
  rw [upd_ne]
  · exact r4
  · intro z
    subst z
    rcases hl with hl | hl
    · exact r3 hl
    · rw [hp] at r4
      exact hl _ (Option.some.inj r4)
theorem Fore.same {K : PySem.W.Frag} {H H' : Hp} {a fa pv pw : Addr} {vs ws : List Addr} {n e k : Nat} {m : Int} {av : Addr → Prop} {cs : Nat → Nat} (s : Same H H') (h : Fore K H a fa pv pw vs ws n e k m av cs) : Fore K H' a fa pv pw vs ws n e k m av cs :=
  ⟨fun H2 b => h.st H2 (ButD.trans (ButD.of s) b), h.len, h.nd, fun i wd l h1 h2 => (h.dicts i wd l h1 h2).same s⟩
theorem Fore.mono {K : PySem.W.Frag} {H : Hp} {a fa pv pw : Addr} {vs ws : List Addr} {n e k : Nat} {m : Int} {av : Addr → Prop} {cs cs' : Nat → Nat} (h : Fore K H a fa pv pw vs ws n e k m av cs) (hc : ∀ i, cs i ≤ cs' i) : Fore K H a fa pv pw vs ws n e k m av cs' :=
  ⟨h.st, h.len, h.nd, fun i wd l h1 h2 => (h.dicts i wd l h1 h2).mono (hc i)⟩
theorem Fore.isD {K : PySem.W.Frag} {H : Hp} {a fa pv pw : Addr} {vs ws : List Addr} {n e k : Nat} {m : Int} {av : Addr → Prop} {cs : Nat → Nat} (h : Fore K H a fa pv pw vs ws n e k m av cs) {b : Addr} (hb : b ∈ ws) : ∃ kvs, H b = some (.dT kvs) := by
  obtain ⟨i, hi, e⟩ := List.mem_iff_getElem.mp hb
  obtain ⟨kvs, h1, _⟩ := h.dicts i b ((namesM n k)[i]'(by rw [← h.len]; exact hi)) (by rw [List.getElem?_eq_getElem hi, e]) (List.getElem?_eq_getElem _)
  exact ⟨kvs, h1⟩
section
variable {P : Program} {w : World} {K : PySem.W.Frag} {mg : Str → Option Value} {base : Heap}
def spComing (K : PySem.W.Frag) : Sp := fun vs H Q _ => ∃ (a b fa pv pw : Addr) (us ws : List Addr) (n e k i : Nat) (m : Int) (av : Addr → Prop) (cs : Nat → Nat) (R l : List Int), vs = [.ref a, .int (i : Int), .ref b] ∧ Dims n e k ∧ Fore K H a fa pv pw us ws n e k m av cs ∧ (namesM n k)[i]? = some l ∧
  H b = some (.tup (vI R)) ∧ R.length = (viewsM n e k).length ∧ cs i ≤ 10000 ∧ (∀ x, av x → H x ≠ none) ∧
  ∀ H' q, ButD ws H H' → Fore K H' a fa pv pw us ws n e k m av (fun j => if j = i then cs i + 1 else cs j) → H' q = some (.lst (vN (aheadL n e k R m l))) → ¬ av q → Q (.ref q) H'
abbrev NComing : List Str := ["self", "name", "rule", "told", "foreseen", "view"]
theorem sc_coming_by : FnScope NComing ["self", "name", "rule"] (defScope s_Foresight_coming_by) := ⟨rfl, rfl, rfl, by decide +kernel, rfl, by decide +kernel, by decide +kernel⟩
theorem ok_coming_by (T : Txt K mg) : MethOk P w K mg base 4 "Foresight" "coming_by" ["self", "name", "rule"] (spComing K) := by
  refine meth_ok (F_Foresight_coming_by T) sc_coming_by (fun _ _ _ _ _ _ us hl => match us, hl with | [_, _, _], _ => rfl) (fun vs H Q E h => by obtain ⟨c, e, _, _, _, _, _, _, _, _, _, _, _, _, _, _, rfl, _⟩ := h; rfl) fun f cdv A outer s H vs Q E hr h => ?_
  obtain ⟨a, b, fa, pv', pw, us, ws, n, e, k, i, m, av, cs, R, l, rfl, dm, F, hl, hb, hRl, hc, hav, h⟩ := h
  refine ⟨_, pss_cons (ps_set (i := 3) sc_coming_by.nd rfl (Or.inl rfl) (pe_callTy call_tuple_of (by rfl) T.b_tuple (by decide +kernel) (pa_cons (pe_lc (own := [("view", 5)]) (g := gName 5) (tt := tYes) (by rfl) sc_coming_by.nd (pi_list (pe_ix ix_list (pe_fld (pv 0) rfl) (pv 1) (fun _ _ => rfl))) (blkOk_by (N := NComing) (sc := defScope s_Foresight_coming_by) (own := [("view", 5)]) (by decide +kernel))
      (fun _ _ _ _ _ => pg_name (i := 5) sc_coming_by.nd rfl (Or.inl rfl)) (fun _ _ _ _ _ => pts_nil) (fun _ _ _ _ _ => pe_ix (r := rIxT K) ix_tup (pv 2) (pv 5) (fun _ _ => rfl))) pa_nil)))
    (pss_cons (ps_set (i := 4) sc_coming_by.nd rfl (Or.inl rfl) (pe_ix ix_list (pe_fld (pv 0) rfl) (pv 1) (fun _ _ => rfl)))
    (pss_cons (ps_if (pt_cmp (pc_dnotin (hu_of hr) (pv 3) (pv 4))) (pss_one (ps_dput (hu_of hr) (pv 4) (pv 3) (pe_cd (ok_names_ahead T) hr (pa_cons (pe_fld (pv 0) rfl) (pa_cons (pv 1) (pa_cons (pv 2) (pa_cons (pe_fld (pv 0) rfl) pa_nil))))) rfl)) pss_nil)
    (pss_one (ps_ret (pe_dget (hu_of hr) (pv 4) (pv 3) (fun _ _ => rfl)))))), ?_⟩
  have S0 := F.st H ButD.refl
  obtain ⟨dx, ho⟩ := S0.obj
  have C := T.cl_Foresight
  have hv : (hadM n e k)[i]? = some (viewsIn n e k (sightsM l (e : Int))) := by
    unfold hadM
    rw [List.getElem?_map, hl]
    rfl
  obtain ⟨rv, hrv, erv⟩ := Paired.right S0.hads hv
  have vlt : ∀ v ∈ viewsIn n e k (sightsM l (e : Int)), v < R.length := fun v hv => by
    rcases views_mem.mp hv with z | ⟨s, hs, rfl⟩
    · cases z
    · rw [hRl]
      exact (vnum_at dm.n3 dm.n7 dm.k1 dm.k3 dm.e2 (List.mem_of_getElem? (all_at (e := e) hl)) hs).2
  refine ⟨_, rfl, a, _, dx, _, _, rfl, ho, C, T.n_Foresight_views_had, rfl, _, rfl, pv', _, _, .ref rv, rfl, rfl, SqL.of S0.had, atI_nat (by rw [List.getElem?_map, hrv]; rfl), rv, rfl, ⟨_, SqL.of erv⟩, fun D hD => ?_⟩
  refine lc_list (K := K) (a := rv) (xs := vN (viewsIn n e k (sightsM l (e : Int)))) (fun j H' => Same H H' ∧ H' D = some (.lst (vI (((viewsIn n e k (sightsM l (e : Int))).take j).map fun (v : Nat) => R.getD v 0)))) ⟨Same.new (Same.refl H) hD, upd_same⟩ (fun i H1 _ ⟨s1, _⟩ => SqL.of (s1 _ _ erv)) (fun j x H1 hx ⟨s1, d1⟩ => ?_) fun H1 ⟨s1, d1⟩ => ?_
  · obtain ⟨v, hv2, rfl⟩ := vN_at hx
    have hlt := vlt v (List.mem_of_getElem? hv2)
    refine ⟨rfl, yesT ⟨_, rfl, _, rfl, b, vI R, _, _, rfl, rfl, SqT.of (s1 _ _ hb), atI_nat (vI_get hlt), ?_⟩⟩
    refine ⟨_, d1, ?_, Same.at_ s1 hD, ?_⟩
    · rw [vI_len, List.length_map, List.length_take]
      have h1 : (viewsIn n e k (sightsM l (e : Int))).length ≤ 1000 := by
        have h2 := viewsIn_len (n := n) (e := e) (k := k) (sightsM l (e : Int)) []
        have h3 := seen_few dm (List.mem_of_getElem? (all_at (e := e) hl))
        simp only [List.length_nil] at h2
        unfold viewsIn
        omega
      exact Nat.lt_of_le_of_lt (show _ ≤ 1000 by omega) (by decide)
    · rw [upd_same, take_snoc hv2, List.map_append]
      unfold vI
      rw [List.map_append]
      rfl
  rw [List.length_map, List.take_length] at d1
  have d1 : H1 D = some (.lst (vI (tells n e k R l))) := d1
  refine ⟨D, _, rfl, .inl ⟨SqL.of d1, fun t ht => ?_⟩⟩
  have s2 : Same H (upd H1 t (.tup (vI (tells n e k R l)))) := Same.new s1 ht
  have t2 : upd H1 t (.tup (vI (tells n e k R l))) t = some (.tup (vI (tells n e k R l))) := upd_same
  generalize upd H1 t (.tup (vI (tells n e k R l))) = H2 at s2 t2
  clear s1 d1 hD ht
  have F2 := F.same s2
  have S2 := F2.st H2 ButD.refl
  obtain ⟨wd, hwd⟩ : ∃ wd, ws[i]? = some wd := ⟨ws[i]'(by rw [F.len]; exact (List.getElem?_eq_some_iff.mp hl).1), List.getElem?_eq_getElem _⟩
  have wmem := List.mem_of_getElem? hwd
  obtain ⟨kvs, w1, w2, w3⟩ := F2.dicts i wd l hwd hl
  refine ⟨_, rfl, a, _, dx, _, _, rfl, s2 _ _ ho, C, T.n_Foresight_foreseen, rfl, _, rfl, pw, _, _, .ref wd, rfl, rfl, SqL.of S2.seen, atI_nat (by rw [List.getElem?_map, hwd]; rfl), ?_⟩
  have gt := DGet.t (k := kk (tells n e k R l)) w1 (by rw [kk_kV]; exact t2)
  refine ⟨_, rfl, _, rfl, wd, _, rfl, gt, _, rfl, ?_⟩
  cases hv : valV kvs (kk (tells n e k R l)) with
  | some v =>
    obtain ⟨R', r1, q, rfl, q2, q3⟩ := w3 _ _ hv
    rw [hv] at gt
    refine ifFb rfl ⟨_, rfl, _, rfl, wd, _, rfl, gt, ?_⟩
    rw [← ahead_congr (m := m) (kk_inj r1)] at q3
    refine h H2 q (ButD.of s2) (F2.mono fun j => ?_) q3 q2
    split
    · rename_i z
      rw [z]
      omega
    · exact Nat.le_refl _
  | none =>
    refine ifTb rfl ⟨_, rfl, a, _, dx, _, _, rfl, s2 _ _ ho, C, T.n_Foresight_field, rfl, _, rfl, _, rfl, _, rfl, a, _, dx, _, _, rfl, s2 _ _ ho, C, T.n_Foresight_moves, rfl, fa, b, n, e, k, i, R, l, m, rfl, dm, S2.field, hl, Sq.tup (s2 _ _ hb), hRl, fun H3 q s3 hq q3 => ?_⟩
    have w13 := s3 _ _ w1
    have t3 := s3 _ _ t2
    have qw : q ≠ wd := fun z => by rw [z, w13] at q3; cases q3
    have tw : t ≠ wd := fun z => by rw [z, w13] at t3; cases t3
    refine ⟨_, rfl, _, rfl, wd, _, rfl, DPut.t (k := kk (tells n e k R l)) w13 (by rw [kk_kV]; exact t3) (Nat.lt_of_le_of_lt (Nat.le_trans w2 hc) (by decide)), ?_⟩
    have s03 := Same.trans s2 s3
    have hB : ButD ws H (upd H3 wd (.dT (putK kvs (kk (tells n e k R l)) (.ref q)))) := ButD.at_ (ButD.of s03) (.inr wmem)
    have q4 : upd H3 wd (.dT (putK kvs (kk (tells n e k R l)) (.ref q))) q = some (.lst (vN (aheadL n e k R m l))) := by rw [upd_ne qw]; exact q3
    have nq : ¬ av q := fun z => hav q z (Same.none s2 hq)
    refine ⟨_, rfl, _, rfl, wd, .ref q, rfl, ?_, h _ q hB ⟨fun H' b => F.st H' (ButD.trans hB b), F.len, F.nd, fun j wd' l' hj hlj => ?_⟩ q4 nq⟩
    · have := DGet.t (k := kk (tells n e k R l)) (b := t) (H := upd H3 wd (.dT (putK kvs (kk (tells n e k R l)) (.ref q)))) upd_same (by rw [kk_kV, upd_ne tw]; exact t3)
      rw [valV_put, if_pos rfl] at this
      exact this
    · by_cases ji : j = i
      · subst ji
        rw [hwd] at hj
        cases hj
        rw [hl] at hlj
        cases hlj
        rw [if_pos rfl]
        refine ⟨_, upd_same, Nat.le_trans (length_putK _ _ _) (Nat.succ_le_succ w2), fun key v hkv => ?_⟩
        rw [valV_put] at hkv
        by_cases ck : key = kk (tells n e k R l)
        · rw [if_pos ck] at hkv
          cases hkv
          exact ⟨R, ck, q, rfl, nq, q4⟩
        · rw [if_neg ck] at hkv
          obtain ⟨R', r1, q', r2, r3, r4⟩ := w3 _ _ hkv
          have r4 := s3 _ _ r4
          exact ⟨R', r1, q', r2, r3, by rw [upd_ne (fun z => by rw [z, w13] at r4; cases r4)]; exact r4⟩
      · rw [if_neg ji]
        have hne : wd' ≠ wd := fun z => by
          subst z
          have h1 := List.getElem?_eq_some_iff.mp hj
          have h2 := List.getElem?_eq_some_iff.mp hwd
          obtain ⟨a1, b1⟩ := h1
          obtain ⟨a2, b2⟩ := h2
          exact ji ((List.getElem_inj F.nd).mp (b1.trans b2.symm))
        exact ((F2.dicts j wd' l' hj hlj).same s3).upd w13 hne (.inr fun _ z => nomatch z)
end
end RG
namespace RG
open PySem PySem.Spec PyProof.Rows L2
theorem Fore.avoid {K : PySem.W.Frag} {H : Hp} {a fa pv pw D : Addr} {o : HO} {vs ws : List Addr} {n e k : Nat} {m : Int} {cs : Nat → Nat} (h : Fore K H a fa pv pw vs ws n e k m (fun _ => False) cs) (hD : H D = none) : Fore K (upd H D o) a fa pv pw vs ws n e k m (fun x => x = D) cs := by
  have s : Same H (upd H D o) := Same.new (Same.refl H) hD
  refine ⟨fun H2 b => h.st H2 (ButD.trans (ButD.of s) b), h.len, h.nd, fun i wd l h1 h2 => ?_⟩
  obtain ⟨kvs, w1, w2, w3⟩ := h.dicts i wd l h1 h2
  refine ⟨kvs, s _ _ w1, w2, fun key v hv => ?_⟩
  obtain ⟨R, r1, q, r2, r3, r4⟩ := w3 key v hv
  exact ⟨R, r1, q, r2, ne_of_none r4 hD, s _ _ r4⟩
theorem Fore.weak {K : PySem.W.Frag} {H : Hp} {a fa pv pw : Addr} {vs ws : List Addr} {n e k : Nat} {m : Int} {av : Addr → Prop} {cs : Nat → Nat} (h : Fore K H a fa pv pw vs ws n e k m av cs) : Fore K H a fa pv pw vs ws n e k m (fun _ => False) cs := by
  refine ⟨h.st, h.len, h.nd, fun i wd l h1 h2 => ?_⟩
  obtain ⟨kvs, w1, w2, w3⟩ := h.dicts i wd l h1 h2
  refine ⟨kvs, w1, w2, fun key v hv => ?_⟩
  obtain ⟨R, r1, q, r2, r3, r4⟩ := w3 key v hv
  exact ⟨R, r1, q, r2, id, r4⟩
section
variable {P : Program} {w : World} {K : PySem.W.Frag} {mg : Str → Option Value} {base : Heap}
def spForeseen (K : PySem.W.Frag) : Sp := fun vs H Q _ => ∃ (a b fa pv pw : Addr) (us ws : List Addr) (n e k c : Nat) (m : Int) (R : List Int), vs = [.ref a, .ref b] ∧ Dims n e k ∧ Fore K H a fa pv pw us ws n e k m (fun _ => False) (fun _ => c) ∧
  H b = some (.tup (vI R)) ∧ R.length = (viewsM n e k).length ∧ c ≤ 10000 ∧
  ∀ H' p, ButD ws H H' → Fore K H' a fa pv pw us ws n e k m (fun _ => False) (fun _ => c + 1) → H p = none → GraphAt H' p (graphL n e k R m) → Q (.ref p) H'
abbrev NForeseen : List Str := ["self", "rule", "name"]
theorem sc_graph_foreseen : FnScope NForeseen ["self", "rule"] (defScope s_Foresight_graph_foreseen) := ⟨rfl, rfl, rfl, by decide +kernel, rfl, by decide +kernel, by decide +kernel⟩
theorem ok_graph_foreseen (T : Txt K mg) : MethOk P w K mg base 5 "Foresight" "graph_foreseen" ["self", "rule"] (spForeseen K) := by
  refine meth_ok (F_Foresight_graph_foreseen T) sc_graph_foreseen (fun _ _ _ _ _ _ us hl => match us, hl with | [_, _], _ => rfl) (fun vs H Q E h => by obtain ⟨c, e, _, _, _, _, _, _, _, _, _, _, _, rfl, _⟩ := h; rfl) fun f cdv A outer s H vs Q E hr h => ?_
  obtain ⟨a, b, fa, pv', pw, us, ws, n, e, k, c, m, R, rfl, dm, F, hb, hRl, hc, h⟩ := h
  have S0 := F.st H ButD.refl
  obtain ⟨dx, ho⟩ := S0.obj
  obtain ⟨dy, pn, pq, ps, pz, pe, pm, ha, fp⟩ := id S0.field
  obtain ⟨as, n1, n2⟩ := fp.names
  have al : as.length = (namesM n k).length := Paired.len' n2
  have nlen := (names_len dm.n3 dm.n7 dm.k3 (n := n) (k := k)).1
  refine ⟨_, pss_one (ps_ret (pe_lc (own := [("name", 2)]) (g := gName 2) (tt := tYes) (by rfl) sc_graph_foreseen.nd (pi_range1 (by rfl) T.b_range (pa_cons (pe_len T.b_len (pa_cons (pe_fld (pe_fld (pv 0) rfl) rfl) pa_nil)) pa_nil)) (blkOk_by (N := NForeseen) (sc := defScope s_Foresight_graph_foreseen) (own := [("name", 2)]) (by decide +kernel))
      (fun _ _ _ _ _ => pg_name (i := 2) sc_graph_foreseen.nd rfl (Or.inl rfl)) (fun _ _ _ _ _ => pts_nil) (fun _ _ _ _ _ => pe_md (He.ga K "Foresight") (ok_coming_by T) T.cl_Foresight hr (pv 0) (pa_cons (pv 2) (pa_cons (pv 1) pa_nil))))), ?_⟩
  refine ⟨_, rfl, a, _, dx, _, _, rfl, ho, T.cl_Foresight, T.n_Foresight_field, rfl, fa, _, dy, _, _, rfl, ha, T.cl_Field, T.n_Field_names, rfl, pn, _, rfl, .inl (SqL.of n1), ?_⟩
  rw [List.length_map, al]
  refine ⟨_, rfl, by omega, by omega, fun D hD => ?_⟩
  rw [Int.toNat_natCast]
  have bD : b ≠ D := ne_of_none hb hD
  have bW : ∀ {H' : Hp} {x : Addr} {o : HO} {cs : Nat → Nat} {av : Addr → Prop}, Fore K H' a fa pv' pw us ws n e k m av cs → H' x = some o → (∀ kvs, o ≠ .dT kvs) → x ∉ ws := fun F' hx hn z => by
    obtain ⟨kvs, hk⟩ := F'.isD z
    rw [hk] at hx
    exact hn _ (Option.some.inj hx).symm
  refine lc_range (lo := 0) (n := (namesM n k).length) (fun i H' => ∃ bs, ButD ws H H' ∧ Fore K H' a fa pv' pw us ws n e k m (fun x => x = D) (fun j => if j < i then c + 1 else c) ∧ H' D = some (.lst (bs.map V.ref)) ∧ RowN D H' bs (((namesM n k).take i).map (aheadL n e k R m)))
    ⟨[], ButD.of (Same.new (Same.refl H) hD), (F.avoid hD).mono fun j => by rw [if_neg (Nat.not_lt_zero _)]; exact Nat.le_refl _, upd_same, .nil⟩ (fun i H1 hi ⟨bs, b1, F1, h1, t1⟩ => ?_) fun H1 ⟨bs, b1, F1, h1, t1⟩ => ?_
  · obtain ⟨l, hl⟩ : ∃ l, (namesM n k)[i]? = some l := ⟨_, List.getElem?_eq_getElem hi⟩
    have S1 := F.st H1 b1
    obtain ⟨dx1, ho1⟩ := S1.obj
    have hb1 : H1 b = some (.tup (vI R)) := b1 _ _ hb (bW F hb fun _ z => nomatch z)
    refine ⟨rfl, yesT ⟨_, rfl, a, dx1, _, rfl, ho1, rfl, _, rfl, _, rfl, a, b, fa, pv', pw, us, ws, n, e, k, i, m, (fun x => x = D), _, R, l, by rw [Int.zero_add]; rfl, dm, F1, hl, hb1, hRl, by rw [if_neg (Nat.lt_irrefl _)]; exact hc, (fun x z y => by rw [show x = D from z, h1] at y; cases y), fun H2 q b2 F2 q2 nq => ?_⟩⟩
    have h2 : H2 D = some (.lst (bs.map V.ref)) := b2 _ _ h1 (bW F1 h1 fun _ z => nomatch z)
    have hB : ButD ws H (upd H2 D (.lst (bs.map V.ref ++ [.ref q]))) := ButD.at_ (ButD.trans b1 b2) (.inl hD)
    refine ⟨_, h2, ?_, bs ++ [q], hB, ⟨fun H' z => F.st H' (ButD.trans hB z), F.len, F.nd, fun j wd l' hj hlj => ?_⟩, by rw [List.map_append]; exact upd_same, ?_⟩
    · rw [List.length_map, Paired.len' t1, List.length_map, List.length_take]
      exact Nat.lt_of_le_of_lt (show _ ≤ 64 by omega) (by decide)
    · have fd := F2.dicts j wd l' hj hlj
      have wD : wd ≠ D := fun z => by
        obtain ⟨kvs, w1, _⟩ := fd
        rw [z, h2] at w1
        cases w1
      refine (fd.upd (av := fun x => x = D) h2 wD (.inl (show D = D from rfl))).mono ?_
      split
      · rw [if_neg (Nat.lt_irrefl _), if_pos (by omega)]
        exact Nat.le_refl _
      · split
        · rw [if_pos (by omega)]
          exact Nat.le_refl _
        · split <;> omega
    · rw [take_snoc hl, List.map_append]
      refine Paired.app' (RowN.upd (Paired.imp' (fun x l z => ⟨z.1, b2 _ _ z.2 (bW F1 z.2 fun _ z => nomatch z)⟩) t1)) (Paired.one ⟨nq, by rw [upd_ne nq]; exact q2⟩)
  · rw [List.take_length] at t1
    exact h _ D b1 (F1.weak.mono fun j => by split <;> omega) hD ⟨bs, h1, Paired.imp' (fun _ _ e => e.2) t1⟩
end
end RG
namespace RG
open PySem PySem.Spec PyProof.Rows L2
theorem Rows.updN {H : Hp} {p : Addr} {u o : HO} (hp : H p = some u) (hn : ∀ xs, u ≠ .lst xs) {as : List Addr} {g : List (List Nat)} (h : Rows H as g) : Rows (L2.upd H p o) as g :=
  Paired.imp' (fun _ _ e => upd_other hp e (fun z => hn _ z.symm)) h
section
variable {P : Program} {w : World} {K : PySem.W.Frag} {mg : Str → Option Value} {base : Heap}
def spForeI (K : PySem.W.Frag) : Sp := fun vs H Q _ => ∃ (p dx fa : Addr) (n e k : Nat) (m : Int), vs = [.ref p, .ref fa, .int m] ∧ H p = some (.ins (He.ga K "Foresight") dx []) ∧ Dims n e k ∧ (∀ H', But p H H' → FieldAt K H' fa n e k) ∧
  ∀ H' pv pw us ws, But p H H' → (∀ b ∈ ws, H b = none) → Fore K H' p fa pv pw us ws n e k m (fun _ => False) (fun _ => 0) → Q .non H'
abbrev NForeI : List Str := ["self", "field", "moves", "name"]
theorem sc_Foresight_init : FnScope NForeI ["self", "field", "moves"] (defScope s_Foresight_init) := ⟨rfl, rfl, rfl, by decide +kernel, rfl, by decide +kernel, by decide +kernel⟩
theorem ok_Foresight_init (T : Txt K mg) : InitOk P w K mg base 2 "Foresight" ["self", "field", "moves"] (spForeI K) := by
  refine init_ok (F_Foresight_init T) sc_Foresight_init (fun _ _ _ _ _ _ us hl => match us, hl with | [_, _, _], _ => rfl) (fun vs H Q E h => by obtain ⟨c, e, _, _, _, _, _, rfl, _⟩ := h; rfl) fun f cdv A outer s H vs Q E hr h => ?_
  obtain ⟨p, dx, fa, n, e, k, m, rfl, hp, dm, hF, h⟩ := h
  refine ⟨_, pss_cons (ps_fldN (pv 0) (pv 1) rfl) (pss_cons (ps_fldN (pv 0) (pv 2) rfl)
    (pss_cons (ps_fldN (pv 0) (pe_lc (own := [("name", 3)]) (g := gName 3) (tt := tYes) (by rfl) sc_Foresight_init.nd (pi_range1 (by rfl) T.b_range (pa_cons (pe_len T.b_len (pa_cons (pe_fld (pv 1) rfl) pa_nil)) pa_nil)) (blkOk_by (N := NForeI) (sc := defScope s_Foresight_init) (own := [("name", 3)]) (by decide +kernel))
      (fun _ _ _ _ _ => pg_name (i := 3) sc_Foresight_init.nd rfl (Or.inl rfl)) (fun _ _ _ _ _ => pts_nil) (fun _ _ _ _ _ => pe_md (He.ga K "Field") (ok_views_in T) T.cl_Field hr (pv 1) (pa_cons (pv 3) pa_nil))) rfl)
    (pss_one (ps_fldN (pv 0) (pe_lc (own := [("name", 3)]) (g := gName 3) (tt := tYes) (by rfl) sc_Foresight_init.nd (pi_list (pe_fld (pv 1) rfl)) (blkOk_by (N := NForeI) (sc := defScope s_Foresight_init) (own := [("name", 3)]) (by decide +kernel))
      (fun _ _ _ _ _ => pg_name (i := 3) sc_Foresight_init.nd rfl (Or.inl rfl)) (fun _ _ _ _ _ => pts_nil) (fun _ _ _ _ _ => pe_dnewT)) rfl)))), ?_⟩
  have C := T.cl_Foresight
  have nlen := (names_len dm.n3 dm.n7 dm.k3 (n := n) (k := k)).1
  refine ⟨_, rfl, _, rfl, p, _, dx, _, [("field", .ref fa)], rfl, hp, C, T.n_Foresight_field, by decide, rfl, ?_⟩
  refine ⟨_, rfl, _, rfl, p, _, dx, _, [("field", .ref fa), ("moves", .int m)], rfl, upd_same, C, T.n_Foresight_moves, by show 1 < 1000; decide, rfl, ?_⟩
  rw [upd_upd]
  have b1 : But p H (upd H p (.ins (He.ga K "Foresight") dx [("field", .ref fa), ("moves", .int m)])) := But.upd But.refl
  have p1 : upd H p (.ins (He.ga K "Foresight") dx [("field", .ref fa), ("moves", .int m)]) p = some (.ins (He.ga K "Foresight") dx [("field", .ref fa), ("moves", .int m)]) := upd_same
  generalize upd H p (.ins (He.ga K "Foresight") dx [("field", .ref fa), ("moves", .int m)]) = H1 at b1 p1
  obtain ⟨dy, pn, pq, ps, pz, pe, pm, ha, fp⟩ := hF H1 b1
  obtain ⟨as, n1, n2⟩ := fp.names
  have al : as.length = (namesM n k).length := Paired.len' n2
  refine ⟨_, rfl, fa, _, dy, _, _, rfl, ha, T.cl_Field, T.n_Field_names, rfl, pn, _, rfl, .inl (SqL.of n1), ?_⟩
  rw [List.length_map, al]
  refine ⟨_, rfl, by omega, by omega, fun D hD => ?_⟩
  rw [Int.toNat_natCast]
  refine lc_range (lo := 0) (n := (namesM n k).length) (fun i H' => ∃ bs, Same H1 H' ∧ H' D = some (.lst (bs.map V.ref)) ∧ RowN D H' bs ((hadM n e k).take i)) ⟨[], Same.new (Same.refl H1) hD, upd_same, .nil⟩ (fun i H2 hi ⟨bs, s2, h2, t2⟩ => ?_) fun H2 ⟨bs, s2, h2, t2⟩ => ?_
  · obtain ⟨l, hl⟩ : ∃ l, (namesM n k)[i]? = some l := ⟨_, List.getElem?_eq_getElem hi⟩
    have hv : (hadM n e k)[i]? = some (viewsIn n e k (sightsM l (e : Int))) := by
      unfold hadM
      rw [List.getElem?_map, hl]
      rfl
    refine ⟨rfl, yesT ⟨_, rfl, fa, dy, _, rfl, s2 _ _ ha, rfl, _, rfl, fa, n, e, k, i, _, by rw [Int.zero_add]; rfl, dm, hF H2 (b1.same s2), all_at hl, fun H3 q s3 hq q3 => ?_⟩⟩
    have h3 := s3 _ _ h2
    have qD : q ≠ D := fun z => by rw [z, h2] at hq; cases hq
    refine ⟨_, h3, ?_, bs ++ [q], Same.at_ (Same.trans s2 s3) hD, by rw [List.map_append]; exact upd_same, ?_⟩
    · rw [List.length_map, Paired.len' t2, List.length_take]
      exact Nat.lt_of_le_of_lt (show _ ≤ 64 by omega) (by decide)
    · rw [take_snoc hv]
      exact Paired.app' (RowN.upd (RowN.same s3 t2)) (Paired.one ⟨qD, by rw [upd_ne qD]; exact q3⟩)
  rw [show (namesM n k).length = (hadM n e k).length by unfold hadM; rw [List.length_map], List.take_length] at t2
  have p2 := s2 _ _ p1
  have b2 := b1.same s2
  have r2 : Rows H2 bs (hadM n e k) := Paired.imp' (fun _ _ z => z.2) t2
  clear t2 s2 hD b1
  refine ⟨_, rfl, p, _, dx, _, [("field", .ref fa), ("moves", .int m), ("views_had", .ref D)], rfl, p2, C, T.n_Foresight_views_had, by show 2 < 1000; decide, rfl, ?_⟩
  generalize hf : HO.ins (He.ga K "Foresight") dx [("field", .ref fa), ("moves", .int m), ("views_had", .ref D)] = o2
  have b3 := But.upd (o := o2) b2
  have h3 := upd_other (o := o2) p2 h2 (fun z => nomatch z)
  have r3 : Rows (upd H2 p o2) bs (hadM n e k) := Rows.updN p2 (fun _ z => nomatch z) r2
  have p3 : upd H2 p o2 p = some o2 := upd_same
  generalize upd H2 p o2 = H3 at b3 h3 r3 p3
  subst hf
  clear p1 p2 b2 r2 h2 ha fp n1 n2 al
  obtain ⟨dy, pn, pq, ps, pz, pe, pm, ha, fp⟩ := hF H3 b3
  obtain ⟨as, n1, n2⟩ := fp.names
  have al : as.length = (namesM n k).length := Paired.len' n2
  refine ⟨_, rfl, fa, _, dy, _, _, rfl, ha, T.cl_Field, T.n_Field_names, rfl, pn, rfl, ⟨_, SqL.of n1⟩, fun E hE => ?_⟩
  refine lc_list (K := K) (a := pn) (xs := as.map V.ref) (fun i H' => ∃ ws, Same H3 H' ∧ H' E = some (.lst (ws.map V.ref)) ∧ ws.length = i ∧ ws.Nodup ∧ ∀ b ∈ ws, H3 b = none ∧ b ≠ E ∧ H' b = some (.dT [])) ⟨[], Same.new (Same.refl H3) hE, upd_same, rfl, List.nodup_nil, fun _ z => nomatch z⟩ (fun i H1 _ ⟨_, s1, _⟩ => SqL.of (s1 _ _ n1)) (fun i x H4 hx ⟨ws, s4, e4, l4, nd4, w4⟩ => ?_) fun H4 ⟨ws, s4, e4, l4, nd4, w4⟩ => ?_
  · have hil := (List.getElem?_eq_some_iff.mp hx).1
    rw [List.length_map, al] at hil
    refine ⟨rfl, yesT fun q hq => ?_⟩
    have qE : q ≠ E := fun z => by rw [z, e4] at hq; cases hq
    have s5 : Same H4 (upd H4 q (.dT [])) := Same.new (Same.refl H4) hq
    refine ⟨_, s5 _ _ e4, ?_, ws ++ [q], Same.at_ (Same.trans s4 s5) hE, by rw [List.map_append]; exact upd_same, by rw [List.length_append, l4]; rfl, ?_, fun b hb => ?_⟩
    · rw [List.length_map, l4]
      exact Nat.lt_of_le_of_lt (show _ ≤ 64 by omega) (by decide)
    · rw [List.nodup_append]
      refine ⟨nd4, List.nodup_cons.mpr ⟨(fun z => nomatch z), List.nodup_nil⟩, fun x hx y hy => ?_⟩
      rw [List.mem_singleton.mp hy]
      intro z
      subst z
      have := (w4 x hx).2.2
      rw [hq] at this
      cases this
    · rcases List.mem_append.mp hb with hb | hb
      · obtain ⟨z1, z2, z3⟩ := w4 b hb
        exact ⟨z1, z2, by rw [upd_ne z2]; exact s5 _ _ z3⟩
      · rw [List.mem_singleton.mp hb]
        exact ⟨Same.none s4 hq, qE, by rw [upd_ne qE]; exact upd_same⟩
  rw [List.length_map, al] at l4
  have p4 := s4 _ _ p3
  have b4 := b3.same s4
  have r4 := Rows.same s4 r3
  have h4 := s4 _ _ h3
  refine ⟨_, rfl, p, _, dx, _, foreF fa m D E, rfl, p4, C, T.n_Foresight_foreseen, by show 3 < 1000; decide, rfl, ?_⟩
  generalize hf : HO.ins (He.ga K "Foresight") dx (foreF fa m D E) = o4
  have b5 := But.upd (o := o4) b4
  have h5 := upd_other (o := o4) p4 h4 (fun z => nomatch z)
  have e5 := upd_other (o := o4) p4 e4 (fun z => nomatch z)
  have r5 : Rows (upd H4 p o4) bs (hadM n e k) := Rows.updN p4 (fun _ z => nomatch z) r4
  have w5 : ∀ b ∈ ws, upd H4 p o4 b = some (.dT []) := fun b hb => upd_other p4 (w4 b hb).2.2 (fun z => nomatch z)
  have p5 : upd H4 p o4 p = some o4 := upd_same
  have wH : ∀ b ∈ ws, H b = none := fun b hb => by
    cases hc : H b with
    | none => rfl
    | some u =>
      by_cases bp : b = p
      · have := w5 b hb
        rw [bp, p5, ← hf] at this
        cases this
      · have h1 := b3 _ _ hc bp
        rw [(w4 b hb).1] at h1
        cases h1
  generalize upd H4 p o4 = H5 at b5 h5 e5 r5 w5 p5
  subst hf
  have out : ∀ {x : Addr} {o : HO}, H5 x = some o → (∀ kvs, o ≠ .dT kvs) → x ∉ ws := fun hx hn z => by
    rw [w5 _ z] at hx
    exact hn _ (Option.some.inj hx).symm
  refine h H5 D E bs ws b5 wH ⟨fun H' b => ⟨⟨dx, b _ _ p5 (out p5 (fun _ z => nomatch z))⟩, hF H' (fun c o hc hcp => b _ _ (b5 c o hc hcp) (fun z => by rw [wH c z] at hc; cases hc)), b _ _ h5 (out h5 (fun _ z => nomatch z)), Paired.imp' (fun x l z => ?_) r5, b _ _ e5 (out e5 (fun _ z => nomatch z))⟩, l4, nd4, fun i wd l hwd hl => ⟨[], w5 _ (List.mem_of_getElem? hwd), Nat.le_refl _, (fun key v hv => nomatch hv)⟩⟩
  exact b _ _ z (out z (fun _ y => nomatch y))
end
end RG
namespace RG
open PySem PySem.Spec PyProof.Rows L2
theorem keys_from {n k E : Nat} {m : Int} : ∀ {W : List NKey} {o : List Nat} {j : Nat}, j ∈ W.foldl (keyStep n k E m) o → j ∈ o ∨ ∃ y ∈ W, j = numM n k y.2
  | [], o, j, h => .inl h
  | y :: W, o, j, h => by
    rw [List.foldl_cons] at h
    rcases keys_from h with h | ⟨z, hz, e⟩
    · unfold keyStep at h
      split at h
      · rcases addK_mem.mp h with h | h
        · exact .inl h
        · exact .inr ⟨y, List.mem_cons_self, h⟩
      · exact .inl h
    · exact .inr ⟨z, List.mem_cons_of_mem _ hz, e⟩
theorem ahead_lt {n e k : Nat} (D : Dims n e k) {R l : List Int} {m : Int} (hl : l ∈ namesM n k) {j : Nat} (h : j ∈ aheadL n e k R m l) : j < (namesM n k).length := by
  unfold aheadL aheadKeys at h
  have h := (sortN_perm _).mem_iff.mp h
  rcases keys_from h with h | ⟨y, hy, rfl⟩
  · cases h
  · exact (num_at D.n3 D.n7 D.k1 D.k3 (ways_ring (dm_ring D hl) (by have := D.n3; omega) hy)).2
theorem ahead_len {n e k : Nat} (D : Dims n e k) {R l : List Int} {m : Int} (hl : l ∈ namesM n k) : (aheadL n e k R m l).length ≤ 27 := by
  unfold aheadL aheadKeys
  rw [(sortN_perm _).length_eq]
  have h1 := foldKS_len n k (eagL n e k R l).length m (waysM l (eagL n e k R l)) []
  obtain ⟨e1, e2, _⟩ := eager_ok (e : Int) (tellM n e k R) (dm_ring D hl) (by have := D.n3; omega)
  have h2 := waysM_few l _ (eagL n e k R l) rfl fun x hx => (e2 x hx).2.1
  have h3 : 3 ^ (eagL n e k R l).length ≤ 3 ^ 3 := Nat.pow_le_pow_right (by decide) (Nat.le_trans e1 D.k3)
  simp only [List.length_nil] at h1
  omega
theorem graph_len (n e k : Nat) (R : List Int) (m : Int) : (graphL n e k R m).length = (namesM n k).length := List.length_map ..
theorem graph_row {n e k : Nat} {R : List Int} {m : Int} {i : Nat} {l : List Int} (h : (namesM n k)[i]? = some l) : gNx (graphL n e k R m) i = aheadL n e k R m l := by
  refine gnx_at ?_
  unfold graphL
  rw [List.getElem?_map, h]
  rfl
theorem graph_into {n e k : Nat} (D : Dims n e k) {R : List Int} {m : Int} : ∀ i, ∀ j ∈ gNx (graphL n e k R m) i, j < (graphL n e k R m).length := by
  intro i j hj
  rw [graph_len]
  cases hl : (namesM n k)[i]? with
  | none =>
    have : (graphL n e k R m)[i]? = none := by
      unfold graphL
      rw [List.getElem?_map, hl]
      rfl
    unfold gNx at hj
    rw [List.getD_eq_getElem?_getD, this] at hj
    cases hj
  | some l =>
    rw [graph_row hl] at hj
    exact ahead_lt D (List.mem_of_getElem? hl) hj
theorem graph_few {n e k : Nat} (D : Dims n e k) {R : List Int} {m : Int} : ∀ l ∈ graphL n e k R m, l.length ≤ 64 := by
  intro l hl
  unfold graphL at hl
  obtain ⟨nm, hn, rfl⟩ := List.mem_map.mp hl
  have := ahead_len (e := e) (R := R) (m := m) D hn
  omega
abbrev restG (n e k : Nat) (R : List Int) (m : Int) : List Bool := restsL (namesM n k) (graphL n e k R m)
theorem graph_ok {n e k : Nat} (D : Dims n e k) {R : List Int} {m : Int} : GrOk (graphL n e k R m) (restG n e k R m) := rests_ok (graph_len ..).symm (graph_into D)
/-! ### the names that gather surely -/
open Classical in
noncomputable def sureSet (g : Gr) (rs : List Bool) : List Nat := (List.range g.length).filter fun i => decide (∃ t, SureIn (gNx g) (gRs rs) t i = true)
open Classical in
theorem sure_set {g : Gr} {rs : List Bool} {ms : List (Option Nat)} (M : MostOf g rs ms) : sureIx ms = sureSet g rs := by
  unfold sureIx sureSet
  rw [M.1]
  refine List.filter_congr fun i hi => ?_
  have hi := List.mem_range.mp hi
  have ho : ms[i]? = some (ms.getD i none) := by
    rw [List.getD_eq_getElem?_getD, List.getElem?_eq_getElem (by rw [M.1]; exact hi)]
    rfl
  have L := M.2 i _ ho
  cases c : ms.getD i none with
  | none =>
    rw [c] at L
    symm
    show decide _ = false
    refine decide_eq_false ?_
    rintro ⟨t, ht⟩
    have : SureIn (gNx g) (gRs rs) t i = false := L t
    rw [ht] at this
    cases this
  | some m =>
    rw [c] at L
    symm
    exact decide_eq_true ⟨m, L.1⟩
noncomputable def surM (n e k : Nat) (m : Int) (R : List Int) : List Nat := sureSet (graphL n e k R m) (restG n e k R m)
/-! ### the trials -/
def bumpT (s : List Nat) (t : TrialD) : TrialD := if t.sure = s then { t with rules := t.rules + 1 } else t
def trialStep (S : List Int → List Nat) (ts : List TrialD) (R : List Int) : List TrialD :=
  if S R ∈ ts.map (·.sure) then ts.map (bumpT (S R)) else ts ++ [⟨S R, R, 1⟩]
noncomputable def trialsM (n e k : Nat) (m : Int) : List TrialD := (rulesM (evensM n e k)).foldl (trialStep (surM n e k m)) []
theorem step_sures (S : List Int → List Nat) (ts : List TrialD) (R : List Int) : (trialStep S ts R).map (·.sure) = if S R ∈ ts.map (·.sure) then ts.map (·.sure) else ts.map (·.sure) ++ [S R] := by
  unfold trialStep
  by_cases c : S R ∈ ts.map (·.sure)
  · rw [if_pos c, if_pos c, List.map_map]
    refine List.map_congr_left fun t _ => ?_
    show (bumpT (S R) t).sure = t.sure
    unfold bumpT
    split <;> rfl
  · rw [if_neg c, if_neg c, List.map_append]
    rfl
theorem step_tlen (S : List Int → List Nat) (ts : List TrialD) (R : List Int) : (trialStep S ts R).length ≤ ts.length + 1 := by
  unfold trialStep
  split
  · rw [List.length_map]
    omega
  · rw [List.length_append]
    exact Nat.le_refl _
end RG
namespace RG
open PySem PySem.Spec PyProof.Rows L2
abbrev TrL : Type := List (TrialD × Addr)
def kvsOf (L : TrL) : List (List Key × V) := L.map fun x => (kk (iN x.1.sure), V.ref x.2)
theorem kkN_inj {s t : List Nat} (h : kk (iN s) = kk (iN t)) : s = t := by
  have := congrArg (List.map Int.toNat) (kk_inj h)
  unfold iN at this
  rw [List.map_map, List.map_map] at this
  have e : (Int.toNat ∘ fun (q : Nat) => (q : Int)) = id := by
    funext q
    exact Int.toNat_natCast q
  rw [e, List.map_id, List.map_id] at this
  exact this
theorem kkN_kV (s : List Nat) : (kk (iN s)).map kV = vN s := by rw [kk_kV, vN_vI]
theorem valV_kvs (s : List Nat) : ∀ L : TrL, valV (kvsOf L) (kk (iN s)) = (L.find? fun x => decide (x.1.sure = s)).map fun x => V.ref x.2
  | [] => rfl
  | x :: L => by
    have ih := valV_kvs s L
    unfold kvsOf at ih ⊢
    rw [List.map_cons, List.find?_cons]
    by_cases c : x.1.sure = s
    · rw [decide_eq_true c, valV_pos (by rw [c])]
      rfl
    · rw [decide_eq_false c, valV_neg (fun z => c (kkN_inj z)), ih]
structure Trs (K : PySem.W.Frag) (H : Hp) (d : Addr) (L : TrL) : Prop where
  at_ : H d = some (.dT (kvsOf L))
  each : ∀ x ∈ L, TrialAt K H x.2 x.1
  nds : (L.map (·.1.sure)).Nodup
  nda : (L.map (·.2)).Nodup
theorem Trs.same {K : PySem.W.Frag} {H H' : Hp} {d : Addr} {L : TrL} (s : Same H H') (h : Trs K H d L) : Trs K H' d L := ⟨s _ _ h.at_, fun x hx => (h.each x hx).same s, h.nds, h.nda⟩
def bumpL (s : List Nat) (L : TrL) : TrL := L.map fun x => (bumpT s x.1, x.2)
theorem bump_sure (s : List Nat) (t : TrialD) : (bumpT s t).sure = t.sure := by
  unfold bumpT
  split <;> rfl
theorem bump_kvs (s : List Nat) (L : TrL) : kvsOf (bumpL s L) = kvsOf L := by
  unfold kvsOf bumpL
  rw [List.map_map]
  refine List.map_congr_left fun x _ => ?_
  show (kk (iN (bumpT s x.1).sure), V.ref x.2) = _
  rw [bump_sure]
theorem bump_fst (s : List Nat) (L : TrL) : (bumpL s L).map (·.1) = (L.map (·.1)).map (bumpT s) := by
  unfold bumpL
  rw [List.map_map, List.map_map]
  rfl
/-- with one more, if there is none such -/
def withT (s : List Nat) (R : List Int) (ts : List TrialD) : List TrialD := if s ∈ ts.map (·.sure) then ts else ts ++ [⟨s, R, 0⟩]
theorem bump_none (s : List Nat) : ∀ {ts : List TrialD}, s ∉ ts.map (·.sure) → ts.map (bumpT s) = ts
  | [], _ => rfl
  | t :: ts, h => by
    rw [List.map_cons] at h ⊢
    rw [bump_none s fun z => h (List.mem_cons_of_mem _ z)]
    unfold bumpT
    rw [if_neg fun z => h (by rw [z]; exact List.mem_cons_self)]
theorem step_eq (S : List Int → List Nat) (ts : List TrialD) (R : List Int) : trialStep S ts R = (withT (S R) R ts).map (bumpT (S R)) := by
  unfold trialStep withT
  by_cases c : S R ∈ ts.map (·.sure)
  · rw [if_pos c, if_pos c]
  · rw [if_neg c, if_neg c, List.map_append, bump_none _ c]
    unfold bumpT
    rw [List.map_singleton, if_pos rfl]
theorem find_mem {s : List Nat} {L : TrL} (h : s ∈ L.map (·.1.sure)) : ∃ x ∈ L, x.1.sure = s ∧ L.find? (fun x => decide (x.1.sure = s)) = some x := by
  cases hf : L.find? fun x => decide (x.1.sure = s) with
  | none =>
    obtain ⟨x, hx, e⟩ := List.mem_map.mp h
    have := List.find?_eq_none.mp hf x hx
    simp [e] at this
  | some x => exact ⟨x, List.mem_of_find?_eq_some hf, by simpa using List.find?_some hf, rfl⟩
theorem find_not {s : List Nat} {L : TrL} (h : s ∉ L.map (·.1.sure)) : L.find? (fun x => decide (x.1.sure = s)) = none := by
  rw [List.find?_eq_none]
  intro x hx
  have : x.1.sure ≠ s := fun z => h (z ▸ List.mem_map.mpr ⟨x, hx, rfl⟩)
  simpa using this
theorem put_new {kvs : List (List Key × V)} {k : List Key} {v : V} (h : valV kvs k = none) : putK kvs k v = kvs ++ [(k, v)] := by
  unfold putK
  rw [if_neg]
  rw [valV_any, h]
  decide
/-- the object of one is written anew -/
theorem Trs.bump {K : PySem.W.Frag} {H : Hp} {d : Addr} {L : TrL} {s : List Nat} {x : TrialD × Addr} (h : Trs K H d L) (hx : x ∈ L) (hs : x.1.sure = s) {dx ps pf : Addr}
    (ho : H x.2 = some (.ins (He.ga K "Trial") dx (trialF ps pf x.1.rules))) (hps : H ps = some (.tup (vN x.1.sure))) (hpf : H pf = some (.tup (vI x.1.first))) :
    Trs K (upd H x.2 (.ins (He.ga K "Trial") dx (trialF ps pf (x.1.rules + 1)))) d (bumpL s L) := by
  refine ⟨by rw [bump_kvs]; exact upd_other ho h.at_ (fun z => nomatch z), fun y hy => ?_, ?_, ?_⟩
  · unfold bumpL at hy
    obtain ⟨z, hz, rfl⟩ := List.mem_map.mp hy
    by_cases c : z.1.sure = s
    · have e : z = x := by
        obtain ⟨i, hi, ei⟩ := List.mem_iff_getElem.mp hz
        obtain ⟨j, hj, ej⟩ := List.mem_iff_getElem.mp hx
        have hij : i = j := by
          refine (List.getElem_inj (h₀ := by rw [List.length_map]; exact hi) (h₁ := by rw [List.length_map]; exact hj) h.nds).mp ?_
          rw [List.getElem_map, List.getElem_map, ei, ej, c, hs]
        subst hij
        rw [← ei, ← ej]
      subst e
      refine ⟨dx, ps, pf, ?_, ?_, ?_⟩
      · show upd H z.2 _ z.2 = _
        rw [upd_same]
        unfold bumpT
        rw [if_pos hs]
      · show upd H z.2 _ ps = some (.tup (vN (bumpT s z.1).sure))
        rw [bump_sure]
        exact upd_other ho hps (fun z => nomatch z)
      · have e : (bumpT s z.1).first = z.1.first := by
          unfold bumpT
          split <;> rfl
        show upd H z.2 _ pf = some (.tup (vI (bumpT s z.1).first))
        rw [e]
        exact upd_other ho hpf (fun z => nomatch z)
    · have e : bumpT s z.1 = z.1 := by
        unfold bumpT
        rw [if_neg c]
      show TrialAt K _ z.2 (bumpT s z.1)
      rw [e]
      have hne : z.2 ≠ x.2 := fun w => by
        obtain ⟨i, hi, ei⟩ := List.mem_iff_getElem.mp hz
        obtain ⟨j, hj, ej⟩ := List.mem_iff_getElem.mp hx
        have hij : i = j := by
          refine (List.getElem_inj (h₀ := by rw [List.length_map]; exact hi) (h₁ := by rw [List.length_map]; exact hj) h.nda).mp ?_
          rw [List.getElem_map, List.getElem_map, ei, ej, w]
        subst hij
        rw [ei] at ej
        rw [ej] at c
        exact c hs
      obtain ⟨dz, qs, qf, h1, h2, h3⟩ := h.each z hz
      exact ⟨dz, qs, qf, by rw [upd_ne hne]; exact h1, upd_other ho h2 (fun z => nomatch z), upd_other ho h3 (fun z => nomatch z)⟩
  · unfold bumpL
    rw [List.map_map]
    have e : (L.map ((fun x : TrialD × Addr => x.1.sure) ∘ fun x => (bumpT s x.1, x.2))) = L.map (·.1.sure) := List.map_congr_left fun x _ => bump_sure s x.1
    rw [e]
    exact h.nds
  · unfold bumpL
    rw [List.map_map]
    exact h.nda
end RG
namespace RG
open PySem PySem.Spec PyProof.Rows L2
section
variable {P : Program} {w : World} {K : PySem.W.Frag} {mg : Str → Option Value} {base : Heap}
abbrev TrialsL (K : PySem.W.Frag) (H : Hp) : List Addr → List TrialD → Prop := Paired fun a t => TrialAt K H a t
def spTrials (K : PySem.W.Frag) : Sp := fun vs H Q _ => ∃ (fa : Addr) (n e k : Nat) (m : Int), vs = [.ref fa, .int m] ∧ Dims n e k ∧ FieldAt K H fa n e k ∧ prodN (evensM n e k) ≤ 6000 ∧
  ∀ H' p as, Same H H' → H p = none → H' p = some (.lst (as.map V.ref)) → TrialsL K H' as (trialsM n e k m) → Q (.ref p) H'
abbrev NTrials : List Str := ["field", "moves", "foresight", "trials", "rule", "sure"]
theorem sc_trials_of : FnScope NTrials ["field", "moves"] (defScope s_trials_of) := ⟨rfl, rfl, rfl, by decide +kernel, rfl, by decide +kernel, by decide +kernel⟩
/-- what stands while the rules are tried -/
structure TryI (K : PySem.W.Frag) (HB H' : Hp) (fa fo pv pw TD RL : Addr) (us ws rs : List Addr) (n e k : Nat) (m : Int) (c : Nat) (L : TrL) : Prop where
  bD : ButD ws HB H'
  fore : Fore K H' fo fa pv pw us ws n e k m (fun _ => False) (fun _ => c)
  trs : Trs K H' TD L
  newT : HB TD = none
  outT : TD ∉ ws
  news : ∀ x ∈ L, HB x.2 = none
  rl : H' RL = some (.lst (rs.map V.ref))
  tp : Tups H' rs (rulesM (evensM n e k))
theorem TryI.out {HB H' : Hp} {fa fo pv pw TD RL : Addr} {us ws rs : List Addr} {n e k : Nat} {m : Int} {c : Nat} {L : TrL} (I : TryI K HB H' fa fo pv pw TD RL us ws rs n e k m c L) {x : Addr} {o : HO} (hx : H' x = some o) (hn : ∀ kvs, o ≠ .dT kvs) : x ∉ ws := fun z => by
  obtain ⟨kvs, hk⟩ := I.fore.isD z
  rw [hk] at hx
  exact hn _ (Option.some.inj hx).symm
theorem TryI.same {HB H' H2 : Hp} {fa fo pv pw TD RL : Addr} {us ws rs : List Addr} {n e k : Nat} {m : Int} {c : Nat} {L : TrL} (I : TryI K HB H' fa fo pv pw TD RL us ws rs n e k m c L) (s : Same H' H2) : TryI K HB H2 fa fo pv pw TD RL us ws rs n e k m c L :=
  ⟨ButD.trans I.bD (ButD.of s), I.fore.same s, I.trs.same s, I.newT, I.outT, I.news, s _ _ I.rl, Tups.same s I.tp⟩
/-- the graph is foreseen -/
theorem TryI.but {HB H' H2 : Hp} {fa fo pv pw TD RL : Addr} {us ws rs : List Addr} {n e k : Nat} {m : Int} {c c' : Nat} {L : TrL} (I : TryI K HB H' fa fo pv pw TD RL us ws rs n e k m c L) (s : ButD ws H' H2) (F : Fore K H2 fo fa pv pw us ws n e k m (fun _ => False) (fun _ => c')) : TryI K HB H2 fa fo pv pw TD RL us ws rs n e k m c' L := by
  refine ⟨ButD.trans I.bD s, F, ⟨s _ _ I.trs.at_ I.outT, fun x hx => ?_, I.trs.nds, I.trs.nda⟩, I.newT, I.outT, I.news, s _ _ I.rl (I.out I.rl (fun _ z => nomatch z)), Paired.imp' (fun x l z => ?_) I.tp⟩
  · obtain ⟨dx, ps, pf, h1, h2, h3⟩ := I.trs.each x hx
    exact ⟨dx, ps, pf, s _ _ h1 (I.out h1 (fun _ z => nomatch z)), s _ _ h2 (I.out h2 (fun _ z => nomatch z)), s _ _ h3 (I.out h3 (fun _ z => nomatch z))⟩
  · exact s _ _ z (I.out z (fun _ y => nomatch y))
theorem TryI.fresh {HB H' : Hp} {fa fo pv pw TD RL : Addr} {us ws rs : List Addr} {n e k : Nat} {m : Int} {c : Nat} {L : TrL} (I : TryI K HB H' fa fo pv pw TD RL us ws rs n e k m c L) {x : Addr} (hx : H' x = none) : HB x = none := by
  cases hc : HB x with
  | none => rfl
  | some o =>
    by_cases hw : x ∈ ws
    · obtain ⟨kvs, hk⟩ := I.fore.isD hw
      rw [hx] at hk
      cases hk
    · have := I.bD _ _ hc hw
      rw [hx] at this
      cases this
/-- a write at the trials' table or at a trial -/
theorem TryI.foreAt {HB H' : Hp} {fa fo pv pw TD RL : Addr} {us ws rs : List Addr} {n e k : Nat} {m : Int} {c : Nat} {L : TrL} {p : Addr} {u o : HO} (F0 : ∀ H'', ButD ws HB H'' → ForeS K H'' fo fa pv pw us ws n e k m) (I : TryI K HB H' fa fo pv pw TD RL us ws rs n e k m c L) (hp : H' p = some u) (hl : ∀ xs, u ≠ .lst xs) (hw : p ∉ ws) (h0 : HB p = none) :
    Fore K (upd H' p o) fo fa pv pw us ws n e k m (fun _ => False) (fun _ => c) :=
  ⟨fun H2 b => F0 H2 (ButD.trans (ButD.at_ I.bD (.inl h0)) b), I.fore.len, I.fore.nd, fun i wd l h1 h2 => (I.fore.dicts i wd l h1 h2).upd hp (fun z => hw (z ▸ List.mem_of_getElem? h1)) (.inr hl)⟩
theorem paired_of {α β : Type} {R : β → α → Prop} : ∀ L : List (α × β), (∀ x ∈ L, R x.2 x.1) → Paired R (L.map (·.2)) (L.map (·.1))
  | [], _ => .nil
  | x :: L, h => .cons (h x List.mem_cons_self) (paired_of L fun y hy => h y (List.mem_cons_of_mem _ hy))
theorem TryI.bump {HB H' : Hp} {fa fo pv pw TD RL : Addr} {us ws rs : List Addr} {n e k : Nat} {m : Int} {c : Nat} {L : TrL} (F0 : ∀ H'', ButD ws HB H'' → ForeS K H'' fo fa pv pw us ws n e k m) (I : TryI K HB H' fa fo pv pw TD RL us ws rs n e k m c L) {S : List Nat} {x : TrialD × Addr} (hx : x ∈ L) (hs : x.1.sure = S) {dx ps pf : Addr}
    (ho : H' x.2 = some (.ins (He.ga K "Trial") dx (trialF ps pf x.1.rules))) (hps : H' ps = some (.tup (vN x.1.sure))) (hpf : H' pf = some (.tup (vI x.1.first))) :
    TryI K HB (upd H' x.2 (.ins (He.ga K "Trial") dx (trialF ps pf (x.1.rules + 1)))) fa fo pv pw TD RL us ws rs n e k m c (bumpL S L) := by
  have h0 := I.news x hx
  refine ⟨ButD.at_ I.bD (.inl h0), I.foreAt F0 ho (fun _ z => nomatch z) (I.out ho (fun _ z => nomatch z)) h0, I.trs.bump hx hs ho hps hpf, I.newT, I.outT, fun y hy => ?_, upd_other ho I.rl (fun z => nomatch z), Tups.updN ho (fun _ z => nomatch z) I.tp⟩
  unfold bumpL at hy
  obtain ⟨z, hz, rfl⟩ := List.mem_map.mp hy
  exact I.news z hz
theorem bump_read (T : Txt K mg) {HB H' : Hp} {fa fo pv pw TD RL t : Addr} {us ws rs : List Addr} {n e k : Nat} {m : Int} {c : Nat} {L : TrL} {S : List Nat} {D : Ends} {σ : L2.St} (h3 : σ[3]? = some (some (.ref TD))) (h5 : σ[5]? = some (some (.ref t)))
    (F0 : ∀ H'', ButD ws HB H'' → ForeS K H'' fo fa pv pw us ws n e k m) (I : TryI K HB H' fa fo pv pw TD RL us ws rs n e k m c L) (ht : H' t = some (.tup (vN S))) (hS : S ∈ L.map (·.1.sure))
    (h : ∀ H2, TryI K HB H2 fa fo pv pw TD RL us ws rs n e k m c (bumpL S L) → D.nx σ H2) : sFldAug K (tDGet (tVar 3) (tVar 5)) (tC (.int 1)) rAdd "rules" D σ H' := by
  obtain ⟨x, hx, hs, hf⟩ := find_mem hS
  obtain ⟨dx, ps, pf, h1, h2, h4⟩ := I.trs.each x hx
  have gt := DGet.t (k := kk (iN S)) I.trs.at_ (by rw [kkN_kV]; exact ht)
  rw [valV_kvs, hf] at gt
  refine ⟨_, h3, _, h5, TD, .ref x.2, rfl, gt, x.2, _, dx, _, _, rfl, h1, T.cl_Trial, T.n_Trial_rules, rfl, _, _, rfl, rfl, dx, _, h1, by show 3 < 1000; decide, h _ ?_⟩
  exact I.bump F0 hx hs h1 h2 h4
theorem ok_trials_of (T : Txt K mg) : DefOk P w K mg base 6 "trials_of" ["field", "moves"] (spTrials K) := by
  refine def_ok (F_trials_of T) sc_trials_of (fun _ _ _ _ _ _ us hl => match us, hl with | [_, _], _ => rfl) (fun vs H Q E h => by obtain ⟨c, e, _, _, _, rfl, _⟩ := h; rfl) fun f cdv A outer s H vs Q E hr h => ?_
  obtain ⟨fa, n, e, k, m, rfl, dm, hF, hN, h⟩ := h
  refine ⟨_, pss_cons (ps_set (i := 2) sc_trials_of.nd rfl (Or.inl rfl) (pe_mk (He.ga K "Foresight") (ok_Foresight_init T) (hr.mono (by decide)) T.g_Foresight (pa_cons (pv 0) (pa_cons (pv 1) pa_nil))))
    (pss_cons (ps_set (i := 3) sc_trials_of.nd rfl (Or.inl rfl) pe_dnewT)
    (pss_cons (ps_for PassesOwn.never rfl (pi_list (pe_cd (ok_rules_of T) (hr.mono (by decide)) (pa_cons (pv 0) pa_nil))) (pg_name (i := 4) sc_trials_of.nd rfl (Or.inl rfl))
      (pss_cons (ps_set (i := 5) sc_trials_of.nd rfl (Or.inl rfl) (pe_callTy call_tuple_of (by rfl) T.b_tuple (by decide +kernel) (pa_cons (pe_cd (ok_sure_names T) (hr.mono (by decide)) (pa_cons (pe_fld (pv 0) rfl) (pa_cons (pe_md (He.ga K "Foresight") (ok_graph_foreseen T) T.cl_Foresight hr (pv 2) (pa_cons (pv 4) pa_nil)) pa_nil))) pa_nil)))
      (pss_cons (ps_if (pt_cmp (pc_dnotin (hu_of hr) (pv 5) (pv 3))) (pss_one (ps_dput (hu_of hr) (pv 3) (pv 5) (pe_mk (He.ga K "Trial") (ok_Trial_init T) (hr.mono (by decide)) T.g_Trial (pa_cons (pv 5) (pa_cons (pv 4) pa_nil))) rfl)) pss_nil)
      (pss_one (ps_fldaug (pe_dget (hu_of hr) (pv 3) (pv 5) (fun _ _ => rfl)) pe_int in_add)))))
    (pss_one (ps_ret (pe_callTy (call_list_valsT (by rfl)) (by rfl) T.b_list (by decide +kernel) (pa_cons (pe_values (pv 3)) pa_nil)))))), ?_⟩
  refine ⟨_, rfl, _, rfl, fun fo dx nx nd ne => ⟨fo, dx, fa, n, e, k, m, rfl, upd_same, dm, fun H' b => ?_, fun H1 pv' pw us ws b1 w1 F1 => ⟨rfl, ?_⟩⟩⟩
  · exact hF.same fun c o hc => b _ _ (by rw [upd_ne (ne_of_none hc nx), upd_ne (ne_of_none hc nd)]; exact hc) (ne_of_none hc nx)
  have s1 : Same H H1 := Same.made nx nd b1
  have wH : ∀ b ∈ ws, H b = none := fun b hb => by
    have := w1 b hb
    by_cases c1 : b = fo
    · rw [c1, upd_same] at this
      cases this
    · rw [upd_ne c1] at this
      by_cases c2 : b = dx
      · rw [c2, upd_same] at this
        cases this
      · rw [upd_ne c2] at this
        exact this
  clear b1 w1
  intro TD hTD
  have s2 : Same H1 (upd H1 TD (.dT [])) := Same.new (Same.refl H1) hTD
  have t2 : upd H1 TD (.dT []) TD = some (.dT []) := upd_same
  generalize upd H1 TD (.dT []) = H2 at s2 t2
  have outT : TD ∉ ws := fun z => by
    obtain ⟨kvs, hk⟩ := F1.isD z
    rw [hTD] at hk
    cases hk
  refine ⟨_, rfl, fa, n, e, k, rfl, dm, (hF.same (Same.trans s1 s2)), hN, fun H3 RL rs s3 hRL r3 t3 => ⟨RL, rfl, ⟨_, SqL.of r3⟩, ?_⟩⟩
  have I3 : TryI K H1 H3 fa fo pv' pw TD RL us ws rs n e k m 0 [] :=
    ⟨ButD.of (Same.trans s2 s3), F1.same (Same.trans s2 s3), ⟨s3 _ _ t2, (fun _ z => nomatch z), List.nodup_nil, List.nodup_nil⟩, hTD, outT, (fun _ z => nomatch z), r3, t3⟩
  have rl6 : (rulesM (evensM n e k)).length ≤ 6000 := by rw [rulesM_len]; exact hN
  have rsl : rs.length = (rulesM (evensM n e k)).length := Paired.len' t3
  clear s3 hRL r3 t2 s2 t3
  refine for_list (K := K) (a := RL) (xs := rs.map V.ref) (fun i σ H' => ∃ L v4 v5, σ = [some (.ref fa), some (.int m), some (.ref fo), some (.ref TD), v4, v5] ∧ TryI K H1 H' fa fo pv' pw TD RL us ws rs n e k m i L ∧ L.length ≤ i ∧ L.map (·.1) = ((rulesM (evensM n e k)).take i).foldl (trialStep (surM n e k m)) [])
    ⟨[], none, none, rfl, I3, Nat.le_refl _, rfl⟩ (fun i σ H' _ ⟨_, _, _, _, I, _⟩ => SqL.of I.rl) ?_ ?_
  · rintro i x σ H4 hx ⟨L, v4, v5, rfl, I4, l4, e4⟩
    obtain ⟨c, hc, rfl⟩ := get_refs hx
    obtain ⟨R, hR, cR⟩ := Paired.left I4.tp hc
    have i6 : i < 6000 := by
      have := (List.getElem?_eq_some_iff.mp hR).1
      omega
    have S4 := I4.fore.st H4 ButD.refl
    obtain ⟨dy, pn, pq, ps, pz, pe, pm, ha, fp⟩ := id S4.field
    obtain ⟨dz, ho⟩ := S4.obj
    have hRl : R.length = (viewsM n e k).length := by rw [rulesM_width (List.mem_of_getElem? hR), evens_len]
    refine ⟨_, rfl, fa, _, dy, _, _, rfl, ha, T.cl_Field, T.n_Field_names, rfl, _, rfl, fo, dz, _, rfl, ho, rfl, _, rfl, fo, c, fa, pv', pw, us, ws, n, e, k, i, m, R, rfl, dm, I4.fore, cR, hRl, by omega, fun H5 gr b5 F5 hgr G5 => ?_⟩
    have I5 := I4.but b5 F5
    have na : NamesAt H4 pn (namesM n k) := fp.names
    have na5 : NamesAt H5 pn (namesM n k) := by
      obtain ⟨as, a1, a2⟩ := na
      refine ⟨as, b5 _ _ a1 (I4.out a1 (fun _ z => nomatch z)), Paired.imp' (fun x l z => ?_) a2⟩
      exact b5 _ _ z (I4.out z (fun _ y => nomatch y))
    obtain ⟨nl64, nl⟩ := names_len dm.n3 dm.n7 dm.k3 (n := n) (k := k)
    refine ⟨pn, gr, namesM n k, graphL n e k R m, rfl, na5, G5, (graph_len ..).symm, by rw [graph_len]; omega, (fun l hl => by rw [nl l hl]; have := dm.n3; omega), graph_into dm, graph_few dm, fun H6 sl ms s6 hsl mo q6 => ?_⟩
    have hS : sureIx ms = surM n e k m R := sure_set mo
    rw [hS] at q6
    refine ⟨sl, _, rfl, .inl ⟨SqL.of q6, fun t ht => ?_⟩⟩
    have c6 : H6 c = some (.tup (vI R)) := s6 _ _ (b5 _ _ cR (I4.out cR (fun _ z => nomatch z)))
    have I6 := I5.same s6
    have s7 : Same H6 (upd H6 t (.tup (vN (surM n e k m R)))) := Same.new (Same.refl H6) ht
    have I7 := I6.same s7
    have t7 : upd H6 t (.tup (vN (surM n e k m R))) t = some (.tup (vN (surM n e k m R))) := upd_same
    have c7 := s7 _ _ c6
    generalize upd H6 t (.tup (vN (surM n e k m R))) = H7 at I7 t7 c7
    clear I6 I5 s7 ht q6 s6 na5 na G5 b5 F5 S4 ha fp ho I4 cR c6
    have gt := DGet.t (k := kk (iN (surM n e k m R))) I7.trs.at_ (by rw [kkN_kV]; exact t7)
    refine ⟨_, rfl, _, rfl, TD, _, rfl, gt, _, rfl, ?_⟩
    rw [valV_kvs]
    have fin : ∀ L8 : TrL, L8.length ≤ i + 1 → L8.map (·.1) = withT (surM n e k m R) R (L.map (·.1)) → (bumpL (surM n e k m R) L8).length ≤ i + 1 ∧ (bumpL (surM n e k m R) L8).map (·.1) = ((rulesM (evensM n e k)).take (i + 1)).foldl (trialStep (surM n e k m)) [] := by
      intro L8 h1 h2
      refine ⟨by unfold bumpL; rw [List.length_map]; exact h1, ?_⟩
      rw [bump_fst, h2, take_snoc hR, fold_snoc, ← e4, step_eq]
    by_cases cs : surM n e k m R ∈ L.map (·.1.sure)
    · obtain ⟨x0, _, _, hf⟩ := find_mem cs
      refine ifFb (by rw [hf]; rfl) (bump_read T rfl rfl F1.st I7 t7 cs fun H9 I9 => ?_)
      obtain ⟨g1, g2⟩ := fin L (by omega) (by
        unfold withT
        rw [if_pos]
        rw [List.map_map]
        exact cs)
      exact ⟨_, _, _, rfl, I9, g1, g2⟩
    · refine ifTb (by rw [find_not cs]; rfl) ?_
      refine ⟨_, rfl, _, rfl, fun x dx nx nd ne => ⟨x, dx, t, c, surM n e k m R, R, rfl, upd_same, ?_, ?_, fun H8 ta b8 => ⟨rfl, ?_⟩⟩⟩
      · rw [upd_ne (ne_of_none t7 nx), upd_ne (ne_of_none t7 nd)]
        exact t7
      · rw [upd_ne (ne_of_none c7 nx), upd_ne (ne_of_none c7 nd)]
        exact c7
      have s8 : Same H7 H8 := Same.made nx nd b8
      have I8 := I7.same s8
      have t8 := s8 _ _ t7
      refine ⟨_, rfl, _, rfl, TD, _, rfl, DPut.t (k := kk (iN (surM n e k m R))) I8.trs.at_ (by rw [kkN_kV]; exact t8) (by
        unfold kvsOf
        rw [List.length_map]
        exact Nat.lt_of_le_of_lt (show _ ≤ 6000 by omega) (by decide)), ?_⟩
      rw [put_new (by rw [valV_kvs, find_not cs]; rfl)]
      have ek : kvsOf L ++ [(kk (iN (surM n e k m R)), V.ref x)] = kvsOf (L ++ [(⟨surM n e k m R, R, 0⟩, x)]) := by
        unfold kvsOf
        rw [List.map_append]
        rfl
      rw [ek]
      have xT : ∀ {y : Addr}, y ∈ L.map (·.2) → y ≠ x := fun hy z => by
        obtain ⟨w, hw, e⟩ := List.mem_map.mp hy
        obtain ⟨dw, _, _, h1, _⟩ := I7.trs.each w hw
        rw [e, z, nx] at h1
        cases h1
      have I9 : TryI K H1 (upd H8 TD (.dT (kvsOf (L ++ [(⟨surM n e k m R, R, 0⟩, x)])))) fa fo pv' pw TD RL us ws rs n e k m (i + 1) (L ++ [(⟨surM n e k m R, R, 0⟩, x)]) := by
        refine ⟨ButD.at_ I8.bD (.inl I8.newT), I8.foreAt F1.st I8.trs.at_ (fun _ z => nomatch z) I8.outT I8.newT, ⟨upd_same, fun y hy => ?_, ?_, ?_⟩, I8.newT, I8.outT, fun y hy => ?_, upd_other I8.trs.at_ I8.rl (fun z => nomatch z), Tups.updN I8.trs.at_ (fun _ z => nomatch z) I8.tp⟩
        · have up : ∀ {a : Addr} {tt : TrialD}, TrialAt K H8 a tt → TrialAt K (upd H8 TD (.dT (kvsOf (L ++ [(⟨surM n e k m R, R, 0⟩, x)])))) a tt := fun ⟨d1, p1, p2, h1, h2, h3⟩ =>
            ⟨d1, p1, p2, upd_other I8.trs.at_ h1 (fun z => nomatch z), upd_other I8.trs.at_ h2 (fun z => nomatch z), upd_other I8.trs.at_ h3 (fun z => nomatch z)⟩
          rcases List.mem_append.mp hy with hy | hy
          · exact up (I8.trs.each y hy)
          · rw [List.mem_singleton.mp hy]
            exact up ta
        · rw [List.map_append, List.nodup_append]
          refine ⟨I8.trs.nds, List.nodup_cons.mpr ⟨(fun z => nomatch z), List.nodup_nil⟩, fun a ha b hb z => ?_⟩
          rw [List.mem_singleton.mp hb] at z
          rw [z] at ha
          exact cs ha
        · rw [List.map_append, List.nodup_append]
          refine ⟨I8.trs.nda, List.nodup_cons.mpr ⟨(fun z => nomatch z), List.nodup_nil⟩, fun a ha b hb z => ?_⟩
          rw [List.mem_singleton.mp hb] at z
          exact xT ha z
        · rcases List.mem_append.mp hy with hy | hy
          · exact I8.news y hy
          · rw [List.mem_singleton.mp hy]
            exact I7.fresh nx
      have t9 : upd H8 TD (.dT (kvsOf (L ++ [(⟨surM n e k m R, R, 0⟩, x)]))) t = some (.tup (vN (surM n e k m R))) := upd_other I8.trs.at_ t8 (fun z => nomatch z)
      refine bump_read T rfl rfl F1.st I9 t9 (by rw [List.map_append]; exact List.mem_append_right _ List.mem_cons_self) fun H9 I10 => ?_
      obtain ⟨g1, g2⟩ := fin (L ++ [(⟨surM n e k m R, R, 0⟩, x)]) (by rw [List.length_append]; exact Nat.succ_le_succ l4) (by
        unfold withT
        rw [if_neg (by rw [List.map_map]; exact cs), List.map_append]
        rfl)
      exact ⟨_, _, _, rfl, I10, g1, g2⟩
  · rintro σ H4 ⟨L, v4, v5, rfl, I4, l4, e4⟩
    rw [List.length_map, rsl, List.take_length] at e4
    have s4 : Same H H4 := fun b o hb => I4.bD _ _ (s1 _ _ hb) (fun z => by rw [wH b z] at hb; cases hb)
    refine ⟨_, rfl, .inr (.inr (.inl ⟨rfl, .inr ⟨_, I4.trs.at_⟩⟩)), TD, kvsOf L, rfl, rfl, I4.trs.at_, fun vw hvw => ?_⟩
    have s5 : Same H4 (upd H4 vw (viewO "dict_values" vw TD)) := Same.new (Same.refl H4) hvw
    refine ⟨vw, TD, kvsOf L, rfl, upd_same, s5 _ _ I4.trs.at_, fun q hq => ?_⟩
    have s6 : Same H4 (upd (upd H4 vw (viewO "dict_values" vw TD)) q (.lst ((kvsOf L).map Prod.snd))) := Same.new s5 hq
    refine h _ q (L.map (·.2)) (Same.trans s4 s6) (Same.none (Same.trans s4 s5) hq) ?_ ?_
    · rw [upd_same]
      unfold kvsOf
      rw [List.map_map, List.map_map]
      rfl
    · rw [show trialsM n e k m = L.map (·.1) from e4.symm]
      exact paired_of L fun x hx => (I4.trs.each x hx).same s6
end
end RG
namespace RG
open PySem PySem.Spec PyProof.Rows L2
def goodT (ms : List Nat) (t : TrialD) : Bool := decide (gatN t.sure ms = ms.length)
def howGood (ts : List TrialD) (ms : List Nat) : Int := ((ts.filter (goodT ms)).map fun t => (t.rules : Int)).sum
def minF : List TrialD → List Int
  | [] => []
  | t :: ts => minT t.first (ts.map (·.first))
def firstGood (ts : List TrialD) (ms : List Nat) : Option (List Int) := if ts.filter (goodT ms) = [] then none else some (minF (ts.filter (goodT ms)))
theorem TrialsL.same {K : PySem.W.Frag} {H H' : Hp} (s : Same H H') {as : List Addr} {ts : List TrialD} (h : TrialsL K H as ts) : TrialsL K H' as ts := Paired.imp' (fun _ _ e => e.same s) h
theorem TrialsL.updL {K : PySem.W.Frag} {H : Hp} {D : Addr} {xs : List V} {o : HO} (hD : H D = some (.lst xs)) {as : List Addr} {ts : List TrialD} (h : TrialsL K H as ts) : TrialsL K (L2.upd H D o) as ts :=
  Paired.imp' (fun _ _ ⟨d, p, q, h1, h2, h3⟩ => ⟨d, p, q, upd_other hD h1 (fun z => nomatch z), upd_other hD h2 (fun z => nomatch z), upd_other hD h3 (fun z => nomatch z)⟩) h
section
variable {P : Program} {w : World} {K : PySem.W.Frag} {mg : Str → Option Value} {base : Heap}
def spHowGood (K : PySem.W.Frag) : Sp := fun vs H Q _ => ∃ (a b : Addr) (as : List Addr) (ts : List TrialD) (ms : List Nat), vs = [.ref a, .ref b] ∧ H a = some (.lst (as.map V.ref)) ∧ TrialsL K H as ts ∧ ts.length ≤ 6000 ∧ H b = some (.lst (vN ms)) ∧ ms.length ≤ 64 ∧
  ∀ H', Same H H' → Q (.int (howGood ts ms)) H'
abbrev NHow : List Str := ["trials", "marked", "trial"]
theorem sc_how_many_good : FnScope NHow ["trials", "marked"] (defScope s_how_many_good) := ⟨rfl, rfl, rfl, by decide +kernel, rfl, by decide +kernel, by decide +kernel⟩
theorem ok_how_many_good (T : Txt K mg) : DefOk P w K mg base 3 "how_many_good" ["trials", "marked"] (spHowGood K) := by
  refine def_ok (F_how_many_good T) sc_how_many_good (fun _ _ _ _ _ _ us hl => match us, hl with | [_, _], _ => rfl) (fun vs H Q E h => by obtain ⟨c, e, _, _, _, rfl, _⟩ := h; rfl) fun f cdv A outer s H vs Q E hr h => ?_
  obtain ⟨a, b, as, ts, ms, rfl, ha, ht, hl, hb, hm, h⟩ := h
  have al : as.length = ts.length := Paired.len' ht
  refine ⟨_, pss_one (ps_ret (pe_callB (cr_sum (by rfl)) (by rfl) T.b_sum (by decide +kernel) (pa_cons (pe_lc (own := [("trial", 2)]) (g := gName 2) (by rfl) sc_how_many_good.nd (pi_list (pv 0)) (blkOk_by (N := NHow) (sc := defScope s_how_many_good) (own := [("trial", 2)]) (by decide +kernel))
      (fun _ _ _ _ _ => pg_name (i := 2) sc_how_many_good.nd rfl (Or.inl rfl)) (fun _ _ _ _ _ => pts_one (pt_val (pe_md (He.ga K "Trial") (ok_gathers_all T) T.cl_Trial hr (pv 2) (pa_cons (pv 1) pa_nil)))) (fun _ _ _ _ _ => pe_fldK K (pv 2) rfl)) pa_nil))), ?_⟩
  refine ⟨_, rfl, a, rfl, ⟨_, SqL.of ha⟩, fun D hD => ?_⟩
  refine lc_list (K := K) (a := a) (xs := as.map V.ref) (fun i H' => Same H H' ∧ H' D = some (.lst (vI (((ts.take i).filter (goodT ms)).map fun t => (t.rules : Int))))) ⟨Same.new (Same.refl H) hD, upd_same⟩ (fun i H1 _ ⟨s1, _⟩ => SqL.of (s1 _ _ ha)) (fun i x H1 hx ⟨s1, d1⟩ => ?_) fun H1 ⟨s1, d1⟩ => ?_
  · obtain ⟨c, hc, rfl⟩ := get_refs hx
    obtain ⟨t, hti, tc⟩ := Paired.left ht hc
    have tc1 := tc.same s1
    obtain ⟨dx, ps, pf, h1, h2, h3⟩ := id tc1
    refine ⟨rfl, _, rfl, c, dx, _, rfl, h1, rfl, _, rfl, c, b, t, ms, rfl, tc1, s1 _ _ hb, hm, fun H2 s2 => ⟨_, rfl, ?_⟩⟩
    rw [take_snoc hti, List.filter_append, List.filter_cons, List.filter_nil]
    have s12 := Same.trans s1 s2
    by_cases g : goodT ms t = true
    · refine ifTb g ⟨_, rfl, c, _, dx, _, _, rfl, s2 _ _ h1, T.cl_Trial, T.n_Trial_rules, rfl, _, s2 _ _ d1, ?_, Same.at_ s12 hD, ?_⟩
      · rw [vI_len, List.length_map]
        have e1 := List.length_filter_le (goodT ms) (ts.take i)
        rw [List.length_take] at e1
        exact Nat.lt_of_le_of_lt (show _ ≤ 6000 by omega) (by decide)
      · rw [upd_same, if_pos g, List.map_append]
        unfold vI
        rw [List.map_append]
        rfl
    · refine ifFb (by simpa [goodT] using g) ⟨s12, ?_⟩
      rw [if_neg g, List.append_nil]
      exact s2 _ _ d1
  · rw [List.length_map, al, List.take_length] at d1
    exact ⟨D, _, rfl, SqL.of d1, h H1 s1⟩
def spFirstOf (K : PySem.W.Frag) : Sp := fun vs H Q _ => ∃ (a : Addr) (as : List Addr) (ts : List TrialD), vs = [.ref a] ∧ H a = some (.lst (as.map V.ref)) ∧ TrialsL K H as ts ∧ ts ≠ [] ∧ ts.length ≤ 6000 ∧
  ∀ H' q, Same H H' → H' q = some (.tup (vI (minF ts))) → Q (.ref q) H'
abbrev NFirst : List Str := ["trials", "trial"]
theorem sc_first_of : FnScope NFirst ["trials"] (defScope s_first_of) := ⟨rfl, rfl, rfl, by decide +kernel, rfl, by decide +kernel, by decide +kernel⟩
theorem ok_first_of (T : Txt K mg) : DefOk P w K mg base 1 "first_of" ["trials"] (spFirstOf K) := by
  refine def_ok (F_first_of T) sc_first_of (fun _ _ _ _ _ _ us hl => match us, hl with | [_], _ => rfl) (fun vs H Q E h => by obtain ⟨c, e, _, rfl, _⟩ := h; rfl) fun f cdv A outer s H vs Q E hr h => ?_
  obtain ⟨a, as, ts, rfl, ha, ht, hne, hl, h⟩ := h
  have al : as.length = ts.length := Paired.len' ht
  refine ⟨_, pss_one (ps_ret (pe_callB (cr_minT (by rfl) (hu2 hr)) (by rfl) T.b_min (by decide +kernel) (pa_cons (pe_lc (own := [("trial", 1)]) (g := gName 1) (tt := tYes) (by rfl) sc_first_of.nd (pi_list (pv 0)) (blkOk_by (N := NFirst) (sc := defScope s_first_of) (own := [("trial", 1)]) (by decide +kernel))
      (fun _ _ _ _ _ => pg_name (i := 1) sc_first_of.nd rfl (Or.inl rfl)) (fun _ _ _ _ _ => pts_nil) (fun _ _ _ _ _ => pe_fldK K (pv 1) rfl)) pa_nil))), ?_⟩
  refine ⟨_, rfl, a, rfl, ⟨_, SqL.of ha⟩, fun D hD => ?_⟩
  refine lc_list (K := K) (a := a) (xs := as.map V.ref) (fun i H' => ∃ fs, Same H H' ∧ H' D = some (.lst (fs.map V.ref)) ∧ Tups H' fs ((ts.take i).map (·.first))) ⟨[], Same.new (Same.refl H) hD, upd_same, .nil⟩ (fun i H1 _ ⟨_, s1, _⟩ => SqL.of (s1 _ _ ha)) (fun i x H1 hx ⟨fs, s1, d1, t1⟩ => ?_) fun H1 ⟨fs, s1, d1, t1⟩ => ?_
  · obtain ⟨c, hc, rfl⟩ := get_refs hx
    obtain ⟨t, hti, tc⟩ := Paired.left ht hc
    obtain ⟨dx, ps, pf, h1, h2, h3⟩ := tc.same s1
    refine ⟨rfl, yesT ⟨_, rfl, c, _, dx, _, _, rfl, h1, T.cl_Trial, T.n_Trial_first, rfl, _, d1, ?_, fs ++ [pf], Same.at_ s1 hD, by rw [List.map_append]; exact upd_same, ?_⟩⟩
    · rw [List.length_map, Paired.len' t1, List.length_map, List.length_take]
      exact Nat.lt_of_le_of_lt (show _ ≤ 6000 by omega) (by decide)
    · rw [take_snoc hti, List.map_append]
      exact Paired.app' (Tups.upd d1 t1) (Paired.one (upd_other d1 h3 (fun z => nomatch z)))
  · rw [List.length_map, al, List.take_length] at t1
    cases ts with
    | nil => exact absurd rfl hne
    | cons t ts => exact ⟨D, fs, t.first, ts.map (fun t : TrialD => t.first), rfl, SqL.of d1, t1, fun q hq => h H1 q s1 hq⟩
def spFirstGood (K : PySem.W.Frag) : Sp := fun vs H Q _ => ∃ (a b : Addr) (as : List Addr) (ts : List TrialD) (ms : List Nat), vs = [.ref a, .ref b] ∧ H a = some (.lst (as.map V.ref)) ∧ TrialsL K H as ts ∧ ts.length ≤ 6000 ∧ H b = some (.lst (vN ms)) ∧ ms.length ≤ 64 ∧
  ∀ H' v, Same H H' → (match firstGood ts ms with | none => v = .non | some r => ∃ q, v = .ref q ∧ H' q = some (.tup (vI r))) → Q v H'
abbrev NFG : List Str := ["trials", "marked", "good", "trial"]
theorem sc_first_good : FnScope NFG ["trials", "marked"] (defScope s_first_good) := ⟨rfl, rfl, rfl, by decide +kernel, rfl, by decide +kernel, by decide +kernel⟩
theorem ok_first_good (T : Txt K mg) : DefOk P w K mg base 3 "first_good" ["trials", "marked"] (spFirstGood K) := by
  refine def_ok (F_first_good T) sc_first_good (fun _ _ _ _ _ _ us hl => match us, hl with | [_, _], _ => rfl) (fun vs H Q E h => by obtain ⟨c, e, _, _, _, rfl, _⟩ := h; rfl) fun f cdv A outer s H vs Q E hr h => ?_
  obtain ⟨a, b, as, ts, ms, rfl, ha, ht, hl, hb, hm, h⟩ := h
  have al : as.length = ts.length := Paired.len' ht
  refine ⟨_, pss_cons (ps_setLc (i := 2) (own := [("trial", 3)]) (g := gName 3) (by rfl) sc_first_good.nd rfl rfl (sw_true rfl rfl rfl (by decide +kernel)) (pi_list (pv 0)) (blkOk_by (N := NFG) (sc := defScope s_first_good) (own := [("trial", 3)]) (by decide +kernel))
      (fun _ _ _ _ _ => pg_name (i := 3) sc_first_good.nd rfl (Or.inl rfl)) (fun _ _ _ _ _ => pts_one (pt_val (pe_md (He.ga K "Trial") (ok_gathers_all T) T.cl_Trial hr (pv 3) (pa_cons (pv 1) pa_nil)))) (fun _ _ _ _ _ => pv 3))
    (pss_one (ps_ret (pe_ifExp (pt_truth (pv 2) (by intro _; rfl)) (pe_cd (ok_first_of T) (hr.mono (by decide)) (pa_cons (pv 2) pa_nil)) pe_non))), ?_⟩
  refine ⟨_, rfl, a, rfl, ⟨_, SqL.of ha⟩, fun D hD => ?_⟩
  refine lc_list (K := K) (a := a) (xs := as.map V.ref) (fun i H' => ∃ gs, Same H H' ∧ H' D = some (.lst (gs.map V.ref)) ∧ TrialsL K H' gs ((ts.take i).filter (goodT ms))) ⟨[], Same.new (Same.refl H) hD, upd_same, .nil⟩ (fun i H1 _ ⟨_, s1, _⟩ => SqL.of (s1 _ _ ha)) (fun i x H1 hx ⟨gs, s1, d1, t1⟩ => ?_) fun H1 ⟨gs, s1, d1, t1⟩ => ?_
  · obtain ⟨c, hc, rfl⟩ := get_refs hx
    obtain ⟨t, hti, tc⟩ := Paired.left ht hc
    have tc1 := tc.same s1
    obtain ⟨dx, ps, pf, h1, h2, h3⟩ := id tc1
    refine ⟨rfl, _, rfl, c, dx, _, rfl, h1, rfl, _, rfl, c, b, t, ms, rfl, tc1, s1 _ _ hb, hm, fun H2 s2 => ⟨_, rfl, ?_⟩⟩
    rw [take_snoc hti, List.filter_append, List.filter_cons, List.filter_nil]
    have s12 := Same.trans s1 s2
    have d2 := s2 _ _ d1
    by_cases g : goodT ms t = true
    · refine ifTb g ⟨_, rfl, _, d2, ?_, gs ++ [c], Same.at_ s12 hD, by rw [List.map_append]; exact upd_same, ?_⟩
      · rw [List.length_map, Paired.len' t1]
        have e1 := List.length_filter_le (goodT ms) (ts.take i)
        rw [List.length_take] at e1
        exact Nat.lt_of_le_of_lt (show _ ≤ 6000 by omega) (by decide)
      · rw [if_pos g]
        exact Paired.app' (TrialsL.updL d2 (TrialsL.same s2 t1)) (TrialsL.updL d2 (Paired.one (tc1.same s2)))
    · refine ifFb (by simpa [goodT] using g) ⟨gs, s12, d2, ?_⟩
      rw [if_neg g, List.append_nil]
      exact TrialsL.same s2 t1
  · rw [List.length_map, al, List.take_length] at t1
    refine ⟨_, rfl, !(gs.map V.ref).isEmpty, .inl ⟨_, SqL.of d1, rfl⟩, ?_⟩
    have gl : gs.length = (ts.filter (goodT ms)).length := Paired.len' t1
    by_cases ce : ts.filter (goodT ms) = []
    · have : gs = [] := List.length_eq_zero_iff.mp (by rw [gl, ce]; rfl)
      refine ifFb (by rw [this]; rfl) (h H1 .non s1 ?_)
      unfold firstGood
      rw [if_pos ce]
    · refine ifTb (by
        cases gs with
        | nil => exact absurd (List.length_eq_zero_iff.mp gl.symm) ce
        | cons _ _ => rfl) ?_
      refine ⟨_, rfl, D, gs, _, rfl, d1, t1, ce, Nat.le_trans (List.length_filter_le _ _) hl, fun H2 q s2 q2 => h H2 _ (Same.trans s1 s2) ?_⟩
      unfold firstGood
      rw [if_neg ce]
      exact ⟨q, rfl, q2⟩
end
end RG
namespace RG
open PySem PySem.Spec PyProof.Rows L2
def gats (ts : List TrialD) (ms : List Nat) : List Nat := ts.map fun t => gatN t.sure ms
def mostGat (ts : List TrialD) (ms : List Nat) : Nat := maxN (gats ts ms)
def thatGat (ts : List TrialD) (ms : List Nat) (x : Nat) : List TrialD := ts.filter fun t => decide (gatN t.sure ms = x)
section
variable {P : Program} {w : World} {K : PySem.W.Frag} {mg : Str → Option Value} {base : Heap}
def spMostGat (K : PySem.W.Frag) : Sp := fun vs H Q _ => ∃ (a b : Addr) (as : List Addr) (ts : List TrialD) (ms : List Nat), vs = [.ref a, .ref b] ∧ H a = some (.lst (as.map V.ref)) ∧ TrialsL K H as ts ∧ ts ≠ [] ∧ ts.length ≤ 6000 ∧ H b = some (.lst (vN ms)) ∧ ms.length ≤ 64 ∧
  ∀ H', Same H H' → Q (.int (mostGat ts ms : Int)) H'
theorem sc_most_gathered : FnScope NHow ["trials", "marked"] (defScope s_most_gathered) := ⟨rfl, rfl, rfl, by decide +kernel, rfl, by decide +kernel, by decide +kernel⟩
theorem ok_most_gathered (T : Txt K mg) : DefOk P w K mg base 2 "most_gathered" ["trials", "marked"] (spMostGat K) := by
  refine def_ok (F_most_gathered T) sc_most_gathered (fun _ _ _ _ _ _ us hl => match us, hl with | [_, _], _ => rfl) (fun vs H Q E h => by obtain ⟨c, e, _, _, _, rfl, _⟩ := h; rfl) fun f cdv A outer s H vs Q E hr h => ?_
  obtain ⟨a, b, as, ts, ms, rfl, ha, ht, hne, hl, hb, hm, h⟩ := h
  have al : as.length = ts.length := Paired.len' ht
  refine ⟨_, pss_one (ps_ret (pe_callB (cr_max (by rfl)) (by rfl) T.b_max (by decide +kernel) (pa_cons (pe_lc (own := [("trial", 2)]) (g := gName 2) (tt := tYes) (by rfl) sc_most_gathered.nd (pi_list (pv 0)) (blkOk_by (N := NHow) (sc := defScope s_most_gathered) (own := [("trial", 2)]) (by decide +kernel))
      (fun _ _ _ _ _ => pg_name (i := 2) sc_most_gathered.nd rfl (Or.inl rfl)) (fun _ _ _ _ _ => pts_nil) (fun _ _ _ _ _ => pe_md (He.ga K "Trial") (ok_gathered_of T) T.cl_Trial hr (pv 2) (pa_cons (pv 1) pa_nil))) pa_nil))), ?_⟩
  refine ⟨_, rfl, a, rfl, ⟨_, SqL.of ha⟩, fun D hD => ?_⟩
  refine lc_list (K := K) (a := a) (xs := as.map V.ref) (fun i H' => Same H H' ∧ H' D = some (.lst (vI (iN (gats (ts.take i) ms))))) ⟨Same.new (Same.refl H) hD, upd_same⟩ (fun i H1 _ ⟨s1, _⟩ => SqL.of (s1 _ _ ha)) (fun i x H1 hx ⟨s1, d1⟩ => ?_) fun H1 ⟨s1, d1⟩ => ?_
  · obtain ⟨c, hc, rfl⟩ := get_refs hx
    obtain ⟨t, hti, tc⟩ := Paired.left ht hc
    have tc1 := tc.same s1
    obtain ⟨dx, ps, pf, h1, h2, h3⟩ := id tc1
    refine ⟨rfl, yesT ⟨_, rfl, c, dx, _, rfl, h1, rfl, _, rfl, c, b, t, ms, rfl, tc1, s1 _ _ hb, hm, fun H2 s2 => ⟨_, s2 _ _ d1, ?_, Same.at_ (Same.trans s1 s2) hD, ?_⟩⟩⟩
    · rw [vI_len, List.length_map]
      unfold gats
      rw [List.length_map, List.length_take]
      exact Nat.lt_of_le_of_lt (show _ ≤ 6000 by omega) (by decide)
    · rw [upd_same, take_snoc hti]
      simp only [gats, iN, vI, List.map_append, List.map_cons, List.map_nil]
  · rw [List.length_map, al, List.take_length] at d1
    have gne : gats ts ms ≠ [] := by
      unfold gats
      simpa using hne
    refine ⟨D, iN (gats ts ms), rfl, SqL.of d1, by rw [List.length_map]; exact List.length_pos_iff.mpr gne, fun mm h1 h2 => ?_⟩
    rw [max_iN gne h1 h2]
    exact h H1 s1
def spThat (K : PySem.W.Frag) : Sp := fun vs H Q _ => ∃ (a b : Addr) (as : List Addr) (ts : List TrialD) (ms : List Nat) (x : Nat), vs = [.ref a, .ref b, .int (x : Int)] ∧ H a = some (.lst (as.map V.ref)) ∧ TrialsL K H as ts ∧ thatGat ts ms x ≠ [] ∧ ts.length ≤ 6000 ∧ H b = some (.lst (vN ms)) ∧ ms.length ≤ 64 ∧
  ∀ H' q, Same H H' → H' q = some (.tup (vI (minF (thatGat ts ms x)))) → Q (.ref q) H'
abbrev NThat : List Str := ["trials", "marked", "most", "trial"]
theorem sc_first_that_gathers : FnScope NThat ["trials", "marked", "most"] (defScope s_first_that_gathers) := ⟨rfl, rfl, rfl, by decide +kernel, rfl, by decide +kernel, by decide +kernel⟩
theorem ok_first_that_gathers (T : Txt K mg) : DefOk P w K mg base 2 "first_that_gathers" ["trials", "marked", "most"] (spThat K) := by
  refine def_ok (F_first_that_gathers T) sc_first_that_gathers (fun _ _ _ _ _ _ us hl => match us, hl with | [_, _, _], _ => rfl) (fun vs H Q E h => by obtain ⟨c, e, _, _, _, _, rfl, _⟩ := h; rfl) fun f cdv A outer s H vs Q E hr h => ?_
  obtain ⟨a, b, as, ts, ms, y, rfl, ha, ht, hne, hl, hb, hm, h⟩ := h
  have al : as.length = ts.length := Paired.len' ht
  refine ⟨_, pss_one (ps_ret (pe_cd (ok_first_of T) hr (pa_cons (pe_lc (own := [("trial", 3)]) (g := gName 3) (by rfl) sc_first_that_gathers.nd (pi_list (pv 0)) (blkOk_by (N := NThat) (sc := defScope s_first_that_gathers) (own := [("trial", 3)]) (by decide +kernel))
      (fun _ _ _ _ _ => pg_name (i := 3) sc_first_that_gathers.nd rfl (Or.inl rfl)) (fun _ _ _ _ _ => pts_one (pt_cmpR op_eq (pe_md (He.ga K "Trial") (ok_gathered_of T) T.cl_Trial hr (pv 3) (pa_cons (pv 1) pa_nil)) (pv 2) (nomark _))) (fun _ _ _ _ _ => pv 3)) pa_nil))), ?_⟩
  refine ⟨_, rfl, a, rfl, ⟨_, SqL.of ha⟩, fun D hD => ?_⟩
  refine lc_list (K := K) (a := a) (xs := as.map V.ref) (fun i H' => ∃ gs, Same H H' ∧ H' D = some (.lst (gs.map V.ref)) ∧ TrialsL K H' gs (thatGat (ts.take i) ms y)) ⟨[], Same.new (Same.refl H) hD, upd_same, .nil⟩ (fun i H1 _ ⟨_, s1, _⟩ => SqL.of (s1 _ _ ha)) (fun i x H1 hx ⟨gs, s1, d1, t1⟩ => ?_) fun H1 ⟨gs, s1, d1, t1⟩ => ?_
  · obtain ⟨c, hc, rfl⟩ := get_refs hx
    obtain ⟨t, hti, tc⟩ := Paired.left ht hc
    have tc1 := tc.same s1
    obtain ⟨dx, ps, pf, h1, h2, h3⟩ := id tc1
    refine ⟨rfl, _, rfl, c, dx, _, rfl, h1, rfl, _, rfl, c, b, t, ms, rfl, tc1, s1 _ _ hb, hm, fun H2 s2 => ⟨_, rfl, rfl, _, rfl, ?_⟩⟩
    have e : decide (V.int (gatN t.sure ms : Int) = V.int (y : Int)) = decide (gatN t.sure ms = y) := by
      rw [dec_int, Bool.eq_iff_iff, decide_eq_true_iff, decide_eq_true_iff]
      omega
    rw [e, take_snoc hti]
    unfold thatGat
    rw [List.filter_append, List.filter_cons, List.filter_nil]
    have s12 := Same.trans s1 s2
    have d2 := s2 _ _ d1
    by_cases g : gatN t.sure ms = y
    · refine ifT g ⟨_, rfl, _, d2, ?_, gs ++ [c], Same.at_ s12 hD, by rw [List.map_append]; exact upd_same, ?_⟩
      · rw [List.length_map, Paired.len' t1]
        have e1 := List.length_filter_le (fun t : TrialD => decide (gatN t.sure ms = y)) (ts.take i)
        rw [List.length_take] at e1
        unfold thatGat
        exact Nat.lt_of_le_of_lt (show _ ≤ 6000 by omega) (by decide)
      · rw [if_pos (decide_eq_true g)]
        exact Paired.app' (TrialsL.updL d2 (TrialsL.same s2 t1)) (TrialsL.updL d2 (Paired.one (tc1.same s2)))
    · refine ifF g ⟨gs, s12, d2, ?_⟩
      rw [if_neg (by rw [decide_eq_false g]; decide), List.append_nil]
      exact TrialsL.same s2 t1
  · rw [List.length_map, al, List.take_length] at t1
    exact ⟨D, gs, _, rfl, d1, t1, hne, Nat.le_trans (List.length_filter_le _ _) hl, fun H2 q s2 q2 => h H2 q (Same.trans s1 s2) q2⟩
def spTooMany (K : PySem.W.Frag) : Sp := fun vs H Q _ => ∃ (a : Addr) (n e k : Nat), vs = [.ref a] ∧ FieldAt K H a n e k ∧ Q (.bl (decide (6000 < prodN (evensM n e k)))) H
theorem sc_is_too_many : FnScope ["field"] ["field"] (defScope s_is_too_many) := ⟨rfl, rfl, rfl, by decide +kernel, rfl, by decide +kernel, by decide +kernel⟩
theorem ok_is_too_many (T : Txt K mg) : DefOk P w K mg base 3 "is_too_many" ["field"] (spTooMany K) := by
  refine def_ok (F_is_too_many T) sc_is_too_many (fun _ _ _ _ _ _ us hl => match us, hl with | [_], _ => rfl) (fun vs H Q E h => by obtain ⟨c, e, _, _, rfl, _⟩ := h; rfl) fun f cdv A outer s H vs Q E hr h => ?_
  obtain ⟨a, n, e, k, rfl, fa, h⟩ := h
  obtain ⟨tk, hk⟩ := T.c_MOST_RULES
  refine ⟨_, pss_one (ps_ret (pe_cmpR op_gt (pe_cd (ok_how_many_rules T) hr (pa_cons (pv 0) pa_nil)) (pe_glob (v := .int 6000) (by rfl) hk ⟨tk, rfl⟩) (nomark _))), ?_⟩
  refine ⟨_, rfl, a, n, e, k, rfl, fa, _, _, rfl, rfl, ?_⟩
  have e : decide ((6000 : Int) < (prodN (evensM n e k) : Int)) = decide (6000 < prodN (evensM n e k)) := by
    rw [Bool.eq_iff_iff, decide_eq_true_iff, decide_eq_true_iff]
    omega
  rw [← e] at h
  exact h
end
end RG
namespace RG
/-- x may stand behind g -/
def aft (g : List Nat) (x : Nat) : Bool := g.isEmpty || decide (g.getLastD 0 < x)
def groupExt (ns : List Nat) (g : List Nat) : List (List Nat) := (ns.filter (aft g)).map fun x => g ++ [x]
def groupsM (ns : List Nat) : Nat → List (List Nat)
  | 0 => [[]]
  | s + 1 => (groupsM ns s).flatMap (groupExt ns)
theorem aft_snoc (g : List Nat) (x y : Nat) : aft (g ++ [x]) y = decide (x < y) := by
  unfold aft
  rw [List.getLastD_concat]
  cases g <;> rfl
def sumN : List Nat → Nat
  | [] => 0
  | x :: r => x + sumN r
theorem sumN_app : ∀ l m : List Nat, sumN (l ++ m) = sumN l + sumN m
  | [], m => by simp [sumN]
  | x :: l, m => by
    rw [List.cons_append, sumN, sumN, sumN_app l m]
    omega
def above (l : List Nat) (x : Nat) : Nat := 2 ^ (l.filter fun y => decide (x < y)).length
theorem rising_sum : ∀ l : List Nat, l.Pairwise (· < ·) → sumN (l.map (above l)) + 1 = 2 ^ l.length
  | [], _ => rfl
  | a :: r, h => by
    obtain ⟨h1, h2⟩ := List.pairwise_cons.mp h
    have ih := rising_sum r h2
    have e1 : above (a :: r) a = 2 ^ r.length := by
      unfold above
      rw [List.filter_cons, if_neg (by simp), List.filter_eq_self.mpr fun y hy => decide_eq_true (h1 y hy)]
    have e2 : r.map (above (a :: r)) = r.map (above r) := by
      refine List.map_congr_left fun x hx => ?_
      unfold above
      rw [List.filter_cons, if_neg (by have := h1 x hx; simp; omega)]
    rw [List.map_cons, sumN, e1, e2, List.length_cons, Nat.pow_succ]
    omega
def wt (ns : List Nat) (g : List Nat) : Nat := 2 ^ (ns.filter (aft g)).length
theorem ext_wt {ns : List Nat} (h : ns.Pairwise (· < ·)) (g : List Nat) : sumN ((groupExt ns g).map (wt ns)) ≤ wt ns g := by
  have hl : (ns.filter (aft g)).Pairwise (· < ·) := h.sublist List.filter_sublist
  have e := rising_sum _ hl
  have e2 : (groupExt ns g).map (wt ns) = (ns.filter (aft g)).map (above (ns.filter (aft g))) := by
    unfold groupExt
    rw [List.map_map]
    refine List.map_congr_left fun x hx => ?_
    show wt ns (g ++ [x]) = _
    unfold wt above
    rw [List.filter_filter]
    congr 2
    refine List.filter_congr fun y _ => ?_
    rw [aft_snoc]
    have hx2 := (List.mem_filter.mp hx).2
    by_cases c : x < y
    · rw [decide_eq_true c, Bool.true_and]
      symm
      unfold aft at hx2 ⊢
      rw [Bool.or_eq_true] at hx2 ⊢
      rcases hx2 with z | z
      · exact .inl z
      · exact .inr (decide_eq_true (Nat.lt_trans (of_decide_eq_true z) c))
    · rw [decide_eq_false c, Bool.false_and]
  rw [e2]
  unfold wt
  omega
theorem flat_wt {ns : List Nat} (h : ns.Pairwise (· < ·)) : ∀ G : List (List Nat), sumN ((G.flatMap (groupExt ns)).map (wt ns)) ≤ sumN (G.map (wt ns))
  | [] => Nat.le_refl _
  | g :: G => by
    rw [List.flatMap_cons, List.map_append, sumN_app, List.map_cons, sumN]
    exact Nat.add_le_add (ext_wt h g) (flat_wt h G)
theorem len_wt (ns : List Nat) : ∀ G : List (List Nat), G.length ≤ sumN (G.map (wt ns))
  | [] => Nat.le_refl _
  | g :: G => by
    have ih := len_wt ns G
    have : 1 ≤ wt ns g := Nat.one_le_two_pow
    rw [List.map_cons, sumN, List.length_cons]
    omega
theorem groups_len {ns : List Nat} (h : ns.Pairwise (· < ·)) (s : Nat) : (groupsM ns s).length ≤ 2 ^ ns.length := by
  refine Nat.le_trans (len_wt ns _) ?_
  induction s with
  | zero =>
    show sumN [wt ns []] ≤ _
    unfold wt
    have : (ns.filter (aft [])).length ≤ ns.length := List.length_filter_le _ _
    rw [sumN, sumN]
    exact Nat.pow_le_pow_right (by decide) this
  | succ s ih => exact Nat.le_trans (flat_wt h _) ih
theorem groups_width {ns : List Nat} : ∀ {s : Nat} {g : List Nat}, g ∈ groupsM ns s → g.length = s
  | 0, g, h => by
    rw [List.mem_singleton.mp h]
    rfl
  | s + 1, g, h => by
    obtain ⟨q, hq, hg⟩ := List.mem_flatMap.mp h
    unfold groupExt at hg
    obtain ⟨x, _, rfl⟩ := List.mem_map.mp hg
    rw [List.length_append, groups_width hq]
    rfl
def hopeless (ts : List TrialD) (ms : List Nat) : Option (List Nat) := ((List.range (ms.length + 1)).flatMap (groupsM ms)).find? fun g => (firstGood ts g).isNone
def names20 : Bool := (List.range 8).all fun n => (List.range 4).all fun k => decide ((namesM n k).length ≤ 20)
theorem names_20 : ∀ n, 3 ≤ n → n ≤ 7 → ∀ k, k ≤ 3 → (namesM n k).length ≤ 20 := by
  have h : ∀ n, n < 8 → ∀ k, k < 4 → 3 ≤ n → (namesM n k).length ≤ 20 := by decide +kernel
  intro n h1 h2 k hk
  exact h n (by omega) k (by omega) h1
end RG
namespace RG
open PySem PySem.Spec PyProof.Rows L2
theorem atI_last {g : List Nat} (h : g ≠ []) : atI (vN g) (-1) = some (.int (g.getLastD 0 : Int)) := by
  have hl : 0 < g.length := List.length_pos_iff.mpr h
  have e : ixN (vN g).length (-1) = some (g.length - 1) := by
    unfold ixN
    rw [List.length_map, if_neg (by decide), if_pos (by omega)]
    congr 1
    omega
  unfold atI
  rw [e]
  show (vN g)[g.length - 1]? = _
  rw [List.getElem?_map, List.getElem?_eq_getElem (by omega), List.getLastD_eq_getLast?, List.getLast?_eq_getElem?, List.getElem?_eq_getElem (by omega)]
  rfl
section
variable {P : Program} {w : World} {K : PySem.W.Frag} {mg : Str → Option Value} {base : Heap}
def spGroups (K : PySem.W.Frag) : Sp := fun vs H Q _ => ∃ (b : Addr) (ms : List Nat) (s : Nat), vs = [.ref b, .int (s : Int)] ∧ H b = some (.lst (vN ms)) ∧ ms.Pairwise (· < ·) ∧ ms.length ≤ 20 ∧ s ≤ 64 ∧
  ∀ H' p, Same H H' → H p = none → GraphAt H' p (groupsM ms s) → Q (.ref p) H'
abbrev NGroups : List Str := ["names", "size", "groups", "grown", "larger", "group", "name"]
theorem sc_groups_of : FnScope NGroups ["names", "size"] (defScope s_groups_of) := ⟨rfl, rfl, rfl, by decide +kernel, rfl, by decide +kernel, by decide +kernel⟩
theorem grow_read {D : Ends} {σ : L2.St} {H : Hp} {L c : Addr} {ts : List Addr} {g : List Nat} {y : Nat} (h4 : σ[4]? = some (some (.ref L))) (h5 : σ[5]? = some (some (.ref c))) (h6 : σ[6]? = some (some (.int (y : Int)))) (d : H L = some (.lst (ts.map V.ref))) (tl : ts.length ≤ 1048576) (cg : H c = some (.lst (vN g))) (gl : g.length ≤ 64)
    (h : ∀ H' p, But L H H' → H' L = some (.lst ((ts ++ [p]).map V.ref)) → p ≠ L → H' p = some (.lst (vN (g ++ [y]))) → D.nx σ H') : tDrop (tBM K "list" rAppend (tVar 4) (tCons (tOp rCat (tVar 5) (tLst (tCons (tVar 6) tNil))) tNil)) D σ H := by
  refine ⟨_, h4, .inl ⟨rfl, _, SqL.of d⟩, _, h5, _, h6, by show 1 ≤ sizeLine; decide, fun u hu => ?_⟩
  have s1 : Same H (upd H u (.lst [.int (y : Int)])) := Same.new (Same.refl H) hu
  have u1 : upd H u (.lst [.int (y : Int)]) u = some (.lst [.int (y : Int)]) := upd_same
  generalize upd H u (.lst [.int (y : Int)]) = H1 at s1 u1
  refine ⟨c, u, vN g, _, rfl, rfl, s1 _ _ cg, u1, by rw [List.length_map]; exact Nat.le_trans (show _ ≤ 65 by show g.length + 1 ≤ 65; omega) (by decide), fun p hp => ?_⟩
  have s2 : Same H1 (upd H1 p (.lst (vN g ++ [.int (y : Int)]))) := Same.new (Same.refl H1) hp
  have p2 : upd H1 p (.lst (vN g ++ [.int (y : Int)])) p = some (.lst (vN (g ++ [y]))) := by rw [upd_same, vN_app]; rfl
  have pL : p ≠ L := fun z => by rw [z, s1 _ _ d] at hp; cases hp
  generalize upd H1 p (.lst (vN g ++ [.int (y : Int)])) = H2 at s2 p2
  have s12 := Same.trans s1 s2
  refine ⟨L, _, _, rfl, rfl, s12 _ _ d, by rw [List.length_map]; exact Nat.lt_of_le_of_lt tl (by decide), h _ p (But.upd (But.same But.refl s12)) (by rw [upd_same, List.map_append]; rfl) pL (by rw [upd_ne pL]; exact p2)⟩
theorem ok_groups_of (T : Txt K mg) : DefOk P w K mg base 1 "groups_of" ["names", "size"] (spGroups K) := by
  refine def_ok (F_groups_of T) sc_groups_of (fun _ _ _ _ _ _ us hl => match us, hl with | [_, _], _ => rfl) (fun vs H Q E h => by obtain ⟨c, e, _, rfl, _⟩ := h; rfl) fun f cdv A outer s H vs Q E hr h => ?_
  obtain ⟨b, ms, z, rfl, hb, hp, h20, h64, h⟩ := h
  refine ⟨_, pss_cons (ps_set (i := 2) sc_groups_of.nd rfl (Or.inl rfl) (pe_lst (pa_cons (pe_lst pa_nil) pa_nil)))
    (pss_cons (ps_for PassesOwn.never rfl (pi_range1 (by rfl) T.b_range (pa_cons (pv 1) pa_nil)) (pg_name (i := 3) sc_groups_of.nd rfl (Or.inl rfl))
      (pss_cons (ps_set (i := 4) sc_groups_of.nd rfl (Or.inl rfl) (pe_lst pa_nil))
      (pss_cons (ps_for PassesOwn.never rfl (pi_list (pv 2)) (pg_name (i := 5) sc_groups_of.nd rfl (Or.inl rfl))
        (pss_one (ps_for PassesOwn.never rfl (pi_list (pv 0)) (pg_name (i := 6) sc_groups_of.nd rfl (Or.inl rfl))
          (pss_one (ps_if (PW.pt (pw_or (pt_not (pt_truth (pv 5) (by intro _; rfl))) (pw_or1 (pt_cmpR op_gt (pv 6) (pe_ix ix_list (pv 5) (pe_un un_neg pe_int) (fun _ _ => rfl)) (nomark _)))))
            (pss_one (ps_expr (pe_append (pv 4) (pa_cons (pe_op op_cat (pv 5) (pe_lst (pa_cons (pv 6) pa_nil))) pa_nil)))) pss_nil)))))
      (pss_one (ps_set (i := 2) sc_groups_of.nd rfl (Or.inl rfl) (pv 4))))))
    (pss_one (ps_ret (pv 2)))), ?_⟩
  have big : ∀ s, (groupsM ms s).length ≤ 1048576 := fun s => Nat.le_trans (groups_len hp s) (Nat.le_trans (Nat.pow_le_pow_right (by decide) h20) (by decide))
  refine ⟨by show 0 ≤ sizeLine; decide, fun t ht => ?_⟩
  have s0 : Same H (upd H t (.lst [])) := Same.new (Same.refl H) ht
  refine ⟨by show 1 ≤ sizeLine; decide, fun R hR => ?_⟩
  have s1 : Same H (upd (upd H t (.lst [])) R (.lst [.ref t])) := Same.new s0 hR
  have R0 : H R = none := Same.none s0 hR
  have tR : t ≠ R := fun z => by rw [← z, upd_same] at hR; cases hR
  have g1 : GraphAt (upd (upd H t (.lst [])) R (.lst [.ref t])) R (groupsM ms 0) := ⟨[t], upd_same, Paired.one (by rw [upd_ne tR, upd_same]; rfl)⟩
  generalize upd (upd H t (.lst [])) R (.lst [.ref t]) = H1 at s1 g1
  clear s0 ht hR tR
  refine ⟨_, rfl, _, rfl, by omega, by omega, ?_⟩
  rw [Int.toNat_natCast]
  refine for_range (lo := 0) (n := z) (fun i σ H' => ∃ R v3 v4 v5 v6, σ = [some (.ref b), some (.int (z : Int)), some (.ref R), v3, v4, v5, v6] ∧ Same H H' ∧ H R = none ∧ GraphAt H' R (groupsM ms i))
    ⟨R, none, none, none, none, rfl, s1, R0, g1⟩ ?_ ?_
  · rintro i σ H2 hi ⟨R, v3, v4, v5, v6, rfl, s2, R0, as, r2, t2⟩
    have al : as.length = (groupsM ms i).length := Paired.len' t2
    refine ⟨by show 0 ≤ sizeLine; decide, fun L hL => ?_⟩
    have s3 : Same H2 (upd H2 L (.lst [])) := Same.new (Same.refl H2) hL
    have L0 : H L = none := Same.none s2 hL
    have d3 : upd H2 L (.lst []) L = some (.lst (([] : List Addr).map V.ref)) := upd_same
    refine ⟨_, rfl, R, rfl, ⟨_, SqL.of (s3 _ _ r2)⟩, ?_⟩
    generalize upd H2 L (.lst []) = H3 at s3 d3
    refine for_list (K := K) (a := R) (xs := as.map V.ref) (fun j σ H' => ∃ ts v5 v6, σ = [some (.ref b), some (.int (z : Int)), some (.ref R), some (.int (0 + (i : Int))), some (.ref L), v5, v6] ∧ Same H2 H' ∧ H' L = some (.lst (ts.map V.ref)) ∧ RowN L H' ts (((groupsM ms i).take j).flatMap (groupExt ms)))
      ⟨[], v5, v6, rfl, s3, d3, .nil⟩ (fun j σ H' _ ⟨_, _, _, _, s, _⟩ => SqL.of (s _ _ r2)) ?_ ?_
    · rintro j x σ H4 hx ⟨ts, v5, v6, rfl, s4, d4, t4⟩
      obtain ⟨c, hc, rfl⟩ := get_refs hx
      obtain ⟨g, hg, eg⟩ := Paired.left t2 hc
      have hj : j < (groupsM ms i).length := (List.getElem?_eq_some_iff.mp hg).1
      have gl : g.length = i := groups_width (List.mem_of_getElem? hg)
      refine ⟨_, rfl, b, rfl, ⟨_, SqL.of (s4 _ _ (s2 _ _ hb))⟩, ?_⟩
      have part : ∀ d, ((((groupsM ms i).take j).flatMap (groupExt ms)) ++ ((ms.take d).filter (aft g)).map fun x => g ++ [x]).length ≤ 1048576 := by
        intro d
        refine Nat.le_trans ?_ (big (i + 1))
        have e : groupsM ms (i + 1) = (((groupsM ms i).take j).flatMap (groupExt ms)) ++ (groupExt ms g ++ ((groupsM ms i).drop (j + 1)).flatMap (groupExt ms)) := by
          show (groupsM ms i).flatMap (groupExt ms) = _
          conv => lhs; rw [← List.take_append_drop j (groupsM ms i)]
          rw [List.flatMap_append]
          congr 1
          rw [List.drop_eq_getElem_cons hj, List.flatMap_cons]
          rw [(List.getElem?_eq_some_iff.mp hg).2]
        rw [e, List.length_append, List.length_append, List.length_append, List.length_map]
        have h1 : ((ms.take d).filter (aft g)).length ≤ (groupExt ms g).length := by
          unfold groupExt
          rw [List.length_map]
          exact ((List.take_sublist d ms).filter _).length_le
        omega
      refine for_list (K := K) (a := b) (xs := vN ms) (fun d σ H' => ∃ ts v6, σ = [some (.ref b), some (.int (z : Int)), some (.ref R), some (.int (0 + (i : Int))), some (.ref L), some (.ref c), v6] ∧ Same H2 H' ∧ H' L = some (.lst (ts.map V.ref)) ∧ RowN L H' ts ((((groupsM ms i).take j).flatMap (groupExt ms)) ++ ((ms.take d).filter (aft g)).map fun x => g ++ [x]))
        ⟨ts, v6, rfl, s4, d4, by simpa using t4⟩ (fun j σ H' _ ⟨_, _, _, s, _⟩ => SqL.of (s _ _ (s2 _ _ hb))) ?_ ?_
      · rintro d x σ H5 hx ⟨ts, v6, rfl, s5, d5, t5⟩
        obtain ⟨y, hy, rfl⟩ := vN_at hx
        have tl : ts.length ≤ 1048576 := by
          rw [Paired.len' t5]
          exact part d
        have cg := s5 _ _ eg
        have end1 : aft g y = false → ∃ ts' v6', [some (V.ref b), some (.int (z : Int)), some (.ref R), some (.int (0 + (i : Int))), some (.ref L), some (.ref c), some (.int (y : Int))] = [some (.ref b), some (.int (z : Int)), some (.ref R), some (.int (0 + (i : Int))), some (.ref L), some (.ref c), v6'] ∧ Same H2 H5 ∧ H5 L = some (.lst (ts'.map V.ref)) ∧ RowN L H5 ts' ((((groupsM ms i).take j).flatMap (groupExt ms)) ++ ((ms.take (d + 1)).filter (aft g)).map fun x => g ++ [x]) := by
          intro ha
          refine ⟨ts, _, rfl, s5, d5, ?_⟩
          rw [take_snoc hy, List.filter_append, List.filter_cons, if_neg (by rw [ha]; decide), List.filter_nil, List.append_nil]
          exact t5
        refine ⟨_, rfl, !(vN g).isEmpty, .inl ⟨_, SqL.of cg, rfl⟩, ?_⟩
        have grow : aft g y = true → ∀ H' p, But L H5 H' → H' L = some (.lst ((ts ++ [p]).map V.ref)) → p ≠ L → H' p = some (.lst (vN (g ++ [y]))) → ∃ ts' v6', [some (V.ref b), some (.int (z : Int)), some (.ref R), some (.int (0 + (i : Int))), some (.ref L), some (.ref c), some (.int (y : Int))] = [some (.ref b), some (.int (z : Int)), some (.ref R), some (.int (0 + (i : Int))), some (.ref L), some (.ref c), v6'] ∧ Same H2 H' ∧ H' L = some (.lst (ts'.map V.ref)) ∧ RowN L H' ts' ((((groupsM ms i).take j).flatMap (groupExt ms)) ++ ((ms.take (d + 1)).filter (aft g)).map fun x => g ++ [x]) := by
          intro ha H' p b' d' pL p'
          refine ⟨ts ++ [p], _, rfl, fun x o hx => b' _ _ (s5 _ _ hx) (ne_of_none hx hL), d', ?_⟩
          rw [take_snoc hy, List.filter_append, List.filter_cons, if_pos ha, List.filter_nil, List.map_append, ← List.append_assoc]
          exact Paired.app' (Paired.imp' (fun x l e => ⟨e.1, b' _ _ e.2 e.1⟩) t5) (Paired.one ⟨pL, p'⟩)
        by_cases ge : g = []
        · refine ifTb (by rw [ge]; rfl) (ifTb rfl ?_)
          exact grow_read rfl rfl rfl d5 tl cg (by omega) (grow (by rw [ge]; rfl))
        · refine ifFb (by
            cases g with
            | nil => exact absurd rfl ge
            | cons _ _ => rfl) ?_
          refine ⟨_, rfl, _, rfl, 1, rfl, c, vN g, _, _, rfl, rfl, SqL.of cg, atI_last ge, _, _, rfl, rfl, _, rfl, ?_⟩
          have ea : aft g y = decide ((g.getLastD 0 : Int) < (y : Int)) := by
            unfold aft
            rw [show g.isEmpty = false by cases g <;> first | exact absurd rfl ge | rfl, Bool.false_or, Bool.eq_iff_iff, decide_eq_true_iff, decide_eq_true_iff]
            omega
          by_cases cy : (g.getLastD 0 : Int) < (y : Int)
          · exact ifT cy (grow_read rfl rfl rfl d5 tl cg (by omega) (grow (by rw [ea]; exact decide_eq_true cy)))
          · exact ifF cy (end1 (by rw [ea]; exact decide_eq_false cy))
      · rintro σ H5 ⟨ts, v6, rfl, s5, d5, t5⟩
        refine ⟨ts, _, v6, rfl, s5, d5, ?_⟩
        rw [List.length_map, List.take_length] at t5
        rw [take_snoc hg, List.flatMap_append]
        simpa [groupExt] using t5
    · rintro σ H4 ⟨ts, v5, v6, rfl, s4, d4, t4⟩
      rw [List.length_map, al, List.take_length] at t4
      exact ⟨_, rfl, L, _, _, v5, v6, rfl, Same.trans s2 s4, L0, ts, d4, Paired.imp' (fun _ _ e => e.2) t4⟩
  · rintro σ H2 ⟨R, v3, v4, v5, v6, rfl, s2, R0, g2⟩
    exact ⟨_, rfl, h H2 R s2 R0 g2⟩
end
end RG
namespace RG
open PySem PySem.Spec PyProof.Rows L2
theorem find_here {α : Type} {p : α → Bool} {a b c : List α} {x : α} (h1 : a.find? p = none) (h2 : b.find? p = none) (h3 : p x = true) : (a ++ (b ++ x :: c)).find? p = some x := by
  rw [List.find?_append, h1, Option.none_or, List.find?_append, h2, Option.none_or, List.find?_cons, h3]
section
variable {P : Program} {w : World} {K : PySem.W.Frag} {mg : Str → Option Value} {base : Heap}
def spHopeless (K : PySem.W.Frag) : Sp := fun vs H Q _ => ∃ (a b : Addr) (as : List Addr) (ts : List TrialD) (ms : List Nat), vs = [.ref a, .ref b] ∧ H a = some (.lst (as.map V.ref)) ∧ TrialsL K H as ts ∧ ts.length ≤ 6000 ∧ H b = some (.lst (vN ms)) ∧ ms.Pairwise (· < ·) ∧ ms.length ≤ 20 ∧
  ∀ H' v, Same H H' → (match hopeless ts ms with | none => v = .non | some g => ∃ q, v = .ref q ∧ H' q = some (.lst (vN g))) → Q v H'
abbrev NHopeless : List Str := ["trials", "marked", "size", "group"]
theorem sc_fewest_hopeless : FnScope NHopeless ["trials", "marked"] (defScope s_fewest_hopeless) := ⟨rfl, rfl, rfl, by decide +kernel, rfl, by decide +kernel, by decide +kernel⟩
theorem ok_fewest_hopeless (T : Txt K mg) : DefOk P w K mg base 4 "fewest_hopeless" ["trials", "marked"] (spHopeless K) := by
  refine def_ok (F_fewest_hopeless T) sc_fewest_hopeless (fun _ _ _ _ _ _ us hl => match us, hl with | [_, _], _ => rfl) (fun vs H Q E h => by obtain ⟨c, e, _, _, _, rfl, _⟩ := h; rfl) fun f cdv A outer s H vs Q E hr h => ?_
  obtain ⟨a, b, as, ts, ms, rfl, ha, ht, hl, hb, hp, h20, h⟩ := h
  refine ⟨_, pss_cons (ps_for PassesOwn.never rfl (pi_range1 (by rfl) T.b_range (pa_cons (pe_op op_add (pe_len T.b_len (pa_cons (pv 1) pa_nil)) pe_int) pa_nil)) (pg_name (i := 2) sc_fewest_hopeless.nd rfl (Or.inl rfl))
      (pss_one (ps_for PassesOwn.never rfl (pi_list (pe_cd (ok_groups_of T) (hr.mono (by decide)) (pa_cons (pv 1) (pa_cons (pv 2) pa_nil)))) (pg_name (i := 3) sc_fewest_hopeless.nd rfl (Or.inl rfl))
        (pss_one (ps_if (pt_cmpR op_isN (pe_cd (ok_first_good T) hr (pa_cons (pv 0) (pa_cons (pv 3) pa_nil))) pe_non (nomark _)) (pss_one (ps_ret (pv 3))) pss_nil)))))
    (pss_one (ps_ret pe_non)), ?_⟩
  refine ⟨_, rfl, b, vN ms, rfl, .inl (SqL.of hb), _, _, rfl, rfl, ?_⟩
  rw [List.length_map]
  refine ⟨_, rfl, by omega, by omega, ?_⟩
  rw [show ((ms.length : Int) + 1).toNat = ms.length + 1 by omega]
  refine for_range (lo := 0) (n := ms.length + 1) (fun i σ H' => ∃ v2 v3, σ = [some (.ref a), some (.ref b), v2, v3] ∧ Same H H' ∧ ((List.range i).flatMap (groupsM ms)).find? (fun g => (firstGood ts g).isNone) = none) ⟨none, none, rfl, Same.refl H, rfl⟩ ?_ ?_
  · rintro i σ H1 hi ⟨v2, v3, rfl, s1, f1⟩
    refine ⟨_, rfl, _, rfl, b, ms, i, by rw [Int.zero_add]; rfl, s1 _ _ hb, hp, h20, by omega, fun H2 gp s2 hgp ⟨gs, g2, t2⟩ => ⟨gp, rfl, ⟨_, SqL.of g2⟩, ?_⟩⟩
    have gl : gs.length = (groupsM ms i).length := Paired.len' t2
    have s12 := Same.trans s1 s2
    refine for_list (K := K) (a := gp) (xs := gs.map V.ref) (fun j σ H' => ∃ v3, σ = [some (.ref a), some (.ref b), some (.int (0 + (i : Int))), v3] ∧ Same H2 H' ∧ ((groupsM ms i).take j).find? (fun g => (firstGood ts g).isNone) = none) ⟨v3, rfl, Same.refl H2, rfl⟩ (fun j σ H' _ ⟨_, _, s, _⟩ => SqL.of (s _ _ g2)) ?_ ?_
    · rintro j x σ H3 hx ⟨v3, rfl, s3, f3⟩
      obtain ⟨c, hc, rfl⟩ := get_refs hx
      obtain ⟨g, hg, eg⟩ := Paired.left t2 hc
      have s13 := Same.trans s12 s3
      have gw : g.length = i := groups_width (List.mem_of_getElem? hg)
      refine ⟨_, rfl, _, rfl, a, c, as, ts, g, rfl, s13 _ _ ha, TrialsL.same s13 ht, hl, s3 _ _ eg, by omega, fun H4 v s4 hv => ⟨rfl, _, rfl, ?_⟩⟩
      cases hf : firstGood ts g with
      | none =>
        rw [hf] at hv
        have hv : v = .non := hv
        refine ifTb (by rw [hv]; rfl) ⟨_, rfl, h H4 _ (Same.trans s13 s4) ?_⟩
        have hj : j < (groupsM ms i).length := (List.getElem?_eq_some_iff.mp hg).1
        have e : hopeless ts ms = some g := by
          unfold hopeless
          have e1 : (List.range (ms.length + 1)).flatMap (groupsM ms) = (List.range i).flatMap (groupsM ms) ++ (((groupsM ms i).take j) ++ g :: (((groupsM ms i).drop (j + 1)) ++ ((List.range (ms.length + 1)).drop (i + 1)).flatMap (groupsM ms))) := by
            conv => lhs; rw [← List.take_append_drop i (List.range (ms.length + 1))]
            rw [List.flatMap_append, List.take_range, Nat.min_eq_left (Nat.le_of_lt hi), List.drop_eq_getElem_cons (by rw [List.length_range]; exact hi), List.flatMap_cons, List.getElem_range]
            congr 1
            conv => lhs; rw [← List.take_append_drop j (groupsM ms i)]
            rw [List.drop_eq_getElem_cons hj, (List.getElem?_eq_some_iff.mp hg).2, List.append_assoc]
            rfl
          rw [e1]
          exact find_here f1 f3 (by rw [hf]; rfl)
        rw [e]
        exact ⟨c, rfl, s4 _ _ (s3 _ _ eg)⟩
      | some r =>
        rw [hf] at hv
        obtain ⟨q, hq, _⟩ := (show ∃ q, v = .ref q ∧ H4 q = some (.tup (vI r)) from hv)
        refine ifFb (by rw [hq]; rfl) ⟨_, rfl, Same.trans s3 s4, ?_⟩
        rw [take_snoc hg, List.find?_append, f3, Option.none_or, List.find?_cons, hf]
        rfl
    · rintro σ H3 ⟨v3, rfl, s3, f3⟩
      rw [List.length_map, gl, List.take_length] at f3
      refine ⟨_, v3, rfl, Same.trans s12 s3, ?_⟩
      rw [List.range_succ, List.flatMap_append, List.find?_append, f1, Option.none_or, List.flatMap_cons, List.flatMap_nil, List.append_nil]
      exact f3
  · rintro σ H1 ⟨v2, v3, rfl, s1, f1⟩
    refine h H1 _ s1 ?_
    rw [show hopeless ts ms = none from f1]
end
end RG
namespace RG
open PySem PySem.Spec PyProof.Rows L2
section
variable {prog : Program} {w : World} {A : Around}
/-- f(i) of the lambda `a: x[a]`, x captured -/
theorem lam_key {s : Shared} {Q : Value → Shared → Prop} {E : Value → Shared → Prop} {f c' c M : Addr} {qual x a : Str} {params : Arguments} {p1 p2 p3 : Pos} {scope : Scope} {cl : List (Str × Addr)} {pm ctv u : Value} {its : Array Value} {i : Int} {t : Tok}
    (hroom : A.depth < recursionLimit) (hf : s.heap.get? f = some (PySem.W.kla_obj "<lambda>" qual params (.Subscript (.Name x p1) (.Name a p2) p3) scope cl pm c' ctv)) (hcd : s.heap.CodeRec (.ref c') qual) (hnl : s.heap.NoLimit)
    (hbind : bindArgs (PySem.W.kla_fn "<lambda>" qual params (.Subscript (.Name x p1) (.Name a p2) p3) scope cl pm (.ref c') ctv) ⟨[.int i t], []⟩ = pure [(a, .int i t)])
    (kind : scope.kind = .function) (co : scope.isCoroutine = false) (gen : scope.isGenerator = false) (nocell : ∀ y ∈ scope.names, y.2 ≠ .cell) (ha : scope.names.lookup a = some .local) (hx : scope.names.lookup x = some .free)
    (hc : cl.lookup x = some c) (hcell : s.heap.IsCell c (some (.ref M))) (hl : s.heap.IsList M its) (h0 : 0 ≤ i) (hfit : i < 2 ^ 63) (hi : its[i.toNat]? = some u)
    (h : ∀ h' tk, (∀ b o, s.heap.get? b = some o → h'.get? b = some o) → s.toks ≤ tk → Q u { s with heap := h', toks := tk })
    (d1 : (a == ("__debug__" : Str)) = false := by decide) (d2 : (x == ("__debug__" : Str)) = false := by decide) (d3 : (x == ("__classdict__" : Str)) = false := by decide) :
    wpAny (model prog w) A (call (.ref f) [.int i t]) Q E s := by
  have rc : codeAny (model prog w) A (.call (.ref f) ⟨[.int i t], []⟩) (fun r s' => ∃ h' tk, r = .ok (.ret u) ∧ (∀ b o, s.heap.get? b = some o → h'.get? b = some o) ∧ s.toks ≤ tk ∧ s' = { s with heap := h', toks := tk }) s := by
    refine PySem.W.kla_callFunE hroom hf rfl co gen rfl hcd ?_
    rw [hbind]
    refine wpAny_pure (wpAny_newFunctionEnv nocell (fun y hy => by rw [List.mem_singleton.mp hy]; exact ha) (fun h₁ hns hsb => ⟨hnl.fresh _ hsb, ?_⟩) kind)
    have kp : ∀ b o, s.heap.get? b = some o → h₁.get? b = some o := fun b o e => hsb.extBut b o (Nat.ne_of_lt (Heap.lt_size e)) (Heap.get?_push_of_some _ e)
    refine PySem.W.kla_codeExpr ?_
    refine Subscript_ (wpAny_Name (wpAny_loadName_free (c := c) kind hx hc (let ⟨o, ho, hd⟩ := hcell; ⟨o, kp _ _ ho, hd⟩) ?_ d3) d2)
    refine wpAny_Name (wpAny_loadName_local kind ha hns (v := .int i t) (by simp) ?_) d1
    have hl1 : h₁.IsList M its := let ⟨o, ho, hd⟩ := hl; ⟨o, kp _ _ ho, hd⟩
    exact item_listR hl1 h0 hfit hi ⟨_, _, rfl, kp, Nat.le_add_right _ _, rfl⟩ (by with_unfolding_all rfl)
  refine wpAny_call (codeAny_mono rc fun r s' hq => ?_)
  obtain ⟨h', tk, rfl, k, le, rfl⟩ := hq
  exact h h' tk k le

/-- max(l, key=f), f the lambda `a: x[a]` -/
theorem max_key {s : Shared} {Q : Value → Shared → Prop} {E : Value → Shared → Prop} {l f c' c M : Addr} {qual x a : Str} {params : Arguments} {p1 p2 p3 : Pos} {scope : Scope} {cl : List (Str × Addr)} {pm ctv : Value} {vs its : Array Value} {js val : Nat → Int}
    (hh : A.handled = none) (hroom : A.depth < recursionLimit) (hf : s.heap.get? f = some (PySem.W.kla_obj "<lambda>" qual params (.Subscript (.Name x p1) (.Name a p2) p3) scope cl pm c' ctv)) (hcd : s.heap.CodeRec (.ref c') qual) (hnl : s.heap.NoLimit)
    (hbind : ∀ v, bindArgs (PySem.W.kla_fn "<lambda>" qual params (.Subscript (.Name x p1) (.Name a p2) p3) scope cl pm (.ref c') ctv) ⟨[v], []⟩ = pure [(a, v)])
    (kind : scope.kind = .function) (co : scope.isCoroutine = false) (gen : scope.isGenerator = false) (nocell : ∀ y ∈ scope.names, y.2 ≠ .cell) (ha : scope.names.lookup a = some .local) (hx : scope.names.lookup x = some .free)
    (hc : cl.lookup x = some c) (hcell : s.heap.IsCell c (some (.ref M))) (hM : s.heap.IsList M its) (hl : s.heap.IsList l vs) (hn : 0 < vs.size)
    (hv : ∀ (i : Nat) (v : Value), vs[i]? = some v → ∃ t, v = Value.int (js i) t) (hj : ∀ i, i < vs.size → 0 ≤ js i ∧ js i < 2 ^ 63 ∧ ∃ t, its[(js i).toNat]? = some (Value.int (val i) t))
    (h : ∀ h' tk v, (∀ b o, s.heap.get? b = some o → h'.get? b = some o) → vs[argBest (fun i j => decide (val i > val j)) (vs.size - 1)]? = some v → Q v { s with heap := h', toks := tk })
    (d1 : (a == ("__debug__" : Str)) = false := by decide) (d2 : (x == ("__debug__" : Str)) = false := by decide) (d3 : (x == ("__classdict__" : Str)) = false := by decide) :
    wpAny (model prog w) A (call (.builtin "max") [.ref l] [(Str.ofString "key", .ref f)]) Q E s := by
  refine call_max_walkK (PySem.W.iter_listW (A := A.in1) hh hl fun s₂ es W st hfp hout hk => ?_)
  have new : ∀ {b : Addr} {o : Obj}, s.heap.get? b = some o → b ≠ s₂.heap.objs.size ∧ b ≠ s.heap.objs.size := fun {b o} e => by
    have h1 := Heap.lt_size e
    refine ⟨?_, Nat.ne_of_lt h1⟩
    rw [es]
    show b ≠ (s.heap.push _).objs.size
    rw [Heap.size_push]
    exact Nat.ne_of_lt (Nat.lt_succ_of_lt h1)
  refine ⟨_, _, _, _, _, _, _, fun s' => (∃ h' tk, s' = { s with heap := h', toks := tk }) ∧ ∀ b o, s.heap.get? b = some o → s'.heap.get? b = some o, fun i k _ => ∃ t, k = .int (val i) t, fun i j => decide (val i > val j), rfl, W, st, hfp, hn, ⟨?_, ?_, ?_, ?_⟩, ⟨⟨_, _, by rw [es]⟩, hk⟩, fun v s' hP hJ => ?_⟩
  · rintro s1 s2 ⟨⟨h1, t1, e1⟩, k1⟩ m
    refine ⟨⟨s2.heap, s2.toks, ?_⟩, fun b o e => m.heap b o (fun hm => ?_) (k1 b o e)⟩
    · have hg := m.gens
      have hd := m.drawn
      have ho := m.os
      rw [e1] at hg hd ho
      obtain ⟨_, _, _, _, _⟩ := s2
      simp only at hg hd ho ⊢
      rw [hg, hd, ho]
    · rcases List.mem_cons.mp hm with z | z
      · exact (new e).1 z
      · exact (new e).2 (List.mem_singleton.mp z)
  · rintro i k s1 s2 hV _
    exact hV
  · rintro i v s1 o Q1 E1 hi hP ⟨⟨h1, t1, e1⟩, k1⟩ hst hS cont
    obtain ⟨t, rfl⟩ := hv i v hP
    obtain ⟨g0, g1, t2, g2⟩ := hj i hi
    have kc : s1.heap.IsCell c (some (.ref M)) := let ⟨o, ho, hd⟩ := hcell; ⟨o, k1 _ _ ho, hd⟩
    have kM : s1.heap.IsList M its := let ⟨o, ho, hd⟩ := hM; ⟨o, k1 _ _ ho, hd⟩
    refine lam_key (A := A.in1) hroom (k1 _ _ hf) (hcd.keeps k1) (hnl.keeps k1) (hbind _) kind co gen nocell ha hx hc kc kM g0 g1 g2 (fun h' tk kp le => ?_) d1 d2 d3
    refine cont _ _ ⟨⟨h', tk, by rw [e1]⟩, fun b o e => kp _ _ (k1 b o e)⟩ (W.frame _ _ _ _ hst le fun b _ o e => kp b o e) (kp _ _ hS) ⟨t2, rfl⟩ fun j k' z => z
  · rintro i j ki kj s1 Q1 E1 _ hi hj2 q
    exact CmpOf.ints_gt (P := fun i v => ∃ t, v = .int (val i) t) val (fun _ _ z => z) i j ki kj s1 Q1 E1 hi hj2 q
  · obtain ⟨⟨h', tk, e⟩, kp⟩ := hJ
    have := h h' tk v (by rw [e] at kp; exact kp) hP
    rw [e]
    exact this

/-- min(l, key=f), f the lambda `a: x[a]` -/
theorem min_key {s : Shared} {Q : Value → Shared → Prop} {E : Value → Shared → Prop} {l f c' c M : Addr} {qual x a : Str} {params : Arguments} {p1 p2 p3 : Pos} {scope : Scope} {cl : List (Str × Addr)} {pm ctv : Value} {vs its : Array Value} {js val : Nat → Int}
    (hh : A.handled = none) (hroom : A.depth < recursionLimit) (hf : s.heap.get? f = some (PySem.W.kla_obj "<lambda>" qual params (.Subscript (.Name x p1) (.Name a p2) p3) scope cl pm c' ctv)) (hcd : s.heap.CodeRec (.ref c') qual) (hnl : s.heap.NoLimit)
    (hbind : ∀ v, bindArgs (PySem.W.kla_fn "<lambda>" qual params (.Subscript (.Name x p1) (.Name a p2) p3) scope cl pm (.ref c') ctv) ⟨[v], []⟩ = pure [(a, v)])
    (kind : scope.kind = .function) (co : scope.isCoroutine = false) (gen : scope.isGenerator = false) (nocell : ∀ y ∈ scope.names, y.2 ≠ .cell) (ha : scope.names.lookup a = some .local) (hx : scope.names.lookup x = some .free)
    (hc : cl.lookup x = some c) (hcell : s.heap.IsCell c (some (.ref M))) (hM : s.heap.IsList M its) (hl : s.heap.IsList l vs) (hn : 0 < vs.size)
    (hv : ∀ (i : Nat) (v : Value), vs[i]? = some v → ∃ t, v = Value.int (js i) t) (hj : ∀ i, i < vs.size → 0 ≤ js i ∧ js i < 2 ^ 63 ∧ ∃ t, its[(js i).toNat]? = some (Value.int (val i) t))
    (h : ∀ h' tk v, (∀ b o, s.heap.get? b = some o → h'.get? b = some o) → vs[argBest (fun i j => decide (val i < val j)) (vs.size - 1)]? = some v → Q v { s with heap := h', toks := tk })
    (d1 : (a == ("__debug__" : Str)) = false := by decide) (d2 : (x == ("__debug__" : Str)) = false := by decide) (d3 : (x == ("__classdict__" : Str)) = false := by decide) :
    wpAny (model prog w) A (call (.builtin "min") [.ref l] [(Str.ofString "key", .ref f)]) Q E s := by
  refine call_min_walkK (PySem.W.iter_listW (A := A.in1) hh hl fun s₂ es W st hfp hout hk => ?_)
  have new : ∀ {b : Addr} {o : Obj}, s.heap.get? b = some o → b ≠ s₂.heap.objs.size ∧ b ≠ s.heap.objs.size := fun {b o} e => by
    have h1 := Heap.lt_size e
    refine ⟨?_, Nat.ne_of_lt h1⟩
    rw [es]
    show b ≠ (s.heap.push _).objs.size
    rw [Heap.size_push]
    exact Nat.ne_of_lt (Nat.lt_succ_of_lt h1)
  refine ⟨_, _, _, _, _, _, _, fun s' => (∃ h' tk, s' = { s with heap := h', toks := tk }) ∧ ∀ b o, s.heap.get? b = some o → s'.heap.get? b = some o, fun i k _ => ∃ t, k = .int (val i) t, fun i j => decide (val i < val j), rfl, W, st, hfp, hn, ⟨?_, ?_, ?_, ?_⟩, ⟨⟨_, _, by rw [es]⟩, hk⟩, fun v s' hP hJ => ?_⟩
  · rintro s1 s2 ⟨⟨h1, t1, e1⟩, k1⟩ m
    refine ⟨⟨s2.heap, s2.toks, ?_⟩, fun b o e => m.heap b o (fun hm => ?_) (k1 b o e)⟩
    · have hg := m.gens
      have hd := m.drawn
      have ho := m.os
      rw [e1] at hg hd ho
      obtain ⟨_, _, _, _, _⟩ := s2
      simp only at hg hd ho ⊢
      rw [hg, hd, ho]
    · rcases List.mem_cons.mp hm with z | z
      · exact (new e).1 z
      · exact (new e).2 (List.mem_singleton.mp z)
  · rintro i k s1 s2 hV _
    exact hV
  · rintro i v s1 o Q1 E1 hi hP ⟨⟨h1, t1, e1⟩, k1⟩ hst hS cont
    obtain ⟨t, rfl⟩ := hv i v hP
    obtain ⟨g0, g1, t2, g2⟩ := hj i hi
    have kc : s1.heap.IsCell c (some (.ref M)) := let ⟨o, ho, hd⟩ := hcell; ⟨o, k1 _ _ ho, hd⟩
    have kM : s1.heap.IsList M its := let ⟨o, ho, hd⟩ := hM; ⟨o, k1 _ _ ho, hd⟩
    refine lam_key (A := A.in1) hroom (k1 _ _ hf) (hcd.keeps k1) (hnl.keeps k1) (hbind _) kind co gen nocell ha hx hc kc kM g0 g1 g2 (fun h' tk kp le => ?_) d1 d2 d3
    refine cont _ _ ⟨⟨h', tk, by rw [e1]⟩, fun b o e => kp _ _ (k1 b o e)⟩ (W.frame _ _ _ _ hst le fun b _ o e => kp b o e) (kp _ _ hS) ⟨t2, rfl⟩ fun j k' z => z
  · rintro i j ki kj s1 Q1 E1 _ hi hj2 q
    exact CmpOf.ints_lt (P := fun i v => ∃ t, v = .int (val i) t) val (fun _ _ z => z) i j ki kj s1 Q1 E1 hi hj2 q
  · obtain ⟨⟨h', tk, e⟩, kp⟩ := hJ
    have := h h' tk v (by rw [e] at kp; exact kp) hP
    rw [e]
    exact this
end
end RG
namespace RG
open PySem PySem.Spec PyProof.Rows L2 LamX
/-- a lambda with one parameter a, that captures x -/
def lamOk (sc scope : Scope) (a x : Str) : Bool :=
  decide (scope.kind = .function) && !scope.isCoroutine && !scope.isGenerator && scope.names.all (fun y => !decide (y.2 = .cell)) && decide (scope.names.lookup a = some .local) && decide (scope.names.lookup x = some .free) && scope.names.all fun y => !decide (y.2 = .free) || decide (sc.names.lookup y.1 = some .cell) || decide (sc.names.lookup y.1 = some .free)
theorem lamOk_of {sc scope : Scope} {a x : Str} (h : lamOk sc scope a x = true) : scope.kind = .function ∧ scope.isCoroutine = false ∧ scope.isGenerator = false ∧ (∀ y ∈ scope.names, y.2 ≠ .cell) ∧ scope.names.lookup a = some .local ∧ scope.names.lookup x = some .free ∧ ∀ y ∈ scope.names, y.2 = .free → sc.names.lookup y.1 = some .cell ∨ sc.names.lookup y.1 = some .free := by
  unfold lamOk at h
  simp only [Bool.and_eq_true, Bool.or_eq_true, Bool.not_eq_true', decide_eq_true_eq, decide_eq_false_iff_not, List.all_eq_true] at h
  obtain ⟨⟨⟨⟨⟨⟨h1, h2⟩, h3⟩, h4⟩, h5⟩, h6⟩, h7⟩ := h
  refine ⟨h1, h2, h3, h4, h5, h6, fun y hy e => ?_⟩
  rcases h7 y hy with (z | z) | z
  · exact absurd e z
  · exact .inl z
  · exact .inr z

def valK (ms : List (Option Nat)) (js : List Nat) (i : Nat) : Int := (((ms.getD (js.getD i 0) none).getD 0 : Nat) : Int)

def bestmax (ms : List (Option Nat)) (js : List Nat) : Nat := js.getD (argBest (fun i j => decide (valK ms js i > valK ms js j)) (js.length - 1)) 0
def tmaxKey (T : List (Addr × Str)) (te : TE) (i : Nat) : TE := fun σ H Q => te σ H fun y H1 => ∃ (l M : Addr) (js : List Nat) (ms : List (Option Nat)), y = .ref l ∧ H1 l = some (.lst (vN js)) ∧ js ≠ [] ∧ (∀ j ∈ js, ∃ m, ms[j]? = some (some m)) ∧ Tabs T H1 ∧ σ[i]? = some (some (.ref M)) ∧ H1 M = some (.lst (mVs ms)) ∧
  ∀ H2, ExtN H1 H2 → Tabs T H2 → Q (.int (bestmax ms js : Int)) H2
/-- max(e, key=lambda a: x[a]) -/
theorem pe_maxKey {X : Cx} {i k : Nat} {x a : Str} {e : Expr} {te : TE} {T : List (Addr × Str)} {c P : Addr} {params : Arguments} {p p1 p2 p3 lpos kpos pos : Pos} {scope : Scope} (hc : X.calm = true) (hr : Room k X.A) (hg : Gl X "max") (hm : X.mg "max" = none) (he : PE X e te)
    (TB : TabB X.base X.mg c P) (hcode : X.env.code = .ref c) (hmT : (P, X.env.qual ++ "<lambda>") ∈ T) (hu : ∀ p ∈ T, p.1 = P → p.2 = X.env.qual ++ "<lambda>") (hN : X.N[i]? = some x) (hvis : Vis X.env.scope x) (L : lamOk X.env.scope scope a x = true) (hdef : defaultsOf params X.env = ([], []))
    (hbind : ∀ (q : Str) (cl : List (Str × Addr)) (pm cv ctv v : Value), bindArgs (PySem.W.kla_fn "<lambda>" q params (.Subscript (.Name x p1) (.Name a p2) p3) scope cl pm cv ctv) ⟨[v], []⟩ = pure [(a, v)])
    (d1 : (a == ("__debug__" : Str)) = false := by decide) (d2 : (x == ("__debug__" : Str)) = false := by decide) (d3 : (x == ("__classdict__" : Str)) = false := by decide)
    (hes : starEach [e] X.env = (false, eval e X.env) :: starEach [] X.env := by rfl) :
    PE X (.Call (.Name "max" p) [e] [⟨some "key", .Lambda params (.Subscript (.Name x p1) (.Name a p2) p3) scope lpos, kpos⟩] pos) (tmaxKey T te i) := by
  obtain ⟨kind, co, gen, nocell, ha, hx, hfree⟩ := lamOk_of L
  refine ⟨fun pins s σ H Q I h => ?_⟩
  refine wpAny_Call_Name_kw (ld_blt I hg hm boot_max ?_)
  refine PyProof.Rows.callWith_kw (thn ((pa_cons he pa_nil hes).run pos pins s σ H (fun vs H1 => match vs with
    | [y] => ∃ (l M : Addr) (js : List Nat) (ms : List (Option Nat)), y = .ref l ∧ H1 l = some (.lst (vN js)) ∧ js ≠ [] ∧ (∀ j ∈ js, ∃ m, ms[j]? = some (some m)) ∧ Tabs T H1 ∧ σ[i]? = some (some (.ref M)) ∧ H1 M = some (.lst (mVs ms)) ∧ ∀ H2, ExtN H1 H2 → Tabs T H2 → Q (.int (bestmax ms js : Int)) H2
    | _ => False) I h) fun us s1 ⟨vs, H1, I1, r1, q1⟩ => ?_) (by rw [hes]; rfl) (by rw [hes]; rfl) (by rfl) (by rfl)
  match vs, r1, q1 with
  | [y], r1, q1 =>
  obtain ⟨l, M, js, ms, rfl, hl, hne, hjs, hT, hσ, hM, q⟩ := q1
  obtain rfl : us = [.ref l] := Vals.ref1 r1
  show wpAny _ _ (evalAll [(do let v ← eval (.Lambda params (.Subscript (.Name x p1) (.Name a p2) p3) scope lpos) X.env; standAt pos; pure v)]) _ _ s1
  have has : ∀ y ∈ scope.names, y.2 = .free → ∃ c, X.env.cells.lookup y.1 = some c := fun y hy e => by
    rcases hfree y hy e with z | z
    · exact I1.ok.has _ (.inl z)
    · exact I1.ok.has _ (.inr z)
  refine wpAny_evalAll_cons (wpAny_bind (lam_make2 I1 TB hcode hmT hu hT hdef has fun f c' pm ctv H2 s2 I2 eN T2 hf hfn hfr hco => wpAny_bind (wpAny_standAt (wpAny_pure ?_))))
  refine wpAny_evalAll_nil ?_
  show wpAny _ _ (call (.builtin "max") [.ref l] [(Str.ofString "key", .ref f)]) _ _ s2
  have hl2 := eN _ _ hl (fun _ z => nomatch z)
  have hM2 := eN _ _ hM (fun _ z => nomatch z)
  obtain ⟨lits, lr, lp, _⟩ := I2.list (SqL.of (K := X.K) hl2)
  obtain ⟨mits, mr, mp, mz⟩ := I2.list (SqL.of (K := X.K) hM2)
  obtain ⟨⟨oc, vs', t, hoc, hdc, hvc⟩, _, _⟩ := I2.hok c' _ hco
  have ll : lits.length = js.length := by
    have := lr.length
    rw [List.length_map] at this
    exact this.symm
  obtain ⟨cc, hcl, hcell⟩ : ∃ cc, (cloFrom X.env.cells scope.names []).lookup x = some cc ∧ s2.heap.IsCell cc (some (.ref M)) := by
    have hxf : (x, NameKind.free) ∈ scope.names := PySem.mem_of_lookup hx
    obtain ⟨cc, hcc⟩ : ∃ cc, (cloFrom X.env.cells scope.names []).lookup x = some cc := mem_lookup (cloFrom_has (cells := X.env.cells) (acc := []) hxf)
    have cm : X.env.cells.lookup x = some cc := by
      rcases cloFrom_mem (PySem.mem_of_lookup hcc) with hm | ⟨h1, h2⟩
      · cases hm
      · obtain ⟨c1, hc1⟩ := has _ h1 rfl
        have hc1 : X.env.cells.lookup x = some c1 := hc1
        have e2 : cc = c1 := by
          rw [h2, hc1] <;> rfl
        rw [e2]
        exact hc1
    obtain ⟨m, hn, hl'⟩ := I2.loc
    obtain ⟨w', r, qq⟩ := hl' i x (.ref M) hN hσ hvis
    cases r
    rcases qq with ⟨k', _⟩ | ⟨_, c3, e', z⟩
    · have k' : X.env.scope.names.lookup x = some .local := k'
      rcases hfree _ hxf rfl with k2 | k2 <;> rw [show X.env.scope.names.lookup x = _ from k2] at k' <;> cases k'
    · rw [cm] at e'
      cases e'
      exact ⟨cc, hcc, z⟩
  have jsAt : ∀ {j : Nat}, j < js.length → js[j]? = some (js.getD j 0) := fun {j} hj => by
    rw [List.getD_eq_getElem?_getD, List.getElem?_eq_getElem hj]
    rfl
  refine max_key (val := valK ms js) (js := fun i => ((js.getD i 0 : Nat) : Int)) (I2.ok.hd hc) hr.depth hf ⟨c', oc, vs', t, rfl, hoc, hdc, hvc⟩ I2.nolimit (fun v => hbind _ _ _ _ _ _) kind co gen nocell ha hx hcl hcell mp.isList lp.isList ?_ ?_ ?_ ?_ d1 d2 d3
  · rw [List.size_toArray, ll]
    exact List.length_pos_iff.mpr hne
  · intro j v hv
    have hj : j < js.length := by
      have := (Array.getElem?_eq_some_iff.mp hv).1
      rw [List.size_toArray, ll] at this
      exact this
    obtain ⟨u, hu1, hu2⟩ := lr.get (show (vN js)[j]? = some (.int ((js.getD j 0 : Nat) : Int)) by rw [List.getElem?_map, jsAt hj]; rfl)
    rw [List.getElem?_toArray, hu1] at hv
    cases hv
    exact hu2
  · intro j hj
    rw [List.size_toArray, ll] at hj
    obtain ⟨m, hm⟩ := hjs _ (List.mem_of_getElem? (jsAt hj))
    have hlt := (List.getElem?_eq_some_iff.mp hm).1
    obtain ⟨u, hu1, hu2⟩ := mr.get (mVs_at hm)
    obtain ⟨t, ht⟩ := (show ∃ t, u = Value.int (m : Int) t from hu2)
    have hz : ms.length ≤ 16777216 := by
      have := mz
      rw [mVs_len, sizeLine_eq] at this
      exact this
    refine ⟨by omega, by omega, t, ?_⟩
    rw [List.getElem?_toArray, Int.toNat_natCast, hu1, ht]
    unfold valK
    rw [List.getD_eq_getElem?_getD, hm]
    rfl
  · intro h' tk v kp hP
    have hb : argBest (fun i j => decide (valK ms js i > valK ms js j)) (js.length - 1) < js.length := by
      have h1 := (PySem.argBest_gt (valK ms js) (js.length - 1)).1
      have h2 := List.length_pos_iff.mpr hne
      omega
    rw [List.size_toArray, ll] at hP
    obtain ⟨u, hu1, hu2⟩ := lr.get (show (vN js)[argBest (fun i j => decide (valK ms js i > valK ms js j)) (js.length - 1)]? = some (.int ((js.getD (argBest (fun i j => decide (valK ms js i > valK ms js j)) (js.length - 1)) 0 : Nat) : Int)) by rw [List.getElem?_map, jsAt hb]; rfl)
    rw [List.getElem?_toArray, hu1] at hP
    cases hP
    exact ⟨.int (bestmax ms js : Int), H2, I2.kept kp, hu2, q H2 eN T2⟩
def bestmin (ms : List (Option Nat)) (js : List Nat) : Nat := js.getD (argBest (fun i j => decide (valK ms js i < valK ms js j)) (js.length - 1)) 0
def tminKey (T : List (Addr × Str)) (te : TE) (i : Nat) : TE := fun σ H Q => te σ H fun y H1 => ∃ (l M : Addr) (js : List Nat) (ms : List (Option Nat)), y = .ref l ∧ H1 l = some (.lst (vN js)) ∧ js ≠ [] ∧ (∀ j ∈ js, ∃ m, ms[j]? = some (some m)) ∧ Tabs T H1 ∧ σ[i]? = some (some (.ref M)) ∧ H1 M = some (.lst (mVs ms)) ∧
  ∀ H2, ExtN H1 H2 → Tabs T H2 → Q (.int (bestmin ms js : Int)) H2
/-- min(e, key=lambda a: x[a]) -/
theorem pe_minKey {X : Cx} {i k : Nat} {x a : Str} {e : Expr} {te : TE} {T : List (Addr × Str)} {c P : Addr} {params : Arguments} {p p1 p2 p3 lpos kpos pos : Pos} {scope : Scope} (hc : X.calm = true) (hr : Room k X.A) (hg : Gl X "min") (hm : X.mg "min" = none) (he : PE X e te)
    (TB : TabB X.base X.mg c P) (hcode : X.env.code = .ref c) (hmT : (P, X.env.qual ++ "<lambda>") ∈ T) (hu : ∀ p ∈ T, p.1 = P → p.2 = X.env.qual ++ "<lambda>") (hN : X.N[i]? = some x) (hvis : Vis X.env.scope x) (L : lamOk X.env.scope scope a x = true) (hdef : defaultsOf params X.env = ([], []))
    (hbind : ∀ (q : Str) (cl : List (Str × Addr)) (pm cv ctv v : Value), bindArgs (PySem.W.kla_fn "<lambda>" q params (.Subscript (.Name x p1) (.Name a p2) p3) scope cl pm cv ctv) ⟨[v], []⟩ = pure [(a, v)])
    (d1 : (a == ("__debug__" : Str)) = false := by decide) (d2 : (x == ("__debug__" : Str)) = false := by decide) (d3 : (x == ("__classdict__" : Str)) = false := by decide)
    (hes : starEach [e] X.env = (false, eval e X.env) :: starEach [] X.env := by rfl) :
    PE X (.Call (.Name "min" p) [e] [⟨some "key", .Lambda params (.Subscript (.Name x p1) (.Name a p2) p3) scope lpos, kpos⟩] pos) (tminKey T te i) := by
  obtain ⟨kind, co, gen, nocell, ha, hx, hfree⟩ := lamOk_of L
  refine ⟨fun pins s σ H Q I h => ?_⟩
  refine wpAny_Call_Name_kw (ld_blt I hg hm boot_min ?_)
  refine PyProof.Rows.callWith_kw (thn ((pa_cons he pa_nil hes).run pos pins s σ H (fun vs H1 => match vs with
    | [y] => ∃ (l M : Addr) (js : List Nat) (ms : List (Option Nat)), y = .ref l ∧ H1 l = some (.lst (vN js)) ∧ js ≠ [] ∧ (∀ j ∈ js, ∃ m, ms[j]? = some (some m)) ∧ Tabs T H1 ∧ σ[i]? = some (some (.ref M)) ∧ H1 M = some (.lst (mVs ms)) ∧ ∀ H2, ExtN H1 H2 → Tabs T H2 → Q (.int (bestmin ms js : Int)) H2
    | _ => False) I h) fun us s1 ⟨vs, H1, I1, r1, q1⟩ => ?_) (by rw [hes]; rfl) (by rw [hes]; rfl) (by rfl) (by rfl)
  match vs, r1, q1 with
  | [y], r1, q1 =>
  obtain ⟨l, M, js, ms, rfl, hl, hne, hjs, hT, hσ, hM, q⟩ := q1
  obtain rfl : us = [.ref l] := Vals.ref1 r1
  show wpAny _ _ (evalAll [(do let v ← eval (.Lambda params (.Subscript (.Name x p1) (.Name a p2) p3) scope lpos) X.env; standAt pos; pure v)]) _ _ s1
  have has : ∀ y ∈ scope.names, y.2 = .free → ∃ c, X.env.cells.lookup y.1 = some c := fun y hy e => by
    rcases hfree y hy e with z | z
    · exact I1.ok.has _ (.inl z)
    · exact I1.ok.has _ (.inr z)
  refine wpAny_evalAll_cons (wpAny_bind (lam_make2 I1 TB hcode hmT hu hT hdef has fun f c' pm ctv H2 s2 I2 eN T2 hf hfn hfr hco => wpAny_bind (wpAny_standAt (wpAny_pure ?_))))
  refine wpAny_evalAll_nil ?_
  show wpAny _ _ (call (.builtin "min") [.ref l] [(Str.ofString "key", .ref f)]) _ _ s2
  have hl2 := eN _ _ hl (fun _ z => nomatch z)
  have hM2 := eN _ _ hM (fun _ z => nomatch z)
  obtain ⟨lits, lr, lp, _⟩ := I2.list (SqL.of (K := X.K) hl2)
  obtain ⟨mits, mr, mp, mz⟩ := I2.list (SqL.of (K := X.K) hM2)
  obtain ⟨⟨oc, vs', t, hoc, hdc, hvc⟩, _, _⟩ := I2.hok c' _ hco
  have ll : lits.length = js.length := by
    have := lr.length
    rw [List.length_map] at this
    exact this.symm
  obtain ⟨cc, hcl, hcell⟩ : ∃ cc, (cloFrom X.env.cells scope.names []).lookup x = some cc ∧ s2.heap.IsCell cc (some (.ref M)) := by
    have hxf : (x, NameKind.free) ∈ scope.names := PySem.mem_of_lookup hx
    obtain ⟨cc, hcc⟩ : ∃ cc, (cloFrom X.env.cells scope.names []).lookup x = some cc := mem_lookup (cloFrom_has (cells := X.env.cells) (acc := []) hxf)
    have cm : X.env.cells.lookup x = some cc := by
      rcases cloFrom_mem (PySem.mem_of_lookup hcc) with hm | ⟨h1, h2⟩
      · cases hm
      · obtain ⟨c1, hc1⟩ := has _ h1 rfl
        have hc1 : X.env.cells.lookup x = some c1 := hc1
        have e2 : cc = c1 := by
          rw [h2, hc1] <;> rfl
        rw [e2]
        exact hc1
    obtain ⟨m, hn, hl'⟩ := I2.loc
    obtain ⟨w', r, qq⟩ := hl' i x (.ref M) hN hσ hvis
    cases r
    rcases qq with ⟨k', _⟩ | ⟨_, c3, e', z⟩
    · have k' : X.env.scope.names.lookup x = some .local := k'
      rcases hfree _ hxf rfl with k2 | k2 <;> rw [show X.env.scope.names.lookup x = _ from k2] at k' <;> cases k'
    · rw [cm] at e'
      cases e'
      exact ⟨cc, hcc, z⟩
  have jsAt : ∀ {j : Nat}, j < js.length → js[j]? = some (js.getD j 0) := fun {j} hj => by
    rw [List.getD_eq_getElem?_getD, List.getElem?_eq_getElem hj]
    rfl
  refine min_key (val := valK ms js) (js := fun i => ((js.getD i 0 : Nat) : Int)) (I2.ok.hd hc) hr.depth hf ⟨c', oc, vs', t, rfl, hoc, hdc, hvc⟩ I2.nolimit (fun v => hbind _ _ _ _ _ _) kind co gen nocell ha hx hcl hcell mp.isList lp.isList ?_ ?_ ?_ ?_ d1 d2 d3
  · rw [List.size_toArray, ll]
    exact List.length_pos_iff.mpr hne
  · intro j v hv
    have hj : j < js.length := by
      have := (Array.getElem?_eq_some_iff.mp hv).1
      rw [List.size_toArray, ll] at this
      exact this
    obtain ⟨u, hu1, hu2⟩ := lr.get (show (vN js)[j]? = some (.int ((js.getD j 0 : Nat) : Int)) by rw [List.getElem?_map, jsAt hj]; rfl)
    rw [List.getElem?_toArray, hu1] at hv
    cases hv
    exact hu2
  · intro j hj
    rw [List.size_toArray, ll] at hj
    obtain ⟨m, hm⟩ := hjs _ (List.mem_of_getElem? (jsAt hj))
    have hlt := (List.getElem?_eq_some_iff.mp hm).1
    obtain ⟨u, hu1, hu2⟩ := mr.get (mVs_at hm)
    obtain ⟨t, ht⟩ := (show ∃ t, u = Value.int (m : Int) t from hu2)
    have hz : ms.length ≤ 16777216 := by
      have := mz
      rw [mVs_len, sizeLine_eq] at this
      exact this
    refine ⟨by omega, by omega, t, ?_⟩
    rw [List.getElem?_toArray, Int.toNat_natCast, hu1, ht]
    unfold valK
    rw [List.getD_eq_getElem?_getD, hm]
    rfl
  · intro h' tk v kp hP
    have hb : argBest (fun i j => decide (valK ms js i < valK ms js j)) (js.length - 1) < js.length := by
      have h1 := (PySem.argBest_lt (valK ms js) (js.length - 1)).1
      have h2 := List.length_pos_iff.mpr hne
      omega
    rw [List.size_toArray, ll] at hP
    obtain ⟨u, hu1, hu2⟩ := lr.get (show (vN js)[argBest (fun i j => decide (valK ms js i < valK ms js j)) (js.length - 1)]? = some (.int ((js.getD (argBest (fun i j => decide (valK ms js i < valK ms js j)) (js.length - 1)) 0 : Nat) : Int)) by rw [List.getElem?_map, jsAt hb]; rfl)
    rw [List.getElem?_toArray, hu1] at hP
    cases hP
    exact ⟨.int (bestmin ms js : Int), H2, I2.kept kp, hu2, q H2 eN T2⟩
end RG
namespace RG
open PySem PySem.Spec PyProof.Rows L2
open LamX (Tabs ExtN TabB)
theorem Txt.defT {K : PySem.W.Frag} {mg : Str → Option Value} (T : Txt K mg) {x : Str} {st : Stmt} (i j : Nat) (e1 : fn[i]? = some (⟨(x, none), x, x, defArgs st, defBody st, defScope st, [], []⟩ : He.DefD)) (e2 : fa[j]? = some (.glo x)) : ∃ fd, DefF K mg x st (He.fAd K (x, none)) fd := by
  have g := T.glo (T.fact j e2)
  obtain ⟨h, X, G, c⟩ := T
  obtain ⟨fd, F⟩ := c.d.def_ i e1
  exact ⟨fd, g, F⟩
theorem lamOk_at {sc scope : Scope} {a x : Str} (h : lamOk sc scope a x = true) : lamOk sc scope a x = true := h
/-- the lambdas' tables: the table of a def, the lambda's name -/
def lamT (K : PySem.W.Frag) : List (Addr × Str) := [((He.cT K ("against_them", none)).2, "against_them.<locals>.<lambda>"), ((He.cT K ("helping_them", none)).2, "helping_them.<locals>.<lambda>")]
/-- what is asked of the tables -/
structure TB (K : PySem.W.Frag) (mg : Str → Option Value) (base : Heap) : Prop where
  ag : TabB base mg (He.cT K ("against_them", none)).1 (He.cT K ("against_them", none)).2
  he : TabB base mg (He.cT K ("helping_them", none)).1 (He.cT K ("helping_them", none)).2
  ne : (He.cT K ("against_them", none)).2 ≠ (He.cT K ("helping_them", none)).2
section
variable {P : Program} {w : World} {K : PySem.W.Frag} {mg : Str → Option Value} {base : Heap} {k : Nat} {x : Str} {ps N : List Str} {sp : Sp} {st : Stmt}
theorem def_okT (T : ∃ fd, DefF K mg x st (He.fAd K (x, none)) fd) (S : FnScope N ps (defScope st)) (B : BindT x x st ps) (len : ∀ vs H Q E, sp vs H Q E → vs.length = ps.length)
    (hbody : ∀ (f : Addr) (A : Around) (outer : List Env) (s : Shared) (H : Hp) (vs : List V) (Q : VK) (E : XK), Room k (A.deeper (envOfC x (defScope st) s.heap.objs.size f (.ref (He.cT K (x, none)).1))) → sp vs H Q E →
      ∃ t, PSs (cxOf CX0 P w K mg base N x (defScope st) f (.ref (He.cT K (x, none)).1) A outer s H E).nox (defBody st) t ∧ t { nx := fun _ H' => Q .non H', rt := Q } (start N vs) H) : DefOk P w K mg base (k + 1) x ps sp := by
  obtain ⟨fd, g, F⟩ := T
  refine ⟨_, fd, g, F.kp, F.bindsN B, ?_⟩
  obtain ⟨oc, od, dV, kV, doc, pm, an, cdv, ct, osl, rfl, lk, hcd, _, _⟩ := F.ex
  obtain ⟨c, rfl⟩ := He.codeIn_ref hcd
  have e : (He.cT K (x, none)).1 = c := He.codeOf_eq lk rfl
  refine fn_of lk hcd S len fun A outer s H vs Q E hr hsp => ?_
  rw [← e] at hr ⊢
  obtain ⟨t, h1, h2⟩ := hbody _ A outer s H vs Q E hr hsp
  exact ⟨t, h1.nox, h2⟩
end
section
variable {P : Program} {w : World} {K : PySem.W.Frag} {mg : Str → Option Value} {base : Heap}
/-- chosen against them -/
def againstM (ms : List (Option Nat)) (js : List Nat) : Nat := match js.find? fun j => (ms.getD j none).isNone with
  | some j => j
  | none => bestmax ms js
def spAgainst (K : PySem.W.Frag) : Sp := fun vs H Q _ => ∃ (a b : Addr) (js : List Nat) (ms : List (Option Nat)), vs = [.ref a, .ref b] ∧ H a = some (.lst (vN js)) ∧ H b = some (.lst (mVs ms)) ∧ js ≠ [] ∧ (∀ j ∈ js, j < ms.length) ∧ Tabs (lamT K) H ∧
  ∀ H', ExtN H H' → Tabs (lamT K) H' → Q (.int (againstM ms js : Int)) H'
abbrev NAgainst : List Str := ["coming", "most", "name"]
theorem sc_against_them : FnScope NAgainst ["coming", "most"] (defScope s_against_them) := ⟨rfl, rfl, rfl, by decide +kernel, rfl, by decide +kernel, by decide +kernel⟩
theorem F_against_themT (T : Txt K mg) : ∃ fd, DefF K mg "against_them" s_against_them (He.fAd K ("against_them", none)) fd := T.defT 31 31 rfl rfl
theorem ok_against_them (T : Txt K mg) (B : TB K mg base) : DefOk P w K mg base 1 "against_them" ["coming", "most"] (spAgainst K) := by
  refine def_okT (F_against_themT T) sc_against_them (fun _ _ _ _ _ _ us hl => match us, hl with | [_, _], _ => rfl) (fun vs H Q E h => by obtain ⟨c, e, _, _, rfl, _⟩ := h; rfl) fun f A outer s H vs Q E hr h => ?_
  obtain ⟨a, b, js, ms, rfl, ha, hb, hne, hlt, hT, h⟩ := h
  refine ⟨_, pss_cons (ps_for PassesOwn.never rfl (pi_list (pv 0)) (pg_name (i := 2) sc_against_them.nd rfl (Or.inl rfl))
      (pss_one (ps_if (pt_cmpR op_isN (pe_ix ix_list (pv 1) (pv 2) (fun _ _ => rfl)) pe_non (nomark _)) (pss_one (ps_ret (pv 2))) pss_nil)))
    (pss_one (ps_ret (pe_maxKey (i := 1) (T := lamT K) (by rfl) hr (by rfl) T.b_max (pv 0) B.ag rfl (List.mem_cons_self ..) (fun p hp e => ?_) rfl (by first | exact Or.inr (Or.inl rfl) | exact Or.inl rfl) (lamOk_at (sc := defScope s_against_them) (by decide +kernel)) rfl (fun _ _ _ _ _ _ => rfl)))), ?_⟩
  · rcases List.mem_cons.mp hp with z | z
    · rw [z]
      rfl
    · rw [List.mem_singleton.mp z] at e
      exact absurd e.symm B.ne
  refine ⟨_, rfl, a, rfl, ⟨_, SqL.of ha⟩, ?_⟩
  refine for_list (K := K) (a := a) (xs := vN js) (fun i σ H' => ∃ v2, σ = [some (.ref a), some (.ref b), v2] ∧ H' = H ∧ (js.take i).find? (fun j => (ms.getD j none).isNone) = none) ⟨none, rfl, rfl, rfl⟩ (fun i σ H' _ ⟨_, _, z, _⟩ => by rw [z]; exact SqL.of ha) ?_ ?_
  · rintro i x σ H1 hx ⟨v2, rfl, rfl, f1⟩
    obtain ⟨j, hj, rfl⟩ := vN_at hx
    have hjl := hlt j (List.mem_of_getElem? hj)
    have ho : ms[j]? = some (ms.getD j none) := by
      rw [List.getD_eq_getElem?_getD, List.getElem?_eq_getElem hjl]
      rfl
    refine ⟨_, rfl, _, rfl, b, _, _, _, rfl, rfl, SqL.of hb, atI_nat (mVs_at ho), rfl, _, rfl, ?_⟩
    rw [mV_non]
    cases c : (ms.getD j none).isNone with
    | true =>
      have e : againstM ms js = j := by
        unfold againstM
        have : js = js.take i ++ ([] ++ j :: js.drop (i + 1)) := by
          conv => lhs; rw [← List.take_append_drop i js]
          rw [List.drop_eq_getElem_cons (List.getElem?_eq_some_iff.mp hj).1, (List.getElem?_eq_some_iff.mp hj).2]
          rfl
        have hf : js.find? (fun j => (ms.getD j none).isNone) = some j := by
          rw [this]
          exact find_here (b := []) f1 rfl c
        rw [hf]
      refine ifTb rfl ⟨_, rfl, ?_⟩
      rw [← e]
      exact h H1 (ExtN.refl H1) hT
    | false =>
      refine ifFb rfl ⟨_, rfl, rfl, ?_⟩
      rw [take_snoc hj, List.find?_append, f1, Option.none_or, List.find?_cons, c]
      rfl
  · rintro σ H1 ⟨v2, rfl, rfl, f1⟩
    rw [List.length_map, List.take_length] at f1
    refine ⟨_, rfl, a, b, js, ms, rfl, ha, hne, fun j hj => ?_, hT, rfl, hb, fun H2 e2 t2 => ?_⟩
    · have hn := List.find?_eq_none.mp f1 j hj
      have hjl := hlt j hj
      cases c : ms.getD j none with
      | none => rw [c] at hn; exact absurd rfl hn
      | some m =>
        refine ⟨m, ?_⟩
        rw [← c, List.getD_eq_getElem?_getD, List.getElem?_eq_getElem hjl]
        rfl
    · have e : againstM ms js = bestmax ms js := by
        unfold againstM
        rw [f1]
      rw [← e]
      exact h H2 e2 t2
/-- chosen to help them -/
def ableL (ms : List (Option Nat)) (js : List Nat) : List Nat := js.filter fun j => (ms.getD j none).isSome
def helpM (ms : List (Option Nat)) (js : List Nat) : Nat := if ableL ms js = [] then js.getD 0 0 else bestmin ms (ableL ms js)
def spHelping (K : PySem.W.Frag) : Sp := fun vs H Q _ => ∃ (a b : Addr) (js : List Nat) (ms : List (Option Nat)), vs = [.ref a, .ref b] ∧ H a = some (.lst (vN js)) ∧ H b = some (.lst (mVs ms)) ∧ js ≠ [] ∧ js.length ≤ 64 ∧ (∀ j ∈ js, j < ms.length) ∧ Tabs (lamT K) H ∧
  ∀ H', ExtN H H' → Tabs (lamT K) H' → Q (.int (helpM ms js : Int)) H'
abbrev NHelping : List Str := ["coming", "fewest", "able", "name"]
theorem sc_helping_them : FnScope NHelping ["coming", "fewest"] (defScope s_helping_them) := ⟨rfl, rfl, rfl, by decide +kernel, rfl, by decide +kernel, by decide +kernel⟩
theorem F_helping_themT (T : Txt K mg) : ∃ fd, DefF K mg "helping_them" s_helping_them (He.fAd K ("helping_them", none)) fd := T.defT 32 32 rfl rfl
theorem ok_helping_them (T : Txt K mg) (B : TB K mg base) : DefOk P w K mg base 1 "helping_them" ["coming", "fewest"] (spHelping K) := by
  refine def_okT (F_helping_themT T) sc_helping_them (fun _ _ _ _ _ _ us hl => match us, hl with | [_, _], _ => rfl) (fun vs H Q E h => by obtain ⟨c, e, _, _, rfl, _⟩ := h; rfl) fun f A outer s H vs Q E hr h => ?_
  obtain ⟨a, b, js, ms, rfl, ha, hb, hne, h64, hlt, hT, h⟩ := h
  refine ⟨_, pss_cons (ps_setLc (i := 2) (own := [("name", 3)]) (g := gName 3) (by rfl) sc_helping_them.nd rfl rfl (sw_true rfl rfl rfl (by decide +kernel)) (pi_list (pv 0)) (blkOk_by (N := NHelping) (sc := defScope s_helping_them) (own := [("name", 3)]) (by decide +kernel))
      (fun _ _ _ _ _ => pg_name (i := 3) sc_helping_them.nd rfl (Or.inl rfl)) (fun _ _ _ _ _ => pts_one (pt_cmpR op_notN (pe_ix (r := rIxL K) ix_list (pv 1) (pv 3) (fun _ _ => rfl)) pe_non (nomark _))) (fun _ _ _ _ _ => pv 3))
    (pss_cons (ps_if (pt_not (pt_truth (pv 2) (by intro _; rfl))) (pss_one (ps_ret (pe_ix ix_list (pv 0) pe_int (fun _ _ => rfl)))) pss_nil)
    (pss_one (ps_ret (pe_minKey (i := 1) (T := lamT K) (by rfl) hr (by rfl) T.b_min (pv 2) B.he rfl (List.mem_cons_of_mem _ (List.mem_cons_self ..)) (fun p hp e => ?_) rfl (by first | exact Or.inr (Or.inl rfl) | exact Or.inl rfl) (lamOk_at (sc := defScope s_helping_them) (by decide +kernel)) rfl (fun _ _ _ _ _ _ => rfl))))), ?_⟩
  · rcases List.mem_cons.mp hp with z | z
    · rw [z] at e
      exact absurd e B.ne
    · rw [List.mem_singleton.mp z]
      rfl
  refine ⟨_, rfl, a, rfl, ⟨_, SqL.of ha⟩, fun D hD => ?_⟩
  refine lc_list (K := K) (a := a) (xs := vN js) (fun i H' => Same H H' ∧ H' D = some (.lst (vN (ableL ms (js.take i))))) ⟨Same.new (Same.refl H) hD, upd_same⟩ (fun i H1 _ ⟨s1, _⟩ => SqL.of (s1 _ _ ha)) (fun i x H1 hx ⟨s1, d1⟩ => ?_) fun H1 ⟨s1, d1⟩ => ?_
  · obtain ⟨j, hj, rfl⟩ := vN_at hx
    have hjl := hlt j (List.mem_of_getElem? hj)
    have ho : ms[j]? = some (ms.getD j none) := by
      rw [List.getD_eq_getElem?_getD, List.getElem?_eq_getElem hjl]
      rfl
    refine ⟨rfl, _, rfl, _, rfl, b, _, _, _, rfl, rfl, SqL.of (s1 _ _ hb), atI_nat (mVs_at ho), rfl, _, rfl, ?_⟩
    rw [mV_non, Option.not_isNone, take_snoc hj]
    unfold ableL
    rw [List.filter_append, List.filter_cons, List.filter_nil]
    cases c : (ms.getD j none).isSome with
    | true =>
      refine ifTb rfl ⟨_, rfl, _, d1, ?_, Same.at_ s1 hD, ?_⟩
      · rw [List.length_map]
        unfold ableL
        refine Nat.lt_of_le_of_lt (Nat.le_trans (List.length_filter_le _ _) (show _ ≤ 64 from ?_)) (by decide)
        rw [List.length_take]
        omega
      · rw [upd_same, if_pos rfl, vN_app]
        rfl
    | false =>
      refine ifFb rfl ⟨s1, ?_⟩
      rw [if_neg (by decide), List.append_nil]
      exact d1
  · rw [List.length_map, List.take_length] at d1
    have T1 := hT.ext s1
    refine ⟨_, rfl, !(vN (ableL ms js)).isEmpty, .inl ⟨_, SqL.of d1, rfl⟩, ?_⟩
    by_cases ce : ableL ms js = []
    · have h0 : atI (vN js) ((0 : Nat) : Int) = some (V.int ((js.getD 0 0 : Nat) : Int)) := by
        refine atI_nat ?_
        cases js with
        | nil => exact absurd rfl hne
        | cons j js => rfl
      refine ifTb (by rw [ce]; rfl) ⟨_, rfl, a, vN js, _, _, rfl, rfl, SqL.of (s1 _ _ ha), h0, ?_⟩
      · have e : helpM ms js = js.getD 0 0 := by
          unfold helpM
          rw [if_pos ce]
        rw [← e]
        exact h H1 (ExtN.of s1) T1
    · refine ifFb (by
        cases hA : ableL ms js with
        | nil => exact absurd hA ce
        | cons _ _ => rfl) ?_
      refine ⟨_, rfl, D, b, ableL ms js, ms, rfl, d1, ce, fun j hj => ?_, T1, rfl, s1 _ _ hb, fun H2 e2 t2 => ?_⟩
      · obtain ⟨h1, h2⟩ := List.mem_filter.mp hj
        have hjl := hlt j h1
        cases c : ms.getD j none with
        | none => rw [c] at h2; cases h2
        | some m =>
          refine ⟨m, ?_⟩
          rw [← c, List.getD_eq_getElem?_getD, List.getElem?_eq_getElem hjl]
          rfl
      · have e : helpM ms js = bestmin ms (ableL ms js) := by
          unfold helpM
          rw [if_neg ce]
        rw [← e]
        exact h H2 (ExtN.trans (ExtN.of s1) e2) t2
end
end RG
namespace RG
open PySem PySem.Spec PyProof.Rows L2
structure StD where
  n : Nat
  e : Nat
  k : Nat
  m : Nat
  R : List Int
  ms : List Nat
  past : List Nat
def StD.now (d : StD) : Nat := d.past.getLastD 0
structure StOk (d : StD) : Prop where
  dims : Dims d.n d.e d.k
  m2 : d.m ≤ 2
  rl : d.R.length = (viewsM d.n d.e d.k).length
  ne : d.past ≠ []
  p60 : d.past.length ≤ 60
  plt : ∀ i ∈ d.past, i < (namesM d.n d.k).length
  rise : d.ms.Pairwise (· < ·)
  mlt : ∀ i ∈ d.ms, i < (namesM d.n d.k).length
theorem StOk.nowlt {d : StD} (o : StOk d) : d.now < (namesM d.n d.k).length := by
  refine o.plt _ ?_
  unfold StD.now
  rw [List.getLastD_eq_getLast?, List.getLast?_eq_some_getLast o.ne]
  exact List.getLast_mem o.ne
def StD.name (d : StD) : List Int := (namesM d.n d.k).getD d.now []
theorem StOk.nameAt {d : StD} (o : StOk d) : (namesM d.n d.k)[d.now]? = some d.name := by
  unfold StD.name
  rw [List.getD_eq_getElem?_getD, List.getElem?_eq_getElem o.nowlt]
  rfl
abbrev stateF (vf : V) (m : Nat) (pr pm pp pt : Addr) : List (Str × V) := [("field", vf), ("moves", .int (m : Int)), ("rule", .ref pr), ("marked", .ref pm), ("past", .ref pp), ("tried", .ref pt)]
structure StR (K : PySem.W.Frag) (H : Hp) (p dx fa pr pm pp pt : Addr) (d : StD) : Prop where
  obj : H p = some (.ins (He.ga K "State") dx (stateF (.ref fa) d.m pr pm pp pt))
  field : FieldAt K H fa d.n d.e d.k
  rule : H pr = some (.lst (vI d.R))
  marked : H pm = some (.lst (vN d.ms))
  past : H pp = some (.lst (vN d.past))
theorem StR.same {K : PySem.W.Frag} {H H' : Hp} {p dx fa pr pm pp pt : Addr} {d : StD} (s : Same H H') (h : StR K H p dx fa pr pm pp pt d) : StR K H' p dx fa pr pm pp pt d := ⟨s _ _ h.obj, h.field.same s, s _ _ h.rule, s _ _ h.marked, s _ _ h.past⟩
def aheadD (d : StD) : List Nat := aheadL d.n d.e d.k d.R (d.m : Int) d.name
def graphD (d : StD) : Gr := graphL d.n d.e d.k d.R (d.m : Int)
def restD (d : StD) : List Bool := restG d.n d.e d.k d.R (d.m : Int)
section
variable {P : Program} {w : World} {K : PySem.W.Frag} {mg : Str → Option Value} {base : Heap}
def spNow (K : PySem.W.Frag) : Sp := fun vs H Q _ => ∃ (p dx fa pr pm pp pt : Addr) (d : StD), vs = [.ref p] ∧ StOk d ∧ StR K H p dx fa pr pm pp pt d ∧ Q (.int (d.now : Int)) H
theorem sc_State_name_now : FnScope ["self"] ["self"] (defScope s_State_name_now) := ⟨rfl, rfl, rfl, by decide +kernel, rfl, by decide +kernel, by decide +kernel⟩
theorem ok_name_now (T : Txt K mg) : MethOk P w K mg base 1 "State" "name_now" ["self"] (spNow K) := by
  refine meth_ok (F_State_name_now T) sc_State_name_now (fun _ _ _ _ _ _ us hl => match us, hl with | [_], _ => rfl) (fun vs H Q E h => by obtain ⟨c, e, _, _, _, _, _, _, rfl, _⟩ := h; rfl) fun f cdv A outer s H vs Q E hr h => ?_
  obtain ⟨p, dx, fa, pr, pm, pp, pt, d, rfl, ok, S, h⟩ := h
  refine ⟨_, pss_one (ps_ret (pe_ix ix_list (pe_fld (pv 0) rfl) (pe_un un_neg pe_int) (fun _ _ => rfl))), ?_⟩
  exact ⟨_, rfl, p, _, dx, _, _, rfl, S.obj, T.cl_State, T.n_State_past, rfl, 1, rfl, pp, _, _, _, rfl, rfl, SqL.of S.past, atI_last ok.ne, h⟩
def spAheadS (K : PySem.W.Frag) : Sp := fun vs H Q _ => ∃ (p dx fa pr pm pp pt : Addr) (d : StD), vs = [.ref p] ∧ StOk d ∧ StR K H p dx fa pr pm pp pt d ∧ ∀ H' q, Same H H' → H q = none → H' q = some (.lst (vN (aheadD d))) → Q (.ref q) H'
theorem sc_State_ahead : FnScope ["self"] ["self"] (defScope s_State_ahead) := ⟨rfl, rfl, rfl, by decide +kernel, rfl, by decide +kernel, by decide +kernel⟩
theorem ok_State_ahead (T : Txt K mg) : MethOk P w K mg base 4 "State" "ahead" ["self"] (spAheadS K) := by
  refine meth_ok (F_State_ahead T) sc_State_ahead (fun _ _ _ _ _ _ us hl => match us, hl with | [_], _ => rfl) (fun vs H Q E h => by obtain ⟨c, e, _, _, _, _, _, _, rfl, _⟩ := h; rfl) fun f cdv A outer s H vs Q E hr h => ?_
  obtain ⟨p, dx, fa, pr, pm, pp, pt, d, rfl, ok, S, h⟩ := h
  refine ⟨_, pss_one (ps_ret (pe_cd (ok_names_ahead T) hr (pa_cons (pe_fld (pv 0) rfl) (pa_cons (pe_md0 (He.ga K "State") (ok_name_now T) T.cl_State (hr.mono (by decide)) (pv 0)) (pa_cons (pe_fld (pv 0) rfl) (pa_cons (pe_fld (pv 0) rfl) pa_nil)))))), ?_⟩
  refine ⟨_, rfl, p, _, dx, _, _, rfl, S.obj, T.cl_State, T.n_State_field, rfl, _, rfl, p, dx, _, rfl, S.obj, rfl, p, dx, fa, pr, pm, pp, pt, d, rfl, ok, S, ?_⟩
  refine ⟨_, rfl, p, _, dx, _, _, rfl, S.obj, T.cl_State, T.n_State_rule, rfl, _, rfl, p, _, dx, _, _, rfl, S.obj, T.cl_State, T.n_State_moves, rfl, ?_⟩
  exact ⟨fa, pr, d.n, d.e, d.k, d.now, d.R, d.name, (d.m : Int), rfl, ok.dims, S.field, ok.nameAt, Sq.lst S.rule, ok.rl, fun H' q s1 hq q1 => h H' q s1 hq q1⟩
def restsD (d : StD) : Bool := togetherM d.name && (aheadD d).isEmpty
def spRests (K : PySem.W.Frag) : Sp := fun vs H Q _ => ∃ (p dx fa pr pm pp pt : Addr) (d : StD), vs = [.ref p] ∧ StOk d ∧ StR K H p dx fa pr pm pp pt d ∧ ∀ H', Same H H' → Q (.bl (restsD d)) H'
theorem sc_State_rests : FnScope ["self"] ["self"] (defScope s_State_rests) := ⟨rfl, rfl, rfl, by decide +kernel, rfl, by decide +kernel, by decide +kernel⟩
theorem ok_State_rests (T : Txt K mg) : MethOk P w K mg base 5 "State" "rests" ["self"] (spRests K) := by
  refine meth_ok (F_State_rests T) sc_State_rests (fun _ _ _ _ _ _ us hl => match us, hl with | [_], _ => rfl) (fun vs H Q E h => by obtain ⟨c, e, _, _, _, _, _, _, rfl, _⟩ := h; rfl) fun f cdv A outer s H vs Q E hr h => ?_
  obtain ⟨p, dx, fa, pr, pm, pp, pt, d, rfl, ok, S, h⟩ := h
  obtain ⟨dy, pn, pq, ps, pz, pe, pv', ha, fp⟩ := id S.field
  obtain ⟨as, n1, n2⟩ := fp.names
  obtain ⟨ra, hra, era⟩ := Paired.right n2 ok.nameAt
  have nl := (names_len ok.dims.n3 ok.dims.n7 ok.dims.k3 (n := d.n) (k := d.k)).2 _ (List.mem_of_getElem? ok.nameAt)
  refine ⟨_, pss_one (ps_ret (pe_and (pe_cd (ok_is_together T) (hr.mono (by decide)) (pa_cons (pe_ix ix_list (pe_fld (pe_fld (pv 0) rfl) rfl) (pe_md0 (He.ga K "State") (ok_name_now T) T.cl_State (hr.mono (by decide)) (pv 0)) (fun _ _ => rfl)) pa_nil)) (pe_one (pe_notK K (pe_md0 (He.ga K "State") (ok_State_ahead T) T.cl_State hr (pv 0)))))), ?_⟩
  refine ⟨_, rfl, p, _, dx, _, _, rfl, S.obj, T.cl_State, T.n_State_field, rfl, fa, _, dy, _, _, rfl, ha, T.cl_Field, T.n_Field_names, rfl, _, rfl, p, dx, _, rfl, S.obj, rfl, p, dx, fa, pr, pm, pp, pt, d, rfl, ok, S, ?_⟩
  refine ⟨pn, _, _, .ref ra, rfl, rfl, SqL.of n1, atI_nat (by rw [List.getElem?_map, hra]; rfl), ra, d.name, rfl, SqT.of era, by rw [nl]; have := ok.dims.n3; omega, _, rfl, ?_⟩
  unfold restsD at h
  by_cases c : togetherM d.name = true
  · refine ifTb c ⟨_, rfl, p, dx, _, rfl, S.obj, rfl, p, dx, fa, pr, pm, pp, pt, d, rfl, ok, S, fun H1 q s1 hq q1 => ⟨_, .inl ⟨_, SqL.of q1, rfl⟩, ?_⟩⟩
    rw [c, Bool.true_and] at h
    have e : (!!(vN (aheadD d)).isEmpty) = (aheadD d).isEmpty := by
      rw [Bool.not_not]
      cases aheadD d <;> rfl
    rw [e]
    exact h H1 s1
  · refine ifFb (by simpa using c) ?_
    rw [show togetherM d.name = false by simpa using c, Bool.false_and] at h
    exact h H (Same.refl H)
def spGraphS (K : PySem.W.Frag) : Sp := fun vs H Q _ => ∃ (p dx fa pr pm pp pt : Addr) (d : StD), vs = [.ref p] ∧ StOk d ∧ StR K H p dx fa pr pm pp pt d ∧ ∀ H' q, Same H H' → H q = none → GraphNew H H' q (graphD d) → Q (.ref q) H'
theorem sc_State_graph : FnScope ["self"] ["self"] (defScope s_State_graph) := ⟨rfl, rfl, rfl, by decide +kernel, rfl, by decide +kernel, by decide +kernel⟩
theorem ok_State_graph (T : Txt K mg) : MethOk P w K mg base 5 "State" "graph" ["self"] (spGraphS K) := by
  refine meth_ok (F_State_graph T) sc_State_graph (fun _ _ _ _ _ _ us hl => match us, hl with | [_], _ => rfl) (fun vs H Q E h => by obtain ⟨c, e, _, _, _, _, _, _, rfl, _⟩ := h; rfl) fun f cdv A outer s H vs Q E hr h => ?_
  obtain ⟨p, dx, fa, pr, pm, pp, pt, d, rfl, ok, S, h⟩ := h
  refine ⟨_, pss_one (ps_ret (pe_cd (ok_graph_by T) hr (pa_cons (pe_fld (pv 0) rfl) (pa_cons (pe_fld (pv 0) rfl) (pa_cons (pe_fld (pv 0) rfl) pa_nil))))), ?_⟩
  refine ⟨_, rfl, p, _, dx, _, _, rfl, S.obj, T.cl_State, T.n_State_field, rfl, _, rfl, p, _, dx, _, _, rfl, S.obj, T.cl_State, T.n_State_rule, rfl, _, rfl, p, _, dx, _, _, rfl, S.obj, T.cl_State, T.n_State_moves, rfl, ?_⟩
  exact ⟨fa, pr, d.n, d.e, d.k, d.R, (d.m : Int), rfl, ok.dims, S.field, Sq.lst S.rule, ok.rl, fun H' q s1 hq g => h H' q s1 hq g⟩
end
end RG
namespace RG
open PySem PySem.Spec PyProof.Rows L2
def MovesOf (h : Bool) (d : StD) (ms : List (Option Nat)) : Prop := if h = true then FewOf (graphD d) (restD d) ms else MostOf (graphD d) (restD d) ms
def MoveNow (h : Bool) (d : StD) (o : Option Nat) : Prop := if h = true then Least (fun m => CanIn (gNx (graphD d)) (gRs (restD d)) m d.now) o else Least (fun m => SureIn (gNx (graphD d)) (gRs (restD d)) m d.now) o
theorem MovesOf.len {h : Bool} {d : StD} {ms : List (Option Nat)} (M : MovesOf h d ms) : ms.length = (namesM d.n d.k).length := by
  unfold MovesOf at M
  have e : (graphD d).length = (namesM d.n d.k).length := graph_len ..
  cases h with
  | true => rw [if_pos rfl] at M; rw [← e]; exact M.1
  | false => rw [if_neg (by decide)] at M; rw [← e]; exact M.1
theorem MovesOf.now {h : Bool} {d : StD} {ms : List (Option Nat)} (M : MovesOf h d ms) {o : Option Nat} (ho : ms[d.now]? = some o) : MoveNow h d o := by
  unfold MovesOf at M
  unfold MoveNow
  cases h with
  | true => rw [if_pos rfl] at M ⊢; exact M.2 _ _ ho
  | false => rw [if_neg (by decide)] at M ⊢; exact M.2 _ _ ho
section
variable {P : Program} {w : World} {K : PySem.W.Frag} {mg : Str → Option Value} {base : Heap}
def spToRest (K : PySem.W.Frag) : Sp := fun vs H Q _ => ∃ (p dx fa pr pm pp pt g : Addr) (h : Bool) (d : StD), vs = [.ref p, .ref g, .bl h] ∧ StOk d ∧ StR K H p dx fa pr pm pp pt d ∧ GraphAt H g (graphD d) ∧ ∀ H' q ms, Same H H' → H q = none → H' q = some (.lst (mVs ms)) → MovesOf h d ms → Q (.ref q) H'
abbrev NToRest : List Str := ["self", "graph", "helped", "resting"]
theorem sc_moves_to_rest : FnScope NToRest ["self", "graph", "helped"] (defScope s_State_moves_to_rest) := ⟨rfl, rfl, rfl, by decide +kernel, rfl, by decide +kernel, by decide +kernel⟩
theorem ok_moves_to_rest (T : Txt K mg) : MethOk P w K mg base 3 "State" "moves_to_rest" ["self", "graph", "helped"] (spToRest K) := by
  refine meth_ok (F_State_moves_to_rest T) sc_moves_to_rest (fun _ _ _ _ _ _ us hl => match us, hl with | [_, _, _], _ => rfl) (fun vs H Q E h => by obtain ⟨c, e, _, _, _, _, _, _, _, _, rfl, _⟩ := h; rfl) fun f cdv A outer s H vs Q E hr h => ?_
  obtain ⟨p, dx, fa, pr, pm, pp, pt, g, hp, d, rfl, ok, S, G, h⟩ := h
  obtain ⟨dy, pn, pq, ps, pz, pe, pv', ha, fp⟩ := id S.field
  obtain ⟨nl64, nl⟩ := names_len ok.dims.n3 ok.dims.n7 ok.dims.k3 (n := d.n) (k := d.k)
  have gl : (graphD d).length = (namesM d.n d.k).length := graph_len ..
  refine ⟨_, pss_cons (ps_set (i := 3) sc_moves_to_rest.nd rfl (Or.inl rfl) (pe_cd (ok_resting_in T) hr (pa_cons (pe_fld (pe_fld (pv 0) rfl) rfl) (pa_cons (pv 1) pa_nil))))
    (pss_one (ps_ret (pe_ifExp (pt_val (pv 2)) (pe_cd (ok_fewest_moves T) (hr.mono (by decide)) (pa_cons (pv 1) (pa_cons (pv 3) pa_nil))) (pe_cd (ok_most_moves T) (hr.mono (by decide)) (pa_cons (pv 1) (pa_cons (pv 3) pa_nil)))))), ?_⟩
  refine ⟨_, rfl, p, _, dx, _, _, rfl, S.obj, T.cl_State, T.n_State_field, rfl, fa, _, dy, _, _, rfl, ha, T.cl_Field, T.n_Field_names, rfl, _, rfl, pn, g, namesM d.n d.k, graphD d, rfl, fp.names, G, gl.symm, by omega, (fun l hl => by rw [nl l hl]; have := ok.dims.n3; omega), fun H1 r s1 hr1 r1 => ?_⟩
  refine ⟨_, rfl, hp, rfl, ?_⟩
  cases hp with
  | true =>
    refine ifTb rfl ⟨_, rfl, _, rfl, g, r, graphD d, restD d, rfl, G.same s1, r1, graph_ok ok.dims, by omega, graph_few ok.dims, fun H2 q ms s2 hq q2 M => ?_⟩
    refine h H2 q ms (Same.trans s1 s2) (Same.none s1 hq) q2 ?_
    unfold MovesOf
    rw [if_pos rfl]
    exact M
  | false =>
    refine ifFb rfl ⟨_, rfl, _, rfl, g, r, graphD d, restD d, rfl, G.same s1, r1, graph_ok ok.dims, by omega, graph_few ok.dims, fun H2 q ms s2 hq q2 M => ?_⟩
    refine h H2 q ms (Same.trans s1 s2) (Same.none s1 hq) q2 ?_
    unfold MovesOf
    rw [if_neg (by decide)]
    exact M
def spFromNow (K : PySem.W.Frag) : Sp := fun vs H Q _ => ∃ (p dx fa pr pm pp pt : Addr) (h : Bool) (d : StD), vs = [.ref p, .bl h] ∧ StOk d ∧ StR K H p dx fa pr pm pp pt d ∧ ∀ H' o, Same H H' → MoveNow h d o → Q (mV o) H'
theorem sc_moves_from_now : FnScope ["self", "helped"] ["self", "helped"] (defScope s_State_moves_from_now) := ⟨rfl, rfl, rfl, by decide +kernel, rfl, by decide +kernel, by decide +kernel⟩
theorem ok_moves_from_now (T : Txt K mg) : MethOk P w K mg base 6 "State" "moves_from_now" ["self", "helped"] (spFromNow K) := by
  refine meth_ok (F_State_moves_from_now T) sc_moves_from_now (fun _ _ _ _ _ _ us hl => match us, hl with | [_, _], _ => rfl) (fun vs H Q E h => by obtain ⟨c, e, _, _, _, _, _, _, _, rfl, _⟩ := h; rfl) fun f cdv A outer s H vs Q E hr h => ?_
  obtain ⟨p, dx, fa, pr, pm, pp, pt, hp, d, rfl, ok, S, h⟩ := h
  refine ⟨_, pss_one (ps_ret (pe_ix ix_list (pe_md (He.ga K "State") (ok_moves_to_rest T) T.cl_State (hr.mono (by decide)) (pv 0) (pa_cons (pe_md0 (He.ga K "State") (ok_State_graph T) T.cl_State hr (pv 0)) (pa_cons (pv 1) pa_nil))) (pe_md0 (He.ga K "State") (ok_name_now T) T.cl_State (hr.mono (by decide)) (pv 0)) (fun _ _ => rfl))), ?_⟩
  refine ⟨_, rfl, p, dx, _, rfl, S.obj, rfl, _, rfl, p, dx, _, rfl, S.obj, rfl, p, dx, fa, pr, pm, pp, pt, d, rfl, ok, S, fun H1 g s1 hg G => ?_⟩
  have S1 := S.same s1
  refine ⟨_, rfl, p, dx, fa, pr, pm, pp, pt, g, hp, d, rfl, ok, S1, G.at_, fun H2 q ms s2 hq q2 M => ?_⟩
  have S2 := S1.same s2
  have hlt : d.now < ms.length := by rw [M.len]; exact ok.nowlt
  have ho : ms[d.now]? = some (ms.getD d.now none) := by
    rw [List.getD_eq_getElem?_getD, List.getElem?_eq_getElem hlt]
    rfl
  exact ⟨_, rfl, p, dx, _, rfl, S2.obj, rfl, p, dx, fa, pr, pm, pp, pt, d, rfl, ok, S2, q, _, _, _, rfl, rfl, SqL.of q2, atI_nat (mVs_at ho), h H2 _ (Same.trans s1 s2) (M.now ho)⟩
def spFieldWith (K : PySem.W.Frag) : Sp := fun vs H Q _ => ∃ (p dx fa pr pm pp pt : Addr) (e : Nat) (d : StD), vs = [.ref p, .int (e : Int)] ∧ StOk d ∧ StR K H p dx fa pr pm pp pt d ∧ e ≤ 2 ∧ ∀ H' q, Same H H' → H q = none → FieldAt K H' q d.n e d.k → Q (.ref q) H'
theorem sc_field_with : FnScope ["self", "eyes"] ["self", "eyes"] (defScope s_State_field_with) := ⟨rfl, rfl, rfl, by decide +kernel, rfl, by decide +kernel, by decide +kernel⟩
theorem ok_field_with (T : Txt K mg) : MethOk P w K mg base 7 "State" "field_with" ["self", "eyes"] (spFieldWith K) := by
  refine meth_ok (F_State_field_with T) sc_field_with (fun _ _ _ _ _ _ us hl => match us, hl with | [_, _], _ => rfl) (fun vs H Q E h => by obtain ⟨c, e, _, _, _, _, _, _, _, rfl, _⟩ := h; rfl) fun f cdv A outer s H vs Q E hr h => ?_
  obtain ⟨p, dx, fa, pr, pm, pp, pt, e, d, rfl, ok, S, he, h⟩ := h
  obtain ⟨dy, pn, pq, ps, pz, pe, pv', ha, fp⟩ := id S.field
  refine ⟨_, pss_one (ps_ret (pe_mk (He.ga K "Field") (ok_Field_init T) hr T.g_Field (pa_cons (pe_fld (pe_fld (pv 0) rfl) rfl) (pa_cons (pv 1) (pa_cons (pe_fld (pe_fld (pv 0) rfl) rfl) pa_nil))))), ?_⟩
  refine ⟨_, rfl, p, _, dx, _, _, rfl, S.obj, T.cl_State, T.n_State_field, rfl, fa, _, dy, _, _, rfl, ha, T.cl_Field, T.n_Field_places, rfl, _, rfl, _, rfl, p, _, dx, _, _, rfl, S.obj, T.cl_State, T.n_State_field, rfl, fa, _, dy, _, _, rfl, ha, T.cl_Field, T.n_Field_robots, rfl, ?_⟩
  intro x dz nx nd ne
  refine ⟨x, dz, d.n, e, d.k, rfl, upd_same, ok.dims.n3, ok.dims.n7, ok.dims.k1, ok.dims.k3, he, fun H1 F b => ⟨rfl, ?_⟩⟩
  exact h H1 x (Same.made nx nd b) nx F
end
end RG
namespace RG
open PySem PySem.Spec PyProof.Rows L2
open LamX (Tabs ExtN TabB)
/-- all but these and the tables stay -/
def ButM (ws : List Addr) (H H' : Hp) : Prop := ∀ b o, H b = some o → b ∉ ws → (∀ ps, o ≠ .tbl ps) → H' b = some o
theorem ButM.refl {ws : List Addr} {H : Hp} : ButM ws H H := fun _ _ e _ _ => e
theorem ButM.of {ws : List Addr} {H H' : Hp} (s : Same H H') : ButM ws H H' := fun b o e _ _ => s b o e
theorem ButM.ext {ws : List Addr} {H H' : Hp} (s : ExtN H H') : ButM ws H H' := fun b o e _ n => s b o e n
theorem ButM.trans {ws : List Addr} {H H1 H2 : Hp} (a : ButM ws H H1) (b : ButM ws H1 H2) : ButM ws H H2 := fun c o e n t => b c o (a c o e n t) n t
theorem ButM.mono {ws us : List Addr} {H H' : Hp} (h : ∀ x ∈ ws, x ∈ us) (a : ButM ws H H') : ButM us H H' := fun c o e n t => a c o e (fun z => n (h c z)) t
theorem ButM.at_ {ws : List Addr} {H H' : Hp} {p : Addr} {o : HO} (a : ButM ws H H') (hp : H p = none ∨ p ∈ ws) : ButM ws H (upd H' p o) := fun b u e n t => by
  rw [upd_ne]
  · exact a b u e n t
  · intro z
    subst z
    rcases hp with hp | hp
    · rw [hp] at e
      cases e
    · exact n hp
abbrev KVT : Type := List (List Key × V)
def Entries (K : PySem.W.Frag) (H : Hp) (kvs : KVT) : Prop := ∀ key v, valV kvs key = some v → ∃ (n e k m : Nat) (q : Addr) (as : List Addr), Dims n e k ∧ m ≤ 2 ∧ prodN (evensM n e k) ≤ 6000 ∧ key = kk [(n : Int), (e : Int), (k : Int), (m : Int)] ∧ v = .ref q ∧ H q = some (.lst (as.map V.ref)) ∧ TrialsL K H as (trialsM n e k (m : Int))
structure KeysOk (kvs : KVT) : Prop where
  nd : (kvs.map (·.1)).Nodup
  each : ∀ key ∈ kvs.map (·.1), ∃ n e k m : Nat, Dims n e k ∧ m ≤ 2 ∧ key = kk [(n : Int), (e : Int), (k : Int), (m : Int)]
theorem nodup_sub {α : Type} [DecidableEq α] : ∀ {l m : List α}, l.Nodup → (∀ x ∈ l, x ∈ m) → l.length ≤ m.length
  | [], _, _, _ => Nat.zero_le _
  | x :: l, m, h, s => by
    obtain ⟨h1, h2⟩ := List.nodup_cons.mp h
    have hx := s x List.mem_cons_self
    have ih := nodup_sub (m := m.erase x) h2 fun y hy => (List.mem_erase_of_ne (fun z => h1 (by rw [← z]; exact hy))).mpr (s y (List.mem_cons_of_mem _ hy))
    have hl := List.length_erase_of_mem hx
    have hp : 0 < m.length := List.length_pos_of_mem hx
    rw [List.length_cons]
    omega
def allKeys : List (List Key) := (List.range 8).flatMap fun (n : Nat) => (List.range 3).flatMap fun (e : Nat) => (List.range 4).flatMap fun (k : Nat) => (List.range 3).map fun (m : Nat) => kk [(n : Int), (e : Int), (k : Int), (m : Int)]
theorem KeysOk.len {kvs : KVT} (h : KeysOk kvs) : kvs.length ≤ 288 := by
  have h1 := nodup_sub (m := allKeys) h.nd fun key hk => by
    obtain ⟨n, e, k, m, D, hm, rfl⟩ := h.each key hk
    have := D.n7
    have := D.e2
    have := D.k3
    exact List.mem_flatMap.mpr ⟨n, List.mem_range.mpr (by omega), List.mem_flatMap.mpr ⟨e, List.mem_range.mpr (by omega), List.mem_flatMap.mpr ⟨k, List.mem_range.mpr (by omega), List.mem_map.mpr ⟨m, List.mem_range.mpr (by omega), rfl⟩⟩⟩⟩
  have h2 : allKeys.length = 288 := by decide +kernel
  rw [List.length_map] at h1
  omega
structure Ad where
  fa : Addr
  pr : Addr
  pm : Addr
  pp : Addr
  kvs : KVT
abbrev mut4 (p pt : Addr) (a : Ad) : List Addr := [p, a.pr, a.pp, pt]
/-- what is written in place: a list of whole numbers, the state itself, a dict of references -/
def Loose (o : HO) : Prop := (∃ l : List Int, o = .lst (vI l)) ∨ (∃ C dx v r, o = .ins C dx (("field", v) :: r)) ∨ ∃ kvs : KVT, o = .dT kvs ∧ ∀ key v, valV kvs key = some v → ∃ q, v = .ref q
theorem Loose.ntbl {o : HO} (h : Loose o) : ∀ ps, o ≠ .tbl ps := by
  rintro ps rfl
  rcases h with ⟨l, e⟩ | ⟨_, _, _, _, e⟩ | ⟨_, e, _⟩ <;> cases e
structure StAt (K : PySem.W.Frag) (H : Hp) (p dx pt : Addr) (X : List Addr) (a : Ad) (d : StD) : Prop where
  rd : StR K H p dx a.fa a.pr a.pm a.pp pt d
  stat : ∀ H', ButM (mut4 p pt a ++ X) H H' → FieldAt K H' a.fa d.n d.e d.k ∧ H' a.pm = some (.lst (vN d.ms)) ∧ Entries K H' a.kvs
  tried : H pt = some (.dT a.kvs)
  keys : KeysOk a.kvs
  ne : a.pr ≠ a.pp
  out : ∀ x ∈ X, x ≠ p ∧ x ≠ a.pr ∧ x ≠ a.pp ∧ x ≠ pt
  old : ∀ x ∈ X, ∃ o, H x = some o ∧ Loose o
/-- new, as far as no table stands there -/
def Fresh (H : Hp) (x : Addr) : Prop := ∀ o, H x = some o → ∃ ps, o = .tbl ps
theorem Fresh.of {H : Hp} {x : Addr} (h : H x = none) : Fresh H x := fun o e => by
  rw [h] at e
  cases e
/-- what is no table stays no table -/
def Dom (H H' : Hp) : Prop := ∀ b o, H b = some o → (∀ ps, o ≠ .tbl ps) → ∃ o', H' b = some o' ∧ ∀ ps, o' ≠ .tbl ps
theorem Dom.of {H H' : Hp} (s : Same H H') : Dom H H' := fun b o e n => ⟨o, s b o e, n⟩
theorem Dom.ext {H H' : Hp} (s : ExtN H H') : Dom H H' := fun b o e n => ⟨o, s b o e n, n⟩
theorem Dom.trans {H H1 H2 : Hp} (a : Dom H H1) (b : Dom H1 H2) : Dom H H2 := fun x o e n => by
  obtain ⟨o1, e1, n1⟩ := a x o e n
  exact b x o1 e1 n1
theorem Dom.upd {H H' : Hp} {p : Addr} {o : HO} (a : Dom H H') (ho : ∀ ps, o ≠ .tbl ps) : Dom H (L2.upd H' p o) := fun x u e n => by
  by_cases c : x = p
  · rw [c]
    exact ⟨o, upd_same, ho⟩
  · rw [upd_ne c]
    exact a x u e n
theorem Fresh.back {H H' : Hp} {x : Addr} (d : Dom H H') (h : Fresh H' x) : Fresh H x := fun o e => by
  by_cases c : ∃ ps, o = .tbl ps
  · exact c
  · obtain ⟨o', e', n'⟩ := d x o e (fun ps z => c ⟨ps, z⟩)
    obtain ⟨ps, z⟩ := h o' e'
    exact absurd z (n' ps)
/-- from one state to the next -/
structure Step (K : PySem.W.Frag) (H H' : Hp) (p pt : Addr) (a a' : Ad) : Prop where
  but : ButM (mut4 p pt a) H H'
  dom : Dom H H'
  pr : a'.pr = a.pr ∨ Fresh H a'.pr
  pp : a'.pp = a.pp ∨ Fresh H a'.pp
  tabs : Tabs (lamT K) H → Tabs (lamT K) H'
theorem Step.of {K : PySem.W.Frag} {H H' : Hp} {p pt : Addr} {a : Ad} (s : Same H H') : Step K H H' p pt a a := ⟨ButM.of s, Dom.of s, .inl rfl, .inl rfl, fun t => t.ext s⟩
theorem Step.trans {K : PySem.W.Frag} {H H1 H2 : Hp} {p pt : Addr} {a a1 a2 : Ad} (s : Step K H H1 p pt a a1) (t : Step K H1 H2 p pt a1 a2) : Step K H H2 p pt a a2 := by
  refine ⟨fun b o hb hn ht => t.but b o (s.but b o hb hn ht) (fun z => ?_) ht, s.dom.trans t.dom, ?_, ?_, fun z => t.tabs (s.tabs z)⟩
  · simp only [List.mem_cons, List.not_mem_nil, or_false] at z hn
    rcases z with z | z | z | z
    · exact hn (.inl z)
    · rcases s.pr with e | e
      · exact hn (.inr (.inl (z.trans e)))
      · rw [z] at hb
        obtain ⟨ps, y⟩ := e _ hb
        exact ht ps y
    · rcases s.pp with e | e
      · exact hn (.inr (.inr (.inl (z.trans e))))
      · rw [z] at hb
        obtain ⟨ps, y⟩ := e _ hb
        exact ht ps y
    · exact hn (.inr (.inr (.inr z)))
  · rcases t.pr with e | e
    · rw [e]
      exact s.pr
    · exact .inr (e.back s.dom)
  · rcases t.pp with e | e
    · rw [e]
      exact s.pp
    · exact .inr (e.back s.dom)
/-- what stands outside stays, also for what comes -/
theorem StAt.stat_of {K : PySem.W.Frag} {H H' : Hp} {p dx pt : Addr} {X : List Addr} {a a' : Ad} {d : StD} (S : StAt K H p dx pt X a d) (s : Step K H H' p pt a a') :
    ∀ H'', ButM (mut4 p pt a' ++ X) H' H'' → FieldAt K H'' a.fa d.n d.e d.k ∧ H'' a.pm = some (.lst (vN d.ms)) ∧ Entries K H'' a.kvs := by
  intro H'' b
  refine S.stat H'' fun c o hc hn ht => b _ _ (s.but _ _ hc (fun z => hn (List.mem_append_left _ z)) ht) (fun z => ?_) ht
  rcases List.mem_append.mp z with z | z
  · refine hn (List.mem_append_left _ ?_)
    simp only [List.mem_cons, List.not_mem_nil, or_false] at z ⊢
    rcases z with z | z | z | z
    · exact .inl z
    · rcases s.pr with e | e
      · exact .inr (.inl (z.trans e))
      · rw [z] at hc
        obtain ⟨ps, y⟩ := e _ hc
        exact absurd y (ht ps)
    · rcases s.pp with e | e
      · exact .inr (.inr (.inl (z.trans e)))
      · rw [z] at hc
        obtain ⟨ps, y⟩ := e _ hc
        exact absurd y (ht ps)
    · exact .inr (.inr (.inr z))
  · exact hn (List.mem_append_right _ z)
theorem StAt.out_of {K : PySem.W.Frag} {H H' : Hp} {p dx pt : Addr} {X : List Addr} {a a' : Ad} {d : StD} (S : StAt K H p dx pt X a d) (s : Step K H H' p pt a a') : ∀ x ∈ X, x ≠ p ∧ x ≠ a'.pr ∧ x ≠ a'.pp ∧ x ≠ pt := by
  intro x hx
  obtain ⟨h1, h2, h3, h4⟩ := S.out x hx
  obtain ⟨o, ho, hn⟩ := S.old x hx
  have hn := hn.ntbl
  refine ⟨h1, ?_, ?_, h4⟩
  · rcases s.pr with e | e
    · rw [e]; exact h2
    · intro z
      rw [z] at ho
      obtain ⟨ps, y⟩ := e _ ho
      exact hn ps y
  · rcases s.pp with e | e
    · rw [e]; exact h3
    · intro z
      rw [z] at ho
      obtain ⟨ps, y⟩ := e _ ho
      exact hn ps y
theorem StAt.old_of {K : PySem.W.Frag} {H H' : Hp} {p dx pt : Addr} {X : List Addr} {a a' : Ad} {d : StD} (S : StAt K H p dx pt X a d) (s : Step K H H' p pt a a') : ∀ x ∈ X, ∃ o, H' x = some o ∧ Loose o := by
  intro x hx
  obtain ⟨h1, h2, h3, h4⟩ := S.out x hx
  obtain ⟨o, ho, hn⟩ := S.old x hx
  refine ⟨o, s.but _ _ ho (fun z => ?_) hn.ntbl, hn⟩
  simp only [List.mem_cons, List.not_mem_nil, or_false] at z
  rcases z with z | z | z | z
  · exact h1 z
  · exact h2 z
  · exact h3 z
  · exact h4 z
theorem tabs_but {T : List (Addr × Str)} {ws : List Addr} {H H' : Hp} (b : ButD ws H H') (hw : ∀ x ∈ ws, ∀ o, H x = some o → (∀ ps, o ≠ .tbl ps) ∧ ∀ g, o ≠ .ext g) (h : Tabs T H) : Tabs T H' := by
  intro q hq
  obtain ⟨ps, h1, h2, h3⟩ := h q hq
  refine ⟨ps, b _ _ h1 (fun z => (hw _ z _ h1).1 ps rfl), h2, fun pos cv hc => ?_⟩
  obtain ⟨c, e1, e2⟩ := h3 pos cv hc
  exact ⟨c, e1, b _ _ e2 (fun z => (hw _ z _ e2).2 _ rfl)⟩
/-- a write at the state's own places alone -/
theorem StAt.mut_kind {K : PySem.W.Frag} {H : Hp} {p dx pt : Addr} {X : List Addr} {a : Ad} {d : StD} (S : StAt K H p dx pt X a d) : ∀ x ∈ mut4 p pt a, ∀ o, H x = some o → (∀ ps, o ≠ .tbl ps) ∧ ∀ g, o ≠ .ext g := by
  intro x hx o ho
  simp only [List.mem_cons, List.not_mem_nil, or_false] at hx
  rcases hx with z | z | z | z
  · rw [z, S.rd.obj] at ho
    cases ho
    exact ⟨(fun _ z => nomatch z), fun _ z => nomatch z⟩
  · rw [z, S.rd.rule] at ho
    cases ho
    exact ⟨(fun _ z => nomatch z), fun _ z => nomatch z⟩
  · rw [z, S.rd.past] at ho
    cases ho
    exact ⟨(fun _ z => nomatch z), fun _ z => nomatch z⟩
  · rw [z, S.tried] at ho
    cases ho
    exact ⟨(fun _ z => nomatch z), fun _ z => nomatch z⟩
theorem StAt.stepD {K : PySem.W.Frag} {H H' : Hp} {p dx pt : Addr} {X : List Addr} {a a' : Ad} {d : StD} (S : StAt K H p dx pt X a d) (b : ButD (mut4 p pt a) H H') (dm : Dom H H') (h1 : a'.pr = a.pr ∨ Fresh H a'.pr) (h2 : a'.pp = a.pp ∨ Fresh H a'.pp) : Step K H H' p pt a a' :=
  ⟨fun x o e n _ => b x o e n, dm, h1, h2, tabs_but b S.mut_kind⟩
end RG
namespace RG
open PySem PySem.Spec PyProof.Rows L2
open LamX (Tabs ExtN TabB)
section
variable {P : Program} {w : World} {K : PySem.W.Frag} {mg : Str → Option Value} {base : Heap}
/-- the same field, marks and trials; other things at the state's own places -/
theorem StAt.next {K : PySem.W.Frag} {H H' : Hp} {p dx pt : Addr} {X : List Addr} {a : Ad} {d : StD} {pr pp : Addr} {m : Nat} {R : List Int} {past : List Nat} (S : StAt K H p dx pt X a d) (s : Step K H H' p pt a ⟨a.fa, pr, a.pm, pp, a.kvs⟩)
    (ho : H' p = some (.ins (He.ga K "State") dx (stateF (.ref a.fa) m pr a.pm pp pt))) (hr : H' pr = some (.lst (vI R))) (hp : H' pp = some (.lst (vN past))) (ht : H' pt = some (.dT a.kvs)) (ne : pr ≠ pp) :
    StAt K H' p dx pt X ⟨a.fa, pr, a.pm, pp, a.kvs⟩ ⟨d.n, d.e, d.k, m, R, d.ms, past⟩ := by
  have st := S.stat_of s
  obtain ⟨f, mk, _⟩ := st H' ButM.refl
  exact ⟨⟨ho, f, hr, mk, hp⟩, st, ht, S.keys, ne, S.out_of s, S.old_of s⟩
def spPut (K : PySem.W.Frag) : Sp := fun vs H Q _ => ∃ (p dx pt : Addr) (X : List Addr) (a : Ad) (d : StD) (i : Nat), vs = [.ref p, .int (i : Int)] ∧ StAt K H p dx pt X a d ∧
  ∀ H' a', StAt K H' p dx pt X a' { d with past := [i] } → Step K H H' p pt a a' → Q .non H'
theorem sc_State_put : FnScope ["self", "name"] ["self", "name"] (defScope s_State_put) := ⟨rfl, rfl, rfl, by decide +kernel, rfl, by decide +kernel, by decide +kernel⟩
theorem ok_State_put (T : Txt K mg) : MethOk P w K mg base 1 "State" "put" ["self", "name"] (spPut K) := by
  refine meth_ok (F_State_put T) sc_State_put (fun _ _ _ _ _ _ us hl => match us, hl with | [_, _], _ => rfl) (fun vs H Q E h => by obtain ⟨c, e, _, _, _, _, _, rfl, _⟩ := h; rfl) fun f cdv A outer s H vs Q E hr h => ?_
  obtain ⟨p, dx, pt, X, a, d, i, rfl, S, h⟩ := h
  refine ⟨_, pss_one (ps_fldN (pv 0) (pe_lst (pa_cons (pv 1) pa_nil)) rfl), ?_⟩
  refine ⟨_, rfl, by show 1 ≤ sizeLine; decide, fun q hq => ?_⟩
  have s1 : Same H (upd H q (.lst [.int (i : Int)])) := Same.new (Same.refl H) hq
  refine ⟨_, rfl, p, _, dx, _, stateF (.ref a.fa) d.m a.pr a.pm q pt, rfl, s1 _ _ S.rd.obj, T.cl_State, T.n_State_past, by show 6 < 1000; decide, rfl, ?_⟩
  have pq : p ≠ q := ne_of_none S.rd.obj hq
  have rq : a.pr ≠ q := ne_of_none S.rd.rule hq
  have st : Step K H (upd (upd H q (.lst [.int (i : Int)])) p (.ins (He.ga K "State") dx (stateF (.ref a.fa) d.m a.pr a.pm q pt))) p pt a ⟨a.fa, a.pr, a.pm, q, a.kvs⟩ :=
    S.stepD (ButD.at_ (ButD.of s1) (.inr List.mem_cons_self)) ((Dom.of s1).upd (fun _ z => nomatch z)) (.inl rfl) (.inr (Fresh.of hq))
  refine h _ _ (S.next st upd_same ?_ ?_ ?_ rq) st
  · exact upd_other (s1 _ _ S.rd.obj) (s1 _ _ S.rd.rule) (fun z => nomatch z)
  · rw [upd_ne pq.symm, upd_same]
    rfl
  · exact upd_other (s1 _ _ S.rd.obj) (s1 _ _ S.tried) (fun z => nomatch z)
/-- a name comes: 60 at the most are kept -/
def comeM (past : List Nat) (i : Nat) : List Nat := if 60 < (past ++ [i]).length then (past ++ [i]).tail else past ++ [i]
def spCome (K : PySem.W.Frag) : Sp := fun vs H Q _ => ∃ (p dx pt : Addr) (X : List Addr) (a : Ad) (d : StD) (i : Nat), vs = [.ref p, .int (i : Int)] ∧ StAt K H p dx pt X a d ∧ d.past.length ≤ 60 ∧
  ∀ H', StAt K H' p dx pt X a { d with past := comeM d.past i } → Step K H H' p pt a a → Q .non H'
theorem sc_State_come : FnScope ["self", "name"] ["self", "name"] (defScope s_State_come) := ⟨rfl, rfl, rfl, by decide +kernel, rfl, by decide +kernel, by decide +kernel⟩
theorem ok_State_come (T : Txt K mg) : MethOk P w K mg base 1 "State" "come" ["self", "name"] (spCome K) := by
  refine meth_ok (F_State_come T) sc_State_come (fun _ _ _ _ _ _ us hl => match us, hl with | [_, _], _ => rfl) (fun vs H Q E h => by obtain ⟨c, e, _, _, _, _, _, rfl, _⟩ := h; rfl) fun f cdv A outer s H vs Q E hr h => ?_
  obtain ⟨p, dx, pt, X, a, d, i, rfl, S, h60, h⟩ := h
  obtain ⟨tk, hk⟩ := T.c_MOST_KEPT
  refine ⟨_, pss_cons (ps_expr (pe_append (pe_fld (pv 0) rfl) (pa_cons (pv 1) pa_nil)))
    (pss_one (ps_if (pt_cmpR op_gt (pe_len T.b_len (pa_cons (pe_fld (pv 0) rfl) pa_nil)) (pe_glob (v := .int 60) (by rfl) hk ⟨tk, rfl⟩) (nomark _))
      (pss_one (ps_expr (pe_bm PySem.F.plainAttrs_list PySem.F.slot_list_pop PySem.F.type_list_pop mt_popAt (pe_fld (pv 0) rfl) (pa_cons pe_int pa_nil) (by rfl) (by rfl) (by rfl) (by rfl) rfl))) pss_nil)), ?_⟩
  have ppP : a.pp ∈ mut4 p pt a := List.mem_cons_of_mem _ (List.mem_cons_of_mem _ List.mem_cons_self)
  -- a heap with another past
  have put : ∀ past : List Nat, StAt K (upd H a.pp (.lst (vN past))) p dx pt X a { d with past := past } ∧ Step K H (upd H a.pp (.lst (vN past))) p pt a a := by
    intro past
    have st : Step K H (upd H a.pp (.lst (vN past))) p pt a a := S.stepD (ButD.at_ ButD.refl (.inr ppP)) ((Dom.of (Same.refl H)).upd (fun _ z => nomatch z)) (.inl rfl) (.inl rfl)
    exact ⟨S.next (a := a) st (upd_other S.rd.past S.rd.obj (fun z => nomatch z)) (by rw [upd_ne S.ne]; exact S.rd.rule) upd_same (upd_other S.rd.past S.tried (fun z => nomatch z)) S.ne, st⟩
  refine ⟨_, rfl, p, _, dx, _, _, rfl, S.rd.obj, T.cl_State, T.n_State_past, rfl, .inl ⟨rfl, _, SqL.of S.rd.past⟩, _, rfl, a.pp, _, _, rfl, rfl, S.rd.past, ?_, ?_⟩
  · rw [List.length_map]
    exact Nat.lt_of_le_of_lt h60 (by decide)
  rw [show vN d.past ++ [V.int (i : Int)] = vN (d.past ++ [i]) by rw [vN_app]; rfl]
  obtain ⟨S1, st1⟩ := put (d.past ++ [i])
  refine ⟨_, rfl, p, _, dx, _, _, rfl, S1.rd.obj, T.cl_State, T.n_State_past, rfl, a.pp, _, rfl, .inl (SqL.of S1.rd.past), _, _, rfl, rfl, _, rfl, ?_⟩
  have len : (vN (d.past ++ [i])).length = (d.past ++ [i]).length := List.length_map ..
  by_cases c : 60 < (d.past ++ [i]).length
  · refine ifT (show (60 : Int) < ((vN (d.past ++ [i])).length : Int) by rw [len]; omega) ?_
    obtain ⟨y, r, ey⟩ : ∃ y r, d.past ++ [i] = y :: r := by
      cases hd : d.past ++ [i] with
      | nil => rw [hd] at c; exact absurd c (by decide)
      | cons y r => exact ⟨y, r, rfl⟩
    have hix : seqIndex? (((0 : Nat) : Int)) (vN (d.past ++ [i])).length = some 0 := (ixN_seq (ixN_nat (by rw [len]; omega))).1
    refine ⟨_, rfl, p, _, dx, _, _, rfl, S1.rd.obj, T.cl_State, T.n_State_past, rfl, .inl ⟨rfl, _, SqL.of S1.rd.past⟩, a.pp, vN (d.past ++ [i]), ((0 : Nat) : Int), 0, .int (y : Int), rfl, rfl, S1.rd.past, by decide, by decide, hix, by rw [ey]; rfl, ?_⟩
    rw [upd_upd, show (vN (d.past ++ [i])).eraseIdx 0 = vN (comeM d.past i) by unfold comeM; rw [if_pos c, ey]; rfl]
    obtain ⟨S2, st2⟩ := put (comeM d.past i)
    exact h _ S2 st2
  · refine ifF (show ¬ (60 : Int) < ((vN (d.past ++ [i])).length : Int) by rw [len]; omega) ?_
    have e : comeM d.past i = d.past ++ [i] := if_neg c
    rw [← e]
    obtain ⟨S2, st2⟩ := put (comeM d.past i)
    exact h _ S2 st2
end
end RG
namespace RG
open PySem PySem.Spec PyProof.Rows L2
open LamX (Tabs ExtN TabB)
def chooseM (h : Bool) (ms : List (Option Nat)) (js : List Nat) : Nat := if h = true then helpM ms js else againstM ms js
def runM (h : Bool) (g : Gr) (ms : List (Option Nat)) : Nat → List Nat → Nat × List Nat
  | 0, past => (0, past)
  | t + 1, past => if gNx g (past.getLastD 0) = [] then (0, past) else ((runM h g ms t (comeM past (chooseM h ms (gNx g (past.getLastD 0))))).1 + 1, (runM h g ms t (comeM past (chooseM h ms (gNx g (past.getLastD 0))))).2)
structure PastOk (N : Nat) (past : List Nat) : Prop where
  ne : past ≠ []
  p60 : past.length ≤ 60
  plt : ∀ i ∈ past, i < N
theorem StOk.past {d : StD} (o : StOk d) : PastOk (namesM d.n d.k).length d.past := ⟨o.ne, o.p60, o.plt⟩
theorem StOk.with {d : StD} (o : StOk d) {past : List Nat} (h : PastOk (namesM d.n d.k).length past) : StOk { d with past := past } := ⟨o.dims, o.m2, o.rl, h.ne, h.p60, h.plt, o.rise, o.mlt⟩
theorem PastOk.come {N : Nat} {past : List Nat} {i : Nat} (h : PastOk N past) (hi : i < N) : PastOk N (comeM past i) := by
  have h60 := h.p60
  have all : ∀ j ∈ past ++ [i], j < N := fun j hj => (List.mem_append.mp hj).elim (h.plt j) fun z => by rw [List.mem_singleton.mp z]; exact hi
  unfold comeM
  have e : (past ++ [i]).length = past.length + 1 := by rw [List.length_append]; rfl
  by_cases c : 60 < (past ++ [i]).length
  · rw [if_pos c]
    refine ⟨fun z => ?_, by rw [List.length_tail]; omega, fun j hj => all j (List.mem_of_mem_tail hj)⟩
    have := congrArg List.length z
    rw [List.length_tail] at this
    simp only [List.length_nil] at this
    omega
  · rw [if_neg c]
    exact ⟨by simp, by omega, all⟩
theorem againstM_mem {ms : List (Option Nat)} {js : List Nat} (h : js ≠ []) : againstM ms js ∈ js := by
  unfold againstM
  cases hf : js.find? fun j => (ms.getD j none).isNone with
  | some j => exact List.mem_of_find?_eq_some hf
  | none =>
    show bestmax ms js ∈ js
    unfold bestmax
    have h1 := (PySem.argBest_gt (valK ms js) (js.length - 1)).1
    have h2 := List.length_pos_iff.mpr h
    rw [List.getD_eq_getElem?_getD, List.getElem?_eq_getElem (by omega)]
    exact List.getElem_mem _
theorem helpM_mem {ms : List (Option Nat)} {js : List Nat} (h : js ≠ []) : helpM ms js ∈ js := by
  unfold helpM
  by_cases c : ableL ms js = []
  · rw [if_pos c]
    cases js with
    | nil => exact absurd rfl h
    | cons j js => exact List.mem_cons_self
  · rw [if_neg c]
    have hm : bestmin ms (ableL ms js) ∈ ableL ms js := by
      unfold bestmin
      have h1 := (PySem.argBest_lt (valK ms (ableL ms js)) ((ableL ms js).length - 1)).1
      have h2 := List.length_pos_iff.mpr c
      rw [List.getD_eq_getElem?_getD, List.getElem?_eq_getElem (by omega)]
      exact List.getElem_mem _
    exact (List.mem_filter.mp hm).1
theorem chooseM_mem {h : Bool} {ms : List (Option Nat)} {js : List Nat} (hj : js ≠ []) : chooseM h ms js ∈ js := by
  unfold chooseM
  split
  · exact helpM_mem hj
  · exact againstM_mem hj
section
variable {P : Program} {w : World} {K : PySem.W.Frag} {mg : Str → Option Value} {base : Heap}
theorem StAt.ext {K : PySem.W.Frag} {H H' : Hp} {p dx pt : Addr} {X : List Addr} {a : Ad} {d : StD} (S : StAt K H p dx pt X a d) (e : ExtN H H') (t : Tabs (lamT K) H') : StAt K H' p dx pt X a d ∧ Step K H H' p pt a a := by
  have st : Step K H H' p pt a a := ⟨ButM.ext e, Dom.ext e, .inl rfl, .inl rfl, fun _ => t⟩
  exact ⟨S.next (a := a) st (e _ _ S.rd.obj (fun _ z => nomatch z)) (e _ _ S.rd.rule (fun _ z => nomatch z)) (e _ _ S.rd.past (fun _ z => nomatch z)) (e _ _ S.tried (fun _ z => nomatch z)) S.ne, st⟩
theorem StAt.same {K : PySem.W.Frag} {H H' : Hp} {p dx pt : Addr} {X : List Addr} {a : Ad} {d : StD} (S : StAt K H p dx pt X a d) (s : Same H H') : StAt K H' p dx pt X a d ∧ Step K H H' p pt a a := by
  have st : Step K H H' p pt a a := Step.of s
  exact ⟨S.next (a := a) st (s _ _ S.rd.obj) (s _ _ S.rd.rule) (s _ _ S.rd.past) (s _ _ S.tried) S.ne, st⟩
/-- what was not there is none of the state's own places -/
theorem StAt.notmut {K : PySem.W.Frag} {H : Hp} {p dx pt : Addr} {X : List Addr} {a : Ad} {d : StD} (S : StAt K H p dx pt X a d) {x : Addr} (hx : H x = none) : x ∉ mut4 p pt a := by
  intro z
  simp only [List.mem_cons, List.not_mem_nil, or_false] at z
  rcases z with z | z | z | z
  · rw [z, S.rd.obj] at hx
    cases hx
  · rw [z, S.rd.rule] at hx
    cases hx
  · rw [z, S.rd.past] at hx
    cases hx
  · rw [z, S.tried] at hx
    cases hx
def spRun (K : PySem.W.Frag) : Sp := fun vs H Q _ => ∃ (p dx pt : Addr) (X : List Addr) (a : Ad) (d : StD) (h : Bool) (most : Nat), vs = [.ref p, .int (most : Int), .bl h] ∧ StOk d ∧ StAt K H p dx pt X a d ∧ Tabs (lamT K) H ∧
  ∀ H' ms, MovesOf h d ms → StAt K H' p dx pt X a { d with past := (runM h (graphD d) ms most d.past).2 } → Step K H H' p pt a a → Q (.int ((runM h (graphD d) ms most d.past).1 : Int)) H'
abbrev NRun : List Str := ["self", "most", "helped", "graph", "moves", "came", "coming"]
theorem sc_State_run : FnScope NRun ["self", "most", "helped"] (defScope s_State_run) := ⟨rfl, rfl, rfl, by decide +kernel, rfl, by decide +kernel, by decide +kernel⟩
def WRun (K : PySem.W.Frag) (H2 : Hp) (p dx pt g mv : Addr) (X : List Addr) (a : Ad) (d : StD) (h : Bool) (ms : List (Option Nat)) (most : Nat) (n : Nat) (σ : L2.St) (H' : Hp) : Prop :=
  ∃ (c : Nat) (past : List Nat) (v6 : Option V), σ = [some (.ref p), some (.int (most : Int)), some (.bl h), some (.ref g), some (.ref mv), some (.int (c : Int)), v6] ∧ StAt K H' p dx pt X a { d with past := past } ∧ Step K H2 H' p pt a a ∧ Tabs (lamT K) H' ∧ PastOk (namesM d.n d.k).length past ∧
    c + n = most ∧ (runM h (graphD d) ms n past).1 + c = (runM h (graphD d) ms most d.past).1 ∧ (runM h (graphD d) ms n past).2 = (runM h (graphD d) ms most d.past).2
theorem ok_State_run (T : Txt K mg) (B : TB K mg base) : MethOk P w K mg base 6 "State" "run" ["self", "most", "helped"] (spRun K) := by
  refine meth_ok (F_State_run T) sc_State_run (fun _ _ _ _ _ _ us hl => match us, hl with | [_, _, _], _ => rfl) (fun vs H Q E h => by obtain ⟨c, e, _, _, _, _, _, _, rfl, _⟩ := h; rfl) fun f cdv A outer s H vs Q E hr h => ?_
  obtain ⟨p, dx, pt, X, a, d, hp, most, rfl, ok, S, hT, h⟩ := h
  have C := T.cl_State
  refine ⟨_, pss_cons (ps_set (i := 3) sc_State_run.nd rfl (Or.inl rfl) (pe_md0 (He.ga K "State") (ok_State_graph T) T.cl_State hr (pv 0)))
    (pss_cons (ps_set (i := 4) sc_State_run.nd rfl (Or.inl rfl) (pe_md (He.ga K "State") (ok_moves_to_rest T) T.cl_State (hr.mono (by decide)) (pv 0) (pa_cons (pv 3) (pa_cons (pv 2) pa_nil))))
    (pss_cons (ps_set (i := 5) sc_State_run.nd rfl (Or.inl rfl) pe_int)
    (pss_cons (ps_while PassesOwn.never (PW.pt (pw_and (pt_cmpR op_lt (pv 5) (pv 1) (nomark _)) (pw_and1 (pt_truth (pe_ix ix_list (pv 3) (pe_md0 (He.ga K "State") (ok_name_now T) T.cl_State (hr.mono (by decide)) (pv 0)) (fun _ _ => rfl)) (by intro _; rfl)))))
      (pss_cons (ps_set (i := 6) sc_State_run.nd rfl (Or.inl rfl) (pe_ix ix_list (pv 3) (pe_md0 (He.ga K "State") (ok_name_now T) T.cl_State (hr.mono (by decide)) (pv 0)) (fun _ _ => rfl)))
      (pss_cons (ps_expr (pe_md (He.ga K "State") (ok_State_come T) T.cl_State (hr.mono (by decide)) (pv 0) (pa_cons (pe_ifExp (pt_val (pv 2)) (pe_cd (ok_helping_them T B) (hr.mono (by decide)) (pa_cons (pv 6) (pa_cons (pv 4) pa_nil))) (pe_cd (ok_against_them T B) (hr.mono (by decide)) (pa_cons (pv 6) (pa_cons (pv 4) pa_nil)))) pa_nil)))
      (pss_one (ps_aug (i := 5) sc_State_run.nd rfl (Or.inl rfl) pe_int ip_add)))))
    (pss_one (ps_ret (pv 5)))))), ?_⟩
  refine ⟨_, rfl, p, dx, _, rfl, S.rd.obj, rfl, p, dx, a.fa, a.pr, a.pm, a.pp, pt, d, rfl, ok, S.rd, fun H1 g s1 hg G1 => ?_⟩
  obtain ⟨S1, st1⟩ := S.same s1
  refine ⟨_, rfl, p, dx, _, rfl, S1.rd.obj, rfl, _, rfl, _, rfl, p, dx, a.fa, a.pr, a.pm, a.pp, pt, g, hp, d, rfl, ok, S1.rd, G1.at_, fun H2 mv ms s2 hmv m2 M => ?_⟩
  obtain ⟨S2, st2⟩ := S1.same s2
  have st02 := st1.trans st2
  obtain ⟨as, g1, g2, g3⟩ := G1
  have gA : H2 g = some (.lst (as.map V.ref)) := s2 _ _ g1
  have gR : Rows H2 as (graphD d) := Rows.same s2 g2
  have gl : (graphD d).length = (namesM d.n d.k).length := graph_len ..
  have ng : g ∉ mut4 p pt a := S.notmut hg
  have nr : ∀ x ∈ as, x ∉ mut4 p pt a := fun x hx => S.notmut (g3 x hx)
  have nm : mv ∉ mut4 p pt a := S1.notmut hmv
  refine ⟨WRun K H2 p dx pt g mv X a d hp ms most, ⟨most, 0, d.past, none, rfl, S2, Step.of (Same.refl H2), st02.tabs hT, ok.past, Nat.zero_add _, Nat.add_zero _, rfl⟩, ?_⟩
  rintro n σ H3 ⟨c, past, v6, rfl, S3, st3, t3, po, hc, e1, e2⟩
  have ok3 := ok.with po
  have fin : runM hp (graphD d) ms n past = (0, past) → Q (.int (c : Int)) H3 := fun z => by
    rw [z] at e1 e2
    have e1 : 0 + c = (runM hp (graphD d) ms most d.past).1 := e1
    have e2 : past = (runM hp (graphD d) ms most d.past).2 := e2
    have := h H3 ms M (by rw [← e2]; exact S3) (st02.trans st3)
    rw [← e1, Nat.zero_add] at this
    exact this
  refine ⟨_, rfl, _, rfl, _, _, rfl, rfl, _, rfl, ?_⟩
  cases n with
  | zero => exact ifF (show ¬ (c : Int) < (most : Int) by omega) (noT ⟨_, rfl, fin rfl⟩)
  | succ n =>
    refine ifT (show (c : Int) < (most : Int) by omega) ?_
    have nowlt : past.getLastD 0 < (graphD d).length := by rw [gl]; exact ok3.nowlt
    have hrow : (graphD d)[past.getLastD 0]? = some (gNx (graphD d) (past.getLastD 0)) := by
      unfold gNx
      rw [List.getD_eq_getElem?_getD, List.getElem?_eq_getElem nowlt]
      rfl
    obtain ⟨x, hx, ex⟩ := Paired.right gR hrow
    have g3' : H3 g = some (.lst (as.map V.ref)) := st3.but _ _ gA ng (fun _ z => nomatch z)
    have x3 := st3.but _ _ ex (nr x (List.mem_of_getElem? hx)) (fun _ z => nomatch z)
    have m3 := st3.but _ _ m2 nm (fun _ z => nomatch z)
    have jlt : ∀ j ∈ gNx (graphD d) (past.getLastD 0), j < (namesM d.n d.k).length := fun j hj => by
      have := graph_into ok.dims (R := d.R) (m := (d.m : Int)) _ j hj
      rw [graph_len] at this
      exact this
    refine ⟨_, rfl, _, rfl, p, dx, _, rfl, S3.rd.obj, rfl, p, dx, a.fa, a.pr, a.pm, a.pp, pt, _, rfl, ok3, S3.rd, g, _, _, .ref x, rfl, rfl, SqL.of g3', atI_nat (by rw [List.getElem?_map, show (StD.now { d with past := past }) = past.getLastD 0 from rfl, hx]; rfl), !(vN (gNx (graphD d) (past.getLastD 0))).isEmpty, .inl ⟨_, SqL.of x3, rfl⟩, ?_⟩
    by_cases ce : gNx (graphD d) (past.getLastD 0) = []
    · exact ifFb (by rw [ce]; rfl) ⟨_, rfl, fin (by unfold runM; rw [if_pos ce])⟩
    · have hstep : runM hp (graphD d) ms (n + 1) past = ((runM hp (graphD d) ms n (comeM past (chooseM hp ms (gNx (graphD d) (past.getLastD 0))))).1 + 1, (runM hp (graphD d) ms n (comeM past (chooseM hp ms (gNx (graphD d) (past.getLastD 0))))).2) := by
        conv => lhs; unfold runM
        rw [if_neg ce]
      refine ifTb (by
        cases hA : gNx (graphD d) (past.getLastD 0) with
        | nil => exact absurd hA ce
        | cons _ _ => rfl) ⟨fun σ' H' => ∃ m', m' < n + 1 ∧ WRun K H2 p dx pt g mv X a d hp ms most m' σ' H', fun _ _ z => z, ?_⟩
      refine ⟨_, rfl, _, rfl, p, dx, _, rfl, S3.rd.obj, rfl, p, dx, a.fa, a.pr, a.pm, a.pp, pt, _, rfl, ok3, S3.rd, g, _, _, .ref x, rfl, rfl, SqL.of g3', atI_nat (by rw [List.getElem?_map, show (StD.now { d with past := past }) = past.getLastD 0 from rfl, hx]; rfl), ?_⟩
      refine ⟨_, rfl, p, dx, _, rfl, S3.rd.obj, rfl, _, rfl, hp, rfl, ?_⟩
      cases hp with
      | true =>
        refine ifTb rfl ⟨_, rfl, _, rfl, x, mv, _, ms, rfl, x3, m3, ce, by have := graph_few ok.dims _ (List.mem_of_getElem? hrow); exact this, fun j hj => by rw [M.len]; exact jlt j hj, t3, fun H4 e4 t4 => ?_⟩
        obtain ⟨S4, st4⟩ := S3.ext e4 t4
        refine ⟨p, dx, pt, X, a, _, _, rfl, S4, po.p60, fun H5 S5 st5 => ?_⟩
        refine ⟨_, rfl, _, _, rfl, rfl, ?_⟩
        have hn1 : (runM true (graphD d) ms (n + 1) past).1 = (runM true (graphD d) ms n (comeM past (helpM ms (gNx (graphD d) (past.getLastD 0))))).1 + 1 := by rw [hstep]; rfl
        have hn2 : (runM true (graphD d) ms (n + 1) past).2 = (runM true (graphD d) ms n (comeM past (helpM ms (gNx (graphD d) (past.getLastD 0))))).2 := by rw [hstep]; rfl
        refine ⟨n, Nat.lt_succ_self n, c + 1, comeM past (helpM ms (gNx (graphD d) (past.getLastD 0))), _, by rw [Int.natCast_succ]; rfl, S5, (st3.trans st4).trans st5, st5.tabs t4, po.come (jlt _ (helpM_mem ce)), by omega, ?_, by rw [← e2, hn2]⟩
        rw [← e1, hn1]
        omega
      | false =>
        refine ifFb rfl ⟨_, rfl, _, rfl, x, mv, _, ms, rfl, x3, m3, ce, fun j hj => by rw [M.len]; exact jlt j hj, t3, fun H4 e4 t4 => ?_⟩
        obtain ⟨S4, st4⟩ := S3.ext e4 t4
        refine ⟨p, dx, pt, X, a, _, _, rfl, S4, po.p60, fun H5 S5 st5 => ?_⟩
        refine ⟨_, rfl, _, _, rfl, rfl, ?_⟩
        have hn1 : (runM false (graphD d) ms (n + 1) past).1 = (runM false (graphD d) ms n (comeM past (againstM ms (gNx (graphD d) (past.getLastD 0))))).1 + 1 := by rw [hstep]; rfl
        have hn2 : (runM false (graphD d) ms (n + 1) past).2 = (runM false (graphD d) ms n (comeM past (againstM ms (gNx (graphD d) (past.getLastD 0))))).2 := by rw [hstep]; rfl
        refine ⟨n, Nat.lt_succ_self n, c + 1, comeM past (againstM ms (gNx (graphD d) (past.getLastD 0))), _, by rw [Int.natCast_succ]; rfl, S5, (st3.trans st4).trans st5, st5.tabs t4, po.come (jlt _ (againstM_mem ce)), by omega, ?_, by rw [← e2, hn2]⟩
        rw [← e1, hn1]
        omega
end
end RG
namespace RG
open PySem PySem.Spec PyProof.Rows L2
open LamX (Tabs ExtN TabB)
/-! ### what a field and its trials hold is written by nobody -/
def neOk (n e k : Nat) : Bool := (allS n e k).all (fun ds => !ds.isEmpty) && !(viewsM n e k).isEmpty && !(namesM n k).isEmpty
theorem ne_ok : ∀ n, 3 ≤ n → n ≤ 7 → ∀ k, 1 ≤ k → k ≤ 3 → ∀ e, e ≤ 2 → neOk n e k = true := by
  have h : ∀ n, n < 8 → ∀ k, k < 4 → ∀ e, e < 3 → 3 ≤ n → 1 ≤ k → neOk n e k = true := by decide +kernel
  intro n h1 h2 k h3 h4 e h5
  exact h n (by omega) k (by omega) e (by omega) h1 h3
/-- these stay -/
def ButL (H H' : Hp) : Prop := ∀ b o, H b = some o → ¬ Loose o → (∀ ps, o ≠ .tbl ps) → H' b = some o
theorem tight_refs {as : List Addr} (h : as ≠ []) : ¬ Loose (.lst (as.map V.ref)) := by
  cases as with
  | nil => exact absurd rfl h
  | cons a as =>
    rintro (⟨l, e⟩ | ⟨_, _, _, _, e⟩ | ⟨_, e, _⟩)
    · cases l with
      | nil => cases e
      | cons x l => cases e
    · cases e
    · cases e
theorem tight_bls {bs : List Bool} (h : bs ≠ []) : ¬ Loose (.lst (bs.map V.bl)) := by
  cases bs with
  | nil => exact absurd rfl h
  | cons a as =>
    rintro (⟨l, e⟩ | ⟨_, _, _, _, e⟩ | ⟨_, e, _⟩)
    · cases l with
      | nil => cases e
      | cons x l => cases e
    · cases e
    · cases e
theorem tight_tup {xs : List V} : ¬ Loose (.tup xs) := by
  rintro (⟨l, e⟩ | ⟨_, _, _, _, e⟩ | ⟨_, e, _⟩) <;> cases e
theorem tight_ins {C dx : Addr} {f : Str} {v : V} {r : List (Str × V)} (h : f ≠ "field") : ¬ Loose (.ins C dx ((f, v) :: r)) := by
  rintro (⟨l, e⟩ | ⟨_, _, _, _, e⟩ | ⟨_, e, _⟩)
  · cases e
  · injection e with _ _ e
    injection e with e _
    injection e with e _
    exact h e
  · cases e
theorem tight_dT {kvs : KVT} {key : List Key} {i : Int} (h : valV kvs key = some (.int i)) : ¬ Loose (.dT kvs) := by
  rintro (⟨l, e⟩ | ⟨_, _, _, _, e⟩ | ⟨k2, e, w⟩)
  · cases e
  · cases e
  · injection e with e
    rw [e] at h
    obtain ⟨q, z⟩ := w _ _ h
    cases z
theorem FieldAt.loose {K : PySem.W.Frag} {H H' : Hp} {x : Addr} {n e k : Nat} (D : Dims n e k) (b : ButL H H') (F : FieldAt K H x n e k) : FieldAt K H' x n e k := by
  have nO := ne_ok n D.n3 D.n7 k D.k1 D.k3 e D.e2
  unfold neOk at nO
  rw [Bool.and_eq_true, Bool.and_eq_true, Bool.not_eq_true', Bool.not_eq_true', List.isEmpty_eq_false_iff, List.isEmpty_eq_false_iff] at nO
  obtain ⟨⟨nS, nV⟩, nN⟩ := nO
  obtain ⟨dx, pn, pq, ps, pv, pe, pm, h1, ⟨⟨as, a1, a2⟩, b1, ⟨ss, c1, c2⟩, ⟨vs, d1, d2⟩, e1, f1⟩⟩ := F
  have lenne : ∀ {α β : Type} {R : α → β → Prop} {l : List α} {m : List β}, Paired R l m → m ≠ [] → l ≠ [] := fun p h z => by
    have := Paired.len' p
    rw [z] at this
    exact h (List.length_eq_zero_iff.mp this.symm)
  have up : ∀ {a : Addr} {l : List V}, H a = some (.tup l) → H' a = some (.tup l) := fun h => b _ _ h tight_tup (fun _ z => nomatch z)
  refine ⟨dx, pn, pq, ps, pv, pe, pm, b _ _ h1 (tight_ins (by decide +kernel)) (fun _ z => nomatch z), ⟨as, b _ _ a1 (tight_refs (lenne a2 nN)) (fun _ z => nomatch z), Paired.imp' (fun _ _ z => up z) a2⟩, ?_,
    ⟨ss, b _ _ c1 (tight_refs (lenne c2 (by unfold allS; simpa using nN))) (fun _ z => nomatch z), ?_⟩, ⟨vs, b _ _ d1 (tight_refs (lenne d2 nV)) (fun _ z => nomatch z), Paired.imp' (fun _ _ z => up z) d2⟩, b _ _ e1 (tight_bls (by unfold evensM; simpa using nV)) (fun _ z => nomatch z), ?_⟩
  · cases hN : namesM n k with
    | nil => exact absurd hN nN
    | cons r rs =>
      have hr : r ∈ namesM n k := by rw [hN]; exact List.mem_cons_self
      rw [← hN]
      exact b _ _ b1 (tight_dT (num_at D.n3 D.n7 D.k1 D.k3 (dm_ring D hr)).1) (fun _ z => nomatch z)
  · have all : ∀ {ss : List Addr} {ds : List (List SightD)}, SeenAll K H ss ds → (∀ d ∈ ds, d ≠ []) → SeenAll K H' ss ds := by
      intro ss ds q
      induction q with
      | nil => exact fun _ => .nil
      | cons h t ih =>
        intro hd
        refine .cons ?_ (ih fun d hd2 => hd d (List.mem_cons_of_mem _ hd2))
        obtain ⟨bs, g1, g2⟩ := h
        refine ⟨bs, b _ _ g1 (tight_refs (lenne g2 (hd _ List.mem_cons_self))) (fun _ z => nomatch z), Paired.imp' (fun a s z => ?_) g2⟩
        obtain ⟨dy, lp, y1, y2⟩ := z
        exact ⟨dy, lp, b _ _ y1 (tight_ins (by decide +kernel)) (fun _ z => nomatch z), up y2⟩
    refine all c2 fun d hd => ?_
    have := List.all_eq_true.mp nS d hd
    rw [Bool.not_eq_true', List.isEmpty_eq_false_iff] at this
    exact this
  · cases hN : namesM n k with
    | nil => exact absurd hN nN
    | cons r rs =>
      have hr : (namesM n k)[0]? = some r := by rw [hN]; rfl
      have hds := List.mem_of_getElem? (all_at (e := e) hr)
      have hne : sightsM r (e : Int) ≠ [] := by
        have := List.all_eq_true.mp nS _ hds
        rw [Bool.not_eq_true', List.isEmpty_eq_false_iff] at this
        exact this
      cases hs : sightsM r (e : Int) with
      | nil => exact absurd hs hne
      | cons s ss =>
        have hm : s ∈ sightsM r (e : Int) := by rw [hs]; exact List.mem_cons_self
        exact b _ _ f1 (tight_dT (vnum_at D.n3 D.n7 D.k1 D.k3 D.e2 hds hm).1) (fun _ z => nomatch z)
theorem TrialAt.loose {K : PySem.W.Frag} {H H' : Hp} {x : Addr} {t : TrialD} (b : ButL H H') (h : TrialAt K H x t) : TrialAt K H' x t := by
  obtain ⟨dx, ps, pf, h1, h2, h3⟩ := h
  exact ⟨dx, ps, pf, b _ _ h1 (tight_ins (by decide +kernel)) (fun _ z => nomatch z), b _ _ h2 tight_tup (fun _ z => nomatch z), b _ _ h3 tight_tup (fun _ z => nomatch z)⟩
end RG
namespace RG
open PySem PySem.Spec PyProof.Rows L2
open LamX (Tabs ExtN TabB)
theorem step_ne (S : List Int → List Nat) (ts : List TrialD) (R : List Int) : trialStep S ts R ≠ [] := by
  unfold trialStep
  split
  · rename_i h
    intro z
    have : ts = [] := by simpa using z
    rw [this] at h
    cases h
  · simp
theorem trials_ne (n e k : Nat) (m : Int) : trialsM n e k m ≠ [] := by
  have hl : 0 < (rulesM (evensM n e k)).length := by
    have := fold_len (evensM n e k) [[]]
    exact this
  unfold trialsM
  obtain ⟨l', x, e⟩ : ∃ l' x, rulesM (evensM n e k) = l' ++ [x] := ⟨_, _, (List.dropLast_concat_getLast (List.ne_nil_of_length_pos hl)).symm⟩
  rw [e, fold_snoc]
  exact step_ne _ _ _
theorem butL_of {ws : List Addr} {H H' : Hp} (hw : ∀ x ∈ ws, ∀ o, H x = some o → Loose o) (b : ButM ws H H') : ButL H H' := fun x o hx hn ht => b x o hx (fun z => hn (hw x z o hx)) ht
theorem TrialsL.loose {K : PySem.W.Frag} {H H' : Hp} (b : ButL H H') {as : List Addr} {ts : List TrialD} (h : TrialsL K H as ts) : TrialsL K H' as ts := Paired.imp' (fun _ _ e => e.loose b) h
theorem Entries.ref {K : PySem.W.Frag} {H : Hp} {kvs : KVT} (h : Entries K H kvs) : ∀ key v, valV kvs key = some v → ∃ q, v = .ref q := fun key v hv => by
  obtain ⟨_, _, _, _, q, _, _, _, _, _, e, _⟩ := h key v hv
  exact ⟨q, e⟩
section
variable {P : Program} {w : World} {K : PySem.W.Frag} {mg : Str → Option Value} {base : Heap}
/-- what stands at the state's own places is loose -/
theorem loose_mut {K : PySem.W.Frag} {H : Hp} {p dx pt : Addr} {X : List Addr} {a : Ad} {d : StD} (rd : StR K H p dx a.fa a.pr a.pm a.pp pt d) (tr : H pt = some (.dT a.kvs)) (rf : ∀ key v, valV a.kvs key = some v → ∃ q, v = .ref q) (old : ∀ x ∈ X, ∃ o, H x = some o ∧ Loose o) :
    ∀ x ∈ mut4 p pt a ++ X, ∀ o, H x = some o → Loose o := by
  intro x hx o ho
  rcases List.mem_append.mp hx with hx | hx
  · simp only [List.mem_cons, List.not_mem_nil, or_false] at hx
    rcases hx with z | z | z | z
    · rw [z, rd.obj] at ho
      cases ho
      exact .inr (.inl ⟨_, _, _, _, rfl⟩)
    · rw [z, rd.rule] at ho
      cases ho
      exact .inl ⟨_, rfl⟩
    · rw [z, rd.past] at ho
      cases ho
      exact .inl ⟨_, congrArg HO.lst (vN_vI _)⟩
    · rw [z, tr] at ho
      cases ho
      exact .inr (.inr ⟨_, rfl, rf⟩)
  · obtain ⟨o', h1, h2⟩ := old x hx
    rw [h1] at ho
    cases ho
    exact h2
def spTrialsS (K : PySem.W.Frag) : Sp := fun vs H Q _ => ∃ (p dx pt : Addr) (X : List Addr) (a : Ad) (d : StD) (e m : Nat), vs = [.ref p, .int (e : Int), .int (m : Int)] ∧ StOk d ∧ StAt K H p dx pt X a d ∧ e ≤ 2 ∧ m ≤ 2 ∧ prodN (evensM d.n e d.k) ≤ 6000 ∧
  ∀ H' a' q as, StAt K H' p dx pt X a' d → Step K H H' p pt a a' → H' q = some (.lst (as.map V.ref)) → TrialsL K H' as (trialsM d.n e d.k (m : Int)) → Q (.ref q) H'
abbrev NTrialsS : List Str := ["self", "eyes", "moves", "asked"]
theorem sc_State_trials : FnScope NTrialsS ["self", "eyes", "moves"] (defScope s_State_trials) := ⟨rfl, rfl, rfl, by decide +kernel, rfl, by decide +kernel, by decide +kernel⟩
theorem ok_State_trials (T : Txt K mg) : MethOk P w K mg base 8 "State" "trials" ["self", "eyes", "moves"] (spTrialsS K) := by
  refine meth_ok (F_State_trials T) sc_State_trials (fun _ _ _ _ _ _ us hl => match us, hl with | [_, _, _], _ => rfl) (fun vs H Q E h => by obtain ⟨c, e, _, _, _, _, _, _, rfl, _⟩ := h; rfl) fun f cdv A outer s H vs Q E hr h => ?_
  obtain ⟨p, dx, pt, X, a, d, e, m, rfl, ok, S, he, hm, hN, h⟩ := h
  obtain ⟨dy, pn, pq, ps, pz, pe, pv', ha, fp⟩ := id S.rd.field
  refine ⟨_, pss_cons (ps_set (i := 3) sc_State_trials.nd rfl (Or.inl rfl) (pe_tup (pa_cons (pe_fld (pe_fld (pv 0) rfl) rfl) (pa_cons (pv 1) (pa_cons (pe_fld (pe_fld (pv 0) rfl) rfl) (pa_cons (pv 2) pa_nil))))))
    (pss_cons (ps_if (pt_cmp (pc_dnotin (hu_of hr) (pv 3) (pe_fld (pv 0) rfl))) (pss_one (ps_dput (hu_of hr) (pe_fld (pv 0) rfl) (pv 3) (pe_cd (ok_trials_of T) (hr.mono (by decide)) (pa_cons (pe_md (He.ga K "State") (ok_field_with T) T.cl_State hr (pv 0) (pa_cons (pv 1) pa_nil)) (pa_cons (pv 2) pa_nil))) rfl)) pss_nil)
    (pss_one (ps_ret (pe_dget (hu_of hr) (pe_fld (pv 0) rfl) (pv 3) (fun _ _ => rfl))))), ?_⟩
  have C := T.cl_State
  refine ⟨_, rfl, p, _, dx, _, _, rfl, S.rd.obj, C, T.n_State_field, rfl, a.fa, _, dy, _, _, rfl, ha, T.cl_Field, T.n_Field_places, rfl, _, rfl, _, rfl, p, _, dx, _, _, rfl, S.rd.obj, C, T.n_State_field, rfl, a.fa, _, dy, _, _, rfl, ha, T.cl_Field, T.n_Field_robots, rfl, _, rfl, by show 4 ≤ sizeLine; decide, fun t ht => ?_⟩
  have t1 : upd H t (.tup [.int (d.n : Int), .int (e : Int), .int (d.k : Int), .int (m : Int)]) t = some (.tup ((kk [(d.n : Int), (e : Int), (d.k : Int), (m : Int)]).map kV)) := by
    rw [upd_same, kk_kV]
    rfl
  have s1 : Same H (upd H t (.tup [.int (d.n : Int), .int (e : Int), .int (d.k : Int), .int (m : Int)])) := Same.new (Same.refl H) ht
  generalize upd H t (.tup [.int (d.n : Int), .int (e : Int), .int (d.k : Int), .int (m : Int)]) = H1 at t1 s1
  obtain ⟨S1, st1⟩ := S.same s1
  have gt := DGet.t S1.tried t1
  refine ⟨_, rfl, _, rfl, p, _, dx, _, _, rfl, S1.rd.obj, C, T.n_State_tried, rfl, pt, _, rfl, gt, _, rfl, ?_⟩
  have en := (S1.stat H1 ButM.refl).2.2
  cases hv : valV a.kvs (kk [(d.n : Int), (e : Int), (d.k : Int), (m : Int)]) with
  | some v =>
    obtain ⟨n2, e2, k2, m2, q, as, D2, hm2, hN2, hk, rfl, hq, hT⟩ := en _ _ hv
    have hk := kk_inj hk
    simp only [List.cons.injEq, and_true] at hk
    obtain ⟨z1, z2, z3, z4⟩ := hk
    have z1 : d.n = n2 := by omega
    have z2 : e = e2 := by omega
    have z3 : d.k = k2 := by omega
    have z4 : m = m2 := by omega
    rw [← z1, ← z2, ← z3, ← z4] at hT
    rw [hv] at gt
    exact ifFb rfl ⟨_, rfl, p, _, dx, _, _, rfl, S1.rd.obj, C, T.n_State_tried, rfl, _, rfl, pt, _, rfl, gt, h H1 a q as S1 st1 hq hT⟩
  | none =>
    refine ifTb rfl ⟨_, rfl, p, dx, _, rfl, S1.rd.obj, rfl, _, rfl, p, dx, a.fa, a.pr, a.pm, a.pp, pt, e, d, rfl, ok, S1.rd, he, fun H2 fq s2 hfq F2 => ?_⟩
    refine ⟨_, rfl, fq, d.n, e, d.k, (m : Int), rfl, ⟨ok.dims.n3, ok.dims.n7, ok.dims.k1, ok.dims.k3, he⟩, F2, hN, fun H3 q as s3 hq q3 T3 => ?_⟩
    have s13 := Same.trans s2 s3
    obtain ⟨S3, st3⟩ := S1.same s13
    have t3 := s13 _ _ t1
    refine ⟨_, rfl, p, _, dx, _, _, rfl, S3.rd.obj, C, T.n_State_tried, rfl, _, rfl, pt, _, rfl, DPut.t S3.tried t3 (Nat.lt_of_le_of_lt S3.keys.len (by decide)), ?_⟩
    have st4 : Step K H (upd H3 pt (.dT (putK a.kvs (kk [(d.n : Int), (e : Int), (d.k : Int), (m : Int)]) (.ref q)))) p pt a ⟨a.fa, a.pr, a.pm, a.pp, putK a.kvs (kk [(d.n : Int), (e : Int), (d.k : Int), (m : Int)]) (.ref q)⟩ :=
      S.stepD (ButD.at_ (ButD.of (Same.trans s1 s13)) (.inr (List.mem_cons_of_mem _ (List.mem_cons_of_mem _ (List.mem_cons_of_mem _ List.mem_cons_self))))) ((Dom.of (Same.trans s1 s13)).upd (fun _ z => nomatch z)) (.inl rfl) (.inl rfl)
    have st := S.stat_of st4
    obtain ⟨f4, m4, _⟩ := st _ ButM.refl
    have q4 : upd H3 pt (.dT (putK a.kvs (kk [(d.n : Int), (e : Int), (d.k : Int), (m : Int)]) (.ref q))) q = some (.lst (as.map V.ref)) := upd_other S3.tried q3 (fun z => nomatch z)
    have T4 : TrialsL K (upd H3 pt (.dT (putK a.kvs (kk [(d.n : Int), (e : Int), (d.k : Int), (m : Int)]) (.ref q)))) as (trialsM d.n e d.k (m : Int)) :=
      Paired.imp' (fun _ _ ⟨y1, y2, y3, h1, h2, h3⟩ => ⟨y1, y2, y3, upd_other S3.tried h1 (fun z => nomatch z), upd_other S3.tried h2 (fun z => nomatch z), upd_other S3.tried h3 (fun z => nomatch z)⟩) T3
    have t4 := upd_other (o := .dT (putK a.kvs (kk [(d.n : Int), (e : Int), (d.k : Int), (m : Int)]) (.ref q))) S3.tried t3 (fun z => nomatch z)
    have rd4 : StR K (upd H3 pt (.dT (putK a.kvs (kk [(d.n : Int), (e : Int), (d.k : Int), (m : Int)]) (.ref q)))) p dx a.fa a.pr a.pm a.pp pt d :=
      ⟨upd_other S3.tried S3.rd.obj (fun z => nomatch z), f4, upd_other S3.tried S3.rd.rule (fun z => nomatch z), m4, upd_other S3.tried S3.rd.past (fun z => nomatch z)⟩
    have rf : ∀ key v, valV (putK a.kvs (kk [(d.n : Int), (e : Int), (d.k : Int), (m : Int)]) (.ref q)) key = some v → ∃ q, v = .ref q := fun key v hk => by
      rw [valV_put] at hk
      by_cases c : key = kk [(d.n : Int), (e : Int), (d.k : Int), (m : Int)]
      · rw [if_pos c] at hk
        exact ⟨q, (Option.some.inj hk).symm⟩
      · rw [if_neg c] at hk
        exact en.ref _ _ hk
    have asne : as ≠ [] := fun z => by
      have := Paired.len' T3
      rw [z] at this
      exact trials_ne _ _ _ _ (List.length_eq_zero_iff.mp this.symm)
    have lo := loose_mut (a := ⟨a.fa, a.pr, a.pm, a.pp, putK a.kvs (kk [(d.n : Int), (e : Int), (d.k : Int), (m : Int)]) (.ref q)⟩) rd4 upd_same rf (S.old_of st4)
    have S4 : StAt K (upd H3 pt (.dT (putK a.kvs (kk [(d.n : Int), (e : Int), (d.k : Int), (m : Int)]) (.ref q)))) p dx pt X ⟨a.fa, a.pr, a.pm, a.pp, putK a.kvs (kk [(d.n : Int), (e : Int), (d.k : Int), (m : Int)]) (.ref q)⟩ d := by
      refine ⟨rd4, fun H'' b => ?_, upd_same, ?_, S.ne, S.out_of st4, S.old_of st4⟩
      · obtain ⟨g1, g2, g3⟩ := st H'' b
        refine ⟨g1, g2, fun key v hk => ?_⟩
        have hk : valV (putK a.kvs (kk [(d.n : Int), (e : Int), (d.k : Int), (m : Int)]) (.ref q)) key = some v := hk
        rw [valV_put] at hk
        by_cases c : key = kk [(d.n : Int), (e : Int), (d.k : Int), (m : Int)]
        · rw [if_pos c] at hk
          have bl := butL_of lo b
          exact ⟨d.n, e, d.k, m, q, as, ⟨ok.dims.n3, ok.dims.n7, ok.dims.k1, ok.dims.k3, he⟩, hm, hN, c, (Option.some.inj hk).symm, bl _ _ q4 (tight_refs asne) (fun _ z => nomatch z), T4.loose bl⟩
        · rw [if_neg c] at hk
          exact g3 _ _ hk
      · show KeysOk (putK a.kvs (kk [(d.n : Int), (e : Int), (d.k : Int), (m : Int)]) (.ref q))
        rw [put_new hv]
        refine ⟨?_, fun key hk => ?_⟩
        · rw [List.map_append, List.nodup_append]
          refine ⟨S.keys.nd, List.nodup_cons.mpr ⟨(fun z => nomatch z), List.nodup_nil⟩, fun x hx y hy z => ?_⟩
          rw [List.mem_singleton.mp hy] at z
          rw [z] at hx
          exact valV_not hv hx
        · rw [List.map_append] at hk
          rcases List.mem_append.mp hk with hk | hk
          · exact S.keys.each key hk
          · rw [List.mem_singleton.mp hk]
            exact ⟨d.n, e, d.k, m, ⟨ok.dims.n3, ok.dims.n7, ok.dims.k1, ok.dims.k3, he⟩, hm, rfl⟩
    refine ⟨_, rfl, p, _, dx, _, _, rfl, S4.rd.obj, C, T.n_State_tried, rfl, _, rfl, pt, .ref q, rfl, ?_, h _ _ q as S4 st4 q4 T4⟩
    have := DGet.t S4.tried t4
    rw [show (⟨a.fa, a.pr, a.pm, a.pp, putK a.kvs (kk [(d.n : Int), (e : Int), (d.k : Int), (m : Int)]) (.ref q)⟩ : Ad).kvs = putK a.kvs (kk [(d.n : Int), (e : Int), (d.k : Int), (m : Int)]) (.ref q) from rfl, valV_put, if_pos rfl] at this
    exact this
end
end RG
namespace RG
open PySem PySem.Spec PyProof.Rows L2
open LamX (Tabs ExtN TabB)
section
variable {K : PySem.W.Frag} {H H' : Hp} {p dx pt : Addr} {X : List Addr} {a a' : Ad}
/-- the state stands there, begun or not -/
structure StB (K : PySem.W.Frag) (H : Hp) (p dx pt : Addr) (X : List Addr) (a : Ad) (vf : V) (m : Nat) : Prop where
  obj : H p = some (.ins (He.ga K "State") dx (stateF vf m a.pr a.pm a.pp pt))
  rule : ∃ l, H a.pr = some (.lst (vI l))
  past : ∃ l, H a.pp = some (.lst (vI l))
  tried : H pt = some (.dT a.kvs)
  ent : ∀ H', ButM (mut4 p pt a ++ X) H H' → Entries K H' a.kvs
  keys : KeysOk a.kvs
  ne : a.pr ≠ a.pp
  out : ∀ x ∈ X, x ≠ p ∧ x ≠ a.pr ∧ x ≠ a.pp ∧ x ≠ pt
  old : ∀ x ∈ X, ∃ o, H x = some o ∧ Loose o
theorem StAt.stB {d : StD} (S : StAt K H p dx pt X a d) : StB K H p dx pt X a (.ref a.fa) d.m :=
  ⟨S.rd.obj, ⟨_, S.rd.rule⟩, ⟨_, by rw [← vN_vI]; exact S.rd.past⟩, S.tried, fun H' b => (S.stat H' b).2.2, S.keys, S.ne, S.out, S.old⟩
theorem gen_stat {Φ : Hp → Prop} (st : ∀ H', ButM (mut4 p pt a ++ X) H H' → Φ H') (s : Step K H H' p pt a a') : ∀ H'', ButM (mut4 p pt a' ++ X) H' H'' → Φ H'' := by
  intro H'' b
  refine st H'' fun c o hc hn ht => b _ _ (s.but _ _ hc (fun z => hn (List.mem_append_left _ z)) ht) (fun z => ?_) ht
  rcases List.mem_append.mp z with z | z
  · refine hn (List.mem_append_left _ ?_)
    simp only [List.mem_cons, List.not_mem_nil, or_false] at z ⊢
    rcases z with z | z | z | z
    · exact .inl z
    · rcases s.pr with e | e
      · exact .inr (.inl (z.trans e))
      · rw [z] at hc
        obtain ⟨ps, y⟩ := e _ hc
        exact absurd y (ht ps)
    · rcases s.pp with e | e
      · exact .inr (.inr (.inl (z.trans e)))
      · rw [z] at hc
        obtain ⟨ps, y⟩ := e _ hc
        exact absurd y (ht ps)
    · exact .inr (.inr (.inr z))
  · exact hn (List.mem_append_right _ z)
theorem gen_out (out : ∀ x ∈ X, x ≠ p ∧ x ≠ a.pr ∧ x ≠ a.pp ∧ x ≠ pt) (old : ∀ x ∈ X, ∃ o, H x = some o ∧ Loose o) (s : Step K H H' p pt a a') : ∀ x ∈ X, x ≠ p ∧ x ≠ a'.pr ∧ x ≠ a'.pp ∧ x ≠ pt := by
  intro x hx
  obtain ⟨h1, h2, h3, h4⟩ := out x hx
  obtain ⟨o, ho, hn⟩ := old x hx
  have hn := hn.ntbl
  refine ⟨h1, ?_, ?_, h4⟩
  · rcases s.pr with e | e
    · rw [e]; exact h2
    · intro z
      rw [z] at ho
      obtain ⟨ps, y⟩ := e _ ho
      exact hn ps y
  · rcases s.pp with e | e
    · rw [e]; exact h3
    · intro z
      rw [z] at ho
      obtain ⟨ps, y⟩ := e _ ho
      exact hn ps y
theorem gen_old (out : ∀ x ∈ X, x ≠ p ∧ x ≠ a.pr ∧ x ≠ a.pp ∧ x ≠ pt) (old : ∀ x ∈ X, ∃ o, H x = some o ∧ Loose o) (s : Step K H H' p pt a a') : ∀ x ∈ X, ∃ o, H' x = some o ∧ Loose o := by
  intro x hx
  obtain ⟨h1, h2, h3, h4⟩ := out x hx
  obtain ⟨o, ho, hn⟩ := old x hx
  refine ⟨o, s.but _ _ ho (fun z => ?_) hn.ntbl, hn⟩
  simp only [List.mem_cons, List.not_mem_nil, or_false] at z
  rcases z with z | z | z | z
  · exact h1 z
  · exact h2 z
  · exact h3 z
  · exact h4 z
theorem StB.mut_kind {vf : V} {m : Nat} (S : StB K H p dx pt X a vf m) : ∀ x ∈ mut4 p pt a, ∀ o, H x = some o → (∀ ps, o ≠ .tbl ps) ∧ ∀ g, o ≠ .ext g := by
  intro x hx o ho
  obtain ⟨l1, r1⟩ := S.rule
  obtain ⟨l2, r2⟩ := S.past
  simp only [List.mem_cons, List.not_mem_nil, or_false] at hx
  rcases hx with z | z | z | z
  · rw [z, S.obj] at ho
    cases ho
    exact ⟨(fun _ z => nomatch z), fun _ z => nomatch z⟩
  · rw [z, r1] at ho
    cases ho
    exact ⟨(fun _ z => nomatch z), fun _ z => nomatch z⟩
  · rw [z, r2] at ho
    cases ho
    exact ⟨(fun _ z => nomatch z), fun _ z => nomatch z⟩
  · rw [z, S.tried] at ho
    cases ho
    exact ⟨(fun _ z => nomatch z), fun _ z => nomatch z⟩
theorem StB.stepD {vf : V} {m : Nat} (S : StB K H p dx pt X a vf m) (b : ButD (mut4 p pt a) H H') (dm : Dom H H') (h1 : a'.pr = a.pr ∨ Fresh H a'.pr) (h2 : a'.pp = a.pp ∨ Fresh H a'.pp) : Step K H H' p pt a a' :=
  ⟨fun x o e n _ => b x o e n, dm, h1, h2, tabs_but b S.mut_kind⟩
end
section
variable {P : Program} {w : World} {K : PySem.W.Frag} {mg : Str → Option Value} {base : Heap}
theorem none_back {p y : Addr} {H H' : Hp} {o : HO} (b : But p H H') (hp : H' p = some o) (hy : H' y = none) : H y = none := by
  cases hc : H y with
  | none => rfl
  | some u =>
    by_cases e : y = p
    · rw [e, hp] at hy
      cases hy
    · have := b _ _ hc e
      rw [hy] at this
      cases this
theorem ButL.upd {p : Addr} {H H' : Hp} {o : HO} (b : ButL H H') (hp : ∀ u, H p = some u → Loose u) : ButL H (L2.upd H' p o) := fun x u hx hn ht => by
  rw [upd_ne]
  · exact b _ _ hx hn ht
  · intro z
    rw [z] at hx
    exact hn (hp _ hx)
theorem flat_rep : ∀ n : Nat, (List.replicate n [V.int 0]).flatten = vI (List.replicate n 0)
  | 0 => rfl
  | n + 1 => by
    rw [List.replicate_succ, List.flatten_cons, flat_rep n]
    rfl
def spTrialsNow (K : PySem.W.Frag) : Sp := fun vs H Q _ => ∃ (p dx pt : Addr) (X : List Addr) (a : Ad) (d : StD), vs = [.ref p] ∧ StOk d ∧ StAt K H p dx pt X a d ∧ prodN (evensM d.n d.e d.k) ≤ 6000 ∧
  ∀ H' a' q as, StAt K H' p dx pt X a' d → Step K H H' p pt a a' → H' q = some (.lst (as.map V.ref)) → TrialsL K H' as (trialsM d.n d.e d.k (d.m : Int)) → Q (.ref q) H'
theorem sc_trials_now : FnScope ["self"] ["self"] (defScope s_State_trials_now) := ⟨rfl, rfl, rfl, by decide +kernel, rfl, by decide +kernel, by decide +kernel⟩
theorem ok_trials_now (T : Txt K mg) : MethOk P w K mg base 9 "State" "trials_now" ["self"] (spTrialsNow K) := by
  refine meth_ok (F_State_trials_now T) sc_trials_now (fun _ _ _ _ _ _ us hl => match us, hl with | [_], _ => rfl) (fun vs H Q E h => by obtain ⟨c, e, _, _, _, _, rfl, _⟩ := h; rfl) fun f cdv A outer s H vs Q E hr h => ?_
  obtain ⟨p, dx, pt, X, a, d, rfl, ok, S, hN, h⟩ := h
  obtain ⟨dy, pn, pq, ps, pz, pe, pv', ha, fp⟩ := id S.rd.field
  refine ⟨_, pss_one (ps_ret (pe_md (He.ga K "State") (ok_State_trials T) T.cl_State hr (pv 0) (pa_cons (pe_fld (pe_fld (pv 0) rfl) rfl) (pa_cons (pe_fld (pv 0) rfl) pa_nil)))), ?_⟩
  exact ⟨_, rfl, p, dx, _, rfl, S.rd.obj, rfl, _, rfl, p, _, dx, _, _, rfl, S.rd.obj, T.cl_State, T.n_State_field, rfl, a.fa, _, dy, _, _, rfl, ha, T.cl_Field, T.n_Field_eyes, rfl, _, rfl, p, _, dx, _, _, rfl, S.rd.obj, T.cl_State, T.n_State_moves, rfl,
    p, dx, pt, X, a, d, d.e, d.m, rfl, ok, S, ok.dims.e2, ok.m2, hN, h⟩
def beginD (n e k m : Nat) : StD := ⟨n, e, k, m, List.replicate (viewsM n e k).length 0, [], [0]⟩
def spBegin (K : PySem.W.Frag) : Sp := fun vs H Q _ => ∃ (p dx pt : Addr) (X : List Addr) (a : Ad) (vf : V) (m0 n e k m : Nat), vs = [.ref p, .int (n : Int), .int (e : Int), .int (k : Int), .int (m : Int)] ∧ StB K H p dx pt X a vf m0 ∧ Dims n e k ∧ m ≤ 2 ∧
  ∀ H' a', StAt K H' p dx pt X a' (beginD n e k m) → Step K H H' p pt a a' → Q .non H'
abbrev NBegin : List Str := ["self", "places", "eyes", "robots", "moves"]
theorem sc_State_begin : FnScope NBegin NBegin (defScope s_State_begin) := ⟨rfl, rfl, rfl, by decide +kernel, rfl, by decide +kernel, by decide +kernel⟩
theorem ok_State_begin (T : Txt K mg) : MethOk P w K mg base 7 "State" "begin" NBegin (spBegin K) := by
  refine meth_ok (F_State_begin T) sc_State_begin (fun _ _ _ _ _ _ us hl => match us, hl with | [_, _, _, _, _], _ => rfl) (fun vs H Q E h => by obtain ⟨c, e, _, _, _, _, _, _, _, _, _, rfl, _⟩ := h; rfl) fun f cdv A outer s H vs Q E hr h => ?_
  obtain ⟨p, dx, pt, X, a, vf, m0, n, e, k, m, rfl, S, dm, hm, h⟩ := h
  refine ⟨_, pss_cons (ps_fldN (pv 0) (pe_mk (He.ga K "Field") (ok_Field_init T) hr T.g_Field (pa_cons (pv 1) (pa_cons (pv 2) (pa_cons (pv 3) pa_nil)))) rfl)
    (pss_cons (ps_fldN (pv 0) (pv 4) rfl)
    (pss_cons (ps_fldN (pv 0) (pe_op op_rep (pe_lst (pa_cons pe_int pa_nil)) (pe_len T.b_len (pa_cons (pe_fld (pe_fld (pv 0) rfl) rfl) pa_nil))) rfl)
    (pss_cons (ps_fldN (pv 0) (pe_lst pa_nil) rfl)
    (pss_one (ps_fldN (pv 0) (pe_lst (pa_cons pe_int pa_nil)) rfl))))), ?_⟩
  have C := T.cl_State
  refine ⟨_, rfl, _, rfl, _, rfl, fun x dz nx nd ne => ⟨x, dz, n, e, k, rfl, upd_same, dm.n3, dm.n7, dm.k1, dm.k3, dm.e2, fun H1 F1 b1 => ⟨rfl, ?_⟩⟩⟩
  have s1 : Same H H1 := Same.made nx nd b1
  clear b1 nd ne
  have p1 := s1 _ _ S.obj
  have lp : ∀ u, H1 p = some u → Loose u := fun u hu => by
    rw [p1] at hu
    cases hu
    exact .inr (.inl ⟨_, _, _, _, rfl⟩)
  -- self.field, self.moves
  refine ⟨_, rfl, p, _, dx, _, stateF (.ref x) m0 a.pr a.pm a.pp pt, rfl, p1, C, T.n_State_field, by show 6 < 1000; decide, rfl, ?_⟩
  refine ⟨_, rfl, _, rfl, p, _, dx, _, stateF (.ref x) m a.pr a.pm a.pp pt, rfl, upd_same, C, T.n_State_moves, by show 6 < 1000; decide, rfl, ?_⟩
  rw [upd_upd]
  have b3 : But p H (upd H1 p (.ins (He.ga K "State") dx (stateF (.ref x) m a.pr a.pm a.pp pt))) := But.upd (fun c o hc _ => s1 _ _ hc)
  have l3 : ButL H1 (upd H1 p (.ins (He.ga K "State") dx (stateF (.ref x) m a.pr a.pm a.pp pt))) := ButL.upd (fun c o hc _ _ => hc) lp
  have p3 : upd H1 p (.ins (He.ga K "State") dx (stateF (.ref x) m a.pr a.pm a.pp pt)) p = some (.ins (He.ga K "State") dx (stateF (.ref x) m a.pr a.pm a.pp pt)) := upd_same
  generalize upd H1 p (.ins (He.ga K "State") dx (stateF (.ref x) m a.pr a.pm a.pp pt)) = H3 at b3 l3 p3
  -- self.rule
  refine ⟨by show 1 ≤ sizeLine; decide, fun l0 hl0 => ?_⟩
  have s4 : Same H3 (upd H3 l0 (.lst [.int 0])) := Same.new (Same.refl H3) hl0
  have z4 : upd H3 l0 (.lst [.int 0]) l0 = some (.lst [.int 0]) := upd_same
  generalize upd H3 l0 (.lst [.int 0]) = H4 at s4 z4
  have p4 := s4 _ _ p3
  have l4 : ButL H1 H4 := fun c o hc hn ht => s4 _ _ (l3 _ _ hc hn ht)
  have b4 := b3.same s4
  clear hl0
  obtain ⟨dy, pn, pq, ps, pz, pe, pv', ha, fp⟩ := F1.loose dm l4
  obtain ⟨vs, v1, v2⟩ := fp.views
  have vl : vs.length = (viewsM n e k).length := Paired.len' v2
  have v64 := views_few dm
  refine ⟨_, rfl, p, _, dx, _, _, rfl, p4, C, T.n_State_field, rfl, x, _, dy, _, _, rfl, ha, T.cl_Field, T.n_Field_views, rfl, pz, _, rfl, .inl (SqL.of v1), l0, _, _, rfl, rfl, z4, by rw [List.length_map]; omega, by rw [List.length_map]; omega, ?_, fun q hq => ?_⟩
  · rw [List.length_map, Int.toNat_natCast]
    exact Nat.le_trans (show _ ≤ 64 by show 1 * vs.length ≤ 64; omega) (by decide)
  rw [List.length_map, Int.toNat_natCast, vl, flat_rep]
  have q5 : upd H4 q (.lst (vI (List.replicate (viewsM n e k).length 0))) q = some (.lst (vI (List.replicate (viewsM n e k).length 0))) := upd_same
  have s5 : Same H4 (upd H4 q (.lst (vI (List.replicate (viewsM n e k).length 0)))) := Same.new (Same.refl H4) hq
  have hq0 : H q = none := none_back b4 p4 hq
  generalize upd H4 q (.lst (vI (List.replicate (viewsM n e k).length 0))) = H5 at q5 s5
  have p5 := s5 _ _ p4
  have l5 : ButL H1 H5 := fun c o hc hn ht => s5 _ _ (l4 _ _ hc hn ht)
  have b5 := b4.same s5
  clear hq z4 s4 ha fp v1 v2 p4 l4 b4 p3 l3 b3
  refine ⟨_, rfl, p, _, dx, _, stateF (.ref x) m q a.pm a.pp pt, rfl, p5, C, T.n_State_rule, by show 6 < 1000; decide, rfl, ?_⟩
  have b6 := But.upd (o := .ins (He.ga K "State") dx (stateF (.ref x) m q a.pm a.pp pt)) b5
  have l6 : ButL H1 (upd H5 p (.ins (He.ga K "State") dx (stateF (.ref x) m q a.pm a.pp pt))) := l5.upd lp
  have q6 := upd_other (o := .ins (He.ga K "State") dx (stateF (.ref x) m q a.pm a.pp pt)) p5 q5 (fun z => nomatch z)
  have p6 : upd H5 p (.ins (He.ga K "State") dx (stateF (.ref x) m q a.pm a.pp pt)) p = some (.ins (He.ga K "State") dx (stateF (.ref x) m q a.pm a.pp pt)) := upd_same
  generalize upd H5 p (.ins (He.ga K "State") dx (stateF (.ref x) m q a.pm a.pp pt)) = H6 at b6 l6 q6 p6
  clear b5 l5 q5 p5 s5
  -- self.marked
  refine ⟨by show 0 ≤ sizeLine; decide, fun mk hmk => ?_⟩
  have mk7 : upd H6 mk (.lst []) mk = some (.lst (vN [])) := upd_same
  have s7 : Same H6 (upd H6 mk (.lst [])) := Same.new (Same.refl H6) hmk
  have hmk0 : H mk = none := none_back b6 p6 hmk
  have mkq : mk ≠ q := fun z => by rw [z, q6] at hmk; cases hmk
  generalize upd H6 mk (.lst []) = H7 at mk7 s7
  have p7 := s7 _ _ p6
  refine ⟨_, rfl, p, _, dx, _, stateF (.ref x) m q mk a.pp pt, rfl, p7, C, T.n_State_marked, by show 6 < 1000; decide, rfl, ?_⟩
  have b8 := But.upd (o := .ins (He.ga K "State") dx (stateF (.ref x) m q mk a.pp pt)) (b6.same s7)
  have l8 : ButL H1 (upd H7 p (.ins (He.ga K "State") dx (stateF (.ref x) m q mk a.pp pt))) := ButL.upd (fun c o hc hn ht => s7 _ _ (l6 _ _ hc hn ht)) lp
  have q8 := upd_other (o := .ins (He.ga K "State") dx (stateF (.ref x) m q mk a.pp pt)) p7 (s7 _ _ q6) (fun z => nomatch z)
  have mk8 := upd_other (o := .ins (He.ga K "State") dx (stateF (.ref x) m q mk a.pp pt)) p7 mk7 (fun z => nomatch z)
  have p8 : upd H7 p (.ins (He.ga K "State") dx (stateF (.ref x) m q mk a.pp pt)) p = some (.ins (He.ga K "State") dx (stateF (.ref x) m q mk a.pp pt)) := upd_same
  generalize upd H7 p (.ins (He.ga K "State") dx (stateF (.ref x) m q mk a.pp pt)) = H8 at b8 l8 q8 mk8 p8
  clear b6 l6 q6 p6 p7 mk7 s7 hmk
  -- self.past
  refine ⟨by show 1 ≤ sizeLine; decide, fun pk hpk => ?_⟩
  have pk9 : upd H8 pk (.lst [.int 0]) pk = some (.lst (vN [0])) := upd_same
  have s9 : Same H8 (upd H8 pk (.lst [.int 0])) := Same.new (Same.refl H8) hpk
  have hpk0 : H pk = none := none_back b8 p8 hpk
  have pkq : q ≠ pk := fun z => by rw [← z, q8] at hpk; cases hpk
  have pkm : mk ≠ pk := fun z => by rw [← z, mk8] at hpk; cases hpk
  generalize upd H8 pk (.lst [.int 0]) = H9 at pk9 s9
  have p9 := s9 _ _ p8
  refine ⟨_, rfl, p, _, dx, _, stateF (.ref x) m q mk pk pt, rfl, p9, C, T.n_State_past, by show 6 < 1000; decide, rfl, ?_⟩
  have b10 := But.upd (o := .ins (He.ga K "State") dx (stateF (.ref x) m q mk pk pt)) (b8.same s9)
  have l10 : ButL H1 (upd H9 p (.ins (He.ga K "State") dx (stateF (.ref x) m q mk pk pt))) := ButL.upd (fun c o hc hn ht => s9 _ _ (l8 _ _ hc hn ht)) lp
  have q10 := upd_other (o := .ins (He.ga K "State") dx (stateF (.ref x) m q mk pk pt)) p9 (s9 _ _ q8) (fun z => nomatch z)
  have mk10 := upd_other (o := .ins (He.ga K "State") dx (stateF (.ref x) m q mk pk pt)) p9 (s9 _ _ mk8) (fun z => nomatch z)
  have pk10 := upd_other (o := .ins (He.ga K "State") dx (stateF (.ref x) m q mk pk pt)) p9 pk9 (fun z => nomatch z)
  have p10 : upd H9 p (.ins (He.ga K "State") dx (stateF (.ref x) m q mk pk pt)) p = some (.ins (He.ga K "State") dx (stateF (.ref x) m q mk pk pt)) := upd_same
  generalize upd H9 p (.ins (He.ga K "State") dx (stateF (.ref x) m q mk pk pt)) = H10 at b10 l10 q10 mk10 pk10 p10
  have pp : p ≠ pt := fun z => by
    have := S.tried
    rw [← z, S.obj] at this
    cases this
  have t10 : H10 pt = some (.dT a.kvs) := b10 _ _ S.tried pp.symm
  have dom : Dom H H10 := fun c o hc hn => by
    by_cases e : c = p
    · exact ⟨.ins (He.ga K "State") dx (stateF (.ref x) m q mk pk pt), (by rw [e]; exact p10), (fun _ z => nomatch z)⟩
    · exact ⟨o, b10 _ _ hc e, hn⟩
  have st : Step K H H10 p pt a ⟨x, q, mk, pk, a.kvs⟩ := S.stepD (fun c o hc hn => b10 _ _ hc (fun z => hn (by rw [z]; exact List.mem_cons_self))) dom (.inr (Fresh.of hq0)) (.inr (Fresh.of hpk0))
  have old := gen_old S.out S.old st
  have rd : StR K H10 p dx x q mk pk pt (beginD n e k m) := ⟨p10, F1.loose dm l10, q10, mk10, pk10⟩
  have ent := gen_stat (Φ := fun H' => Entries K H' a.kvs) S.ent st
  have lo := loose_mut (a := ⟨x, q, mk, pk, a.kvs⟩) rd t10 (ent H10 ButM.refl).ref old
  refine h H10 ⟨x, q, mk, pk, a.kvs⟩ ⟨rd, fun H'' b => ⟨rd.field.loose dm (butL_of lo b), b _ _ mk10 (fun z => ?_) (fun _ z => nomatch z), ent H'' b⟩, t10, S.keys, pkq, gen_out S.out S.old st, old⟩ st
  rcases List.mem_append.mp z with z | z
  · simp only [List.mem_cons, List.not_mem_nil, or_false] at z
    rcases z with z | z | z | z
    · rw [z, S.obj] at hmk0
      cases hmk0
    · exact mkq z
    · exact pkm z
    · rw [z, S.tried] at hmk0
      cases hmk0
  · obtain ⟨o, ho, _⟩ := S.old _ z
    rw [hmk0] at ho
    cases ho
end
end RG
namespace RG
open PySem PySem.Spec PyProof.Rows L2
open LamX (Tabs ExtN TabB)
section
variable {P : Program} {w : World} {K : PySem.W.Frag} {mg : Str → Option Value} {base : Heap}
def spStateI (K : PySem.W.Frag) : Sp := fun vs H Q _ => ∃ (p dx : Addr), vs = [.ref p] ∧ H p = some (.ins (He.ga K "State") dx []) ∧
  ∀ H' pr pm pp pt, H' p = some (.ins (He.ga K "State") dx (stateF .non 0 pr pm pp pt)) → H' pr = some (.lst []) → H' pp = some (.lst []) → H' pt = some (.dT []) → pr ≠ pp → But p H H' → Q .non H'
theorem sc_State_init : FnScope ["self"] ["self"] (defScope s_State_init) := ⟨rfl, rfl, rfl, by decide +kernel, rfl, by decide +kernel, by decide +kernel⟩
theorem ok_State_init (T : Txt K mg) : InitOk P w K mg base 1 "State" ["self"] (spStateI K) := by
  refine init_ok (F_State_init T) sc_State_init (fun _ _ _ _ _ _ us hl => match us, hl with | [_], _ => rfl) (fun vs H Q E h => by obtain ⟨c, e, rfl, _⟩ := h; rfl) fun f cdv A outer s H vs Q E hr h => ?_
  obtain ⟨p, dx, rfl, hp, h⟩ := h
  refine ⟨_, pss_cons (ps_fldN (pv 0) pe_non rfl) (pss_cons (ps_fldN (pv 0) pe_int rfl) (pss_cons (ps_fldN (pv 0) (pe_lst pa_nil) rfl) (pss_cons (ps_fldN (pv 0) (pe_lst pa_nil) rfl) (pss_cons (ps_fldN (pv 0) (pe_lst pa_nil) rfl) (pss_one (ps_fldN (pv 0) pe_dnewT rfl)))))), ?_⟩
  have C := T.cl_State
  refine ⟨_, rfl, p, _, dx, _, [("field", .non)], rfl, hp, C, T.n_State_field, by decide, rfl, ?_⟩
  refine ⟨_, rfl, p, _, dx, _, [("field", .non), ("moves", .int 0)], rfl, upd_same, C, T.n_State_moves, by show 1 < 1000; decide, rfl, ?_⟩
  rw [upd_upd]
  have b0 : But p H (upd H p (.ins (He.ga K "State") dx [("field", .non), ("moves", .int 0)])) := But.upd But.refl
  have p0 : upd H p (.ins (He.ga K "State") dx [("field", .non), ("moves", .int 0)]) p = some (.ins (He.ga K "State") dx [("field", .non), ("moves", .int 0)]) := upd_same
  generalize upd H p (.ins (He.ga K "State") dx [("field", .non), ("moves", .int 0)]) = H0 at b0 p0
  refine ⟨by show 0 ≤ sizeLine; decide, fun pr hpr => ?_⟩
  have s1 : Same H0 (upd H0 pr (.lst [])) := Same.new (Same.refl H0) hpr
  have r1 : upd H0 pr (.lst []) pr = some (.lst []) := upd_same
  generalize upd H0 pr (.lst []) = H1 at s1 r1
  have p1 := s1 _ _ p0
  refine ⟨_, rfl, p, _, dx, _, [("field", .non), ("moves", .int 0), ("rule", .ref pr)], rfl, p1, C, T.n_State_rule, by show 2 < 1000; decide, rfl, ?_⟩
  have b2 := But.upd (o := .ins (He.ga K "State") dx [("field", .non), ("moves", .int 0), ("rule", .ref pr)]) (b0.same s1)
  have r2 := upd_other (o := .ins (He.ga K "State") dx [("field", .non), ("moves", .int 0), ("rule", .ref pr)]) p1 r1 (fun z => nomatch z)
  have p2 : upd H1 p (.ins (He.ga K "State") dx [("field", .non), ("moves", .int 0), ("rule", .ref pr)]) p = some (.ins (He.ga K "State") dx [("field", .non), ("moves", .int 0), ("rule", .ref pr)]) := upd_same
  generalize upd H1 p (.ins (He.ga K "State") dx [("field", .non), ("moves", .int 0), ("rule", .ref pr)]) = H2 at b2 r2 p2
  refine ⟨by show 0 ≤ sizeLine; decide, fun pm hpm => ?_⟩
  have s3 : Same H2 (upd H2 pm (.lst [])) := Same.new (Same.refl H2) hpm
  generalize upd H2 pm (.lst []) = H3 at s3
  have p3 := s3 _ _ p2
  have r3 := s3 _ _ r2
  refine ⟨_, rfl, p, _, dx, _, [("field", .non), ("moves", .int 0), ("rule", .ref pr), ("marked", .ref pm)], rfl, p3, C, T.n_State_marked, by show 3 < 1000; decide, rfl, ?_⟩
  have b4 := But.upd (o := .ins (He.ga K "State") dx [("field", .non), ("moves", .int 0), ("rule", .ref pr), ("marked", .ref pm)]) (b2.same s3)
  have r4 := upd_other (o := .ins (He.ga K "State") dx [("field", .non), ("moves", .int 0), ("rule", .ref pr), ("marked", .ref pm)]) p3 r3 (fun z => nomatch z)
  have p4 : upd H3 p (.ins (He.ga K "State") dx [("field", .non), ("moves", .int 0), ("rule", .ref pr), ("marked", .ref pm)]) p = some (.ins (He.ga K "State") dx [("field", .non), ("moves", .int 0), ("rule", .ref pr), ("marked", .ref pm)]) := upd_same
  generalize upd H3 p (.ins (He.ga K "State") dx [("field", .non), ("moves", .int 0), ("rule", .ref pr), ("marked", .ref pm)]) = H4 at b4 r4 p4
  refine ⟨by show 0 ≤ sizeLine; decide, fun pp hpp => ?_⟩
  have s5 : Same H4 (upd H4 pp (.lst [])) := Same.new (Same.refl H4) hpp
  have q5 : upd H4 pp (.lst []) pp = some (.lst []) := upd_same
  have ne : pr ≠ pp := ne_of_none r4 hpp
  generalize upd H4 pp (.lst []) = H5 at s5 q5
  have p5 := s5 _ _ p4
  have r5 := s5 _ _ r4
  refine ⟨_, rfl, p, _, dx, _, [("field", .non), ("moves", .int 0), ("rule", .ref pr), ("marked", .ref pm), ("past", .ref pp)], rfl, p5, C, T.n_State_past, by show 4 < 1000; decide, rfl, ?_⟩
  have b6 := But.upd (o := .ins (He.ga K "State") dx [("field", .non), ("moves", .int 0), ("rule", .ref pr), ("marked", .ref pm), ("past", .ref pp)]) (b4.same s5)
  have r6 := upd_other (o := .ins (He.ga K "State") dx [("field", .non), ("moves", .int 0), ("rule", .ref pr), ("marked", .ref pm), ("past", .ref pp)]) p5 r5 (fun z => nomatch z)
  have q6 := upd_other (o := .ins (He.ga K "State") dx [("field", .non), ("moves", .int 0), ("rule", .ref pr), ("marked", .ref pm), ("past", .ref pp)]) p5 q5 (fun z => nomatch z)
  have p6 : upd H5 p (.ins (He.ga K "State") dx [("field", .non), ("moves", .int 0), ("rule", .ref pr), ("marked", .ref pm), ("past", .ref pp)]) p = some (.ins (He.ga K "State") dx [("field", .non), ("moves", .int 0), ("rule", .ref pr), ("marked", .ref pm), ("past", .ref pp)]) := upd_same
  generalize upd H5 p (.ins (He.ga K "State") dx [("field", .non), ("moves", .int 0), ("rule", .ref pr), ("marked", .ref pm), ("past", .ref pp)]) = H6 at b6 r6 q6 p6
  intro pt hpt
  have s7 : Same H6 (upd H6 pt (.dT [])) := Same.new (Same.refl H6) hpt
  have t7 : upd H6 pt (.dT []) pt = some (.dT []) := upd_same
  generalize upd H6 pt (.dT []) = H7 at s7 t7
  have p7 := s7 _ _ p6
  refine ⟨_, rfl, p, _, dx, _, stateF .non 0 pr pm pp pt, rfl, p7, C, T.n_State_tried, by show 5 < 1000; decide, rfl, ?_⟩
  exact h _ pr pm pp pt upd_same (upd_other p7 (s7 _ _ r6) (fun z => nomatch z)) (upd_other p7 (s7 _ _ q6) (fun z => nomatch z)) (upd_other p7 t7 (fun z => nomatch z)) ne (But.upd (b6.same s7))
/-! ### calls -/
/-- a call on a state that has begun -/
def spC (K : PySem.W.Frag) (pre : StD → List Nat → Prop) (step : StD → List Nat → StD × List Int) : Sp := fun vs H Q _ => ∃ (p dx pt b : Addr) (X : List Addr) (a : Ad) (d : StD) (ns : List Nat), vs = [.ref p, .ref b] ∧ StOk d ∧ StAt K H p dx pt X a d ∧ Tabs (lamT K) H ∧ H b = some (.lst (vN ns)) ∧ b ∉ mut4 p pt a ∧ pre d ns ∧
  ∀ H' a' q, StAt K H' p dx pt X a' (step d ns).1 → Step K H H' p pt a a' → H' q = some (.lst (vI (step d ns).2)) → Q (.ref q) H'
theorem StAt.moved {H H' : Hp} {p dx pt : Addr} {X : List Addr} {a : Ad} {d : StD} (S : StAt K H p dx pt X a d) (m : Nat) : StAt K (upd H p (.ins (He.ga K "State") dx (stateF (.ref a.fa) m a.pr a.pm a.pp pt))) p dx pt X a { d with m := m } ∧ Step K H (upd H p (.ins (He.ga K "State") dx (stateF (.ref a.fa) m a.pr a.pm a.pp pt))) p pt a a := by
  have st : Step K H (upd H p (.ins (He.ga K "State") dx (stateF (.ref a.fa) m a.pr a.pm a.pp pt))) p pt a a := S.stepD (ButD.at_ ButD.refl (.inr List.mem_cons_self)) ((Dom.of (Same.refl H)).upd (fun _ z => nomatch z)) (.inl rfl) (.inl rfl)
  exact ⟨S.next (a := a) st upd_same (upd_other S.rd.obj S.rd.rule (fun z => nomatch z)) (upd_other S.rd.obj S.rd.past (fun z => nomatch z)) (upd_other S.rd.obj S.tried (fun z => nomatch z)) S.ne, st⟩
def preOne : StD → List Nat → Prop := fun _ ns => ∃ x, ns = [x]
def stepAt (d : StD) (ns : List Nat) : StD × List Int := if 2 < ns.getD 0 0 then (d, [-22]) else ({ d with m := ns.getD 0 0 }, [(d.m : Int)])
theorem sc_call_at : FnScope ["state", "numbers", "was"] ["state", "numbers"] (defScope s_call_at) := ⟨rfl, rfl, rfl, by decide +kernel, rfl, by decide +kernel, by decide +kernel⟩
theorem ok_call_at (T : Txt K mg) : DefOk P w K mg base 2 "call_at" ["state", "numbers"] (spC K preOne stepAt) := by
  refine def_ok (F_call_at T) sc_call_at (fun _ _ _ _ _ _ us hl => match us, hl with | [_, _], _ => rfl) (fun vs H Q E h => by obtain ⟨_, _, _, _, _, _, _, _, rfl, _⟩ := h; rfl) fun f cdv A outer s H vs Q E hr h => ?_
  obtain ⟨p, dx, pt, b, X, a, d, ns, rfl, ok, S, tb, hb, nb, ⟨x, rfl⟩, h⟩ := h
  refine ⟨_, pss_cons (ps_if (pt_cmpR op_gt (pe_ix ix_list (pv 1) pe_int (fun _ _ => rfl)) pe_int (nomark _)) (pss_one (ps_ret (pe_cd0 (ok_not_let T) hr))) pss_nil)
    (pss_cons (ps_set (i := 2) sc_call_at.nd rfl (Or.inl rfl) (pe_fld (pv 0) rfl))
    (pss_cons (ps_fldN (pv 0) (pe_ix ix_list (pv 1) pe_int (fun _ _ => rfl)) rfl)
    (pss_one (ps_ret (pe_lst (pa_cons (pv 2) pa_nil)))))), ?_⟩
  have C := T.cl_State
  refine ⟨_, rfl, b, vN [x], 0, .int (x : Int), rfl, rfl, SqL.of hb, rfl, _, _, rfl, rfl, _, rfl, ?_⟩
  by_cases c : 2 < x
  · have e : stepAt d [x] = (d, [-22]) := if_pos c
    rw [e] at h
    refine ifT (show (2 : Int) < (x : Int) by omega) ⟨rfl, fun q hq => ?_⟩
    obtain ⟨S1, st1⟩ := S.same (Same.new (o := .lst [.int (-22)]) (Same.refl H) hq)
    exact h _ a q S1 st1 upd_same
  · have e : stepAt d [x] = ({ d with m := x }, [(d.m : Int)]) := if_neg c
    rw [e] at h
    refine ifF (show ¬ (2 : Int) < (x : Int) by omega) ?_
    refine ⟨_, rfl, p, _, dx, _, _, rfl, S.rd.obj, C, T.n_State_moves, rfl, _, rfl, b, vN [x], 0, .int (x : Int), rfl, rfl, SqL.of hb, rfl, _, rfl, p, _, dx, _, stateF (.ref a.fa) x a.pr a.pm a.pp pt, rfl, S.rd.obj, C, T.n_State_moves, by show 6 < 1000; decide, rfl, ?_⟩
    obtain ⟨S1, st1⟩ := S.moved (H' := H) x
    refine ⟨_, rfl, by show 1 ≤ sizeLine; decide, fun q hq => ?_⟩
    obtain ⟨S2, st2⟩ := S1.same (Same.new (o := .lst [.int (d.m : Int)]) (Same.refl _) hq)
    exact h _ a q S2 (st1.trans st2) upd_same
end
end RG
namespace RG
open PySem PySem.Spec PyProof.Rows L2
open LamX (Tabs ExtN TabB)
def preNo : StD → List Nat → Prop := fun _ ns => ns = []
def StD.N (d : StD) : Nat := (namesM d.n d.k).length
def StD.nameOf (d : StD) (i : Nat) : List Int := (namesM d.n d.k).getD i []
theorem nameOf_at {d : StD} {i : Nat} (h : i < d.N) : (namesM d.n d.k)[i]? = some (d.nameOf i) := by
  unfold StD.nameOf
  rw [List.getD_eq_getElem?_getD, List.getElem?_eq_getElem h]
  rfl
section
variable {P : Program} {w : World} {K : PySem.W.Frag} {mg : Str → Option Value} {base : Heap}
def stepNames (d : StD) (_ : List Nat) : StD × List Int := (d, [(d.N : Int)])
theorem sc_call_names : FnScope ["state", "numbers"] ["state", "numbers"] (defScope s_call_names) := ⟨rfl, rfl, rfl, by decide +kernel, rfl, by decide +kernel, by decide +kernel⟩
theorem ok_call_names (T : Txt K mg) : DefOk P w K mg base 2 "call_names" ["state", "numbers"] (spC K preNo stepNames) := by
  refine def_ok (F_call_names T) sc_call_names (fun _ _ _ _ _ _ us hl => match us, hl with | [_, _], _ => rfl) (fun vs H Q E h => by obtain ⟨_, _, _, _, _, _, _, _, rfl, _⟩ := h; rfl) fun f cdv A outer s H vs Q E hr h => ?_
  obtain ⟨p, dx, pt, b, X, a, d, ns, rfl, ok, S, tb, hb, nb, rfl, h⟩ := h
  obtain ⟨dy, pn, pq, ps, pz, pe, pv', ha, fp⟩ := id S.rd.field
  obtain ⟨as, n1, n2⟩ := fp.names
  refine ⟨_, pss_one (ps_ret (pe_lst (pa_cons (pe_len T.b_len (pa_cons (pe_fld (pe_fld (pv 0) rfl) rfl) pa_nil)) pa_nil))), ?_⟩
  refine ⟨_, rfl, p, _, dx, _, _, rfl, S.rd.obj, T.cl_State, T.n_State_field, rfl, a.fa, _, dy, _, _, rfl, ha, T.cl_Field, T.n_Field_names, rfl, pn, _, rfl, .inl (SqL.of n1), by show 1 ≤ sizeLine; decide, fun q hq => ?_⟩
  rw [List.length_map, Paired.len' n2]
  obtain ⟨S1, st1⟩ := S.same (Same.new (o := .lst [.int (d.N : Int)]) (Same.refl H) hq)
  exact h _ a q S1 st1 upd_same
def stepName (d : StD) (ns : List Nat) : StD × List Int := if ns.getD 0 0 < d.N then (d, (d.n : Int) :: d.nameOf (ns.getD 0 0)) else (d, [-2])
theorem sc_call_name : FnScope ["state", "numbers"] ["state", "numbers"] (defScope s_call_name) := ⟨rfl, rfl, rfl, by decide +kernel, rfl, by decide +kernel, by decide +kernel⟩
theorem ok_call_name (T : Txt K mg) : DefOk P w K mg base 2 "call_name" ["state", "numbers"] (spC K preOne stepName) := by
  refine def_ok (F_call_name T) sc_call_name (fun _ _ _ _ _ _ us hl => match us, hl with | [_, _], _ => rfl) (fun vs H Q E h => by obtain ⟨_, _, _, _, _, _, _, _, rfl, _⟩ := h; rfl) fun f cdv A outer s H vs Q E hr h => ?_
  obtain ⟨p, dx, pt, b, X, a, d, ns, rfl, ok, S, tb, hb, nb, ⟨x, rfl⟩, h⟩ := h
  obtain ⟨dy, pn, pq, ps, pz, pe, pv', ha, fp⟩ := id S.rd.field
  obtain ⟨as, n1, n2⟩ := fp.names
  refine ⟨_, pss_cons (ps_if (pt_not (pt_val (pe_md (He.ga K "Field") (ok_has_name T) T.cl_Field hr (pe_fld (pv 0) rfl) (pa_cons (pe_ix ix_list (pv 1) pe_int (fun _ _ => rfl)) pa_nil)))) (pss_one (ps_ret (pe_cd0 (ok_no_such T) hr))) pss_nil)
    (pss_one (ps_ret (pe_cd (ok_counted T) hr (pa_cons (pe_ix ix_list (pe_fld (pe_fld (pv 0) rfl) rfl) (pe_ix ix_list (pv 1) pe_int (fun _ _ => rfl)) (fun _ _ => rfl)) pa_nil)))), ?_⟩
  refine ⟨_, rfl, p, _, dx, _, _, rfl, S.rd.obj, T.cl_State, T.n_State_field, rfl, a.fa, dy, _, rfl, ha, rfl, _, rfl, b, vN [x], 0, .int (x : Int), rfl, rfl, SqL.of hb, rfl, a.fa, d.n, d.e, d.k, (x : Int), rfl, S.rd.field, _, rfl, ?_⟩
  by_cases c : x < d.N
  · have e : stepName d [x] = (d, (d.n : Int) :: d.nameOf x) := if_pos c
    rw [e] at h
    refine ifFb (by rw [decide_eq_true (show (x : Int) < ((namesM d.n d.k).length : Int) by unfold StD.N at c; omega)]; rfl) ?_
    obtain ⟨ra, hra, era⟩ := Paired.right n2 (nameOf_at c)
    have nl := (names_len ok.dims.n3 ok.dims.n7 ok.dims.k3 (n := d.n) (k := d.k)).2 _ (List.mem_of_getElem? (nameOf_at c))
    have n7 := ok.dims.n7
    refine ⟨_, rfl, p, _, dx, _, _, rfl, S.rd.obj, T.cl_State, T.n_State_field, rfl, a.fa, _, dy, _, _, rfl, ha, T.cl_Field, T.n_Field_names, rfl, _, rfl, b, vN [x], 0, .int (x : Int), rfl, rfl, SqL.of hb, rfl, pn, _, _, .ref ra, rfl, rfl, SqL.of n1, atI_nat (by rw [List.getElem?_map, hra]; rfl), ra, vI (d.nameOf x), rfl, Sq.tup era, by rw [vI_len, nl]; exact Nat.le_trans (show _ ≤ 8 by omega) (by decide), fun H1 q s1 hq q1 => ?_⟩
    rw [vI_len, nl] at q1
    obtain ⟨S1, st1⟩ := S.same s1
    exact h _ a q S1 st1 q1
  · have e : stepName d [x] = (d, [-2]) := if_neg c
    rw [e] at h
    refine ifTb (by rw [decide_eq_false (show ¬ (x : Int) < ((namesM d.n d.k).length : Int) by unfold StD.N at c; omega)]; rfl) ⟨rfl, fun q hq => ?_⟩
    obtain ⟨S1, st1⟩ := S.same (Same.new (o := .lst [.int (-2)]) (Same.refl H) hq)
    exact h _ a q S1 st1 upd_same
def stepPlace (d : StD) (ns : List Nat) : StD × List Int := if ns.getD 0 0 < d.N then ({ d with past := [ns.getD 0 0] }, [(d.now : Int)]) else (d, [-2])
theorem sc_call_place : FnScope ["state", "numbers", "was"] ["state", "numbers"] (defScope s_call_place) := ⟨rfl, rfl, rfl, by decide +kernel, rfl, by decide +kernel, by decide +kernel⟩
theorem ok_call_place (T : Txt K mg) : DefOk P w K mg base 2 "call_place" ["state", "numbers"] (spC K preOne stepPlace) := by
  refine def_ok (F_call_place T) sc_call_place (fun _ _ _ _ _ _ us hl => match us, hl with | [_, _], _ => rfl) (fun vs H Q E h => by obtain ⟨_, _, _, _, _, _, _, _, rfl, _⟩ := h; rfl) fun f cdv A outer s H vs Q E hr h => ?_
  obtain ⟨p, dx, pt, b, X, a, d, ns, rfl, ok, S, tb, hb, nb, ⟨x, rfl⟩, h⟩ := h
  obtain ⟨dy, pn, pq, ps, pz, pe, pv', ha, fp⟩ := id S.rd.field
  refine ⟨_, pss_cons (ps_if (pt_not (pt_val (pe_md (He.ga K "Field") (ok_has_name T) T.cl_Field hr (pe_fld (pv 0) rfl) (pa_cons (pe_ix ix_list (pv 1) pe_int (fun _ _ => rfl)) pa_nil)))) (pss_one (ps_ret (pe_cd0 (ok_no_such T) hr))) pss_nil)
    (pss_cons (ps_set (i := 2) sc_call_place.nd rfl (Or.inl rfl) (pe_md0 (He.ga K "State") (ok_name_now T) T.cl_State hr (pv 0)))
    (pss_cons (ps_expr (pe_md (He.ga K "State") (ok_State_put T) T.cl_State hr (pv 0) (pa_cons (pe_ix ix_list (pv 1) pe_int (fun _ _ => rfl)) pa_nil)))
    (pss_one (ps_ret (pe_lst (pa_cons (pv 2) pa_nil)))))), ?_⟩
  refine ⟨_, rfl, p, _, dx, _, _, rfl, S.rd.obj, T.cl_State, T.n_State_field, rfl, a.fa, dy, _, rfl, ha, rfl, _, rfl, b, vN [x], 0, .int (x : Int), rfl, rfl, SqL.of hb, rfl, a.fa, d.n, d.e, d.k, (x : Int), rfl, S.rd.field, _, rfl, ?_⟩
  by_cases c : x < d.N
  · have e : stepPlace d [x] = ({ d with past := [x] }, [(d.now : Int)]) := if_pos c
    rw [e] at h
    refine ifFb (by rw [decide_eq_true (show (x : Int) < ((namesM d.n d.k).length : Int) by unfold StD.N at c; omega)]; rfl) ?_
    refine ⟨_, rfl, p, dx, _, rfl, S.rd.obj, rfl, p, dx, a.fa, a.pr, a.pm, a.pp, pt, d, rfl, ok, S.rd, ?_⟩
    refine ⟨_, rfl, p, dx, _, rfl, S.rd.obj, rfl, _, rfl, b, vN [x], 0, .int (x : Int), rfl, rfl, SqL.of hb, rfl, p, dx, pt, X, a, d, x, rfl, S, fun H1 a1 S1 st1 => ?_⟩
    refine ⟨_, rfl, by show 1 ≤ sizeLine; decide, fun q hq => ?_⟩
    obtain ⟨S2, st2⟩ := S1.same (Same.new (o := .lst [.int (d.now : Int)]) (Same.refl _) hq)
    exact h _ a1 q S2 (st1.trans st2) upd_same
  · have e : stepPlace d [x] = (d, [-2]) := if_neg c
    rw [e] at h
    refine ifTb (by rw [decide_eq_false (show ¬ (x : Int) < ((namesM d.n d.k).length : Int) by unfold StD.N at c; omega)]; rfl) ⟨rfl, fun q hq => ?_⟩
    obtain ⟨S1, st1⟩ := S.same (Same.new (o := .lst [.int (-2)]) (Same.refl H) hq)
    exact h _ a q S1 st1 upd_same
def stepRing (d : StD) (_ : List Nat) : StD × List Int := (d, (d.now : Int) :: d.name)
theorem sc_call_ring : FnScope ["state", "numbers", "now"] ["state", "numbers"] (defScope s_call_ring) := ⟨rfl, rfl, rfl, by decide +kernel, rfl, by decide +kernel, by decide +kernel⟩
theorem ok_call_ring (T : Txt K mg) : DefOk P w K mg base 2 "call_ring" ["state", "numbers"] (spC K preNo stepRing) := by
  refine def_ok (F_call_ring T) sc_call_ring (fun _ _ _ _ _ _ us hl => match us, hl with | [_, _], _ => rfl) (fun vs H Q E h => by obtain ⟨_, _, _, _, _, _, _, _, rfl, _⟩ := h; rfl) fun f cdv A outer s H vs Q E hr h => ?_
  obtain ⟨p, dx, pt, b, X, a, d, ns, rfl, ok, S, tb, hb, nb, rfl, h⟩ := h
  obtain ⟨dy, pn, pq, ps, pz, pe, pv', ha, fp⟩ := id S.rd.field
  obtain ⟨as, n1, n2⟩ := fp.names
  obtain ⟨ra, hra, era⟩ := Paired.right n2 ok.nameAt
  have nl := (names_len ok.dims.n3 ok.dims.n7 ok.dims.k3 (n := d.n) (k := d.k)).2 _ (List.mem_of_getElem? ok.nameAt)
  have n7 := ok.dims.n7
  refine ⟨_, pss_cons (ps_set (i := 2) sc_call_ring.nd rfl (Or.inl rfl) (pe_md0 (He.ga K "State") (ok_name_now T) T.cl_State hr (pv 0)))
    (pss_one (ps_ret (pe_op op_cat (pe_lst (pa_cons (pv 2) pa_nil)) (pe_callTy (call_list_of) (by rfl) T.b_list (by decide +kernel) (pa_cons (pe_ix ix_list (pe_fld (pe_fld (pv 0) rfl) rfl) (pv 2) (fun _ _ => rfl)) pa_nil))))), ?_⟩
  refine ⟨_, rfl, p, dx, _, rfl, S.rd.obj, rfl, p, dx, a.fa, a.pr, a.pm, a.pp, pt, d, rfl, ok, S.rd, ?_⟩
  refine ⟨_, rfl, by show 1 ≤ sizeLine; decide, fun l hl => ?_⟩
  have s1 : Same H (upd H l (.lst [.int (d.now : Int)])) := Same.new (Same.refl H) hl
  have l1 : upd H l (.lst [.int (d.now : Int)]) l = some (.lst [.int (d.now : Int)]) := upd_same
  generalize upd H l (.lst [.int (d.now : Int)]) = H1 at s1 l1
  refine ⟨_, rfl, p, _, dx, _, _, rfl, s1 _ _ S.rd.obj, T.cl_State, T.n_State_field, rfl, a.fa, _, dy, _, _, rfl, s1 _ _ ha, T.cl_Field, T.n_Field_names, rfl, _, rfl, pn, _, _, .ref ra, rfl, rfl, SqL.of (s1 _ _ n1), atI_nat (by rw [List.getElem?_map, hra]; rfl), ra, vI d.name, rfl, Sq.same (Sq.tup era) s1, fun r hr' => ?_⟩
  have s2 : Same H1 (upd H1 r (.lst (vI d.name))) := Same.new (Same.refl H1) hr'
  refine ⟨l, r, _, _, rfl, rfl, s2 _ _ l1, upd_same, by rw [vI_len, nl]; exact Nat.le_trans (show _ ≤ 8 by show 1 + d.n ≤ 8; omega) (by decide), fun q hq => ?_⟩
  obtain ⟨S1, st1⟩ := S.same (Same.new (o := .lst ([.int (d.now : Int)] ++ vI d.name)) (Same.trans s1 s2) hq)
  exact h _ a q S1 st1 upd_same
end
end RG
namespace RG
open PySem PySem.Spec PyProof.Rows L2
open LamX (Tabs ExtN TabB)
def cntI (l : List Nat) : List Int := (l.length : Int) :: iN l
theorem cntI_eq (l : List Nat) : (V.int ((vN l).length : Int) :: vN l) = vI (cntI l) := by
  rw [List.length_map, vN_vI]
  rfl
section
variable {P : Program} {w : World} {K : PySem.W.Frag} {mg : Str → Option Value} {base : Heap}
def stepSees (d : StD) (_ : List Nat) : StD × List Int := (d, cntI (viewsIn d.n d.e d.k (sightsM d.name (d.e : Int))))
theorem sc_call_sees : FnScope ["state", "numbers"] ["state", "numbers"] (defScope s_call_sees) := ⟨rfl, rfl, rfl, by decide +kernel, rfl, by decide +kernel, by decide +kernel⟩
theorem ok_call_sees (T : Txt K mg) : DefOk P w K mg base 2 "call_sees" ["state", "numbers"] (spC K preNo stepSees) := by
  refine def_ok (F_call_sees T) sc_call_sees (fun _ _ _ _ _ _ us hl => match us, hl with | [_, _], _ => rfl) (fun vs H Q E h => by obtain ⟨_, _, _, _, _, _, _, _, rfl, _⟩ := h; rfl) fun f cdv A outer s H vs Q E hr h => ?_
  obtain ⟨p, dx, pt, b, X, a, d, ns, rfl, ok, S, tb, hb, nb, rfl, h⟩ := h
  obtain ⟨dy, pn, pq, ps, pz, pe, pv', ha, fp⟩ := id S.rd.field
  refine ⟨_, pss_one (ps_ret (pe_cd (ok_counted T) hr (pa_cons (pe_md (He.ga K "Field") (ok_views_in T) T.cl_Field hr (pe_fld (pv 0) rfl) (pa_cons (pe_md0 (He.ga K "State") (ok_name_now T) T.cl_State hr (pv 0)) pa_nil)) pa_nil))), ?_⟩
  refine ⟨_, rfl, p, _, dx, _, _, rfl, S.rd.obj, T.cl_State, T.n_State_field, rfl, a.fa, dy, _, rfl, ha, rfl, _, rfl, p, dx, _, rfl, S.rd.obj, rfl, p, dx, a.fa, a.pr, a.pm, a.pp, pt, d, rfl, ok, S.rd, ?_⟩
  refine ⟨a.fa, d.n, d.e, d.k, d.now, _, rfl, ok.dims, S.rd.field, all_at ok.nameAt, fun H1 q1 s1 hq1 z1 => ?_⟩
  have vl : (viewsIn d.n d.e d.k (sightsM d.name (d.e : Int))).length ≤ 100 := by
    have h2 := viewsIn_len (n := d.n) (e := d.e) (k := d.k) (sightsM d.name (d.e : Int)) []
    have h3 := seen_few ok.dims (List.mem_of_getElem? (all_at (e := d.e) ok.nameAt))
    simp only [List.length_nil] at h2
    unfold viewsIn
    omega
  refine ⟨q1, _, rfl, Sq.lst z1, by rw [List.length_map]; exact Nat.le_trans (show _ ≤ 101 by omega) (by decide), fun H2 q s2 hq z2 => ?_⟩
  rw [cntI_eq] at z2
  obtain ⟨S1, st1⟩ := S.same (Same.trans s1 s2)
  exact h _ a q S1 st1 z2
def StD.V (d : StD) : Nat := (viewsM d.n d.e d.k).length
def stepView (d : StD) (ns : List Nat) : StD × List Int := if ns.getD 0 0 < d.V then (d, (if (evensM d.n d.e d.k).getD (ns.getD 0 0) false = true then 1 else 0) :: (viewsM d.n d.e d.k).getD (ns.getD 0 0) []) else (d, [-2])
theorem sc_call_view : FnScope ["state", "numbers", "view", "even"] ["state", "numbers"] (defScope s_call_view) := ⟨rfl, rfl, rfl, by decide +kernel, rfl, by decide +kernel, by decide +kernel⟩
theorem view_len {n e k : Nat} (D : Dims n e k) {r : List Int} (h : r ∈ viewsM n e k) : r.length = n := by
  unfold viewsM at h
  exact ((field_okP D.n3 D.n7 D.k1 D.k3 D.e2).bd r ((sortM_perm _).mem_iff.mp h)).1
theorem ok_call_view (T : Txt K mg) : DefOk P w K mg base 2 "call_view" ["state", "numbers"] (spC K preOne stepView) := by
  refine def_ok (F_call_view T) sc_call_view (fun _ _ _ _ _ _ us hl => match us, hl with | [_, _], _ => rfl) (fun vs H Q E h => by obtain ⟨_, _, _, _, _, _, _, _, rfl, _⟩ := h; rfl) fun f cdv A outer s H vs Q E hr h => ?_
  obtain ⟨p, dx, pt, b, X, a, d, ns, rfl, ok, S, tb, hb, nb, ⟨x, rfl⟩, h⟩ := h
  obtain ⟨dy, pn, pq, ps, pz, pe, pv', ha, fp⟩ := id S.rd.field
  obtain ⟨vs, n1, n2⟩ := fp.views
  refine ⟨_, pss_cons (ps_set (i := 2) sc_call_view.nd rfl (Or.inl rfl) (pe_ix ix_list (pv 1) pe_int (fun _ _ => rfl)))
    (pss_cons (ps_if (pt_not (pt_val (pe_md (He.ga K "Field") (ok_has_view T) T.cl_Field hr (pe_fld (pv 0) rfl) (pa_cons (pv 2) pa_nil)))) (pss_one (ps_ret (pe_cd0 (ok_no_such T) hr))) pss_nil)
    (pss_cons (ps_set (i := 3) sc_call_view.nd rfl (Or.inl rfl) (pe_ifExp (pt_val (pe_ix ix_list (pe_fld (pe_fld (pv 0) rfl) rfl) (pv 2) (fun _ _ => rfl))) pe_int pe_int))
    (pss_one (ps_ret (pe_op op_cat (pe_lst (pa_cons (pv 3) pa_nil)) (pe_callTy (call_list_of) (by rfl) T.b_list (by decide +kernel) (pa_cons (pe_ix ix_list (pe_fld (pe_fld (pv 0) rfl) rfl) (pv 2) (fun _ _ => rfl)) pa_nil))))))), ?_⟩
  refine ⟨_, rfl, b, vN [x], 0, .int (x : Int), rfl, rfl, SqL.of hb, rfl, ?_⟩
  refine ⟨_, rfl, p, _, dx, _, _, rfl, S.rd.obj, T.cl_State, T.n_State_field, rfl, a.fa, dy, _, rfl, ha, rfl, _, rfl, a.fa, d.n, d.e, d.k, (x : Int), rfl, S.rd.field, _, rfl, ?_⟩
  by_cases c : x < d.V
  · have e : stepView d [x] = (d, (if (evensM d.n d.e d.k).getD x false = true then 1 else 0) :: (viewsM d.n d.e d.k).getD x []) := if_pos c
    rw [e] at h
    refine ifFb (by rw [decide_eq_true (show (x : Int) < ((viewsM d.n d.e d.k).length : Int) by unfold StD.V at c; omega)]; rfl) ?_
    have hv : (viewsM d.n d.e d.k)[x]? = some ((viewsM d.n d.e d.k).getD x []) := by
      rw [List.getD_eq_getElem?_getD, List.getElem?_eq_getElem c]
      rfl
    have hev : (evensM d.n d.e d.k)[x]? = some ((evensM d.n d.e d.k).getD x false) := by
      rw [List.getD_eq_getElem?_getD, List.getElem?_eq_getElem (by rw [evens_len]; exact c)]
      rfl
    obtain ⟨ra, hra, era⟩ := Paired.right n2 hv
    have nl := view_len ok.dims (List.mem_of_getElem? hv)
    have n7 := ok.dims.n7
    refine ⟨_, rfl, p, _, dx, _, _, rfl, S.rd.obj, T.cl_State, T.n_State_field, rfl, a.fa, _, dy, _, _, rfl, ha, T.cl_Field, T.n_Field_evens, rfl, _, rfl, pe, _, _, .bl ((evensM d.n d.e d.k).getD x false), rfl, rfl, SqL.of fp.evens, atI_nat (by rw [List.getElem?_map, hev]; rfl), _, rfl, ?_⟩
    have rest : ∀ y : Int, (if (evensM d.n d.e d.k).getD x false = true then (1 : Int) else 0) = y → ∀ (l : Addr), H l = none → ∃ z, z = z := fun _ _ _ _ => ⟨0, rfl⟩
    by_cases ce : (evensM d.n d.e d.k).getD x false = true
    · rw [if_pos ce] at h
      refine ifTb ce ⟨_, rfl, by show 1 ≤ sizeLine; decide, fun l hl => ?_⟩
      have s1 : Same H (upd H l (.lst [.int 1])) := Same.new (Same.refl H) hl
      have l1 : upd H l (.lst [.int 1]) l = some (.lst [.int 1]) := upd_same
      generalize upd H l (.lst [.int 1]) = H1 at s1 l1
      refine ⟨_, rfl, p, _, dx, _, _, rfl, s1 _ _ S.rd.obj, T.cl_State, T.n_State_field, rfl, a.fa, _, dy, _, _, rfl, s1 _ _ ha, T.cl_Field, T.n_Field_views, rfl, _, rfl, pz, _, _, .ref ra, rfl, rfl, SqL.of (s1 _ _ n1), atI_nat (by rw [List.getElem?_map, hra]; rfl), ra, _, rfl, Sq.same (Sq.tup era) s1, fun r hr' => ?_⟩
      have s2 : Same H1 (upd H1 r (.lst (vI ((viewsM d.n d.e d.k).getD x [])))) := Same.new (Same.refl H1) hr'
      refine ⟨l, r, _, _, rfl, rfl, s2 _ _ l1, upd_same, by rw [vI_len, nl]; exact Nat.le_trans (show _ ≤ 8 by show 1 + d.n ≤ 8; omega) (by decide), fun q hq => ?_⟩
      obtain ⟨S1, st1⟩ := S.same (Same.new (o := .lst ([.int 1] ++ vI ((viewsM d.n d.e d.k).getD x []))) (Same.trans s1 s2) hq)
      exact h _ a q S1 st1 upd_same
    · rw [if_neg ce] at h
      refine ifFb (by simpa using ce) ⟨_, rfl, by show 1 ≤ sizeLine; decide, fun l hl => ?_⟩
      have s1 : Same H (upd H l (.lst [.int 0])) := Same.new (Same.refl H) hl
      have l1 : upd H l (.lst [.int 0]) l = some (.lst [.int 0]) := upd_same
      generalize upd H l (.lst [.int 0]) = H1 at s1 l1
      refine ⟨_, rfl, p, _, dx, _, _, rfl, s1 _ _ S.rd.obj, T.cl_State, T.n_State_field, rfl, a.fa, _, dy, _, _, rfl, s1 _ _ ha, T.cl_Field, T.n_Field_views, rfl, _, rfl, pz, _, _, .ref ra, rfl, rfl, SqL.of (s1 _ _ n1), atI_nat (by rw [List.getElem?_map, hra]; rfl), ra, _, rfl, Sq.same (Sq.tup era) s1, fun r hr' => ?_⟩
      have s2 : Same H1 (upd H1 r (.lst (vI ((viewsM d.n d.e d.k).getD x [])))) := Same.new (Same.refl H1) hr'
      refine ⟨l, r, _, _, rfl, rfl, s2 _ _ l1, upd_same, by rw [vI_len, nl]; exact Nat.le_trans (show _ ≤ 8 by show 1 + d.n ≤ 8; omega) (by decide), fun q hq => ?_⟩
      obtain ⟨S1, st1⟩ := S.same (Same.new (o := .lst ([.int 0] ++ vI ((viewsM d.n d.e d.k).getD x []))) (Same.trans s1 s2) hq)
      exact h _ a q S1 st1 upd_same
  · have e : stepView d [x] = (d, [-2]) := if_neg c
    rw [e] at h
    refine ifTb (by rw [decide_eq_false (show ¬ (x : Int) < ((viewsM d.n d.e d.k).length : Int) by unfold StD.V at c; omega)]; rfl) ⟨rfl, fun q hq => ?_⟩
    obtain ⟨S1, st1⟩ := S.same (Same.new (o := .lst [.int (-2)]) (Same.refl H) hq)
    exact h _ a q S1 st1 upd_same
def stepNext (d : StD) (_ : List Nat) : StD × List Int := (d, cntI (aheadD d))
theorem sc_call_next : FnScope ["state", "numbers"] ["state", "numbers"] (defScope s_call_next) := ⟨rfl, rfl, rfl, by decide +kernel, rfl, by decide +kernel, by decide +kernel⟩
theorem ok_call_next (T : Txt K mg) : DefOk P w K mg base 5 "call_next" ["state", "numbers"] (spC K preNo stepNext) := by
  refine def_ok (F_call_next T) sc_call_next (fun _ _ _ _ _ _ us hl => match us, hl with | [_, _], _ => rfl) (fun vs H Q E h => by obtain ⟨_, _, _, _, _, _, _, _, rfl, _⟩ := h; rfl) fun f cdv A outer s H vs Q E hr h => ?_
  obtain ⟨p, dx, pt, b, X, a, d, ns, rfl, ok, S, tb, hb, nb, rfl, h⟩ := h
  refine ⟨_, pss_one (ps_ret (pe_cd (ok_counted T) (hr.mono (by decide)) (pa_cons (pe_md0 (He.ga K "State") (ok_State_ahead T) T.cl_State hr (pv 0)) pa_nil))), ?_⟩
  refine ⟨_, rfl, p, dx, _, rfl, S.rd.obj, rfl, p, dx, a.fa, a.pr, a.pm, a.pp, pt, d, rfl, ok, S.rd, fun H1 q1 s1 hq1 z1 => ?_⟩
  have al : (aheadD d).length ≤ 27 := ahead_len ok.dims (List.mem_of_getElem? ok.nameAt)
  refine ⟨q1, _, rfl, Sq.lst z1, by rw [List.length_map]; exact Nat.le_trans (show _ ≤ 28 by omega) (by decide), fun H2 q s2 hq z2 => ?_⟩
  rw [cntI_eq] at z2
  obtain ⟨S1, st1⟩ := S.same (Same.trans s1 s2)
  exact h _ a q S1 st1 z2
def stepPast (d : StD) (_ : List Nat) : StD × List Int := (d, cntI d.past)
theorem sc_call_past : FnScope ["state", "numbers"] ["state", "numbers"] (defScope s_call_past) := ⟨rfl, rfl, rfl, by decide +kernel, rfl, by decide +kernel, by decide +kernel⟩
theorem ok_call_past (T : Txt K mg) : DefOk P w K mg base 2 "call_past" ["state", "numbers"] (spC K preNo stepPast) := by
  refine def_ok (F_call_past T) sc_call_past (fun _ _ _ _ _ _ us hl => match us, hl with | [_, _], _ => rfl) (fun vs H Q E h => by obtain ⟨_, _, _, _, _, _, _, _, rfl, _⟩ := h; rfl) fun f cdv A outer s H vs Q E hr h => ?_
  obtain ⟨p, dx, pt, b, X, a, d, ns, rfl, ok, S, tb, hb, nb, rfl, h⟩ := h
  have p60 := ok.p60
  refine ⟨_, pss_one (ps_ret (pe_cd (ok_counted T) hr (pa_cons (pe_fld (pv 0) rfl) pa_nil))), ?_⟩
  refine ⟨_, rfl, p, _, dx, _, _, rfl, S.rd.obj, T.cl_State, T.n_State_past, rfl, a.pp, _, rfl, Sq.lst S.rd.past, by rw [List.length_map]; exact Nat.le_trans (show _ ≤ 61 by omega) (by decide), fun H2 q s2 hq z2 => ?_⟩
  rw [cntI_eq] at z2
  obtain ⟨S1, st1⟩ := S.same s2
  exact h _ a q S1 st1 z2
def stepRule (d : StD) (_ : List Nat) : StD × List Int := (d, (d.R.length : Int) :: d.R)
theorem sc_call_rule : FnScope ["state", "numbers"] ["state", "numbers"] (defScope s_call_rule) := ⟨rfl, rfl, rfl, by decide +kernel, rfl, by decide +kernel, by decide +kernel⟩
theorem ok_call_rule (T : Txt K mg) : DefOk P w K mg base 2 "call_rule" ["state", "numbers"] (spC K preNo stepRule) := by
  refine def_ok (F_call_rule T) sc_call_rule (fun _ _ _ _ _ _ us hl => match us, hl with | [_, _], _ => rfl) (fun vs H Q E h => by obtain ⟨_, _, _, _, _, _, _, _, rfl, _⟩ := h; rfl) fun f cdv A outer s H vs Q E hr h => ?_
  obtain ⟨p, dx, pt, b, X, a, d, ns, rfl, ok, S, tb, hb, nb, rfl, h⟩ := h
  have rl := ok.rl
  have vf := views_few ok.dims
  refine ⟨_, pss_one (ps_ret (pe_cd (ok_counted T) hr (pa_cons (pe_fld (pv 0) rfl) pa_nil))), ?_⟩
  refine ⟨_, rfl, p, _, dx, _, _, rfl, S.rd.obj, T.cl_State, T.n_State_rule, rfl, a.pr, _, rfl, Sq.lst S.rd.rule, by rw [vI_len]; exact Nat.le_trans (show _ ≤ 65 by omega) (by decide), fun H2 q s2 hq z2 => ?_⟩
  rw [vI_len] at z2
  obtain ⟨S1, st1⟩ := S.same s2
  exact h _ a q S1 st1 z2
end
end RG
namespace RG
open PySem PySem.Spec PyProof.Rows L2
open LamX (Tabs ExtN TabB)
theorem rise_len : ∀ (l : List Nat) (N : Nat), l.Pairwise (· < ·) → (∀ i ∈ l, i < N) → l.length ≤ N := by
  intro l N h1 h2
  have := nodup_sub (l := l) (m := List.range N) (h1.imp fun {a b} h => by omega) fun x hx => List.mem_range.mpr (h2 x hx)
  rwa [List.length_range] at this
theorem StOk.few {d : StD} (o : StOk d) : d.ms.length ≤ 20 := Nat.le_trans (rise_len _ _ o.rise o.mlt) (names_20 _ o.dims.n3 o.dims.n7 _ o.dims.k3)
section
variable {P : Program} {w : World} {K : PySem.W.Frag} {mg : Str → Option Value} {base : Heap}
def stepMarks (d : StD) (_ : List Nat) : StD × List Int := (d, cntI d.ms)
theorem sc_call_marks : FnScope ["state", "numbers"] ["state", "numbers"] (defScope s_call_marks) := ⟨rfl, rfl, rfl, by decide +kernel, rfl, by decide +kernel, by decide +kernel⟩
theorem ok_call_marks (T : Txt K mg) : DefOk P w K mg base 2 "call_marks" ["state", "numbers"] (spC K preNo stepMarks) := by
  refine def_ok (F_call_marks T) sc_call_marks (fun _ _ _ _ _ _ us hl => match us, hl with | [_, _], _ => rfl) (fun vs H Q E h => by obtain ⟨_, _, _, _, _, _, _, _, rfl, _⟩ := h; rfl) fun f cdv A outer s H vs Q E hr h => ?_
  obtain ⟨p, dx, pt, b, X, a, d, ns, rfl, ok, S, tb, hb, nb, rfl, h⟩ := h
  have fw := ok.few
  refine ⟨_, pss_one (ps_ret (pe_cd (ok_counted T) hr (pa_cons (pe_fld (pv 0) rfl) pa_nil))), ?_⟩
  refine ⟨_, rfl, p, _, dx, _, _, rfl, S.rd.obj, T.cl_State, T.n_State_marked, rfl, a.pm, _, rfl, Sq.lst S.rd.marked, by rw [List.length_map]; exact Nat.le_trans (show _ ≤ 21 by omega) (by decide), fun H2 q s2 hq z2 => ?_⟩
  rw [cntI_eq] at z2
  obtain ⟨S1, st1⟩ := S.same s2
  exact h _ a q S1 st1 z2
def stepTold (d : StD) (_ : List Nat) : StD × List Int := (d, [(d.n : Int), (d.e : Int), (d.k : Int), (d.m : Int), (d.ms.length : Int), (d.past.length : Int)])
theorem sc_call_told : FnScope ["state", "numbers", "field"] ["state", "numbers"] (defScope s_call_told) := ⟨rfl, rfl, rfl, by decide +kernel, rfl, by decide +kernel, by decide +kernel⟩
theorem ok_call_told (T : Txt K mg) : DefOk P w K mg base 1 "call_told" ["state", "numbers"] (spC K preNo stepTold) := by
  refine def_ok (F_call_told T) sc_call_told (fun _ _ _ _ _ _ us hl => match us, hl with | [_, _], _ => rfl) (fun vs H Q E h => by obtain ⟨_, _, _, _, _, _, _, _, rfl, _⟩ := h; rfl) fun f cdv A outer s H vs Q E hr h => ?_
  obtain ⟨p, dx, pt, b, X, a, d, ns, rfl, ok, S, tb, hb, nb, rfl, h⟩ := h
  obtain ⟨dy, pn, pq, ps, pz, pe, pv', ha, fp⟩ := id S.rd.field
  have C := T.cl_State
  have CF := T.cl_Field
  refine ⟨_, pss_cons (ps_set (i := 2) sc_call_told.nd rfl (Or.inl rfl) (pe_fld (pv 0) rfl))
    (pss_one (ps_ret (pe_lst (pa_cons (pe_fld (pv 2) rfl) (pa_cons (pe_fld (pv 2) rfl) (pa_cons (pe_fld (pv 2) rfl) (pa_cons (pe_fld (pv 0) rfl) (pa_cons (pe_len T.b_len (pa_cons (pe_fld (pv 0) rfl) pa_nil)) (pa_cons (pe_len T.b_len (pa_cons (pe_fld (pv 0) rfl) pa_nil)) pa_nil))))))))), ?_⟩
  refine ⟨_, rfl, p, _, dx, _, _, rfl, S.rd.obj, C, T.n_State_field, rfl, ?_⟩
  refine ⟨_, rfl, a.fa, _, dy, _, _, rfl, ha, CF, T.n_Field_places, rfl, _, rfl, a.fa, _, dy, _, _, rfl, ha, CF, T.n_Field_eyes, rfl, _, rfl, a.fa, _, dy, _, _, rfl, ha, CF, T.n_Field_robots, rfl, ?_⟩
  refine ⟨_, rfl, p, _, dx, _, _, rfl, S.rd.obj, C, T.n_State_moves, rfl, _, rfl, p, _, dx, _, _, rfl, S.rd.obj, C, T.n_State_marked, rfl, a.pm, _, rfl, .inl (SqL.of S.rd.marked), _, rfl, p, _, dx, _, _, rfl, S.rd.obj, C, T.n_State_past, rfl, a.pp, _, rfl, .inl (SqL.of S.rd.past), by show 6 ≤ sizeLine; decide, fun q hq => ?_⟩
  rw [List.length_map, List.length_map]
  obtain ⟨S1, st1⟩ := S.same (Same.new (o := .lst (vI [(d.n : Int), (d.e : Int), (d.k : Int), (d.m : Int), (d.ms.length : Int), (d.past.length : Int)])) (Same.refl H) hq)
  exact h _ a q S1 st1 upd_same
/-- the past is written anew in its place -/
theorem StAt.pastTo {H : Hp} {p dx pt : Addr} {X : List Addr} {a : Ad} {d : StD} (S : StAt K H p dx pt X a d) (past : List Nat) : StAt K (upd H a.pp (.lst (vN past))) p dx pt X a { d with past := past } ∧ Step K H (upd H a.pp (.lst (vN past))) p pt a a := by
  have st : Step K H (upd H a.pp (.lst (vN past))) p pt a a := S.stepD (ButD.at_ ButD.refl (.inr (List.mem_cons_of_mem _ (List.mem_cons_of_mem _ List.mem_cons_self)))) ((Dom.of (Same.refl H)).upd (fun _ z => nomatch z)) (.inl rfl) (.inl rfl)
  exact ⟨S.next (a := a) st (upd_other S.rd.past S.rd.obj (fun z => nomatch z)) (by rw [upd_ne S.ne]; exact S.rd.rule) upd_same (upd_other S.rd.past S.tried (fun z => nomatch z)) S.ne, st⟩
def stepBack (d : StD) (_ : List Nat) : StD × List Int := if d.past.length = 1 then (d, [-6]) else ({ d with past := d.past.dropLast }, [(d.past.dropLast.getLastD 0 : Int)])
theorem sc_call_back : FnScope ["state", "numbers"] ["state", "numbers"] (defScope s_call_back) := ⟨rfl, rfl, rfl, by decide +kernel, rfl, by decide +kernel, by decide +kernel⟩
theorem PastOk.back {N : Nat} {past : List Nat} (h : PastOk N past) (h1 : past.length ≠ 1) : PastOk N past.dropLast := by
  have hp := List.length_pos_iff.mpr h.ne
  have h60 := h.p60
  refine ⟨fun z => ?_, by rw [List.length_dropLast]; omega, fun i hi => h.plt i ((List.dropLast_sublist past).subset hi)⟩
  have := congrArg List.length z
  rw [List.length_dropLast] at this
  simp only [List.length_nil] at this
  omega
theorem ok_call_back (T : Txt K mg) : DefOk P w K mg base 2 "call_back" ["state", "numbers"] (spC K preNo stepBack) := by
  refine def_ok (F_call_back T) sc_call_back (fun _ _ _ _ _ _ us hl => match us, hl with | [_, _], _ => rfl) (fun vs H Q E h => by obtain ⟨_, _, _, _, _, _, _, _, rfl, _⟩ := h; rfl) fun f cdv A outer s H vs Q E hr h => ?_
  obtain ⟨p, dx, pt, b, X, a, d, ns, rfl, ok, S, tb, hb, nb, rfl, h⟩ := h
  have C := T.cl_State
  refine ⟨_, pss_cons (ps_if (pt_cmpR op_eq (pe_len T.b_len (pa_cons (pe_fld (pv 0) rfl) pa_nil)) pe_int (nomark _)) (pss_one (ps_ret (pe_cd0 (ok_none_to_take T) hr))) pss_nil)
    (pss_cons (ps_expr (pe_bm0 PySem.F.plainAttrs_list PySem.F.slot_list_pop PySem.F.type_list_pop mt_pop (pe_fld (pv 0) rfl) (by rfl) (by rfl)))
    (pss_one (ps_ret (pe_lst (pa_cons (pe_md0 (He.ga K "State") (ok_name_now T) T.cl_State hr (pv 0)) pa_nil))))), ?_⟩
  refine ⟨_, rfl, p, _, dx, _, _, rfl, S.rd.obj, C, T.n_State_past, rfl, a.pp, _, rfl, .inl (SqL.of S.rd.past), rfl, _, rfl, ?_⟩
  rw [List.length_map, dec_int]
  by_cases c : d.past.length = 1
  · have e : stepBack d [] = (d, [-6]) := if_pos c
    rw [e] at h
    refine ifT (show (d.past.length : Int) = 1 by omega) ⟨rfl, fun q hq => ?_⟩
    obtain ⟨S1, st1⟩ := S.same (Same.new (o := .lst [.int (-6)]) (Same.refl H) hq)
    exact h _ a q S1 st1 upd_same
  · have e : stepBack d [] = ({ d with past := d.past.dropLast }, [(d.past.dropLast.getLastD 0 : Int)]) := if_neg c
    rw [e] at h
    refine ifF (show ¬ (d.past.length : Int) = 1 by omega) ?_
    have hp := List.length_pos_iff.mpr ok.ne
    have hl : (vN d.past).length = d.past.length := List.length_map ..
    obtain ⟨y, hy⟩ : ∃ y, (vN d.past)[(vN d.past).length - 1]? = some y := ⟨_, List.getElem?_eq_getElem (by omega)⟩
    refine ⟨_, rfl, p, _, dx, _, _, rfl, S.rd.obj, C, T.n_State_past, rfl, .inl ⟨rfl, _, SqL.of S.rd.past⟩, a.pp, vN d.past, y, rfl, rfl, S.rd.past, hy, ?_⟩
    rw [show (vN d.past).dropLast = vN d.past.dropLast by unfold vN; rw [List.map_dropLast]]
    obtain ⟨S1, st1⟩ := S.pastTo d.past.dropLast
    have ok1 := ok.with (ok.past.back c)
    refine ⟨_, rfl, p, dx, _, rfl, S1.rd.obj, rfl, p, dx, a.fa, a.pr, a.pm, a.pp, pt, _, rfl, ok1, S1.rd, by show 1 ≤ sizeLine; decide, fun q hq => ?_⟩
    obtain ⟨S2, st2⟩ := S1.same (Same.new (o := .lst [.int (d.past.dropLast.getLastD 0 : Int)]) (Same.refl _) hq)
    exact h _ a q S2 (st1.trans st2) upd_same
def stepRest (d : StD) (_ : List Nat) : StD × List Int := (d, [if restsD d = true then 1 else 0])
theorem sc_call_rest : FnScope ["state", "numbers"] ["state", "numbers"] (defScope s_call_rest) := ⟨rfl, rfl, rfl, by decide +kernel, rfl, by decide +kernel, by decide +kernel⟩
theorem ok_call_rest (T : Txt K mg) : DefOk P w K mg base 6 "call_rest" ["state", "numbers"] (spC K preNo stepRest) := by
  refine def_ok (F_call_rest T) sc_call_rest (fun _ _ _ _ _ _ us hl => match us, hl with | [_, _], _ => rfl) (fun vs H Q E h => by obtain ⟨_, _, _, _, _, _, _, _, rfl, _⟩ := h; rfl) fun f cdv A outer s H vs Q E hr h => ?_
  obtain ⟨p, dx, pt, b, X, a, d, ns, rfl, ok, S, tb, hb, nb, rfl, h⟩ := h
  refine ⟨_, pss_one (ps_ret (pe_lst (pa_cons (pe_ifExp (pt_val (pe_md0 (He.ga K "State") (ok_State_rests T) T.cl_State hr (pv 0))) pe_int pe_int) pa_nil))), ?_⟩
  refine ⟨_, rfl, p, dx, _, rfl, S.rd.obj, rfl, p, dx, a.fa, a.pr, a.pm, a.pp, pt, d, rfl, ok, S.rd, fun H1 s1 => ⟨_, rfl, ?_⟩⟩
  unfold stepRest at h
  by_cases c : restsD d = true
  · rw [if_pos c] at h
    refine ifTb c ⟨by show 1 ≤ sizeLine; decide, fun q hq => ?_⟩
    obtain ⟨S2, st2⟩ := S.same (Same.new (o := .lst [.int 1]) s1 hq)
    exact h _ a q S2 st2 upd_same
  · rw [if_neg c] at h
    refine ifFb (by simpa using c) ⟨by show 1 ≤ sizeLine; decide, fun q hq => ?_⟩
    obtain ⟨S2, st2⟩ := S.same (Same.new (o := .lst [.int 0]) s1 hq)
    exact h _ a q S2 st2 upd_same
end
end RG
namespace RG
open PySem PySem.Spec PyProof.Rows L2
open LamX (Tabs ExtN TabB)
theorem MovesOf.unique {h : Bool} {d : StD} {a b : List (Option Nat)} (x : MovesOf h d a) (y : MovesOf h d b) : a = b := by
  have ll := x.len.trans y.len.symm
  refine List.ext_getElem? fun i => ?_
  cases ha : a[i]? with
  | none =>
    have := List.getElem?_eq_none_iff.mp ha
    exact (List.getElem?_eq_none (by omega)).symm
  | some o =>
    have hi := (List.getElem?_eq_some_iff.mp ha).1
    have hb : b[i]? = some (b[i]'(by omega)) := List.getElem?_eq_getElem _
    rw [hb]
    congr 1
    unfold MovesOf at x y
    cases h with
    | true =>
      rw [if_pos rfl] at x y
      exact Least.unique (x.2 _ _ ha) (y.2 _ _ hb)
    | false =>
      rw [if_neg (by decide)] at x y
      exact Least.unique (x.2 _ _ ha) (y.2 _ _ hb)
theorem MoveNow.unique {h : Bool} {d : StD} {a b : Option Nat} (x : MoveNow h d a) (y : MoveNow h d b) : a = b := by
  unfold MoveNow at x y
  cases h with
  | true =>
    rw [if_pos rfl] at x y
    exact Least.unique x y
  | false =>
    rw [if_neg (by decide)] at x y
    exact Least.unique x y
noncomputable def movesD (h : Bool) (d : StD) : List (Option Nat) := Classical.epsilon (MovesOf h d)
noncomputable def moveD (h : Bool) (d : StD) : Option Nat := Classical.epsilon (MoveNow h d)
theorem movesD_eq {h : Bool} {d : StD} {ms : List (Option Nat)} (M : MovesOf h d ms) : movesD h d = ms := MovesOf.unique (Classical.epsilon_spec ⟨ms, M⟩) M
theorem moveD_eq {h : Bool} {d : StD} {o : Option Nat} (M : MoveNow h d o) : moveD h d = o := MoveNow.unique (Classical.epsilon_spec ⟨o, M⟩) M
section
variable {P : Program} {w : World} {K : PySem.W.Frag} {mg : Str → Option Value} {base : Heap}
noncomputable def stepSure (d : StD) (_ : List Nat) : StD × List Int := (d, [if (moveD false d).isNone = true then 0 else 1])
theorem sc_call_sure : FnScope ["state", "numbers"] ["state", "numbers"] (defScope s_call_sure) := ⟨rfl, rfl, rfl, by decide +kernel, rfl, by decide +kernel, by decide +kernel⟩
theorem ok_call_sure (T : Txt K mg) : DefOk P w K mg base 7 "call_sure" ["state", "numbers"] (spC K preNo stepSure) := by
  refine def_ok (F_call_sure T) sc_call_sure (fun _ _ _ _ _ _ us hl => match us, hl with | [_, _], _ => rfl) (fun vs H Q E h => by obtain ⟨_, _, _, _, _, _, _, _, rfl, _⟩ := h; rfl) fun f cdv A outer s H vs Q E hr h => ?_
  obtain ⟨p, dx, pt, b, X, a, d, ns, rfl, ok, S, tb, hb, nb, rfl, h⟩ := h
  refine ⟨_, pss_one (ps_ret (pe_lst (pa_cons (pe_ifExp (pt_cmpR op_isN (pe_md (He.ga K "State") (ok_moves_from_now T) T.cl_State hr (pv 0) (pa_cons pe_bl pa_nil)) pe_non (nomark _)) pe_int pe_int) pa_nil))), ?_⟩
  refine ⟨_, rfl, p, dx, _, rfl, S.rd.obj, rfl, p, dx, a.fa, a.pr, a.pm, a.pp, pt, false, d, rfl, ok, S.rd, fun H1 o s1 M => ⟨rfl, _, rfl, ?_⟩⟩
  rw [mV_non]
  unfold stepSure at h
  rw [moveD_eq M] at h
  by_cases c : o.isNone = true
  · rw [if_pos c] at h
    refine ifTb c ⟨by show 1 ≤ sizeLine; decide, fun q hq => ?_⟩
    obtain ⟨S2, st2⟩ := S.same (Same.new (o := .lst [.int 0]) s1 hq)
    exact h _ a q S2 st2 upd_same
  · rw [if_neg c] at h
    refine ifFb (by rw [← Bool.not_eq_true]; exact c) ⟨by show 1 ≤ sizeLine; decide, fun q hq => ?_⟩
    obtain ⟨S2, st2⟩ := S.same (Same.new (o := .lst [.int 1]) s1 hq)
    exact h _ a q S2 st2 upd_same
def toldI (o : Option Nat) : List Int := match o with
  | some m => [(m : Int)]
  | none => [-33]
def spMovesTold : Sp := fun vs H Q _ => ∃ o : Option Nat, vs = [mV o] ∧ ∀ H' q, Same H H' → H' q = some (.lst (vI (toldI o))) → Q (.ref q) H'
theorem sc_moves_told : FnScope ["moves"] ["moves"] (defScope s_moves_told) := ⟨rfl, rfl, rfl, by decide +kernel, rfl, by decide +kernel, by decide +kernel⟩
theorem ok_moves_told (T : Txt K mg) : DefOk P w K mg base 2 "moves_told" ["moves"] spMovesTold := by
  refine def_ok (F_moves_told T) sc_moves_told (fun _ _ _ _ _ _ us hl => match us, hl with | [_], _ => rfl) (fun vs H Q E h => by obtain ⟨_, rfl, _⟩ := h; rfl) fun f cdv A outer s H vs Q E hr h => ?_
  obtain ⟨o, rfl, h⟩ := h
  refine ⟨_, pss_cons (ps_if (pt_cmpR op_isN (pv 0) pe_non (nomark _)) (pss_one (ps_ret (pe_cd0 (ok_not_gathered T) hr))) pss_nil)
    (pss_one (ps_ret (pe_lst (pa_cons (pv 0) pa_nil)))), ?_⟩
  refine ⟨_, rfl, rfl, _, rfl, ?_⟩
  rw [mV_non]
  cases o with
  | none => exact ifTb rfl ⟨rfl, fun q hq => h _ q (Same.new (Same.refl H) hq) upd_same⟩
  | some m => exact ifFb rfl ⟨_, rfl, by show 1 ≤ sizeLine; decide, fun q hq => h _ q (Same.new (Same.refl H) hq) upd_same⟩
noncomputable def stepLongest (d : StD) (_ : List Nat) : StD × List Int := (d, toldI (moveD false d))
theorem sc_call_longest : FnScope ["state", "numbers"] ["state", "numbers"] (defScope s_call_longest) := ⟨rfl, rfl, rfl, by decide +kernel, rfl, by decide +kernel, by decide +kernel⟩
theorem ok_call_longest (T : Txt K mg) : DefOk P w K mg base 7 "call_longest" ["state", "numbers"] (spC K preNo stepLongest) := by
  refine def_ok (F_call_longest T) sc_call_longest (fun _ _ _ _ _ _ us hl => match us, hl with | [_, _], _ => rfl) (fun vs H Q E h => by obtain ⟨_, _, _, _, _, _, _, _, rfl, _⟩ := h; rfl) fun f cdv A outer s H vs Q E hr h => ?_
  obtain ⟨p, dx, pt, b, X, a, d, ns, rfl, ok, S, tb, hb, nb, rfl, h⟩ := h
  refine ⟨_, pss_one (ps_ret (pe_cd (ok_moves_told T) (hr.mono (by decide)) (pa_cons (pe_md (He.ga K "State") (ok_moves_from_now T) T.cl_State hr (pv 0) (pa_cons pe_bl pa_nil)) pa_nil))), ?_⟩
  refine ⟨_, rfl, p, dx, _, rfl, S.rd.obj, rfl, p, dx, a.fa, a.pr, a.pm, a.pp, pt, false, d, rfl, ok, S.rd, fun H1 o s1 M => ⟨o, rfl, fun H2 q s2 q2 => ?_⟩⟩
  unfold stepLongest at h
  rw [moveD_eq M] at h
  obtain ⟨S2, st2⟩ := S.same (Same.trans s1 s2)
  exact h _ a q S2 st2 q2
noncomputable def stepSoonest (d : StD) (_ : List Nat) : StD × List Int := (d, toldI (moveD true d))
theorem sc_call_soonest : FnScope ["state", "numbers"] ["state", "numbers"] (defScope s_call_soonest) := ⟨rfl, rfl, rfl, by decide +kernel, rfl, by decide +kernel, by decide +kernel⟩
theorem ok_call_soonest (T : Txt K mg) : DefOk P w K mg base 7 "call_soonest" ["state", "numbers"] (spC K preNo stepSoonest) := by
  refine def_ok (F_call_soonest T) sc_call_soonest (fun _ _ _ _ _ _ us hl => match us, hl with | [_, _], _ => rfl) (fun vs H Q E h => by obtain ⟨_, _, _, _, _, _, _, _, rfl, _⟩ := h; rfl) fun f cdv A outer s H vs Q E hr h => ?_
  obtain ⟨p, dx, pt, b, X, a, d, ns, rfl, ok, S, tb, hb, nb, rfl, h⟩ := h
  refine ⟨_, pss_one (ps_ret (pe_cd (ok_moves_told T) (hr.mono (by decide)) (pa_cons (pe_md (He.ga K "State") (ok_moves_from_now T) T.cl_State hr (pv 0) (pa_cons pe_bl pa_nil)) pa_nil))), ?_⟩
  refine ⟨_, rfl, p, dx, _, rfl, S.rd.obj, rfl, p, dx, a.fa, a.pr, a.pm, a.pp, pt, true, d, rfl, ok, S.rd, fun H1 o s1 M => ⟨o, rfl, fun H2 q s2 q2 => ?_⟩⟩
  unfold stepSoonest at h
  rw [moveD_eq M] at h
  obtain ⟨S2, st2⟩ := S.same (Same.trans s1 s2)
  exact h _ a q S2 st2 q2
def stepGo (d : StD) (ns : List Nat) : StD × List Int := if ns.getD 0 0 < d.N then (if ns.getD 0 0 ∈ aheadD d then ({ d with past := comeM d.past (ns.getD 0 0) }, [((comeM d.past (ns.getD 0 0)).length : Int)]) else (d, [-12])) else (d, [-2])
theorem sc_call_go : FnScope ["state", "numbers", "name"] ["state", "numbers"] (defScope s_call_go) := ⟨rfl, rfl, rfl, by decide +kernel, rfl, by decide +kernel, by decide +kernel⟩
theorem ok_call_go (T : Txt K mg) : DefOk P w K mg base 5 "call_go" ["state", "numbers"] (spC K preOne stepGo) := by
  refine def_ok (F_call_go T) sc_call_go (fun _ _ _ _ _ _ us hl => match us, hl with | [_, _], _ => rfl) (fun vs H Q E h => by obtain ⟨_, _, _, _, _, _, _, _, rfl, _⟩ := h; rfl) fun f cdv A outer s H vs Q E hr h => ?_
  obtain ⟨p, dx, pt, b, X, a, d, ns, rfl, ok, S, tb, hb, nb, ⟨x, rfl⟩, h⟩ := h
  obtain ⟨dy, pn, pq, ps, pz, pe, pv', ha, fp⟩ := id S.rd.field
  have C := T.cl_State
  refine ⟨_, pss_cons (ps_set (i := 2) sc_call_go.nd rfl (Or.inl rfl) (pe_ix ix_list (pv 1) pe_int (fun _ _ => rfl)))
    (pss_cons (ps_if (pt_not (pt_val (pe_md (He.ga K "Field") (ok_has_name T) T.cl_Field (hr.mono (by decide)) (pe_fld (pv 0) rfl) (pa_cons (pv 2) pa_nil)))) (pss_one (ps_ret (pe_cd0 (ok_no_such T) (hr.mono (by decide))))) pss_nil)
    (pss_cons (ps_if (pt_cmpR op_notIn_seq (pv 2) (pe_md0 (He.ga K "State") (ok_State_ahead T) T.cl_State hr (pv 0)) (by rfl)) (pss_one (ps_ret (pe_cd0 (ok_may_not_come T) (hr.mono (by decide))))) pss_nil)
    (pss_cons (ps_expr (pe_md (He.ga K "State") (ok_State_come T) T.cl_State (hr.mono (by decide)) (pv 0) (pa_cons (pv 2) pa_nil)))
    (pss_one (ps_ret (pe_lst (pa_cons (pe_len T.b_len (pa_cons (pe_fld (pv 0) rfl) pa_nil)) pa_nil))))))), ?_⟩
  refine ⟨_, rfl, b, vN [x], 0, .int (x : Int), rfl, rfl, SqL.of hb, rfl, ?_⟩
  refine ⟨_, rfl, p, _, dx, _, _, rfl, S.rd.obj, C, T.n_State_field, rfl, a.fa, dy, _, rfl, ha, rfl, _, rfl, a.fa, d.n, d.e, d.k, (x : Int), rfl, S.rd.field, _, rfl, ?_⟩
  by_cases c : x < d.N
  · refine ifFb (by rw [decide_eq_true (show (x : Int) < ((namesM d.n d.k).length : Int) by unfold StD.N at c; omega)]; rfl) ?_
    refine ⟨_, rfl, _, rfl, p, dx, _, rfl, S.rd.obj, rfl, p, dx, a.fa, a.pr, a.pm, a.pp, pt, d, rfl, ok, S.rd, fun H1 q1 s1 hq1 z1 => ⟨q1, vN (aheadD d), rfl, .inl (SqL.of z1), rfl, flat_ints _, _, rfl, ?_⟩⟩
    rw [if_pos rfl, inV_ints]
    obtain ⟨S1, st1⟩ := S.same s1
    by_cases cm : x ∈ aheadD d
    · have e : stepGo d [x] = ({ d with past := comeM d.past x }, [((comeM d.past x).length : Int)]) := (if_pos c).trans (if_pos cm)
      rw [e] at h
      refine ifFb (by rw [decide_eq_true cm]; rfl) ?_
      refine ⟨_, rfl, p, dx, _, rfl, S1.rd.obj, rfl, _, rfl, p, dx, pt, X, a, d, x, rfl, S1, ok.p60, fun H2 S2 st2 => ?_⟩
      refine ⟨_, rfl, p, _, dx, _, _, rfl, S2.rd.obj, C, T.n_State_past, rfl, a.pp, _, rfl, .inl (SqL.of S2.rd.past), by show 1 ≤ sizeLine; decide, fun q hq => ?_⟩
      rw [List.length_map]
      obtain ⟨S3, st3⟩ := S2.same (Same.new (o := .lst [.int ((comeM d.past x).length : Int)]) (Same.refl _) hq)
      exact h _ a q S3 ((st1.trans st2).trans st3) upd_same
    · have e : stepGo d [x] = (d, [-12]) := (if_pos c).trans (if_neg cm)
      rw [e] at h
      refine ifTb (by rw [decide_eq_false cm]; rfl) ⟨rfl, fun q hq => ?_⟩
      obtain ⟨S2, st2⟩ := S1.same (Same.new (o := .lst [.int (-12)]) (Same.refl _) hq)
      exact h _ a q S2 (st1.trans st2) upd_same
  · have e : stepGo d [x] = (d, [-2]) := if_neg c
    rw [e] at h
    refine ifTb (by rw [decide_eq_false (show ¬ (x : Int) < ((namesM d.n d.k).length : Int) by unfold StD.N at c; omega)]; rfl) ⟨rfl, fun q hq => ?_⟩
    obtain ⟨S1, st1⟩ := S.same (Same.new (o := .lst [.int (-2)]) (Same.refl H) hq)
    exact h _ a q S1 st1 upd_same
end
end RG
namespace RG
open PySem PySem.Spec PyProof.Rows L2
open LamX (Tabs ExtN TabB)
theorem run_past {d : StD} (D : Dims d.n d.e d.k) {h : Bool} {ms : List (Option Nat)} : ∀ (t : Nat) (past : List Nat), PastOk (namesM d.n d.k).length past → PastOk (namesM d.n d.k).length (runM h (graphD d) ms t past).2
  | 0, _, po => po
  | t + 1, past, po => by
    unfold runM
    by_cases c : gNx (graphD d) (past.getLastD 0) = []
    · rw [if_pos c]
      exact po
    · rw [if_neg c]
      refine run_past D t _ (po.come ?_)
      have := graph_into D (R := d.R) (m := (d.m : Int)) _ _ (chooseM_mem (h := h) (ms := ms) c)
      rw [graph_len] at this
      exact this
noncomputable def ranD (h : Bool) (most : Nat) (d : StD) : Nat × StD := ((runM h (graphD d) (movesD h d) most d.past).1, { d with past := (runM h (graphD d) (movesD h d) most d.past).2 })
theorem ran_ok {h : Bool} {most : Nat} {d : StD} (ok : StOk d) : StOk (ranD h most d).2 := ok.with (run_past ok.dims _ _ ok.past)
noncomputable def stepOne (h : Bool) (d : StD) : StD × List Int := if (ranD h 1 d).1 = 0 then ((ranD h 1 d).2, [-33]) else ((ranD h 1 d).2, [((ranD h 1 d).2.now : Int)])
noncomputable def stepMany (h : Bool) (most : Nat) (d : StD) : StD × List Int := if 60 < most then (d, [-22]) else ((ranD h most d).2, [((ranD h most d).1 : Int), ((ranD h most d).2.now : Int), if restsD (ranD h most d).2 = true then 1 else 0])
section
variable {P : Program} {w : World} {K : PySem.W.Frag} {mg : Str → Option Value} {base : Heap}
def spOne (K : PySem.W.Frag) : Sp := fun vs H Q _ => ∃ (p dx pt : Addr) (X : List Addr) (a : Ad) (d : StD) (hp : Bool), vs = [.ref p, .bl hp] ∧ StOk d ∧ StAt K H p dx pt X a d ∧ Tabs (lamT K) H ∧
  ∀ H' q, StAt K H' p dx pt X a (stepOne hp d).1 → Step K H H' p pt a a → H' q = some (.lst (vI (stepOne hp d).2)) → Q (.ref q) H'
theorem sc_one_chosen : FnScope ["state", "helped"] ["state", "helped"] (defScope s_one_chosen) := ⟨rfl, rfl, rfl, by decide +kernel, rfl, by decide +kernel, by decide +kernel⟩
theorem ok_one_chosen (T : Txt K mg) (B : TB K mg base) : DefOk P w K mg base 7 "one_chosen" ["state", "helped"] (spOne K) := by
  refine def_ok (F_one_chosen T) sc_one_chosen (fun _ _ _ _ _ _ us hl => match us, hl with | [_, _], _ => rfl) (fun vs H Q E h => by obtain ⟨_, _, _, _, _, _, _, rfl, _⟩ := h; rfl) fun f cdv A outer s H vs Q E hr h => ?_
  obtain ⟨p, dx, pt, X, a, d, hp, rfl, ok, S, tb, h⟩ := h
  refine ⟨_, pss_cons (ps_if (pt_cmpR op_eq (pe_md (He.ga K "State") (ok_State_run T B) T.cl_State hr (pv 0) (pa_cons pe_int (pa_cons (pv 1) pa_nil))) pe_int (nomark _)) (pss_one (ps_ret (pe_cd0 (ok_none_may_come T) (hr.mono (by decide))))) pss_nil)
    (pss_one (ps_ret (pe_lst (pa_cons (pe_md0 (He.ga K "State") (ok_name_now T) T.cl_State (hr.mono (by decide)) (pv 0)) pa_nil)))), ?_⟩
  refine ⟨_, rfl, p, dx, _, rfl, S.rd.obj, rfl, _, rfl, p, dx, pt, X, a, d, hp, 1, rfl, ok, S, tb, fun H1 ms M S1 st1 => ⟨rfl, _, rfl, ?_⟩⟩
  rw [← movesD_eq M] at S1 ⊢
  have S1 : StAt K H1 p dx pt X a (ranD hp 1 d).2 := S1
  have okr := ran_ok (h := hp) (most := 1) ok
  rw [dec_int]
  unfold stepOne at h
  by_cases c : (ranD hp 1 d).1 = 0
  · rw [if_pos c] at h
    refine ifT (show ((ranD hp 1 d).1 : Int) = 0 by omega) ⟨rfl, fun q hq => ?_⟩
    obtain ⟨S2, st2⟩ := S1.same (Same.new (o := .lst [.int (-33)]) (Same.refl _) hq)
    exact h _ q S2 (st1.trans st2) upd_same
  · rw [if_neg c] at h
    refine ifF (show ¬ ((ranD hp 1 d).1 : Int) = 0 by omega) ?_
    refine ⟨_, rfl, p, dx, _, rfl, S1.rd.obj, rfl, p, dx, a.fa, a.pr, a.pm, a.pp, pt, _, rfl, okr, S1.rd, by show 1 ≤ sizeLine; decide, fun q hq => ?_⟩
    obtain ⟨S2, st2⟩ := S1.same (Same.new (o := .lst [.int ((ranD hp 1 d).2.now : Int)]) (Same.refl _) hq)
    exact h _ q S2 (st1.trans st2) upd_same
noncomputable def stepAgainst (d : StD) (_ : List Nat) : StD × List Int := stepOne false d
noncomputable def stepHelped (d : StD) (_ : List Nat) : StD × List Int := stepOne true d
theorem sc_call_against : FnScope ["state", "numbers"] ["state", "numbers"] (defScope s_call_against) := ⟨rfl, rfl, rfl, by decide +kernel, rfl, by decide +kernel, by decide +kernel⟩
theorem ok_call_against (T : Txt K mg) (B : TB K mg base) : DefOk P w K mg base 8 "call_against" ["state", "numbers"] (spC K preNo stepAgainst) := by
  refine def_ok (F_call_against T) sc_call_against (fun _ _ _ _ _ _ us hl => match us, hl with | [_, _], _ => rfl) (fun vs H Q E h => by obtain ⟨_, _, _, _, _, _, _, _, rfl, _⟩ := h; rfl) fun f cdv A outer s H vs Q E hr h => ?_
  obtain ⟨p, dx, pt, b, X, a, d, ns, rfl, ok, S, tb, hb, nb, rfl, h⟩ := h
  refine ⟨_, pss_one (ps_ret (pe_cd (ok_one_chosen T B) hr (pa_cons (pv 0) (pa_cons pe_bl pa_nil)))), ?_⟩
  exact ⟨_, rfl, p, dx, pt, X, a, d, false, rfl, ok, S, tb, fun H' q S' st z => h H' a q S' st z⟩
theorem sc_call_helped : FnScope ["state", "numbers"] ["state", "numbers"] (defScope s_call_helped) := ⟨rfl, rfl, rfl, by decide +kernel, rfl, by decide +kernel, by decide +kernel⟩
theorem ok_call_helped (T : Txt K mg) (B : TB K mg base) : DefOk P w K mg base 8 "call_helped" ["state", "numbers"] (spC K preNo stepHelped) := by
  refine def_ok (F_call_helped T) sc_call_helped (fun _ _ _ _ _ _ us hl => match us, hl with | [_, _], _ => rfl) (fun vs H Q E h => by obtain ⟨_, _, _, _, _, _, _, _, rfl, _⟩ := h; rfl) fun f cdv A outer s H vs Q E hr h => ?_
  obtain ⟨p, dx, pt, b, X, a, d, ns, rfl, ok, S, tb, hb, nb, rfl, h⟩ := h
  refine ⟨_, pss_one (ps_ret (pe_cd (ok_one_chosen T B) hr (pa_cons (pv 0) (pa_cons pe_bl pa_nil)))), ?_⟩
  exact ⟨_, rfl, p, dx, pt, X, a, d, true, rfl, ok, S, tb, fun H' q S' st z => h H' a q S' st z⟩
def spMany (K : PySem.W.Frag) : Sp := fun vs H Q _ => ∃ (p dx pt : Addr) (X : List Addr) (a : Ad) (d : StD) (hp : Bool) (most : Nat), vs = [.ref p, .int (most : Int), .bl hp] ∧ StOk d ∧ StAt K H p dx pt X a d ∧ Tabs (lamT K) H ∧
  ∀ H' q, StAt K H' p dx pt X a (stepMany hp most d).1 → Step K H H' p pt a a → H' q = some (.lst (vI (stepMany hp most d).2)) → Q (.ref q) H'
abbrev NMany : List Str := ["state", "most", "helped", "came"]
theorem sc_many_chosen : FnScope NMany ["state", "most", "helped"] (defScope s_many_chosen) := ⟨rfl, rfl, rfl, by decide +kernel, rfl, by decide +kernel, by decide +kernel⟩
theorem ok_many_chosen (T : Txt K mg) (B : TB K mg base) : DefOk P w K mg base 7 "many_chosen" ["state", "most", "helped"] (spMany K) := by
  refine def_ok (F_many_chosen T) sc_many_chosen (fun _ _ _ _ _ _ us hl => match us, hl with | [_, _, _], _ => rfl) (fun vs H Q E h => by obtain ⟨_, _, _, _, _, _, _, _, rfl, _⟩ := h; rfl) fun f cdv A outer s H vs Q E hr h => ?_
  obtain ⟨p, dx, pt, X, a, d, hp, most, rfl, ok, S, tb, h⟩ := h
  obtain ⟨tk, hk⟩ := T.c_MOST_RUN
  refine ⟨_, pss_cons (ps_if (pt_cmpR op_gt (pv 1) (pe_glob (v := .int 60) (by rfl) hk ⟨tk, rfl⟩) (nomark _)) (pss_one (ps_ret (pe_cd0 (ok_not_let T) (hr.mono (by decide))))) pss_nil)
    (pss_cons (ps_set (i := 3) sc_many_chosen.nd rfl (Or.inl rfl) (pe_md (He.ga K "State") (ok_State_run T B) T.cl_State hr (pv 0) (pa_cons (pv 1) (pa_cons (pv 2) pa_nil))))
    (pss_one (ps_ret (pe_lst (pa_cons (pv 3) (pa_cons (pe_md0 (He.ga K "State") (ok_name_now T) T.cl_State (hr.mono (by decide)) (pv 0)) (pa_cons (pe_ifExp (pt_val (pe_md0 (He.ga K "State") (ok_State_rests T) T.cl_State (hr.mono (by decide)) (pv 0))) pe_int pe_int) pa_nil))))))), ?_⟩
  refine ⟨_, rfl, _, _, rfl, rfl, _, rfl, ?_⟩
  unfold stepMany at h
  by_cases c : 60 < most
  · rw [if_pos c] at h
    refine ifT (show (60 : Int) < (most : Int) by omega) ⟨rfl, fun q hq => ?_⟩
    obtain ⟨S2, st2⟩ := S.same (Same.new (o := .lst [.int (-22)]) (Same.refl _) hq)
    exact h _ q S2 st2 upd_same
  · rw [if_neg c] at h
    refine ifF (show ¬ (60 : Int) < (most : Int) by omega) ?_
    refine ⟨_, rfl, p, dx, _, rfl, S.rd.obj, rfl, _, rfl, _, rfl, p, dx, pt, X, a, d, hp, most, rfl, ok, S, tb, fun H1 ms M S1 st1 => ?_⟩
    rw [← movesD_eq M] at S1 ⊢
    have S1 : StAt K H1 p dx pt X a (ranD hp most d).2 := S1
    have okr := ran_ok (h := hp) (most := most) ok
    refine ⟨_, rfl, _, rfl, p, dx, _, rfl, S1.rd.obj, rfl, p, dx, a.fa, a.pr, a.pm, a.pp, pt, _, rfl, okr, S1.rd, ?_⟩
    refine ⟨_, rfl, p, dx, _, rfl, S1.rd.obj, rfl, p, dx, a.fa, a.pr, a.pm, a.pp, pt, _, rfl, okr, S1.rd, fun H2 s2 => ⟨_, rfl, ?_⟩⟩
    by_cases cr : restsD (ranD hp most d).2 = true
    · rw [if_pos cr] at h
      refine ifTb cr ⟨by show 3 ≤ sizeLine; decide, fun q hq => ?_⟩
      obtain ⟨S2, st2⟩ := S1.same (Same.new (o := .lst [.int ((ranD hp most d).1 : Int), .int ((ranD hp most d).2.now : Int), .int 1]) s2 hq)
      exact h _ q S2 (st1.trans st2) upd_same
    · rw [if_neg cr] at h
      refine ifFb (by rw [← Bool.not_eq_true]; exact cr) ⟨by show 3 ≤ sizeLine; decide, fun q hq => ?_⟩
      obtain ⟨S2, st2⟩ := S1.same (Same.new (o := .lst [.int ((ranD hp most d).1 : Int), .int ((ranD hp most d).2.now : Int), .int 0]) s2 hq)
      exact h _ q S2 (st1.trans st2) upd_same
noncomputable def stepRun (d : StD) (ns : List Nat) : StD × List Int := stepMany false (ns.getD 0 0) d
noncomputable def stepRunHelped (d : StD) (ns : List Nat) : StD × List Int := stepMany true (ns.getD 0 0) d
theorem sc_call_run : FnScope ["state", "numbers"] ["state", "numbers"] (defScope s_call_run) := ⟨rfl, rfl, rfl, by decide +kernel, rfl, by decide +kernel, by decide +kernel⟩
theorem ok_call_run (T : Txt K mg) (B : TB K mg base) : DefOk P w K mg base 8 "call_run" ["state", "numbers"] (spC K preOne stepRun) := by
  refine def_ok (F_call_run T) sc_call_run (fun _ _ _ _ _ _ us hl => match us, hl with | [_, _], _ => rfl) (fun vs H Q E h => by obtain ⟨_, _, _, _, _, _, _, _, rfl, _⟩ := h; rfl) fun f cdv A outer s H vs Q E hr h => ?_
  obtain ⟨p, dx, pt, b, X, a, d, ns, rfl, ok, S, tb, hb, nb, ⟨x, rfl⟩, h⟩ := h
  refine ⟨_, pss_one (ps_ret (pe_cd (ok_many_chosen T B) hr (pa_cons (pv 0) (pa_cons (pe_ix ix_list (pv 1) pe_int (fun _ _ => rfl)) (pa_cons pe_bl pa_nil))))), ?_⟩
  exact ⟨_, rfl, _, rfl, b, vN [x], 0, .int (x : Int), rfl, rfl, SqL.of hb, rfl, p, dx, pt, X, a, d, false, x, rfl, ok, S, tb, fun H' q S' st z => h H' a q S' st z⟩
theorem sc_call_runhelped : FnScope ["state", "numbers"] ["state", "numbers"] (defScope s_call_runhelped) := ⟨rfl, rfl, rfl, by decide +kernel, rfl, by decide +kernel, by decide +kernel⟩
theorem ok_call_runhelped (T : Txt K mg) (B : TB K mg base) : DefOk P w K mg base 8 "call_runhelped" ["state", "numbers"] (spC K preOne stepRunHelped) := by
  refine def_ok (F_call_runhelped T) sc_call_runhelped (fun _ _ _ _ _ _ us hl => match us, hl with | [_, _], _ => rfl) (fun vs H Q E h => by obtain ⟨_, _, _, _, _, _, _, _, rfl, _⟩ := h; rfl) fun f cdv A outer s H vs Q E hr h => ?_
  obtain ⟨p, dx, pt, b, X, a, d, ns, rfl, ok, S, tb, hb, nb, ⟨x, rfl⟩, h⟩ := h
  refine ⟨_, pss_one (ps_ret (pe_cd (ok_many_chosen T B) hr (pa_cons (pv 0) (pa_cons (pe_ix ix_list (pv 1) pe_int (fun _ _ => rfl)) (pa_cons pe_bl pa_nil))))), ?_⟩
  exact ⟨_, rfl, _, rfl, b, vN [x], 0, .int (x : Int), rfl, rfl, SqL.of hb, rfl, p, dx, pt, X, a, d, true, x, rfl, ok, S, tb, fun H' q S' st z => h H' a q S' st z⟩
end
end RG
namespace RG
open PySem PySem.Spec PyProof.Rows L2
open LamX (Tabs ExtN TabB)
section
variable {P : Program} {w : World} {K : PySem.W.Frag} {mg : Str → Option Value} {base : Heap}
/-- other marks: a new list -/
theorem StAt.mark {H H1 : Hp} {p dx pt mk : Addr} {X : List Addr} {a : Ad} {d : StD} (S : StAt K H p dx pt X a d) (s : Same H H1) (hmk : H mk = none) {ms : List Nat} (h1 : H1 mk = some (.lst (vN ms))) :
    StAt K (upd H1 p (.ins (He.ga K "State") dx (stateF (.ref a.fa) d.m a.pr mk a.pp pt))) p dx pt X ⟨a.fa, a.pr, mk, a.pp, a.kvs⟩ { d with ms := ms } ∧
    Step K H (upd H1 p (.ins (He.ga K "State") dx (stateF (.ref a.fa) d.m a.pr mk a.pp pt))) p pt a ⟨a.fa, a.pr, mk, a.pp, a.kvs⟩ := by
  have p1 := s _ _ S.rd.obj
  have st : Step K H (upd H1 p (.ins (He.ga K "State") dx (stateF (.ref a.fa) d.m a.pr mk a.pp pt))) p pt a ⟨a.fa, a.pr, mk, a.pp, a.kvs⟩ :=
    S.stepD (ButD.at_ (ButD.of s) (.inr List.mem_cons_self)) ((Dom.of s).upd (fun _ z => nomatch z)) (.inl rfl) (.inl rfl)
  have mk2 := upd_other (o := .ins (He.ga K "State") dx (stateF (.ref a.fa) d.m a.pr mk a.pp pt)) p1 h1 (fun z => nomatch z)
  have sta := S.stat_of st
  refine ⟨⟨⟨upd_same, (sta _ ButM.refl).1, upd_other p1 (s _ _ S.rd.rule) (fun z => nomatch z), mk2, upd_other p1 (s _ _ S.rd.past) (fun z => nomatch z)⟩, fun H'' b => ?_, upd_other p1 (s _ _ S.tried) (fun z => nomatch z), S.keys, S.ne, S.out_of st, S.old_of st⟩, st⟩
  obtain ⟨g1, _, g3⟩ := sta H'' b
  refine ⟨g1, b _ _ mk2 (fun z => ?_) (fun _ z => nomatch z), g3⟩
  rcases List.mem_append.mp z with z | z
  · exact S.notmut hmk z
  · obtain ⟨o, ho, _⟩ := S.old _ z
    rw [hmk] at ho
    cases ho
def apartIx (d : StD) : List Nat := (List.range d.N).filter fun i => apartM (d.nameOf i)
def stepMarkApart (d : StD) (_ : List Nat) : StD × List Int := ({ d with ms := apartIx d }, [((apartIx d).length : Int)])
abbrev NApart : List Str := ["state", "numbers", "number", "name"]
theorem sc_call_markapart : FnScope NApart ["state", "numbers"] (defScope s_call_markapart) := ⟨rfl, rfl, rfl, by decide +kernel, rfl, by decide +kernel, by decide +kernel⟩
theorem ok_call_markapart (T : Txt K mg) : DefOk P w K mg base 2 "call_markapart" ["state", "numbers"] (spC K preNo stepMarkApart) := by
  refine def_ok (F_call_markapart T) sc_call_markapart (fun _ _ _ _ _ _ us hl => match us, hl with | [_, _], _ => rfl) (fun vs H Q E h => by obtain ⟨_, _, _, _, _, _, _, _, rfl, _⟩ := h; rfl) fun f cdv A outer s H vs Q E hr h => ?_
  obtain ⟨p, dx, pt, b, X, a, d, ns, rfl, ok, S, tb, hb, nb, rfl, h⟩ := h
  obtain ⟨dy, pn, pq, ps, pz, pe, pv', ha, fp⟩ := id S.rd.field
  obtain ⟨as, n1, n2⟩ := fp.names
  have C := T.cl_State
  have al : as.length = d.N := Paired.len' n2
  obtain ⟨nl64, nl⟩ := names_len ok.dims.n3 ok.dims.n7 ok.dims.k3 (n := d.n) (k := d.k)
  have n3 := ok.dims.n3
  refine ⟨_, pss_cons (ps_fldN (pv 0) (pe_lc (own := [("number", 2), ("name", 3)]) (g := gTup K 2 (gCons (gName 2) (gCons (gName 3) gNil))) (by rfl) sc_call_markapart.nd (pi_enum (by rfl) T.b_enumerate (pa_cons (pe_fld (pe_fld (pv 0) rfl) rfl) pa_nil)) (blkOk_by (N := NApart) (sc := defScope s_call_markapart) (own := [("number", 2), ("name", 3)]) (by decide +kernel))
      (fun _ _ _ _ _ => pg_tup rfl (pgs_cons (pg_name (i := 2) sc_call_markapart.nd rfl (Or.inl rfl)) (pgs_cons (pg_name (i := 3) sc_call_markapart.nd rfl (Or.inl rfl)) pgs_nil))) (fun _ _ _ _ _ => pts_one (pt_val (pe_cd (ok_is_apart T) hr (pa_cons (pv 3) pa_nil)))) (fun _ _ _ _ _ => pv 2)) rfl)
    (pss_one (ps_ret (pe_lst (pa_cons (pe_len T.b_len (pa_cons (pe_fld (pv 0) rfl) pa_nil)) pa_nil)))), ?_⟩
  refine ⟨_, rfl, p, _, dx, _, _, rfl, S.rd.obj, C, T.n_State_field, rfl, a.fa, _, dy, _, _, rfl, ha, T.cl_Field, T.n_Field_names, rfl, pn, as.map V.ref, rfl, SqL.of n1, fun D hD => ?_⟩
  refine lc_it (walk_enum (K := K) (a := pn) (xs := as.map V.ref)) (fun i H' => Same H H' ∧ H' D = some (.lst (vN ((List.range i).filter fun i => apartM (d.nameOf i))))) ⟨Same.new (Same.refl H) hD, upd_same⟩ (fun i H1 _ ⟨s1, _⟩ => SqL.of (s1 _ _ n1)) (fun i x H3 H4 hi ⟨s3, d3⟩ y => ?_) fun H3 ⟨s3, d3⟩ => ?_
  · obtain ⟨t, u, v, rfl, ht, rfl, hu, hv⟩ := y
    cases hu
    obtain ⟨c, hc, rfl⟩ := get_refs hv
    obtain ⟨l, hl, el⟩ := Paired.left n2 hc
    have hiN : i < d.N := by rw [List.length_map, al] at hi; exact hi
    have e : l = d.nameOf i := by
      have := nameOf_at hiN
      rw [hl] at this
      exact Option.some.inj this
    have s4 : Same H (upd H3 t (.tup [.int (i : Int), .ref c])) := Same.new s3 ht
    have d4 : upd H3 t (.tup [.int (i : Int), .ref c]) D = some (.lst (vN ((List.range i).filter fun i => apartM (d.nameOf i)))) := Same.new (Same.refl H3) ht _ _ d3
    refine ⟨t, _, rfl, SqT.of upd_same, rfl, _, _, rfl, _, _, rfl, rfl, rfl, _, rfl, c, l, rfl, SqT.of (s4 _ _ el), by rw [nl l (List.mem_of_getElem? hl)]; omega, _, rfl, ?_⟩
    rw [e, List.range_succ, List.filter_append, List.filter_cons]
    cases ca : apartM (d.nameOf i) with
    | true =>
      refine ifTb rfl ⟨_, rfl, _, d4, ?_, Same.at_ s4 hD, ?_⟩
      · rw [List.length_map]
        refine Nat.lt_of_le_of_lt (show _ ≤ 64 from ?_) (by decide)
        have h1 := List.length_filter_le (fun i => apartM (d.nameOf i)) (List.range i)
        rw [List.length_range] at h1
        unfold StD.N at hiN
        omega
      · rw [upd_same, if_pos rfl, vN_app]
        rfl
    | false => exact ifFb rfl ⟨s4, by rw [if_neg (by decide), List.filter_nil, List.append_nil]; exact d4⟩
  · rw [List.length_map, al] at d3
    have d3 : H3 D = some (.lst (vN (apartIx d))) := d3
    refine ⟨_, rfl, p, _, dx, _, stateF (.ref a.fa) d.m a.pr D a.pp pt, rfl, s3 _ _ S.rd.obj, C, T.n_State_marked, by show 6 < 1000; decide, rfl, ?_⟩
    obtain ⟨S2, st2⟩ := S.mark s3 hD d3
    refine ⟨_, rfl, p, _, dx, _, _, rfl, S2.rd.obj, C, T.n_State_marked, rfl, D, _, rfl, .inl (SqL.of S2.rd.marked), by show 1 ≤ sizeLine; decide, fun q hq => ?_⟩
    rw [List.length_map]
    obtain ⟨S3, st3⟩ := S2.same (Same.new (o := .lst [.int ((apartIx d).length : Int)]) (Same.refl _) hq)
    exact h _ _ q S3 (st2.trans st3) upd_same
end
end RG
namespace RG
open PySem PySem.Spec PyProof.Rows L2
open LamX (Tabs ExtN TabB)
section
variable {P : Program} {w : World} {K : PySem.W.Frag} {mg : Str → Option Value} {base : Heap}
def stepMark (d : StD) (ns : List Nat) : StD × List Int := if ns.getD 0 0 < d.N then (if ns.getD 0 0 ∈ d.ms then (d, [-17]) else ({ d with ms := sortN (d.ms ++ [ns.getD 0 0]) }, [((sortN (d.ms ++ [ns.getD 0 0])).length : Int)])) else (d, [-2])
theorem sc_call_mark : FnScope ["state", "numbers", "name"] ["state", "numbers"] (defScope s_call_mark) := ⟨rfl, rfl, rfl, by decide +kernel, rfl, by decide +kernel, by decide +kernel⟩
theorem ok_call_mark (T : Txt K mg) : DefOk P w K mg base 2 "call_mark" ["state", "numbers"] (spC K preOne stepMark) := by
  refine def_ok (F_call_mark T) sc_call_mark (fun _ _ _ _ _ _ us hl => match us, hl with | [_, _], _ => rfl) (fun vs H Q E h => by obtain ⟨_, _, _, _, _, _, _, _, rfl, _⟩ := h; rfl) fun f cdv A outer s H vs Q E hr h => ?_
  obtain ⟨p, dx, pt, b, X, a, d, ns, rfl, ok, S, tb, hb, nb, ⟨x, rfl⟩, h⟩ := h
  obtain ⟨dy, pn, pq, ps, pz, pe, pv', ha, fp⟩ := id S.rd.field
  have C := T.cl_State
  have fw := ok.few
  refine ⟨_, pss_cons (ps_set (i := 2) sc_call_mark.nd rfl (Or.inl rfl) (pe_ix ix_list (pv 1) pe_int (fun _ _ => rfl)))
    (pss_cons (ps_if (pt_not (pt_val (pe_md (He.ga K "Field") (ok_has_name T) T.cl_Field hr (pe_fld (pv 0) rfl) (pa_cons (pv 2) pa_nil)))) (pss_one (ps_ret (pe_cd0 (ok_no_such T) hr))) pss_nil)
    (pss_cons (ps_if (pt_cmpR op_in_seq (pv 2) (pe_fld (pv 0) rfl) (by rfl)) (pss_one (ps_ret (pe_cd0 (ok_marked_already T) hr))) pss_nil)
    (pss_cons (ps_fldN (pv 0) (pe_callB cr_sorted (by rfl) T.b_sorted (by decide +kernel) (pa_cons (pe_op op_cat (pe_fld (pv 0) rfl) (pe_lst (pa_cons (pv 2) pa_nil))) pa_nil)) rfl)
    (pss_one (ps_ret (pe_lst (pa_cons (pe_len T.b_len (pa_cons (pe_fld (pv 0) rfl) pa_nil)) pa_nil))))))), ?_⟩
  refine ⟨_, rfl, b, vN [x], 0, .int (x : Int), rfl, rfl, SqL.of hb, rfl, ?_⟩
  refine ⟨_, rfl, p, _, dx, _, _, rfl, S.rd.obj, C, T.n_State_field, rfl, a.fa, dy, _, rfl, ha, rfl, _, rfl, a.fa, d.n, d.e, d.k, (x : Int), rfl, S.rd.field, _, rfl, ?_⟩
  by_cases c : x < d.N
  · refine ifFb (by rw [decide_eq_true (show (x : Int) < ((namesM d.n d.k).length : Int) by unfold StD.N at c; omega)]; rfl) ?_
    refine ⟨_, rfl, _, rfl, p, _, dx, _, _, rfl, S.rd.obj, C, T.n_State_marked, rfl, a.pm, vN d.ms, rfl, .inl (SqL.of S.rd.marked), rfl, flat_ints _, _, rfl, ?_⟩
    rw [if_neg (by decide), inV_ints]
    by_cases cm : x ∈ d.ms
    · have e : stepMark d [x] = (d, [-17]) := (if_pos c).trans (if_pos cm)
      rw [e] at h
      refine ifTb (decide_eq_true cm) ⟨rfl, fun q hq => ?_⟩
      obtain ⟨S2, st2⟩ := S.same (Same.new (o := .lst [.int (-17)]) (Same.refl _) hq)
      exact h _ a q S2 st2 upd_same
    · have e : stepMark d [x] = ({ d with ms := sortN (d.ms ++ [x]) }, [((sortN (d.ms ++ [x])).length : Int)]) := (if_pos c).trans (if_neg cm)
      rw [e] at h
      refine ifFb (decide_eq_false cm) ?_
      refine ⟨_, rfl, p, _, dx, _, _, rfl, S.rd.obj, C, T.n_State_marked, rfl, _, rfl, by show 1 ≤ sizeLine; decide, fun u hu => ?_⟩
      have s1 : Same H (upd H u (.lst [.int (x : Int)])) := Same.new (Same.refl H) hu
      have u1 : upd H u (.lst [.int (x : Int)]) u = some (.lst [.int (x : Int)]) := upd_same
      generalize upd H u (.lst [.int (x : Int)]) = H1 at s1 u1
      refine ⟨a.pm, u, vN d.ms, _, rfl, rfl, s1 _ _ S.rd.marked, u1, by rw [List.length_map]; exact Nat.le_trans (show _ ≤ 21 by show d.ms.length + 1 ≤ 21; omega) (by decide), fun v hv => ?_⟩
      have s2 : Same H1 (upd H1 v (.lst (vN d.ms ++ [.int (x : Int)]))) := Same.new (Same.refl H1) hv
      have v2 : upd H1 v (.lst (vN d.ms ++ [.int (x : Int)])) v = some (.lst (vI (iN (d.ms ++ [x])))) := by
        rw [upd_same, ← vN_vI, vN_app]
        rfl
      generalize upd H1 v (.lst (vN d.ms ++ [.int (x : Int)])) = H2 at s2 v2
      have s12 := Same.trans s1 s2
      refine ⟨v, iN (d.ms ++ [x]), rfl, SqL.of v2, by rw [List.length_map, List.length_append]; show d.ms.length + 1 < 64; omega, fun ys mk pm so hmk => ?_⟩
      have ey := sortI_of pm so
      have m3 : upd H2 mk (.lst (ys.map V.int)) mk = some (.lst (vN (sortN (d.ms ++ [x])))) := by rw [upd_same, ey, vN_vI]
      have s3 : Same H2 (upd H2 mk (.lst (ys.map V.int))) := Same.new (Same.refl H2) hmk
      have hmk0 : H mk = none := Same.none s12 hmk
      generalize upd H2 mk (.lst (ys.map V.int)) = H3 at s3 m3
      have s13 := Same.trans s12 s3
      refine ⟨_, rfl, p, _, dx, _, stateF (.ref a.fa) d.m a.pr mk a.pp pt, rfl, s13 _ _ S.rd.obj, C, T.n_State_marked, by show 6 < 1000; decide, rfl, ?_⟩
      obtain ⟨S2, st2⟩ := S.mark s13 hmk0 m3
      refine ⟨_, rfl, p, _, dx, _, _, rfl, S2.rd.obj, C, T.n_State_marked, rfl, mk, _, rfl, .inl (SqL.of S2.rd.marked), by show 1 ≤ sizeLine; decide, fun q hq => ?_⟩
      rw [List.length_map]
      obtain ⟨S3, st3⟩ := S2.same (Same.new (o := .lst [.int ((sortN (d.ms ++ [x])).length : Int)]) (Same.refl _) hq)
      exact h _ _ q S3 (st2.trans st3) upd_same
  · have e : stepMark d [x] = (d, [-2]) := if_neg c
    rw [e] at h
    refine ifTb (by rw [decide_eq_false (show ¬ (x : Int) < ((namesM d.n d.k).length : Int) by unfold StD.N at c; omega)]; rfl) ⟨rfl, fun q hq => ?_⟩
    obtain ⟨S1, st1⟩ := S.same (Same.new (o := .lst [.int (-2)]) (Same.refl H) hq)
    exact h _ a q S1 st1 upd_same
end
end RG
namespace RG
open PySem PySem.Spec PyProof.Rows L2
open LamX (Tabs ExtN TabB)
section
variable {P : Program} {w : World} {K : PySem.W.Frag} {mg : Str → Option Value} {base : Heap}
def without (l : List Nat) (x : Nat) : List Nat := l.filter fun y => !decide (y = x)
def stepUnmark (d : StD) (ns : List Nat) : StD × List Int := if ns.getD 0 0 < d.N then (if ns.getD 0 0 ∈ d.ms then ({ d with ms := without d.ms (ns.getD 0 0) }, [((without d.ms (ns.getD 0 0)).length : Int)]) else (d, [-6])) else (d, [-2])
abbrev NUnmark : List Str := ["state", "numbers", "name", "other"]
theorem sc_call_unmark : FnScope NUnmark ["state", "numbers"] (defScope s_call_unmark) := ⟨rfl, rfl, rfl, by decide +kernel, rfl, by decide +kernel, by decide +kernel⟩
theorem ok_call_unmark (T : Txt K mg) : DefOk P w K mg base 2 "call_unmark" ["state", "numbers"] (spC K preOne stepUnmark) := by
  refine def_ok (F_call_unmark T) sc_call_unmark (fun _ _ _ _ _ _ us hl => match us, hl with | [_, _], _ => rfl) (fun vs H Q E h => by obtain ⟨_, _, _, _, _, _, _, _, rfl, _⟩ := h; rfl) fun f cdv A outer s H vs Q E hr h => ?_
  obtain ⟨p, dx, pt, b, X, a, d, ns, rfl, ok, S, tb, hb, nb, ⟨x, rfl⟩, h⟩ := h
  obtain ⟨dy, pn, pq, ps, pz, pe, pv', ha, fp⟩ := id S.rd.field
  have C := T.cl_State
  have fw := ok.few
  refine ⟨_, pss_cons (ps_set (i := 2) sc_call_unmark.nd rfl (Or.inr rfl) (pe_ix ix_list (pv 1) pe_int (fun _ _ => rfl)))
    (pss_cons (ps_if (pt_not (pt_val (pe_md (He.ga K "Field") (ok_has_name T) T.cl_Field hr (pe_fld (pv 0) rfl) (pa_cons (pv 2) pa_nil)))) (pss_one (ps_ret (pe_cd0 (ok_no_such T) hr))) pss_nil)
    (pss_cons (ps_if (pt_cmpR op_notIn_seq (pv 2) (pe_fld (pv 0) rfl) (by rfl)) (pss_one (ps_ret (pe_cd0 (ok_not_marked T) hr))) pss_nil)
    (pss_cons (ps_fldN (pv 0) (pe_lc (own := [("other", 3)]) (g := gName 3) (by rfl) sc_call_unmark.nd (pi_list (pe_fld (pv 0) rfl)) (blkOk_by (N := NUnmark) (sc := defScope s_call_unmark) (own := [("other", 3)]) (by decide +kernel))
      (fun _ _ _ _ _ => pg_name (i := 3) sc_call_unmark.nd rfl (Or.inl rfl)) (fun _ _ _ _ _ => pts_one (pt_cmpR op_ne (pv 3) (pv 2) (nomark _))) (fun _ _ _ _ _ => pv 3)) rfl)
    (pss_one (ps_ret (pe_lst (pa_cons (pe_len T.b_len (pa_cons (pe_fld (pv 0) rfl) pa_nil)) pa_nil))))))), ?_⟩
  refine ⟨_, rfl, b, vN [x], 0, .int (x : Int), rfl, rfl, SqL.of hb, rfl, ?_⟩
  refine ⟨_, rfl, p, _, dx, _, _, rfl, S.rd.obj, C, T.n_State_field, rfl, a.fa, dy, _, rfl, ha, rfl, _, rfl, a.fa, d.n, d.e, d.k, (x : Int), rfl, S.rd.field, _, rfl, ?_⟩
  by_cases c : x < d.N
  · refine ifFb (by rw [decide_eq_true (show (x : Int) < ((namesM d.n d.k).length : Int) by unfold StD.N at c; omega)]; rfl) ?_
    refine ⟨_, rfl, _, rfl, p, _, dx, _, _, rfl, S.rd.obj, C, T.n_State_marked, rfl, a.pm, vN d.ms, rfl, .inl (SqL.of S.rd.marked), rfl, flat_ints _, _, rfl, ?_⟩
    rw [if_pos rfl, inV_ints]
    by_cases cm : x ∈ d.ms
    · have e : stepUnmark d [x] = ({ d with ms := without d.ms x }, [((without d.ms x).length : Int)]) := (if_pos c).trans (if_pos cm)
      rw [e] at h
      refine ifFb (by rw [decide_eq_true cm]; rfl) ?_
      refine ⟨_, rfl, p, _, dx, _, _, rfl, S.rd.obj, C, T.n_State_marked, rfl, a.pm, rfl, ⟨_, SqL.of S.rd.marked⟩, fun D hD => ?_⟩
      refine lc_list (K := K) (a := a.pm) (xs := vN d.ms) (fun i H' => Same H H' ∧ H' D = some (.lst (vN (without (d.ms.take i) x)))) ⟨Same.new (Same.refl H) hD, upd_same⟩ (fun i H1 _ ⟨s1, _⟩ => SqL.of (s1 _ _ S.rd.marked)) (fun i y H1 hy ⟨s1, d1⟩ => ?_) fun H1 ⟨s1, d1⟩ => ?_
      · obtain ⟨j, hj, rfl⟩ := vN_at hy
        refine ⟨rfl, _, rfl, _, rfl, rfl, _, rfl, ?_⟩
        have ed : decide (V.int (j : Int) = V.int (x : Int)) = decide (j = x) := by
          rw [dec_int, Bool.eq_iff_iff, decide_eq_true_iff, decide_eq_true_iff]
          omega
        rw [ed, take_snoc hj]
        unfold without
        rw [List.filter_append, List.filter_cons, List.filter_nil]
        cases cj : (!decide (j = x)) with
        | true =>
          refine ifTb rfl ⟨_, rfl, _, d1, ?_, Same.at_ s1 hD, ?_⟩
          · rw [List.length_map]
            unfold without
            refine Nat.lt_of_le_of_lt (Nat.le_trans (List.length_filter_le _ _) (show _ ≤ 64 from ?_)) (by decide)
            rw [List.length_take]
            omega
          · rw [upd_same, if_pos rfl, vN_app]
            rfl
        | false => exact ifFb rfl ⟨s1, by rw [if_neg (by decide), List.append_nil]; exact d1⟩
      · rw [List.length_map, List.take_length] at d1
        refine ⟨_, rfl, p, _, dx, _, stateF (.ref a.fa) d.m a.pr D a.pp pt, rfl, s1 _ _ S.rd.obj, C, T.n_State_marked, by show 6 < 1000; decide, rfl, ?_⟩
        obtain ⟨S2, st2⟩ := S.mark s1 hD d1
        refine ⟨_, rfl, p, _, dx, _, _, rfl, S2.rd.obj, C, T.n_State_marked, rfl, D, _, rfl, .inl (SqL.of S2.rd.marked), by show 1 ≤ sizeLine; decide, fun q hq => ?_⟩
        rw [List.length_map]
        obtain ⟨S3, st3⟩ := S2.same (Same.new (o := .lst [.int ((without d.ms x).length : Int)]) (Same.refl _) hq)
        exact h _ _ q S3 (st2.trans st3) upd_same
    · have e : stepUnmark d [x] = (d, [-6]) := (if_pos c).trans (if_neg cm)
      rw [e] at h
      refine ifTb (by rw [decide_eq_false cm]; rfl) ⟨rfl, fun q hq => ?_⟩
      obtain ⟨S2, st2⟩ := S.same (Same.new (o := .lst [.int (-6)]) (Same.refl _) hq)
      exact h _ a q S2 st2 upd_same
  · have e : stepUnmark d [x] = (d, [-2]) := if_neg c
    rw [e] at h
    refine ifTb (by rw [decide_eq_false (show ¬ (x : Int) < ((namesM d.n d.k).length : Int) by unfold StD.N at c; omega)]; rfl) ⟨rfl, fun q hq => ?_⟩
    obtain ⟨S1, st1⟩ := S.same (Same.new (o := .lst [.int (-2)]) (Same.refl H) hq)
    exact h _ a q S1 st1 upd_same
end
end RG
namespace RG
open PySem PySem.Spec PyProof.Rows L2
open LamX (Tabs ExtN TabB)
def StD.even (d : StD) (v : Nat) : Bool := (evensM d.n d.e d.k).getD v false
def refM (d : StD) (v x : Nat) : Option Int := if v < d.V then (if 2 < x then some (-22) else if 1 < x ∧ d.even v = true then some (-22) else none) else some (-2)
section
variable {P : Program} {w : World} {K : PySem.W.Frag} {mg : Str → Option Value} {base : Heap}
def RefAt (H : Hp) (r : V) : Option Int → Prop
  | none => r = .non
  | some y => ∃ q, r = .ref q ∧ H q = some (.lst [.int y])
def spRefSet (K : PySem.W.Frag) : Sp := fun vs H Q _ => ∃ (p dx fa pr pm pp pt : Addr) (d : StD) (v x : Nat), vs = [.ref p, .int (v : Int), .int (x : Int)] ∧ StOk d ∧ StR K H p dx fa pr pm pp pt d ∧ ∀ H' r, Same H H' → RefAt H' r (refM d v x) → Q r H'
theorem sc_refused_to_set : FnScope ["state", "view", "done"] ["state", "view", "done"] (defScope s_refused_to_set) := ⟨rfl, rfl, rfl, by decide +kernel, rfl, by decide +kernel, by decide +kernel⟩
theorem ok_refused_to_set (T : Txt K mg) : DefOk P w K mg base 2 "refused_to_set" ["state", "view", "done"] (spRefSet K) := by
  refine def_ok (F_refused_to_set T) sc_refused_to_set (fun _ _ _ _ _ _ us hl => match us, hl with | [_, _, _], _ => rfl) (fun vs H Q E h => by obtain ⟨_, _, _, _, _, _, _, _, _, _, rfl, _⟩ := h; rfl) fun f cdv A outer s H vs Q E hr h => ?_
  obtain ⟨p, dx, fa, pr, pm, pp, pt, d, v, x, rfl, ok, S, h⟩ := h
  obtain ⟨dy, pn, pq, ps, pz, pe, pv', ha, fp⟩ := id S.field
  have C := T.cl_State
  refine ⟨_, pss_cons (ps_if (pt_not (pt_val (pe_md (He.ga K "Field") (ok_has_view T) T.cl_Field hr (pe_fld (pv 0) rfl) (pa_cons (pv 1) pa_nil)))) (pss_one (ps_ret (pe_cd0 (ok_no_such T) hr))) pss_nil)
    (pss_cons (ps_if (PW.pt (pw_or (pt_cmpR op_gt (pv 2) pe_int (nomark _)) (pw_or1 (PW.pt (pw_and (pt_cmpR op_gt (pv 2) pe_int (nomark _)) (pw_and1 (pt_val (pe_ix ix_list (pe_fld (pe_fld (pv 0) rfl) rfl) (pv 1) (fun _ _ => rfl))))))))) (pss_one (ps_ret (pe_cd0 (ok_not_let T) hr))) pss_nil)
    (pss_one (ps_ret pe_non))), ?_⟩
  refine ⟨_, rfl, p, _, dx, _, _, rfl, S.obj, C, T.n_State_field, rfl, fa, dy, _, rfl, ha, rfl, _, rfl, fa, d.n, d.e, d.k, (v : Int), rfl, S.field, _, rfl, ?_⟩
  unfold refM at h
  have bad : RefAt (upd H 0 (.lst [.int 0])) .non none := rfl
  by_cases c : v < d.V
  · rw [if_pos c] at h
    refine ifFb (by rw [decide_eq_true (show (v : Int) < ((viewsM d.n d.e d.k).length : Int) by unfold StD.V at c; omega)]; rfl) ?_
    refine ⟨_, rfl, _, _, rfl, rfl, _, rfl, ?_⟩
    by_cases c2 : 2 < x
    · rw [if_pos c2] at h
      exact ifT (show (2 : Int) < (x : Int) by omega) ⟨rfl, fun q hq => h _ _ (Same.new (Same.refl H) hq) ⟨q, rfl, upd_same⟩⟩
    · rw [if_neg c2] at h
      refine ifF (show ¬ (2 : Int) < (x : Int) by omega) ⟨_, rfl, _, _, rfl, rfl, _, rfl, ?_⟩
      by_cases c1 : 1 < x
      · refine ifT (show (1 : Int) < (x : Int) by omega) ?_
        have hev : (evensM d.n d.e d.k)[v]? = some (d.even v) := by
          unfold StD.even
          rw [List.getD_eq_getElem?_getD, List.getElem?_eq_getElem (by rw [evens_len]; exact c)]
          rfl
        refine ⟨_, rfl, p, _, dx, _, _, rfl, S.obj, C, T.n_State_field, rfl, fa, _, dy, _, _, rfl, ha, T.cl_Field, T.n_Field_evens, rfl, _, rfl, pe, _, _, .bl (d.even v), rfl, rfl, SqL.of fp.evens, atI_nat (by rw [List.getElem?_map, hev]; rfl), _, rfl, ?_⟩
        by_cases ce : d.even v = true
        · rw [if_pos ⟨c1, ce⟩] at h
          exact ifTb ce ⟨rfl, fun q hq => h _ _ (Same.new (Same.refl H) hq) ⟨q, rfl, upd_same⟩⟩
        · rw [if_neg (fun z => ce z.2)] at h
          exact ifFb (by rw [← Bool.not_eq_true]; exact ce) (h H .non (Same.refl H) rfl)
      · rw [if_neg (fun z => c1 z.1)] at h
        exact ifF (show ¬ (1 : Int) < (x : Int) by omega) (noT (h H .non (Same.refl H) rfl))
  · rw [if_neg c] at h
    exact ifTb (by rw [decide_eq_false (show ¬ (v : Int) < ((viewsM d.n d.e d.k).length : Int) by unfold StD.V at c; omega)]; rfl) ⟨rfl, fun q hq => h _ _ (Same.new (Same.refl H) hq) ⟨q, rfl, upd_same⟩⟩
/-- the rule is written anew in its place -/
theorem StAt.ruleTo {H : Hp} {p dx pt : Addr} {X : List Addr} {a : Ad} {d : StD} (S : StAt K H p dx pt X a d) (R : List Int) : StAt K (upd H a.pr (.lst (vI R))) p dx pt X a { d with R := R } ∧ Step K H (upd H a.pr (.lst (vI R))) p pt a a := by
  have st : Step K H (upd H a.pr (.lst (vI R))) p pt a a := S.stepD (ButD.at_ ButD.refl (.inr (List.mem_cons_of_mem _ List.mem_cons_self))) ((Dom.of (Same.refl H)).upd (fun _ z => nomatch z)) (.inl rfl) (.inl rfl)
  exact ⟨S.next (a := a) st (upd_other S.rd.rule S.rd.obj (fun z => nomatch z)) upd_same (by rw [upd_ne S.ne.symm]; exact S.rd.past) (upd_other S.rd.rule S.tried (fun z => nomatch z)) S.ne, st⟩
def preTwo : StD → List Nat → Prop := fun _ ns => ∃ v x, ns = [v, x]
def stepSet (d : StD) (ns : List Nat) : StD × List Int := match refM d (ns.getD 0 0) (ns.getD 1 0) with
  | some y => (d, [y])
  | none => ({ d with R := d.R.set (ns.getD 0 0) (ns.getD 1 0 : Int) }, [d.R.getD (ns.getD 0 0) 0])
theorem ref_none {d : StD} {v x : Nat} (h : refM d v x = none) : v < d.V := by
  unfold refM at h
  by_cases c : v < d.V
  · exact c
  · rw [if_neg c] at h
    cases h
abbrev NSet : List Str := ["state", "numbers", "view", "done", "refused", "was"]
theorem sc_call_set : FnScope NSet ["state", "numbers"] (defScope s_call_set) := ⟨rfl, rfl, rfl, by decide +kernel, rfl, by decide +kernel, by decide +kernel⟩
theorem ok_call_set (T : Txt K mg) : DefOk P w K mg base 3 "call_set" ["state", "numbers"] (spC K preTwo stepSet) := by
  refine def_ok (F_call_set T) sc_call_set (fun _ _ _ _ _ _ us hl => match us, hl with | [_, _], _ => rfl) (fun vs H Q E h => by obtain ⟨_, _, _, _, _, _, _, _, rfl, _⟩ := h; rfl) fun f cdv A outer s H vs Q E hr h => ?_
  obtain ⟨p, dx, pt, b, X, a, d, ns, rfl, ok, S, tb, hb, nb, ⟨v, x, rfl⟩, h⟩ := h
  have C := T.cl_State
  refine ⟨_, pss_cons (ps_set (i := 2) sc_call_set.nd rfl (Or.inl rfl) (pe_ix ix_list (pv 1) pe_int (fun _ _ => rfl)))
    (pss_cons (ps_set (i := 3) sc_call_set.nd rfl (Or.inl rfl) (pe_ix ix_list (pv 1) pe_int (fun _ _ => rfl)))
    (pss_cons (ps_set (i := 4) sc_call_set.nd rfl (Or.inl rfl) (pe_cd (ok_refused_to_set T) hr (pa_cons (pv 0) (pa_cons (pv 2) (pa_cons (pv 3) pa_nil)))))
    (pss_cons (ps_if (pt_cmpR op_notN (pv 4) pe_non (nomark _)) (pss_one (ps_ret (pv 4))) pss_nil)
    (pss_cons (ps_set (i := 5) sc_call_set.nd rfl (Or.inl rfl) (pe_ix ix_list (pe_fld (pv 0) rfl) (pv 2) (fun _ _ => rfl)))
    (pss_cons (ps_asg (pv 3) (pg_sub (pe_fld (pv 0) rfl) (pv 2) set_list))
    (pss_one (ps_ret (pe_lst (pa_cons (pv 5) pa_nil))))))))), ?_⟩
  refine ⟨_, rfl, b, vN [v, x], 0, .int (v : Int), rfl, rfl, SqL.of hb, rfl, ?_⟩
  refine ⟨_, rfl, b, vN [v, x], 1, .int (x : Int), rfl, rfl, SqL.of hb, rfl, ?_⟩
  refine ⟨_, rfl, _, rfl, _, rfl, p, dx, a.fa, a.pr, a.pm, a.pp, pt, d, v, x, rfl, ok, S.rd, fun H1 r s1 hr1 => ?_⟩
  obtain ⟨S1, st1⟩ := S.same s1
  refine ⟨_, rfl, rfl, _, rfl, ?_⟩
  cases hf : refM d v x with
  | some y =>
    rw [hf] at hr1
    obtain ⟨q, rfl, hq⟩ := hr1
    have e : stepSet d [v, x] = (d, [y]) := by
      unfold stepSet
      rw [show refM d ([v, x].getD 0 0) ([v, x].getD 1 0) = some y from hf]
    rw [e] at h
    exact ifTb rfl ⟨_, rfl, h H1 a q S1 st1 hq⟩
  | none =>
    rw [hf] at hr1
    obtain rfl : r = .non := hr1
    have e : stepSet d [v, x] = ({ d with R := d.R.set v (x : Int) }, [d.R.getD v 0]) := by
      unfold stepSet
      rw [show refM d ([v, x].getD 0 0) ([v, x].getD 1 0) = none from hf]
      rfl
    rw [e] at h
    have hv : v < d.R.length := by rw [ok.rl]; exact ref_none hf
    refine ifFb rfl ⟨_, rfl, p, _, dx, _, _, rfl, S1.rd.obj, C, T.n_State_rule, rfl, _, rfl, a.pr, _, _, _, rfl, rfl, SqL.of S1.rd.rule, atI_nat (vI_get hv), ?_⟩
    refine ⟨_, rfl, _, rfl, p, _, dx, _, _, rfl, S1.rd.obj, C, T.n_State_rule, rfl, _, rfl, a.pr, _, _, v, rfl, rfl, S1.rd.rule, by rw [vI_len]; exact ixN_nat hv, ?_⟩
    rw [vI_set]
    obtain ⟨S2, st2⟩ := S1.ruleTo (d.R.set v (x : Int))
    refine ⟨_, rfl, by show 1 ≤ sizeLine; decide, fun q hq => ?_⟩
    obtain ⟨S3, st3⟩ := S2.same (Same.new (o := .lst [.int (d.R.getD v 0)]) (Same.refl _) hq)
    exact h _ a q S3 ((st1.trans st2).trans st3) upd_same
end
end RG
namespace RG
open PySem PySem.Spec PyProof.Rows L2
open LamX (Tabs ExtN TabB)
section
variable {P : Program} {w : World} {K : PySem.W.Frag} {mg : Str → Option Value} {base : Heap}
noncomputable def gatD (d : StD) (R : List Int) : Nat := gatN (surM d.n d.e d.k (d.m : Int) R) d.ms
def spGatBy (K : PySem.W.Frag) : Sp := fun vs H Q _ => ∃ (p dx fa pr pm pp pt b : Addr) (d : StD) (R : List Int), vs = [.ref p, .ref b] ∧ StOk d ∧ StR K H p dx fa pr pm pp pt d ∧ Sq K H b (vI R) ∧ R.length = (viewsM d.n d.e d.k).length ∧ ∀ H', Same H H' → Q (.int (gatD d R : Int)) H'
abbrev NGatBy : List Str := ["state", "rule", "sure", "name"]
theorem sc_gathered_by : FnScope NGatBy ["state", "rule"] (defScope s_gathered_by) := ⟨rfl, rfl, rfl, by decide +kernel, rfl, by decide +kernel, by decide +kernel⟩
theorem ok_gathered_by (T : Txt K mg) : DefOk P w K mg base 5 "gathered_by" ["state", "rule"] (spGatBy K) := by
  refine def_ok (F_gathered_by T) sc_gathered_by (fun _ _ _ _ _ _ us hl => match us, hl with | [_, _], _ => rfl) (fun vs H Q E h => by obtain ⟨_, _, _, _, _, _, _, _, _, _, rfl, _⟩ := h; rfl) fun f cdv A outer s H vs Q E hr h => ?_
  obtain ⟨p, dx, fa, pr, pm, pp, pt, b, d, R, rfl, ok, S, hb, hR, h⟩ := h
  obtain ⟨dy, pn, pq, ps, pz, pe, pv', ha, fp⟩ := id S.field
  have C := T.cl_State
  have fw := ok.few
  obtain ⟨nl64, nl⟩ := names_len ok.dims.n3 ok.dims.n7 ok.dims.k3 (n := d.n) (k := d.k)
  refine ⟨_, pss_cons (ps_set (i := 2) sc_gathered_by.nd rfl (Or.inr rfl) (pe_cd (ok_sure_names T) (hr.mono (by decide)) (pa_cons (pe_fld (pe_fld (pv 0) rfl) rfl) (pa_cons (pe_cd (ok_graph_by T) hr (pa_cons (pe_fld (pv 0) rfl) (pa_cons (pv 1) (pa_cons (pe_fld (pv 0) rfl) pa_nil)))) pa_nil))))
    (pss_one (ps_ret (pe_len T.b_len (pa_cons (pe_lc (own := [("name", 3)]) (g := gName 3) (by rfl) sc_gathered_by.nd (pi_list (pe_fld (pv 0) rfl)) (blkOk_by (N := NGatBy) (sc := defScope s_gathered_by) (own := [("name", 3)]) (by decide +kernel))
      (fun _ _ _ _ _ => pg_name (i := 3) sc_gathered_by.nd rfl (Or.inl rfl)) (fun _ _ _ _ _ => pts_one (pt_cmpR (r := rIn K false) op_in_seq (pv 3) (pv 2) (by rfl))) (fun _ _ _ _ _ => pv 3)) pa_nil)))), ?_⟩
  refine ⟨_, rfl, p, _, dx, _, _, rfl, S.obj, C, T.n_State_field, rfl, fa, _, dy, _, _, rfl, ha, T.cl_Field, T.n_Field_names, rfl, _, rfl, p, _, dx, _, _, rfl, S.obj, C, T.n_State_field, rfl, _, rfl, _, rfl, p, _, dx, _, _, rfl, S.obj, C, T.n_State_moves, rfl, fa, b, d.n, d.e, d.k, R, (d.m : Int), rfl, ok.dims, S.field, hb, hR, fun H1 g s1 hg G => ?_⟩
  refine ⟨pn, g, namesM d.n d.k, graphL d.n d.e d.k R (d.m : Int), rfl, NamesAt.same s1 fp.names, G.at_, (graph_len ..).symm, by rw [graph_len]; omega, (fun l hl => by rw [nl l hl]; have := ok.dims.n3; omega), graph_into ok.dims, graph_few ok.dims, fun H2 sl ms s2 hsl mo q2 => ?_⟩
  rw [sure_set mo] at q2
  have q2 : H2 sl = some (.lst (vN (surM d.n d.e d.k (d.m : Int) R))) := q2
  have s12 := Same.trans s1 s2
  refine ⟨_, rfl, p, _, dx, _, _, rfl, s12 _ _ S.obj, C, T.n_State_marked, rfl, pm, rfl, ⟨_, SqL.of (s12 _ _ S.marked)⟩, fun D hD => ?_⟩
  refine lc_list (K := K) (a := pm) (xs := vN d.ms) (fun i H' => Same H2 H' ∧ H' D = some (.lst (vN ((d.ms.take i).filter fun m => decide (m ∈ surM d.n d.e d.k (d.m : Int) R))))) ⟨Same.new (Same.refl H2) hD, upd_same⟩ (fun i H1 _ ⟨s3, _⟩ => SqL.of (s3 _ _ (s12 _ _ S.marked))) (fun i y H3 hy ⟨s3, d3⟩ => ?_) fun H3 ⟨s3, d3⟩ => ?_
  · obtain ⟨j, hj, rfl⟩ := vN_at hy
    refine ⟨rfl, _, rfl, _, rfl, sl, _, rfl, .inl (SqL.of (s3 _ _ q2)), rfl, flat_ints _, _, rfl, ?_⟩
    rw [if_neg (by decide), inV_ints, take_snoc hj, List.filter_append, List.filter_cons, List.filter_nil]
    by_cases c : j ∈ surM d.n d.e d.k (d.m : Int) R
    · refine ifT c ⟨_, rfl, _, d3, ?_, Same.at_ s3 hD, ?_⟩
      · rw [List.length_map]
        refine Nat.lt_of_le_of_lt (Nat.le_trans (List.length_filter_le _ _) (show _ ≤ 64 from ?_)) (by decide)
        rw [List.length_take]
        omega
      · rw [upd_same, if_pos (decide_eq_true c), vN_app]
        rfl
    · refine ifF c ⟨s3, ?_⟩
      rw [if_neg (by rw [decide_eq_false c]; decide), List.append_nil]
      exact d3
  · rw [List.length_map, List.take_length] at d3
    refine ⟨D, _, rfl, .inl (SqL.of d3), ?_⟩
    rw [List.length_map]
    exact h H3 (Same.trans s12 s3)
noncomputable def stepGood (d : StD) (_ : List Nat) : StD × List Int := (d, [(gatD d d.R : Int), (d.ms.length : Int)])
theorem sc_call_good : FnScope ["state", "numbers"] ["state", "numbers"] (defScope s_call_good) := ⟨rfl, rfl, rfl, by decide +kernel, rfl, by decide +kernel, by decide +kernel⟩
theorem ok_call_good (T : Txt K mg) : DefOk P w K mg base 6 "call_good" ["state", "numbers"] (spC K preNo stepGood) := by
  refine def_ok (F_call_good T) sc_call_good (fun _ _ _ _ _ _ us hl => match us, hl with | [_, _], _ => rfl) (fun vs H Q E h => by obtain ⟨_, _, _, _, _, _, _, _, rfl, _⟩ := h; rfl) fun f cdv A outer s H vs Q E hr h => ?_
  obtain ⟨p, dx, pt, b, X, a, d, ns, rfl, ok, S, tb, hb, nb, rfl, h⟩ := h
  have C := T.cl_State
  refine ⟨_, pss_one (ps_ret (pe_lst (pa_cons (pe_cd (ok_gathered_by T) hr (pa_cons (pv 0) (pa_cons (pe_fld (pv 0) rfl) pa_nil))) (pa_cons (pe_len T.b_len (pa_cons (pe_fld (pv 0) rfl) pa_nil)) pa_nil)))), ?_⟩
  refine ⟨_, rfl, _, rfl, p, _, dx, _, _, rfl, S.rd.obj, C, T.n_State_rule, rfl, p, dx, a.fa, a.pr, a.pm, a.pp, pt, a.pr, d, d.R, rfl, ok, S.rd, Sq.lst S.rd.rule, ok.rl, fun H1 s1 => ?_⟩
  obtain ⟨S1, st1⟩ := S.same s1
  refine ⟨_, rfl, p, _, dx, _, _, rfl, S1.rd.obj, C, T.n_State_marked, rfl, a.pm, _, rfl, .inl (SqL.of S1.rd.marked), by show 2 ≤ sizeLine; decide, fun q hq => ?_⟩
  rw [List.length_map]
  obtain ⟨S2, st2⟩ := S1.same (Same.new (o := .lst [.int (gatD d d.R : Int), .int (d.ms.length : Int)]) (Same.refl _) hq)
  exact h _ a q S2 (st1.trans st2) upd_same
end
end RG
namespace RG
open PySem PySem.Spec PyProof.Rows L2
open LamX (Tabs ExtN TabB)
section
variable {P : Program} {w : World} {K : PySem.W.Frag} {mg : Str → Option Value} {base : Heap}
noncomputable def stepIfset (d : StD) (ns : List Nat) : StD × List Int := match refM d (ns.getD 0 0) (ns.getD 1 0) with
  | some y => (d, [y])
  | none => (d, [(gatD d (d.R.set (ns.getD 0 0) (ns.getD 1 0 : Int)) : Int), (gatD d d.R : Int)])
abbrev NIfset : List Str := ["state", "numbers", "view", "done", "refused", "changed"]
theorem sc_call_ifset : FnScope NIfset ["state", "numbers"] (defScope s_call_ifset) := ⟨rfl, rfl, rfl, by decide +kernel, rfl, by decide +kernel, by decide +kernel⟩
theorem ok_call_ifset (T : Txt K mg) : DefOk P w K mg base 6 "call_ifset" ["state", "numbers"] (spC K preTwo stepIfset) := by
  refine def_ok (F_call_ifset T) sc_call_ifset (fun _ _ _ _ _ _ us hl => match us, hl with | [_, _], _ => rfl) (fun vs H Q E h => by obtain ⟨_, _, _, _, _, _, _, _, rfl, _⟩ := h; rfl) fun f cdv A outer s H vs Q E hr h => ?_
  obtain ⟨p, dx, pt, b, X, a, d, ns, rfl, ok, S, tb, hb, nb, ⟨v, x, rfl⟩, h⟩ := h
  have C := T.cl_State
  refine ⟨_, pss_cons (ps_set (i := 2) sc_call_ifset.nd rfl (Or.inl rfl) (pe_ix ix_list (pv 1) pe_int (fun _ _ => rfl)))
    (pss_cons (ps_set (i := 3) sc_call_ifset.nd rfl (Or.inl rfl) (pe_ix ix_list (pv 1) pe_int (fun _ _ => rfl)))
    (pss_cons (ps_set (i := 4) sc_call_ifset.nd rfl (Or.inl rfl) (pe_cd (ok_refused_to_set T) (hr.mono (by decide)) (pa_cons (pv 0) (pa_cons (pv 2) (pa_cons (pv 3) pa_nil)))))
    (pss_cons (ps_if (pt_cmpR op_notN (pv 4) pe_non (nomark _)) (pss_one (ps_ret (pv 4))) pss_nil)
    (pss_cons (ps_set (i := 5) sc_call_ifset.nd rfl (Or.inl rfl) (pe_callTy call_list_of (by rfl) T.b_list (by decide +kernel) (pa_cons (pe_fld (pv 0) rfl) pa_nil)))
    (pss_cons (ps_asg (pv 3) (pg_sub (pv 5) (pv 2) set_list))
    (pss_one (ps_ret (pe_lst (pa_cons (pe_cd (ok_gathered_by T) hr (pa_cons (pv 0) (pa_cons (pv 5) pa_nil))) (pa_cons (pe_cd (ok_gathered_by T) hr (pa_cons (pv 0) (pa_cons (pe_fld (pv 0) rfl) pa_nil))) pa_nil)))))))))), ?_⟩
  refine ⟨_, rfl, b, vN [v, x], 0, .int (v : Int), rfl, rfl, SqL.of hb, rfl, ?_⟩
  refine ⟨_, rfl, b, vN [v, x], 1, .int (x : Int), rfl, rfl, SqL.of hb, rfl, ?_⟩
  refine ⟨_, rfl, _, rfl, _, rfl, p, dx, a.fa, a.pr, a.pm, a.pp, pt, d, v, x, rfl, ok, S.rd, fun H1 r s1 hr1 => ?_⟩
  obtain ⟨S1, st1⟩ := S.same s1
  refine ⟨_, rfl, rfl, _, rfl, ?_⟩
  cases hf : refM d v x with
  | some y =>
    rw [hf] at hr1
    obtain ⟨q, rfl, hq⟩ := hr1
    have e : stepIfset d [v, x] = (d, [y]) := by
      unfold stepIfset
      rw [show refM d ([v, x].getD 0 0) ([v, x].getD 1 0) = some y from hf]
    rw [e] at h
    exact ifTb rfl ⟨_, rfl, h H1 a q S1 st1 hq⟩
  | none =>
    rw [hf] at hr1
    obtain rfl : r = .non := hr1
    have e : stepIfset d [v, x] = (d, [(gatD d (d.R.set v (x : Int)) : Int), (gatD d d.R : Int)]) := by
      unfold stepIfset
      rw [show refM d ([v, x].getD 0 0) ([v, x].getD 1 0) = none from hf]
      rfl
    rw [e] at h
    have hv : v < d.R.length := by rw [ok.rl]; exact ref_none hf
    refine ifFb rfl ⟨_, rfl, p, _, dx, _, _, rfl, S1.rd.obj, C, T.n_State_rule, rfl, a.pr, vI d.R, rfl, Sq.lst S1.rd.rule, fun c hc => ?_⟩
    refine ⟨_, rfl, _, rfl, _, rfl, c, _, _, v, rfl, rfl, upd_same, by rw [vI_len]; exact ixN_nat hv, ?_⟩
    rw [vI_set, upd_upd]
    have s2 : Same H1 (upd H1 c (.lst (vI (d.R.set v (x : Int))))) := Same.new (Same.refl H1) hc
    have c2 : upd H1 c (.lst (vI (d.R.set v (x : Int)))) c = some (.lst (vI (d.R.set v (x : Int)))) := upd_same
    generalize upd H1 c (.lst (vI (d.R.set v (x : Int)))) = H2 at s2 c2
    obtain ⟨S2, st2⟩ := S1.same s2
    refine ⟨_, rfl, _, rfl, p, dx, a.fa, a.pr, a.pm, a.pp, pt, c, d, _, rfl, ok, S2.rd, Sq.lst c2, by rw [List.length_set]; exact ok.rl, fun H3 s3 => ?_⟩
    obtain ⟨S3, st3⟩ := S2.same s3
    refine ⟨_, rfl, _, rfl, p, _, dx, _, _, rfl, S3.rd.obj, C, T.n_State_rule, rfl, p, dx, a.fa, a.pr, a.pm, a.pp, pt, a.pr, d, d.R, rfl, ok, S3.rd, Sq.lst S3.rd.rule, ok.rl, fun H4 s4 => ?_⟩
    obtain ⟨S4, st4⟩ := S3.same s4
    refine ⟨by show 2 ≤ sizeLine; decide, fun q hq => ?_⟩
    obtain ⟨S5, st5⟩ := S4.same (Same.new (o := .lst [.int (gatD d (d.R.set v (x : Int)) : Int), .int (gatD d d.R : Int)]) (Same.refl _) hq)
    exact h _ a q S5 ((((st1.trans st2).trans st3).trans st4).trans st5) upd_same
end
end RG
namespace RG
open PySem PySem.Spec PyProof.Rows L2
open LamX (Tabs ExtN TabB)
theorem fold_tlen (S : List Int → List Nat) : ∀ (rs : List (List Int)) (ts : List TrialD), (rs.foldl (trialStep S) ts).length ≤ ts.length + rs.length
  | [], _ => Nat.le_refl _
  | r :: rs, ts => by
    have h1 := fold_tlen S rs (trialStep S ts r)
    have h2 := step_tlen S ts r
    rw [List.foldl_cons, List.length_cons]
    omega
theorem trials_few {n e k : Nat} {m : Int} (h : prodN (evensM n e k) ≤ 6000) : (trialsM n e k m).length ≤ 6000 := by
  have h1 := fold_tlen (surM n e k m) (rulesM (evensM n e k)) []
  rw [rulesM_len] at h1
  unfold trialsM
  simp only [List.length_nil] at h1
  omega
theorem fold_first (S : List Int → List Nat) : ∀ (rs : List (List Int)) (ts : List TrialD) (A : List Int → Prop), (∀ t ∈ ts, A t.first) → (∀ r ∈ rs, A r) → ∀ t ∈ rs.foldl (trialStep S) ts, A t.first
  | [], _, _, h, _, t, ht => h t ht
  | r :: rs, ts, A, h, g, t, ht => by
    rw [List.foldl_cons] at ht
    refine fold_first S rs (trialStep S ts r) A (fun u hu => ?_) (fun r hr => g r (List.mem_cons_of_mem _ hr)) t ht
    unfold trialStep at hu
    split at hu
    · obtain ⟨w, hw, rfl⟩ := List.mem_map.mp hu
      have e : (bumpT (S r) w).first = w.first := by
        unfold bumpT
        split <;> rfl
      rw [e]
      exact h w hw
    · rcases List.mem_append.mp hu with hu | hu
      · exact h u hu
      · rw [List.mem_singleton.mp hu]
        exact g r List.mem_cons_self
theorem trial_first {n e k : Nat} {m : Int} {t : TrialD} (h : t ∈ trialsM n e k m) : t.first.length = (viewsM n e k).length := by
  refine fold_first _ _ _ (fun r => r.length = (viewsM n e k).length) (fun t (ht : t ∈ ([] : List TrialD)) => by cases ht) (fun r hr => ?_) t h
  rw [rulesM_width hr, evens_len]
theorem minT_mem : ∀ (l : List (List Int)) (x : List Int), minT x l ∈ x :: l
  | [], x => List.mem_singleton.mpr rfl
  | y :: l, x => by
    have ih := minT_mem l (if ltL y x = true then y else x)
    unfold minT at ih ⊢
    rw [List.foldl_cons]
    rcases List.mem_cons.mp ih with e | h
    · rw [e]
      split
      · exact List.mem_cons_of_mem _ List.mem_cons_self
      · exact List.mem_cons_self
    · exact List.mem_cons_of_mem _ (List.mem_cons_of_mem _ h)
theorem minF_mem : ∀ {ts : List TrialD}, ts ≠ [] → ∃ t ∈ ts, minF ts = t.first
  | [], h => absurd rfl h
  | t :: ts, _ => by
    have h := minT_mem (ts.map fun t : TrialD => t.first) t.first
    rcases List.mem_cons.mp h with e | h
    · exact ⟨t, List.mem_cons_self, e⟩
    · obtain ⟨u, hu, e⟩ := List.mem_map.mp h
      exact ⟨u, List.mem_cons_of_mem _ hu, e.symm⟩
theorem firstGood_len {n e k : Nat} {m : Int} {ms : List Nat} {r : List Int} (h : firstGood (trialsM n e k m) ms = some r) : r.length = (viewsM n e k).length := by
  unfold firstGood at h
  split at h
  · cases h
  · rename_i c
    cases h
    obtain ⟨t, ht, e⟩ := minF_mem c
    rw [e]
    exact trial_first (List.mem_filter.mp ht).1
section
variable {P : Program} {w : World} {K : PySem.W.Frag} {mg : Str → Option Value} {base : Heap}
noncomputable def trialsD (d : StD) : List TrialD := trialsM d.n d.e d.k (d.m : Int)
def manyD (d : StD) : Bool := decide (6000 < prodN (evensM d.n d.e d.k))
noncomputable def stepFound (d : StD) (_ : List Nat) : StD × List Int := if manyD d = true then (d, [-28]) else match firstGood (trialsD d) d.ms with
  | none => (d, [-33])
  | some r => (d, (r.length : Int) :: r)
theorem sc_call_found : FnScope ["state", "numbers", "rule"] ["state", "numbers"] (defScope s_call_found) := ⟨rfl, rfl, rfl, by decide +kernel, rfl, by decide +kernel, by decide +kernel⟩
theorem ok_call_found (T : Txt K mg) : DefOk P w K mg base 10 "call_found" ["state", "numbers"] (spC K preNo stepFound) := by
  refine def_ok (F_call_found T) sc_call_found (fun _ _ _ _ _ _ us hl => match us, hl with | [_, _], _ => rfl) (fun vs H Q E h => by obtain ⟨_, _, _, _, _, _, _, _, rfl, _⟩ := h; rfl) fun f cdv A outer s H vs Q E hr h => ?_
  obtain ⟨p, dx, pt, b, X, a, d, ns, rfl, ok, S, tb, hb, nb, rfl, h⟩ := h
  have C := T.cl_State
  have fw := ok.few
  refine ⟨_, pss_cons (ps_if (pt_val (pe_cd (ok_is_too_many T) (hr.mono (by decide)) (pa_cons (pe_fld (pv 0) rfl) pa_nil))) (pss_one (ps_ret (pe_cd0 (ok_too_many_rules T) (hr.mono (by decide))))) pss_nil)
    (pss_cons (ps_set (i := 2) sc_call_found.nd rfl (Or.inl rfl) (pe_cd (ok_first_good T) (hr.mono (by decide)) (pa_cons (pe_md0 (He.ga K "State") (ok_trials_now T) T.cl_State hr (pv 0)) (pa_cons (pe_fld (pv 0) rfl) pa_nil))))
    (pss_cons (ps_if (pt_cmpR op_isN (pv 2) pe_non (nomark _)) (pss_one (ps_ret (pe_cd0 (ok_none_is_good T) (hr.mono (by decide))))) pss_nil)
    (pss_one (ps_ret (pe_cd (ok_counted T) (hr.mono (by decide)) (pa_cons (pv 2) pa_nil)))))), ?_⟩
  refine ⟨_, rfl, p, _, dx, _, _, rfl, S.rd.obj, C, T.n_State_field, rfl, a.fa, d.n, d.e, d.k, rfl, S.rd.field, _, rfl, ?_⟩
  unfold stepFound at h
  by_cases c : manyD d = true
  · rw [if_pos c] at h
    refine ifTb c ⟨rfl, fun q hq => ?_⟩
    obtain ⟨S2, st2⟩ := S.same (Same.new (o := .lst [.int (-28)]) (Same.refl _) hq)
    exact h _ a q S2 st2 upd_same
  · rw [if_neg c] at h
    have hN : prodN (evensM d.n d.e d.k) ≤ 6000 := by
      have : ¬ 6000 < prodN (evensM d.n d.e d.k) := fun z => c (decide_eq_true z)
      omega
    refine ifFb (by rw [← Bool.not_eq_true]; exact c) ?_
    refine ⟨_, rfl, p, dx, _, rfl, S.rd.obj, rfl, p, dx, pt, X, a, d, rfl, ok, S, hN, fun H1 a1 q1 as S1 st1 z1 t1 => ?_⟩
    refine ⟨_, rfl, p, _, dx, _, _, rfl, S1.rd.obj, C, T.n_State_marked, rfl, q1, a1.pm, as, trialsD d, d.ms, rfl, z1, t1, trials_few hN, S1.rd.marked, by omega, fun H2 v s2 hv => ?_⟩
    obtain ⟨S2, st2⟩ := S1.same s2
    refine ⟨_, rfl, rfl, _, rfl, ?_⟩
    cases hf : firstGood (trialsD d) d.ms with
    | none =>
      rw [hf] at h
      have hv : v = .non := by rw [hf] at hv; exact hv
      refine ifTb (by rw [hv]; rfl) ⟨rfl, fun q hq => ?_⟩
      obtain ⟨S3, st3⟩ := S2.same (Same.new (o := .lst [.int (-33)]) (Same.refl _) hq)
      exact h _ a1 q S3 ((st1.trans st2).trans st3) upd_same
    | some r =>
      rw [hf] at h
      obtain ⟨q2, e2, z2⟩ : ∃ q, v = .ref q ∧ H2 q = some (.tup (vI r)) := by rw [hf] at hv; exact hv
      have rl := firstGood_len hf
      have vf := views_few ok.dims
      refine ifFb (by rw [e2]; rfl) ⟨_, rfl, q2, vI r, by rw [e2]; rfl, Sq.tup z2, by rw [vI_len]; exact Nat.le_trans (show _ ≤ 65 by omega) (by decide), fun H3 q s3 hq z3 => ?_⟩
      rw [vI_len] at z3
      obtain ⟨S3, st3⟩ := S2.same s3
      exact h _ a1 q S3 ((st1.trans st2).trans st3) z3
end
end RG
namespace RG
open PySem PySem.Spec PyProof.Rows L2
open LamX (Tabs ExtN TabB)
section
variable {P : Program} {w : World} {K : PySem.W.Frag} {mg : Str → Option Value} {base : Heap}
theorem hopeless_len {ts : List TrialD} {ms g : List Nat} (h : hopeless ts ms = some g) : g.length ≤ ms.length := by
  have hm := List.mem_of_find?_eq_some h
  obtain ⟨s, hs, hg⟩ := List.mem_flatMap.mp hm
  have := List.mem_range.mp hs
  rw [groups_width hg]
  omega
noncomputable def stepWhy (d : StD) (_ : List Nat) : StD × List Int := if manyD d = true then (d, [-28]) else match hopeless (trialsD d) d.ms with
  | none => (d, [-6])
  | some g => (d, cntI g)
theorem sc_call_why : FnScope ["state", "numbers", "hopeless"] ["state", "numbers"] (defScope s_call_why) := ⟨rfl, rfl, rfl, by decide +kernel, rfl, by decide +kernel, by decide +kernel⟩
theorem ok_call_why (T : Txt K mg) : DefOk P w K mg base 10 "call_why" ["state", "numbers"] (spC K preNo stepWhy) := by
  refine def_ok (F_call_why T) sc_call_why (fun _ _ _ _ _ _ us hl => match us, hl with | [_, _], _ => rfl) (fun vs H Q E h => by obtain ⟨_, _, _, _, _, _, _, _, rfl, _⟩ := h; rfl) fun f cdv A outer s H vs Q E hr h => ?_
  obtain ⟨p, dx, pt, b, X, a, d, ns, rfl, ok, S, tb, hb, nb, rfl, h⟩ := h
  have C := T.cl_State
  have fw := ok.few
  refine ⟨_, pss_cons (ps_if (pt_val (pe_cd (ok_is_too_many T) (hr.mono (by decide)) (pa_cons (pe_fld (pv 0) rfl) pa_nil))) (pss_one (ps_ret (pe_cd0 (ok_too_many_rules T) (hr.mono (by decide))))) pss_nil)
    (pss_cons (ps_set (i := 2) sc_call_why.nd rfl (Or.inl rfl) (pe_cd (ok_fewest_hopeless T) (hr.mono (by decide)) (pa_cons (pe_md0 (He.ga K "State") (ok_trials_now T) T.cl_State hr (pv 0)) (pa_cons (pe_fld (pv 0) rfl) pa_nil))))
    (pss_cons (ps_if (pt_cmpR op_isN (pv 2) pe_non (nomark _)) (pss_one (ps_ret (pe_cd0 (ok_some_is_good T) (hr.mono (by decide))))) pss_nil)
    (pss_one (ps_ret (pe_cd (ok_counted T) (hr.mono (by decide)) (pa_cons (pv 2) pa_nil)))))), ?_⟩
  refine ⟨_, rfl, p, _, dx, _, _, rfl, S.rd.obj, C, T.n_State_field, rfl, a.fa, d.n, d.e, d.k, rfl, S.rd.field, _, rfl, ?_⟩
  unfold stepWhy at h
  by_cases c : manyD d = true
  · rw [if_pos c] at h
    refine ifTb c ⟨rfl, fun q hq => ?_⟩
    obtain ⟨S2, st2⟩ := S.same (Same.new (o := .lst [.int (-28)]) (Same.refl _) hq)
    exact h _ a q S2 st2 upd_same
  · rw [if_neg c] at h
    have hN : prodN (evensM d.n d.e d.k) ≤ 6000 := by
      have : ¬ 6000 < prodN (evensM d.n d.e d.k) := fun z => c (decide_eq_true z)
      omega
    refine ifFb (by rw [← Bool.not_eq_true]; exact c) ?_
    refine ⟨_, rfl, p, dx, _, rfl, S.rd.obj, rfl, p, dx, pt, X, a, d, rfl, ok, S, hN, fun H1 a1 q1 as S1 st1 z1 t1 => ?_⟩
    refine ⟨_, rfl, p, _, dx, _, _, rfl, S1.rd.obj, C, T.n_State_marked, rfl, q1, a1.pm, as, trialsD d, d.ms, rfl, z1, t1, trials_few hN, S1.rd.marked, ok.rise, fw, fun H2 v s2 hv => ?_⟩
    obtain ⟨S2, st2⟩ := S1.same s2
    refine ⟨_, rfl, rfl, _, rfl, ?_⟩
    cases hf : hopeless (trialsD d) d.ms with
    | none =>
      rw [hf] at h
      have hv : v = .non := by rw [hf] at hv; exact hv
      refine ifTb (by rw [hv]; rfl) ⟨rfl, fun q hq => ?_⟩
      obtain ⟨S3, st3⟩ := S2.same (Same.new (o := .lst [.int (-6)]) (Same.refl _) hq)
      exact h _ a1 q S3 ((st1.trans st2).trans st3) upd_same
    | some g =>
      rw [hf] at h
      obtain ⟨q2, e2, z2⟩ : ∃ q, v = .ref q ∧ H2 q = some (.lst (vN g)) := by rw [hf] at hv; exact hv
      have gl := hopeless_len hf
      refine ifFb (by rw [e2]; rfl) ⟨_, rfl, q2, vN g, by rw [e2]; rfl, Sq.lst z2, by rw [List.length_map]; exact Nat.le_trans (show _ ≤ 65 by omega) (by decide), fun H3 q s3 hq z3 => ?_⟩
      rw [cntI_eq] at z3
      obtain ⟨S3, st3⟩ := S2.same s3
      exact h _ a1 q S3 ((st1.trans st2).trans st3) z3
end
end RG
namespace RG
open PySem PySem.Spec PyProof.Rows L2
open LamX (Tabs ExtN TabB)
section
variable {P : Program} {w : World} {K : PySem.W.Frag} {mg : Str → Option Value} {base : Heap}
def beginOk (n e k m : Nat) : Prop := 3 ≤ n ∧ n ≤ 7 ∧ e ≤ 2 ∧ 1 ≤ k ∧ k ≤ 3 ∧ m ≤ 2
def spBeginC (K : PySem.W.Frag) : Sp := fun vs H Q _ => ∃ (p dx pt b : Addr) (X : List Addr) (a : Ad) (vf : V) (m0 n e k m : Nat), vs = [.ref p, .ref b] ∧ StB K H p dx pt X a vf m0 ∧ H b = some (.lst (vN [n, e, k, m])) ∧ b ∉ mut4 p pt a ∧
  (¬ beginOk n e k m → ∀ H' q, Same H H' → H' q = some (.lst (vI [-22])) → Q (.ref q) H') ∧
  (beginOk n e k m → ∀ H' a' q, StAt K H' p dx pt X a' (beginD n e k m) → Step K H H' p pt a a' → H' q = some (.lst (vI [((viewsM n e k).length : Int)])) → Q (.ref q) H')
abbrev NBeginC : List Str := ["state", "numbers", "places", "eyes", "robots", "moves"]
theorem sc_call_begin : FnScope NBeginC ["state", "numbers"] (defScope s_call_begin) := ⟨rfl, rfl, rfl, by decide +kernel, rfl, by decide +kernel, by decide +kernel⟩
theorem ok_call_begin (T : Txt K mg) : DefOk P w K mg base 8 "call_begin" ["state", "numbers"] (spBeginC K) := by
  refine def_ok (F_call_begin T) sc_call_begin (fun _ _ _ _ _ _ us hl => match us, hl with | [_, _], _ => rfl) (fun vs H Q E h => by obtain ⟨_, _, _, _, _, _, _, _, _, _, _, _, rfl, _⟩ := h; rfl) fun f cdv A outer s H vs Q E hr h => ?_
  obtain ⟨p, dx, pt, b, X, a, vf, m0, n, e, k, m, rfl, S, hb, nb, h1, h2⟩ := h
  have C := T.cl_State
  refine ⟨_, pss_cons (ps_set (i := 2) sc_call_begin.nd rfl (Or.inl rfl) (pe_ix ix_list (pv 1) pe_int (fun _ _ => rfl)))
    (pss_cons (ps_set (i := 3) sc_call_begin.nd rfl (Or.inl rfl) (pe_ix ix_list (pv 1) pe_int (fun _ _ => rfl)))
    (pss_cons (ps_set (i := 4) sc_call_begin.nd rfl (Or.inl rfl) (pe_ix ix_list (pv 1) pe_int (fun _ _ => rfl)))
    (pss_cons (ps_set (i := 5) sc_call_begin.nd rfl (Or.inl rfl) (pe_ix ix_list (pv 1) pe_int (fun _ _ => rfl)))
    (pss_cons (ps_if (PW.pt (pw_or (pt_cmpR op_lt (pv 2) pe_int (nomark _)) (pw_or (pt_cmpR op_gt (pv 2) pe_int (nomark _)) (pw_or (pt_cmpR op_gt (pv 3) pe_int (nomark _)) (pw_or (pt_cmpR op_lt (pv 4) pe_int (nomark _)) (pw_or (pt_cmpR op_gt (pv 4) pe_int (nomark _)) (pw_or1 (pt_cmpR op_gt (pv 5) pe_int (nomark _))))))))) (pss_one (ps_ret (pe_cd0 (ok_not_let T) (hr.mono (by decide))))) pss_nil)
    (pss_cons (ps_expr (pe_md (He.ga K "State") (ok_State_begin T) T.cl_State hr (pv 0) (pa_cons (pv 2) (pa_cons (pv 3) (pa_cons (pv 4) (pa_cons (pv 5) pa_nil))))))
    (pss_one (ps_ret (pe_lst (pa_cons (pe_len T.b_len (pa_cons (pe_fld (pe_fld (pv 0) rfl) rfl) pa_nil)) pa_nil))))))))), ?_⟩
  refine ⟨_, rfl, b, vN [n, e, k, m], 0, .int (n : Int), rfl, rfl, SqL.of hb, rfl, ?_⟩
  refine ⟨_, rfl, b, vN [n, e, k, m], 1, .int (e : Int), rfl, rfl, SqL.of hb, rfl, ?_⟩
  refine ⟨_, rfl, b, vN [n, e, k, m], 2, .int (k : Int), rfl, rfl, SqL.of hb, rfl, ?_⟩
  refine ⟨_, rfl, b, vN [n, e, k, m], 3, .int (m : Int), rfl, rfl, SqL.of hb, rfl, ?_⟩
  refine ⟨_, rfl, _, _, rfl, rfl, _, rfl, ?_⟩
  by_cases c1 : (n : Int) < 3
  · exact ifT c1 ⟨rfl, fun q hq => h1 (fun z => by have := z.1; omega) _ q (Same.new (Same.refl H) hq) upd_same⟩
  refine ifF c1 ⟨_, rfl, _, _, rfl, rfl, _, rfl, ?_⟩
  by_cases c2 : (7 : Int) < n
  · exact ifT c2 ⟨rfl, fun q hq => h1 (fun z => by have := z.2.1; omega) _ q (Same.new (Same.refl H) hq) upd_same⟩
  refine ifF c2 ⟨_, rfl, _, _, rfl, rfl, _, rfl, ?_⟩
  by_cases c3 : (2 : Int) < e
  · exact ifT c3 ⟨rfl, fun q hq => h1 (fun z => by have := z.2.2.1; omega) _ q (Same.new (Same.refl H) hq) upd_same⟩
  refine ifF c3 ⟨_, rfl, _, _, rfl, rfl, _, rfl, ?_⟩
  by_cases c4 : (k : Int) < 1
  · exact ifT c4 ⟨rfl, fun q hq => h1 (fun z => by have := z.2.2.2.1; omega) _ q (Same.new (Same.refl H) hq) upd_same⟩
  refine ifF c4 ⟨_, rfl, _, _, rfl, rfl, _, rfl, ?_⟩
  by_cases c5 : (3 : Int) < k
  · exact ifT c5 ⟨rfl, fun q hq => h1 (fun z => by have := z.2.2.2.2.1; omega) _ q (Same.new (Same.refl H) hq) upd_same⟩
  refine ifF c5 ⟨_, rfl, _, _, rfl, rfl, _, rfl, ?_⟩
  by_cases c6 : (2 : Int) < m
  · exact ifT c6 ⟨rfl, fun q hq => h1 (fun z => by have := z.2.2.2.2.2; omega) _ q (Same.new (Same.refl H) hq) upd_same⟩
  refine ifF c6 ?_
  have ok : beginOk n e k m := ⟨by omega, by omega, by omega, by omega, by omega, by omega⟩
  refine ⟨_, rfl, p, dx, _, rfl, S.obj, rfl, _, rfl, _, rfl, _, rfl, _, rfl, p, dx, pt, X, a, vf, m0, n, e, k, m, rfl, S, ⟨ok.1, ok.2.1, ok.2.2.2.1, ok.2.2.2.2.1, ok.2.2.1⟩, ok.2.2.2.2.2, fun H1 a1 S1 st1 => ?_⟩
  obtain ⟨dy, pn, pq, ps, pz, pe, pv', ha, fp⟩ := id S1.rd.field
  obtain ⟨vs, v1, v2⟩ := fp.views
  refine ⟨_, rfl, p, _, dx, _, _, rfl, S1.rd.obj, C, T.n_State_field, rfl, a1.fa, _, dy, _, _, rfl, ha, T.cl_Field, T.n_Field_views, rfl, pz, _, rfl, .inl (SqL.of v1), by show 1 ≤ sizeLine; decide, fun q hq => ?_⟩
  rw [List.length_map, Paired.len' v2]
  obtain ⟨S2, st2⟩ := S1.same (Same.new (o := .lst [.int ((viewsM n e k).length : Int)]) (Same.refl _) hq)
  exact h2 ok _ a1 q S2 (st1.trans st2) upd_same
end
end RG
namespace RG
open PySem PySem.Spec PyProof.Rows L2
open LamX (Tabs ExtN TabB)
section
variable {P : Program} {w : World} {K : PySem.W.Frag} {mg : Str → Option Value} {base : Heap}
/-- another rule: a new list -/
theorem StAt.ruleNew {H H1 : Hp} {p dx pt q : Addr} {X : List Addr} {a : Ad} {d : StD} (S : StAt K H p dx pt X a d) (s : Same H H1) (hq : H q = none) {R : List Int} (h1 : H1 q = some (.lst (vI R))) :
    StAt K (upd H1 p (.ins (He.ga K "State") dx (stateF (.ref a.fa) d.m q a.pm a.pp pt))) p dx pt X ⟨a.fa, q, a.pm, a.pp, a.kvs⟩ { d with R := R } ∧
    Step K H (upd H1 p (.ins (He.ga K "State") dx (stateF (.ref a.fa) d.m q a.pm a.pp pt))) p pt a ⟨a.fa, q, a.pm, a.pp, a.kvs⟩ := by
  have p1 := s _ _ S.rd.obj
  have st : Step K H (upd H1 p (.ins (He.ga K "State") dx (stateF (.ref a.fa) d.m q a.pm a.pp pt))) p pt a ⟨a.fa, q, a.pm, a.pp, a.kvs⟩ :=
    S.stepD (ButD.at_ (ButD.of s) (.inr List.mem_cons_self)) ((Dom.of s).upd (fun _ z => nomatch z)) (.inr (Fresh.of hq)) (.inl rfl)
  exact ⟨S.next st upd_same (upd_other p1 h1 (fun z => nomatch z)) (upd_other p1 (s _ _ S.rd.past) (fun z => nomatch z)) (upd_other p1 (s _ _ S.tried) (fun z => nomatch z)) (ne_of_none S.rd.past hq).symm, st⟩
noncomputable def stepTake (d : StD) (_ : List Nat) : StD × List Int := if manyD d = true then (d, [-28]) else match firstGood (trialsD d) d.ms with
  | none => (d, [-33])
  | some r => ({ d with R := r }, [0])
theorem sc_call_take : FnScope ["state", "numbers", "found"] ["state", "numbers"] (defScope s_call_take) := ⟨rfl, rfl, rfl, by decide +kernel, rfl, by decide +kernel, by decide +kernel⟩
theorem cut_two (l : List V) (i j : Nat) (h : i ≤ l.length) (g : j ≤ l.length) : cutV l (some (i : Int)) (some (j : Int)) = (l.drop i).take (j - i) := by
  unfold cutV
  rw [HT.sIx_nat, HT.sIx_nat, Nat.min_eq_left h, Nat.min_eq_left g]
theorem cut_one (x : V) (l : List V) : cutV (x :: l) (some 1) none = l := by
  unfold cutV
  rw [HT.sIx_none, show (some (1 : Int)) = some (((1 : Nat) : Int)) from rfl, HT.sIx_nat, Nat.min_eq_left (by rw [List.length_cons]; omega)]
  show l.take (l.length + 1 - 1) = l
  rw [Nat.add_sub_cancel, List.take_length]
theorem ok_call_take (T : Txt K mg) : DefOk P w K mg base 11 "call_take" ["state", "numbers"] (spC K preNo stepTake) := by
  refine def_ok (F_call_take T) sc_call_take (fun _ _ _ _ _ _ us hl => match us, hl with | [_, _], _ => rfl) (fun vs H Q E h => by obtain ⟨_, _, _, _, _, _, _, _, rfl, _⟩ := h; rfl) fun f cdv A outer s H vs Q E hr h => ?_
  obtain ⟨p, dx, pt, b, X, a, d, ns, rfl, ok, S, tb, hb, nb, rfl, h⟩ := h
  have C := T.cl_State
  refine ⟨_, pss_cons (ps_set (i := 2) sc_call_take.nd rfl (Or.inl rfl) (pe_cd (ok_call_found T) hr (pa_cons (pv 0) (pa_cons (pv 1) pa_nil))))
    (pss_cons (ps_if (pt_cmpR op_lt (pe_ix ix_list (pv 2) pe_int (fun _ _ => rfl)) pe_int (nomark _)) (pss_one (ps_ret (pv 2))) pss_nil)
    (pss_cons (ps_fldN (pv 0) (pe_slice sl_list (pv 2) (po_some pe_int) po_none) rfl)
    (pss_one (ps_ret (pe_lst (pa_cons pe_int pa_nil)))))), ?_⟩
  refine ⟨_, rfl, _, rfl, p, dx, pt, b, X, a, d, [], rfl, ok, S, tb, hb, nb, rfl, fun H1 a1 q1 S1 st1 z1 => ?_⟩
  unfold stepFound at S1 z1
  unfold stepTake at h
  by_cases c : manyD d = true
  · rw [if_pos c] at h S1 z1
    refine ⟨_, rfl, q1, vI [-28], 0, .int (-28), rfl, rfl, SqL.of z1, rfl, _, _, rfl, rfl, _, rfl, ?_⟩
    exact ifT (by decide) ⟨_, rfl, h H1 a1 q1 S1 st1 z1⟩
  rw [if_neg c] at h S1 z1
  cases hf : firstGood (trialsD d) d.ms with
  | none =>
    rw [hf] at h S1 z1
    refine ⟨_, rfl, q1, vI [-33], 0, .int (-33), rfl, rfl, SqL.of z1, rfl, _, _, rfl, rfl, _, rfl, ?_⟩
    exact ifT (by decide) ⟨_, rfl, h H1 a1 q1 S1 st1 z1⟩
  | some r =>
    rw [hf] at h S1 z1
    refine ⟨_, rfl, q1, vI ((r.length : Int) :: r), ((0 : Nat) : Int), .int (r.length : Int), rfl, rfl, SqL.of z1, atI_nat rfl, _, _, rfl, rfl, _, rfl, ?_⟩
    refine ifF (by omega) ?_
    refine ⟨_, rfl, 1, rfl, q1, _, rfl, SqL.of z1, fun s hs => ?_⟩
    rw [show cutV (vI ((r.length : Int) :: r)) (some 1) none = vI r from cut_one _ _]
    have s1 : Same H1 (upd H1 s (.lst (vI r))) := Same.new (Same.refl H1) hs
    have z2 : upd H1 s (.lst (vI r)) s = some (.lst (vI r)) := upd_same
    generalize upd H1 s (.lst (vI r)) = H2 at s1 z2
    refine ⟨_, rfl, p, _, dx, _, stateF (.ref a1.fa) d.m s a1.pm a1.pp pt, rfl, s1 _ _ S1.rd.obj, C, T.n_State_rule, by show 6 < 1000; decide, rfl, ?_⟩
    obtain ⟨S2, st2⟩ := S1.ruleNew s1 hs z2
    refine ⟨by show 1 ≤ sizeLine; decide, fun q hq => ?_⟩
    obtain ⟨S3, st3⟩ := S2.same (Same.new (o := .lst [.int 0]) (Same.refl _) hq)
    exact h _ _ q S3 ((st1.trans st2).trans st3) upd_same
end
end RG
namespace RG
open PySem PySem.Spec PyProof.Rows L2
open LamX (Tabs ExtN TabB)
section
variable {P : Program} {w : World} {K : PySem.W.Frag} {mg : Str → Option Value} {base : Heap}
theorem that_ne {ts : List TrialD} {ms : List Nat} (h : ts ≠ []) : thatGat ts ms (mostGat ts ms) ≠ [] := by
  have gne : gats ts ms ≠ [] := by
    unfold gats
    simpa using h
  obtain ⟨t, ht, e⟩ := List.mem_map.mp (maxN_mem gne)
  intro z
  have : t ∈ thatGat ts ms (mostGat ts ms) := List.mem_filter.mpr ⟨ht, decide_eq_true e⟩
  rw [z] at this
  cases this
theorem that_len {n e k : Nat} {m : Int} {ms : List Nat} : (minF (thatGat (trialsM n e k m) ms (mostGat (trialsM n e k m) ms))).length = (viewsM n e k).length := by
  obtain ⟨t, ht, e⟩ := minF_mem (that_ne (ms := ms) (trials_ne n e k m))
  rw [e]
  exact trial_first (List.mem_filter.mp ht).1
noncomputable def stepBest (d : StD) (_ : List Nat) : StD × List Int := if manyD d = true then (d, [-28]) else (d, (mostGat (trialsD d) d.ms : Int) :: minF (thatGat (trialsD d) d.ms (mostGat (trialsD d) d.ms)))
theorem sc_call_best : FnScope ["state", "numbers", "trials", "most"] ["state", "numbers"] (defScope s_call_best) := ⟨rfl, rfl, rfl, by decide +kernel, rfl, by decide +kernel, by decide +kernel⟩
theorem ok_call_best (T : Txt K mg) : DefOk P w K mg base 10 "call_best" ["state", "numbers"] (spC K preNo stepBest) := by
  refine def_ok (F_call_best T) sc_call_best (fun _ _ _ _ _ _ us hl => match us, hl with | [_, _], _ => rfl) (fun vs H Q E h => by obtain ⟨_, _, _, _, _, _, _, _, rfl, _⟩ := h; rfl) fun f cdv A outer s H vs Q E hr h => ?_
  obtain ⟨p, dx, pt, b, X, a, d, ns, rfl, ok, S, tb, hb, nb, rfl, h⟩ := h
  have C := T.cl_State
  have fw := ok.few
  refine ⟨_, pss_cons (ps_if (pt_val (pe_cd (ok_is_too_many T) (hr.mono (by decide)) (pa_cons (pe_fld (pv 0) rfl) pa_nil))) (pss_one (ps_ret (pe_cd0 (ok_too_many_rules T) (hr.mono (by decide))))) pss_nil)
    (pss_cons (ps_set (i := 2) sc_call_best.nd rfl (Or.inl rfl) (pe_md0 (He.ga K "State") (ok_trials_now T) T.cl_State hr (pv 0)))
    (pss_cons (ps_set (i := 3) sc_call_best.nd rfl (Or.inl rfl) (pe_cd (ok_most_gathered T) (hr.mono (by decide)) (pa_cons (pv 2) (pa_cons (pe_fld (pv 0) rfl) pa_nil))))
    (pss_one (ps_ret (pe_op op_cat (pe_lst (pa_cons (pv 3) pa_nil)) (pe_callTy (call_list_of) (by rfl) T.b_list (by decide +kernel) (pa_cons (pe_cd (ok_first_that_gathers T) (hr.mono (by decide)) (pa_cons (pv 2) (pa_cons (pe_fld (pv 0) rfl) (pa_cons (pv 3) pa_nil)))) pa_nil))))))), ?_⟩
  refine ⟨_, rfl, p, _, dx, _, _, rfl, S.rd.obj, C, T.n_State_field, rfl, a.fa, d.n, d.e, d.k, rfl, S.rd.field, _, rfl, ?_⟩
  unfold stepBest at h
  by_cases c : manyD d = true
  · rw [if_pos c] at h
    refine ifTb c ⟨rfl, fun q hq => ?_⟩
    obtain ⟨S2, st2⟩ := S.same (Same.new (o := .lst [.int (-28)]) (Same.refl _) hq)
    exact h _ a q S2 st2 upd_same
  rw [if_neg c] at h
  have hN : prodN (evensM d.n d.e d.k) ≤ 6000 := by
    have : ¬ 6000 < prodN (evensM d.n d.e d.k) := fun z => c (decide_eq_true z)
    omega
  have tl : (trialsD d).length ≤ 6000 := trials_few hN
  have tne : trialsD d ≠ [] := trials_ne d.n d.e d.k (d.m : Int)
  refine ifFb (by rw [← Bool.not_eq_true]; exact c) ?_
  refine ⟨_, rfl, p, dx, _, rfl, S.rd.obj, rfl, p, dx, pt, X, a, d, rfl, ok, S, hN, fun H1 a1 q1 as S1 st1 z1 t1 => ?_⟩
  refine ⟨_, rfl, _, rfl, p, _, dx, _, _, rfl, S1.rd.obj, C, T.n_State_marked, rfl, q1, a1.pm, as, trialsD d, d.ms, rfl, z1, t1, tne, tl, S1.rd.marked, by omega, fun H2 s2 => ?_⟩
  have s2' : Same H1 H2 := s2
  refine ⟨_, rfl, by show 1 ≤ sizeLine; decide, fun l hl => ?_⟩
  have s3 : Same H1 (upd H2 l (.lst [.int (mostGat (trialsD d) d.ms : Int)])) := Same.new s2' hl
  have l3 : upd H2 l (.lst [.int (mostGat (trialsD d) d.ms : Int)]) l = some (.lst [.int (mostGat (trialsD d) d.ms : Int)]) := upd_same
  generalize upd H2 l (.lst [.int (mostGat (trialsD d) d.ms : Int)]) = H3 at s3 l3
  obtain ⟨S3, st3⟩ := S1.same s3
  refine ⟨_, rfl, _, rfl, p, _, dx, _, _, rfl, S3.rd.obj, C, T.n_State_marked, rfl, _, rfl, q1, a1.pm, as, trialsD d, d.ms, _, rfl, s3 _ _ z1, TrialsL.same s3 t1, that_ne tne, tl, S3.rd.marked, by omega, fun H4 q4 s4 z4 => ?_⟩
  obtain ⟨S4, st4⟩ := S3.same s4
  have vf := views_few ok.dims
  have ml : (minF (thatGat (trialsD d) d.ms (mostGat (trialsD d) d.ms))).length = (viewsM d.n d.e d.k).length := that_len
  refine ⟨q4, vI _, rfl, Sq.tup z4, fun r hr' => ?_⟩
  have s5 : Same H4 (upd H4 r (.lst (vI (minF (thatGat (trialsD d) d.ms (mostGat (trialsD d) d.ms)))))) := Same.new (Same.refl H4) hr'
  refine ⟨l, r, _, _, rfl, rfl, s5 _ _ (s4 _ _ l3), upd_same, by rw [vI_len, ml]; exact Nat.le_trans (show _ ≤ 66 by show 1 + _ ≤ 66; omega) (by decide), fun q hq => ?_⟩
  obtain ⟨S5, st5⟩ := S4.same (Same.new (o := .lst ([.int (mostGat (trialsD d) d.ms : Int)] ++ vI (minF (thatGat (trialsD d) d.ms (mostGat (trialsD d) d.ms))))) s5 hq)
  exact h _ a1 q S5 (((st1.trans st3).trans st4).trans st5) upd_same
end
end RG
namespace RG
open PySem PySem.Spec PyProof.Rows L2
open LamX (Tabs ExtN TabB)
section
variable {P : Program} {w : World} {K : PySem.W.Frag} {mg : Str → Option Value} {base : Heap}
def manyE (d : StD) (e : Nat) : Bool := decide (6000 < prodN (evensM d.n e d.k))
noncomputable def goodE (d : StD) (e : Nat) : Bool := (firstGood (trialsM d.n e d.k (d.m : Int)) d.ms).isSome
noncomputable def stepEyes (d : StD) (_ : List Nat) : StD × List Int := if ((List.range 3).map (manyE d)).any id = true then (d, [-28]) else match [2, 1, 0].find? (goodE d) with
  | none => (d, [-33])
  | some e => (d, [(e : Int)])
abbrev NEyes : List Str := ["state", "numbers", "eyes"]
theorem sc_call_eyesenough : FnScope NEyes ["state", "numbers"] (defScope s_call_eyesenough) := ⟨rfl, rfl, rfl, by decide +kernel, rfl, by decide +kernel, by decide +kernel⟩
theorem ok_call_eyesenough (T : Txt K mg) : DefOk P w K mg base 9 "call_eyesenough" ["state", "numbers"] (spC K preNo stepEyes) := by
  refine def_ok (F_call_eyesenough T) sc_call_eyesenough (fun _ _ _ _ _ _ us hl => match us, hl with | [_, _], _ => rfl) (fun vs H Q E h => by obtain ⟨_, _, _, _, _, _, _, _, rfl, _⟩ := h; rfl) fun f cdv A outer s H vs Q E hr h => ?_
  obtain ⟨p, dx, pt, b, X, a, d, ns, rfl, ok, S, tb, hb, nb, rfl, h⟩ := h
  have C := T.cl_State
  have fw := ok.few
  refine ⟨_, pss_cons (ps_if (pt_val (pe_callB (cr_any (by rfl)) (by rfl) T.b_any (by decide +kernel) (pa_cons
              (pe_lc (own := [("eyes", 2)]) (g := gName 2) (tt := tYes) (by rfl) sc_call_eyesenough.nd (pi_range1 (by rfl) T.b_range (pa_cons pe_int pa_nil)) (blkOk_by (N := NEyes) (sc := defScope s_call_eyesenough) (own := [("eyes", 2)]) (by decide +kernel))
                (fun _ _ _ _ _ => pg_name (i := 2) sc_call_eyesenough.nd rfl (Or.inl rfl)) (fun _ _ _ _ _ => pts_nil) (fun _ _ _ _ _ => pe_cd (ok_is_too_many T) (hr.mono (by decide)) (pa_cons (pe_md (He.ga K "State") (ok_field_with T) T.cl_State (hr.mono (by decide)) (pv 0) (pa_cons (pv 2) pa_nil)) pa_nil))) pa_nil)))
      (pss_one (ps_ret (pe_cd0 (ok_too_many_rules T) (hr.mono (by decide))))) pss_nil)
    (pss_cons (ps_for PassesOwn.never rfl (pi_tup (pe_tup (pa_cons pe_int (pa_cons pe_int (pa_cons pe_int pa_nil))))) (pg_name (i := 2) sc_call_eyesenough.nd rfl (Or.inl rfl))
      (pss_one (ps_if (pt_cmpR op_notN (pe_cd (ok_first_good T) (hr.mono (by decide)) (pa_cons (pe_md (He.ga K "State") (ok_State_trials T) T.cl_State hr (pv 0) (pa_cons (pv 2) (pa_cons (pe_fld (pv 0) rfl) pa_nil))) (pa_cons (pe_fld (pv 0) rfl) pa_nil))) pe_non (nomark _)) (pss_one (ps_ret (pe_lst (pa_cons (pv 2) pa_nil)))) pss_nil)))
    (pss_one (ps_ret (pe_cd0 (ok_none_is_good T) (hr.mono (by decide)))))), ?_⟩
  refine ⟨_, rfl, by decide, by decide, fun D hD => ?_⟩
  refine lc_range (lo := 0) (n := 3) (fun i H' => Same H H' ∧ H' D = some (.lst (((List.range i).map (manyE d)).map V.bl))) ⟨Same.new (Same.refl H) hD, upd_same⟩ (fun i H1 hi ⟨s1, d1⟩ => ?_) fun H1 ⟨s1, d1⟩ => ?_
  · obtain ⟨S1, st1⟩ := S.same s1
    refine ⟨rfl, yesT ⟨_, rfl, p, dx, _, rfl, S1.rd.obj, rfl, _, rfl, p, dx, a.fa, a.pr, a.pm, a.pp, pt, i, d, by rw [Int.zero_add]; rfl, ok, S1.rd, by omega, fun H2 q s2 hq F2 => ?_⟩⟩
    refine ⟨q, d.n, i, d.k, rfl, F2, _, s2 _ _ d1, ?_, Same.at_ (Same.trans s1 s2) hD, ?_⟩
    · rw [List.length_map, List.length_map, List.length_range]
      exact Nat.lt_of_le_of_lt (show i ≤ 3 by omega) (by decide)
    · rw [upd_same, List.range_succ, List.map_append, List.map_append]
      rfl
  obtain ⟨S1, st1⟩ := S.same s1
  refine ⟨D, (List.range 3).map (manyE d), rfl, SqL.of d1, _, rfl, ?_⟩
  unfold stepEyes at h
  by_cases c : ((List.range 3).map (manyE d)).any id = true
  · rw [if_pos c] at h
    refine ifTb c ⟨rfl, fun q hq => ?_⟩
    obtain ⟨S2, st2⟩ := S1.same (Same.new (o := .lst [.int (-28)]) (Same.refl _) hq)
    exact h _ a q S2 (st1.trans st2) upd_same
  rw [if_neg c] at h
  have hN : ∀ e, e < 3 → prodN (evensM d.n e d.k) ≤ 6000 := fun e he => by
    refine Nat.le_of_not_lt fun z => c (List.any_eq_true.mpr ⟨true, List.mem_map.mpr ⟨e, List.mem_range.mpr he, decide_eq_true z⟩, rfl⟩)
  refine ifFb (by rw [← Bool.not_eq_true]; exact c) ?_
  refine ⟨by show 3 ≤ sizeLine; decide, fun t ht => ?_⟩
  have t2 : upd H1 t (.tup [.int 2, .int 1, .int 0]) t = some (.tup (vN [2, 1, 0])) := upd_same
  have s2 : Same H1 (upd H1 t (.tup [.int 2, .int 1, .int 0])) := Same.new (Same.refl H1) ht
  have nt := S1.notmut ht
  refine ⟨t, rfl, ⟨_, SqT.of t2⟩, ?_⟩
  generalize upd H1 t (.tup [.int 2, .int 1, .int 0]) = H2 at s2 t2
  obtain ⟨S2, st2⟩ := S1.same s2
  refine for_tup (K := K) (a := t) (xs := vN [2, 1, 0]) (fun i σ H' => ∃ a' v2, σ = [some (.ref p), some (.ref b), v2] ∧ StAt K H' p dx pt X a' d ∧ Step K H2 H' p pt a a' ∧ ∀ e ∈ [2, 1, 0].take i, goodE d e = false)
    ⟨a, _, rfl, S2, Step.of (Same.refl H2), (fun _ z => nomatch z)⟩ (fun i σ H' _ ⟨a', v2, _, _, st', _⟩ => SqT.of (st'.but _ _ t2 nt (fun _ z => nomatch z))) ?_ ?_
  · rintro i x σ H3 hx ⟨a3, v2, rfl, S3, st3, hg⟩
    obtain ⟨e, he, rfl⟩ := vN_at hx
    have e2 : e ≤ 2 := by
      have := List.mem_of_getElem? he
      simp only [List.mem_cons, List.not_mem_nil, or_false] at this
      omega
    have hNe := hN e (by omega)
    refine ⟨_, rfl, p, dx, _, rfl, S3.rd.obj, rfl, _, rfl, _, rfl, p, _, dx, _, _, rfl, S3.rd.obj, C, T.n_State_moves, rfl, p, dx, pt, X, a3, d, e, d.m, rfl, ok, S3, e2, ok.m2, hNe, fun H4 a4 q4 as S4 st4 z4 t4 => ?_⟩
    refine ⟨_, rfl, p, _, dx, _, _, rfl, S4.rd.obj, C, T.n_State_marked, rfl, q4, a4.pm, as, trialsM d.n e d.k (d.m : Int), d.ms, rfl, z4, t4, trials_few hNe, S4.rd.marked, by omega, fun H5 v s5 hv => ⟨rfl, _, rfl, ?_⟩⟩
    obtain ⟨S5, st5⟩ := S4.same s5
    cases hf : firstGood (trialsM d.n e d.k (d.m : Int)) d.ms with
    | none =>
      have hv : v = .non := by rw [hf] at hv; exact hv
      refine ifFb (by rw [hv]; rfl) ⟨a4, _, rfl, S5, (st3.trans st4).trans st5, fun u hu => ?_⟩
      rw [take_snoc he] at hu
      rcases List.mem_append.mp hu with hu | hu
      · exact hg u hu
      · rw [List.mem_singleton.mp hu]
        unfold goodE
        rw [hf]
        rfl
    | some r =>
      obtain ⟨q5, e5, _⟩ : ∃ q, v = .ref q ∧ H5 q = some (.tup (vI r)) := by rw [hf] at hv; exact hv
      have ge : goodE d e = true := by
        unfold goodE
        rw [hf]
        rfl
      have fe : [2, 1, 0].find? (goodE d) = some e := by
        have hd : ([2, 1, 0] : List Nat) = [2, 1, 0].take i ++ e :: [2, 1, 0].drop (i + 1) := by
          have h1 := List.take_append_drop i [2, 1, 0]
          have hlt := (List.getElem?_eq_some_iff.mp he).1
          have h2 := List.drop_eq_getElem_cons hlt
          have h3 : ([2, 1, 0] : List Nat)[i] = e := (List.getElem?_eq_some_iff.mp he).2
          rw [h3] at h2
          rw [h2] at h1
          exact h1.symm
        rw [hd, List.find?_append, List.find?_eq_none.mpr fun u hu => by rw [hg u hu]; decide, Option.none_or, List.find?_cons, ge]
      rw [fe] at h
      refine ifTb (by rw [e5]; rfl) ⟨_, rfl, by show 1 ≤ sizeLine; decide, fun q hq => ?_⟩
      obtain ⟨S6, st6⟩ := S5.same (Same.new (o := .lst [.int (e : Int)]) (Same.refl _) hq)
      exact h _ a4 q S6 (((((st1.trans st2).trans st3).trans st4).trans st5).trans st6) upd_same
  · rintro σ H3 ⟨a3, v2, rfl, S3, st3, hg⟩
    have fe : [2, 1, 0].find? (goodE d) = none := List.find?_eq_none.mpr fun u hu => by rw [hg u hu]; decide
    rw [fe] at h
    refine ⟨rfl, fun q hq => ?_⟩
    obtain ⟨S6, st6⟩ := S3.same (Same.new (o := .lst [.int (-33)]) (Same.refl _) hq)
    exact h _ a3 q S6 (((st1.trans st2).trans st3).trans st6) upd_same
end
end RG
namespace RG
open PySem PySem.Spec PyProof.Rows L2
open LamX (Tabs ExtN TabB)
section
variable {P : Program} {w : World} {K : PySem.W.Frag} {mg : Str → Option Value} {base : Heap}
/-- a new list that others write -/
theorem StAt.addX {H : Hp} {p dx pt D : Addr} {X : List Addr} {a : Ad} {d : StD} {o : HO} (S : StAt K H p dx pt X a d) (hD : H D = none) (ho : Loose o) : StAt K (upd H D o) p dx pt (D :: X) a d := by
  have s : Same H (upd H D o) := Same.new (Same.refl H) hD
  have nm := S.notmut hD
  refine ⟨S.rd.same s, fun H' b => S.stat H' fun c u hc hn ht => b c u (s c u hc) (fun z => ?_) ht, s _ _ S.tried, S.keys, S.ne, fun x hx => ?_, fun x hx => ?_⟩
  · rcases List.mem_append.mp z with z | z
    · exact hn (List.mem_append_left _ z)
    · rcases List.mem_cons.mp z with z | z
      · rw [z, hD] at hc
        cases hc
      · exact hn (List.mem_append_right _ z)
  · rcases List.mem_cons.mp hx with e | hx
    · rw [e]
      simp only [List.mem_cons, List.not_mem_nil, or_false, not_or] at nm
      exact nm
    · exact S.out x hx
  · rcases List.mem_cons.mp hx with e | hx
    · rw [e]
      exact ⟨o, upd_same, ho⟩
    · obtain ⟨u, hu, lu⟩ := S.old x hx
      exact ⟨u, s _ _ hu, lu⟩
theorem StAt.dropX {H : Hp} {p dx pt D : Addr} {X : List Addr} {a : Ad} {d : StD} (S : StAt K H p dx pt (D :: X) a d) : StAt K H p dx pt X a d :=
  ⟨S.rd, fun H' b => S.stat H' (ButM.mono (fun x hx => by
    rcases List.mem_append.mp hx with z | z
    · exact List.mem_append_left _ z
    · exact List.mem_append_right _ (List.mem_cons_of_mem _ z)) b), S.tried, S.keys, S.ne, fun x hx => S.out x (List.mem_cons_of_mem _ hx), fun x hx => S.old x (List.mem_cons_of_mem _ hx)⟩
theorem StAt.updX {H : Hp} {p dx pt D : Addr} {X : List Addr} {a : Ad} {d : StD} {o : HO} (S : StAt K H p dx pt X a d) (hD : D ∈ X) (ho : Loose o) : StAt K (upd H D o) p dx pt X a d := by
  obtain ⟨n1, n2, n3, n4⟩ := S.out D hD
  have bt : ButM (mut4 p pt a ++ X) H (upd H D o) := ButM.at_ ButM.refl (.inr (List.mem_append_right _ hD))
  obtain ⟨f, m, _⟩ := S.stat _ bt
  refine ⟨⟨by rw [upd_ne n1.symm]; exact S.rd.obj, f, by rw [upd_ne n2.symm]; exact S.rd.rule, m, by rw [upd_ne n3.symm]; exact S.rd.past⟩, fun H' b => S.stat H' (bt.trans b), by rw [upd_ne n4.symm]; exact S.tried, S.keys, S.ne, S.out, fun x hx => ?_⟩
  by_cases c : x = D
  · rw [c]
    exact ⟨o, upd_same, ho⟩
  · rw [upd_ne c]
    exact S.old x hx
/-- a write where nothing stood before -/
theorem Step.updX {H H' : Hp} {p pt D : Addr} {a a' : Ad} {xs : List V} {o : HO} (s : Step K H H' p pt a a') (hD : H D = none) (h' : H' D = some (.lst xs)) (ho : ∀ ps, o ≠ .tbl ps) : Step K H (upd H' D o) p pt a a' := by
  refine ⟨ButM.at_ s.but (.inl hD), s.dom.upd ho, s.pr, s.pp, fun t => tabs_but (ws := [D]) (ButD.at_ ButD.refl (.inr (List.mem_singleton.mpr rfl))) (fun x hx u hu => ?_) (s.tabs t)⟩
  rw [List.mem_singleton.mp hx, h'] at hu
  cases hu
  exact ⟨(fun _ z => nomatch z), fun _ z => nomatch z⟩
noncomputable def howE (d : StD) (m : Nat) : Int := howGood (trialsM d.n d.e d.k (m : Int)) d.ms
noncomputable def stepAllat (d : StD) (_ : List Nat) : StD × List Int := if manyD d = true then (d, [-28]) else (d, [howE d 0, howE d 1, howE d 2])
abbrev NAllat : List Str := ["state", "numbers", "moves"]
theorem sc_call_allat : FnScope NAllat ["state", "numbers"] (defScope s_call_allat) := ⟨rfl, rfl, rfl, by decide +kernel, rfl, by decide +kernel, by decide +kernel⟩
theorem ok_call_allat (T : Txt K mg) : DefOk P w K mg base 9 "call_allat" ["state", "numbers"] (spC K preNo stepAllat) := by
  refine def_ok (F_call_allat T) sc_call_allat (fun _ _ _ _ _ _ us hl => match us, hl with | [_, _], _ => rfl) (fun vs H Q E h => by obtain ⟨_, _, _, _, _, _, _, _, rfl, _⟩ := h; rfl) fun f cdv A outer s H vs Q E hr h => ?_
  obtain ⟨p, dx, pt, b, X, a, d, ns, rfl, ok, S, tb, hb, nb, rfl, h⟩ := h
  have C := T.cl_State
  have fw := ok.few
  refine ⟨_, pss_cons (ps_if (pt_val (pe_cd (ok_is_too_many T) (hr.mono (by decide)) (pa_cons (pe_fld (pv 0) rfl) pa_nil))) (pss_one (ps_ret (pe_cd0 (ok_too_many_rules T) (hr.mono (by decide))))) pss_nil)
    (pss_one (ps_ret (pe_lc (own := [("moves", 2)]) (g := gName 2) (tt := tYes) (by rfl) sc_call_allat.nd (pi_range1 (by rfl) T.b_range (pa_cons pe_int pa_nil)) (blkOk_by (N := NAllat) (sc := defScope s_call_allat) (own := [("moves", 2)]) (by decide +kernel))
                (fun _ _ _ _ _ => pg_name (i := 2) sc_call_allat.nd rfl (Or.inl rfl)) (fun _ _ _ _ _ => pts_nil) (fun _ _ _ _ _ => pe_cd (ok_how_many_good T) (hr.mono (by decide)) (pa_cons (pe_md (He.ga K "State") (ok_State_trials T) T.cl_State hr (pv 0) (pa_cons (pe_fldK K (pe_fldK K (pv 0) rfl) rfl) (pa_cons (pv 2) pa_nil))) (pa_cons (pe_fldK K (pv 0) rfl) pa_nil)))))), ?_⟩
  refine ⟨_, rfl, p, _, dx, _, _, rfl, S.rd.obj, C, T.n_State_field, rfl, a.fa, d.n, d.e, d.k, rfl, S.rd.field, _, rfl, ?_⟩
  unfold stepAllat at h
  by_cases c : manyD d = true
  · rw [if_pos c] at h
    refine ifTb c ⟨rfl, fun q hq => ?_⟩
    obtain ⟨S2, st2⟩ := S.same (Same.new (o := .lst [.int (-28)]) (Same.refl _) hq)
    exact h _ a q S2 st2 upd_same
  rw [if_neg c] at h
  have hN : prodN (evensM d.n d.e d.k) ≤ 6000 := by
    have : ¬ 6000 < prodN (evensM d.n d.e d.k) := fun z => c (decide_eq_true z)
    omega
  refine ifFb (by rw [← Bool.not_eq_true]; exact c) ?_
  refine ⟨_, rfl, by decide, by decide, fun D hD => ?_⟩
  refine lc_range (lo := 0) (n := 3) (fun i H' => ∃ a', StAt K H' p dx pt (D :: X) a' d ∧ Step K H H' p pt a a' ∧ H' D = some (.lst (vI ((List.range i).map (howE d))))) ⟨a, S.addX hD (.inl ⟨[], rfl⟩), Step.of (Same.new (Same.refl H) hD), upd_same⟩ (fun i H1 hi ⟨a1, S1, st1, d1⟩ => ?_) fun H1 ⟨a1, S1, st1, d1⟩ => ?_
  · obtain ⟨dy, pn, pq, ps, pz, pe, pv', ha, fp⟩ := id S1.rd.field
    have nD : D ∉ mut4 p pt a1 := by
      obtain ⟨n1, n2, n3, n4⟩ := S1.out D List.mem_cons_self
      simp only [List.mem_cons, List.not_mem_nil, or_false, not_or]
      exact ⟨n1, n2, n3, n4⟩
    refine ⟨rfl, yesT ⟨_, rfl, p, dx, _, rfl, S1.rd.obj, rfl, _, rfl, p, _, dx, _, _, rfl, S1.rd.obj, C, T.n_State_field, rfl, a1.fa, _, dy, _, _, rfl, ha, T.cl_Field, T.n_Field_eyes, rfl, _, rfl, p, dx, pt, D :: X, a1, d, d.e, i, by rw [Int.zero_add]; rfl, ok, S1, ok.dims.e2, by omega, hN, fun H2 a2 q as S2 st2 z2 t2 => ?_⟩⟩
    refine ⟨_, rfl, p, _, dx, _, _, rfl, S2.rd.obj, C, T.n_State_marked, rfl, q, a2.pm, as, trialsM d.n d.e d.k (i : Int), d.ms, rfl, z2, t2, trials_few hN, S2.rd.marked, by omega, fun H3 s3 => ?_⟩
    obtain ⟨S3, st3⟩ := S2.same s3
    have d3 : H3 D = some (.lst (vI ((List.range i).map (howE d)))) := s3 _ _ (st2.but _ _ d1 nD (fun _ z => nomatch z))
    have e3 : vI ((List.range i).map (howE d)) ++ [V.int (howE d i)] = vI ((List.range (i + 1)).map (howE d)) := by
      rw [List.range_succ, List.map_append]
      unfold vI
      rw [List.map_append]
      rfl
    refine ⟨_, d3, ?_, a2, ?_, ?_, ?_⟩
    · rw [vI_len, List.length_map, List.length_range]
      exact Nat.lt_of_le_of_lt (show i ≤ 3 by omega) (by decide)
    · exact S3.updX List.mem_cons_self (.inl ⟨_, congrArg HO.lst e3⟩)
    · exact ((st1.trans st2).trans st3).updX hD d3 (fun _ z => nomatch z)
    · rw [upd_same]
      exact congrArg (fun z => some (HO.lst z)) e3
  · exact h H1 a1 D S1.dropX st1 d1
end
end RG
namespace RG
open PySem PySem.Spec PyProof.Rows L2
open LamX (Tabs ExtN TabB)
/-! ### which def answers a call -/
def adr (mg : Str → Option Value) (x : Str) : Addr := match mg x with
  | some (.ref f) => f
  | _ => 0
section
variable {P : Program} {w : World} {K : PySem.W.Frag} {mg : Str → Option Value} {base : Heap}
theorem adr_ok {k : Nat} {x : Str} {ps : List Str} {sp : Sp} (D : DefOk P w K mg base k x ps sp) : mg x = some (.ref (adr mg x)) := by
  obtain ⟨f, fd, g, _⟩ := D
  unfold adr
  rw [g]
theorem held_ok {k : Nat} {x : Str} {ps : List Str} {sp : Sp} (D : DefOk P w K mg base k x ps sp) (h : k ≤ 11) : Held P w K mg base 11 (adr mg x) sp := by
  have e := adr_ok D
  obtain ⟨f, fd, g, kp, b, F⟩ := D
  rw [g] at e
  injection e with e
  injection e with e
  rw [← e]
  exact ⟨fd, ps, F.mono h, kp, b⟩
def ansN : List Str := ("call_begin" : Str) :: ("call_at" : Str) :: ("call_names" : Str) :: ("call_name" : Str) :: ("call_place" : Str) :: ("call_ring" : Str) :: ("call_sees" : Str) :: ("call_view" : Str) :: ("call_set" : Str) :: ("call_rule" : Str) :: ("call_next" : Str) :: ("call_go" : Str) :: ("call_against" : Str) :: ("call_helped" : Str) :: ("call_run" : Str) :: ("call_runhelped" : Str) :: ("call_back" : Str) :: ("call_past" : Str) :: ("call_rest" : Str) :: ("call_sure" : Str) :: ("call_longest" : Str) :: ("call_soonest" : Str) :: ("call_mark" : Str) :: ("call_unmark" : Str) :: ("call_markapart" : Str) :: ("call_marks" : Str) :: ("call_good" : Str) :: ("call_ifset" : Str) :: ("call_found" : Str) :: ("call_take" : Str) :: ("call_best" : Str) :: ("call_why" : Str) :: ("call_eyesenough" : Str) :: ("call_allat" : Str) :: ("call_told" : Str) :: []
def spL (K : PySem.W.Frag) : List Sp := spBeginC K :: spC K preOne stepAt :: spC K preNo stepNames :: spC K preOne stepName :: spC K preOne stepPlace :: spC K preNo stepRing :: spC K preNo stepSees :: spC K preOne stepView :: spC K preTwo stepSet :: spC K preNo stepRule :: spC K preNo stepNext :: spC K preOne stepGo :: spC K preNo stepAgainst :: spC K preNo stepHelped :: spC K preOne stepRun :: spC K preOne stepRunHelped :: spC K preNo stepBack :: spC K preNo stepPast :: spC K preNo stepRest :: spC K preNo stepSure :: spC K preNo stepLongest :: spC K preNo stepSoonest :: spC K preOne stepMark :: spC K preOne stepUnmark :: spC K preNo stepMarkApart :: spC K preNo stepMarks :: spC K preNo stepGood :: spC K preTwo stepIfset :: spC K preNo stepFound :: spC K preNo stepTake :: spC K preNo stepBest :: spC K preNo stepWhy :: spC K preNo stepEyes :: spC K preNo stepAllat :: spC K preNo stepTold :: []
theorem held_all (T : Txt K mg) (B : TB K mg base) : Paired (fun x sp => mg x = some (.ref (adr mg x)) ∧ Held P w K mg base 11 (adr mg x) sp) ansN (spL K) :=
  .cons ⟨adr_ok (P := P) (w := w) (base := base) (ok_call_begin T), held_ok (ok_call_begin T) (by decide)⟩ (.cons ⟨adr_ok (P := P) (w := w) (base := base) (ok_call_at T), held_ok (ok_call_at T) (by decide)⟩ (.cons ⟨adr_ok (P := P) (w := w) (base := base) (ok_call_names T), held_ok (ok_call_names T) (by decide)⟩ (.cons ⟨adr_ok (P := P) (w := w) (base := base) (ok_call_name T), held_ok (ok_call_name T) (by decide)⟩ (.cons ⟨adr_ok (P := P) (w := w) (base := base) (ok_call_place T), held_ok (ok_call_place T) (by decide)⟩ (.cons ⟨adr_ok (P := P) (w := w) (base := base) (ok_call_ring T), held_ok (ok_call_ring T) (by decide)⟩ (.cons ⟨adr_ok (P := P) (w := w) (base := base) (ok_call_sees T), held_ok (ok_call_sees T) (by decide)⟩ (.cons ⟨adr_ok (P := P) (w := w) (base := base) (ok_call_view T), held_ok (ok_call_view T) (by decide)⟩ (.cons ⟨adr_ok (P := P) (w := w) (base := base) (ok_call_set T), held_ok (ok_call_set T) (by decide)⟩ (.cons ⟨adr_ok (P := P) (w := w) (base := base) (ok_call_rule T), held_ok (ok_call_rule T) (by decide)⟩ (.cons ⟨adr_ok (P := P) (w := w) (base := base) (ok_call_next T), held_ok (ok_call_next T) (by decide)⟩ (.cons ⟨adr_ok (P := P) (w := w) (base := base) (ok_call_go T), held_ok (ok_call_go T) (by decide)⟩ (.cons ⟨adr_ok (P := P) (w := w) (base := base) (ok_call_against T B), held_ok (ok_call_against T B) (by decide)⟩ (.cons ⟨adr_ok (P := P) (w := w) (base := base) (ok_call_helped T B), held_ok (ok_call_helped T B) (by decide)⟩ (.cons ⟨adr_ok (P := P) (w := w) (base := base) (ok_call_run T B), held_ok (ok_call_run T B) (by decide)⟩ (.cons ⟨adr_ok (P := P) (w := w) (base := base) (ok_call_runhelped T B), held_ok (ok_call_runhelped T B) (by decide)⟩ (.cons ⟨adr_ok (P := P) (w := w) (base := base) (ok_call_back T), held_ok (ok_call_back T) (by decide)⟩ (.cons ⟨adr_ok (P := P) (w := w) (base := base) (ok_call_past T), held_ok (ok_call_past T) (by decide)⟩ (.cons ⟨adr_ok (P := P) (w := w) (base := base) (ok_call_rest T), held_ok (ok_call_rest T) (by decide)⟩ (.cons ⟨adr_ok (P := P) (w := w) (base := base) (ok_call_sure T), held_ok (ok_call_sure T) (by decide)⟩ (.cons ⟨adr_ok (P := P) (w := w) (base := base) (ok_call_longest T), held_ok (ok_call_longest T) (by decide)⟩ (.cons ⟨adr_ok (P := P) (w := w) (base := base) (ok_call_soonest T), held_ok (ok_call_soonest T) (by decide)⟩ (.cons ⟨adr_ok (P := P) (w := w) (base := base) (ok_call_mark T), held_ok (ok_call_mark T) (by decide)⟩ (.cons ⟨adr_ok (P := P) (w := w) (base := base) (ok_call_unmark T), held_ok (ok_call_unmark T) (by decide)⟩ (.cons ⟨adr_ok (P := P) (w := w) (base := base) (ok_call_markapart T), held_ok (ok_call_markapart T) (by decide)⟩ (.cons ⟨adr_ok (P := P) (w := w) (base := base) (ok_call_marks T), held_ok (ok_call_marks T) (by decide)⟩ (.cons ⟨adr_ok (P := P) (w := w) (base := base) (ok_call_good T), held_ok (ok_call_good T) (by decide)⟩ (.cons ⟨adr_ok (P := P) (w := w) (base := base) (ok_call_ifset T), held_ok (ok_call_ifset T) (by decide)⟩ (.cons ⟨adr_ok (P := P) (w := w) (base := base) (ok_call_found T), held_ok (ok_call_found T) (by decide)⟩ (.cons ⟨adr_ok (P := P) (w := w) (base := base) (ok_call_take T), held_ok (ok_call_take T) (by decide)⟩ (.cons ⟨adr_ok (P := P) (w := w) (base := base) (ok_call_best T), held_ok (ok_call_best T) (by decide)⟩ (.cons ⟨adr_ok (P := P) (w := w) (base := base) (ok_call_why T), held_ok (ok_call_why T) (by decide)⟩ (.cons ⟨adr_ok (P := P) (w := w) (base := base) (ok_call_eyesenough T), held_ok (ok_call_eyesenough T) (by decide)⟩ (.cons ⟨adr_ok (P := P) (w := w) (base := base) (ok_call_allat T), held_ok (ok_call_allat T) (by decide)⟩ (.cons ⟨adr_ok (P := P) (w := w) (base := base) (ok_call_told T), held_ok (ok_call_told T) (by decide)⟩ .nil))))))))))))))))))))))))))))))))))
abbrev vF (mg : Str → Option Value) (l : List Str) : List V := l.map fun x => V.ref (adr mg x)
def spAnsOf (mg : Str → Option Value) : Sp := fun vs H Q _ => ∃ (c : Nat) (x : Str), vs = [.int (c : Int)] ∧ ansN[c]? = some x ∧ ∀ H', Same H H' → Q (.ref (adr mg x)) H'
theorem sc_answerer_of : FnScope ["call", "answerers"] ["call"] (defScope s_answerer_of) := ⟨rfl, rfl, rfl, by decide +kernel, rfl, by decide +kernel, by decide +kernel⟩
theorem ok_answerer_of (T : Txt K mg) (B : TB K mg base) : DefOk P w K mg base 1 "answerer_of" ["call"] (spAnsOf mg) := by
  refine def_ok (F_answerer_of T) sc_answerer_of (fun _ _ _ _ _ _ us hl => match us, hl with | [_], _ => rfl) (fun vs H Q E h => by obtain ⟨_, _, rfl, _⟩ := h; rfl) fun f cdv A outer s H vs Q E hr h => ?_
  obtain ⟨c, x, rfl, hx, h⟩ := h
  have A0 := held_all (P := P) (w := w) T B
  have g0 : mg "call_begin" = some (.ref (adr mg "call_begin")) := (adr_ok (P := P) (w := w) (base := base) (ok_call_begin T))
  have g1 : mg "call_at" = some (.ref (adr mg "call_at")) := (adr_ok (P := P) (w := w) (base := base) (ok_call_at T))
  have g2 : mg "call_names" = some (.ref (adr mg "call_names")) := (adr_ok (P := P) (w := w) (base := base) (ok_call_names T))
  have g3 : mg "call_name" = some (.ref (adr mg "call_name")) := (adr_ok (P := P) (w := w) (base := base) (ok_call_name T))
  have g4 : mg "call_place" = some (.ref (adr mg "call_place")) := (adr_ok (P := P) (w := w) (base := base) (ok_call_place T))
  have g5 : mg "call_ring" = some (.ref (adr mg "call_ring")) := (adr_ok (P := P) (w := w) (base := base) (ok_call_ring T))
  have g6 : mg "call_sees" = some (.ref (adr mg "call_sees")) := (adr_ok (P := P) (w := w) (base := base) (ok_call_sees T))
  have g7 : mg "call_view" = some (.ref (adr mg "call_view")) := (adr_ok (P := P) (w := w) (base := base) (ok_call_view T))
  have g8 : mg "call_set" = some (.ref (adr mg "call_set")) := (adr_ok (P := P) (w := w) (base := base) (ok_call_set T))
  have g9 : mg "call_rule" = some (.ref (adr mg "call_rule")) := (adr_ok (P := P) (w := w) (base := base) (ok_call_rule T))
  have g10 : mg "call_next" = some (.ref (adr mg "call_next")) := (adr_ok (P := P) (w := w) (base := base) (ok_call_next T))
  have g11 : mg "call_go" = some (.ref (adr mg "call_go")) := (adr_ok (P := P) (w := w) (base := base) (ok_call_go T))
  have g12 : mg "call_against" = some (.ref (adr mg "call_against")) := (adr_ok (P := P) (w := w) (base := base) (ok_call_against T B))
  have g13 : mg "call_helped" = some (.ref (adr mg "call_helped")) := (adr_ok (P := P) (w := w) (base := base) (ok_call_helped T B))
  have g14 : mg "call_run" = some (.ref (adr mg "call_run")) := (adr_ok (P := P) (w := w) (base := base) (ok_call_run T B))
  have g15 : mg "call_runhelped" = some (.ref (adr mg "call_runhelped")) := (adr_ok (P := P) (w := w) (base := base) (ok_call_runhelped T B))
  have g16 : mg "call_back" = some (.ref (adr mg "call_back")) := (adr_ok (P := P) (w := w) (base := base) (ok_call_back T))
  have g17 : mg "call_past" = some (.ref (adr mg "call_past")) := (adr_ok (P := P) (w := w) (base := base) (ok_call_past T))
  have g18 : mg "call_rest" = some (.ref (adr mg "call_rest")) := (adr_ok (P := P) (w := w) (base := base) (ok_call_rest T))
  have g19 : mg "call_sure" = some (.ref (adr mg "call_sure")) := (adr_ok (P := P) (w := w) (base := base) (ok_call_sure T))
  have g20 : mg "call_longest" = some (.ref (adr mg "call_longest")) := (adr_ok (P := P) (w := w) (base := base) (ok_call_longest T))
  have g21 : mg "call_soonest" = some (.ref (adr mg "call_soonest")) := (adr_ok (P := P) (w := w) (base := base) (ok_call_soonest T))
  have g22 : mg "call_mark" = some (.ref (adr mg "call_mark")) := (adr_ok (P := P) (w := w) (base := base) (ok_call_mark T))
  have g23 : mg "call_unmark" = some (.ref (adr mg "call_unmark")) := (adr_ok (P := P) (w := w) (base := base) (ok_call_unmark T))
  have g24 : mg "call_markapart" = some (.ref (adr mg "call_markapart")) := (adr_ok (P := P) (w := w) (base := base) (ok_call_markapart T))
  have g25 : mg "call_marks" = some (.ref (adr mg "call_marks")) := (adr_ok (P := P) (w := w) (base := base) (ok_call_marks T))
  have g26 : mg "call_good" = some (.ref (adr mg "call_good")) := (adr_ok (P := P) (w := w) (base := base) (ok_call_good T))
  have g27 : mg "call_ifset" = some (.ref (adr mg "call_ifset")) := (adr_ok (P := P) (w := w) (base := base) (ok_call_ifset T))
  have g28 : mg "call_found" = some (.ref (adr mg "call_found")) := (adr_ok (P := P) (w := w) (base := base) (ok_call_found T))
  have g29 : mg "call_take" = some (.ref (adr mg "call_take")) := (adr_ok (P := P) (w := w) (base := base) (ok_call_take T))
  have g30 : mg "call_best" = some (.ref (adr mg "call_best")) := (adr_ok (P := P) (w := w) (base := base) (ok_call_best T))
  have g31 : mg "call_why" = some (.ref (adr mg "call_why")) := (adr_ok (P := P) (w := w) (base := base) (ok_call_why T))
  have g32 : mg "call_eyesenough" = some (.ref (adr mg "call_eyesenough")) := (adr_ok (P := P) (w := w) (base := base) (ok_call_eyesenough T))
  have g33 : mg "call_allat" = some (.ref (adr mg "call_allat")) := (adr_ok (P := P) (w := w) (base := base) (ok_call_allat T))
  have g34 : mg "call_told" = some (.ref (adr mg "call_told")) := (adr_ok (P := P) (w := w) (base := base) (ok_call_told T))
  refine ⟨_, pss_cons (ps_set (i := 1) sc_answerer_of.nd rfl (Or.inl rfl) (pe_tup (pa_cons (pe_glob (v := .ref (adr mg "call_begin")) (by rfl) g0 rfl) (pa_cons (pe_glob (v := .ref (adr mg "call_at")) (by rfl) g1 rfl) (pa_cons (pe_glob (v := .ref (adr mg "call_names")) (by rfl) g2 rfl) (pa_cons (pe_glob (v := .ref (adr mg "call_name")) (by rfl) g3 rfl) (pa_cons (pe_glob (v := .ref (adr mg "call_place")) (by rfl) g4 rfl) (pa_cons (pe_glob (v := .ref (adr mg "call_ring")) (by rfl) g5 rfl) (pa_cons (pe_glob (v := .ref (adr mg "call_sees")) (by rfl) g6 rfl) (pa_cons (pe_glob (v := .ref (adr mg "call_view")) (by rfl) g7 rfl) (pa_cons (pe_glob (v := .ref (adr mg "call_set")) (by rfl) g8 rfl) (pa_cons (pe_glob (v := .ref (adr mg "call_rule")) (by rfl) g9 rfl) (pa_cons (pe_glob (v := .ref (adr mg "call_next")) (by rfl) g10 rfl) (pa_cons (pe_glob (v := .ref (adr mg "call_go")) (by rfl) g11 rfl) (pa_cons (pe_glob (v := .ref (adr mg "call_against")) (by rfl) g12 rfl) (pa_cons (pe_glob (v := .ref (adr mg "call_helped")) (by rfl) g13 rfl) (pa_cons (pe_glob (v := .ref (adr mg "call_run")) (by rfl) g14 rfl) (pa_cons (pe_glob (v := .ref (adr mg "call_runhelped")) (by rfl) g15 rfl) (pa_cons (pe_glob (v := .ref (adr mg "call_back")) (by rfl) g16 rfl) (pa_cons (pe_glob (v := .ref (adr mg "call_past")) (by rfl) g17 rfl) (pa_cons (pe_glob (v := .ref (adr mg "call_rest")) (by rfl) g18 rfl) (pa_cons (pe_glob (v := .ref (adr mg "call_sure")) (by rfl) g19 rfl) (pa_cons (pe_glob (v := .ref (adr mg "call_longest")) (by rfl) g20 rfl) (pa_cons (pe_glob (v := .ref (adr mg "call_soonest")) (by rfl) g21 rfl) (pa_cons (pe_glob (v := .ref (adr mg "call_mark")) (by rfl) g22 rfl) (pa_cons (pe_glob (v := .ref (adr mg "call_unmark")) (by rfl) g23 rfl) (pa_cons (pe_glob (v := .ref (adr mg "call_markapart")) (by rfl) g24 rfl) (pa_cons (pe_glob (v := .ref (adr mg "call_marks")) (by rfl) g25 rfl) (pa_cons (pe_glob (v := .ref (adr mg "call_good")) (by rfl) g26 rfl) (pa_cons (pe_glob (v := .ref (adr mg "call_ifset")) (by rfl) g27 rfl) (pa_cons (pe_glob (v := .ref (adr mg "call_found")) (by rfl) g28 rfl) (pa_cons (pe_glob (v := .ref (adr mg "call_take")) (by rfl) g29 rfl) (pa_cons (pe_glob (v := .ref (adr mg "call_best")) (by rfl) g30 rfl) (pa_cons (pe_glob (v := .ref (adr mg "call_why")) (by rfl) g31 rfl) (pa_cons (pe_glob (v := .ref (adr mg "call_eyesenough")) (by rfl) g32 rfl) (pa_cons (pe_glob (v := .ref (adr mg "call_allat")) (by rfl) g33 rfl) (pa_cons (pe_glob (v := .ref (adr mg "call_told")) (by rfl) g34 rfl) pa_nil)))))))))))))))))))))))))))))))))))))
    (pss_one (ps_ret (pe_ix ix_tup (pv 1) (pv 0) (fun _ _ => rfl)))), ?_⟩
  refine ⟨by show 35 ≤ sizeLine; decide, fun t ht => ?_⟩
  have t1 : upd H t (.tup (vF mg ansN)) t = some (.tup (vF mg ansN)) := upd_same
  exact ⟨_, rfl, _, rfl, t, vF mg ansN, (c : Int), .ref (adr mg x), rfl, rfl, SqT.of t1, atI_nat (by rw [List.getElem?_map, hx]; rfl), h _ (Same.new (Same.refl H) ht)⟩
end
end RG
namespace RG
open PySem PySem.Spec PyProof.Rows L2
open LamX (Tabs ExtN TabB)
/-! ### any call -/
def preL : List (StD → List Nat → Prop) := preOne :: preNo :: preOne :: preOne :: preNo :: preNo :: preOne :: preTwo :: preNo :: preNo :: preOne :: preNo :: preNo :: preOne :: preOne :: preNo :: preNo :: preNo :: preNo :: preNo :: preNo :: preOne :: preOne :: preNo :: preNo :: preNo :: preTwo :: preNo :: preNo :: preNo :: preNo :: preNo :: preNo :: preNo :: []
noncomputable def stepL : List (StD → List Nat → StD × List Int) := stepAt :: stepNames :: stepName :: stepPlace :: stepRing :: stepSees :: stepView :: stepSet :: stepRule :: stepNext :: stepGo :: stepAgainst :: stepHelped :: stepRun :: stepRunHelped :: stepBack :: stepPast :: stepRest :: stepSure :: stepLongest :: stepSoonest :: stepMark :: stepUnmark :: stepMarkApart :: stepMarks :: stepGood :: stepIfset :: stepFound :: stepTake :: stepBest :: stepWhy :: stepEyes :: stepAllat :: stepTold :: []
def arL : List Nat := 1 :: 0 :: 1 :: 1 :: 0 :: 0 :: 1 :: 2 :: 0 :: 0 :: 1 :: 0 :: 0 :: 1 :: 1 :: 0 :: 0 :: 0 :: 0 :: 0 :: 0 :: 1 :: 1 :: 0 :: 0 :: 0 :: 2 :: 0 :: 0 :: 0 :: 0 :: 0 :: 0 :: 0 :: []
def arityM : List Nat := 4 :: arL
noncomputable def stepOf (c : Nat) : StD → List Nat → StD × List Int := stepL.getD c fun d _ => (d, [])
noncomputable def stepAll (M : Option StD) (c : Nat) (ns : List Nat) : Option StD × List Int := match c with
  | 0 => if 3 ≤ ns.getD 0 0 ∧ ns.getD 0 0 ≤ 7 ∧ ns.getD 1 0 ≤ 2 ∧ 1 ≤ ns.getD 2 0 ∧ ns.getD 2 0 ≤ 3 ∧ ns.getD 3 0 ≤ 2 then (some (beginD (ns.getD 0 0) (ns.getD 1 0) (ns.getD 2 0) (ns.getD 3 0)), [((viewsM (ns.getD 0 0) (ns.getD 1 0) (ns.getD 2 0)).length : Int)]) else (M, [-22])
  | c + 1 => match M with
    | none => (none, [-11])
    | some d => (some (stepOf c d ns).1, (stepOf c d ns).2)
theorem no_len {d : StD} {ns : List Nat} (h : ns.length = 0) : preNo d ns := List.length_eq_zero_iff.mp h
theorem one_len {d : StD} {ns : List Nat} (h : ns.length = 1) : preOne d ns := by
  match ns, h with
  | [x], _ => exact ⟨x, rfl⟩
theorem two_len {d : StD} {ns : List Nat} (h : ns.length = 2) : preTwo d ns := by
  match ns, h with
  | [x, y], _ => exact ⟨x, y, rfl⟩
theorem pre_all : Paired (fun (n : Nat) (pr : StD → List Nat → Prop) => ∀ d ns, ns.length = n → pr d ns) arL preL :=
  .cons (fun _ _ h => one_len h) (.cons (fun _ _ h => no_len h) (.cons (fun _ _ h => one_len h) (.cons (fun _ _ h => one_len h) (.cons (fun _ _ h => no_len h) (.cons (fun _ _ h => no_len h) (.cons (fun _ _ h => one_len h) (.cons (fun _ _ h => two_len h) (.cons (fun _ _ h => no_len h) (.cons (fun _ _ h => no_len h) (.cons (fun _ _ h => one_len h) (.cons (fun _ _ h => no_len h) (.cons (fun _ _ h => no_len h) (.cons (fun _ _ h => one_len h) (.cons (fun _ _ h => one_len h) (.cons (fun _ _ h => no_len h) (.cons (fun _ _ h => no_len h) (.cons (fun _ _ h => no_len h) (.cons (fun _ _ h => no_len h) (.cons (fun _ _ h => no_len h) (.cons (fun _ _ h => no_len h) (.cons (fun _ _ h => one_len h) (.cons (fun _ _ h => one_len h) (.cons (fun _ _ h => no_len h) (.cons (fun _ _ h => no_len h) (.cons (fun _ _ h => no_len h) (.cons (fun _ _ h => two_len h) (.cons (fun _ _ h => no_len h) (.cons (fun _ _ h => no_len h) (.cons (fun _ _ h => no_len h) (.cons (fun _ _ h => no_len h) (.cons (fun _ _ h => no_len h) (.cons (fun _ _ h => no_len h) (.cons (fun _ _ h => no_len h) .nil)))))))))))))))))))))))))))))))))
theorem spL_at (K : PySem.W.Frag) : ∀ {c : Nat}, c < 34 → ∃ pr st, preL[c]? = some pr ∧ stepL[c]? = some st ∧ (spL K)[c + 1]? = some (spC K pr st) := by
  have e : spL K = spBeginC K :: preL.zipWith (spC K) stepL := rfl
  intro c h
  have h1 : c < preL.length := h
  have h2 : c < stepL.length := h
  refine ⟨preL[c], stepL[c], List.getElem?_eq_getElem h1, List.getElem?_eq_getElem h2, ?_⟩
  rw [e, List.getElem?_cons_succ, List.getElem?_zipWith, List.getElem?_eq_getElem h1, List.getElem?_eq_getElem h2]
  rfl
section
variable {K : PySem.W.Frag} {H H' : Hp} {p dx pt : Addr} {X : List Addr} {a : Ad} {vf : V} {m : Nat}
theorem StB.same (S : StB K H p dx pt X a vf m) (s : Same H H') : StB K H' p dx pt X a vf m ∧ Step K H H' p pt a a := by
  have st : Step K H H' p pt a a := Step.of s
  obtain ⟨l1, r1⟩ := S.rule
  obtain ⟨l2, r2⟩ := S.past
  exact ⟨⟨s _ _ S.obj, ⟨l1, s _ _ r1⟩, ⟨l2, s _ _ r2⟩, s _ _ S.tried, gen_stat (Φ := fun H' => Entries K H' a.kvs) S.ent st, S.keys, S.ne, gen_out S.out S.old st, gen_old S.out S.old st⟩, st⟩
theorem StB.notmut (S : StB K H p dx pt X a vf m) {x : Addr} (hx : H x = none) : x ∉ mut4 p pt a := by
  obtain ⟨l1, r1⟩ := S.rule
  obtain ⟨l2, r2⟩ := S.past
  intro z
  simp only [List.mem_cons, List.not_mem_nil, or_false] at z
  rcases z with z | z | z | z
  · rw [z, S.obj] at hx; cases hx
  · rw [z, r1] at hx; cases hx
  · rw [z, r2] at hx; cases hx
  · rw [z, S.tried] at hx; cases hx
theorem StB.addX {D : Addr} {o : HO} (S : StB K H p dx pt X a vf m) (hD : H D = none) (ho : Loose o) : StB K (upd H D o) p dx pt (D :: X) a vf m := by
  have s : Same H (upd H D o) := Same.new (Same.refl H) hD
  have nm := S.notmut hD
  obtain ⟨l1, r1⟩ := S.rule
  obtain ⟨l2, r2⟩ := S.past
  refine ⟨s _ _ S.obj, ⟨l1, s _ _ r1⟩, ⟨l2, s _ _ r2⟩, s _ _ S.tried, fun H' b => S.ent H' fun c u hc hn ht => b c u (s c u hc) (fun z => ?_) ht, S.keys, S.ne, fun x hx => ?_, fun x hx => ?_⟩
  · rcases List.mem_append.mp z with z | z
    · exact hn (List.mem_append_left _ z)
    · rcases List.mem_cons.mp z with z | z
      · rw [z, hD] at hc
        cases hc
      · exact hn (List.mem_append_right _ z)
  · rcases List.mem_cons.mp hx with e | hx
    · rw [e]
      simp only [List.mem_cons, List.not_mem_nil, or_false, not_or] at nm
      exact nm
    · exact S.out x hx
  · rcases List.mem_cons.mp hx with e | hx
    · rw [e]
      exact ⟨o, upd_same, ho⟩
    · obtain ⟨u, hu, lu⟩ := S.old x hx
      exact ⟨u, s _ _ hu, lu⟩
theorem StB.updX {D : Addr} {o : HO} (S : StB K H p dx pt X a vf m) (hD : D ∈ X) (ho : Loose o) : StB K (upd H D o) p dx pt X a vf m := by
  obtain ⟨n1, n2, n3, n4⟩ := S.out D hD
  have bt : ButM (mut4 p pt a ++ X) H (upd H D o) := ButM.at_ ButM.refl (.inr (List.mem_append_right _ hD))
  obtain ⟨l1, r1⟩ := S.rule
  obtain ⟨l2, r2⟩ := S.past
  refine ⟨by rw [upd_ne n1.symm]; exact S.obj, ⟨l1, by rw [upd_ne n2.symm]; exact r1⟩, ⟨l2, by rw [upd_ne n3.symm]; exact r2⟩, by rw [upd_ne n4.symm]; exact S.tried, fun H' b => S.ent H' (bt.trans b), S.keys, S.ne, S.out, fun x hx => ?_⟩
  by_cases c : x = D
  · rw [c]
    exact ⟨o, upd_same, ho⟩
  · rw [upd_ne c]
    exact S.old x hx
/-- begun or not -/
def MAt (K : PySem.W.Frag) (H : Hp) (p dx pt : Addr) (X : List Addr) (a : Ad) : Option StD → Prop
  | none => StB K H p dx pt X a .non 0
  | some d => StAt K H p dx pt X a d
theorem MAt.stB {M : Option StD} (S : MAt K H p dx pt X a M) : ∃ vf m, StB K H p dx pt X a vf m := by
  cases M with
  | none => exact ⟨_, _, S⟩
  | some d => exact ⟨_, _, StAt.stB S⟩
theorem MAt.same {M : Option StD} (S : MAt K H p dx pt X a M) (s : Same H H') : MAt K H' p dx pt X a M ∧ Step K H H' p pt a a := by
  cases M with
  | none => exact StB.same S s
  | some d => exact StAt.same S s
theorem MAt.notmut {M : Option StD} (S : MAt K H p dx pt X a M) {x : Addr} (hx : H x = none) : x ∉ mut4 p pt a := by
  obtain ⟨_, _, B⟩ := S.stB
  exact B.notmut hx
theorem MAt.updX {M : Option StD} {D : Addr} {o : HO} (S : MAt K H p dx pt X a M) (hD : D ∈ X) (ho : Loose o) : MAt K (upd H D o) p dx pt X a M := by
  cases M with
  | none => exact StB.updX S hD ho
  | some d => exact StAt.updX S hD ho
end
section
variable {P : Program} {w : World} {K : PySem.W.Frag} {mg : Str → Option Value} {base : Heap}
def spAnswer (K : PySem.W.Frag) : Sp := fun vs H Q _ => ∃ (p dx pt b : Addr) (X : List Addr) (a : Ad) (M : Option StD) (c : Nat) (ns : List Nat), vs = [.ref p, .int (c : Int), .ref b] ∧ (∀ d, M = some d → StOk d) ∧ MAt K H p dx pt X a M ∧ Tabs (lamT K) H ∧ H b = some (.lst (vN ns)) ∧ b ∉ mut4 p pt a ∧ arityM[c]? = some ns.length ∧
  ∀ H' a' q, MAt K H' p dx pt X a' (stepAll M c ns).1 → Step K H H' p pt a a' → H' q = some (.lst (vI (stepAll M c ns).2)) → Q (.ref q) H'
abbrev NAns : List Str := ["state", "call", "numbers", "answerer"]
theorem sc_answer : FnScope NAns ["state", "call", "numbers"] (defScope s_answer) := ⟨rfl, rfl, rfl, by decide +kernel, rfl, by decide +kernel, by decide +kernel⟩
theorem ok_answer (T : Txt K mg) (B : TB K mg base) : DefOk P w K mg base 12 "answer" ["state", "call", "numbers"] (spAnswer K) := by
  refine def_ok (F_answer T) sc_answer (fun _ _ _ _ _ _ us hl => match us, hl with | [_, _, _], _ => rfl) (fun vs H Q E h => by obtain ⟨_, _, _, _, _, _, _, _, _, rfl, _⟩ := h; rfl) fun f cdv A outer s H vs Q E hr h => ?_
  obtain ⟨p, dx, pt, b, X, a, M, c, ns, rfl, ok, S, tb, hb, nb, hc, h⟩ := h
  have C := T.cl_State
  obtain ⟨tk, hk⟩ := T.c_BEGIN
  have hc35 : c < 35 := (List.getElem?_eq_some_iff.mp hc).1
  obtain ⟨x, hx⟩ : ∃ x, ansN[c]? = some x := ⟨_, List.getElem?_eq_getElem (show c < ansN.length from hc35)⟩
  obtain ⟨sp, hsp, _, hheld⟩ := Paired.left (held_all (P := P) (w := w) T B) hx
  have hS : ∀ (f : Addr) (sp' : Sp), (fun f : Addr => if f = adr mg x then some sp else none) f = some sp' → Held P w K mg base 11 f sp' := fun f sp' e => by
    have e : (if f = adr mg x then some sp else none) = some sp' := e
    by_cases q : f = adr mg x
    · rw [if_pos q] at e
      cases e
      rw [q]
      exact hheld
    · rw [if_neg q] at e
      cases e
  refine ⟨_, pss_cons (ps_if (PW.pt (pw_and (pt_cmpR op_isN (pe_fld (pv 0) rfl) pe_non (nomark _)) (pw_and1 (pt_cmpR op_ne (pv 1) (pe_glob (v := .int 0) (by rfl) hk ⟨tk, rfl⟩) (nomark _))))) (pss_one (ps_ret (pe_cd0 (ok_not_begun T) (hr.mono (by decide))))) pss_nil)
    (pss_cons (ps_set (i := 3) sc_answer.nd rfl (Or.inl rfl) (pe_cd (ok_answerer_of T B) (hr.mono (by decide)) (pa_cons (pv 1) pa_nil)))
    (pss_one (ps_ret (pe_callA (i := 3) hS hr rfl (Or.inl rfl) (pa_cons (pv 0) (pa_cons (pv 2) pa_nil)))))), ?_⟩
  have four : ∀ H1 a' (vf : V) (m0 : Nat), c = 0 → StB K H1 p dx pt X a vf m0 → Same H H1 → a' = a → sp [.ref p, .ref b] H1 Q E0 := by
    intro H1 a' vf m0 hc0 S1 s1 _
    subst hc0
    have hsp : some (spBeginC K) = some sp := hsp
    injection hsp with hsp
    subst hsp
    have hl : 4 = ns.length := Option.some.inj hc
    match ns, hl, hb, h with
    | [n, e, k, m], _, hb, h =>
      have e1 : stepAll M 0 [n, e, k, m] = if 3 ≤ n ∧ n ≤ 7 ∧ e ≤ 2 ∧ 1 ≤ k ∧ k ≤ 3 ∧ m ≤ 2 then (some (beginD n e k m), [((viewsM n e k).length : Int)]) else (M, [-22]) := rfl
      rw [e1] at h
      obtain ⟨SM, stM⟩ := S.same s1
      refine ⟨p, dx, pt, b, X, a, vf, m0, n, e, k, m, rfl, S1, s1 _ _ hb, nb, fun hno H2 q s2 hq => ?_, fun hyes H2 a2 q S2 st2 hq => ?_⟩
      · have hno : ¬ (3 ≤ n ∧ n ≤ 7 ∧ e ≤ 2 ∧ 1 ≤ k ∧ k ≤ 3 ∧ m ≤ 2) := hno
        rw [if_neg hno] at h
        obtain ⟨SM2, stM2⟩ := SM.same s2
        exact h H2 a q SM2 (stM.trans stM2) hq
      · have hyes : 3 ≤ n ∧ n ≤ 7 ∧ e ≤ 2 ∧ 1 ≤ k ∧ k ≤ 3 ∧ m ≤ 2 := hyes
        rw [if_pos hyes] at h
        exact h H2 a2 q S2 (stM.trans st2) hq
  cases M with
  | none =>
    have S' : StB K H p dx pt X a .non 0 := S
    refine ⟨_, rfl, p, _, dx, _, _, rfl, S'.obj, C, T.n_State_field, rfl, rfl, _, rfl, ?_⟩
    refine ifTb rfl ⟨_, rfl, rfl, _, rfl, ?_⟩
    cases c with
    | succ c =>
      refine ifTb (by rw [decide_eq_false (by intro z; injection z with z; omega)]; rfl) ⟨rfl, fun q hq => ?_⟩
      obtain ⟨S1, st1⟩ := S'.same (Same.new (o := .lst [.int (-11)]) (Same.refl _) hq)
      exact h _ a q S1 st1 upd_same
    | zero =>
      refine ifFb rfl ?_
      refine ⟨_, rfl, 0, x, rfl, hx, fun H1 s1 => ?_⟩
      refine ⟨adr mg x, sp, rfl, if_pos rfl, _, rfl, _, rfl, ?_⟩
      exact four H1 a .non 0 rfl (S'.same s1).1 s1 rfl
  | some d => 
    have S' : StAt K H p dx pt X a d := S
    refine ⟨_, rfl, p, _, dx, _, _, rfl, S'.rd.obj, C, T.n_State_field, rfl, rfl, _, rfl, ?_⟩
    refine ifFb rfl ?_
    refine ⟨_, rfl, c, x, rfl, hx, fun H1 s1 => ?_⟩
    refine ⟨adr mg x, sp, rfl, if_pos rfl, _, rfl, _, rfl, ?_⟩
    obtain ⟨S1, st1⟩ := S'.same s1
    cases c with
    | zero => exact four H1 a _ _ rfl S1.stB s1 rfl
    | succ c =>
      obtain ⟨pr, st, h1, h2, h3⟩ := spL_at K (c := c) (by omega)
      rw [h3] at hsp
      injection hsp with hsp
      subst hsp
      have hp : pr d ns := by
        obtain ⟨n, hn, hpr⟩ := Paired.right pre_all h1
        have hc : arL[c]? = some ns.length := hc
        rw [hn] at hc
        injection hc with hc
        exact hpr d ns hc.symm
      refine ⟨p, dx, pt, b, X, a, d, ns, rfl, ok d rfl, S1, st1.tabs tb, s1 _ _ hb, nb, hp, fun H2 a2 q S2 st2 hq => ?_⟩
      have e2 : stepAll (some d) (c + 1) ns = (some (st d ns).1, (st d ns).2) := by
        show (some (stepOf c d ns).1, (stepOf c d ns).2) = _
        have : stepOf c = st := by
          unfold stepOf
          rw [List.getD_eq_getElem?_getD, h2]
          rfl
        rw [this]
      rw [e2] at h
      exact h H2 a2 q S2 (st1.trans st2) hq
end
end RG
namespace RG
open PySem PySem.Spec PyProof.Rows L2
open LamX (Tabs ExtN TabB)
/-! ### all calls -/
abbrev CallN : Type := Nat × List Nat
def flatC (cs : List CallN) : List Int := cs.flatMap fun c => (c.1 : Int) :: iN c.2
noncomputable def runC : Option StD → List CallN → List Int
  | _, [] => []
  | M, c :: cs => (((stepAll M c.1 c.2).2.length : Int) :: (stepAll M c.1 c.2).2) ++ runC (stepAll M c.1 c.2).1 cs
def OkC : Option StD → List CallN → Prop
  | _, [] => True
  | M, c :: cs => (∀ d, M = some d → StOk d) ∧ arityM[c.1]? = some c.2.length ∧ OkC (stepAll M c.1 c.2).1 cs
section
variable {P : Program} {w : World} {K : PySem.W.Frag} {mg : Str → Option Value} {base : Heap}
theorem MAt.frz_out {H : Hp} {p dx pt x : Addr} {X : List Addr} {a : Ad} {M : Option StD} {o : Obj} {u : HO} (S : MAt K H p dx pt X a M) (hx : H x = some (.frz o u)) : x ∉ mut4 p pt a := by
  obtain ⟨_, _, B⟩ := S.stB
  obtain ⟨l1, r1⟩ := B.rule
  obtain ⟨l2, r2⟩ := B.past
  intro z
  simp only [List.mem_cons, List.not_mem_nil, or_false] at z
  rcases z with z | z | z | z
  · rw [z, B.obj] at hx; cases hx
  · rw [z, r1] at hx; cases hx
  · rw [z, r2] at hx; cases hx
  · rw [z, B.tried] at hx; cases hx
theorem MAt.out {H : Hp} {p dx pt : Addr} {X : List Addr} {a : Ad} {M : Option StD} (S : MAt K H p dx pt X a M) {x : Addr} (hx : x ∈ X) : x ∉ mut4 p pt a := by
  obtain ⟨_, _, B⟩ := S.stB
  obtain ⟨n1, n2, n3, n4⟩ := B.out x hx
  simp only [List.mem_cons, List.not_mem_nil, or_false, not_or]
  exact ⟨n1, n2, n3, n4⟩
/-- what was handed in stays -/
def KB (H0 : Hp) (b : Addr) (H : Hp) : Prop := ∀ o u, H0 b = some (.frz o u) → H b = some (.frz o u)
theorem KB.same {H0 H H' : Hp} {b : Addr} (k : KB H0 b H) (s : Same H H') : KB H0 b H' := fun o u e => s _ _ (k o u e)
def Calm (H : Hp) : Prop := ∀ c, H c = none ∨ (∃ o u, H c = some (.frz o u)) ∨ ∃ ps, H c = some (.tbl ps)
theorem sq_kb {H0 : Hp} {b : Addr} {xs : List V} (hC : Calm H0) (h : SqL K H0 b xs) {H : Hp} (k : KB H0 b H) : SqL K H b xs := by
  rcases h with (h | ⟨o, h⟩) | h
  · rcases hC b with e | ⟨o, u, e⟩ | ⟨ps, e⟩ <;> rw [h] at e <;> cases e
  · exact .inl (.inr ⟨o, k _ _ h⟩)
  · exact .inr h
def spAll (K : PySem.W.Frag) : Sp := fun vs H Q _ => ∃ (b : Addr) (cs : List CallN), vs = [.ref b] ∧ Calm H ∧ SqL K H b (vI (flatC cs)) ∧ Tabs (lamT K) H ∧ OkC none cs ∧ (flatC cs).length ≤ 1000 ∧ (runC none cs).length ≤ 10000000 ∧
  ∀ H' q, H' q = some (.lst (vI (runC none cs))) → Q (.ref q) H'
abbrev NAll : List Str := ["calls", "state", "told", "at", "call", "behind"]
theorem sc_answers : FnScope NAll ["calls"] (defScope s_answers) := ⟨rfl, rfl, rfl, by decide +kernel, rfl, by decide +kernel, by decide +kernel⟩
def WAll (K : PySem.W.Frag) (H0 : Hp) (b p dx pt D : Addr) (cs : List CallN) (n : Nat) (σ : L2.St) (H' : Hp) : Prop := ∃ (rest : List CallN) (M : Option StD) (a : Ad) (i : Nat) (tds : List Int) (v4 v5 : Option V) (pre : List Int),
  σ = [some (.ref b), some (.ref p), some (.ref D), some (.int (i : Int)), v4, v5] ∧ n = rest.length ∧ MAt K H' p dx pt [D] a M ∧ Tabs (lamT K) H' ∧ H' D = some (.lst (vI tds)) ∧ KB H0 b H' ∧ OkC M rest ∧ flatC cs = pre ++ flatC rest ∧ pre.length = i ∧ tds ++ runC M rest = runC none cs
theorem fn_answers (T : Txt K mg) (B : TB K mg base) {f : Addr} {fd : FuncData} (hF : DefF K mg "answers" s_answers f fd) : FnOk P w K mg base CX0 13 f fd ["calls"] (spAll K) := by
  refine fn_of_body hF.2 sc_answers (fun vs H Q E h => by obtain ⟨_, _, rfl, _⟩ := h; rfl) fun cdv A outer s H vs Q E hr h => ?_
  obtain ⟨b, cs, rfl, hC, hb, tb, ok, hl, hl2, h⟩ := h
  refine ⟨_, pss_cons (ps_set (i := 1) sc_answers.nd rfl (Or.inl rfl) (pe_mk0 (He.ga K "State") (ok_State_init T) (hr.mono (by decide)) T.g_State))
    (pss_cons (ps_set (i := 2) sc_answers.nd rfl (Or.inl rfl) (pe_lst pa_nil))
    (pss_cons (ps_set (i := 3) sc_answers.nd rfl (Or.inl rfl) pe_int)
    (pss_cons (ps_while PassesOwn.never (pt_cmpR op_lt (pv 3) (pe_len T.b_len (pa_cons (pv 0) pa_nil)) (nomark _))
      (pss_cons (ps_set (i := 4) sc_answers.nd rfl (Or.inl rfl) (pe_ix ix_list (pv 0) (pv 3) (fun _ _ => rfl)))
      (pss_cons (ps_set (i := 5) sc_answers.nd rfl (Or.inl rfl) (pe_op op_add (pe_op op_add (pv 3) pe_int) (pe_ix ix_tup (pe_glob (v := .ref (He.ga K "ARGUMENTS")) (by rfl) T.g_ARGUMENTS rfl) (pv 4) (fun _ _ => rfl))))
      (pss_cons (ps_expr (pe_bm PySem.F.plainAttrs_list PySem.F.slot_list_extend PySem.F.type_list_extend mt_extend (pv 2) (pa_cons (pe_cd (ok_counted T) (hr.mono (by decide)) (pa_cons (pe_cd (ok_answer T B) hr (pa_cons (pv 1) (pa_cons (pv 4) (pa_cons (pe_slice sl_list (pv 0) (po_some (pe_op op_add (pv 3) pe_int)) (po_some (pv 5))) pa_nil)))) pa_nil)) pa_nil) (by rfl) (by rfl) (by rfl) (by rfl) rfl))
      (pss_one (ps_set (i := 3) sc_answers.nd rfl (Or.inl rfl) (pv 5)))))))
    (pss_one (ps_ret (pv 2)))))), ?_⟩
  intro p dx np nd ne
  have tb1 : Tabs (lamT K) (upd (upd H dx (.own p)) p (.ins (He.ga K "State") dx [])) := tb.ext (Same.made np nd But.refl)
  have k1 : KB H b (upd (upd H dx (.own p)) p (.ins (He.ga K "State") dx [])) := fun o u e => Same.made np nd But.refl _ _ e
  have p1 : upd (upd H dx (.own p)) p (.ins (He.ga K "State") dx []) p = some (.ins (He.ga K "State") dx []) := upd_same
  generalize upd (upd H dx (.own p)) p (.ins (He.ga K "State") dx []) = H1 at tb1 k1 p1
  refine ⟨p, dx, rfl, p1, fun H2 pr pm pp pt o2 r2 q2 t2 ne2 b2 => ⟨rfl, ?_⟩⟩
  have tb2 : Tabs (lamT K) H2 := tabs_but (ws := [p]) (fun c o e n => b2 c o e (fun z => n (by rw [z]; exact List.mem_singleton.mpr rfl))) (fun x hx o ho => by
    rw [List.mem_singleton.mp hx, p1] at ho
    cases ho
    exact ⟨(fun _ z => nomatch z), fun _ z => nomatch z⟩) tb1
  have k2 : KB H b H2 := fun o u e => b2 _ _ (k1 o u e) (fun z => by
    have := k1 o u e
    rw [z, p1] at this
    cases this)
  have S2 : StB K H2 p dx pt [] ⟨p, pr, pm, pp, []⟩ .non 0 := ⟨o2, ⟨[], r2⟩, ⟨[], q2⟩, t2, (fun _ _ key v hv => by cases hv), ⟨List.nodup_nil, (fun _ z => by cases z)⟩, ne2, (fun _ z => by cases z), (fun _ z => by cases z)⟩
  refine ⟨by show 0 ≤ sizeLine; decide, fun D hD => ?_⟩
  have S3 : StB K (upd H2 D (.lst [])) p dx pt [D] ⟨p, pr, pm, pp, []⟩ .non 0 := S2.addX hD (.inl ⟨[], rfl⟩)
  have s3 : Same H2 (upd H2 D (.lst [])) := Same.new (Same.refl H2) hD
  have d3 : upd H2 D (.lst []) D = some (.lst (vI [])) := upd_same
  generalize upd H2 D (.lst []) = H3 at S3 s3 d3
  refine ⟨WAll K H b p dx pt D cs, ⟨cs.length, cs, none, _, 0, [], none, none, [], rfl, rfl, S3, tb2.ext s3, d3, k2.same s3, ok, rfl, rfl, rfl⟩, ?_⟩
  rintro n σ H4 ⟨rest, M, a, i, tds, v4, v5, pre, rfl, rfl, S4, tb4, d4, k4, ok4, e4, l4, r4⟩
  have hb4 := sq_kb hC hb k4
  refine ⟨_, rfl, _, rfl, b, vI (flatC cs), rfl, .inl hb4, _, _, rfl, rfl, _, rfl, ?_⟩
  rw [vI_len]
  have hlen : (flatC cs).length = i + (flatC rest).length := by rw [e4, List.length_append, l4]
  cases rest with
  | nil =>
    have z : (flatC ([] : List CallN)).length = 0 := rfl
    rw [z] at hlen
    refine ifF (show ¬ (i : Int) < ((flatC cs).length : Int) by omega) ⟨_, rfl, ?_⟩
    have : tds = runC none cs := by
      rw [← r4]
      exact (List.append_nil _).symm
    rw [this] at d4
    exact h H4 D d4
  | cons c rest =>
    obtain ⟨c, ns⟩ := c
    obtain ⟨ok5, ar5, okR⟩ := ok4
    have fc : flatC ((c, ns) :: rest) = (c : Int) :: (iN ns ++ flatC rest) := rfl
    have flen : (flatC ((c, ns) :: rest)).length = 1 + ns.length + (flatC rest).length := by
      rw [fc, List.length_cons, List.length_append, List.length_map]
      omega
    refine ifT (show (i : Int) < ((flatC cs).length : Int) by omega) ⟨fun σ' H' => ∃ m', m' < (((c, ns) :: rest).length) ∧ WAll K H b p dx pt D cs m' σ' H', fun _ _ z => z, ?_⟩
    have at_i : (flatC cs)[i]? = some (c : Int) := by
      rw [e4, List.getElem?_append_right (by omega), fc, l4, Nat.sub_self]
      rfl
    refine ⟨_, rfl, _, rfl, b, vI (flatC cs), (i : Int), .int (c : Int), rfl, rfl, hb4, atI_nat (by rw [List.getElem?_map, at_i]; rfl), ?_⟩
    refine ⟨_, rfl, _, _, rfl, rfl, _, rfl, He.ga K "ARGUMENTS", argsN.map (He.Dv.v K), (c : Int), .int (ns.length : Int), rfl, rfl, T.t_ARGUMENTS _, atI_nat ?_, _, _, rfl, rfl, ?_⟩
    · have : argsN.map (He.Dv.v K) = arityM.map fun (q : Nat) => V.int (q : Int) := rfl
      rw [this, List.getElem?_map, ar5]
      rfl
    have eb : (i : Int) + 1 + (ns.length : Int) = ((i + 1 + ns.length : Nat) : Int) := by omega
    refine ⟨_, rfl, .inl ⟨rfl, _, SqL.of d4⟩, _, rfl, _, rfl, _, rfl, _, rfl, _, _, rfl, rfl, (i : Int) + 1, rfl, _, rfl, (i : Int) + 1 + (ns.length : Int), rfl, b, vI (flatC cs), rfl, hb4, fun s hs => ?_⟩
    have ecut : cutV (vI (flatC cs)) (some ((i : Int) + 1)) (some ((i : Int) + 1 + (ns.length : Int))) = vN ns := by
      rw [eb, show (i : Int) + 1 = ((i + 1 : Nat) : Int) by omega, cut_two _ _ _ (by rw [vI_len]; omega) (by rw [vI_len]; omega)]
      have e5 : flatC cs = (pre ++ [(c : Int)]) ++ (iN ns ++ flatC rest) := by
        rw [e4, fc, List.append_assoc]
        rfl
      have l5 : (pre ++ [(c : Int)]).length = i + 1 := by rw [List.length_append, l4]; rfl
      unfold vI
      rw [← List.map_drop, ← List.map_take, e5, ← l5, List.drop_left, l5, show i + 1 + ns.length - (i + 1) = (iN ns).length by rw [List.length_map]; omega, List.take_left]
      show (iN ns).map V.int = vN ns
      unfold iN
      rw [List.map_map]
      rfl
    rw [ecut]
    obtain ⟨S5, st5⟩ := S4.same (Same.new (o := .lst (vN ns)) (Same.refl H4) hs)
    have s5 : Same H4 (upd H4 s (.lst (vN ns))) := Same.new (Same.refl H4) hs
    have z5 : upd H4 s (.lst (vN ns)) s = some (.lst (vN ns)) := upd_same
    have ns5 : s ∉ mut4 p pt a := S4.notmut hs
    generalize upd H4 s (.lst (vN ns)) = H5 at S5 st5 s5 z5
    refine ⟨p, dx, pt, s, [D], a, M, c, ns, rfl, ok5, S5, tb4.ext s5, z5, ns5, ar5, fun H6 a6 q6 S6 st6 z6 => ?_⟩
    have er : runC M ((c, ns) :: rest) = (((stepAll M c ns).2.length : Int) :: (stepAll M c ns).2) ++ runC (stepAll M c ns).1 rest := rfl
    rw [er, ← List.append_assoc] at r4
    have big : tds.length + ((stepAll M c ns).2.length + 1) ≤ 10000000 := by
      have := congrArg List.length r4
      rw [List.length_append, List.length_append, List.length_cons] at this
      omega
    have d6 : H6 D = some (.lst (vI tds)) := st6.but _ _ (s5 _ _ d4) (S5.out List.mem_cons_self) (fun _ z => nomatch z)
    have k6 : KB H b H6 := fun o u e => st6.but _ _ (s5 _ _ (k4 o u e)) (S5.frz_out (s5 _ _ (k4 o u e))) (fun _ z => nomatch z)
    refine ⟨q6, vI (stepAll M c ns).2, rfl, Sq.lst z6, by rw [vI_len]; exact Nat.le_trans (show _ ≤ 10000000 by omega) (by decide), fun H7 q7 s7 hq7 z7 => ?_⟩
    obtain ⟨S7, st7⟩ := S6.same s7
    have d7 := s7 _ _ d6
    refine ⟨D, q7, vI tds, _, rfl, rfl, d7, z7, ?_, ?_⟩
    · rw [vI_len, List.length_cons, vI_len]
      exact Nat.le_trans (show _ ≤ 10000000 by omega) (by decide)
    have ez : vI tds ++ (V.int ((vI (stepAll M c ns).2).length : Int) :: vI (stepAll M c ns).2) = vI (tds ++ (((stepAll M c ns).2.length : Int) :: (stepAll M c ns).2)) := by
      rw [vI_len]
      unfold vI
      rw [List.map_append]
      rfl
    rw [ez]
    have lo : Loose (.lst (vI (tds ++ (((stepAll M c ns).2.length : Int) :: (stepAll M c ns).2)))) := .inl ⟨_, rfl⟩
    have S8 := S7.updX List.mem_cons_self lo
    have tb8 : Tabs (lamT K) (upd H7 D (.lst (vI (tds ++ (((stepAll M c ns).2.length : Int) :: (stepAll M c ns).2))))) := tabs_but (ws := [D]) (ButD.at_ ButD.refl (.inr (List.mem_singleton.mpr rfl))) (fun x hx o ho => by
      rw [List.mem_singleton.mp hx, d7] at ho
      cases ho
      exact ⟨(fun _ z => nomatch z), fun _ z => nomatch z⟩) (st7.tabs (st6.tabs (tb4.ext s5)))
    have k8 : KB H b (upd H7 D (.lst (vI (tds ++ (((stepAll M c ns).2.length : Int) :: (stepAll M c ns).2))))) := fun o u e => by
      have q := s7 _ _ (k6 o u e)
      rw [upd_ne (fun z => by rw [z, d7] at q; cases q)]
      exact q
    refine ⟨_, rfl, rest.length, Nat.lt_succ_self _, rest, (stepAll M c ns).1, a6, i + 1 + ns.length, tds ++ (((stepAll M c ns).2.length : Int) :: (stepAll M c ns).2), _, _, pre ++ ((c : Int) :: iN ns), by rw [← eb]; rfl, rfl, S8, tb8, upd_same, k8, okR, ?_, ?_, r4⟩
    · rw [e4, fc, List.append_assoc]
      rfl
    · rw [List.length_append, l4, List.length_cons, List.length_map]
      omega
end
end RG
namespace RG
/-! ### the specification: tables that agree -/
abbrev nsS (n k : Nat) : List (List Nat) := Km534.names n k
abbrev bkS (n e k : Nat) : Km537.Desk := ⟨n, e, k, 0, [], []⟩
abbrev vsS (n e k : Nat) : List (List Nat) := Km537.views (bkS n e k)
abbrev seenS (e : Nat) (l : List Nat) : List (List Nat) := Km534.viewsOf ⟨l, e⟩
def baseS (n k : Nat) : Bool := decide (namesM n k = (nsS n k).map iN) && (nsS n k).all (fun l => decide (l.length = n) && decide (Km534.sum l = k) && decide (togetherM (iN l) = Km535.gathered l) && decide (apartM (iN l) = Km537.apart l)) && decide (nsS n k).Nodup
def viewS (n e k : Nat) : Bool := decide (viewsM n e k = (vsS n e k).map iN) && decide (evensM n e k = (vsS n e k).map Km537.evenRow) && decide (vsS n e k).Nodup &&
  (nsS n k).all fun l => decide (viewsIn n e k (sightsM (iN l) (e : Int)) = (seenS e l).map (Km537.place (vsS n e k))) && (seenS e l).all fun v => decide (v ∈ vsS n e k)
theorem base_s : ∀ n, 3 ≤ n → n ≤ 7 → ∀ k, 1 ≤ k → k ≤ 3 → baseS n k = true := by
  have h : ∀ n, n < 8 → ∀ k, k < 4 → 3 ≤ n → 1 ≤ k → baseS n k = true := by decide +kernel
  intro n h1 h2 k h3 h4
  exact h n (by omega) k (by omega) h1 h3
theorem view_s : ∀ n, 3 ≤ n → n ≤ 7 → ∀ k, 1 ≤ k → k ≤ 3 → ∀ e, e ≤ 2 → viewS n e k = true := by
  have h : ∀ n, n < 8 → ∀ k, k < 4 → ∀ e, e < 3 → 3 ≤ n → 1 ≤ k → viewS n e k = true := by decide +kernel
  intro n h1 h2 k h3 h4 e h5
  exact h n (by omega) k (by omega) e (by omega) h1 h3
end RG
namespace RG
/-! ### the specification: what may come next -/
theorem iN_get (l : List Nat) (i : Nat) : (iN l).getD i 0 = (l.getD i 0 : Nat) := by
  rw [List.getD_eq_getElem?_getD, List.getD_eq_getElem?_getD, List.getElem?_map]
  cases l[i]? <;> rfl
theorem iN_inj : ∀ {a b : List Nat}, iN a = iN b → a = b
  | [], [], _ => rfl
  | [], _ :: _, h => by cases h
  | _ :: _, [], h => by cases h
  | x :: a, y :: b, h => by
    injection h with h1 h2
    rw [iN_inj h2, Int.ofNat.inj h1]
/-! selections -/
theorem sel_snoc {E : List (Nat × List Nat)} {x : Nat × List Nat} {ms : List (Nat × Nat)} (h : Sel (E ++ [x]) ms) : Sel E ms ∨ ∃ m q, ms = m ++ [(x.1, q)] ∧ Sel E m ∧ q ∈ x.2 := by
  generalize hF : E ++ [x] = F at h
  cases h with
  | nil => simp at hF
  | @skip E2 ms x2 hs =>
    obtain ⟨e1, e2⟩ := List.append_inj' hF rfl
    rw [← e1] at hs
    exact .inl hs
  | @take E2 ms x2 q hs hq =>
    obtain ⟨e1, e2⟩ := List.append_inj' hF rfl
    rw [← e1] at hs
    have e3 : x = x2 := by simpa using e2
    rw [← e3] at hq
    exact .inr ⟨ms, q, by rw [e3], hs, hq⟩
theorem sel_nil {ms : List (Nat × Nat)} (h : Sel [] ms) : ms = [] := by
  generalize hF : ([] : List (Nat × List Nat)) = F at h
  cases h with
  | nil => rfl
  | skip _ => simp at hF
  | take _ _ => simp at hF
theorem snoc_of {α : Type} {l : List α} {n : Nat} (h : l.length = n + 1) : ∃ l' x, l = l' ++ [x] ∧ l'.length = n := by
  have hne : l ≠ [] := fun z => by rw [z] at h; cases h
  exact ⟨l.dropLast, l.getLast hne, (List.dropLast_concat_getLast hne).symm, by rw [List.length_dropLast, h]; rfl⟩
theorem sel_app (E : List (Nat × List Nat)) : ∀ (n : Nat) (F : List (Nat × List Nat)), F.length = n → ∀ ms, Sel (E ++ F) ms ↔ ∃ m1 m2, ms = m1 ++ m2 ∧ Sel E m1 ∧ Sel F m2
  | 0, F, h, ms => by
    rw [List.length_eq_zero_iff.mp h, List.append_nil]
    constructor
    · intro h
      exact ⟨ms, [], (List.append_nil _).symm, h, .nil⟩
    · rintro ⟨m1, m2, rfl, h1, h2⟩
      rw [sel_nil h2, List.append_nil]
      exact h1
  | n + 1, F, h, ms => by
    obtain ⟨F', x, rfl, hl⟩ := snoc_of h
    have ih := sel_app E n F' hl
    rw [← List.append_assoc]
    constructor
    · intro hs
      rcases sel_snoc hs with hs | ⟨m, q, rfl, hs, hq⟩
      · obtain ⟨m1, m2, e, h1, h2⟩ := (ih _).mp hs
        exact ⟨m1, m2, e, h1, .skip h2⟩
      · obtain ⟨m1, m2, e, h1, h2⟩ := (ih _).mp hs
        exact ⟨m1, m2 ++ [(x.1, q)], by rw [e, List.append_assoc], h1, .take h2 hq⟩
    · rintro ⟨m1, m2, rfl, h1, h2⟩
      rcases sel_snoc h2 with h2 | ⟨m, q, rfl, h2, hq⟩
      · exact .skip ((ih _).mpr ⟨m1, m2, rfl, h1, h2⟩)
      · rw [← List.append_assoc]
        exact .take ((ih _).mpr ⟨m1, m, rfl, h1, h2⟩) hq
theorem sel_rep (x : Nat × List Nat) : ∀ (c : Nat) (ms : List (Nat × Nat)), Sel (List.replicate c x) ms ↔ ms.length ≤ c ∧ ∀ m ∈ ms, m.1 = x.1 ∧ m.2 ∈ x.2
  | 0, ms => by
    constructor
    · intro h
      rw [sel_nil h]
      exact ⟨Nat.le_refl _, fun m hm => nomatch hm⟩
    · rintro ⟨h, _⟩
      rw [List.length_eq_zero_iff.mp (Nat.le_zero.mp h)]
      exact .nil
  | c + 1, ms => by
    have ih := sel_rep x c
    rw [List.replicate_succ']
    constructor
    · intro h
      rcases sel_snoc h with h | ⟨m, q, rfl, h, hq⟩
      · obtain ⟨h1, h2⟩ := (ih _).mp h
        exact ⟨by omega, h2⟩
      · obtain ⟨h1, h2⟩ := (ih _).mp h
        refine ⟨by rw [List.length_append]; exact Nat.succ_le_succ h1, fun y hy => ?_⟩
        rcases List.mem_append.mp hy with hy | hy
        · exact h2 y hy
        · rw [List.mem_singleton.mp hy]
          exact ⟨rfl, hq⟩
    · rintro ⟨h1, h2⟩
      by_cases hc : ms.length ≤ c
      · exact .skip ((ih _).mpr ⟨hc, h2⟩)
      · obtain ⟨m, y, rfl, hl⟩ := snoc_of (show ms.length = c + 1 by omega)
        obtain ⟨e1, e2⟩ := h2 y (List.mem_append_right _ (List.mem_singleton.mpr rfl))
        have : y = (x.1, y.2) := by rw [← e1]
        rw [this]
        exact .take ((ih _).mpr ⟨by omega, fun z hz => h2 z (List.mem_append_left _ hz)⟩) e2
/-! the order in which they go is all the same -/
theorem gone_get? (l : List Int) (p q i : Nat) : (goneM l p q)[i]? = (l[i]?).map fun v => v - (if p = i then 1 else 0) + (if q = i then 1 else 0) := by
  unfold goneM
  rw [List.getElem?_set, List.getElem?_set, List.length_set]
  by_cases hq : q = i
  · subst hq
    by_cases hp : p = q
    · subst hp
      by_cases hl : p < l.length
      · simp [hl]
      · simp [hl, List.getElem?_eq_none (Nat.le_of_not_lt hl)]
    · by_cases hl : q < l.length
      · simp [hl, hp, List.getD_eq_getElem?_getD, List.getElem?_set]
      · simp [hl, List.getElem?_eq_none (Nat.le_of_not_lt hl)]
  · by_cases hp : p = i
    · subst hp
      by_cases hl : p < l.length
      · simp [hl, hq, List.getD_eq_getElem?_getD]
      · simp [hl, hq, List.getElem?_eq_none (Nat.le_of_not_lt hl)]
    · simp [hp, hq]
theorem gone_comm (l : List Int) (a b c d : Nat) : goneM (goneM l a b) c d = goneM (goneM l c d) a b := by
  refine List.ext_getElem? fun i => ?_
  rw [gone_get?, gone_get?, gone_get?, gone_get?, Option.map_map, Option.map_map]
  congr 1
  funext v
  simp only [Function.comp]
  omega
theorem doAll_perm {ms ws : List (Nat × Nat)} (p : ms.Perm ws) (l : List Int) : doAllM l ms = doAllM l ws := p.foldl_eq' (fun x _ y _ z => gone_comm z x.1 x.2 y.1 y.2) l
theorem move_gone {l : List Nat} {p q : Nat} (h : 0 < l.getD p 0) : iN (Km535.move l p q) = goneM (iN l) p q := by
  have e1 : iN (l.set p (l.getD p 0 - 1)) = (iN l).set p ((iN l).getD p 0 - 1) := by
    unfold iN
    rw [List.map_set]
    congr 1
    have := iN_get l p
    unfold iN at this
    rw [this]
    omega
  unfold Km535.move goneM
  rw [← e1]
  unfold iN
  rw [List.map_set]
  congr 1
  have := iN_get (l.set p (l.getD p 0 - 1)) q
  unfold iN at this
  rw [this]
  omega
theorem doAll_nat : ∀ (ms : List (Nat × Nat)) (l : List Nat), (∀ p, cnt ms p ≤ l.getD p 0) → iN (Km535.doAll l ms) = doAllM (iN l) ms
  | [], _, _ => rfl
  | m :: ms, l, h => by
    have h0 : 0 < l.getD m.1 0 := by
      have := h m.1
      rw [cnt_cons, if_pos rfl] at this
      omega
    unfold Km535.doAll doAllM
    rw [List.foldl_cons, List.foldl_cons, ← move_gone h0]
    refine doAll_nat ms _ fun p => ?_
    have h1 := h p
    rw [cnt_cons] at h1
    have h2 := move_gone (q := m.2) h0
    have h3 := iN_get (Km535.move l m.1 m.2) p
    rw [h2, List.getD_eq_getElem?_getD, gone_get?] at h3
    have h4 := iN_get l p
    rw [List.getD_eq_getElem?_getD] at h4
    cases e : (iN l)[p]? with
    | none =>
      rw [e] at h4
      have h4 : (0 : Int) = _ := h4
      omega
    | some v =>
      rw [e] at h3 h4
      have h3 : v - (if m.1 = p then 1 else 0) + (if m.2 = p then 1 else 0) = _ := h3
      have h4 : v = _ := h4
      split at h3 <;> split at h3 <;> split at h1 <;> omega
/-! splits -/
theorem splits_mem {p : Nat} {to_ : List Nat} (ht : to_.length = 1 ∨ to_.length = 2) {x : Nat} {b : List (Nat × Nat)} (h : b ∈ Km535.splits p to_ x) : b.length = x ∧ ∀ m ∈ b, m.1 = p ∧ m.2 ∈ to_ := by
  match to_, ht, h with
  | [a], _, h =>
    have h : b ∈ [List.replicate x (p, a)] := h
    rw [List.mem_singleton.mp h]
    refine ⟨List.length_replicate, fun m hm => ?_⟩
    rw [(List.mem_replicate.mp hm).2]
    exact ⟨rfl, List.mem_singleton.mpr rfl⟩
  | [a, c], _, h =>
    have h : b ∈ (List.range (x + 1)).map fun k => List.replicate k (p, a) ++ List.replicate (x - k) (p, c) := h
    obtain ⟨k, hk, rfl⟩ := List.mem_map.mp h
    have := List.mem_range.mp hk
    refine ⟨by rw [List.length_append, List.length_replicate, List.length_replicate]; omega, fun m hm => ?_⟩
    rcases List.mem_append.mp hm with hm | hm
    · rw [(List.mem_replicate.mp hm).2]
      exact ⟨rfl, List.mem_cons_self⟩
    · rw [(List.mem_replicate.mp hm).2]
      exact ⟨rfl, List.mem_cons_of_mem _ List.mem_cons_self⟩
theorem rep_two (p a c : Nat) : ∀ ms : List (Nat × Nat), (∀ m ∈ ms, m.1 = p ∧ (m.2 = a ∨ m.2 = c)) → ∃ k, k ≤ ms.length ∧ (List.replicate k (p, a) ++ List.replicate (ms.length - k) (p, c)).Perm ms
  | [], _ => ⟨0, Nat.le_refl _, .nil⟩
  | m :: ms, h => by
    obtain ⟨k, hk, pk⟩ := rep_two p a c ms fun y hy => h y (List.mem_cons_of_mem _ hy)
    obtain ⟨e1, e2⟩ := h m List.mem_cons_self
    rcases e2 with e2 | e2
    · refine ⟨k + 1, by rw [List.length_cons]; omega, ?_⟩
      have : m = (p, a) := by rw [← e1, ← e2]
      rw [this, List.length_cons, Nat.add_sub_add_right, List.replicate_succ, List.cons_append]
      exact .cons _ pk
    · refine ⟨k, by rw [List.length_cons]; omega, ?_⟩
      have : m = (p, c) := by rw [← e1, ← e2]
      rw [this, List.length_cons, show ms.length + 1 - k = (ms.length - k) + 1 by omega, List.replicate_succ]
      exact List.perm_middle.trans (.cons _ pk)
theorem splits_perm {p : Nat} {to_ : List Nat} (ht : to_.length = 1 ∨ to_.length = 2) {ms : List (Nat × Nat)} (h : ∀ m ∈ ms, m.1 = p ∧ m.2 ∈ to_) : ∃ b ∈ Km535.splits p to_ ms.length, b.Perm ms := by
  match to_, ht, h with
  | [a], _, h =>
    refine ⟨List.replicate ms.length (p, a), List.mem_singleton.mpr rfl, ?_⟩
    rw [← List.eq_replicate_iff.mpr ⟨rfl, fun m hm => ?_⟩]
    obtain ⟨e1, e2⟩ := h m hm
    rw [← e1, ← List.mem_singleton.mp e2]
  | [a, c], _, h =>
    obtain ⟨k, hk, pk⟩ := rep_two p a c ms fun m hm => ⟨(h m hm).1, by simpa using (h m hm).2⟩
    exact ⟨_, List.mem_map.mpr ⟨k, List.mem_range.mpr (by omega), rfl⟩, pk⟩
/-! all ways -/
section
variable (go : Nat → List Nat) (c : Nat → Nat) (full : Bool)
def hereS (p : Nat) : List (List (Nat × Nat)) := if full = true then Km535.splits p (go p) (c p) else (List.range (c p + 1)).flatMap fun x => Km535.splits p (go p) x
def waysS (e : List Nat) (acc : List (List (Nat × Nat))) : List (List (Nat × Nat)) := e.foldl (fun w p => w.flatMap fun a => (hereS go c full p).map fun b => a ++ b) acc
def grpS (p : Nat) : List (Nat × List Nat) := List.replicate (c p) (p, go p)
variable {go c full}
theorem here_sel {p : Nat} (ht : (go p).length = 1 ∨ (go p).length = 2) {b : List (Nat × Nat)} (h : b ∈ hereS go c full p) : Sel (grpS go c p) b ∧ (full = true → b.length = c p) := by
  unfold hereS at h
  cases full with
  | true =>
    obtain ⟨h1, h2⟩ := splits_mem ht h
    exact ⟨(sel_rep _ _ _).mpr ⟨by omega, h2⟩, fun _ => h1⟩
  | false =>
    obtain ⟨x, hx, h⟩ := List.mem_flatMap.mp h
    have := List.mem_range.mp hx
    obtain ⟨h1, h2⟩ := splits_mem ht h
    exact ⟨(sel_rep _ _ _).mpr ⟨by omega, h2⟩, fun z => nomatch z⟩
theorem sel_here {p : Nat} (ht : (go p).length = 1 ∨ (go p).length = 2) {ms : List (Nat × Nat)} (h : Sel (grpS go c p) ms) (hf : full = true → ms.length = c p) : ∃ b ∈ hereS go c full p, b.Perm ms := by
  obtain ⟨h1, h2⟩ := (sel_rep _ _ _).mp h
  obtain ⟨b, hb, pb⟩ := splits_perm ht h2
  refine ⟨b, ?_, pb⟩
  unfold hereS
  cases full with
  | true =>
    rw [if_pos rfl, ← hf rfl]
    exact hb
  | false =>
    rw [if_neg (by decide)]
    exact List.mem_flatMap.mpr ⟨_, List.mem_range.mpr (by omega), hb⟩
theorem ways_sel' : ∀ (e : List Nat) (E0 : List (Nat × List Nat)) (acc : List (List (Nat × Nat))), (∀ p ∈ e, (go p).length = 1 ∨ (go p).length = 2) → (∀ a ∈ acc, Sel E0 a ∧ (full = true → a.length = E0.length)) →
    ∀ w ∈ waysS go c full e acc, Sel (E0 ++ e.flatMap (grpS go c)) w ∧ (full = true → w.length = (E0 ++ e.flatMap (grpS go c)).length)
  | [], E0, acc, _, h, w, hw => by
    rw [List.flatMap_nil, List.append_nil]
    exact h w hw
  | p :: e, E0, acc, hg, h, w, hw => by
    rw [List.flatMap_cons, ← List.append_assoc]
    refine ways_sel' e (E0 ++ grpS go c p) _ (fun q hq => hg q (List.mem_cons_of_mem _ hq)) (fun a ha => ?_) w hw
    obtain ⟨a0, ha0, ha⟩ := List.mem_flatMap.mp ha
    obtain ⟨b, hb, rfl⟩ := List.mem_map.mp ha
    obtain ⟨h1, h2⟩ := here_sel (hg p List.mem_cons_self) hb
    obtain ⟨h3, h4⟩ := h a0 ha0
    refine ⟨(sel_app _ _ _ rfl _).mpr ⟨a0, b, rfl, h3, h1⟩, fun f => ?_⟩
    rw [List.length_append, List.length_append, h2 f, h4 f]
    unfold grpS
    rw [List.length_replicate]
theorem sel_len {E : List (Nat × List Nat)} {ms : List (Nat × Nat)} (h : Sel E ms) : ms.length ≤ E.length := by
  induction h with
  | nil => exact Nat.le_refl _
  | skip _ ih => rw [List.length_append]; omega
  | take _ _ ih => rw [List.length_append, List.length_append]; exact Nat.succ_le_succ ih
theorem sel_ways : ∀ (e : List Nat) (E0 : List (Nat × List Nat)) (acc : List (List (Nat × Nat))), (∀ p ∈ e, (go p).length = 1 ∨ (go p).length = 2) → (∀ ms, Sel E0 ms → (full = true → ms.length = E0.length) → ∃ a ∈ acc, a.Perm ms) →
    ∀ ms, Sel (E0 ++ e.flatMap (grpS go c)) ms → (full = true → ms.length = (E0 ++ e.flatMap (grpS go c)).length) → ∃ w ∈ waysS go c full e acc, w.Perm ms
  | [], E0, acc, _, h, ms, hs, hf => by
    rw [List.flatMap_nil, List.append_nil] at hs hf
    exact h ms hs hf
  | p :: e, E0, acc, hg, h, ms, hs, hf => by
    rw [List.flatMap_cons, ← List.append_assoc] at hs hf
    refine sel_ways e (E0 ++ grpS go c p) _ (fun q hq => hg q (List.mem_cons_of_mem _ hq)) (fun ms hs hf => ?_) ms hs hf
    obtain ⟨m1, m2, rfl, h1, h2⟩ := (sel_app _ _ _ rfl _).mp hs
    have l1 := sel_len h1
    have l2 := sel_len h2
    have lg : (grpS go c p).length = c p := List.length_replicate
    rw [List.length_append, List.length_append] at hf
    obtain ⟨a, ha, pa⟩ := h m1 h1 fun f => by have := hf f; omega
    obtain ⟨b, hb, pb⟩ := sel_here (full := full) (hg p List.mem_cons_self) h2 fun f => by have := hf f; omega
    exact ⟨a ++ b, List.mem_flatMap.mpr ⟨a, ha, List.mem_map.mpr ⟨b, hb, rfl⟩⟩, pa.append pb⟩
end
end RG
namespace RG
def sightS (n e k : Nat) : Bool := (nsS n k).all fun l => (List.range n).all fun p => !(decide (0 < l.getD p 0)) || (decide ((sightM (iN l) p (e : Int)).lesser = iN (Km534.view ⟨l, e⟩ p).1) && decide ((Km534.view ⟨l, e⟩ p).1 ∈ seenS e l) && (List.range 3).all fun t => decide (endsM (sightM (iN l) p (e : Int)) (t : Int) n = Km535.goes ⟨⟨l, e⟩, [((Km534.view ⟨l, e⟩ p).1, t)], 0⟩ l p))
theorem sight_s : ∀ n, 3 ≤ n → n ≤ 7 → ∀ k, 1 ≤ k → k ≤ 3 → ∀ e, e ≤ 2 → sightS n e k = true := by
  have h : ∀ n, n < 8 → ∀ k, k < 4 → ∀ e, e < 3 → 3 ≤ n → 1 ≤ k → sightS n e k = true := by decide +kernel
  intro n h1 h2 k h3 h4 e h5
  exact h n (by omega) k (by omega) e (by omega) h1 h3
def idxS (ns : List (List Nat)) (x : List Nat) : Nat := (ns.findIdx? fun y => y == x).getD 0
def numS (n k : Nat) : Bool := decide (rowsI n k = (Km534.allRows n k).map iN) && (Km534.allRows n k).all fun r => decide (numM n k (iN r) = idxS (nsS n k) (Km534.name r)) && decide (Km534.name r ∈ nsS n k)
theorem num_s : ∀ n, 3 ≤ n → n ≤ 7 → ∀ k, 1 ≤ k → k ≤ 3 → numS n k = true := by
  have h : ∀ n, n < 8 → ∀ k, k < 4 → 3 ≤ n → 1 ≤ k → numS n k = true := by decide +kernel
  intro n h1 h2 k h3 h4
  exact h n (by omega) k (by omega) h1 h3
structure NameS (n k : Nat) (l : List Nat) : Prop where
  len : l.length = n
  sum : Km534.sum l = k
  tog : togetherM (iN l) = Km535.gathered l
  ap : apartM (iN l) = Km537.apart l
theorem names_s {n e k : Nat} (D : Dims n e k) : namesM n k = (nsS n k).map iN ∧ (nsS n k).Nodup := by
  have h := base_s n D.n3 D.n7 k D.k1 D.k3
  unfold baseS at h
  rw [Bool.and_eq_true, Bool.and_eq_true] at h
  exact ⟨of_decide_eq_true h.1.1, of_decide_eq_true h.2⟩
theorem name_s {n e k : Nat} (D : Dims n e k) {l : List Nat} (hl : l ∈ nsS n k) : NameS n k l := by
  have h := base_s n D.n3 D.n7 k D.k1 D.k3
  unfold baseS at h
  rw [Bool.and_eq_true, Bool.and_eq_true] at h
  have h := List.all_eq_true.mp h.1.2 l hl
  rw [Bool.and_eq_true, Bool.and_eq_true, Bool.and_eq_true] at h
  exact ⟨of_decide_eq_true h.1.1.1, of_decide_eq_true h.1.1.2, of_decide_eq_true h.1.2, of_decide_eq_true h.2⟩
theorem name_self {n k : Nat} {l : List Nat} (hl : l ∈ nsS n k) : Km534.name l = l := by
  have := (List.mem_filter.mp hl).2
  exact eq_of_beq this
structure SightS (n e k : Nat) (l : List Nat) (p : Nat) : Prop where
  lesser : (sightM (iN l) p (e : Int)).lesser = iN (Km534.view ⟨l, e⟩ p).1
  seen : (Km534.view ⟨l, e⟩ p).1 ∈ seenS e l
  ends : ∀ t : Nat, t < 3 → endsM (sightM (iN l) p (e : Int)) (t : Int) n = Km535.goes ⟨⟨l, e⟩, [((Km534.view ⟨l, e⟩ p).1, t)], 0⟩ l p
theorem sight_of {n e k : Nat} (D : Dims n e k) {l : List Nat} (hl : l ∈ nsS n k) {p : Nat} (hp : p < n) (h0 : 0 < l.getD p 0) : SightS n e k l p := by
  have h := sight_s n D.n3 D.n7 k D.k1 D.k3 e D.e2
  unfold sightS at h
  have h := List.all_eq_true.mp (List.all_eq_true.mp h l hl) p (List.mem_range.mpr hp)
  rw [decide_eq_true h0, Bool.not_true, Bool.false_or, Bool.and_eq_true, Bool.and_eq_true] at h
  exact ⟨of_decide_eq_true h.1.1, of_decide_eq_true h.1.2, fun t ht => of_decide_eq_true (List.all_eq_true.mp h.2 t (List.mem_range.mpr ht))⟩
theorem goes_told {D : Km535.Desk} {l : List Nat} {e p t : Nat} (he : D.see.eyes = e) (ht : Km535.told D (Km534.view ⟨l, e⟩ p).1 = t) : Km535.goes D l p = Km535.goes ⟨⟨l, e⟩, [((Km534.view ⟨l, e⟩ p).1, t)], 0⟩ l p := by
  have e1 : Km535.on D l = ⟨l, e⟩ := by unfold Km535.on; rw [he]
  have e2 : Km535.told ⟨⟨l, e⟩, [((Km534.view ⟨l, e⟩ p).1, t)], 0⟩ (Km534.view ⟨l, e⟩ p).1 = t := by
    unfold Km535.told
    simp
  unfold Km535.goes
  rw [e1]
  show (let v := Km534.view ⟨l, e⟩ p; _) = (let v := Km534.view ⟨l, e⟩ p; _)
  simp only [ht]
  have e3 : Km535.on ⟨⟨l, e⟩, [((Km534.view ⟨l, e⟩ p).1, t)], 0⟩ l = ⟨l, e⟩ := rfl
  rw [e3]
  simp only [e2]
/-- the desk tells as the rule does -/
structure TellS (n e k : Nat) (D : Km535.Desk) (tell : List Int → Int) (l : List Nat) : Prop where
  eyes : D.see.eyes = e
  told : ∀ p, p < n → 0 < l.getD p 0 → tell (iN (Km534.view ⟨l, e⟩ p).1) = (Km535.told D (Km534.view ⟨l, e⟩ p).1 : Nat) ∧ Km535.told D (Km534.view ⟨l, e⟩ p).1 < 3
abbrev eagS (e : Nat) (tell : List Int → Int) (l : List Nat) : Eager := eagerM (sightsM (iN l) (e : Int)) tell (iN l)
abbrev cS (l : List Nat) (p : Nat) : Nat := l.getD p 0
theorem ends_goes {n e k : Nat} (D : Dims n e k) {l : List Nat} (hl : l ∈ nsS n k) {d : Km535.Desk} {tell : List Int → Int} (T : TellS n e k d tell l) {p : Nat} (hp : p < n) (h0 : 0 < l.getD p 0) :
    endsM (sightM (iN l) p (e : Int)) (tell (sightM (iN l) p (e : Int)).lesser) n = Km535.goes d l p := by
  have S := sight_of D hl hp h0
  obtain ⟨t1, t2⟩ := T.told p hp h0
  rw [S.lesser, t1, S.ends _ t2, ← goes_told T.eyes rfl]
theorem eag_eq {n e k : Nat} (D : Dims n e k) {l : List Nat} (hl : l ∈ nsS n k) {d : Km535.Desk} {tell : List Int → Int} (T : TellS n e k d tell l) :
    eagS e tell l = (Km535.eager d l).flatMap (grpS (Km535.goes d l) (cS l)) := by
  have N := name_s D hl
  unfold eagS eagerM sightsM Km535.eager
  rw [show (iN l).length = l.length from List.length_map .., N.len]
  have key : ∀ P : List Nat, (∀ p ∈ P, p < n) → ((P.filter fun p => decide (0 < (iN l).getD p 0)).map fun p => sightM (iN l) p (e : Int)).flatMap (fun s => eagOf s (tell s.lesser) (iN l)) = (P.filter fun p => decide (0 < l.getD p 0) && Km535.goes d l p != []).flatMap (grpS (Km535.goes d l) (cS l)) := by
    intro P
    induction P with
    | nil => exact fun _ => rfl
    | cons p P ih =>
      intro h
      have ih := ih fun q hq => h q (List.mem_cons_of_mem _ hq)
      have hp := h p List.mem_cons_self
      rw [List.filter_cons, List.filter_cons]
      have e1 : decide (0 < (iN l).getD p 0) = decide (0 < l.getD p 0) := by
        rw [iN_get]
        by_cases c : 0 < l.getD p 0
        · rw [decide_eq_true c]; exact decide_eq_true (by omega)
        · rw [decide_eq_false c]; exact decide_eq_false (by omega)
      rw [e1]
      by_cases c : 0 < l.getD p 0
      · rw [decide_eq_true c, if_pos rfl, Bool.true_and, List.map_cons, List.flatMap_cons, ih]
        have eg := ends_goes D hl T hp c
        have e2 : eagOf (sightM (iN l) p (e : Int)) (tell (sightM (iN l) p (e : Int)).lesser) (iN l) = if Km535.goes d l p = [] then [] else grpS (Km535.goes d l) (cS l) p := by
          unfold eagOf
          rw [show (iN l).length = n from (List.length_map ..).trans N.len, eg]
          have e3 : ((iN l).getD (sightM (iN l) p (e : Int)).place.toNat 0).toNat = l.getD p 0 := by
            show ((iN l).getD ((p : Int).toNat) 0).toNat = _
            rw [Int.toNat_natCast, iN_get]
            rfl
          have e4 : (sightM (iN l) p (e : Int)).place.toNat = p := Int.toNat_natCast p
          rw [e3, e4]
          rfl
        rw [e2]
        by_cases g : Km535.goes d l p = []
        · rw [if_pos g, g]
          rfl
        · rw [if_neg g, if_pos (by simpa using g), List.flatMap_cons]
      · rw [decide_eq_false c, if_neg (by decide), Bool.false_and, if_neg (by decide)]
        exact ih
  exact key _ fun p hp => List.mem_range.mp hp
theorem goes_two (d : Km535.Desk) (l : List Nat) (p : Nat) (h : Km535.goes d l p ≠ []) : (Km535.goes d l p).length = 1 ∨ (Km535.goes d l p).length = 2 := by
  unfold Km535.goes at h ⊢
  dsimp only at h ⊢
  split
  · rename_i c
    rw [if_pos c] at h
    exact absurd rfl h
  · split
    · exact .inr rfl
    · split <;> exact .inl rfl
theorem eager_mem {d : Km535.Desk} {l : List Nat} {p : Nat} (h : p ∈ Km535.eager d l) : p < l.length ∧ 0 < l.getD p 0 ∧ Km535.goes d l p ≠ [] := by
  unfold Km535.eager at h
  obtain ⟨h1, h2⟩ := List.mem_filter.mp h
  rw [Bool.and_eq_true] at h2
  exact ⟨List.mem_range.mp h1, of_decide_eq_true h2.1, by simpa using h2.2⟩
/-! different ones -/
theorem diff_fold : ∀ (l o : List (List Nat)), (∀ x, x ∈ l.foldl (fun (o : List (List Nat)) (x : List Nat) => if o.contains x then o else o ++ [x]) o ↔ x ∈ o ∨ x ∈ l) ∧ (o.Nodup → (l.foldl (fun (o : List (List Nat)) (x : List Nat) => if o.contains x then o else o ++ [x]) o).Nodup)
  | [], o => ⟨fun x => by simp, fun h => h⟩
  | y :: l, o => by
    rw [List.foldl_cons]
    by_cases c : o.contains y = true
    · rw [if_pos c]
      obtain ⟨h1, h2⟩ := diff_fold l o
      have hy : y ∈ o := List.contains_iff_mem.mp c
      refine ⟨fun x => ?_, h2⟩
      rw [h1, List.mem_cons]
      constructor
      · rintro (h | h)
        · exact .inl h
        · exact .inr (.inr h)
      · rintro (h | h | h)
        · exact .inl h
        · exact .inl (h ▸ hy)
        · exact .inr h
    · rw [if_neg c]
      obtain ⟨h1, h2⟩ := diff_fold l (o ++ [y])
      have hy : y ∉ o := fun z => c (List.contains_iff_mem.mpr z)
      refine ⟨fun x => ?_, fun h => h2 ?_⟩
      · rw [h1, List.mem_append, List.mem_singleton, List.mem_cons, or_assoc]
      · rw [List.nodup_append]
        refine ⟨h, List.nodup_cons.mpr ⟨(fun z => nomatch z), List.nodup_nil⟩, fun a ha b hb z => ?_⟩
        rw [List.mem_singleton.mp hb] at z
        exact hy (z ▸ ha)
theorem diff_mem {l : List (List Nat)} {x : List Nat} : x ∈ Km535.different l ↔ x ∈ l := by
  unfold Km535.different
  rw [(diff_fold l []).1]
  simp
theorem diff_nodup (l : List (List Nat)) : (Km535.different l).Nodup := (diff_fold l []).2 List.nodup_nil
/-! rings that may come -/
theorem sel_none : ∀ (n : Nat) (E : List (Nat × List Nat)), E.length = n → Sel E []
  | 0, E, h => by rw [List.length_eq_zero_iff.mp h]; exact .nil
  | n + 1, E, h => by
    obtain ⟨E', x, rfl, hl⟩ := snoc_of h
    exact .skip (sel_none n E' hl)
theorem sel_one : ∀ (n : Nat) (E : List (Nat × List Nat)), E.length = n → ∀ x ∈ E, ∀ q ∈ x.2, Sel E [(x.1, q)]
  | 0, E, h, x, hx, _, _ => by rw [List.length_eq_zero_iff.mp h] at hx; cases hx
  | n + 1, E, h, x, hx, q, hq => by
    obtain ⟨E', y, rfl, hl⟩ := snoc_of h
    rcases List.mem_append.mp hx with hx | hx
    · exact .skip (sel_one n E' hl x hx q hq)
    · rw [List.mem_singleton.mp hx] at hq ⊢
      exact Sel.take (ms := []) (sel_none _ _ rfl) hq
theorem sel_full : ∀ (n : Nat) (E : List (Nat × List Nat)), E.length = n → (∀ x ∈ E, x.2 ≠ []) → ∃ ms, Sel E ms ∧ ms.length = n
  | 0, E, h, _ => ⟨[], by rw [List.length_eq_zero_iff.mp h]; exact .nil, rfl⟩
  | n + 1, E, h, hn => by
    obtain ⟨E', y, rfl, hl⟩ := snoc_of h
    obtain ⟨ms, h1, h2⟩ := sel_full n E' hl fun x hx => hn x (List.mem_append_left _ hx)
    obtain ⟨q, r, e⟩ := List.exists_cons_of_ne_nil (hn y (List.mem_append_right _ (List.mem_singleton.mpr rfl)))
    exact ⟨ms ++ [(y.1, q)], .take h1 (by rw [e]; exact List.mem_cons_self), by rw [List.length_append, h2]; rfl⟩
theorem nextBy_iff {n e k : Nat} (D : Dims n e k) {l : List Nat} (hl : l ∈ nsS n k) {d : Km535.Desk} {tell : List Int → Int} (T : TellS n e k d tell l) {a : Nat} (ha : a ≤ 2) (r : List Nat) :
    r ∈ Km535.nextBy d a l ↔ ∃ ms, Sel (eagS e tell l) ms ∧ isMoveM (ms.length : Nat) (eagS e tell l).length (a : Int) = true ∧ iN r = doAllM (iN l) ms := by
  have N := name_s D hl
  have hR : RingOk n k (iN l) := dm_ring D (by rw [(names_s D).1]; exact List.mem_map.mpr ⟨l, hl, rfl⟩)
  have n0 : 0 < n := by have := D.n3; omega
  obtain ⟨_, _, hc⟩ := eager_ok (e : Int) tell hR n0
  have hcnt : ∀ ms, Sel (eagS e tell l) ms → ∀ p, cnt ms p ≤ l.getD p 0 := fun ms hs p => by
    have h1 := sel_cnt hs p
    have h2 := hc p
    rw [iN_get, Int.toNat_natCast] at h2
    exact Nat.le_trans h1 h2
  have E := eag_eq D hl T
  have hg : ∀ p ∈ Km535.eager d l, (Km535.goes d l p).length = 1 ∨ (Km535.goes d l p).length = 2 := fun p hp => goes_two d l p (eager_mem hp).2.2
  have hin : ∀ x ∈ eagS e tell l, x.1 ∈ Km535.eager d l ∧ x.2 = Km535.goes d l x.1 := fun x hx => by
    rw [E] at hx
    obtain ⟨p, hp, hx⟩ := List.mem_flatMap.mp hx
    rw [(List.mem_replicate.mp hx).2]
    exact ⟨hp, rfl⟩
  have many : ∀ full : Bool, (∃ w ∈ waysS (Km535.goes d l) (cS l) full (Km535.eager d l) [[]], w ≠ [] ∧ r = Km535.doAll l w) ↔ ∃ ms, Sel (eagS e tell l) ms ∧ (1 ≤ ms.length ∧ (full = true → ms.length = (eagS e tell l).length)) ∧ iN r = doAllM (iN l) ms := by
    intro full
    constructor
    · rintro ⟨w, hw, hne, rfl⟩
      obtain ⟨h1, h2⟩ := ways_sel' (full := full) (Km535.eager d l) [] [[]] hg (fun a ha => by rw [List.mem_singleton.mp ha]; exact ⟨.nil, fun _ => rfl⟩) w hw
      rw [List.nil_append, ← E] at h1 h2
      exact ⟨w, h1, ⟨List.length_pos_iff.mpr hne, h2⟩, doAll_nat w l (hcnt w h1)⟩
    · rintro ⟨ms, hs, ⟨h1, h2⟩, e3⟩
      have hs' := hs
      rw [E, ← List.nil_append (List.flatMap _ _)] at hs'
      obtain ⟨w, hw, pw⟩ := sel_ways (full := full) (Km535.eager d l) [] [[]] hg (fun ms hs _ => by rw [sel_nil hs]; exact ⟨[], List.mem_singleton.mpr rfl, .nil⟩) ms hs' (fun f => by rw [List.nil_append, ← E]; exact h2 f)
      obtain ⟨s1, _⟩ := ways_sel' (full := full) (Km535.eager d l) [] [[]] hg (fun a ha => by rw [List.mem_singleton.mp ha]; exact ⟨.nil, fun _ => rfl⟩) w hw
      rw [List.nil_append, ← E] at s1
      refine ⟨w, hw, fun z => ?_, iN_inj ?_⟩
      · rw [z] at pw
        rw [← pw.length_eq] at h1
        cases h1
      · rw [e3, doAll_nat w l (hcnt w s1), doAll_perm pw]
  match a, ha with
  | 0, _ =>
    show r ∈ Km535.different ((Km535.eager d l).flatMap fun p => (Km535.goes d l p).map fun q => Km535.move l p q) ↔ _
    rw [diff_mem]
    constructor
    · intro h
      obtain ⟨p, hp, h⟩ := List.mem_flatMap.mp h
      obtain ⟨q, hq, rfl⟩ := List.mem_map.mp h
      obtain ⟨h1, h2, h3⟩ := eager_mem hp
      have hx : (p, Km535.goes d l p) ∈ eagS e tell l := by
        rw [E]
        exact List.mem_flatMap.mpr ⟨p, hp, List.mem_replicate.mpr ⟨by show l.getD p 0 ≠ 0; omega, rfl⟩⟩
      exact ⟨[(p, q)], sel_one _ _ rfl _ hx q hq, rfl, move_gone h2⟩
    · rintro ⟨ms, hs, hm, e3⟩
      have hm : ((ms.length : Nat) : Int) = 1 := of_decide_eq_true hm
      match ms, hs, hm, e3 with
      | [m], hs, _, e3 =>
        obtain ⟨x, hx, e1, e2⟩ := sel_mem hs m List.mem_cons_self
        obtain ⟨g1, g2⟩ := hin x hx
        rw [g2, ← e1] at e2
        rw [← e1] at g1
        refine List.mem_flatMap.mpr ⟨m.1, g1, List.mem_map.mpr ⟨m.2, e2, iN_inj ?_⟩⟩
        rw [move_gone (eager_mem g1).2.1, e3]
        rfl
      | [], _, hm, _ => cases hm
      | _ :: _ :: _, _, hm, _ => simp only [List.length_cons] at hm; omega
  | 1, _ =>
    show r ∈ Km535.different (((waysS (Km535.goes d l) (cS l) false (Km535.eager d l) [[]]).filter fun w => w != []).map fun w => Km535.doAll l w) ↔ _
    rw [diff_mem, List.mem_map]
    constructor
    · rintro ⟨w, hw, rfl⟩
      obtain ⟨h1, h2⟩ := List.mem_filter.mp hw
      obtain ⟨ms, s1, s2, s3⟩ := (many false).mp ⟨w, h1, by simpa using h2, rfl⟩
      exact ⟨ms, s1, decide_eq_true (by omega), s3⟩
    · rintro ⟨ms, s1, s2, s3⟩
      have s2 : (1 : Int) ≤ (ms.length : Nat) := of_decide_eq_true s2
      obtain ⟨w, h1, h2, h3⟩ := (many false).mpr ⟨ms, s1, ⟨by omega, fun z => nomatch z⟩, s3⟩
      exact ⟨w, List.mem_filter.mpr ⟨h1, by simpa using h2⟩, h3.symm⟩
  | 2, _ =>
    show r ∈ Km535.different (((waysS (Km535.goes d l) (cS l) true (Km535.eager d l) [[]]).filter fun w => w != []).map fun w => Km535.doAll l w) ↔ _
    rw [diff_mem, List.mem_map]
    constructor
    · rintro ⟨w, hw, rfl⟩
      obtain ⟨h1, h2⟩ := List.mem_filter.mp hw
      obtain ⟨ms, s1, s2, s3⟩ := (many true).mp ⟨w, h1, by simpa using h2, rfl⟩
      refine ⟨ms, s1, ?_, s3⟩
      show (decide ((1 : Int) ≤ (ms.length : Nat)) && decide (((ms.length : Nat) : Int) = ((eagS e tell l).length : Int))) = true
      rw [Bool.and_eq_true]
      exact ⟨decide_eq_true (by omega), decide_eq_true (by rw [s2.2 rfl])⟩
    · rintro ⟨ms, s1, s2, s3⟩
      have s2 : (decide ((1 : Int) ≤ (ms.length : Nat)) && decide (((ms.length : Nat) : Int) = ((eagS e tell l).length : Int))) = true := s2
      rw [Bool.and_eq_true] at s2
      have s4 := of_decide_eq_true s2.1
      have s5 := of_decide_eq_true s2.2
      obtain ⟨w, h1, h2, h3⟩ := (many true).mpr ⟨ms, s1, ⟨by omega, fun _ => by omega⟩, s3⟩
      exact ⟨w, List.mem_filter.mpr ⟨h1, by simpa using h2⟩, h3.symm⟩
end RG
namespace RG
/-! ### sorted lists -/
theorem strict_ext : ∀ {l m : List Nat}, l.Pairwise (· < ·) → m.Pairwise (· < ·) → (∀ x, x ∈ l ↔ x ∈ m) → l = m
  | [], [], _, _, _ => rfl
  | [], y :: m, _, _, h => by have := (h y).mpr List.mem_cons_self; cases this
  | x :: l, [], _, _, h => by have := (h x).mp List.mem_cons_self; cases this
  | x :: l, y :: m, h1, h2, h => by
    obtain ⟨a1, a2⟩ := List.pairwise_cons.mp h1
    obtain ⟨b1, b2⟩ := List.pairwise_cons.mp h2
    have e : x = y := by
      rcases List.mem_cons.mp ((h x).mp List.mem_cons_self) with e | e
      · exact e
      · rcases List.mem_cons.mp ((h y).mpr List.mem_cons_self) with e2 | e2
        · exact e2.symm
        · have := b1 x e
          have := a1 y e2
          omega
    subst e
    rw [strict_ext a2 b2 fun z => ?_]
    constructor
    · intro hz
      rcases List.mem_cons.mp ((h z).mp (List.mem_cons_of_mem _ hz)) with e | e
      · have := a1 z hz; omega
      · exact e
    · intro hz
      rcases List.mem_cons.mp ((h z).mpr (List.mem_cons_of_mem _ hz)) with e | e
      · have := b1 z hz; omega
      · exact e
theorem strict_of {l : List Nat} (h : l.Pairwise (· ≤ ·)) (n : l.Nodup) : l.Pairwise (· < ·) := by
  refine (h.and n).imp fun ⟨a, b⟩ => ?_
  have : _ ≠ _ := b
  omega
theorem insS_mem (x y : Nat) : ∀ l : List Nat, y ∈ Km538.insertN x l ↔ y = x ∨ y ∈ l
  | [] => by show y ∈ [x] ↔ _; simp
  | z :: r => by
    show y ∈ (if x < z then x :: z :: r else if x = z then z :: r else z :: Km538.insertN x r) ↔ _
    split
    · rw [List.mem_cons]
    · split
      · rename_i h
        rw [h, List.mem_cons]
        constructor
        · exact fun h => .inr h
        · rintro (h | h)
          · exact .inl h
          · exact h
      · rw [List.mem_cons, insS_mem x y r, List.mem_cons]
        constructor
        · rintro (h | h | h)
          · exact .inr (.inl h)
          · exact .inl h
          · exact .inr (.inr h)
        · rintro (h | h | h)
          · exact .inr (.inl h)
          · exact .inl h
          · exact .inr (.inr h)
theorem insS_strict (x : Nat) : ∀ {l : List Nat}, l.Pairwise (· < ·) → (Km538.insertN x l).Pairwise (· < ·)
  | [], _ => List.pairwise_cons.mpr ⟨(fun _ z => nomatch z), .nil⟩
  | z :: r, h => by
    obtain ⟨h1, h2⟩ := List.pairwise_cons.mp h
    show (if x < z then x :: z :: r else if x = z then z :: r else z :: Km538.insertN x r).Pairwise (· < ·)
    split
    · refine List.pairwise_cons.mpr ⟨fun y hy => ?_, h⟩
      rcases List.mem_cons.mp hy with e | hy
      · omega
      · have := h1 y hy; omega
    · split
      · exact h
      · refine List.pairwise_cons.mpr ⟨fun y hy => ?_, insS_strict x h2⟩
        rcases (insS_mem x y r).mp hy with e | hy
        · omega
        · exact h1 y hy
theorem foldS : ∀ (xs o : List Nat), o.Pairwise (· < ·) → (xs.foldl (fun (o : List Nat) (x : Nat) => Km538.insertN x o) o).Pairwise (· < ·) ∧ ∀ y, y ∈ xs.foldl (fun (o : List Nat) (x : Nat) => Km538.insertN x o) o ↔ y ∈ o ∨ y ∈ xs
  | [], o, h => ⟨h, fun y => by simp⟩
  | x :: xs, o, h => by
    obtain ⟨h1, h2⟩ := foldS xs (Km538.insertN x o) (insS_strict x h)
    rw [List.foldl_cons]
    refine ⟨h1, fun y => ?_⟩
    rw [h2, insS_mem, List.mem_cons]
    constructor
    · rintro ((h | h) | h)
      · exact .inr (.inl h)
      · exact .inl h
      · exact .inr (.inr h)
    · rintro (h | h | h)
      · exact .inl (.inr h)
      · exact .inl (.inl h)
      · exact .inr h
theorem keysS {n k E : Nat} {m : Int} : ∀ (W : List NKey) (o : List Nat), (∀ j, j ∈ W.foldl (keyStep n k E m) o ↔ j ∈ o ∨ ∃ y ∈ W, isMoveM y.1 E m = true ∧ j = numM n k y.2) ∧ (o.Nodup → (W.foldl (keyStep n k E m) o).Nodup)
  | [], o => ⟨fun j => by simp, fun h => h⟩
  | y :: W, o => by
    rw [List.foldl_cons]
    obtain ⟨h1, h2⟩ := keysS (n := n) (k := k) (E := E) (m := m) W (keyStep n k E m o y)
    have h3 : ∀ j, j ∈ keyStep n k E m o y ↔ j ∈ o ∨ (isMoveM y.1 E m = true ∧ j = numM n k y.2) := fun j => by
      unfold keyStep
      split
      · rename_i c
        rw [addK_mem]
        simp [c]
      · rename_i c
        simp [c]
    refine ⟨fun j => ?_, fun h => h2 ?_⟩
    · rw [h1, h3]
      constructor
      · rintro ((h | h) | ⟨z, hz, h⟩)
        · exact .inl h
        · exact .inr ⟨y, List.mem_cons_self, h⟩
        · exact .inr ⟨z, List.mem_cons_of_mem _ hz, h⟩
      · rintro (h | ⟨z, hz, h⟩)
        · exact .inl (.inl h)
        · rcases List.mem_cons.mp hz with e | hz
          · exact .inl (.inr (e ▸ h))
          · exact .inr ⟨z, hz, h⟩
    · unfold keyStep
      split
      · unfold addK
        split
        · exact h
        · rename_i c
          rw [List.nodup_append]
          refine ⟨h, List.nodup_cons.mpr ⟨(fun z => nomatch z), List.nodup_nil⟩, fun a ha b hb z => ?_⟩
          rw [List.mem_singleton.mp hb] at z
          exact c (z ▸ ha)
      · exact h
/-! ### names that may come -/
theorem ring_nat {n k : Nat} {y : List Int} (h : RingOk n k y) : ∃ r : List Nat, y = iN r := by
  refine ⟨y.map Int.toNat, ?_⟩
  unfold iN
  rw [List.map_map]
  refine (List.map_congr_left fun x hx => ?_).symm.trans (List.map_id y) |>.symm
  exact (Int.toNat_of_nonneg (h.pos x hx)).symm
theorem num_name {n e k : Nat} (D : Dims n e k) {r : List Nat} (h : RingOk n k (iN r)) : numM n k (iN r) = idxS (nsS n k) (Km534.name r) ∧ Km534.name r ∈ nsS n k := by
  have t := num_s n D.n3 D.n7 k D.k1 D.k3
  unfold numS at t
  rw [Bool.and_eq_true] at t
  have h1 := rows_mem n k _ h
  rw [of_decide_eq_true t.1] at h1
  obtain ⟨r', h2, e2⟩ := List.mem_map.mp h1
  rw [iN_inj e2] at h2
  have h3 := List.all_eq_true.mp t.2 r h2
  rw [Bool.and_eq_true] at h3
  exact ⟨of_decide_eq_true h3.1, of_decide_eq_true h3.2⟩
theorem nextBy_ring {n e k : Nat} (D : Dims n e k) {l : List Nat} (hl : l ∈ nsS n k) {d : Km535.Desk} {tell : List Int → Int} (T : TellS n e k d tell l) {a : Nat} (ha : a ≤ 2) {r : List Nat} (h : r ∈ Km535.nextBy d a l) : RingOk n k (iN r) := by
  obtain ⟨ms, h1, _, h3⟩ := (nextBy_iff D hl T ha r).mp h
  rw [h3]
  have hR : RingOk n k (iN l) := dm_ring D (by rw [(names_s D).1]; exact List.mem_map.mpr ⟨l, hl, rfl⟩)
  exact ways_ring (e := (e : Int)) (tell := tell) hR (by have := D.n3; omega) (y := ((ms.length : Int), doAllM (iN l) ms)) ((ways_sel _ _ _ rfl _).mpr ⟨ms, h1, rfl⟩)
theorem nextNames_mem {d : Km535.Desk} {a : Nat} {l x : List Nat} : x ∈ Km535.nextNames d a l ↔ ∃ r ∈ Km535.nextBy d a l, x = Km534.name r := by
  unfold Km535.nextNames
  rw [diff_mem, List.mem_map]
  exact ⟨fun ⟨r, h, e⟩ => ⟨r, h, e.symm⟩, fun ⟨r, h, e⟩ => ⟨r, h, e.symm⟩⟩
theorem next_in {n e k : Nat} (D : Dims n e k) {l : List Nat} (hl : l ∈ nsS n k) {d : Km535.Desk} {tell : List Int → Int} (T : TellS n e k d tell l) {a : Nat} (ha : a ≤ 2) {x : List Nat} (h : x ∈ Km535.nextNames d a l) : x ∈ nsS n k := by
  obtain ⟨r, hr, rfl⟩ := nextNames_mem.mp h
  exact (num_name D (nextBy_ring D hl T ha hr)).2
def nxS (ns : List (List Nat)) (d : Km535.Desk) (a : Nat) (l : List Nat) : List Nat := ((Km535.nextNames d a l).map (idxS ns)).foldl (fun (o : List Nat) (x : Nat) => Km538.insertN x o) []
theorem nx_mem (ns : List (List Nat)) (d : Km535.Desk) (a : Nat) (l : List Nat) (j : Nat) : j ∈ nxS ns d a l ↔ ∃ x ∈ Km535.nextNames d a l, j = idxS ns x := by
  unfold nxS
  rw [(foldS _ [] .nil).2, List.mem_map]
  constructor
  · rintro (h | ⟨x, h, e⟩)
    · cases h
    · exact ⟨x, h, e.symm⟩
  · rintro ⟨x, h, e⟩
    exact .inr ⟨x, h, e.symm⟩
theorem ahead_s {n e k : Nat} (D : Dims n e k) {l : List Nat} (hl : l ∈ nsS n k) {d : Km535.Desk} {tell : List Int → Int} (T : TellS n e k d tell l) {a : Nat} (ha : a ≤ 2) :
    sortN (aheadKeys n k (eagS e tell l) (iN l) (a : Int)) = nxS (nsS n k) d a l := by
  refine strict_ext (strict_of (sortN_sorted _) ((sortN_perm _).nodup_iff.mpr ((keysS _ _).2 List.nodup_nil))) (foldS _ [] .nil).1 fun j => ?_
  have e1 : j ∈ sortN (aheadKeys n k (eagS e tell l) (iN l) (a : Int)) ↔ j ∈ aheadKeys n k (eagS e tell l) (iN l) (a : Int) := (sortN_perm _).mem_iff
  have hR : RingOk n k (iN l) := dm_ring D (by rw [(names_s D).1]; exact List.mem_map.mpr ⟨l, hl, rfl⟩)
  have n0 : 0 < n := by have := D.n3; omega
  rw [e1]
  unfold aheadKeys
  rw [(keysS _ _).1]
  show _ ↔ j ∈ nxS (nsS n k) d a l
  rw [nx_mem]
  constructor
  · rintro (h | ⟨y, hy, hm, rfl⟩)
    · cases h
    · have ry := ways_ring hR n0 hy
      obtain ⟨ms, hs, rfl⟩ := (ways_sel _ _ _ rfl y).mp hy
      obtain ⟨r, er⟩ := ring_nat ry
      have er : doAllM (iN l) ms = iN r := er
      have hr := (nextBy_iff D hl T ha r).mpr ⟨ms, hs, hm, er.symm⟩
      refine ⟨Km534.name r, nextNames_mem.mpr ⟨r, hr, rfl⟩, ?_⟩
      show numM n k (doAllM (iN l) ms) = _
      rw [er] at ry ⊢
      exact (num_name D ry).1
  · rintro ⟨x, hx, rfl⟩
    obtain ⟨r, hr, rfl⟩ := nextNames_mem.mp hx
    obtain ⟨ms, hs, hm, er⟩ := (nextBy_iff D hl T ha r).mp hr
    refine .inr ⟨((ms.length : Int), doAllM (iN l) ms), (ways_sel _ _ _ rfl _).mpr ⟨ms, hs, rfl⟩, hm, ?_⟩
    show _ = numM n k (doAllM (iN l) ms)
    rw [← er]
    exact (num_name D (nextBy_ring D hl T ha hr)).1.symm
/-- somebody is eager: some name may come -/
theorem eager_next {n e k : Nat} (D : Dims n e k) {l : List Nat} (hl : l ∈ nsS n k) {d : Km535.Desk} {tell : List Int → Int} (T : TellS n e k d tell l) {a : Nat} (ha : a ≤ 2) :
    Km535.eager d l = [] ↔ Km535.nextNames d a l = [] := by
  have E := eag_eq D hl T
  constructor
  · intro h
    rw [h, List.flatMap_nil] at E
    refine List.eq_nil_iff_forall_not_mem.mpr fun x hx => ?_
    obtain ⟨r, hr, rfl⟩ := nextNames_mem.mp hx
    obtain ⟨ms, hs, hm, _⟩ := (nextBy_iff D hl T ha r).mp hr
    rw [E] at hs hm
    rw [sel_nil hs] at hm
    match a, ha with
    | 0, _ => cases hm
    | 1, _ => cases hm
    | 2, _ => cases hm
  · intro h
    refine Classical.byContradiction fun hne => ?_
    obtain ⟨p, hp⟩ := List.exists_mem_of_ne_nil _ hne
    obtain ⟨h1, h2, h3⟩ := eager_mem hp
    obtain ⟨q, hq⟩ := List.exists_mem_of_ne_nil _ h3
    have hx : (p, Km535.goes d l p) ∈ eagS e tell l := by
      rw [E]
      exact List.mem_flatMap.mpr ⟨p, hp, List.mem_replicate.mpr ⟨by show l.getD p 0 ≠ 0; omega, rfl⟩⟩
    have hall : ∀ x ∈ eagS e tell l, x.2 ≠ [] := fun x hx => by
      rw [E] at hx
      obtain ⟨p, hp, hx⟩ := List.mem_flatMap.mp hx
      rw [(List.mem_replicate.mp hx).2]
      exact (eager_mem hp).2.2
    have hR : RingOk n k (iN l) := dm_ring D (by rw [(names_s D).1]; exact List.mem_map.mpr ⟨l, hl, rfl⟩)
    have n0 : 0 < n := by have := D.n3; omega
    have done : ∀ ms, Sel (eagS e tell l) ms → isMoveM (ms.length : Nat) (eagS e tell l).length (a : Int) = true → False := fun ms hs hm => by
      obtain ⟨r, er⟩ := ring_nat (ways_ring hR n0 (y := ((ms.length : Int), doAllM (iN l) ms)) ((ways_sel _ _ _ rfl _).mpr ⟨ms, hs, rfl⟩))
      have er : doAllM (iN l) ms = iN r := er
      have hr := nextNames_mem.mpr ⟨r, (nextBy_iff D hl T ha r).mpr ⟨ms, hs, hm, er.symm⟩, rfl⟩
      rw [h] at hr
      cases hr
    match a, ha, done with
    | 0, _, done => exact done _ (sel_one _ _ rfl _ hx q hq) rfl
    | 1, _, done => exact done _ (sel_one _ _ rfl _ hx q hq) rfl
    | 2, _, done =>
      obtain ⟨ms, hs, hlen⟩ := sel_full _ _ rfl hall
      have pos : 0 < (eagS e tell l).length := List.length_pos_of_mem hx
      refine done ms hs ?_
      show (decide ((1 : Int) ≤ (ms.length : Nat)) && decide (((ms.length : Nat) : Int) = ((eagS e tell l).length : Int))) = true
      rw [Bool.and_eq_true]
      exact ⟨decide_eq_true (by omega), decide_eq_true (by rw [hlen])⟩
end RG
namespace RG
/-! ### plays by names -/
theorem filter_lt {α : Type} {p q : α → Bool} : ∀ {l : List α}, (∀ x ∈ l, q x = true → p x = true) → (∃ x ∈ l, p x = true ∧ q x = false) → (l.filter q).length < (l.filter p).length
  | [], _, ⟨x, hx, _⟩ => by cases hx
  | y :: l, h, ⟨x, hx, h1, h2⟩ => by
    have le : ∀ l : List α, (∀ x ∈ l, q x = true → p x = true) → (l.filter q).length ≤ (l.filter p).length := by
      intro l
      induction l with
      | nil => exact fun _ => Nat.le_refl _
      | cons z l ih =>
        intro h
        have ih := ih fun x hx => h x (List.mem_cons_of_mem _ hx)
        rw [List.filter_cons, List.filter_cons]
        by_cases c : q z = true
        · rw [if_pos c, if_pos (h z List.mem_cons_self c)]
          exact Nat.succ_le_succ ih
        · rw [if_neg c]
          split
          · exact Nat.le_succ_of_le ih
          · exact ih
    rw [List.filter_cons, List.filter_cons]
    rcases List.mem_cons.mp hx with e | hx
    · rw [← e, if_pos h1, if_neg (by rw [h2]; decide)]
      exact Nat.lt_succ_of_le (le l fun x hx => h x (List.mem_cons_of_mem _ hx))
    · have ih := filter_lt (l := l) (fun x hx => h x (List.mem_cons_of_mem _ hx)) ⟨x, hx, h1, h2⟩
      by_cases c : q y = true
      · rw [if_pos c, if_pos (h y List.mem_cons_self c)]
        exact Nat.succ_lt_succ ih
      · rw [if_neg c]
        split
        · exact Nat.lt_succ_of_lt ih
        · exact ih
section
variable {d : Km535.Desk} {a : Nat} {ns : List (List Nat)}
abbrev nxN (d : Km535.Desk) (a : Nat) (x : List Nat) : List (List Nat) := Km535.nextNames d a x
abbrev dnN (d : Km535.Desk) (x : List Nat) : Bool := Km536.done d x
/-- a game on names -/
structure Game (d : Km535.Desk) (a : Nat) (ns : List (List Nat)) : Prop where
  into : ∀ x ∈ ns, ∀ y ∈ nxN d a x, y ∈ ns
  eag : ∀ x ∈ ns, (Km535.eager d x = [] ↔ nxN d a x = [])
abbrev SureN (d : Km535.Desk) (a : Nat) (t : Nat) (x : List Nat) : Bool := SureIn (nxN d a) (dnN d) t x
abbrev CanN (d : Km535.Desk) (a : Nat) (t : Nat) (x : List Nat) : Bool := CanIn (nxN d a) (dnN d) t x
def rowN (d : Km535.Desk) (a : Nat) (r : List Nat) : Km536.Row := ⟨r, Km536.done d r, Km535.eager d r != [], Km535.nextNames d a r⟩
abbrev SuO : Type := List (List Nat × Nat)
def inO (o : SuO) (x : List Nat) : Bool := o.any fun q => q.1 == x
theorem inO_iff {o : SuO} {x : List Nat} : inO o x = true ↔ ∃ m, (x, m) ∈ o := by
  unfold inO
  rw [List.any_eq_true]
  constructor
  · rintro ⟨q, hq, e⟩
    have e : q.1 = x := eq_of_beq e
    exact ⟨q.2, by rw [← e]; exact hq⟩
  · rintro ⟨m, h⟩
    exact ⟨(x, m), h, beq_self_eq_true x⟩
structure SuInv (d : Km535.Desk) (a : Nat) (ns : List (List Nat)) (k : Nat) (o : SuO) : Prop where
  ok : ∀ x m, (x, m) ∈ o → x ∈ ns ∧ m < k ∧ Least (fun t => SureN d a t x) (some m)
  all : ∀ x ∈ ns, ∀ t, t < k → SureN d a t x = true → inO o x = true
structure SuFin (d : Km535.Desk) (a : Nat) (ns : List (List Nat)) (o : SuO) : Prop where
  ok : ∀ x m, (x, m) ∈ o → Least (fun t => SureN d a t x) (some m)
  all : ∀ x ∈ ns, ∀ t, SureN d a t x = true → inO o x = true
def testN (k : Nat) (o : SuO) (r : Km536.Row) : Bool := !(o.any fun q => q.1 == r.name) && (if k = 0 then r.done else r.eager && r.next.all fun x => o.any fun q => q.1 == x)
theorem test_iff (G : Game d a ns) {k : Nat} {o : SuO} (I : SuInv d a ns k o) {x : List Nat} (hx : x ∈ ns) : testN k o (rowN d a x) = true ↔ inO o x = false ∧ SureN d a k x = true := by
  unfold testN
  rw [Bool.and_eq_true, Bool.not_eq_true']
  show inO o x = false ∧ _ ↔ _
  refine and_congr_right fun h0 => ?_
  cases k with
  | zero =>
    rw [if_pos rfl]
    exact Iff.rfl
  | succ k =>
    rw [if_neg (Nat.succ_ne_zero k), Bool.and_eq_true, List.all_eq_true]
    show (Km535.eager d x != []) = true ∧ (∀ y ∈ nxN d a x, inO o y = true) ↔ _
    rw [show SureN d a (k + 1) x = true ↔ _ from sure_succ]
    have hd : ¬ dnN d x = true := fun z => by
      have := I.all x hx 0 (Nat.zero_lt_succ k) z
      rw [h0] at this
      cases this
    have he : (Km535.eager d x != []) = true ↔ nxN d a x ≠ [] := by
      rw [bne_iff_ne, Ne, G.eag x hx]
    rw [he]
    constructor
    · rintro ⟨h1, h2⟩
      refine .inr ⟨h1, fun y hy => ?_⟩
      obtain ⟨m, hm⟩ := inO_iff.mp (h2 y hy)
      obtain ⟨_, h3, h4⟩ := I.ok y m hm
      exact sure_mono (Nat.le_of_lt_succ h3) h4.1
    · rintro (h | ⟨h1, h2⟩)
      · exact absurd h hd
      · exact ⟨h1, fun y hy => I.all y (G.into x hx y hy) k (Nat.lt_succ_self k) (h2 y hy)⟩
def moreN (d : Km535.Desk) (a : Nat) (ns : List (List Nat)) (k : Nat) (o : SuO) : List Km536.Row := (ns.map (rowN d a)).filter (testN k o)
theorem more_mem (G : Game d a ns) {k : Nat} {o : SuO} (I : SuInv d a ns k o) {x : List Nat} {m : Nat} : (x, m) ∈ (moreN d a ns k o).map (fun r => (r.name, k)) ↔ m = k ∧ x ∈ ns ∧ inO o x = false ∧ SureN d a k x = true := by
  unfold moreN
  rw [List.mem_map]
  constructor
  · rintro ⟨r, hr, e⟩
    obtain ⟨h1, h2⟩ := List.mem_filter.mp hr
    obtain ⟨y, hy, rfl⟩ := List.mem_map.mp h1
    cases e
    exact ⟨rfl, hy, (test_iff G I hy).mp h2⟩
  · rintro ⟨rfl, hx, h⟩
    exact ⟨rowN d a x, List.mem_filter.mpr ⟨List.mem_map.mpr ⟨x, hx, rfl⟩, (test_iff G I hx).mpr h⟩, rfl⟩
theorem inO_app {o p : SuO} {x : List Nat} : inO (o ++ p) x = (inO o x || inO p x) := List.any_append
theorem su_step (G : Game d a ns) {k : Nat} {o : SuO} (I : SuInv d a ns k o) : SuInv d a ns (k + 1) (o ++ (moreN d a ns k o).map (fun r => (r.name, k))) := by
  refine ⟨fun x m h => ?_, fun x hx t ht h => ?_⟩
  · rcases List.mem_append.mp h with h | h
    · obtain ⟨h1, h2, h3⟩ := I.ok x m h
      exact ⟨h1, Nat.lt_succ_of_lt h2, h3⟩
    · obtain ⟨rfl, h1, h2, h3⟩ := (more_mem G I).mp h
      refine ⟨h1, Nat.lt_succ_self _, h3, fun j hj => ?_⟩
      show SureN d a j x = false
      rw [← Bool.not_eq_true]
      intro z
      rw [I.all x h1 j hj z] at h2
      cases h2
  · rw [inO_app, Bool.or_eq_true]
    by_cases c : inO o x = true
    · exact .inl c
    · rcases Nat.lt_or_eq_of_le (Nat.le_of_lt_succ ht) with e | e
      · exact .inl (I.all x hx t e h)
      · rw [e] at h
        exact .inr (inO_iff.mpr ⟨k, (more_mem G I).mpr ⟨rfl, hx, by simpa using c, h⟩⟩)
theorem su_stop (G : Game d a ns) {k : Nat} (hk : 0 < k) {o : SuO} (I : SuInv d a ns k o) (h : moreN d a ns k o = []) : SuFin d a ns o := by
  have hk1 : ∀ x ∈ ns, SureN d a k x = true → inO o x = true := fun x hx hs => by
    refine Classical.byContradiction fun c => ?_
    have := (more_mem G I (m := k)).mpr ⟨rfl, hx, by simpa using c, hs⟩
    rw [h] at this
    cases this
  refine ⟨fun x m hm => (I.ok x m hm).2.2, fun x hx t => ?_⟩
  induction t using Nat.strongRecOn generalizing x with
  | ind t ih =>
    intro hs
    by_cases c : t < k
    · exact I.all x hx t c hs
    · cases t with
      | zero => omega
      | succ t =>
        rcases sure_succ.mp hs with h1 | ⟨h1, h2⟩
        · exact I.all x hx 0 hk h1
        · refine hk1 x hx ?_
          obtain ⟨k', rfl⟩ : ∃ k', k = k' + 1 := ⟨k - 1, by omega⟩
          refine sure_succ.mpr (.inr ⟨h1, fun y hy => ?_⟩)
          obtain ⟨m, hm⟩ := inO_iff.mp (ih t (Nat.lt_succ_self t) y (G.into x hx y hy) (h2 y hy))
          obtain ⟨_, h3, h4⟩ := I.ok y m hm
          exact sure_mono (Nat.le_of_lt_succ h3) h4.1
def outN (ns : List (List Nat)) (o : SuO) : Nat := (ns.filter fun x => !inO o x).length
theorem su_up (G : Game d a ns) : ∀ (f k : Nat) (o : SuO), SuInv d a ns k o → outN ns o + (if k = 0 then 2 else 1) ≤ f → SuFin d a ns (Km536.sureUp (ns.map (rowN d a)) f k o)
  | 0, k, o, _, h => by split at h <;> omega
  | f + 1, k, o, I, h => by
    show SuFin d a ns (if (moreN d a ns k o).isEmpty && decide (0 < k) then o else Km536.sureUp (ns.map (rowN d a)) f (k + 1) (o ++ (moreN d a ns k o).map fun r => (r.name, k)))
    split
    · rename_i c
      rw [Bool.and_eq_true] at c
      exact su_stop G (of_decide_eq_true c.2) I (List.isEmpty_iff.mp c.1)
    · rename_i c
      refine su_up G f (k + 1) _ (su_step G I) ?_
      rw [if_neg (Nat.succ_ne_zero k)]
      have sub : ∀ x ∈ ns, (!inO (o ++ (moreN d a ns k o).map fun r => (r.name, k)) x) = true → (!inO o x) = true := fun x _ hx => by
        rw [inO_app, Bool.not_or, Bool.and_eq_true] at hx
        exact hx.1
      by_cases e : moreN d a ns k o = []
      · have k0 : k = 0 := by
          rw [e] at c
          simp at c
          exact c
        rw [if_pos k0] at h
        rw [e, List.map_nil, List.append_nil]
        omega
      · obtain ⟨r, hr⟩ := List.exists_mem_of_ne_nil _ e
        have hm : (r.name, k) ∈ (moreN d a ns k o).map (fun r => (r.name, k)) := List.mem_map.mpr ⟨r, hr, rfl⟩
        obtain ⟨_, h1, h2, h3⟩ := (more_mem G I).mp hm
        have lt : outN ns (o ++ (moreN d a ns k o).map fun r => (r.name, k)) < outN ns o := filter_lt sub ⟨r.name, h1, by rw [h2]; rfl, by
          rw [inO_app, inO_iff.mpr ⟨k, hm⟩, Bool.or_true]; rfl⟩
        split at h <;> omega
theorem longest_fin {o : SuO} (F : SuFin d a ns o) {x : List Nat} (hx : x ∈ ns) (hn : Km534.name x = x) : Least (fun t => SureN d a t x) (Km536.longestIn o x) := by
  unfold Km536.longestIn
  rw [hn]
  show Least _ ((o.find? fun q => q.1 == x).map fun q => q.2)
  cases h : o.find? fun q => q.1 == x with
  | none =>
    intro t
    show SureN d a t x = false
    rw [← Bool.not_eq_true]
    intro z
    obtain ⟨m, hm⟩ := inO_iff.mp (F.all x hx t z)
    have := List.find?_eq_none.mp h _ hm
    exact this (beq_self_eq_true x)
  | some q =>
    have e := List.find?_some h
    have e : q.1 = x := eq_of_beq e
    have hm := List.mem_of_find?_eq_some h
    exact F.ok x q.2 (by rw [← e]; exact hm)
theorem longest_n (G : Game d a ns) (hns : Km536.allNames d = ns) {x : List Nat} (hx : x ∈ ns) (hn : Km534.name x = x) : Least (fun t => SureN d a t x) (Km536.longest d a x) := by
  refine longest_fin ?_ hx hn
  unfold Km536.sures Km536.rowsOf
  rw [hns]
  show SuFin d a ns (Km536.sureUp (ns.map (rowN d a)) ((ns.map (rowN d a)).length + 2) 0 [])
  refine su_up G _ 0 [] ⟨(fun x m h => nomatch h), fun x _ t ht => absurd ht (Nat.not_lt_zero t)⟩ ?_
  rw [if_pos rfl, List.length_map]
  exact Nat.add_le_add_right (List.length_filter_le _ _) 2
/-! with help -/
def Rch (d : Km535.Desk) (a : Nat) : Nat → List Nat → List Nat → Prop
  | 0, x, y => x = y
  | i + 1, x, z => ∃ y, Rch d a i x y ∧ z ∈ nxN d a y
theorem rch_head : ∀ (i : Nat) (x z : List Nat), Rch d a (i + 1) x z ↔ ∃ y ∈ nxN d a x, Rch d a i y z
  | 0, x, z => by
    constructor
    · rintro ⟨y, e, h⟩
      have e : x = y := e
      exact ⟨z, e ▸ h, rfl⟩
    · rintro ⟨y, h, e⟩
      have e : y = z := e
      exact ⟨x, rfl, e ▸ h⟩
  | i + 1, x, z => by
    constructor
    · rintro ⟨y, h, hz⟩
      obtain ⟨u, hu, h⟩ := (rch_head i x y).mp h
      exact ⟨u, hu, y, h, hz⟩
    · rintro ⟨u, hu, y, h, hz⟩
      exact ⟨y, (rch_head i x y).mpr ⟨u, hu, h⟩, hz⟩
theorem can_rch : ∀ (t : Nat) (x : List Nat), CanN d a t x = true ↔ ∃ i y, i ≤ t ∧ Rch d a i x y ∧ dnN d y = true
  | 0, x => by
    constructor
    · intro h
      exact ⟨0, x, Nat.le_refl _, rfl, h⟩
    · rintro ⟨i, y, hi, h, hd⟩
      rw [Nat.le_zero.mp hi] at h
      have h : x = y := h
      rw [← h] at hd
      exact hd
  | t + 1, x => by
    rw [show CanN d a (t + 1) x = true ↔ _ from can_succ]
    constructor
    · rintro (h | ⟨y, hy, h⟩)
      · exact ⟨0, x, Nat.zero_le _, rfl, h⟩
      · obtain ⟨i, z, hi, hr, hd⟩ := (can_rch t y).mp h
        exact ⟨i + 1, z, Nat.succ_le_succ hi, (rch_head i x z).mpr ⟨y, hy, hr⟩, hd⟩
    · rintro ⟨i, z, hi, hr, hd⟩
      cases i with
      | zero =>
        have hr : x = z := hr
        rw [← hr] at hd
        exact .inl hd
      | succ i =>
        obtain ⟨y, hy, hr⟩ := (rch_head i x z).mp hr
        exact .inr ⟨y, hy, (can_rch t y).mpr ⟨i, z, Nat.le_of_succ_le_succ hi, hr, hd⟩⟩
structure SoInv (d : Km535.Desk) (a : Nat) (ns : List (List Nat)) (x0 : List Nat) (k : Nat) (now old : List (List Nat)) : Prop where
  reach : ∀ y ∈ now, Rch d a k x0 y
  shut : ∀ y ∈ old, y ∉ now → dnN d y = false ∧ ∀ z ∈ nxN d a y, z ∈ old
  sub : ∀ y ∈ now, y ∈ old
  none : ∀ i, i < k → ∀ y, Rch d a i x0 y → dnN d y = false
  all : ∀ y, Rch d a k x0 y → y ∈ old
  inn : ∀ y ∈ old, y ∈ ns
def nextO (d : Km535.Desk) (a : Nat) (now old : List (List Nat)) : List (List Nat) := (Km535.different (now.flatMap fun r => Km535.nextNames d a r)).filter fun r => !old.contains r
theorem nextO_mem {now old : List (List Nat)} {z : List Nat} : z ∈ nextO d a now old ↔ (∃ y ∈ now, z ∈ nxN d a y) ∧ z ∉ old := by
  unfold nextO
  rw [List.mem_filter, diff_mem, List.mem_flatMap, Bool.not_eq_true']
  refine and_congr_right fun _ => ?_
  rw [← Bool.not_eq_true, List.contains_iff_mem]
def outL (ns old : List (List Nat)) : Nat := (ns.filter fun x => !old.contains x).length
theorem so_up (G : Game d a ns) {x0 : List Nat} : ∀ (f k : Nat) (now old : List (List Nat)), SoInv d a ns x0 k now old → outL ns old + 1 ≤ f → Least (fun t => CanN d a t x0) (Km536.soonestUp d a f k now old)
  | 0, k, now, old, _, h => by omega
  | f + 1, k, now, old, I, h => by
    show Least _ (if now.any fun r => Km536.done d r then some k else if nextO d a now old = [] then none else Km536.soonestUp d a f (k + 1) (nextO d a now old) (old ++ nextO d a now old))
    by_cases c : (now.any fun r => Km536.done d r) = true
    · rw [if_pos c]
      obtain ⟨y, hy, hd⟩ := List.any_eq_true.mp c
      refine ⟨(can_rch k x0).mpr ⟨k, y, Nat.le_refl _, I.reach y hy, hd⟩, fun j hj => ?_⟩
      show CanN d a j x0 = false
      rw [← Bool.not_eq_true]
      intro z
      obtain ⟨i, y, hi, hr, hd⟩ := (can_rch j x0).mp z
      have := I.none i (by omega) y hr
      rw [hd] at this
      cases this
    · rw [if_neg c]
      have nd : ∀ y ∈ now, dnN d y = false := fun y hy => by
        rw [← Bool.not_eq_true]
        exact fun z => c (List.any_eq_true.mpr ⟨y, hy, z⟩)
      have nd2 : ∀ y ∈ old, dnN d y = false := fun y hy => by
        by_cases m : y ∈ now
        · exact nd y m
        · exact (I.shut y hy m).1
      have go : ∀ y ∈ old, ∀ z ∈ nxN d a y, z ∈ old ++ nextO d a now old := fun y hy z hz => by
        by_cases m : y ∈ now
        · by_cases o : z ∈ old
          · exact List.mem_append_left _ o
          · exact List.mem_append_right _ (nextO_mem.mpr ⟨⟨y, m, hz⟩, o⟩)
        · exact List.mem_append_left _ ((I.shut y hy m).2 z hz)
      have n1 : ∀ i, i < k + 1 → ∀ y, Rch d a i x0 y → dnN d y = false := fun i hi y hr => by
        rcases Nat.lt_or_eq_of_le (Nat.le_of_lt_succ hi) with e | e
        · exact I.none i e y hr
        · rw [e] at hr
          exact nd2 y (I.all y hr)
      by_cases e : nextO d a now old = []
      · rw [if_pos e]
        have shut : ∀ y ∈ old, ∀ z ∈ nxN d a y, z ∈ old := fun y hy z hz => by
          have := go y hy z hz
          rw [e, List.append_nil] at this
          exact this
        have far : ∀ j y, Rch d a (k + j) x0 y → y ∈ old := by
          intro j
          induction j with
          | zero => exact fun y hr => I.all y hr
          | succ j ih =>
            rintro y ⟨u, hu, hy⟩
            exact shut u (ih u hu) y hy
        intro t
        show CanN d a t x0 = false
        rw [← Bool.not_eq_true]
        intro z
        obtain ⟨i, y, hi, hr, hd⟩ := (can_rch t x0).mp z
        have hn : dnN d y = false := by
          by_cases q : i < k
          · exact I.none i q y hr
          · rw [show i = k + (i - k) by omega] at hr
            exact nd2 y (far _ y hr)
        rw [hd] at hn
        cases hn
      · rw [if_neg e]
        refine so_up G f (k + 1) _ _ ⟨fun z hz => ?_, fun y hy hn => ?_, fun y hy => List.mem_append_right _ hy, n1, fun z hr => ?_, fun y hy => ?_⟩ ?_
        · obtain ⟨⟨y, hy, hz⟩, _⟩ := nextO_mem.mp hz
          exact ⟨y, I.reach y hy, hz⟩
        · rcases List.mem_append.mp hy with hy | hy
          · exact ⟨nd2 y hy, go y hy⟩
          · exact absurd hy hn
        · obtain ⟨y, hr, hz⟩ := hr
          exact go y (I.all y hr) z hz
        · rcases List.mem_append.mp hy with hy | hy
          · exact I.inn y hy
          · obtain ⟨⟨u, hu, hz⟩, _⟩ := nextO_mem.mp hy
            exact G.into u (I.inn u (I.sub u hu)) y hz
        · obtain ⟨z, hz⟩ := List.exists_mem_of_ne_nil _ e
          obtain ⟨⟨u, hu, hz2⟩, ho⟩ := nextO_mem.mp hz
          have lt : outL ns (old ++ nextO d a now old) < outL ns old := filter_lt (fun x _ hx => by
            rw [Bool.not_eq_true', ← Bool.not_eq_true, List.contains_iff_mem] at hx ⊢
            exact fun m => hx (List.mem_append_left _ m)) ⟨z, G.into u (I.inn u (I.sub u hu)) z hz2, by
              rw [Bool.not_eq_true', ← Bool.not_eq_true, List.contains_iff_mem]
              exact ho, by
              rw [Bool.not_eq_false', List.contains_iff_mem]
              exact List.mem_append_right _ hz⟩
          omega
theorem soonest_n (G : Game d a ns) (hl : ns.length ≤ 290) {x : List Nat} (hx : x ∈ ns) (hn : Km534.name x = x) : Least (fun t => CanN d a t x) (Km536.soonest d a x) := by
  unfold Km536.soonest
  rw [hn]
  refine so_up G 300 0 [x] [x] ⟨fun y hy => (List.mem_singleton.mp hy).symm, fun y hy hn => absurd hy hn, fun y hy => hy, fun i hi => absurd hi (Nat.not_lt_zero i), fun y hr => List.mem_singleton.mpr (Eq.symm hr), fun y hy => by rw [List.mem_singleton.mp hy]; exact hx⟩ ?_
  have : outL ns [x] ≤ ns.length := List.length_filter_le _ _
  omega
end
end RG
namespace RG
/-! ### rules and places -/
theorem place_get {vs : List (List Nat)} {v : List Nat} (h : v ∈ vs) : Km537.place vs v < vs.length ∧ vs[Km537.place vs v]? = some v := by
  unfold Km537.place
  cases c : vs.findIdx? fun x => x == v with
  | none =>
    have := List.findIdx?_eq_none_iff.mp c v h
    rw [beq_self_eq_true] at this
    cases this
  | some i =>
    obtain ⟨h1, h2, _⟩ := List.findIdx?_eq_some_iff_getElem.mp c
    refine ⟨h1, ?_⟩
    show vs[i]? = _
    rw [List.getElem?_eq_getElem h1, eq_of_beq h2]
theorem idx_place (ns : List (List Nat)) (x : List Nat) : idxS ns x = Km537.place ns x := rfl
theorem place_nd {ns : List (List Nat)} (hn : ns.Nodup) {i : Nat} {x : List Nat} (h : ns[i]? = some x) : Km537.place ns x = i := by
  obtain ⟨h1, h2⟩ := place_get (List.mem_of_getElem? h)
  obtain ⟨hi, _⟩ := List.getElem?_eq_some_iff.mp h
  exact (List.getElem?_inj h1 hn).mp (h2.trans h.symm)
theorem allRules_cons {v : List Nat} {vs : List (List Nat)} {r : List Nat} : r ∈ Km537.allRules (v :: vs) ↔ ∃ m x, r = m :: x ∧ m < Km537.choices v ∧ x ∈ Km537.allRules vs := by
  show r ∈ (List.range (Km537.choices v)).flatMap (fun m => (Km537.allRules vs).map fun x => m :: x) ↔ _
  rw [List.mem_flatMap]
  constructor
  · rintro ⟨m, hm, h⟩
    obtain ⟨x, hx, rfl⟩ := List.mem_map.mp h
    exact ⟨m, x, rfl, List.mem_range.mp hm, hx⟩
  · rintro ⟨m, x, rfl, hm, hx⟩
    exact ⟨m, List.mem_range.mpr hm, List.mem_map.mpr ⟨x, hx, rfl⟩⟩
theorem allRules_len : ∀ {vs : List (List Nat)} {r : List Nat}, r ∈ Km537.allRules vs → r.length = vs.length
  | [], r, h => by
    rw [List.mem_singleton.mp h]
    rfl
  | v :: vs, r, h => by
    obtain ⟨m, x, rfl, _, hx⟩ := allRules_cons.mp h
    rw [List.length_cons, List.length_cons, allRules_len hx]
theorem allRules_get : ∀ {vs : List (List Nat)} {r : List Nat}, r ∈ Km537.allRules vs → ∀ {i : Nat} {v : List Nat}, vs[i]? = some v → r.getD i 0 < Km537.choices v
  | [], _, _, i, v, e => by simp at e
  | w :: vs, r, h, i, v, e => by
    obtain ⟨m, x, rfl, hm, hx⟩ := allRules_cons.mp h
    cases i with
    | zero => cases e; exact hm
    | succ i => rw [List.getD_cons_succ]; exact allRules_get hx (by simpa using e)
theorem allRules_of {f : List Nat → Nat} : ∀ {vs : List (List Nat)}, (∀ v ∈ vs, f v < Km537.choices v) → vs.map f ∈ Km537.allRules vs
  | [], _ => List.mem_singleton.mpr rfl
  | v :: vs, h => allRules_cons.mpr ⟨f v, vs.map f, rfl, h v List.mem_cons_self, allRules_of fun w hw => h w (List.mem_cons_of_mem _ hw)⟩
theorem choices_le (v : List Nat) : Km537.choices v ≤ 3 := by
  unfold Km537.choices
  split <;> decide
theorem told_zip {e a : Nat} {l : List Nat} : ∀ {vs : List (List Nat)} {r : List Nat} {v : List Nat}, v ∈ vs → r.length = vs.length → Km535.told ⟨⟨l, e⟩, vs.zip r, a⟩ v = r.getD (Km537.place vs v) 0
  | [], _, _, h, _ => nomatch h
  | w :: vs, [], v, _, h => nomatch h
  | w :: vs, m :: r, v, h, hl => by
    unfold Km535.told Km537.place
    show (match ((w, m) :: vs.zip r).find? fun r => r.1 == v with | none => 0 | some r => r.2) = _
    rw [List.find?_cons, List.findIdx?_cons]
    by_cases c : (w == v) = true
    · have c' : ((w, m).1 == v) = true := c
      rw [c']
      rfl
    · have c0 : (w == v) = false := by simpa using c
      have c' : ((w, m).1 == v) = false := c0
      rw [c']
      have hv : v ∈ vs := by
        rcases List.mem_cons.mp h with e | h
        · rw [e, beq_self_eq_true] at c0; cases c0
        · exact h
      have ih := told_zip (e := e) (a := a) (l := l) hv (Nat.succ.inj hl)
      unfold Km535.told Km537.place at ih
      show (match (vs.zip r).find? fun r => r.1 == v with | none => 0 | some r => r.2) = _
      refine Eq.trans ih ?_
      cases q : vs.findIdx? fun x => x == v with
      | none =>
        have := List.findIdx?_eq_none_iff.mp q v hv
        rw [beq_self_eq_true] at this
        cases this
      | some i => rfl
def vnumS (n e k : Nat) : Bool := (vsS n e k).all fun v => decide (vnumM n e k (iN v) = Km537.place (vsS n e k) v)
theorem vnum_s : ∀ n, 3 ≤ n → n ≤ 7 → ∀ k, 1 ≤ k → k ≤ 3 → ∀ e, e ≤ 2 → vnumS n e k = true := by
  have h : ∀ n, n < 8 → ∀ k, k < 4 → ∀ e, e < 3 → 3 ≤ n → 1 ≤ k → vnumS n e k = true := by decide +kernel
  intro n h1 h2 k h3 h4 e h5
  exact h n (by omega) k (by omega) e (by omega) h1 h3
structure ViewS (n e k : Nat) : Prop where
  views : viewsM n e k = (vsS n e k).map iN
  evens : evensM n e k = (vsS n e k).map Km537.evenRow
  nodup : (vsS n e k).Nodup
  here : ∀ l ∈ nsS n k, viewsIn n e k (sightsM (iN l) (e : Int)) = (seenS e l).map (Km537.place (vsS n e k))
  seen : ∀ l ∈ nsS n k, ∀ v ∈ seenS e l, v ∈ vsS n e k
  num : ∀ v ∈ vsS n e k, vnumM n e k (iN v) = Km537.place (vsS n e k) v
theorem views_s {n e k : Nat} (D : Dims n e k) : ViewS n e k := by
  have h := view_s n D.n3 D.n7 k D.k1 D.k3 e D.e2
  unfold viewS at h
  rw [Bool.and_eq_true, Bool.and_eq_true, Bool.and_eq_true] at h
  have h4 : ∀ l ∈ nsS n k, _ := fun l hl => Bool.and_eq_true _ _ ▸ List.all_eq_true.mp h.2 l hl
  have h5 := vnum_s n D.n3 D.n7 k D.k1 D.k3 e D.e2
  exact ⟨of_decide_eq_true h.1.1.1, of_decide_eq_true h.1.1.2, of_decide_eq_true h.1.2, fun l hl => of_decide_eq_true (h4 l hl).1, fun l hl v hv => of_decide_eq_true (List.all_eq_true.mp (h4 l hl).2 v hv), fun v hv => of_decide_eq_true (List.all_eq_true.mp h5 v hv)⟩
abbrev Valid (n e k : Nat) (r : List Nat) : Prop := r ∈ Km537.allRules (vsS n e k)
theorem tell_iN {n e k : Nat} (D : Dims n e k) (r : List Nat) {v : List Nat} (hv : v ∈ vsS n e k) : tellM n e k (iN r) (iN v) = (r.getD (Km537.place (vsS n e k) v) 0 : Nat) := by
  unfold tellM
  rw [(views_s D).num v hv, iN_get]
theorem tell_lt {n e k : Nat} {r : List Nat} (hr : Valid n e k r) {v : List Nat} (hv : v ∈ vsS n e k) : r.getD (Km537.place (vsS n e k) v) 0 < Km537.choices v := allRules_get hr (place_get hv).2
/-- the desk of a whole rule -/
theorem tell_desk {n e k : Nat} (D : Dims n e k) {r : List Nat} (hr : Valid n e k r) (l0 : List Nat) (a0 : Nat) {l : List Nat} (hl : l ∈ nsS n k) : TellS n e k ⟨⟨l0, e⟩, (vsS n e k).zip r, a0⟩ (tellM n e k (iN r)) l := by
  refine ⟨rfl, fun p hp h0 => ?_⟩
  have hv := (views_s D).seen l hl _ (sight_of D hl hp h0).seen
  rw [told_zip hv (allRules_len hr)]
  exact ⟨tell_iN D r hv, Nat.lt_of_lt_of_le (tell_lt hr hv) (choices_le _)⟩
/-- the desk of what is told of a name's own views -/
theorem tell_own {n e k : Nat} (D : Dims n e k) {r : List Nat} (hr : Valid n e k r) (a0 : Nat) {l : List Nat} (hl : l ∈ nsS n k) :
    TellS n e k ⟨⟨l, e⟩, (seenS e l).zip ((seenS e l).map fun v => r.getD (Km537.place (vsS n e k) v) 0), a0⟩ (tellM n e k (iN r)) l := by
  refine ⟨rfl, fun p hp h0 => ?_⟩
  have hs := (sight_of D hl hp h0).seen
  have hv := (views_s D).seen l hl _ hs
  rw [told_zip hs (List.length_map ..), List.getD_eq_getElem?_getD, List.getElem?_map, (place_get hs).2]
  exact ⟨tell_iN D r hv, Nat.lt_of_lt_of_le (tell_lt hr hv) (choices_le _)⟩
section
variable {n e k : Nat} {r l0 : List Nat} {a a0 : Nat}
abbrev dkS (n e k : Nat) (l0 : List Nat) (r : List Nat) (a0 : Nat) : Km535.Desk := ⟨⟨l0, e⟩, (vsS n e k).zip r, a0⟩
theorem game_s (D : Dims n e k) (hr : Valid n e k r) (ha : a ≤ 2) : Game (dkS n e k l0 r a0) a (nsS n k) :=
  ⟨fun x hx y hy => next_in D hx (tell_desk D hr l0 a0 hx) ha hy, fun x hx => eager_next D hx (tell_desk D hr l0 a0 hx) ha⟩
theorem nm_at (D : Dims n e k) {i : Nat} {l : List Nat} (h : (nsS n k)[i]? = some l) : (namesM n k)[i]? = some (iN l) := by
  rw [(names_s D).1, List.getElem?_map, h]
  rfl
theorem g_at (D : Dims n e k) (hr : Valid n e k r) (ha : a ≤ 2) {i : Nat} {l : List Nat} (h : (nsS n k)[i]? = some l) : (graphL n e k (iN r) (a : Int))[i]? = some (nxS (nsS n k) (dkS n e k l0 r a0) a l) := by
  have hl := List.mem_of_getElem? h
  unfold graphL
  rw [List.getElem?_map, nm_at D h]
  exact congrArg some (ahead_s D hl (tell_desk D hr l0 a0 hl) ha)
theorem gnx_s (D : Dims n e k) (hr : Valid n e k r) (ha : a ≤ 2) {i : Nat} {l : List Nat} (h : (nsS n k)[i]? = some l) : gNx (graphL n e k (iN r) (a : Int)) i = nxS (nsS n k) (dkS n e k l0 r a0) a l := by
  unfold gNx
  rw [List.getD_eq_getElem?_getD, g_at (l0 := l0) (a0 := a0) D hr ha h]
  rfl
theorem nx_nil {ns : List (List Nat)} {d : Km535.Desk} {l : List Nat} : nxS ns d a l = [] ↔ Km535.nextNames d a l = [] := by
  constructor
  · intro h
    refine List.eq_nil_iff_forall_not_mem.mpr fun x hx => ?_
    have := (nx_mem ns d a l _).mpr ⟨x, hx, rfl⟩
    rw [h] at this
    cases this
  · intro h
    refine List.eq_nil_iff_forall_not_mem.mpr fun j hj => ?_
    obtain ⟨x, hx, _⟩ := (nx_mem ns d a l j).mp hj
    rw [h] at hx
    cases hx
theorem grs_s (D : Dims n e k) (hr : Valid n e k r) (ha : a ≤ 2) {i : Nat} {l : List Nat} (h : (nsS n k)[i]? = some l) : gRs (restG n e k (iN r) (a : Int)) i = dnN (dkS n e k l0 r a0) l := by
  have hl := List.mem_of_getElem? h
  unfold gRs restG restsL
  rw [List.getD_eq_getElem?_getD, List.getElem?_zipWith, nm_at D h, g_at (l0 := l0) (a0 := a0) D hr ha h]
  show (togetherM (iN l) && (nxS (nsS n k) (dkS n e k l0 r a0) a l).isEmpty) = (Km535.gathered l && Km535.eager (dkS n e k l0 r a0) l == [])
  rw [(name_s D hl).tog]
  congr 1
  have h1 := eager_next D hl (tell_desk D hr l0 a0 hl) ha
  have h2 := nx_nil (ns := nsS n k) (d := dkS n e k l0 r a0) (a := a) (l := l)
  rw [Bool.eq_iff_iff, List.isEmpty_iff, beq_iff_eq, h1, h2]
theorem sure_tr (D : Dims n e k) (hr : Valid n e k r) (ha : a ≤ 2) : ∀ (t i : Nat) (l : List Nat), (nsS n k)[i]? = some l → SureIn (gNx (graphL n e k (iN r) (a : Int))) (gRs (restG n e k (iN r) (a : Int))) t i = SureN (dkS n e k l0 r a0) a t l
  | 0, i, l, h => grs_s D hr ha h
  | t + 1, i, l, h => by
    have hl := List.mem_of_getElem? h
    rw [Bool.eq_iff_iff, sure_succ, sure_succ, grs_s (l0 := l0) (a0 := a0) D hr ha h, gnx_s (l0 := l0) (a0 := a0) D hr ha h, Ne, nx_nil]
    refine or_congr_right (and_congr_right fun _ => ?_)
    have at_ : ∀ x ∈ nxN (dkS n e k l0 r a0) a l, (nsS n k)[idxS (nsS n k) x]? = some x := fun x hx => (place_get ((game_s (l0 := l0) (a0 := a0) D hr ha).into l hl x hx)).2
    constructor
    · intro g x hx
      have := g _ ((nx_mem _ _ _ _ _).mpr ⟨x, hx, rfl⟩)
      rw [sure_tr D hr ha t _ x (at_ x hx)] at this
      exact this
    · intro g j hj
      obtain ⟨x, hx, rfl⟩ := (nx_mem _ _ _ _ _).mp hj
      rw [sure_tr D hr ha t _ x (at_ x hx)]
      exact g x hx
theorem can_tr (D : Dims n e k) (hr : Valid n e k r) (ha : a ≤ 2) : ∀ (t i : Nat) (l : List Nat), (nsS n k)[i]? = some l → CanIn (gNx (graphL n e k (iN r) (a : Int))) (gRs (restG n e k (iN r) (a : Int))) t i = CanN (dkS n e k l0 r a0) a t l
  | 0, i, l, h => grs_s D hr ha h
  | t + 1, i, l, h => by
    have hl := List.mem_of_getElem? h
    rw [Bool.eq_iff_iff, can_succ, can_succ, grs_s (l0 := l0) (a0 := a0) D hr ha h, gnx_s (l0 := l0) (a0 := a0) D hr ha h]
    refine or_congr_right ?_
    have at_ : ∀ x ∈ nxN (dkS n e k l0 r a0) a l, (nsS n k)[idxS (nsS n k) x]? = some x := fun x hx => (place_get ((game_s (l0 := l0) (a0 := a0) D hr ha).into l hl x hx)).2
    constructor
    · rintro ⟨j, hj, g⟩
      obtain ⟨x, hx, rfl⟩ := (nx_mem _ _ _ _ _).mp hj
      rw [can_tr D hr ha t _ x (at_ x hx)] at g
      exact ⟨x, hx, g⟩
    · rintro ⟨x, hx, g⟩
      refine ⟨_, (nx_mem _ _ _ _ _).mpr ⟨x, hx, rfl⟩, ?_⟩
      rw [can_tr D hr ha t _ x (at_ x hx)]
      exact g
theorem longest_s (D : Dims n e k) (hr : Valid n e k r) (ha : a ≤ 2) {i : Nat} {l : List Nat} (h : (nsS n k)[i]? = some l) (h0 : l0 ∈ nsS n k) : Least (fun t => SureIn (gNx (graphL n e k (iN r) (a : Int))) (gRs (restG n e k (iN r) (a : Int))) t i) (Km536.longest (dkS n e k l0 r a0) a l) := by
  have hl := List.mem_of_getElem? h
  have N := name_s D h0
  have hns : Km536.allNames (dkS n e k l0 r a0) = nsS n k := by
    show Km534.names l0.length (Km534.sum l0) = _
    rw [N.len, N.sum]
  exact Least.congr (fun t => (sure_tr D hr ha t i l h).symm) (longest_n (game_s D hr ha) hns hl (name_self hl))
theorem soonest_s (D : Dims n e k) (hr : Valid n e k r) (ha : a ≤ 2) {i : Nat} {l : List Nat} (h : (nsS n k)[i]? = some l) : Least (fun t => CanIn (gNx (graphL n e k (iN r) (a : Int))) (gRs (restG n e k (iN r) (a : Int))) t i) (Km536.soonest (dkS n e k l0 r a0) a l) := by
  have hl := List.mem_of_getElem? h
  have n20 := names_20 n D.n3 D.n7 k D.k3
  rw [(names_s D).1, List.length_map] at n20
  exact Least.congr (fun t => (can_tr D hr ha t i l h).symm) (soonest_n (game_s D hr ha) (by show (nsS n k).length ≤ 290; omega) hl (name_self hl))
end
end RG
namespace RG
/-! ### the names that gather surely, by the book -/
structure RowsOk (g : List Km537.Row) (G : Gr) (rs : List Bool) : Prop where
  len : g.length = G.length
  row : ∀ i, i < g.length → ∃ r, g[i]? = some r ∧ ((r.rest == 1) = true ↔ gRs rs i = true) ∧ ((r.rest == 0) = true ↔ gNx G i ≠ []) ∧ ∀ j, j ∈ r.next ↔ j ∈ gNx G i
def testI (g : List Km537.Row) (o : List Nat) (i : Nat) : Bool := !o.contains i && (match g[i]? with
  | none => false
  | some r => r.rest == 1 || (r.rest == 0 && r.next.all fun j => o.contains j))
theorem testI_iff {g : List Km537.Row} {G : Gr} {rs : List Bool} (R : RowsOk g G rs) {o : List Nat} {i : Nat} (hi : i < g.length) : testI g o i = true ↔ i ∉ o ∧ (gRs rs i = true ∨ (gNx G i ≠ [] ∧ ∀ j ∈ gNx G i, j ∈ o)) := by
  obtain ⟨r, h1, h2, h3, h4⟩ := R.row i hi
  unfold testI
  rw [h1, Bool.and_eq_true, Bool.not_eq_true', ← Bool.not_eq_true, List.contains_iff_mem]
  refine and_congr_right fun _ => ?_
  show (r.rest == 1 || (r.rest == 0 && r.next.all fun j => o.contains j)) = true ↔ _
  rw [Bool.or_eq_true, Bool.and_eq_true, h2, h3, List.all_eq_true]
  refine or_congr_right (and_congr_right fun _ => ?_)
  constructor
  · intro h j hj
    exact List.contains_iff_mem.mp (h j ((h4 j).mpr hj))
  · intro h j hj
    exact List.contains_iff_mem.mpr (h j ((h4 j).mp hj))
theorem sure_bound {G : Gr} {rs : List Bool} : ∀ {l : List Nat}, (∀ j ∈ l, ∃ t, SureIn (gNx G) (gRs rs) t j = true) → ∃ t, ∀ j ∈ l, SureIn (gNx G) (gRs rs) t j = true
  | [], _ => ⟨0, fun j hj => nomatch hj⟩
  | x :: l, h => by
    obtain ⟨t1, h1⟩ := h x List.mem_cons_self
    obtain ⟨t2, h2⟩ := sure_bound (l := l) fun j hj => h j (List.mem_cons_of_mem _ hj)
    refine ⟨max t1 t2, fun j hj => ?_⟩
    rcases List.mem_cons.mp hj with e | hj
    · rw [e]; exact sure_mono (Nat.le_max_left _ _) h1
    · exact sure_mono (Nat.le_max_right _ _) (h2 j hj)
def moreI (g : List Km537.Row) (o : List Nat) : List Nat := (List.range g.length).filter (testI g o)
def outI (N : Nat) (o : List Nat) : Nat := ((List.range N).filter fun i => !o.contains i).length
theorem sureI_up {g : List Km537.Row} {G : Gr} {rs : List Bool} (R : RowsOk g G rs) (into : ∀ i, ∀ j ∈ gNx G i, j < G.length) : ∀ (f : Nat) (o : List Nat), (∀ i ∈ o, i < g.length ∧ ∃ t, SureIn (gNx G) (gRs rs) t i = true) → outI g.length o + 1 ≤ f →
    ∀ i, i < g.length → (i ∈ Km537.sureUp g f o ↔ ∃ t, SureIn (gNx G) (gRs rs) t i = true)
  | 0, o, _, h => by omega
  | f + 1, o, I, h => by
    show ∀ i, i < g.length → (i ∈ (if moreI g o = [] then o else Km537.sureUp g f (o ++ moreI g o)) ↔ _)
    by_cases c : moreI g o = []
    · rw [if_pos c]
      have shut : ∀ i, i < g.length → testI g o i = true → False := fun i hi ht => by
        have := List.mem_filter.mpr ⟨List.mem_range.mpr hi, ht⟩
        rw [show (List.range g.length).filter (testI g o) = [] from c] at this
        cases this
      have all : ∀ t i, i < g.length → SureIn (gNx G) (gRs rs) t i = true → i ∈ o := by
        intro t
        induction t with
        | zero =>
          intro i hi hs
          refine Classical.byContradiction fun z => shut i hi ((testI_iff R hi).mpr ⟨z, .inl hs⟩)
        | succ t ih =>
          intro i hi hs
          refine Classical.byContradiction fun z => shut i hi ((testI_iff R hi).mpr ⟨z, ?_⟩)
          rcases sure_succ.mp hs with h1 | ⟨h1, h2⟩
          · exact .inl h1
          · exact .inr ⟨h1, fun j hj => ih j (by rw [R.len]; exact into i j hj) (h2 j hj)⟩
      exact fun i hi => ⟨fun h => (I i h).2, fun ⟨t, ht⟩ => all t i hi ht⟩
    · rw [if_neg c]
      refine sureI_up R into f _ (fun i hi => ?_) ?_
      · rcases List.mem_append.mp hi with hi | hi
        · exact I i hi
        · obtain ⟨h1, h2⟩ := List.mem_filter.mp hi
          have h1 := List.mem_range.mp h1
          refine ⟨h1, ?_⟩
          rcases ((testI_iff R h1).mp h2).2 with h3 | ⟨h3, h4⟩
          · exact ⟨0, h3⟩
          · obtain ⟨t, ht⟩ := sure_bound fun j hj => (I j (h4 j hj)).2
            exact ⟨t + 1, sure_succ.mpr (.inr ⟨h3, ht⟩)⟩
      · obtain ⟨z, hz⟩ := List.exists_mem_of_ne_nil _ c
        obtain ⟨h1, h2⟩ := List.mem_filter.mp hz
        have ho := ((testI_iff R (List.mem_range.mp h1)).mp h2).1
        have lt : outI g.length (o ++ moreI g o) < outI g.length o := filter_lt (fun x _ hx => by
          rw [Bool.not_eq_true', ← Bool.not_eq_true, List.contains_iff_mem] at hx ⊢
          exact fun m => hx (List.mem_append_left _ m)) ⟨z, h1, by
            rw [Bool.not_eq_true', ← Bool.not_eq_true, List.contains_iff_mem]
            exact ho, by
            rw [Bool.not_eq_false', List.contains_iff_mem]
            exact List.mem_append_right _ hz⟩
        omega
theorem dec_iff {p : Prop} (d : Decidable p) : @decide p d = true ↔ p := ⟨of_decide_eq_true, decide_eq_true⟩
theorem find_self {α : Type} [BEq α] [LawfulBEq α] : ∀ {l : List α} {x : α}, x ∈ l → l.find? (fun y => y == x) = some x
  | y :: l, x, h => by
    rw [List.find?_cons]
    by_cases c : (y == x) = true
    · rw [c]
      exact congrArg some (eq_of_beq c)
    · have c0 : (y == x) = false := by simpa using c
      rw [c0]
      rcases List.mem_cons.mp h with e | h
      · rw [e, beq_self_eq_true] at c0; cases c0
      · exact find_self h
section
variable {n e k : Nat} {r : List Nat} {a : Nat}
def ownR (n e k : Nat) (l r : List Nat) : List Nat := (seenS e l).map fun v => r.getD (Km537.place (vsS n e k) v) 0
abbrev kdS (n e k a : Nat) (l r : List Nat) : Km535.Desk := ⟨⟨l, e⟩, (seenS e l).zip (ownR n e k l r), a⟩
def rowS (n e k a : Nat) (r l : List Nat) : Km537.Row := ⟨ownR n e k l r, if Km535.eager (kdS n e k a l r) l != [] then 0 else if Km535.gathered l then 1 else 2, (Km535.nextNames (kdS n e k a l r) a l).map (idxS (nsS n k))⟩
theorem own_mem (D : Dims n e k) (hr : Valid n e k r) {l : List Nat} (hl : l ∈ nsS n k) : ownR n e k l r ∈ Km537.allRules (seenS e l) := allRules_of fun v hv => tell_lt hr ((views_s D).seen l hl v hv)
theorem row_of (D : Dims n e k) (hr : Valid n e k r) {l : List Nat} (hl : l ∈ nsS n k) : Km537.rowOf (Km537.entry (bkS n e k) a (vsS n e k) (nsS n k) l) r = rowS n e k a r l := by
  unfold Km537.rowOf Km537.entry
  dsimp only
  have e1 : ((Km537.seen (bkS n e k) l).map fun v => Km537.place (vsS n e k) v).map (fun v => r.getD v 0) = ownR n e k l r := by
    rw [List.map_map]
    rfl
  rw [e1, List.find?_map]
  have e2 := find_self (own_mem D hr hl)
  have e3 : List.find? ((fun r_1 : Km537.Row => r_1.at_ == ownR n e k l r) ∘ fun r => { at_ := r, rest := if (Km535.eager { see := { ring := l, eyes := (bkS n e k).eyes }, rule := (Km537.seen (bkS n e k) l).zip r, at_ := a } l != []) = true then 0 else if Km535.gathered l = true then 1 else 2, next := List.map (fun x => (List.findIdx? (fun y => y == x) (nsS n k)).getD 0) (Km535.nextNames { see := { ring := l, eyes := (bkS n e k).eyes }, rule := (Km537.seen (bkS n e k) l).zip r, at_ := a } a l) }) (Km537.allRules (Km537.seen (bkS n e k) l)) = some (ownR n e k l r) := e2
  rw [e3]
  rfl
theorem rows_ok (D : Dims n e k) (hr : Valid n e k r) (ha : a ≤ 2) : RowsOk ((nsS n k).map (rowS n e k a r)) (graphL n e k (iN r) (a : Int)) (restG n e k (iN r) (a : Int)) := by
  have hlen : (graphL n e k (iN r) (a : Int)).length = (nsS n k).length := by rw [graph_len, (names_s D).1, List.length_map]
  refine ⟨by rw [List.length_map, hlen], fun i hi => ?_⟩
  rw [List.length_map] at hi
  obtain ⟨l, h⟩ : ∃ l, (nsS n k)[i]? = some l := ⟨_, List.getElem?_eq_getElem hi⟩
  have hl := List.mem_of_getElem? h
  refine ⟨rowS n e k a r l, by rw [List.getElem?_map, h]; rfl, ?_⟩
  have T1 := tell_desk D hr [] 0 hl
  have T2 : TellS n e k (kdS n e k a l r) (tellM n e k (iN r)) l := tell_own D hr a hl
  have e1 := (ahead_s D hl T1 ha).symm.trans (ahead_s D hl T2 ha)
  have g := gnx_s (l0 := []) (a0 := 0) D hr ha h
  rw [e1] at g
  have s := grs_s (l0 := []) (a0 := 0) D hr ha h
  have q1 := eager_next D hl T1 ha
  have q2 := eager_next D hl T2 ha
  have q3 := nx_nil (ns := nsS n k) (d := dkS n e k [] r 0) (a := a) (l := l)
  have q4 := nx_nil (ns := nsS n k) (d := kdS n e k a l r) (a := a) (l := l)
  rw [e1] at q3
  have eq : Km535.eager (kdS n e k a l r) l = [] ↔ Km535.eager (dkS n e k [] r 0) l = [] := by rw [q1, q2, ← q3, ← q4]
  refine ⟨?_, ?_, fun j => ?_⟩
  · rw [s]
    show (((if (Km535.eager (kdS n e k a l r) l != []) = true then 0 else if Km535.gathered l = true then 1 else 2) == 1) = true) ↔ (Km535.gathered l && Km535.eager (dkS n e k [] r 0) l == []) = true
    rw [Bool.and_eq_true, beq_iff_eq, beq_iff_eq, ← eq]
    by_cases c : Km535.eager (kdS n e k a l r) l = []
    · rw [if_neg (by rw [c]; decide)]
      by_cases c2 : Km535.gathered l = true
      · rw [if_pos c2]
        simp [c, c2]
      · rw [if_neg c2]
        simp [c2]
    · rw [if_pos (by simpa using c)]
      simp [c]
  · rw [g, Ne, q4, ← q2]
    show (((if (Km535.eager (kdS n e k a l r) l != []) = true then 0 else if Km535.gathered l = true then 1 else 2) == 0) = true) ↔ _
    rw [beq_iff_eq]
    by_cases c : Km535.eager (kdS n e k a l r) l = []
    · rw [if_neg (by rw [c]; decide)]
      split <;> simp [c]
    · rw [if_pos (by simpa using c)]
      simp [c]
  · rw [g, nx_mem]
    show j ∈ (Km535.nextNames (kdS n e k a l r) a l).map (idxS (nsS n k)) ↔ _
    rw [List.mem_map]
    exact ⟨fun ⟨x, hx, e⟩ => ⟨x, hx, e.symm⟩, fun ⟨x, hx, e⟩ => ⟨x, hx, e.symm⟩⟩
theorem sures_s (D : Dims n e k) (hr : Valid n e k r) (ha : a ≤ 2) : Km537.suresBy (Km537.table (bkS n e k) a) r = surM n e k (a : Int) (iN r) := by
  have et : Km537.table (bkS n e k) a = (nsS n k).map (Km537.entry (bkS n e k) a (vsS n e k) (nsS n k)) := rfl
  have eg : (Km537.table (bkS n e k) a).map (fun e => Km537.rowOf e r) = (nsS n k).map (rowS n e k a r) := by
    rw [et, List.map_map]
    exact List.map_congr_left fun l hl => row_of D hr hl
  have R := rows_ok D hr ha
  have hlen : (Km537.table (bkS n e k) a).length = (nsS n k).length := by rw [et, List.length_map]
  have glen : (graphL n e k (iN r) (a : Int)).length = (nsS n k).length := by rw [← R.len, List.length_map]
  have up := sureI_up R (graph_ok D).into ((nsS n k).length + 1) [] (fun i hi => nomatch hi) (Nat.add_le_add_right (by
    refine Nat.le_trans (List.length_filter_le _ _) ?_
    rw [List.length_range, List.length_map]
    exact Nat.le_refl _) 1)
  unfold Km537.suresBy surM sureSet
  dsimp only
  rw [eg, hlen, glen]
  refine List.filter_congr fun i hi => ?_
  have hi := List.mem_range.mp hi
  rw [Bool.eq_iff_iff, List.contains_iff_mem, up i (by rw [List.length_map]; exact hi)]
  exact (dec_iff _).symm
end
end RG
namespace RG
/-! ### all rules -/
theorem rules_fold : ∀ (vs : List (List Nat)) (rs : List (List Int)), (vs.map Km537.evenRow).foldl ruleStep rs = rs.flatMap fun r => (Km537.allRules vs).map fun x => r ++ iN x
  | [], rs => by
    show rs = rs.flatMap fun r => [r ++ []]
    induction rs with
    | nil => rfl
    | cons r rs ih =>
      rw [List.flatMap_cons, ← ih, List.append_nil]
      rfl
  | v :: vs, rs => by
    rw [List.map_cons, List.foldl_cons, rules_fold vs]
    unfold ruleStep
    rw [List.flatMap_assoc]
    congr 1
    funext r
    show (ruleExt (Km537.evenRow v) r).flatMap _ = ((List.range (Km537.choices v)).flatMap fun m => (Km537.allRules vs).map fun x => m :: x).map fun x => r ++ iN x
    unfold ruleExt
    rw [List.flatMap_map, List.map_flatMap]
    congr 1
    funext m
    rw [List.map_map]
    refine List.map_congr_left fun x _ => ?_
    show r ++ [(m : Int)] ++ iN x = r ++ ((m : Int) :: iN x)
    rw [List.append_assoc]
    rfl
theorem rules_s {n e k : Nat} (D : Dims n e k) : rulesM (evensM n e k) = (Km537.allRules (vsS n e k)).map iN := by
  rw [(views_s D).evens]
  unfold rulesM
  rw [rules_fold]
  show ((Km537.allRules (vsS n e k)).map fun x => [] ++ iN x) ++ [] = _
  rw [List.append_nil]
  rfl
theorem prod_s {n e k : Nat} (D : Dims n e k) : prodN (evensM n e k) = Km537.rulesThereAre (bkS n e k) := by
  rw [(views_s D).evens]
  unfold prodN Km537.rulesThereAre
  rw [List.foldl_map]
  rfl
/-- in order -/
def ltN : List Nat → List Nat → Bool
  | [], [] => false
  | [], _ :: _ => true
  | _ :: _, [] => false
  | x :: a, y :: b => if x = y then ltN a b else decide (x < y)
theorem ltL_iN : ∀ a b : List Nat, ltL (iN a) (iN b) = ltN a b
  | [], [] => rfl
  | [], _ :: _ => rfl
  | _ :: _, [] => rfl
  | x :: a, y :: b => by
    show ltL ((x : Int) :: iN a) ((y : Int) :: iN b) = _
    rw [ltL_cons, ltL_iN a b]
    show _ = if x = y then ltN a b else decide (x < y)
    by_cases c : x = y
    · rw [if_pos c, if_pos (by rw [c])]
    · rw [if_neg c, if_neg (by omega)]
      by_cases c2 : x < y
      · rw [decide_eq_true c2]; exact decide_eq_true (by omega)
      · rw [decide_eq_false c2]; exact decide_eq_false (by omega)
theorem rules_order : ∀ vs : List (List Nat), (Km537.allRules vs).Pairwise fun a b => ltN a b = true
  | [] => List.pairwise_singleton _ _
  | v :: vs => by
    have ih := rules_order vs
    show ((List.range (Km537.choices v)).flatMap fun m => (Km537.allRules vs).map fun x => m :: x).Pairwise _
    have key : ∀ L : List Nat, L.Pairwise (· < ·) → (L.flatMap fun m => (Km537.allRules vs).map fun x => m :: x).Pairwise fun a b => ltN a b = true := by
      intro L
      induction L with
      | nil => exact fun _ => .nil
      | cons m L ihL =>
        intro h
        obtain ⟨h1, h2⟩ := List.pairwise_cons.mp h
        rw [List.flatMap_cons, List.pairwise_append]
        refine ⟨?_, ihL h2, fun a ha b hb => ?_⟩
        · rw [List.pairwise_map]
          refine ih.imp fun {a b} h => ?_
          show (if m = m then ltN a b else _) = true
          rw [if_pos rfl]
          exact h
        · obtain ⟨x, _, rfl⟩ := List.mem_map.mp ha
          obtain ⟨m2, hm2, hb⟩ := List.mem_flatMap.mp hb
          obtain ⟨y, _, rfl⟩ := List.mem_map.mp hb
          have := h1 m2 hm2
          show (if m = m2 then ltN x y else decide (m < m2)) = true
          rw [if_neg (by omega)]
          exact decide_eq_true this
    exact key _ List.pairwise_lt_range
theorem rulesM_order {n e k : Nat} (D : Dims n e k) : (rulesM (evensM n e k)).Pairwise fun a b => ltL a b = true := by
  rw [rules_s D, List.pairwise_map]
  exact (rules_order _).imp fun {a b} h => by rw [ltL_iN]; exact h
/-! ### trials: of each sure set one -/
structure TrOk (S : List Int → List Nat) (L : List (List Int)) (ts : List TrialD) : Prop where
  nodup : (ts.map (·.sure)).Nodup
  mem : ∀ s, s ∈ ts.map (·.sure) ↔ ∃ R ∈ L, S R = s
  first : ∀ t ∈ ts, L.find? (fun R => decide (S R = t.sure)) = some t.first
  good : ∀ p : List Nat → Bool, ((ts.filter fun t => p t.sure).map fun t => (t.rules : Int)).sum = ((L.filter fun R => p (S R)).length : Nat)
theorem bump_first (s : List Nat) (t : TrialD) : (bumpT s t).first = t.first := by unfold bumpT; split <;> rfl
theorem bump_sum (p : List Nat → Bool) (s : List Nat) : ∀ ts : List TrialD, (ts.map (·.sure)).Nodup → s ∈ ts.map (·.sure) →
    (((ts.map (bumpT s)).filter fun t => p t.sure).map fun t => (t.rules : Int)).sum = ((ts.filter fun t => p t.sure).map fun t => (t.rules : Int)).sum + if p s = true then 1 else 0
  | [], _, h => nomatch h
  | t :: ts, hn, h => by
    rw [List.map_cons] at hn
    obtain ⟨h1, h2⟩ := List.nodup_cons.mp hn
    rw [List.map_cons, List.filter_cons, List.filter_cons, bump_sure]
    by_cases c : t.sure = s
    · have same : ts.map (bumpT s) = ts := by
        have : ∀ u ∈ ts, bumpT s u = id u := fun u hu => by
          unfold bumpT
          rw [if_neg fun z => h1 (by rw [c, ← z]; exact List.mem_map.mpr ⟨u, hu, rfl⟩)]
          rfl
        rw [List.map_congr_left this, List.map_id]
      rw [same, c]
      by_cases q : p s = true
      · rw [if_pos q, if_pos q, if_pos q, List.map_cons, List.map_cons, List.sum_cons, List.sum_cons]
        have : (bumpT s t).rules = t.rules + 1 := by unfold bumpT; rw [if_pos c]
        rw [this]
        omega
      · rw [if_neg q, if_neg q, if_neg q]
        omega
    · have hs : s ∈ ts.map (·.sure) := by
        rw [List.map_cons] at h
        rcases List.mem_cons.mp h with e | h
        · exact absurd e.symm c
        · exact h
      have ih := bump_sum p s ts h2 hs
      have : (bumpT s t).rules = t.rules := by unfold bumpT; rw [if_neg c]
      split
      · rw [List.map_cons, List.map_cons, List.sum_cons, List.sum_cons, ih, this]
        omega
      · exact ih
theorem tr_step {S : List Int → List Nat} {L : List (List Int)} {ts : List TrialD} (T : TrOk S L ts) (R : List Int) : TrOk S (L ++ [R]) (trialStep S ts R) := by
  have inL : ∀ s, (∃ Q ∈ L ++ [R], S Q = s) ↔ (∃ Q ∈ L, S Q = s) ∨ S R = s := fun s => by
    constructor
    · rintro ⟨Q, hQ, e⟩
      rcases List.mem_append.mp hQ with h | h
      · exact .inl ⟨Q, h, e⟩
      · rw [List.mem_singleton.mp h] at e; exact .inr e
    · rintro (⟨Q, h, e⟩ | e)
      · exact ⟨Q, List.mem_append_left _ h, e⟩
      · exact ⟨R, List.mem_append_right _ (List.mem_singleton.mpr rfl), e⟩
  have cnt : ∀ p : List Nat → Bool, (((L ++ [R]).filter fun R => p (S R)).length : Int) = ((L.filter fun R => p (S R)).length : Nat) + if p (S R) = true then 1 else 0 := fun p => by
    rw [List.filter_append, List.length_append, List.filter_cons, List.filter_nil]
    split
    · simp
    · simp
  unfold trialStep
  by_cases c : S R ∈ ts.map (·.sure)
  · rw [if_pos c]
    have es : (ts.map (bumpT (S R))).map (·.sure) = ts.map (·.sure) := by
      rw [List.map_map]
      exact List.map_congr_left fun t _ => bump_sure _ _
    refine ⟨by rw [es]; exact T.nodup, fun s => ?_, fun t ht => ?_, fun p => ?_⟩
    · rw [es, T.mem, inL]
      constructor
      · exact .inl
      · rintro (h | e)
        · exact h
        · rw [← e]; exact (T.mem _).mp c
    · obtain ⟨u, hu, rfl⟩ := List.mem_map.mp ht
      rw [bump_sure, bump_first, List.find?_append, T.first u hu]
      rfl
    · rw [bump_sum p _ _ T.nodup c, T.good p, cnt p]
  · rw [if_neg c]
    have nf : L.find? (fun Q => decide (S Q = S R)) = none := List.find?_eq_none.mpr fun Q hQ z => c ((T.mem _).mpr ⟨Q, hQ, of_decide_eq_true z⟩)
    refine ⟨?_, fun s => ?_, fun t ht => ?_, fun p => ?_⟩
    · rw [List.map_append, List.nodup_append]
      refine ⟨T.nodup, List.nodup_cons.mpr ⟨(fun z => nomatch z), List.nodup_nil⟩, fun a ha b hb z => ?_⟩
      rw [List.mem_singleton.mp hb] at z
      have z : a = S R := z
      rw [z] at ha
      exact c ha
    · rw [List.map_append, List.mem_append, T.mem, inL]
      refine or_congr_right ?_
      show s ∈ [S R] ↔ _
      rw [List.mem_singleton]
      exact ⟨Eq.symm, Eq.symm⟩
    · rcases List.mem_append.mp ht with h | h
      · rw [List.find?_append, T.first t h]
        rfl
      · rw [List.mem_singleton.mp h, List.find?_append]
        show (L.find? (fun Q => decide (S Q = S R))).or _ = some R
        rw [nf, Option.none_or, List.find?_cons]
        rw [decide_eq_true (rfl : S R = S R)]
    · rw [List.filter_append, List.map_append, List.sum_append, T.good p, cnt p, List.filter_cons, List.filter_nil]
      split <;> simp
theorem tr_fold (S : List Int → List Nat) : ∀ (n : Nat) (L : List (List Int)), L.length = n → TrOk S L (L.foldl (trialStep S) [])
  | 0, L, h => by
    rw [List.length_eq_zero_iff.mp h]
    exact ⟨List.nodup_nil, fun s => ⟨(fun z => nomatch z), (fun ⟨_, z, _⟩ => nomatch z)⟩, (fun t z => nomatch z), fun p => rfl⟩
  | n + 1, L, h => by
    obtain ⟨L', R, rfl, hl⟩ := snoc_of h
    rw [List.foldl_append]
    exact tr_step (tr_fold S n L' hl) R
theorem ltL_irrefl (x : List Int) : ltL x x = false := leL_refl x
theorem minT_le : ∀ (l : List (List Int)) (x y : List Int), y ∈ x :: l → ltL y (minT x l) = false
  | [], x, y, h => by
    rw [List.mem_singleton.mp h]
    exact ltL_irrefl x
  | z :: l, x, y, h => by
    have ih := minT_le l (if ltL z x = true then z else x)
    have e : minT x (z :: l) = minT (if ltL z x = true then z else x) l := rfl
    rw [e]
    have le : ∀ u, ltL u (if ltL z x = true then z else x) = false → True := fun _ _ => trivial
    have hmin := ih (if ltL z x = true then z else x) List.mem_cons_self
    rcases List.mem_cons.mp h with h | h
    · rw [h]
      by_cases c : ltL z x = true
      · rw [if_pos c] at hmin ⊢
        rw [← Bool.not_eq_true]
        intro w
        have := ltL_trans c w
        rw [this] at hmin
        cases hmin
      · rw [if_neg c] at hmin ⊢
        exact hmin
    · rcases List.mem_cons.mp h with h | h
      · rw [h]
        by_cases c : ltL z x = true
        · rw [if_pos c] at hmin ⊢
          exact hmin
        · rw [if_neg c] at hmin ⊢
          rw [← Bool.not_eq_true]
          intro w
          have c : ltL z x = false := by simpa using c
          by_cases q : ltL x z = true
          · have := ltL_trans q w
            rw [this] at hmin
            cases hmin
          · have q : ltL x z = false := by simpa using q
            rw [ltL_total c q] at w
            rw [w] at hmin
            cases hmin
      · exact ih y (List.mem_cons_of_mem _ h)
theorem find_first {α : Type} {lt : α → α → Prop} {p : α → Bool} : ∀ {l : List α} {x : α}, l.Pairwise lt → l.find? p = some x → ∀ y ∈ l, p y = true → y = x ∨ lt x y
  | z :: l, x, hl, h, y, hy, hp => by
    obtain ⟨h1, h2⟩ := List.pairwise_cons.mp hl
    rw [List.find?_cons] at h
    by_cases c : p z = true
    · rw [c] at h
      cases h
      rcases List.mem_cons.mp hy with e | hy
      · exact .inl e
      · exact .inr (h1 y hy)
    · have c0 : p z = false := by simpa using c
      rw [c0] at h
      rcases List.mem_cons.mp hy with e | hy
      · rw [e] at hp; exact absurd hp c
      · exact find_first h2 h y hy hp
/-- the first rule of the trials that are so is the first rule that is so -/
theorem minF_find {S : List Int → List Nat} {L : List (List Int)} {ts : List TrialD} (T : TrOk S L ts) (ord : L.Pairwise fun a b => ltL a b = true) (p : List Nat → Bool) :
    (L.find? (fun R => p (S R)) = none ↔ ts.filter (fun t => p t.sure) = []) ∧ ∀ R, L.find? (fun R => p (S R)) = some R → minF (ts.filter fun t => p t.sure) = R := by
  have mk : ∀ R ∈ L, p (S R) = true → ∃ t ∈ ts.filter (fun t => p t.sure), t.sure = S R := fun R hR hp => by
    obtain ⟨t, ht, e⟩ := List.mem_map.mp ((T.mem (S R)).mpr ⟨R, hR, rfl⟩)
    have e : t.sure = S R := e
    exact ⟨t, List.mem_filter.mpr ⟨ht, by rw [e]; exact hp⟩, e⟩
  have back : ∀ t ∈ ts.filter (fun t => p t.sure), t.first ∈ L ∧ p (S t.first) = true := fun t ht => by
    obtain ⟨h1, h2⟩ := List.mem_filter.mp ht
    have := T.first t h1
    have e := List.find?_some this
    have e : S t.first = t.sure := of_decide_eq_true e
    exact ⟨List.mem_of_find?_eq_some this, by rw [e]; exact h2⟩
  refine ⟨⟨fun h => ?_, fun h => ?_⟩, fun R h => ?_⟩
  · refine List.eq_nil_iff_forall_not_mem.mpr fun t ht => ?_
    obtain ⟨h1, h2⟩ := back t ht
    exact List.find?_eq_none.mp h _ h1 h2
  · refine List.find?_eq_none.mpr fun R hR hp => ?_
    obtain ⟨t, ht, _⟩ := mk R hR hp
    rw [h] at ht
    cases ht
  · have hR := List.mem_of_find?_eq_some h
    have hp := List.find?_some h
    obtain ⟨t, ht, et⟩ := mk R hR hp
    have tf : t.first = R := by
      have h1 := T.first t (List.mem_filter.mp ht).1
      have h2 := find_first ord h1 R hR (decide_eq_true et.symm)
      have h3 := find_first ord h t.first (back t ht).1 (back t ht).2
      rcases h2 with e | h2
      · exact e.symm
      · rcases h3 with e | h3
        · exact e
        · have := ltL_asymm h2
          rw [h3] at this
          cases this
    have ne : ts.filter (fun t => p t.sure) ≠ [] := fun z => by rw [z] at ht; cases ht
    obtain ⟨u, hu, eu⟩ := minF_mem ne
    have h3 := find_first ord h u.first (back u hu).1 (back u hu).2
    rcases h3 with e | h3
    · rw [eu, e]
    · exfalso
      have le : ltL t.first (minF (ts.filter fun t => p t.sure)) = false := by
        generalize hts : (ts.filter fun t => p t.sure) = us at ht
        cases us with
        | nil => cases ht
        | cons z us => exact minT_le (us.map (·.first)) z.first t.first (by rw [← List.map_cons (f := fun t : TrialD => t.first)]; exact List.mem_map.mpr ⟨t, ht, rfl⟩)
      rw [eu, tf, h3] at le
      cases le
end RG
namespace RG
/-! ### groups -/
theorem choose_mem : ∀ {r : List Nat} {s : Nat} {g : List Nat}, g ∈ Km537.choose s r → g.length = s ∧ ∀ y ∈ g, y ∈ r
  | r, 0, g, h => by
    have h : g ∈ [[]] := by cases r <;> exact h
    rw [List.mem_singleton.mp h]
    exact ⟨rfl, fun y z => nomatch z⟩
  | [], s + 1, g, h => nomatch h
  | x :: r, s + 1, g, h => by
    have h : g ∈ (Km537.choose s r).map (fun s => x :: s) ++ Km537.choose (s + 1) r := h
    rcases List.mem_append.mp h with h | h
    · obtain ⟨q, hq, rfl⟩ := List.mem_map.mp h
      obtain ⟨h1, h2⟩ := choose_mem hq
      refine ⟨by rw [List.length_cons, h1], fun y hy => ?_⟩
      rcases List.mem_cons.mp hy with e | hy
      · rw [e]; exact List.mem_cons_self
      · exact List.mem_cons_of_mem _ (h2 y hy)
    · obtain ⟨h1, h2⟩ := choose_mem h
      exact ⟨h1, fun y hy => List.mem_cons_of_mem _ (h2 y hy)⟩
theorem lastD_mem {g : List Nat} (h : g ≠ []) : g.getLastD 0 ∈ g := by
  cases g with
  | nil => exact absurd rfl h
  | cons x g =>
    rw [List.getLastD_cons, ← List.getLast_eq_getLastD (h := h)]
    exact List.getLast_mem _
theorem aft_cons {x : Nat} {g : List Nat} (h : g ≠ []) (y : Nat) : aft (x :: g) y = aft g y := by
  cases g with
  | nil => exact absurd rfl h
  | cons z g => rfl
theorem ext_cons {x : Nat} {r g : List Nat} (hx : ∀ y ∈ r, x < y) (hg : ∀ y ∈ g, y ∈ r) : groupExt (x :: r) (x :: g) = (groupExt r g).map fun s => x :: s := by
  unfold groupExt
  have e1 : (x :: r).filter (aft (x :: g)) = r.filter (aft g) := by
    rw [List.filter_cons]
    by_cases c : g = []
    · rw [c]
      have : aft [x] x = false := by
        show (false || decide (x < x)) = false
        rw [decide_eq_false (Nat.lt_irrefl x)]
        rfl
      rw [if_neg (by rw [this]; decide)]
      refine List.filter_congr fun y hy => ?_
      show (false || decide (x < y)) = true
      rw [decide_eq_true (hx y hy)]
      rfl
    · have : aft (x :: g) x = false := by
        rw [aft_cons c]
        unfold aft
        have h1 := hx _ (hg _ (lastD_mem c))
        rw [decide_eq_false (by omega), Bool.or_false]
        cases g with
        | nil => exact absurd rfl c
        | cons _ _ => rfl
      rw [if_neg (by rw [this]; decide)]
      exact List.filter_congr fun y _ => aft_cons c y
  rw [e1, List.map_map]
  rfl
theorem ext_skip {x : Nat} {r g : List Nat} (hx : ∀ y ∈ r, x < y) (hg : ∀ y ∈ g, y ∈ r) (c : g ≠ []) : groupExt (x :: r) g = groupExt r g := by
  unfold groupExt
  have : aft g x = false := by
    unfold aft
    have h1 := hx _ (hg _ (lastD_mem c))
    rw [decide_eq_false (by omega), Bool.or_false]
    cases g with
    | nil => exact absurd rfl c
    | cons _ _ => rfl
  rw [List.filter_cons, if_neg (by rw [this]; decide)]
theorem flatMap_cong {α β : Type} {f g : α → List β} : ∀ {l : List α}, (∀ x ∈ l, f x = g x) → l.flatMap f = l.flatMap g
  | [], _ => rfl
  | x :: l, h => by
    rw [List.flatMap_cons, List.flatMap_cons, h x List.mem_cons_self, flatMap_cong fun y hy => h y (List.mem_cons_of_mem _ hy)]
theorem choose_step : ∀ {ns : List Nat}, ns.Pairwise (· < ·) → ∀ s, (Km537.choose s ns).flatMap (groupExt ns) = Km537.choose (s + 1) ns
  | [], _, 0 => rfl
  | [], _, s + 1 => rfl
  | x :: r, h, 0 => by
    obtain ⟨h1, h2⟩ := List.pairwise_cons.mp h
    have ih := choose_step h2 0
    have e0 : ∀ l : List Nat, Km537.choose 0 l = [[]] := fun l => by cases l <;> rfl
    rw [e0] at ih ⊢
    show ([[]] : List (List Nat)).flatMap (groupExt (x :: r)) = (Km537.choose 0 r).map (fun s => x :: s) ++ Km537.choose 1 r
    rw [e0, ← ih]
    show groupExt (x :: r) [] ++ [] = [[x]] ++ (groupExt r [] ++ [])
    rw [List.append_nil, List.append_nil]
    unfold groupExt
    have all : ∀ l : List Nat, l.filter (aft []) = l := fun l => List.filter_eq_self.mpr fun y _ => rfl
    rw [all, all]
    rfl
  | x :: r, h, s + 1 => by
    obtain ⟨h1, h2⟩ := List.pairwise_cons.mp h
    have ih1 := choose_step h2 s
    have ih2 := choose_step h2 (s + 1)
    show ((Km537.choose s r).map (fun s => x :: s) ++ Km537.choose (s + 1) r).flatMap (groupExt (x :: r)) = (Km537.choose (s + 1) r).map (fun s => x :: s) ++ Km537.choose (s + 2) r
    rw [List.flatMap_append, List.flatMap_map, ← ih2]
    congr 1
    · rw [flatMap_cong (g := fun g => (groupExt r g).map fun s => x :: s) fun g hg => ext_cons h1 (choose_mem hg).2, ← ih1, List.map_flatMap]
    · exact flatMap_cong fun g hg => ext_skip h1 (choose_mem hg).2 fun z => by
        have := (choose_mem hg).1
        rw [z] at this
        cases this
theorem groups_s {ns : List Nat} (h : ns.Pairwise (· < ·)) : ∀ s, groupsM ns s = Km537.choose s ns
  | 0 => by cases ns <;> rfl
  | s + 1 => by
    show (groupsM ns s).flatMap (groupExt ns) = _
    rw [groups_s h s]
    exact choose_step h s
/-! ### what is told of the trials -/
theorem good_s (ms s : List Nat) : decide (gatN s ms = ms.length) = Km537.goodFor ms s := by
  unfold gatN Km537.goodFor
  rw [Bool.eq_iff_iff, decide_eq_true_iff, List.length_filter_eq_length_iff, List.all_eq_true]
  constructor
  · intro h m hm
    exact List.contains_iff_mem.mpr (of_decide_eq_true (h m hm))
  · intro h m hm
    exact decide_eq_true (List.contains_iff_mem.mp (h m hm))
section
variable {n e k a : Nat}
abbrev allS' (n e k a : Nat) : List (List Nat × List Nat) := Km537.allSures (bkS n e k) a
theorem all_s (D : Dims n e k) (ha : a ≤ 2) : allS' n e k a = (Km537.allRules (vsS n e k)).map fun r => (r, surM n e k (a : Int) (iN r)) := by
  show (Km537.allRules (vsS n e k)).map (fun r => (r, Km537.suresBy (Km537.table (bkS n e k) a) r)) = _
  exact List.map_congr_left fun r hr => by rw [sures_s D hr ha]
theorem tr_s (D : Dims n e k) : TrOk (surM n e k (a : Int)) ((Km537.allRules (vsS n e k)).map iN) (trialsM n e k (a : Int)) := by
  unfold trialsM
  rw [rules_s D]
  exact tr_fold _ _ _ rfl
theorem ord_s (D : Dims n e k) : ((Km537.allRules (vsS n e k)).map iN).Pairwise fun a b => ltL a b = true := by
  rw [← rules_s D]
  exact rulesM_order D
theorem find_all (D : Dims n e k) (ha : a ≤ 2) (p : List Nat → Bool) : ((Km537.allRules (vsS n e k)).map iN).find? (fun R => p (surM n e k (a : Int) R)) = (((allS' n e k a).find? fun x => p x.2).map fun x => x.1).map iN := by
  rw [all_s D ha, List.find?_map, List.find?_map]
  show Option.map iN ((Km537.allRules (vsS n e k)).find? fun r => p (surM n e k (a : Int) (iN r))) = Option.map iN (Option.map (fun x => x.1) (Option.map (fun r => (r, surM n e k (a : Int) (iN r))) ((Km537.allRules (vsS n e k)).find? fun r => p (surM n e k (a : Int) (iN r)))))
  cases (Km537.allRules (vsS n e k)).find? fun r => p (surM n e k (a : Int) (iN r)) <;> rfl
theorem firstGood_s (D : Dims n e k) (ha : a ≤ 2) (ms : List Nat) : firstGood (trialsM n e k (a : Int)) ms = (((allS' n e k a).find? fun x => Km537.goodFor ms x.2).map fun x => x.1).map iN := by
  rw [← find_all D ha (Km537.goodFor ms)]
  obtain ⟨h1, h2⟩ := minF_find (tr_s (a := a) D) (ord_s D) (Km537.goodFor ms)
  have ef : (trialsM n e k (a : Int)).filter (goodT ms) = (trialsM n e k (a : Int)).filter fun t => Km537.goodFor ms t.sure := List.filter_congr fun t _ => good_s ms t.sure
  unfold firstGood
  rw [ef]
  cases c : ((Km537.allRules (vsS n e k)).map iN).find? (fun R => Km537.goodFor ms (surM n e k (a : Int) R)) with
  | none => rw [if_pos (h1.mp c)]
  | some R =>
    have ne : (trialsM n e k (a : Int)).filter (fun t => Km537.goodFor ms t.sure) ≠ [] := fun z => by
      rw [h1.mpr z] at c
      cases c
    rw [if_neg ne, h2 R c]
theorem howGood_s (D : Dims n e k) (ha : a ≤ 2) (ms : List Nat) : howGood (trialsM n e k (a : Int)) ms = (((allS' n e k a).filter fun x => Km537.goodFor ms x.2).length : Nat) := by
  have ef : (trialsM n e k (a : Int)).filter (goodT ms) = (trialsM n e k (a : Int)).filter fun t => Km537.goodFor ms t.sure := List.filter_congr fun t _ => good_s ms t.sure
  unfold howGood
  rw [ef, (tr_s D).good (Km537.goodFor ms), all_s D ha, List.filter_map, List.filter_map, List.length_map, List.length_map]
  rfl
theorem hopeless_s (D : Dims n e k) (ha : a ≤ 2) {ms : List Nat} (h : ms.Pairwise (· < ·)) : hopeless (trialsM n e k (a : Int)) ms = Km537.core (allS' n e k a) ms := by
  unfold hopeless Km537.core
  rw [flatMap_cong fun s _ => groups_s h s]
  congr 1
  funext g
  rw [firstGood_s D ha]
  cases c : (allS' n e k a).find? fun x => Km537.goodFor g x.2 with
  | none =>
    have : ((allS' n e k a).any fun p => Km537.goodFor g p.2) = false := by
      rw [← Bool.not_eq_true, List.any_eq_true]
      rintro ⟨x, hx, hp⟩
      exact List.find?_eq_none.mp c x hx hp
    rw [this]
    rfl
  | some x =>
    have : ((allS' n e k a).any fun p => Km537.goodFor g p.2) = true := List.any_eq_true.mpr ⟨x, List.mem_of_find?_eq_some c, by have := List.find?_some c; exact this⟩
    rw [this]
    rfl
/-! the best -/
abbrev BestO : Type := List Nat × Nat
def bestStep (c : List Nat → Nat) (o : BestO) (r : List Nat) : BestO := if o.1 = [] ∨ o.2 < c r then (r, c r) else o
theorem best_fold (c : List Nat → Nat) : ∀ (n : Nat) (P : List (List Nat)), P.length = n + 1 → (∀ r ∈ P, r ≠ []) → P.find? (fun r => decide (c r = (P.foldl (bestStep c) ([], 0)).2)) = some (P.foldl (bestStep c) ([], 0)).1 ∧ ∀ r ∈ P, c r ≤ (P.foldl (bestStep c) ([], 0)).2
  | 0, P, h, hn => by
    obtain ⟨P', r, rfl, hl⟩ := snoc_of h
    rw [List.length_eq_zero_iff.mp hl]
    have e : ([] ++ [r] : List (List Nat)).foldl (bestStep c) ([], 0) = (r, c r) := by
      show bestStep c ([], 0) r = _
      unfold bestStep
      rw [if_pos (.inl rfl)]
    rw [e]
    refine ⟨?_, fun x hx => ?_⟩
    · show [r].find? _ = _
      rw [List.find?_cons, decide_eq_true rfl]
    · rw [List.mem_singleton.mp hx]
      exact Nat.le_refl _
  | n + 1, P, h, hn => by
    obtain ⟨P', r, rfl, hl⟩ := snoc_of h
    obtain ⟨h1, h2⟩ := best_fold c n P' hl fun x hx => hn x (List.mem_append_left _ hx)
    rw [List.foldl_append]
    show List.find? (fun x => decide (c x = (bestStep c (P'.foldl (bestStep c) ([], 0)) r).2)) _ = some (bestStep c (P'.foldl (bestStep c) ([], 0)) r).1 ∧ ∀ x ∈ P' ++ [r], c x ≤ (bestStep c (P'.foldl (bestStep c) ([], 0)) r).2
    generalize P'.foldl (bestStep c) ([], 0) = o at h1 h2
    have ne : o.1 ≠ [] := hn _ (List.mem_append_left _ (List.mem_of_find?_eq_some h1))
    unfold bestStep
    by_cases q : o.2 < c r
    · rw [if_pos (.inr q)]
      refine ⟨?_, fun x hx => ?_⟩
      · have nf : P'.find? (fun x => decide (c x = c r)) = none := List.find?_eq_none.mpr fun x hx z => by
          have z := of_decide_eq_true z
          have := h2 x hx
          omega
        rw [List.find?_append]
        show (P'.find? fun x => decide (c x = c r)).or _ = some r
        rw [nf, Option.none_or, List.find?_cons, decide_eq_true rfl]
      · rcases List.mem_append.mp hx with hx | hx
        · exact Nat.le_trans (h2 x hx) (Nat.le_of_lt q)
        · rw [List.mem_singleton.mp hx]
          exact Nat.le_refl _
    · rw [if_neg (fun z => z.elim ne q)]
      refine ⟨?_, fun x hx => ?_⟩
      · rw [List.find?_append, h1]
        rfl
      · rcases List.mem_append.mp hx with hx | hx
        · exact h2 x hx
        · rw [List.mem_singleton.mp hx]
          omega
theorem maxN_eq {l : List Nat} {m : Nat} (h1 : m ∈ l) (h2 : ∀ x ∈ l, x ≤ m) : maxN l = m := by
  have a := le_maxN h1
  have b := h2 _ (maxN_mem (l := l) fun z => by rw [z] at h1; cases h1)
  omega
theorem vs_ne (D : Dims n e k) : vsS n e k ≠ [] := by
  have h := ne_ok n D.n3 D.n7 k D.k1 D.k3 e D.e2
  unfold neOk at h
  rw [Bool.and_eq_true, Bool.and_eq_true] at h
  intro z
  have h := h.1.2
  rw [(views_s D).views, z] at h
  cases h
theorem best_s (D : Dims n e k) (ha : a ≤ 2) (ms : List Nat) : ∃ r, r ∈ Km537.allRules (vsS n e k) ∧ (allS' n e k a).foldl (fun (o : List Nat × Nat) (p : List Nat × List Nat) =>
            let c := (ms.filter fun i => p.2.contains i).length
            if o.1 = [] ∨ o.2 < c then (p.1, c) else o) ([], 0) = (r, mostGat (trialsM n e k (a : Int)) ms) ∧ minF (thatGat (trialsM n e k (a : Int)) ms (mostGat (trialsM n e k (a : Int)) ms)) = iN r := by
  have T := tr_s (a := a) D
  have cg : ∀ r : List Nat, (ms.filter fun i => (surM n e k (a : Int) (iN r)).contains i).length = gatN (surM n e k (a : Int) (iN r)) ms := fun r => by
    unfold gatN
    refine congrArg List.length (List.filter_congr fun i _ => ?_)
    rw [Bool.eq_iff_iff, List.contains_iff_mem, decide_eq_true_iff]
  have e1 : (allS' n e k a).foldl (fun (o : List Nat × Nat) (p : List Nat × List Nat) =>
            let c := (ms.filter fun i => p.2.contains i).length
            if o.1 = [] ∨ o.2 < c then (p.1, c) else o) ([], 0) = (Km537.allRules (vsS n e k)).foldl (bestStep fun r => gatN (surM n e k (a : Int) (iN r)) ms) ([], 0) := by
    rw [all_s D ha, List.foldl_map]
    congr 1
    funext o r
    show (if o.1 = [] ∨ o.2 < (ms.filter fun i => (surM n e k (a : Int) (iN r)).contains i).length then (r, (ms.filter fun i => (surM n e k (a : Int) (iN r)).contains i).length) else o) = _
    rw [cg]
    rfl
  have hlen : 0 < (Km537.allRules (vsS n e k)).length := by
    have h1 : (Km537.allRules (vsS n e k)).length = (rulesM (evensM n e k)).length := by rw [rules_s D, List.length_map]
    rw [h1]
    exact fold_len (evensM n e k) [[]]
  obtain ⟨h1, h2⟩ := best_fold (fun r => gatN (surM n e k (a : Int) (iN r)) ms) ((Km537.allRules (vsS n e k)).length - 1) (Km537.allRules (vsS n e k)) (by omega) fun r hr z => by
    have := allRules_len hr
    rw [z] at this
    exact vs_ne D (List.length_eq_zero_iff.mp this.symm)
  rw [e1]
  generalize (Km537.allRules (vsS n e k)).foldl (bestStep fun r => gatN (surM n e k (a : Int) (iN r)) ms) ([], 0) = o at h1 h2
  have hr := List.mem_of_find?_eq_some h1
  have hc : gatN (surM n e k (a : Int) (iN o.1)) ms = o.2 := by
    have := List.find?_some h1
    exact of_decide_eq_true this
  have memS : ∀ r ∈ Km537.allRules (vsS n e k), surM n e k (a : Int) (iN r) ∈ (trialsM n e k (a : Int)).map (·.sure) := fun r hr => (T.mem _).mpr ⟨iN r, List.mem_map.mpr ⟨r, hr, rfl⟩, rfl⟩
  have em : mostGat (trialsM n e k (a : Int)) ms = o.2 := by
    unfold mostGat gats
    refine maxN_eq ?_ fun x hx => ?_
    · obtain ⟨t, ht, et⟩ := List.mem_map.mp (memS _ hr)
      have et : t.sure = surM n e k (a : Int) (iN o.1) := et
      exact List.mem_map.mpr ⟨t, ht, by rw [et, hc]⟩
    · obtain ⟨t, ht, rfl⟩ := List.mem_map.mp hx
      obtain ⟨R, hR, eR⟩ := (T.mem t.sure).mp (List.mem_map.mpr ⟨t, ht, rfl⟩)
      obtain ⟨r, hr, rfl⟩ := List.mem_map.mp hR
      rw [← eR]
      exact h2 r hr
  refine ⟨o.1, hr, by rw [em], ?_⟩
  rw [em]
  have f : ((Km537.allRules (vsS n e k)).map iN).find? (fun R => decide (gatN (surM n e k (a : Int) R) ms = o.2)) = some (iN o.1) := by
    rw [List.find?_map]
    show Option.map iN ((Km537.allRules (vsS n e k)).find? fun r => decide (gatN (surM n e k (a : Int) (iN r)) ms = o.2)) = _
    rw [h1]
    rfl
  exact (minF_find T (ord_s D) fun s => decide (gatN s ms = o.2)).2 _ f
end
end RG
namespace RG
open PySem (argBest)
/-! ### whom they pick -/
def pickF (better : Nat → Nat → Bool) (js : List Nat) (y : Nat) : Nat := js.foldl (fun y x => if better x y = true then x else y) y
def pickS (better : Nat → Nat → Bool) (js : List Nat) : Option Nat := js.foldl (fun (o : Option Nat) (x : Nat) => match o with
  | none => some x
  | some y => if better x y then some x else some y) none
theorem pick_some (better : Nat → Nat → Bool) : ∀ (js : List Nat) (y : Nat), js.foldl (fun (o : Option Nat) (x : Nat) => match o with
  | none => some x
  | some y => if better x y then some x else some y) (some y) = some (pickF better js y)
  | [], y => rfl
  | x :: js, y => by
    rw [List.foldl_cons]
    show List.foldl _ (if better x y then some x else some y) js = some (pickF better (x :: js) y)
    unfold pickF
    rw [List.foldl_cons]
    by_cases c : better x y = true
    · rw [if_pos c, if_pos c]
      exact pick_some better js x
    · rw [if_neg c, if_neg c]
      exact pick_some better js y
theorem pickS_cons (better : Nat → Nat → Bool) (x : Nat) (js : List Nat) : pickS better (x :: js) = some (pickF better js x) := pick_some better js x
theorem pickF_congr {b1 b2 : Nat → Nat → Bool} : ∀ (js : List Nat) (y : Nat), (∀ x ∈ y :: js, ∀ z ∈ y :: js, b1 x z = b2 x z) → pickF b1 js y = pickF b2 js y
  | [], y, _ => rfl
  | x :: js, y, h => by
    unfold pickF
    rw [List.foldl_cons, List.foldl_cons, h x (List.mem_cons_of_mem _ List.mem_cons_self) y List.mem_cons_self]
    split
    · exact pickF_congr js x fun u hu z hz => h u (List.mem_cons_of_mem _ hu) z (List.mem_cons_of_mem _ hz)
    · refine pickF_congr js y fun u hu z hz => h u ?_ z ?_
      · rcases List.mem_cons.mp hu with e | hu
        · rw [e]; exact List.mem_cons_self
        · exact List.mem_cons_of_mem _ (List.mem_cons_of_mem _ hu)
      · rcases List.mem_cons.mp hz with e | hz
        · rw [e]; exact List.mem_cons_self
        · exact List.mem_cons_of_mem _ (List.mem_cons_of_mem _ hz)
def worseV (v : Nat → Option Nat) (x y : Nat) : Bool := match v x, v y with
  | none, some _ => true
  | some i, some j => decide (j < i)
  | _, none => false
def soonerV (v : Nat → Option Nat) (x y : Nat) : Bool := match v x, v y with
  | some _, none => true
  | some i, some j => decide (i < j)
  | none, _ => false
theorem worse_n {v : Nat → Option Nat} {x y : Nat} (h : v y = none) : worseV v x y = false := by
  unfold worseV
  rw [h]
  cases v x <;> rfl
theorem worse_ns {v : Nat → Option Nat} {x y i : Nat} (h : v x = none) (g : v y = some i) : worseV v x y = true := by
  unfold worseV
  rw [h, g]
theorem worse_ss {v : Nat → Option Nat} {x y i j : Nat} (h : v x = some i) (g : v y = some j) : worseV v x y = decide (j < i) := by
  unfold worseV
  rw [h, g]
theorem sooner_n {v : Nat → Option Nat} {x y : Nat} (h : v x = none) : soonerV v x y = false := by
  unfold soonerV
  rw [h]
theorem sooner_sn {v : Nat → Option Nat} {x y i : Nat} (h : v x = some i) (g : v y = none) : soonerV v x y = true := by
  unfold soonerV
  rw [h, g]
theorem sooner_ss {v : Nat → Option Nat} {x y i j : Nat} (h : v x = some i) (g : v y = some j) : soonerV v x y = decide (i < j) := by
  unfold soonerV
  rw [h, g]
theorem best_eq (f : Nat → Nat → Bool) (x : Nat) (xs : List Nat) : (x :: xs).getD (argBest (fun i j => f ((x :: xs).getD i 0) ((x :: xs).getD j 0)) ((x :: xs).length - 1)) 0 = pickF f xs x := by
  have := (PySem.W.argBest_fold f 0 x xs xs.length (Nat.le_refl _)).2
  rw [List.take_length] at this
  exact this
theorem bestmax_eq (ms : List (Option Nat)) (x : Nat) (xs : List Nat) : bestmax ms (x :: xs) = pickF (fun a b => decide ((((ms.getD a none).getD 0 : Nat) : Int) > (((ms.getD b none).getD 0 : Nat) : Int))) xs x := best_eq (fun a b => decide ((((ms.getD a none).getD 0 : Nat) : Int) > (((ms.getD b none).getD 0 : Nat) : Int))) x xs
theorem bestmin_eq (ms : List (Option Nat)) (x : Nat) (xs : List Nat) : bestmin ms (x :: xs) = pickF (fun a b => decide ((((ms.getD a none).getD 0 : Nat) : Int) < (((ms.getD b none).getD 0 : Nat) : Int))) xs x := best_eq (fun a b => decide ((((ms.getD a none).getD 0 : Nat) : Int) < (((ms.getD b none).getD 0 : Nat) : Int))) x xs
theorem against_v (ms : List (Option Nat)) : ∀ (js : List Nat) (x : Nat), pickF (worseV fun j => ms.getD j none) js x = againstM ms (x :: js) := by
  intro js x
  unfold againstM
  cases c : (x :: js).find? fun j => (ms.getD j none).isNone with
  | some j =>
    show _ = j
    have key : ∀ (js : List Nat) (x : Nat), (x :: js).find? (fun j => (ms.getD j none).isNone) = some j → pickF (worseV fun j => ms.getD j none) js x = j := by
      intro js
      induction js with
      | nil =>
        intro x h
        rw [List.find?_cons] at h
        cases e : (ms.getD x none).isNone with
        | true => rw [e] at h; cases h; rfl
        | false => rw [e] at h; cases h
      | cons y js ih =>
        intro x h
        unfold pickF
        rw [List.foldl_cons]
        cases e : ms.getD x none with
        | none =>
          rw [List.find?_cons, e] at h
          have h : some x = some j := h
          have w : worseV (fun j => ms.getD j none) y x = false := worse_n e
          rw [w, if_neg (by decide)]
          refine ih x ?_
          rw [List.find?_cons, e]
          exact h
        | some i =>
          rw [List.find?_cons, e] at h
          have h : (y :: js).find? (fun j => (ms.getD j none).isNone) = some j := h
          cases e2 : ms.getD y none with
          | none =>
            have w : worseV (fun j => ms.getD j none) y x = true := worse_ns e2 e
            rw [w, if_pos rfl]
            exact ih y h
          | some i2 =>
            rw [List.find?_cons, e2] at h
            have h : js.find? (fun j => (ms.getD j none).isNone) = some j := h
            have go : ∀ z, (∃ i, ms.getD z none = some i) → (z :: js).find? (fun j => (ms.getD j none).isNone) = some j := fun z ⟨i, hi⟩ => by
              rw [List.find?_cons, hi]
              exact h
            split
            · exact ih y (go y ⟨_, e2⟩)
            · exact ih x (go x ⟨_, e⟩)
    exact key js x c
  | none =>
    show _ = bestmax ms (x :: js)
    rw [bestmax_eq]
    have sm : ∀ u ∈ x :: js, ∃ i, ms.getD u none = some i := fun u hu => by
      have := List.find?_eq_none.mp c u hu
      cases e : ms.getD u none with
      | none => rw [e] at this; exact absurd rfl this
      | some i => exact ⟨i, rfl⟩
    refine pickF_congr js x fun u hu z hz => ?_
    obtain ⟨i, hi⟩ := sm u hu
    obtain ⟨j, hj⟩ := sm z hz
    rw [worse_ss (v := fun j => ms.getD j none) hi hj, hi, hj]
    show decide (j < i) = decide (((i : Nat) : Int) > ((j : Nat) : Int))
    by_cases q : j < i
    · rw [decide_eq_true q]; exact (decide_eq_true (by omega)).symm
    · rw [decide_eq_false q]; exact (decide_eq_false (by omega)).symm
theorem able_cons (ms : List (Option Nat)) (x : Nat) (js : List Nat) : ableL ms (x :: js) = if (ms.getD x none).isSome = true then x :: ableL ms js else ableL ms js := by
  unfold ableL
  rw [List.filter_cons]
theorem able_mem {ms : List (Option Nat)} {js : List Nat} {j : Nat} (h : j ∈ ableL ms js) : ∃ i, ms.getD j none = some i := Option.isSome_iff_exists.mp (List.mem_filter.mp h).2
theorem helped_v (ms : List (Option Nat)) : ∀ (js : List Nat) (x : Nat), pickF (soonerV fun j => ms.getD j none) js x = helpM ms (x :: js) := by
  have some_ : ∀ (js : List Nat) (x : Nat), (∃ i, ms.getD x none = some i) → pickF (soonerV fun j => ms.getD j none) js x = pickF (soonerV fun j => ms.getD j none) (ableL ms js) x := by
    intro js
    induction js with
    | nil => exact fun _ _ => rfl
    | cons y js ih =>
      rintro x ⟨i, hi⟩
      rw [able_cons]
      cases e : ms.getD y none with
      | none =>
        rw [if_neg (by decide)]
        have w : soonerV (fun j => ms.getD j none) y x = false := sooner_n e
        unfold pickF
        rw [List.foldl_cons, w, if_neg (by decide)]
        exact ih x ⟨i, hi⟩
      | some i2 =>
        rw [if_pos (show (some i2).isSome = true from rfl)]
        unfold pickF
        rw [List.foldl_cons, List.foldl_cons]
        split
        · exact ih y ⟨i2, e⟩
        · exact ih x ⟨i, hi⟩
  have none_ : ∀ (js : List Nat) (x : Nat), ms.getD x none = none → pickF (soonerV fun j => ms.getD j none) js x = match ableL ms js with
      | [] => x
      | y :: ys => pickF (soonerV fun j => ms.getD j none) ys y := by
    intro js
    induction js with
    | nil => exact fun _ _ => rfl
    | cons y js ih =>
      intro x hx
      rw [able_cons]
      cases e : ms.getD y none with
      | none =>
        rw [if_neg (by decide)]
        have w : soonerV (fun j => ms.getD j none) y x = false := sooner_n e
        unfold pickF
        rw [List.foldl_cons, w, if_neg (by decide)]
        exact ih x hx
      | some i2 =>
        rw [if_pos (show (some i2).isSome = true from rfl)]
        have w : soonerV (fun j => ms.getD j none) y x = true := sooner_sn e hx
        unfold pickF
        rw [List.foldl_cons, w, if_pos rfl]
        exact some_ js y ⟨i2, e⟩
  have cmp : ∀ (ys : List Nat) (y : Nat), (∀ u ∈ y :: ys, ∃ i, ms.getD u none = some i) → pickF (soonerV fun j => ms.getD j none) ys y = bestmin ms (y :: ys) := by
    intro ys y sm
    rw [bestmin_eq]
    refine pickF_congr ys y fun u hu z hz => ?_
    obtain ⟨i, hi⟩ := sm u hu
    obtain ⟨j, hj⟩ := sm z hz
    rw [sooner_ss (v := fun j => ms.getD j none) hi hj, hi, hj]
    show decide (i < j) = decide (((i : Nat) : Int) < ((j : Nat) : Int))
    by_cases q : i < j
    · rw [decide_eq_true q]; exact (decide_eq_true (by omega)).symm
    · rw [decide_eq_false q]; exact (decide_eq_false (by omega)).symm
  intro js x
  unfold helpM
  cases e : ms.getD x none with
  | none =>
    rw [none_ js x e]
    have ea : ableL ms (x :: js) = ableL ms js := by
      rw [able_cons, e, if_neg (by decide)]
    rw [ea]
    cases c : ableL ms js with
    | nil => rw [if_pos rfl]; rfl
    | cons y ys =>
      rw [if_neg (by simp)]
      exact cmp ys y fun u hu => able_mem (by rw [c]; exact hu)
  | some i =>
    have ea : ableL ms (x :: js) = x :: ableL ms js := by
      rw [able_cons, e, if_pos (show (some i).isSome = true from rfl)]
    rw [ea, if_neg (by simp), some_ js x ⟨i, e⟩]
    refine cmp _ x fun u hu => ?_
    rcases List.mem_cons.mp hu with h | h
    · exact ⟨i, by rw [h]; exact e⟩
    · exact able_mem h
end RG
namespace RG
/-! ### call by call -/
def toD (d : StD) (r : List Nat) : Km538.Desk := ⟨⟨d.n, d.e, d.k, d.m, d.ms, r⟩, d.past.reverse⟩
structure SOk (d : StD) (r : List Nat) : Prop where
  ok : StOk d
  R : d.R = iN r
  v : Valid d.n d.e d.k r
def Ag (d : StD) (r : List Nat) (c : Km538.Call) (s : StD × List Int) : Prop := ∃ r' A, SOk s.1 r' ∧ Km538.step (some (toD d r)) c = (some (toD s.1 r'), A) ∧ A.num :: A.nums = s.2
section
variable {d : StD} {r : List Nat}
theorem last_head : ∀ l : List Nat, l.reverse.headD 0 = l.getLastD 0 := fun l => by
  rw [List.headD_eq_head?_getD, List.head?_reverse, List.getLastD_eq_getLast?]
theorem here_s : Km538.here (toD d r) = d.now := last_head _
theorem N_s (O : SOk d r) : d.N = (nsS d.n d.k).length := by
  unfold StD.N
  rw [(names_s O.ok.dims).1, List.length_map]
theorem name_at_s (O : SOk d r) {i : Nat} (h : i < d.N) : ∃ l, (nsS d.n d.k)[i]? = some l ∧ d.nameOf i = iN l ∧ l ∈ nsS d.n d.k ∧ Km538.ringOf (toD d r) i = l := by
  rw [N_s O] at h
  have e : (nsS d.n d.k)[i]? = some ((nsS d.n d.k)[i]) := List.getElem?_eq_getElem h
  refine ⟨_, e, ?_, List.getElem_mem h, ?_⟩
  · unfold StD.nameOf
    rw [List.getD_eq_getElem?_getD, nm_at O.ok.dims e]
    rfl
  · show (nsS d.n d.k).getD i [] = _
    rw [List.getD_eq_getElem?_getD, e]
    rfl
theorem now_at_s (O : SOk d r) : ∃ l, (nsS d.n d.k)[d.now]? = some l ∧ d.name = iN l ∧ l ∈ nsS d.n d.k ∧ Km538.ringOf (toD d r) d.now = l := name_at_s O O.ok.nowlt
theorem ag_same {c : Km538.Call} {ns : List Int} (O : SOk d r) {A : Km538.Ans} (h : Km538.step (some (toD d r)) c = (some (toD d r), A)) (e : A.num :: A.nums = ns) : Ag d r c (d, ns) := ⟨r, A, O, h, e⟩
theorem at_s (O : SOk d r) (a : Nat) : Ag d r (.at_ a) (stepAt d [a]) := by
  have e : Km538.step (some (toD d r)) (.at_ a) = Km538.onBook (toD d r) (.at_ a) := rfl
  have e2 : Km537.step (some (toD d r).book) (.at_ a) = if 2 < a then (some (toD d r).book, Km537.say (-22)) else (some { (toD d r).book with at_ := a }, Km537.say (d.m : Nat)) := rfl
  unfold Ag stepAt
  rw [e]
  unfold Km538.onBook
  rw [e2]
  show ∃ (r' : List Nat) (A : Km538.Ans), SOk (if 2 < a then (d, [-22]) else ({ d with m := a }, [(d.m : Int)])).1 r' ∧ _ = (some (toD (if 2 < a then (d, [-22]) else ({ d with m := a }, [(d.m : Int)])).1 r'), A) ∧ A.num :: A.nums = (if 2 < a then (d, [-22]) else ({ d with m := a }, [(d.m : Int)])).2
  by_cases c : 2 < a
  · rw [if_pos c, if_pos c]
    exact ⟨r, _, O, rfl, rfl⟩
  · rw [if_neg c, if_neg c]
    exact ⟨r, _, ⟨⟨O.ok.dims, by show a ≤ 2; omega, O.ok.rl, O.ok.ne, O.ok.p60, O.ok.plt, O.ok.rise, O.ok.mlt⟩, O.R, O.v⟩, rfl, rfl⟩
theorem names_c (O : SOk d r) : Ag d r .names (stepNames d []) := by
  refine ag_same O rfl ?_
  show ((nsS d.n d.k).length : Int) :: [] = [(d.N : Int)]
  rw [N_s O]
theorem get_none {α : Type} {l : List α} {i : Nat} (h : ¬ i < l.length) : l[i]? = none := List.getElem?_eq_none (Nat.le_of_not_lt h)
theorem name_c (O : SOk d r) (i : Nat) : Ag d r (.name i) (stepName d [i]) := by
  unfold stepName
  show Ag d r (.name i) (if i < d.N then (d, (d.n : Int) :: d.nameOf i) else (d, [-2]))
  have e : Km538.step (some (toD d r)) (.name i) = (some (toD d r), ⟨(match (nsS d.n d.k)[i]? with | none => Km537.say (-2) | some l => Km537.tellAll l).num, (match (nsS d.n d.k)[i]? with | none => Km537.say (-2) | some l => Km537.tellAll l).nums⟩) := rfl
  by_cases c : i < d.N
  · obtain ⟨l, h1, h2, h3, _⟩ := name_at_s O c
    rw [if_pos c]
    refine ag_same O e ?_
    rw [h1, h2]
    show ((l.length : Nat) : Int) :: iN l = _
    rw [(name_s O.ok.dims h3).len]
  · rw [if_neg c]
    refine ag_same O e ?_
    rw [get_none (by rw [← N_s O]; exact c)]
    rfl
theorem place_c (O : SOk d r) (i : Nat) : Ag d r (.place i) (stepPlace d [i]) := by
  unfold stepPlace
  show Ag d r (.place i) (if i < d.N then ({ d with past := [i] }, [(d.now : Int)]) else (d, [-2]))
  have e : Km538.step (some (toD d r)) (.place i) = if (nsS d.n d.k).length ≤ i then (some (toD d r), Km538.say (-2)) else (some { (toD d r) with past := [i] }, Km538.say (Km538.here (toD d r) : Nat)) := rfl
  by_cases c : i < d.N
  · rw [if_pos c]
    rw [if_neg (by rw [← N_s O]; omega), here_s] at e
    refine ⟨r, _, ⟨O.ok.with ⟨by simp, by show 1 ≤ 60; decide, fun j hj => ?_⟩, O.R, O.v⟩, e, rfl⟩
    rw [List.mem_singleton.mp hj]
    exact c
  · rw [if_neg c]
    rw [if_pos (by rw [← N_s O]; omega)] at e
    exact ag_same O e rfl
theorem ring_c (O : SOk d r) : Ag d r .ring (stepRing d []) := by
  obtain ⟨l, h1, h2, h3, h4⟩ := now_at_s O
  refine ag_same O rfl ?_
  show (Km538.here (toD d r) : Int) :: Km538.n2i (Km538.ringOf (toD d r) (Km538.here (toD d r))) = (d.now : Int) :: d.name
  rw [here_s, h4, h2]
  rfl
theorem sees_c (O : SOk d r) : Ag d r .sees (stepSees d []) := by
  obtain ⟨l, h1, h2, h3, h4⟩ := now_at_s O
  have e : Km538.step (some (toD d r)) .sees = (some (toD d r), ⟨(match (nsS d.n d.k)[Km538.here (toD d r)]? with | none => Km537.say (-2) | some l => Km537.tellAll ((seenS d.e l).map fun v => Km537.place (vsS d.n d.e d.k) v)).num, (match (nsS d.n d.k)[Km538.here (toD d r)]? with | none => Km537.say (-2) | some l => Km537.tellAll ((seenS d.e l).map fun v => Km537.place (vsS d.n d.e d.k) v)).nums⟩) := rfl
  rw [here_s, h1] at e
  refine ag_same O e ?_
  show _ = cntI (viewsIn d.n d.e d.k (sightsM d.name (d.e : Int)))
  rw [h2, (views_s O.ok.dims).here l h3]
  rfl
theorem V_s (O : SOk d r) : d.V = (vsS d.n d.e d.k).length := by
  unfold StD.V
  rw [(views_s O.ok.dims).views, List.length_map]
theorem view_at_s (O : SOk d r) {i : Nat} (h : i < d.V) : ∃ l, (vsS d.n d.e d.k)[i]? = some l ∧ (viewsM d.n d.e d.k).getD i [] = iN l ∧ (evensM d.n d.e d.k).getD i false = Km537.evenRow l := by
  rw [V_s O] at h
  have e : (vsS d.n d.e d.k)[i]? = some ((vsS d.n d.e d.k)[i]) := List.getElem?_eq_getElem h
  refine ⟨_, e, ?_, ?_⟩
  · rw [(views_s O.ok.dims).views, List.getD_eq_getElem?_getD, List.getElem?_map, e]
    rfl
  · rw [(views_s O.ok.dims).evens, List.getD_eq_getElem?_getD, List.getElem?_map, e]
    rfl
theorem view_c (O : SOk d r) (i : Nat) : Ag d r (.view i) (stepView d [i]) := by
  unfold stepView
  show Ag d r (.view i) (if i < d.V then (d, (if (evensM d.n d.e d.k).getD i false = true then 1 else 0) :: (viewsM d.n d.e d.k).getD i []) else (d, [-2]))
  have e : Km538.step (some (toD d r)) (.view i) = (some (toD d r), ⟨(match (vsS d.n d.e d.k)[i]? with | none => Km537.say (-2) | some l => ⟨(if Km537.evenRow l then 1 else 0), Km537.n2i l⟩).num, (match (vsS d.n d.e d.k)[i]? with | none => Km537.say (-2) | some l => ⟨(if Km537.evenRow l then 1 else 0), Km537.n2i l⟩ : Km537.Ans).nums⟩) := rfl
  by_cases c : i < d.V
  · obtain ⟨l, h1, h2, h3⟩ := view_at_s O c
    rw [if_pos c]
    refine ag_same O e ?_
    rw [h1, h2, h3]
    rfl
  · rw [if_neg c]
    refine ag_same O e ?_
    rw [get_none (by rw [← V_s O]; exact c)]
    rfl
theorem allRules_set : ∀ {vs : List (List Nat)} {r : List Nat} {v m : Nat} {l : List Nat}, r ∈ Km537.allRules vs → vs[v]? = some l → m < Km537.choices l → r.set v m ∈ Km537.allRules vs
  | [], _, _, _, _, _, e, _ => by simp at e
  | w :: vs, r, v, m, l, h, e, hm => by
    obtain ⟨m0, x, rfl, h1, hx⟩ := allRules_cons.mp h
    cases v with
    | zero =>
      cases e
      exact allRules_cons.mpr ⟨m, x, rfl, hm, hx⟩
    | succ v => exact allRules_cons.mpr ⟨m0, x.set v m, rfl, h1, allRules_set hx (by simpa using e) hm⟩
theorem ref_s (O : SOk d r) (v m : Nat) : (refM d v m = match (vsS d.n d.e d.k)[v]? with
    | none => some (-2)
    | some l => if Km537.choices l ≤ m then some (-22) else none) := by
  unfold refM
  by_cases c : v < d.V
  · obtain ⟨l, h1, h2, h3⟩ := view_at_s O c
    rw [if_pos c, h1]
    show (if 2 < m then some (-22) else if 1 < m ∧ d.even v = true then some (-22) else none) = if Km537.choices l ≤ m then some (-22) else none
    have h3 : d.even v = Km537.evenRow l := h3
    rw [h3]
    unfold Km537.choices
    by_cases e : Km537.evenRow l = true
    · rw [if_pos e]
      by_cases c2 : 2 < m
      · rw [if_pos c2, if_pos (by omega)]
      · rw [if_neg c2]
        by_cases c1 : 1 < m
        · rw [if_pos ⟨c1, e⟩, if_pos (by omega)]
        · rw [if_neg (fun z => c1 z.1), if_neg (by omega)]
    · rw [if_neg e]
      by_cases c2 : 2 < m
      · rw [if_pos c2, if_pos (by omega)]
      · rw [if_neg c2, if_neg (fun z => e z.2), if_neg (by omega)]
  · rw [if_neg c, get_none (by rw [← V_s O]; exact c)]
theorem iN_set (r : List Nat) (v m : Nat) : iN (r.set v m) = (iN r).set v (m : Int) := List.map_set ..
theorem set_c (O : SOk d r) (v m : Nat) : Ag d r (.set v m) (stepSet d [v, m]) := by
  unfold stepSet
  show Ag d r (.set v m) (match refM d v m with | some y => (d, [y]) | none => ({ d with R := d.R.set v (m : Int) }, [d.R.getD v 0]))
  rw [ref_s O]
  have e : Km538.step (some (toD d r)) (.set v m) = Km538.onBook (toD d r) (.set v m) := rfl
  have e2 : Km537.step (some (toD d r).book) (.set v m) = match (vsS d.n d.e d.k)[v]? with
        | none => (some (toD d r).book, Km537.say (-2))
        | some l => if Km537.choices l ≤ m then (some (toD d r).book, Km537.say (-22)) else (some { (toD d r).book with rule := r.set v m }, Km537.say (r.getD v 0 : Nat)) := rfl
  unfold Km538.onBook at e
  rw [e2] at e
  cases h : (vsS d.n d.e d.k)[v]? with
  | none =>
    rw [h] at e
    exact ag_same O e rfl
  | some l =>
    rw [h] at e
    show Ag d r (.set v m) (match (if Km537.choices l ≤ m then some (-22) else none : Option Int) with | some y => (d, [y]) | none => ({ d with R := d.R.set v (m : Int) }, [d.R.getD v 0]))
    have e : Km538.step (some (toD d r)) (.set v m) = (some { toD d r with book := ((if Km537.choices l ≤ m then (some (toD d r).book, Km537.say (-22)) else (some { (toD d r).book with rule := r.set v m }, Km537.say (r.getD v 0 : Nat))) : Km537.State × Km537.Ans).1.getD (toD d r).book }, ⟨((if Km537.choices l ≤ m then (some (toD d r).book, Km537.say (-22)) else (some { (toD d r).book with rule := r.set v m }, Km537.say (r.getD v 0 : Nat))) : Km537.State × Km537.Ans).2.num, ((if Km537.choices l ≤ m then (some (toD d r).book, Km537.say (-22)) else (some { (toD d r).book with rule := r.set v m }, Km537.say (r.getD v 0 : Nat))) : Km537.State × Km537.Ans).2.nums⟩) := e
    by_cases c : Km537.choices l ≤ m
    · rw [if_pos c] at e ⊢
      exact ag_same O e rfl
    · rw [if_neg c] at e ⊢
      refine ⟨r.set v m, _, ⟨⟨O.ok.dims, O.ok.m2, by show (d.R.set v (m : Int)).length = _; rw [List.length_set]; exact O.ok.rl, O.ok.ne, O.ok.p60, O.ok.plt, O.ok.rise, O.ok.mlt⟩, by show d.R.set v (m : Int) = _; rw [iN_set, O.R], allRules_set O.v h (by omega)⟩, e, ?_⟩
      show [((r.getD v 0 : Nat) : Int)] = [d.R.getD v 0]
      rw [O.R, iN_get]
theorem rule_c (O : SOk d r) : Ag d r .rule (stepRule d []) := by
  refine ag_same O rfl ?_
  show ((r.length : Nat) : Int) :: iN r = (d.R.length : Int) :: d.R
  rw [O.R, List.length_map]
/-! what may come -/
theorem ahead_of {i : Nat} (O : SOk d r) (h : i < d.N) : aheadL d.n d.e d.k d.R (d.m : Int) (d.nameOf i) = Km538.nexts (toD d r) i := by
  obtain ⟨l, h1, h2, h3, h4⟩ := name_at_s O h
  have := ahead_s O.ok.dims h3 (tell_desk O.ok.dims O.v (Km538.ringOf (toD d r) i) d.m h3) O.ok.m2
  rw [h2, O.R]
  refine Eq.trans this ?_
  show nxS (nsS d.n d.k) (dkS d.n d.e d.k (Km538.ringOf (toD d r) i) r d.m) d.m l = nxS (nsS d.n d.k) (dkS d.n d.e d.k (Km538.ringOf (toD d r) i) r d.m) d.m (Km538.ringOf (toD d r) i)
  rw [h4]
theorem aheadD_s (O : SOk d r) : aheadD d = Km538.nexts (toD d r) (Km538.here (toD d r)) := by
  rw [here_s]
  exact ahead_of O O.ok.nowlt
theorem gNx_eq (O : SOk d r) {i : Nat} (h : i < d.N) : gNx (graphD d) i = Km538.nexts (toD d r) i := by
  rw [← ahead_of O h]
  obtain ⟨l, h1, h2, h3, h4⟩ := name_at_s O h
  exact graph_row (by rw [h2]; exact nm_at O.ok.dims h1)
theorem next_c (O : SOk d r) : Ag d r .next (stepNext d []) := by
  refine ag_same O rfl ?_
  show _ = cntI (aheadD d)
  rw [aheadD_s O]
  rfl
theorem come_past (past : List Nat) (i : Nat) (h : past.length ≤ 60) : (comeM past i).reverse = (i :: past.reverse).take 60 := by
  unfold comeM
  by_cases c : 60 < (past ++ [i]).length
  · rw [if_pos c]
    rw [List.length_append] at c
    have hl : past.length = 60 := by simp only [List.length_cons, List.length_nil] at c; omega
    match past, hl with
    | x :: p, hl =>
      show (p ++ [i]).reverse = (i :: (x :: p).reverse).take 60
      rw [List.reverse_append]
      show i :: p.reverse = (i :: (x :: p).reverse).take 60
      rw [List.reverse_cons]
      show i :: p.reverse = i :: (p.reverse ++ [x]).take 59
      rw [List.take_append_of_le_length (by rw [List.length_reverse]; rw [List.length_cons] at hl; omega), List.take_of_length_le (by rw [List.length_reverse]; rw [List.length_cons] at hl; omega)]
  · rw [if_neg c, List.reverse_append]
    rw [List.length_append] at c
    rw [List.take_of_length_le (by rw [List.length_cons, List.length_reverse]; simp only [List.length_cons, List.length_nil] at c; omega)]
    rfl
theorem come_s (O : SOk d r) (i : Nat) : Km538.come (toD d r) i = toD { d with past := comeM d.past i } r := by
  unfold Km538.come toD
  rw [come_past d.past i O.ok.p60]
  rfl
theorem come_ok (O : SOk d r) {i : Nat} (h : i < d.N) : SOk { d with past := comeM d.past i } r := ⟨O.ok.with (O.ok.past.come h), O.R, O.v⟩
theorem next_lt (O : SOk d r) {i j : Nat} (hi : i < d.N) (h : j ∈ Km538.nexts (toD d r) i) : j < d.N := by
  rw [← gNx_eq O hi] at h
  have := (graph_ok O.ok.dims).into i j h
  rw [graph_len] at this
  exact this
theorem go_c (O : SOk d r) (i : Nat) : Ag d r (.go i) (stepGo d [i]) := by
  unfold stepGo
  show Ag d r (.go i) (if i < d.N then (if i ∈ aheadD d then ({ d with past := comeM d.past i }, [((comeM d.past i).length : Int)]) else (d, [-12])) else (d, [-2]))
  have e : Km538.step (some (toD d r)) (.go i) = if (nsS d.n d.k).length ≤ i then (some (toD d r), Km538.say (-2)) else if (Km538.nexts (toD d r) (Km538.here (toD d r))).contains i = false then (some (toD d r), Km538.say (-12)) else (some (Km538.come (toD d r) i), Km538.say ((Km538.come (toD d r) i).past.length : Nat)) := rfl
  rw [← aheadD_s O, ← N_s O] at e
  by_cases c : i < d.N
  · rw [if_pos c]
    rw [if_neg (by omega)] at e
    by_cases c2 : i ∈ aheadD d
    · rw [if_pos c2]
      rw [if_neg (by rw [List.contains_iff_mem.mpr c2]; decide), come_s O] at e
      refine ⟨r, _, come_ok O c, e, ?_⟩
      show [(((comeM d.past i).reverse.length : Nat) : Int)] = _
      rw [List.length_reverse]
    · rw [if_neg c2]
      rw [if_pos (by rw [← Bool.not_eq_true, List.contains_iff_mem]; exact c2)] at e
      exact ag_same O e rfl
  · rw [if_neg c]
    rw [if_pos (by omega)] at e
    exact ag_same O e rfl
/-! in how many moves -/
theorem longest_c (O : SOk d r) {i : Nat} (h : i < d.N) : Least (fun t => SureIn (gNx (graphD d)) (gRs (restD d)) t i) (Km538.longest (toD d r) i) := by
  obtain ⟨l, h1, h2, h3, h4⟩ := name_at_s O h
  have := longest_s (l0 := l) (a0 := d.m) O.ok.dims O.v O.ok.m2 h1 h3
  rw [← O.R] at this
  show Least _ (Km536.longest (dkS d.n d.e d.k (Km538.ringOf (toD d r) i) r d.m) d.m (Km538.ringOf (toD d r) i))
  rw [h4]
  exact this
theorem soonest_c (O : SOk d r) {i : Nat} (h : i < d.N) : Least (fun t => CanIn (gNx (graphD d)) (gRs (restD d)) t i) (Km538.soonest (toD d r) i) := by
  obtain ⟨l, h1, h2, h3, h4⟩ := name_at_s O h
  have := soonest_s (l0 := l) (a0 := d.m) O.ok.dims O.v O.ok.m2 h1
  rw [← O.R] at this
  show Least _ (Km536.soonest (dkS d.n d.e d.k (Km538.ringOf (toD d r) i) r d.m) d.m (Km538.ringOf (toD d r) i))
  rw [h4]
  exact this
def valS (h : Bool) (D : Km538.Desk) (i : Nat) : Option Nat := if h = true then Km538.soonest D i else Km538.longest D i
theorem moves_s (O : SOk d r) (h : Bool) : MovesOf h d ((List.range d.N).map (valS h (toD d r))) := by
  have hl : ((List.range d.N).map (valS h (toD d r))).length = (graphD d).length := by
    rw [List.length_map, List.length_range]
    exact (graph_len ..).symm
  have at_ : ∀ i o, ((List.range d.N).map (valS h (toD d r)))[i]? = some o → i < d.N ∧ o = valS h (toD d r) i := fun i o ho => by
    rw [List.getElem?_map] at ho
    by_cases c : i < d.N
    · rw [List.getElem?_range c] at ho
      exact ⟨c, (Option.some.inj ho).symm⟩
    · rw [get_none (by rw [List.length_range]; exact c)] at ho
      cases ho
  unfold MovesOf
  cases h with
  | true =>
    rw [if_pos rfl]
    refine ⟨hl, fun i o ho => ?_⟩
    obtain ⟨h1, rfl⟩ := at_ i o ho
    exact soonest_c O h1
  | false =>
    rw [if_neg (by decide)]
    refine ⟨hl, fun i o ho => ?_⟩
    obtain ⟨h1, rfl⟩ := at_ i o ho
    exact longest_c O h1
theorem movesD_at (O : SOk d r) (h : Bool) {i : Nat} (hi : i < d.N) : (movesD h d).getD i none = valS h (toD d r) i := by
  rw [movesD_eq (moves_s O h), List.getD_eq_getElem?_getD, List.getElem?_map, List.getElem?_range hi]
  rfl
theorem moveD_s (O : SOk d r) (h : Bool) : moveD h d = valS h (toD d r) d.now := by
  refine moveD_eq ?_
  unfold MoveNow valS
  cases h with
  | true =>
    rw [if_pos rfl, if_pos rfl]
    exact soonest_c O O.ok.nowlt
  | false =>
    rw [if_neg (by decide), if_neg (by decide)]
    exact longest_c O O.ok.nowlt
def pickD (h : Bool) : Km538.Desk → Nat → Option Nat := if h = true then Km538.helped else Km538.against
theorem pick_s (O : SOk d r) (h : Bool) {i : Nat} (hi : i < d.N) : pickD h (toD d r) i = if gNx (graphD d) i = [] then none else some (chooseM h (movesD h d) (gNx (graphD d) i)) := by
  have lt : ∀ j ∈ gNx (graphD d) i, j < d.N := fun j hj => next_lt O hi (by rw [← gNx_eq O hi]; exact hj)
  have e : pickD h (toD d r) i = pickS (if h = true then Km538.sooner (toD d r) else Km538.worse (toD d r)) (gNx (graphD d) i) := by
    rw [gNx_eq O hi]
    cases h <;> rfl
  rw [e]
  cases c : gNx (graphD d) i with
  | nil => rfl
  | cons x js =>
    rw [c] at lt
    rw [if_neg (List.cons_ne_nil x js), pickS_cons]
    congr 1
    unfold chooseM
    cases h with
    | true =>
      rw [if_pos rfl, if_pos rfl, ← helped_v]
      refine pickF_congr js x fun u hu z hz => ?_
      unfold Km538.sooner soonerV
      show _ = match (movesD true d).getD u none, (movesD true d).getD z none with | some _, none => true | some i, some j => decide (i < j) | none, _ => false
      rw [movesD_at O true (lt u hu), movesD_at O true (lt z hz)]
      rfl
    | false =>
      rw [if_neg (by decide), if_neg (by decide), ← against_v]
      refine pickF_congr js x fun u hu z hz => ?_
      unfold Km538.worse worseV
      show _ = match (movesD false d).getD u none, (movesD false d).getD z none with | none, some _ => true | some i, some j => decide (j < i) | _, none => false
      rw [movesD_at O false (lt u hu), movesD_at O false (lt z hz)]
      rfl
theorem movesD_past (h : Bool) (p : List Nat) : movesD h { d with past := p } = movesD h d := rfl
theorem run_s (h : Bool) : ∀ (t : Nat) (p : List Nat), SOk { d with past := p } r → Km538.runUp (toD { d with past := p } r) (pickD h) t = (toD { d with past := (runM h (graphD d) (movesD h d) t p).2 } r, (runM h (graphD d) (movesD h d) t p).1) ∧ SOk { d with past := (runM h (graphD d) (movesD h d) t p).2 } r
  | 0, p, O => ⟨rfl, O⟩
  | t + 1, p, O => by
    have e : Km538.runUp (toD { d with past := p } r) (pickD h) (t + 1) = match pickD h (toD { d with past := p } r) (Km538.here (toD { d with past := p } r)) with
      | none => (toD { d with past := p } r, 0)
      | some x => ((Km538.runUp (Km538.come (toD { d with past := p } r) x) (pickD h) t).1, (Km538.runUp (Km538.come (toD { d with past := p } r) x) (pickD h) t).2 + 1) := rfl
    have hn : Km538.here (toD { d with past := p } r) = p.getLastD 0 := here_s (d := { d with past := p })
    have hlt : p.getLastD 0 < d.N := O.ok.nowlt
    have hp := pick_s O h (i := p.getLastD 0) hlt
    rw [hn, hp] at e
    rw [e]
    show (match (if gNx (graphD d) (p.getLastD 0) = [] then none else some (chooseM h (movesD h d) (gNx (graphD d) (p.getLastD 0)))) with | none => _ | some x => _) = (toD { d with past := (if gNx (graphD d) (p.getLastD 0) = [] then (0, p) else ((runM h (graphD d) (movesD h d) t (comeM p (chooseM h (movesD h d) (gNx (graphD d) (p.getLastD 0))))).1 + 1, (runM h (graphD d) (movesD h d) t (comeM p (chooseM h (movesD h d) (gNx (graphD d) (p.getLastD 0))))).2)).2 } r, (if gNx (graphD d) (p.getLastD 0) = [] then (0, p) else ((runM h (graphD d) (movesD h d) t (comeM p (chooseM h (movesD h d) (gNx (graphD d) (p.getLastD 0))))).1 + 1, (runM h (graphD d) (movesD h d) t (comeM p (chooseM h (movesD h d) (gNx (graphD d) (p.getLastD 0))))).2)).1) ∧ SOk { d with past := (if gNx (graphD d) (p.getLastD 0) = [] then (0, p) else ((runM h (graphD d) (movesD h d) t (comeM p (chooseM h (movesD h d) (gNx (graphD d) (p.getLastD 0))))).1 + 1, (runM h (graphD d) (movesD h d) t (comeM p (chooseM h (movesD h d) (gNx (graphD d) (p.getLastD 0))))).2)).2 } r
    by_cases c : gNx (graphD d) (p.getLastD 0) = []
    · rw [if_pos c, if_pos c]
      exact ⟨rfl, O⟩
    · rw [if_neg c, if_neg c]
      have hc : chooseM h (movesD h d) (gNx (graphD d) (p.getLastD 0)) < d.N := by
        have h1 := chooseM_mem (h := h) (ms := movesD h d) c
        have := (graph_ok O.ok.dims).into (p.getLastD 0) _ h1
        rw [graph_len] at this
        exact this
      obtain ⟨i1, i2⟩ := run_s h t _ (come_ok O hc)
      have ec : Km538.come (toD { d with past := p } r) (chooseM h (movesD h d) (gNx (graphD d) (p.getLastD 0))) = toD { d with past := comeM p (chooseM h (movesD h d) (gNx (graphD d) (p.getLastD 0))) } r := come_s O _
      refine ⟨?_, i2⟩
      show ((Km538.runUp (Km538.come (toD { d with past := p } r) (chooseM h (movesD h d) (gNx (graphD d) (p.getLastD 0)))) (pickD h) t).1, (Km538.runUp (Km538.come (toD { d with past := p } r) (chooseM h (movesD h d) (gNx (graphD d) (p.getLastD 0)))) (pickD h) t).2 + 1) = _
      rw [ec]
      have i1 : Km538.runUp (toD { d with past := comeM p (chooseM h (movesD h d) (gNx (graphD d) (p.getLastD 0))) } r) (pickD h) t = _ := i1
      rw [i1]
theorem ran_s (O : SOk d r) (h : Bool) (t : Nat) : Km538.runUp (toD d r) (pickD h) t = (toD (ranD h t d).2 r, (ranD h t d).1) ∧ SOk (ranD h t d).2 r := run_s h t d.past O
end
end RG
namespace RG
section
variable {d : StD} {r : List Nat}
/-! moves -/
theorem one_c (O : SOk d r) (h : Bool) {c : Km538.Call} (e : Km538.step (some (toD d r)) c = match pickD h (toD d r) (Km538.here (toD d r)) with
        | none => (some (toD d r), Km538.say (-33))
        | some x => (some (Km538.come (toD d r) x), Km538.say (x : Nat))) : Ag d r c (stepOne h d) := by
  have hp := pick_s O h (i := d.now) O.ok.nowlt
  have er : ∀ t, (ranD h t d) = ((runM h (graphD d) (movesD h d) t d.past).1, { d with past := (runM h (graphD d) (movesD h d) t d.past).2 }) := fun _ => rfl
  have ran : runM h (graphD d) (movesD h d) 1 d.past = if gNx (graphD d) d.now = [] then (0, d.past) else (0 + 1, comeM d.past (chooseM h (movesD h d) (gNx (graphD d) d.now))) := rfl
  rw [here_s, hp] at e
  unfold stepOne
  rw [er, ran]
  by_cases c : gNx (graphD d) d.now = []
  · rw [if_pos c] at e ⊢
    rw [if_pos rfl]
    exact ⟨r, _, O, e, rfl⟩
  · rw [if_neg c] at e ⊢
    rw [if_neg (by decide : ¬ ((0 : Nat) + 1 = 0))]
    have hc : chooseM h (movesD h d) (gNx (graphD d) d.now) < d.N := by
      have h1 := chooseM_mem (h := h) (ms := movesD h d) c
      have := (graph_ok O.ok.dims).into d.now _ h1
      rw [graph_len] at this
      exact this
    have e : Km538.step (some (toD d r)) _ = (some (Km538.come (toD d r) (chooseM h (movesD h d) (gNx (graphD d) d.now))), Km538.say ((chooseM h (movesD h d) (gNx (graphD d) d.now) : Nat) : Int)) := e
    rw [come_s O] at e
    refine ⟨r, _, come_ok O hc, e, ?_⟩
    show [((chooseM h (movesD h d) (gNx (graphD d) d.now) : Nat) : Int)] = [(((comeM d.past (chooseM h (movesD h d) (gNx (graphD d) d.now))).getLastD 0 : Nat) : Int)]
    have : (comeM d.past (chooseM h (movesD h d) (gNx (graphD d) d.now))).getLastD 0 = chooseM h (movesD h d) (gNx (graphD d) d.now) := by
      rw [← last_head, come_past _ _ O.ok.p60]
      rfl
    rw [this]
theorem against_c (O : SOk d r) : Ag d r .against (stepAgainst d []) := one_c O false rfl
theorem help_c (O : SOk d r) : Ag d r .help (stepHelped d []) := one_c O true rfl
theorem rest_s (O : SOk d r) : restsD d = Km538.atRest (toD d r) (Km538.here (toD d r)) := by
  obtain ⟨l, h1, h2, h3, h4⟩ := now_at_s O
  unfold restsD
  rw [aheadD_s O, here_s, h2]
  show (togetherM (iN l) && (Km538.nexts (toD d r) d.now).isEmpty) = Km536.done (dkS d.n d.e d.k (Km538.ringOf (toD d r) d.now) r d.m) (Km538.ringOf (toD d r) d.now)
  rw [h4]
  show (togetherM (iN l) && (nxS (nsS d.n d.k) (dkS d.n d.e d.k (Km538.ringOf (toD d r) d.now) r d.m) d.m (Km538.ringOf (toD d r) d.now)).isEmpty) = (Km535.gathered l && Km535.eager (dkS d.n d.e d.k l r d.m) l == [])
  rw [h4, (name_s O.ok.dims h3).tog]
  congr 1
  have g1 := eager_next O.ok.dims h3 (tell_desk O.ok.dims O.v l d.m h3) O.ok.m2
  have g2 := nx_nil (ns := nsS d.n d.k) (d := dkS d.n d.e d.k l r d.m) (a := d.m) (l := l)
  rw [Bool.eq_iff_iff, List.isEmpty_iff, beq_iff_eq, g1, g2]
theorem many_c (O : SOk d r) (h : Bool) (t : Nat) {c : Km538.Call} (e : Km538.step (some (toD d r)) c = if 60 < t then (some (toD d r), Km538.say (-22)) else
        (some (Km538.runUp (toD d r) (pickD h) t).1, ⟨((Km538.runUp (toD d r) (pickD h) t).2 : Int), [(Km538.here (Km538.runUp (toD d r) (pickD h) t).1 : Int), (if Km538.atRest (Km538.runUp (toD d r) (pickD h) t).1 (Km538.here (Km538.runUp (toD d r) (pickD h) t).1) then 1 else 0)]⟩)) : Ag d r c (stepMany h t d) := by
  unfold stepMany
  by_cases q : 60 < t
  · rw [if_pos q] at e ⊢
    exact ⟨r, _, O, e, rfl⟩
  · rw [if_neg q] at e ⊢
    obtain ⟨h1, h2⟩ := ran_s O h t
    rw [h1] at e
    refine ⟨r, _, h2, e, ?_⟩
    rw [rest_s h2]
    show ((ranD h t d).1 : Int) :: [(Km538.here (toD (ranD h t d).2 r) : Int), (if Km538.atRest (toD (ranD h t d).2 r) (Km538.here (toD (ranD h t d).2 r)) = true then 1 else 0)] = _
    rw [here_s]
theorem run_c (O : SOk d r) (t : Nat) : Ag d r (.run t) (stepRun d [t]) := many_c O false t rfl
theorem runh_c (O : SOk d r) (t : Nat) : Ag d r (.runHelped t) (stepRunHelped d [t]) := many_c O true t rfl
theorem back_c (O : SOk d r) : Ag d r .back (stepBack d []) := by
  have e : Km538.step (some (toD d r)) .back = if d.past.reverse.length ≤ 1 then (some (toD d r), Km538.say (-6)) else (some { toD d r with past := d.past.reverse.drop 1 }, Km538.say ((d.past.reverse.drop 1).headD 0 : Nat)) := rfl
  have hl : 0 < d.past.length := List.length_pos_iff.mpr O.ok.ne
  have ed : d.past.reverse.drop 1 = d.past.dropLast.reverse := by
    rw [List.drop_one, List.tail_reverse]
  rw [List.length_reverse, ed, last_head] at e
  unfold stepBack
  by_cases c : d.past.length = 1
  · rw [if_pos c]
    rw [if_pos (by omega)] at e
    exact ⟨r, _, O, e, rfl⟩
  · rw [if_neg c]
    rw [if_neg (by omega)] at e
    refine ⟨r, _, ⟨O.ok.with ⟨fun z => ?_, ?_, fun i hi => O.ok.plt i (List.dropLast_subset _ hi)⟩, O.R, O.v⟩, e, rfl⟩
    · have : d.past.dropLast.length = 0 := by rw [z]; rfl
      rw [List.length_dropLast] at this
      omega
    · have := O.ok.p60
      rw [List.length_dropLast]
      omega
theorem past_c (O : SOk d r) : Ag d r .past (stepPast d []) := by
  refine ag_same O rfl ?_
  show ((d.past.reverse.reverse.length : Nat) : Int) :: iN d.past.reverse.reverse = cntI d.past
  rw [List.reverse_reverse]
  rfl
theorem rest_c (O : SOk d r) : Ag d r .rest (stepRest d []) := by
  refine ag_same O rfl ?_
  show [(if Km538.atRest (toD d r) (Km538.here (toD d r)) = true then 1 else 0 : Int)] = [if restsD d = true then 1 else 0]
  rw [rest_s O]
theorem sure_c (O : SOk d r) : Ag d r .sure (stepSure d []) := by
  refine ag_same O rfl ?_
  show [(if (Km538.longest (toD d r) (Km538.here (toD d r))).isSome = true then 1 else 0 : Int)] = [if (moveD false d).isNone = true then 0 else 1]
  rw [moveD_s O false, here_s]
  show _ = [if (Km538.longest (toD d r) d.now).isNone = true then 0 else 1]
  cases Km538.longest (toD d r) d.now <;> rfl
theorem longest_cc (O : SOk d r) : Ag d r .longest (stepLongest d []) := by
  refine ag_same O rfl ?_
  show (Km538.sayO (Km538.longest (toD d r) (Km538.here (toD d r)))).num :: (Km538.sayO (Km538.longest (toD d r) (Km538.here (toD d r)))).nums = toldI (moveD false d)
  rw [moveD_s O false, here_s]
  show _ = toldI (Km538.longest (toD d r) d.now)
  cases Km538.longest (toD d r) d.now <;> rfl
theorem soonest_cc (O : SOk d r) : Ag d r .soonest (stepSoonest d []) := by
  refine ag_same O rfl ?_
  show (Km538.sayO (Km538.soonest (toD d r) (Km538.here (toD d r)))).num :: (Km538.sayO (Km538.soonest (toD d r) (Km538.here (toD d r)))).nums = toldI (moveD true d)
  rw [moveD_s O true, here_s]
  show _ = toldI (Km538.soonest (toD d r) d.now)
  cases Km538.soonest (toD d r) d.now <;> rfl
/-! marks -/
theorem insM_mem (x y : Nat) : ∀ l : List Nat, y ∈ Km537.insertN x l ↔ y = x ∨ y ∈ l
  | [] => by show y ∈ [x] ↔ _; simp
  | z :: r => by
    show y ∈ (if x < z then x :: z :: r else z :: Km537.insertN x r) ↔ _
    split
    · rw [List.mem_cons]
    · rw [List.mem_cons, insM_mem x y r, List.mem_cons]
      constructor
      · rintro (h | h | h)
        · exact .inr (.inl h)
        · exact .inl h
        · exact .inr (.inr h)
      · rintro (h | h | h)
        · exact .inr (.inl h)
        · exact .inl h
        · exact .inr (.inr h)
theorem insM_strict (x : Nat) : ∀ {l : List Nat}, x ∉ l → l.Pairwise (· < ·) → (Km537.insertN x l).Pairwise (· < ·)
  | [], _, _ => List.pairwise_cons.mpr ⟨(fun _ z => nomatch z), .nil⟩
  | z :: r, n, h => by
    obtain ⟨h1, h2⟩ := List.pairwise_cons.mp h
    show (if x < z then x :: z :: r else z :: Km537.insertN x r).Pairwise (· < ·)
    split
    · refine List.pairwise_cons.mpr ⟨fun y hy => ?_, h⟩
      rcases List.mem_cons.mp hy with e | hy
      · omega
      · have := h1 y hy; omega
    · refine List.pairwise_cons.mpr ⟨fun y hy => ?_, insM_strict x (fun q => n (List.mem_cons_of_mem _ q)) h2⟩
      rcases (insM_mem x y r).mp hy with e | hy
      · have : x ≠ z := fun q => n (by rw [q]; exact List.mem_cons_self)
        omega
      · exact h1 y hy
theorem nodup_strict {l : List Nat} (h : l.Pairwise (· < ·)) : l.Nodup := h.imp fun {a b} h => by
  show a ≠ b
  omega
theorem sort_ins {l : List Nat} {x : Nat} (h : l.Pairwise (· < ·)) (n : x ∉ l) : sortN (l ++ [x]) = Km537.insertN x l := by
  have p := sortN_perm (l ++ [x])
  refine strict_ext (strict_of (sortN_sorted _) (p.nodup_iff.mpr ?_)) (insM_strict x n h) fun y => ?_
  · rw [List.nodup_append]
    refine ⟨nodup_strict h, List.nodup_cons.mpr ⟨(fun z => nomatch z), List.nodup_nil⟩, fun a ha b hb z => ?_⟩
    rw [List.mem_singleton.mp hb] at z
    rw [z] at ha
    exact n ha
  · rw [p.mem_iff, insM_mem, List.mem_append, List.mem_singleton]
    exact Or.comm
theorem with_marks (O : SOk d r) {ms : List Nat} (h1 : ms.Pairwise (· < ·)) (h2 : ∀ i ∈ ms, i < d.N) : SOk { d with ms := ms } r :=
  ⟨⟨O.ok.dims, O.ok.m2, O.ok.rl, O.ok.ne, O.ok.p60, O.ok.plt, h1, h2⟩, O.R, O.v⟩
theorem mark_c (O : SOk d r) (i : Nat) : Ag d r (.mark i) (stepMark d [i]) := by
  unfold stepMark
  show Ag d r (.mark i) (if i < d.N then (if i ∈ d.ms then (d, [-17]) else ({ d with ms := sortN (d.ms ++ [i]) }, [((sortN (d.ms ++ [i])).length : Int)])) else (d, [-2]))
  have e : Km538.step (some (toD d r)) (.mark i) = Km538.onBook (toD d r) (.mark i) := rfl
  have e2 : Km537.step (some (toD d r).book) (.mark i) = if (nsS d.n d.k).length ≤ i then (some (toD d r).book, Km537.say (-2)) else if d.ms.contains i then (some (toD d r).book, Km537.say (-17)) else (some { (toD d r).book with marks := Km537.insertN i d.ms }, Km537.say (d.ms.length + 1 : Nat)) := rfl
  unfold Km538.onBook at e
  rw [e2, ← N_s O] at e
  by_cases c : i < d.N
  · rw [if_pos c]
    rw [if_neg (by omega)] at e
    by_cases c2 : i ∈ d.ms
    · rw [if_pos c2]
      rw [if_pos (List.contains_iff_mem.mpr c2)] at e
      exact ⟨r, _, O, e, rfl⟩
    · rw [if_neg c2]
      rw [if_neg (fun z => c2 (List.contains_iff_mem.mp z))] at e
      rw [sort_ins O.ok.rise c2]
      refine ⟨r, _, with_marks O (insM_strict i c2 O.ok.rise) (fun j hj => ?_), e, ?_⟩
      · rcases (insM_mem i j d.ms).mp hj with q | q
        · rw [q]; exact c
        · exact O.ok.mlt j q
      · show [((d.ms.length + 1 : Nat) : Int)] = [((Km537.insertN i d.ms).length : Int)]
        rw [← sort_ins O.ok.rise c2, (sortN_perm _).length_eq, List.length_append]
        rfl
  · rw [if_neg c]
    rw [if_pos (by omega)] at e
    exact ⟨r, _, O, e, rfl⟩
theorem unmark_c (O : SOk d r) (i : Nat) : Ag d r (.unmark i) (stepUnmark d [i]) := by
  unfold stepUnmark
  show Ag d r (.unmark i) (if i < d.N then (if i ∈ d.ms then ({ d with ms := without d.ms i }, [((without d.ms i).length : Int)]) else (d, [-6])) else (d, [-2]))
  have e : Km538.step (some (toD d r)) (.unmark i) = Km538.onBook (toD d r) (.unmark i) := rfl
  have e2 : Km537.step (some (toD d r).book) (.unmark i) = if (nsS d.n d.k).length ≤ i then (some (toD d r).book, Km537.say (-2)) else if d.ms.contains i = false then (some (toD d r).book, Km537.say (-6)) else (some { (toD d r).book with marks := d.ms.erase i }, Km537.say (d.ms.length - 1 : Nat)) := rfl
  unfold Km538.onBook at e
  rw [e2, ← N_s O] at e
  by_cases c : i < d.N
  · rw [if_pos c]
    rw [if_neg (by omega)] at e
    by_cases c2 : i ∈ d.ms
    · rw [if_pos c2]
      rw [if_neg (by rw [List.contains_iff_mem.mpr c2]; decide)] at e
      have ew : d.ms.erase i = without d.ms i := by
        rw [(nodup_strict O.ok.rise).erase_eq_filter]
        unfold without
        refine List.filter_congr fun y _ => ?_
        by_cases q : y = i
        · rw [q]; simp
        · simp [q]
      have el : (d.ms.length - 1 : Nat) = (without d.ms i).length := by
        rw [← ew, List.length_erase_of_mem c2]
      rw [ew, el] at e
      exact ⟨r, _, with_marks O (O.ok.rise.sublist List.filter_sublist) (fun j hj => O.ok.mlt j (List.mem_filter.mp hj).1), e, rfl⟩
    · rw [if_neg c2]
      rw [if_pos (by rw [← Bool.not_eq_true, List.contains_iff_mem]; exact c2)] at e
      exact ⟨r, _, O, e, rfl⟩
  · rw [if_neg c]
    rw [if_pos (by omega)] at e
    exact ⟨r, _, O, e, rfl⟩
theorem apart_s (O : SOk d r) : apartIx d = (List.range (nsS d.n d.k).length).filter fun i => Km537.apart ((nsS d.n d.k).getD i []) := by
  unfold apartIx
  rw [N_s O]
  refine List.filter_congr fun i hi => ?_
  obtain ⟨l, h1, h2, h3, _⟩ := name_at_s O (i := i) (by rw [N_s O]; exact List.mem_range.mp hi)
  rw [h2, (name_s O.ok.dims h3).ap, List.getD_eq_getElem?_getD, h1]
  rfl
theorem markApart_c (O : SOk d r) : Ag d r .markApart (stepMarkApart d []) := by
  unfold stepMarkApart
  have e : Km538.step (some (toD d r)) .markApart = (some { toD d r with book := { (toD d r).book with marks := (List.range (nsS d.n d.k).length).filter fun i => Km537.apart ((nsS d.n d.k).getD i []) } }, ⟨(((List.range (nsS d.n d.k).length).filter fun i => Km537.apart ((nsS d.n d.k).getD i [])).length : Nat), []⟩) := rfl
  rw [← apart_s O] at e
  exact ⟨r, _, with_marks O (List.pairwise_lt_range.sublist List.filter_sublist) (fun j hj => List.mem_range.mp (List.mem_filter.mp hj).1), e, rfl⟩
theorem marks_c (O : SOk d r) : Ag d r .marks (stepMarks d []) := ag_same O rfl rfl
theorem told_c (O : SOk d r) : Ag d r .told (stepTold d []) := by
  refine ag_same O rfl ?_
  show (d.n : Int) :: [(d.e : Int), (d.k : Int), (d.m : Int), (d.ms.length : Int), (d.past.reverse.length : Int)] = [(d.n : Int), (d.e : Int), (d.k : Int), (d.m : Int), (d.ms.length : Int), (d.past.length : Int)]
  rw [List.length_reverse]
/-! how many gather -/
theorem gat_s (O : SOk d r) {q : List Nat} (hq : Valid d.n d.e d.k q) : gatD d (iN q) = (d.ms.filter fun i => (Km537.suresBy (Km537.table (bkS d.n d.e d.k) d.m) q).contains i).length := by
  unfold gatD gatN
  rw [sures_s O.ok.dims hq O.ok.m2]
  refine congrArg List.length (List.filter_congr fun i _ => ?_)
  rw [Bool.eq_iff_iff, List.contains_iff_mem, decide_eq_true_iff]
theorem good_c (O : SOk d r) : Ag d r .good (stepGood d []) := by
  refine ag_same O rfl ?_
  show (((d.ms.filter fun i => (Km537.suresBy (Km537.table (bkS d.n d.e d.k) d.m) r).contains i).length : Nat) : Int) :: [(d.ms.length : Int)] = [(gatD d d.R : Int), (d.ms.length : Int)]
  rw [O.R, gat_s O O.v]
theorem ifset_c (O : SOk d r) (v m : Nat) : Ag d r (.ifSet v m) (stepIfset d [v, m]) := by
  unfold stepIfset
  show Ag d r (.ifSet v m) (match refM d v m with | some y => (d, [y]) | none => (d, [(gatD d (d.R.set v (m : Int)) : Int), (gatD d d.R : Int)]))
  rw [ref_s O]
  have e : Km538.step (some (toD d r)) (.ifSet v m) = (some (toD d r), match (vsS d.n d.e d.k)[v]? with
        | none => Km538.say (-2)
        | some l => if Km537.choices l ≤ m then Km538.say (-22) else ⟨(Km538.goodCount { (toD d r).book with rule := r.set v m } : Int), [(Km538.goodCount (toD d r).book : Int)]⟩) := rfl
  cases h : (vsS d.n d.e d.k)[v]? with
  | none =>
    rw [h] at e
    exact ag_same O e rfl
  | some l =>
    rw [h] at e
    show Ag d r (.ifSet v m) (match (if Km537.choices l ≤ m then some (-22) else none : Option Int) with | some y => (d, [y]) | none => (d, [(gatD d (d.R.set v (m : Int)) : Int), (gatD d d.R : Int)]))
    have e : Km538.step (some (toD d r)) (.ifSet v m) = (some (toD d r), if Km537.choices l ≤ m then Km538.say (-22) else ⟨(Km538.goodCount { (toD d r).book with rule := r.set v m } : Int), [(Km538.goodCount (toD d r).book : Int)]⟩) := e
    by_cases c : Km537.choices l ≤ m
    · rw [if_pos c] at e ⊢
      exact ag_same O e rfl
    · rw [if_neg c] at e ⊢
      refine ag_same O e ?_
      show (((d.ms.filter fun i => (Km537.suresBy (Km537.table (bkS d.n d.e d.k) d.m) (r.set v m)).contains i).length : Nat) : Int) :: [(((d.ms.filter fun i => (Km537.suresBy (Km537.table (bkS d.n d.e d.k) d.m) r).contains i).length : Nat) : Int)] = [(gatD d (d.R.set v (m : Int)) : Int), (gatD d d.R : Int)]
      rw [O.R, ← iN_set, gat_s O O.v, gat_s O (allRules_set O.v h (by omega))]
/-! all rules -/
theorem many_s (O : SOk d r) : (6000 < Km537.rulesThereAre (bkS d.n d.e d.k)) ↔ manyD d = true := by
  unfold manyD
  rw [prod_s O.ok.dims, decide_eq_true_iff]
abbrev fgS (n e k a : Nat) (ms : List Nat) : Option (List Nat) := ((allS' n e k a).find? fun p => Km537.goodFor ms p.2).map fun p => p.1
theorem fg_valid {n e k a : Nat} {ms q : List Nat} (h : fgS n e k a ms = some q) : Valid n e k q := by
  obtain ⟨x, hx, rfl⟩ := Option.map_eq_some_iff.mp h
  have hm := List.mem_of_find?_eq_some hx
  have hm : x ∈ (Km537.allRules (vsS n e k)).map fun r => (r, Km537.suresBy (Km537.table (bkS n e k) a) r) := hm
  obtain ⟨r, hr, rfl⟩ := List.mem_map.mp hm
  exact hr
theorem found_c (O : SOk d r) : Ag d r .found (stepFound d []) := by
  have e : Km538.step (some (toD d r)) .found = (some (toD d r), ⟨(if 6000 < Km537.rulesThereAre (bkS d.n d.e d.k) then Km537.say (-28) else match fgS d.n d.e d.k d.m d.ms with | none => Km537.say (-33) | some r => Km537.tellAll r).num, (if 6000 < Km537.rulesThereAre (bkS d.n d.e d.k) then Km537.say (-28) else match fgS d.n d.e d.k d.m d.ms with | none => Km537.say (-33) | some r => Km537.tellAll r).nums⟩) := rfl
  unfold stepFound trialsD
  by_cases c : manyD d = true
  · rw [if_pos c]
    rw [if_pos ((many_s O).mpr c)] at e
    exact ag_same O e rfl
  · rw [if_neg c]
    rw [if_neg (fun z => c ((many_s O).mp z))] at e
    rw [firstGood_s O.ok.dims O.ok.m2]
    cases h : fgS d.n d.e d.k d.m d.ms with
    | none =>
      rw [h] at e
      rw [show (((allS' d.n d.e d.k d.m).find? fun x => Km537.goodFor d.ms x.2).map fun x => x.1) = none from h]
      exact ag_same O e rfl
    | some q =>
      rw [h] at e
      rw [show (((allS' d.n d.e d.k d.m).find? fun x => Km537.goodFor d.ms x.2).map fun x => x.1) = some q from h]
      refine ag_same O e ?_
      show ((q.length : Nat) : Int) :: iN q = ((iN q).length : Int) :: iN q
      rw [List.length_map]
theorem take_c (O : SOk d r) : Ag d r .take (stepTake d []) := by
  have e : Km538.step (some (toD d r)) .take = Km538.onBook (toD d r) .take := rfl
  have e2 : Km537.step (some (toD d r).book) .take = if 6000 < Km537.rulesThereAre (bkS d.n d.e d.k) then (some (toD d r).book, Km537.say (-28)) else match fgS d.n d.e d.k d.m d.ms with
        | none => (some (toD d r).book, Km537.say (-33))
        | some q => (some { (toD d r).book with rule := q }, Km537.say 0) := rfl
  unfold Km538.onBook at e
  rw [e2] at e
  unfold stepTake trialsD
  by_cases c : manyD d = true
  · rw [if_pos c]
    rw [if_pos ((many_s O).mpr c)] at e
    exact ⟨r, _, O, e, rfl⟩
  · rw [if_neg c]
    rw [if_neg (fun z => c ((many_s O).mp z))] at e
    rw [firstGood_s O.ok.dims O.ok.m2]
    cases h : fgS d.n d.e d.k d.m d.ms with
    | none =>
      rw [h] at e
      rw [show (((allS' d.n d.e d.k d.m).find? fun x => Km537.goodFor d.ms x.2).map fun x => x.1) = none from h]
      exact ⟨r, _, O, e, rfl⟩
    | some q =>
      rw [h] at e
      rw [show (((allS' d.n d.e d.k d.m).find? fun x => Km537.goodFor d.ms x.2).map fun x => x.1) = some q from h]
      have hv := fg_valid h
      have hl := allRules_len hv
      refine ⟨q, _, ⟨⟨O.ok.dims, O.ok.m2, ?_, O.ok.ne, O.ok.p60, O.ok.plt, O.ok.rise, O.ok.mlt⟩, rfl, hv⟩, e, rfl⟩
      show (iN q).length = (viewsM d.n d.e d.k).length
      rw [List.length_map, hl, (views_s O.ok.dims).views, List.length_map]
theorem best_c (O : SOk d r) : Ag d r .best (stepBest d []) := by
  obtain ⟨q, hq, h1, h2⟩ := best_s (a := d.m) O.ok.dims O.ok.m2 d.ms
  have e : Km538.step (some (toD d r)) .best = (some (toD d r), ⟨(if 6000 < Km537.rulesThereAre (bkS d.n d.e d.k) then Km537.say (-28) else (⟨(((allS' d.n d.e d.k d.m).foldl (fun (o : List Nat × Nat) (p : List Nat × List Nat) =>
            let c := (d.ms.filter fun i => p.2.contains i).length
            if o.1 = [] ∨ o.2 < c then (p.1, c) else o) ([], 0)).2 : Int), Km537.n2i ((allS' d.n d.e d.k d.m).foldl (fun (o : List Nat × Nat) (p : List Nat × List Nat) =>
            let c := (d.ms.filter fun i => p.2.contains i).length
            if o.1 = [] ∨ o.2 < c then (p.1, c) else o) ([], 0)).1⟩ : Km537.Ans)).num, (if 6000 < Km537.rulesThereAre (bkS d.n d.e d.k) then Km537.say (-28) else (⟨(((allS' d.n d.e d.k d.m).foldl (fun (o : List Nat × Nat) (p : List Nat × List Nat) =>
            let c := (d.ms.filter fun i => p.2.contains i).length
            if o.1 = [] ∨ o.2 < c then (p.1, c) else o) ([], 0)).2 : Int), Km537.n2i ((allS' d.n d.e d.k d.m).foldl (fun (o : List Nat × Nat) (p : List Nat × List Nat) =>
            let c := (d.ms.filter fun i => p.2.contains i).length
            if o.1 = [] ∨ o.2 < c then (p.1, c) else o) ([], 0)).1⟩ : Km537.Ans)).nums⟩) := rfl
  rw [h1] at e
  unfold stepBest trialsD
  by_cases c : manyD d = true
  · rw [if_pos c]
    rw [if_pos ((many_s O).mpr c)] at e
    exact ag_same O e rfl
  · rw [if_neg c]
    rw [if_neg (fun z => c ((many_s O).mp z))] at e
    rw [h2]
    exact ag_same O e rfl
theorem why_c (O : SOk d r) : Ag d r .why (stepWhy d []) := by
  have e : Km538.step (some (toD d r)) .why = (some (toD d r), ⟨(if 6000 < Km537.rulesThereAre (bkS d.n d.e d.k) then Km537.say (-28) else match Km537.core (allS' d.n d.e d.k d.m) d.ms with | none => Km537.say (-6) | some s => Km537.tellAll s).num, (if 6000 < Km537.rulesThereAre (bkS d.n d.e d.k) then Km537.say (-28) else match Km537.core (allS' d.n d.e d.k d.m) d.ms with | none => Km537.say (-6) | some s => Km537.tellAll s).nums⟩) := rfl
  unfold stepWhy trialsD
  by_cases c : manyD d = true
  · rw [if_pos c]
    rw [if_pos ((many_s O).mpr c)] at e
    exact ag_same O e rfl
  · rw [if_neg c]
    rw [if_neg (fun z => c ((many_s O).mp z))] at e
    rw [hopeless_s O.ok.dims O.ok.m2 O.ok.rise]
    cases h : Km537.core (allS' d.n d.e d.k d.m) d.ms with
    | none =>
      rw [h] at e
      exact ag_same O e rfl
    | some q =>
      rw [h] at e
      exact ag_same O e rfl
theorem dims_e (O : SOk d r) {e : Nat} (h : e ≤ 2) : Dims d.n e d.k := ⟨O.ok.dims.n3, O.ok.dims.n7, O.ok.dims.k1, O.ok.dims.k3, h⟩
theorem eyes_c (O : SOk d r) : Ag d r .eyesEnough (stepEyes d []) := by
  have e : Km538.step (some (toD d r)) .eyesEnough = (some (toD d r), if ([0, 1, 2].any fun e => decide (6000 < Km537.rulesThereAre (bkS d.n e d.k))) = true then Km538.say (-28) else Km538.sayO ([2, 1, 0].find? fun e => (fgS d.n e d.k d.m d.ms).isSome)) := rfl
  have m1 : ((List.range 3).map (manyE d)).any id = ([0, 1, 2].any fun e => decide (6000 < Km537.rulesThereAre (bkS d.n e d.k))) := by
    rw [List.any_map]
    show [0, 1, 2].any (manyE d) = _
    have : ∀ e ≤ 2, manyE d e = decide (6000 < Km537.rulesThereAre (bkS d.n e d.k)) := fun e he => by
      unfold manyE
      rw [prod_s (dims_e O he)]
    simp only [List.any_cons, List.any_nil, this 0 (by omega), this 1 (by omega), this 2 (by omega)]
  have m2 : [2, 1, 0].find? (goodE d) = [2, 1, 0].find? fun e => (fgS d.n e d.k d.m d.ms).isSome := by
    have : ∀ e ≤ 2, goodE d e = (fgS d.n e d.k d.m d.ms).isSome := fun e he => by
      unfold goodE
      rw [firstGood_s (dims_e O he) O.ok.m2]
      exact Option.isSome_map
    simp only [List.find?_cons, List.find?_nil, this 0 (by omega), this 1 (by omega), this 2 (by omega)]
  unfold stepEyes
  rw [m1, m2]
  by_cases c : ([0, 1, 2].any fun e => decide (6000 < Km537.rulesThereAre (bkS d.n e d.k))) = true
  · rw [if_pos c] at e ⊢
    exact ag_same O e rfl
  · rw [if_neg c] at e ⊢
    cases h : [2, 1, 0].find? fun e => (fgS d.n e d.k d.m d.ms).isSome with
    | none =>
      rw [h] at e
      exact ag_same O e rfl
    | some q =>
      rw [h] at e
      exact ag_same O e rfl
theorem allat_c (O : SOk d r) : Ag d r .allAt (stepAllat d []) := by
  have e : Km538.step (some (toD d r)) .allAt = (some (toD d r), ⟨(if 6000 < Km537.rulesThereAre (bkS d.n d.e d.k) then Km537.say (-28) else (⟨(((allS' d.n d.e d.k 0).filter fun p => Km537.goodFor d.ms p.2).length : Int), [(((allS' d.n d.e d.k 1).filter fun p => Km537.goodFor d.ms p.2).length : Int), (((allS' d.n d.e d.k 2).filter fun p => Km537.goodFor d.ms p.2).length : Int)]⟩ : Km537.Ans)).num, (if 6000 < Km537.rulesThereAre (bkS d.n d.e d.k) then Km537.say (-28) else (⟨(((allS' d.n d.e d.k 0).filter fun p => Km537.goodFor d.ms p.2).length : Int), [(((allS' d.n d.e d.k 1).filter fun p => Km537.goodFor d.ms p.2).length : Int), (((allS' d.n d.e d.k 2).filter fun p => Km537.goodFor d.ms p.2).length : Int)]⟩ : Km537.Ans)).nums⟩) := rfl
  unfold stepAllat howE
  by_cases c : manyD d = true
  · rw [if_pos c]
    rw [if_pos ((many_s O).mpr c)] at e
    exact ag_same O e rfl
  · rw [if_neg c]
    rw [if_neg (fun z => c ((many_s O).mp z))] at e
    rw [howGood_s O.ok.dims (by omega), howGood_s O.ok.dims (by omega), howGood_s O.ok.dims (by omega)]
    exact ag_same O e rfl
end
end RG
namespace RG
/-! ### a machine's call -/
def RelM : Option StD → Km538.State → Prop
  | none, none => True
  | some d, some D => ∃ r, SOk d r ∧ D = toD d r
  | _, _ => False
theorem len0 {α : Type} {xs : List α} (h : some 0 = some xs.length) : xs = [] := List.length_eq_zero_iff.mp (Option.some.inj h).symm
theorem len1 {α : Type} {xs : List α} (h : some 1 = some xs.length) : ∃ a, xs = [a] := by
  match xs, Option.some.inj h with
  | [a], _ => exact ⟨a, rfl⟩
theorem len2 {α : Type} {xs : List α} (h : some 2 = some xs.length) : ∃ a b, xs = [a, b] := by
  match xs, Option.some.inj h with
  | [a, b], _ => exact ⟨a, b, rfl⟩
theorem len4 {α : Type} {xs : List α} (h : some 4 = some xs.length) : ∃ a b c d, xs = [a, b, c, d] := by
  match xs, Option.some.inj h with
  | [a, b, c, d], _ => exact ⟨a, b, c, d, rfl⟩
def StepOk (M : Option StD) (S : Km538.State) (c : Nat) (ns : List Nat) : Prop := ∃ S', Km538Neutral.step S [(c : Int) :: iN ns] = (S', (stepAll M c ns).2) ∧ RelM (stepAll M c ns).1 S'
theorem begin_ok {n e k m : Nat} (h : 3 ≤ n ∧ n ≤ 7 ∧ e ≤ 2 ∧ 1 ≤ k ∧ k ≤ 3 ∧ m ≤ 2) : SOk (beginD n e k m) (List.replicate (vsS n e k).length 0) := by
  have D : Dims n e k := ⟨h.1, h.2.1, h.2.2.2.1, h.2.2.2.2.1, h.2.2.1⟩
  have hv : (viewsM n e k).length = (vsS n e k).length := by rw [(views_s D).views, List.length_map]
  have hN : 0 < (namesM n k).length := by
    have h := ne_ok n D.n3 D.n7 k D.k1 D.k3 e D.e2
    unfold neOk at h
    rw [Bool.and_eq_true] at h
    cases q : namesM n k with
    | nil => rw [q] at h; cases h.2
    | cons _ _ => exact Nat.zero_lt_succ _
  refine ⟨⟨D, h.2.2.2.2.2, List.length_replicate, (fun z => by cases z), by show 1 ≤ 60; decide, fun i hi => ?_, .nil, fun i hi => by cases hi⟩, ?_, ?_⟩
  · rw [List.mem_singleton.mp hi]
    exact hN
  · show List.replicate (viewsM n e k).length (0 : Int) = iN (List.replicate (vsS n e k).length 0)
    unfold iN
    rw [List.map_replicate, hv]
    rfl
  · have := allRules_of (vs := vsS n e k) (f := fun _ => 0) fun v _ => by
      unfold Km537.choices
      split <;> decide
    rw [List.map_const'] at this
    exact this
theorem step_begin {M : Option StD} {S : Km538.State} (R : RelM M S) (n e k m : Nat) : StepOk M S 0 [n, e, k, m] := by
  have e1 : Km538Neutral.step S [((0 : Nat) : Int) :: iN [n, e, k, m]] = ((Km538.step S (.begin_ n e k m)).1, (Km538.step S (.begin_ n e k m)).2.num :: (Km538.step S (.begin_ n e k m)).2.nums) := rfl
  have e2 : Km538.step S (.begin_ n e k m) = match (if n < 3 ∨ 7 < n ∨ 2 < e ∨ k = 0 ∨ 3 < k ∨ 2 < m then (none, Km537.say (-22)) else (some ⟨n, e, k, m, [], List.replicate (vsS n e k).length 0⟩, Km537.say ((vsS n e k).length : Nat)) : Km537.State × Km537.Ans) with
    | (some b, r) => (some ⟨b, [0]⟩, ⟨r.num, r.nums⟩)
    | (none, r) => (S, ⟨r.num, r.nums⟩) := rfl
  have e3 : stepAll M 0 [n, e, k, m] = if 3 ≤ n ∧ n ≤ 7 ∧ e ≤ 2 ∧ 1 ≤ k ∧ k ≤ 3 ∧ m ≤ 2 then (some (beginD n e k m), [((viewsM n e k).length : Int)]) else (M, [-22]) := rfl
  unfold StepOk
  rw [e1, e3]
  by_cases c : 3 ≤ n ∧ n ≤ 7 ∧ e ≤ 2 ∧ 1 ≤ k ∧ k ≤ 3 ∧ m ≤ 2
  · rw [if_pos c]
    rw [if_neg (by omega)] at e2
    rw [e2]
    have hv : (viewsM n e k).length = (vsS n e k).length := by rw [(views_s ⟨c.1, c.2.1, c.2.2.2.1, c.2.2.2.2.1, c.2.2.1⟩).views, List.length_map]
    rw [hv]
    exact ⟨_, rfl, _, begin_ok c, rfl⟩
  · rw [if_neg c]
    rw [if_pos (by omega)] at e2
    rw [e2]
    exact ⟨_, rfl, R⟩
theorem step_of {d : StD} {r : List Nat} {c : Nat} {ns : List Nat} {k : Km538.Call} {s : StD × List Int} (h1 : Km538Neutral.step (some (toD d r)) [((c + 1 : Nat) : Int) :: iN ns] = ((Km538.step (some (toD d r)) k).1, (Km538.step (some (toD d r)) k).2.num :: (Km538.step (some (toD d r)) k).2.nums)) (h2 : stepAll (some d) (c + 1) ns = (some s.1, s.2)) (A : Ag d r k s) : StepOk (some d) (some (toD d r)) (c + 1) ns := by
  obtain ⟨r', a, O, e, f⟩ := A
  unfold StepOk
  rw [h1, h2, e]
  exact ⟨some (toD s.1 r'), by rw [← f], r', O, rfl⟩
theorem step_ok {M : Option StD} {S : Km538.State} (R : RelM M S) {c : Nat} {ns : List Nat} (h : arityM[c]? = some ns.length) : StepOk M S c ns := by
  match c, h with
  | 0, h =>
    obtain ⟨a, b, c, d, rfl⟩ := len4 h
    exact step_begin R a b c d
  | 1, h =>
    obtain ⟨a, rfl⟩ := len1 h
    match M, S, R with
    | none, none, _ => exact ⟨none, rfl, trivial⟩
    | some q, some _, ⟨r, O, rfl⟩ => exact step_of rfl rfl (at_s O a)
  | 2, h =>
    obtain rfl := len0 h
    match M, S, R with
    | none, none, _ => exact ⟨none, rfl, trivial⟩
    | some q, some _, ⟨r, O, rfl⟩ => exact step_of rfl rfl (names_c O)
  | 3, h =>
    obtain ⟨a, rfl⟩ := len1 h
    match M, S, R with
    | none, none, _ => exact ⟨none, rfl, trivial⟩
    | some q, some _, ⟨r, O, rfl⟩ => exact step_of rfl rfl (name_c O a)
  | 4, h =>
    obtain ⟨a, rfl⟩ := len1 h
    match M, S, R with
    | none, none, _ => exact ⟨none, rfl, trivial⟩
    | some q, some _, ⟨r, O, rfl⟩ => exact step_of rfl rfl (place_c O a)
  | 5, h =>
    obtain rfl := len0 h
    match M, S, R with
    | none, none, _ => exact ⟨none, rfl, trivial⟩
    | some q, some _, ⟨r, O, rfl⟩ => exact step_of rfl rfl (ring_c O)
  | 6, h =>
    obtain rfl := len0 h
    match M, S, R with
    | none, none, _ => exact ⟨none, rfl, trivial⟩
    | some q, some _, ⟨r, O, rfl⟩ => exact step_of rfl rfl (sees_c O)
  | 7, h =>
    obtain ⟨a, rfl⟩ := len1 h
    match M, S, R with
    | none, none, _ => exact ⟨none, rfl, trivial⟩
    | some q, some _, ⟨r, O, rfl⟩ => exact step_of rfl rfl (view_c O a)
  | 8, h =>
    obtain ⟨a, b, rfl⟩ := len2 h
    match M, S, R with
    | none, none, _ => exact ⟨none, rfl, trivial⟩
    | some q, some _, ⟨r, O, rfl⟩ => exact step_of rfl rfl (set_c O a b)
  | 9, h =>
    obtain rfl := len0 h
    match M, S, R with
    | none, none, _ => exact ⟨none, rfl, trivial⟩
    | some q, some _, ⟨r, O, rfl⟩ => exact step_of rfl rfl (rule_c O)
  | 10, h =>
    obtain rfl := len0 h
    match M, S, R with
    | none, none, _ => exact ⟨none, rfl, trivial⟩
    | some q, some _, ⟨r, O, rfl⟩ => exact step_of rfl rfl (next_c O)
  | 11, h =>
    obtain ⟨a, rfl⟩ := len1 h
    match M, S, R with
    | none, none, _ => exact ⟨none, rfl, trivial⟩
    | some q, some _, ⟨r, O, rfl⟩ => exact step_of rfl rfl (go_c O a)
  | 12, h =>
    obtain rfl := len0 h
    match M, S, R with
    | none, none, _ => exact ⟨none, rfl, trivial⟩
    | some q, some _, ⟨r, O, rfl⟩ => exact step_of rfl rfl (against_c O)
  | 13, h =>
    obtain rfl := len0 h
    match M, S, R with
    | none, none, _ => exact ⟨none, rfl, trivial⟩
    | some q, some _, ⟨r, O, rfl⟩ => exact step_of rfl rfl (help_c O)
  | 14, h =>
    obtain ⟨a, rfl⟩ := len1 h
    match M, S, R with
    | none, none, _ => exact ⟨none, rfl, trivial⟩
    | some q, some _, ⟨r, O, rfl⟩ => exact step_of rfl rfl (run_c O a)
  | 15, h =>
    obtain ⟨a, rfl⟩ := len1 h
    match M, S, R with
    | none, none, _ => exact ⟨none, rfl, trivial⟩
    | some q, some _, ⟨r, O, rfl⟩ => exact step_of rfl rfl (runh_c O a)
  | 16, h =>
    obtain rfl := len0 h
    match M, S, R with
    | none, none, _ => exact ⟨none, rfl, trivial⟩
    | some q, some _, ⟨r, O, rfl⟩ => exact step_of rfl rfl (back_c O)
  | 17, h =>
    obtain rfl := len0 h
    match M, S, R with
    | none, none, _ => exact ⟨none, rfl, trivial⟩
    | some q, some _, ⟨r, O, rfl⟩ => exact step_of rfl rfl (past_c O)
  | 18, h =>
    obtain rfl := len0 h
    match M, S, R with
    | none, none, _ => exact ⟨none, rfl, trivial⟩
    | some q, some _, ⟨r, O, rfl⟩ => exact step_of rfl rfl (rest_c O)
  | 19, h =>
    obtain rfl := len0 h
    match M, S, R with
    | none, none, _ => exact ⟨none, rfl, trivial⟩
    | some q, some _, ⟨r, O, rfl⟩ => exact step_of rfl rfl (sure_c O)
  | 20, h =>
    obtain rfl := len0 h
    match M, S, R with
    | none, none, _ => exact ⟨none, rfl, trivial⟩
    | some q, some _, ⟨r, O, rfl⟩ => exact step_of rfl rfl (longest_cc O)
  | 21, h =>
    obtain rfl := len0 h
    match M, S, R with
    | none, none, _ => exact ⟨none, rfl, trivial⟩
    | some q, some _, ⟨r, O, rfl⟩ => exact step_of rfl rfl (soonest_cc O)
  | 22, h =>
    obtain ⟨a, rfl⟩ := len1 h
    match M, S, R with
    | none, none, _ => exact ⟨none, rfl, trivial⟩
    | some q, some _, ⟨r, O, rfl⟩ => exact step_of rfl rfl (mark_c O a)
  | 23, h =>
    obtain ⟨a, rfl⟩ := len1 h
    match M, S, R with
    | none, none, _ => exact ⟨none, rfl, trivial⟩
    | some q, some _, ⟨r, O, rfl⟩ => exact step_of rfl rfl (unmark_c O a)
  | 24, h =>
    obtain rfl := len0 h
    match M, S, R with
    | none, none, _ => exact ⟨none, rfl, trivial⟩
    | some q, some _, ⟨r, O, rfl⟩ => exact step_of rfl rfl (markApart_c O)
  | 25, h =>
    obtain rfl := len0 h
    match M, S, R with
    | none, none, _ => exact ⟨none, rfl, trivial⟩
    | some q, some _, ⟨r, O, rfl⟩ => exact step_of rfl rfl (marks_c O)
  | 26, h =>
    obtain rfl := len0 h
    match M, S, R with
    | none, none, _ => exact ⟨none, rfl, trivial⟩
    | some q, some _, ⟨r, O, rfl⟩ => exact step_of rfl rfl (good_c O)
  | 27, h =>
    obtain ⟨a, b, rfl⟩ := len2 h
    match M, S, R with
    | none, none, _ => exact ⟨none, rfl, trivial⟩
    | some q, some _, ⟨r, O, rfl⟩ => exact step_of rfl rfl (ifset_c O a b)
  | 28, h =>
    obtain rfl := len0 h
    match M, S, R with
    | none, none, _ => exact ⟨none, rfl, trivial⟩
    | some q, some _, ⟨r, O, rfl⟩ => exact step_of rfl rfl (found_c O)
  | 29, h =>
    obtain rfl := len0 h
    match M, S, R with
    | none, none, _ => exact ⟨none, rfl, trivial⟩
    | some q, some _, ⟨r, O, rfl⟩ => exact step_of rfl rfl (take_c O)
  | 30, h =>
    obtain rfl := len0 h
    match M, S, R with
    | none, none, _ => exact ⟨none, rfl, trivial⟩
    | some q, some _, ⟨r, O, rfl⟩ => exact step_of rfl rfl (best_c O)
  | 31, h =>
    obtain rfl := len0 h
    match M, S, R with
    | none, none, _ => exact ⟨none, rfl, trivial⟩
    | some q, some _, ⟨r, O, rfl⟩ => exact step_of rfl rfl (why_c O)
  | 32, h =>
    obtain rfl := len0 h
    match M, S, R with
    | none, none, _ => exact ⟨none, rfl, trivial⟩
    | some q, some _, ⟨r, O, rfl⟩ => exact step_of rfl rfl (eyes_c O)
  | 33, h =>
    obtain rfl := len0 h
    match M, S, R with
    | none, none, _ => exact ⟨none, rfl, trivial⟩
    | some q, some _, ⟨r, O, rfl⟩ => exact step_of rfl rfl (allat_c O)
  | 34, h =>
    obtain rfl := len0 h
    match M, S, R with
    | none, none, _ => exact ⟨none, rfl, trivial⟩
    | some q, some _, ⟨r, O, rfl⟩ => exact step_of rfl rfl (told_c O)
  | n + 35, h => exact absurd (show (none : Option Nat) = some ns.length from h) (by simp)
theorem asked_one {c : Nat} {xs : List Int} (h : arityM[c]? = some xs.length) : Km538Neutral.asked1 [(c : Int) :: xs] = Km538Neutral.naturals xs := by
  match c, h with
  | 0, h =>
    obtain ⟨a, b, c, d, rfl⟩ := len4 h
    rfl
  | 1, h =>
    obtain ⟨a, rfl⟩ := len1 h
    rfl
  | 2, h =>
    obtain rfl := len0 h
    rfl
  | 3, h =>
    obtain ⟨a, rfl⟩ := len1 h
    rfl
  | 4, h =>
    obtain ⟨a, rfl⟩ := len1 h
    rfl
  | 5, h =>
    obtain rfl := len0 h
    rfl
  | 6, h =>
    obtain rfl := len0 h
    rfl
  | 7, h =>
    obtain ⟨a, rfl⟩ := len1 h
    rfl
  | 8, h =>
    obtain ⟨a, b, rfl⟩ := len2 h
    rfl
  | 9, h =>
    obtain rfl := len0 h
    rfl
  | 10, h =>
    obtain rfl := len0 h
    rfl
  | 11, h =>
    obtain ⟨a, rfl⟩ := len1 h
    rfl
  | 12, h =>
    obtain rfl := len0 h
    rfl
  | 13, h =>
    obtain rfl := len0 h
    rfl
  | 14, h =>
    obtain ⟨a, rfl⟩ := len1 h
    rfl
  | 15, h =>
    obtain ⟨a, rfl⟩ := len1 h
    rfl
  | 16, h =>
    obtain rfl := len0 h
    rfl
  | 17, h =>
    obtain rfl := len0 h
    rfl
  | 18, h =>
    obtain rfl := len0 h
    rfl
  | 19, h =>
    obtain rfl := len0 h
    rfl
  | 20, h =>
    obtain rfl := len0 h
    rfl
  | 21, h =>
    obtain rfl := len0 h
    rfl
  | 22, h =>
    obtain ⟨a, rfl⟩ := len1 h
    rfl
  | 23, h =>
    obtain ⟨a, rfl⟩ := len1 h
    rfl
  | 24, h =>
    obtain rfl := len0 h
    rfl
  | 25, h =>
    obtain rfl := len0 h
    rfl
  | 26, h =>
    obtain rfl := len0 h
    rfl
  | 27, h =>
    obtain ⟨a, b, rfl⟩ := len2 h
    rfl
  | 28, h =>
    obtain rfl := len0 h
    rfl
  | 29, h =>
    obtain rfl := len0 h
    rfl
  | 30, h =>
    obtain rfl := len0 h
    rfl
  | 31, h =>
    obtain rfl := len0 h
    rfl
  | 32, h =>
    obtain rfl := len0 h
    rfl
  | 33, h =>
    obtain rfl := len0 h
    rfl
  | 34, h =>
    obtain rfl := len0 h
    rfl
  | n + 35, h => exact absurd (show (none : Option Nat) = some xs.length from h) (by simp)
theorem shape_s {p : Int} {n k : Nat} (h : PyKm538.shape p = some (n, k)) : ∃ c : Nat, p = (c : Int) ∧ arityM[c]? = some n ∧ k = 0 := by
  unfold PyKm538.shape at h
  by_cases c0 : p = 0
  · rw [if_pos c0] at h
    cases h
    exact ⟨0, c0, rfl, rfl⟩
  rw [if_neg c0] at h
  by_cases c1 : p = 1
  · rw [if_pos c1] at h
    cases h
    exact ⟨1, c1, rfl, rfl⟩
  rw [if_neg c1] at h
  by_cases c2 : p = 2
  · rw [if_pos c2] at h
    cases h
    exact ⟨2, c2, rfl, rfl⟩
  rw [if_neg c2] at h
  by_cases c3 : p = 3
  · rw [if_pos c3] at h
    cases h
    exact ⟨3, c3, rfl, rfl⟩
  rw [if_neg c3] at h
  by_cases c4 : p = 4
  · rw [if_pos c4] at h
    cases h
    exact ⟨4, c4, rfl, rfl⟩
  rw [if_neg c4] at h
  by_cases c5 : p = 5
  · rw [if_pos c5] at h
    cases h
    exact ⟨5, c5, rfl, rfl⟩
  rw [if_neg c5] at h
  by_cases c6 : p = 6
  · rw [if_pos c6] at h
    cases h
    exact ⟨6, c6, rfl, rfl⟩
  rw [if_neg c6] at h
  by_cases c7 : p = 7
  · rw [if_pos c7] at h
    cases h
    exact ⟨7, c7, rfl, rfl⟩
  rw [if_neg c7] at h
  by_cases c8 : p = 8
  · rw [if_pos c8] at h
    cases h
    exact ⟨8, c8, rfl, rfl⟩
  rw [if_neg c8] at h
  by_cases c9 : p = 9
  · rw [if_pos c9] at h
    cases h
    exact ⟨9, c9, rfl, rfl⟩
  rw [if_neg c9] at h
  by_cases c10 : p = 10
  · rw [if_pos c10] at h
    cases h
    exact ⟨10, c10, rfl, rfl⟩
  rw [if_neg c10] at h
  by_cases c11 : p = 11
  · rw [if_pos c11] at h
    cases h
    exact ⟨11, c11, rfl, rfl⟩
  rw [if_neg c11] at h
  by_cases c12 : p = 12
  · rw [if_pos c12] at h
    cases h
    exact ⟨12, c12, rfl, rfl⟩
  rw [if_neg c12] at h
  by_cases c13 : p = 13
  · rw [if_pos c13] at h
    cases h
    exact ⟨13, c13, rfl, rfl⟩
  rw [if_neg c13] at h
  by_cases c14 : p = 14
  · rw [if_pos c14] at h
    cases h
    exact ⟨14, c14, rfl, rfl⟩
  rw [if_neg c14] at h
  by_cases c15 : p = 15
  · rw [if_pos c15] at h
    cases h
    exact ⟨15, c15, rfl, rfl⟩
  rw [if_neg c15] at h
  by_cases c16 : p = 16
  · rw [if_pos c16] at h
    cases h
    exact ⟨16, c16, rfl, rfl⟩
  rw [if_neg c16] at h
  by_cases c17 : p = 17
  · rw [if_pos c17] at h
    cases h
    exact ⟨17, c17, rfl, rfl⟩
  rw [if_neg c17] at h
  by_cases c18 : p = 18
  · rw [if_pos c18] at h
    cases h
    exact ⟨18, c18, rfl, rfl⟩
  rw [if_neg c18] at h
  by_cases c19 : p = 19
  · rw [if_pos c19] at h
    cases h
    exact ⟨19, c19, rfl, rfl⟩
  rw [if_neg c19] at h
  by_cases c20 : p = 20
  · rw [if_pos c20] at h
    cases h
    exact ⟨20, c20, rfl, rfl⟩
  rw [if_neg c20] at h
  by_cases c21 : p = 21
  · rw [if_pos c21] at h
    cases h
    exact ⟨21, c21, rfl, rfl⟩
  rw [if_neg c21] at h
  by_cases c22 : p = 22
  · rw [if_pos c22] at h
    cases h
    exact ⟨22, c22, rfl, rfl⟩
  rw [if_neg c22] at h
  by_cases c23 : p = 23
  · rw [if_pos c23] at h
    cases h
    exact ⟨23, c23, rfl, rfl⟩
  rw [if_neg c23] at h
  by_cases c24 : p = 24
  · rw [if_pos c24] at h
    cases h
    exact ⟨24, c24, rfl, rfl⟩
  rw [if_neg c24] at h
  by_cases c25 : p = 25
  · rw [if_pos c25] at h
    cases h
    exact ⟨25, c25, rfl, rfl⟩
  rw [if_neg c25] at h
  by_cases c26 : p = 26
  · rw [if_pos c26] at h
    cases h
    exact ⟨26, c26, rfl, rfl⟩
  rw [if_neg c26] at h
  by_cases c27 : p = 27
  · rw [if_pos c27] at h
    cases h
    exact ⟨27, c27, rfl, rfl⟩
  rw [if_neg c27] at h
  by_cases c28 : p = 28
  · rw [if_pos c28] at h
    cases h
    exact ⟨28, c28, rfl, rfl⟩
  rw [if_neg c28] at h
  by_cases c29 : p = 29
  · rw [if_pos c29] at h
    cases h
    exact ⟨29, c29, rfl, rfl⟩
  rw [if_neg c29] at h
  by_cases c30 : p = 30
  · rw [if_pos c30] at h
    cases h
    exact ⟨30, c30, rfl, rfl⟩
  rw [if_neg c30] at h
  by_cases c31 : p = 31
  · rw [if_pos c31] at h
    cases h
    exact ⟨31, c31, rfl, rfl⟩
  rw [if_neg c31] at h
  by_cases c32 : p = 32
  · rw [if_pos c32] at h
    cases h
    exact ⟨32, c32, rfl, rfl⟩
  rw [if_neg c32] at h
  by_cases c33 : p = 33
  · rw [if_pos c33] at h
    cases h
    exact ⟨33, c33, rfl, rfl⟩
  rw [if_neg c33] at h
  by_cases c34 : p = 34
  · rw [if_pos c34] at h
    cases h
    exact ⟨34, c34, rfl, rfl⟩
  rw [if_neg c34] at h
  cases h
theorem whole_one {c : Nat} {xs : List Int} (h : arityM[c]? = some xs.length) : PyKm538.whole [(c : Int) :: xs] = [(c : Int) :: xs] := by
  match c, h with
  | 0, h =>
    obtain ⟨a, b, c, d, rfl⟩ := len4 h
    rfl
  | 1, h =>
    obtain ⟨a, rfl⟩ := len1 h
    rfl
  | 2, h =>
    obtain rfl := len0 h
    rfl
  | 3, h =>
    obtain ⟨a, rfl⟩ := len1 h
    rfl
  | 4, h =>
    obtain ⟨a, rfl⟩ := len1 h
    rfl
  | 5, h =>
    obtain rfl := len0 h
    rfl
  | 6, h =>
    obtain rfl := len0 h
    rfl
  | 7, h =>
    obtain ⟨a, rfl⟩ := len1 h
    rfl
  | 8, h =>
    obtain ⟨a, b, rfl⟩ := len2 h
    rfl
  | 9, h =>
    obtain rfl := len0 h
    rfl
  | 10, h =>
    obtain rfl := len0 h
    rfl
  | 11, h =>
    obtain ⟨a, rfl⟩ := len1 h
    rfl
  | 12, h =>
    obtain rfl := len0 h
    rfl
  | 13, h =>
    obtain rfl := len0 h
    rfl
  | 14, h =>
    obtain ⟨a, rfl⟩ := len1 h
    rfl
  | 15, h =>
    obtain ⟨a, rfl⟩ := len1 h
    rfl
  | 16, h =>
    obtain rfl := len0 h
    rfl
  | 17, h =>
    obtain rfl := len0 h
    rfl
  | 18, h =>
    obtain rfl := len0 h
    rfl
  | 19, h =>
    obtain rfl := len0 h
    rfl
  | 20, h =>
    obtain rfl := len0 h
    rfl
  | 21, h =>
    obtain rfl := len0 h
    rfl
  | 22, h =>
    obtain ⟨a, rfl⟩ := len1 h
    rfl
  | 23, h =>
    obtain ⟨a, rfl⟩ := len1 h
    rfl
  | 24, h =>
    obtain rfl := len0 h
    rfl
  | 25, h =>
    obtain rfl := len0 h
    rfl
  | 26, h =>
    obtain rfl := len0 h
    rfl
  | 27, h =>
    obtain ⟨a, b, rfl⟩ := len2 h
    rfl
  | 28, h =>
    obtain rfl := len0 h
    rfl
  | 29, h =>
    obtain rfl := len0 h
    rfl
  | 30, h =>
    obtain rfl := len0 h
    rfl
  | 31, h =>
    obtain rfl := len0 h
    rfl
  | 32, h =>
    obtain rfl := len0 h
    rfl
  | 33, h =>
    obtain rfl := len0 h
    rfl
  | 34, h =>
    obtain rfl := len0 h
    rfl
  | n + 35, h => exact absurd (show (none : Option Nat) = some xs.length from h) (by simp)
/-! ### a line -/
def rawC (cs : List CallN) : List (List (List Int)) := cs.map fun c => [(c.1 : Int) :: iN c.2]
def natI (xs : List Int) : Prop := ∀ x ∈ xs, 0 ≤ x
theorem nat_iN {xs : List Int} (h : natI xs) : ∃ ns : List Nat, xs = iN ns := by
  refine ⟨xs.map Int.toNat, ?_⟩
  unfold iN
  rw [List.map_map]
  refine (List.map_congr_left fun x hx => ?_).symm.trans (List.map_id xs) |>.symm
  exact (Int.toNat_of_nonneg (h x hx)).symm
theorem parse : ∀ (f : Nat) (l : List Int) (raw : List (List (List Int))), PyFlat.calls PyKm538.shape f l = some raw → ∃ cs : List (Nat × List Int), (l = cs.flatMap fun c => (c.1 : Int) :: c.2) ∧ (raw = cs.map fun c => [(c.1 : Int) :: c.2]) ∧ ∀ c ∈ cs, arityM[c.1]? = some c.2.length
  | f, [], raw, h => by
    have h : some ([] : List (List (List Int))) = some raw := by cases f <;> exact h
    cases h
    exact ⟨[], rfl, rfl, fun c z => by cases z⟩
  | 0, _ :: _, raw, h => by cases h
  | f + 1, p :: r, raw, h => by
    have h : (match PyFlat.call PyKm538.shape (p :: r) with
      | none => none
      | some (c, t) => match PyFlat.calls PyKm538.shape f t with
        | none => none
        | some cs => some (c :: cs)) = some raw := h
    have hc : PyFlat.call PyKm538.shape (p :: r) = match PyKm538.shape p with
      | none => none
      | some (n, k) => if r.length < n then none else match PyFlat.rows k (r.drop n) with
        | none => none
        | some (xs, t) => some ((p :: r.take n) :: xs, t) := rfl
    cases hs : PyKm538.shape p with
    | none => rw [hc, hs] at h; cases h
    | some nk =>
      obtain ⟨n, k⟩ := nk
      obtain ⟨c, rfl, har, rfl⟩ := shape_s hs
      rw [hs] at hc
      have hc : PyFlat.call PyKm538.shape ((c : Int) :: r) = if r.length < n then none else some ([(c : Int) :: r.take n], r.drop n) := hc
      by_cases q : r.length < n
      · rw [if_pos q] at hc
        rw [hc] at h
        cases h
      · rw [if_neg q] at hc
        rw [hc] at h
        have h : (match PyFlat.calls PyKm538.shape f (r.drop n) with
          | none => none
          | some cs => some ([(c : Int) :: r.take n] :: cs)) = some raw := h
        cases hr : PyFlat.calls PyKm538.shape f (r.drop n) with
        | none => rw [hr] at h; cases h
        | some cs' =>
          rw [hr] at h
          cases h
          obtain ⟨cs, e1, e2, e3⟩ := parse f (r.drop n) cs' hr
          have hl : (r.take n).length = n := by rw [List.length_take]; omega
          refine ⟨(c, r.take n) :: cs, ?_, ?_, fun x hx => ?_⟩
          · rw [List.flatMap_cons, ← e1]
            show (c : Int) :: r = (c : Int) :: (r.take n ++ r.drop n)
            rw [List.take_append_drop]
          · rw [List.map_cons, ← e2]
          · rcases List.mem_cons.mp hx with e | hx
            · rw [e]
              show _ = some (r.take n).length
              rw [hl]
              exact har
            · exact e3 x hx
theorem nat_all : ∀ cs : List (Nat × List Int), (∀ c ∈ cs, natI c.2) → ∃ ds : List CallN, cs = ds.map fun c => (c.1, iN c.2)
  | [], _ => ⟨[], rfl⟩
  | c :: cs, h => by
    obtain ⟨ds, e⟩ := nat_all cs fun x hx => h x (List.mem_cons_of_mem _ hx)
    obtain ⟨ns, en⟩ := nat_iN (h c List.mem_cons_self)
    refine ⟨(c.1, ns) :: ds, ?_⟩
    rw [List.map_cons, ← e]
    show c :: cs = (c.1, iN ns) :: cs
    rw [← en]
theorem play : ∀ (cs : List CallN) (M : Option StD) (S : Km538.State), RelM M S → (∀ c ∈ cs, arityM[c.1]? = some c.2.length) → PyFlat.told (PyFlat.played Km538Neutral.step S (rawC cs)) = runC M cs ∧ OkC M cs
  | [], _, _, _, _ => ⟨rfl, trivial⟩
  | c :: cs, M, S, R, h => by
    have hc := h c List.mem_cons_self
    obtain ⟨S', e, R'⟩ := step_ok R hc
    obtain ⟨i1, i2⟩ := play cs _ S' R' fun x hx => h x (List.mem_cons_of_mem _ hx)
    refine ⟨?_, fun d hd => ?_, hc, i2⟩
    · show PyFlat.told ((Km538Neutral.step S [(c.1 : Int) :: iN c.2]).2 :: PyFlat.played Km538Neutral.step (Km538Neutral.step S [(c.1 : Int) :: iN c.2]).1 (rawC cs)) = _
      rw [e]
      show (((stepAll M c.1 c.2).2.length : Int) :: (stepAll M c.1 c.2).2) ++ PyFlat.told (PyFlat.played Km538Neutral.step S' (rawC cs)) = _
      rw [i1]
      rfl
    · subst hd
      match S, R with
      | some _, ⟨r, O, _⟩ => exact O.ok
/-- whatever may be asked -/
theorem asked_s {l : List Int} (h : PyKm538.answers_asked l = true) : ∃ cs : List CallN, l = flatC cs ∧ PyKm538.answers l = runC none cs ∧ OkC none cs ∧ (runC none cs).length ≤ 10000000 := by
  unfold PyKm538.answers_asked at h
  cases hr : PyFlat.calls PyKm538.shape l.length l with
  | none => rw [hr] at h; cases h
  | some raw =>
    rw [hr] at h
    have h : (!raw.isEmpty && PyFlat.atMost 30 raw && PyInside.calls PyKm538.bound raw && Km538Neutral.asked (raw.map PyKm538.whole) && PyFlat.short 10000000 (PyKm538.answers l)) = true := h
    obtain ⟨es, g1, g2, g3⟩ := parse _ _ _ hr
    have ew : raw.map PyKm538.whole = raw := by
      rw [g2, List.map_map]
      exact List.map_congr_left fun c hc => whole_one (g3 c hc)
    rw [Bool.and_eq_true, Bool.and_eq_true, ew] at h
    obtain ⟨⟨_, h2⟩, h3⟩ := h
    unfold Km538Neutral.asked at h2
    rw [Bool.and_eq_true, Bool.and_eq_true] at h2
    obtain ⟨cs, rfl⟩ := nat_all es fun c hc x hx => by
      have h4 := List.all_eq_true.mp h2.2.2 [(c.1 : Int) :: c.2] (by rw [g2]; exact List.mem_map.mpr ⟨c, hc, rfl⟩)
      rw [asked_one (g3 c hc)] at h4
      have := List.all_eq_true.mp h4 x hx
      unfold Km538Neutral.natural at this
      rw [Bool.and_eq_true] at this
      exact of_decide_eq_true this.1
    have e1 : l = flatC cs := by
      rw [g1, List.flatMap_map]
      rfl
    have e2 : raw = rawC cs := by
      rw [g2, List.map_map]
      rfl
    have e3 : ∀ c ∈ cs, arityM[c.1]? = some c.2.length := fun c hc => by
      have := g3 (c.1, iN c.2) (List.mem_map.mpr ⟨c, hc, rfl⟩)
      rw [this]
      show some (iN c.2).length = _
      rw [List.length_map]
    obtain ⟨p1, p2⟩ := play cs none none trivial e3
    have ea : PyKm538.answers l = runC none cs := by
      unfold PyKm538.answers PyKm538.calls
      rw [hr]
      show PyFlat.told (PyFlat.played Km538Neutral.step Km538Neutral.start (raw.map PyKm538.whole)) = _
      rw [ew, e2]
      exact p1
    refine ⟨cs, e1, ea, p2, ?_⟩
    rw [← ea]
    exact of_decide_eq_true h3
end RG
namespace RG
open PySem PySem.Spec PyProof.Rows L2
open LamX (Tabs ExtN TabB)
open PySem.W (WData Codec OpenSpec Well WellAll ReadsW ReadsAllW)
/-! ### the call of a def that has one list of whole numbers, while tables of code objects stand -/
/-- the heap that is told: the tables, and what was handed in -/
def tabH (ts : List Addr) (G : Hp) : Hp := fun b => if b ∈ ts then some (.tbl #[]) else G b
theorem tabH_in {ts : List Addr} {G : Hp} {b : Addr} (h : b ∈ ts) : tabH ts G b = some (.tbl #[]) := if_pos h
theorem tabH_out {ts : List Addr} {G : Hp} {b : Addr} (h : b ∉ ts) : tabH ts G b = G b := if_neg h
abbrev emptyT : Obj := { cls := .none, data := .fields #[] }
theorem call_tabs {P : Program} {w : World} {K : PySem.W.Frag} {mg mb : Str → Option Value} {k : Nat} {fa : Addr} {fd : FuncData} {x : Str} {sp : Sp} {s1 : Shared} {vals : List Value} {zs : List Int} {R : PySem.W.WRecords} {cl : Str → Option Addr} {d0 : WData} {cs : List (Addr × Addr)}
    (KX : K.In s1.heap) (hns : s1.heap.Ns mainGlobals mg) (hb : s1.heap.Ns builtinsNs mb) (hbb : ∀ x : Str, x ≠ "__name__" → mb x = bootBuiltins x) (hlim : s1.heap.NoLimit) (hg : s1.gens = #[])
    (hT : ∀ p ∈ cs, s1.heap.get? p.2 = some emptyT) (nT : ∀ p ∈ cs, K.lookup p.2 = none) (hcode : ∀ p ∈ cs, PySem.W.CodeHd s1.heap p.1 p.2)
    (hbm : ∃ (bm : Addr) (ob : Obj), mg "__builtins__" = some (.ref bm) ∧ bm ≠ builtinsNs ∧ s1.heap.get? bm = some ob ∧ ob.cls = .type "module" ∧ ob.dict = some builtinsNs ∧ ob.data = .plain)
    (hwl : WellAll w.params s1.heap vals [.list (zs.map WData.int)]) (hwt : ∀ d ∈ [WData.list (zs.map WData.int)], d.weight ≤ 1048576) (hr : Room k callerA)
    (F : ∀ base : Heap, K.In base → base.Ns mainGlobals mg → (∀ p ∈ cs, TabB base mg p.1 p.2) → FnOk P w K mg base CX0 k fa fd [x] sp)
    (hbind : ∀ (s : Shared) (us : List Value), us.length = ([x] : List Str).length → BindsTo s fd ⟨us, []⟩ (([x] : List Str).zip us))
    (hsp : ∀ (H : Hp) (a : Addr), Calm H → (∀ p ∈ cs, H p.2 = some (.tbl #[])) → SqL K H a (vI zs) → sp [.ref a] H (fun v H' => Dw K H' v d0) fun _ _ _ => False) :
    codeAny (model P w) callerA (.call (.ref fa) ⟨vals, []⟩) (fun r s2 => ∃ u as, r = .ok (.ret u) ∧ ReadsW R cl s2.heap u d0 as ∧ OldK s1.heap s2.heap ∧ s2.os = s1.os ∧ AllBare s2.gens) s1 := by
  have hpl : plWs [WData.list (zs.map WData.int)] = true := by
    show (plWs (zs.map WData.int) && true) = true
    rw [plWs_map (fun _ => rfl) zs]
    rfl
  obtain ⟨A, hA, ar⟩ := area_all _ vals hwl hpl hwt
  have hV := vals_toV hA
  have hS := dw_all KX ar _ vals hwl hpl hA
  have inTab : ∀ b, b ∈ cs.map (·.2) → s1.heap.get? b = some emptyT := by
    intro b hb
    obtain ⟨p, hp, rfl⟩ := List.mem_map.mp hb
    exact hT p hp
  have argOut : ∀ {b u}, argH K s1.heap A b = some u → b ∉ cs.map (·.2) := by
    intro b u q z
    have e0 := inTab b z
    rcases (argH_is ar q).2 with ⟨us, _, _, ⟨e, _⟩ | ⟨e, _⟩⟩ <;> (rw [e] at e0; injection e0 with e0; injection e0 with _ _ e0; cases e0)
  obtain ⟨v, rest, hv, x1, x2⟩ := well_cons hwl
  have hrest : rest = [] := by cases x2; rfl
  subst hrest
  subst hv
  obtain ⟨a, us, rfl, _, _⟩ := well_list x1
  have hS : DwAll K (argH K s1.heap A) [V.ref a] [WData.list (zs.map WData.int)] := hS
  have sq0 : SqL K (argH K s1.heap A) a (vI zs) := by
    cases hS with
    | cons y1 y2 =>
      cases y1 with
      | lst hq hall =>
        have e := ints_dw zs _ hall
        rw [e] at hq
        exact hq
  have hO := argH_only (K := K) ar
  have hok0 : ∀ (H3 : Hp) b u, argH K s1.heap A b = some u → ObjOk P w H3 s1.heap b u := by
    intro H3 b u q
    obtain ⟨_, vs, h1, h2, ⟨e, rfl⟩ | ⟨e, rfl⟩⟩ := argH_is ar q
    · refine ⟨e, ?_, vs, _, vals_toV h2, e⟩
      rw [List.length_map]
      exact h1
    · refine ⟨e, ?_, vs, vals_toV h2, _, e, rfl, _, rfl⟩
      rw [List.length_map]
      exact h1
  have hK0 : ∀ b u, argH K s1.heap A b = some u → K.lookup b = none := by
    intro b u q
    exact (argH_is ar q).1
  have kind0 : ∀ b u, argH K s1.heap A b = some u → ∃ o vs, s1.heap.get? b = some o ∧ o.data = .seq vs 0 := by
    intro b u q
    rcases (argH_is ar q).2 with ⟨us, _, _, ⟨e, _⟩ | ⟨e, _⟩⟩ <;> exact ⟨_, _, e, rfl⟩
  generalize argH K s1.heap A = G at argOut sq0 hO hok0 hK0 kind0
  clear hS
  -- what is told
  have sameG : Same G (tabH (cs.map (·.2)) G) := by
    intro b u e
    rw [tabH_out (argOut e)]
    exact e
  have tabsH : ∀ p ∈ cs, tabH (cs.map (·.2)) G p.2 = some (.tbl #[]) := fun p hp => tabH_in (List.mem_map.mpr ⟨p, hp, rfl⟩)
  have cases_ : ∀ b u, tabH (cs.map (·.2)) G b = some u → (b ∈ cs.map (·.2) ∧ u = .tbl #[]) ∨ (b ∉ cs.map (·.2) ∧ G b = some u) := by
    intro b u e
    by_cases hb2 : b ∈ cs.map (·.2)
    · rw [tabH_in hb2] at e
      cases e
      exact .inl ⟨hb2, rfl⟩
    · rw [tabH_out hb2] at e
      exact .inr ⟨hb2, e⟩
  have calm : Calm (tabH (cs.map (·.2)) G) := by
    intro b
    by_cases hb2 : b ∈ cs.map (·.2)
    · exact .inr (.inr ⟨_, tabH_in hb2⟩)
    · rw [tabH_out hb2]
      rcases hO b with e | e
      · exact .inl e
      · exact .inr (.inl e)
  have hok : HOk P w (tabH (cs.map (·.2)) G) s1.heap := by
    intro b u e
    rcases cases_ b u e with ⟨hb2, rfl⟩ | ⟨_, e2⟩
    · exact inTab b hb2
    · exact hok0 _ b u e2
  have sqH := SqL.same sq0 sameG
  have okSp := hsp _ a calm tabsH sqH
  have kindH : ∀ {b : Addr} {o : Obj}, s1.heap.get? b = some o → (∀ vs n, o.data ≠ .seq vs n) → o.data ≠ .fields #[] → tabH (cs.map (·.2)) G b = none := by
    intro b o e n1 n2
    cases q : tabH (cs.map (·.2)) G b with
    | none => rfl
    | some u =>
      exfalso
      rcases cases_ b u q with ⟨hb2, _⟩ | ⟨_, e2⟩
      · have e3 := inTab b hb2
        rw [e] at e3
        injection e3 with e3
        subst e3
        exact n2 rfl
      · obtain ⟨o2, vs, e3, d3⟩ := kind0 b u e2
        rw [e] at e3
        injection e3 with e3
        subst e3
        exact n1 _ _ d3
  have hKn : ∀ b o, K.lookup b = some o → tabH (cs.map (·.2)) G b = none := by
    intro b o e
    cases q : tabH (cs.map (·.2)) G b with
    | none => rfl
    | some u =>
      exfalso
      rcases cases_ b u q with ⟨hb2, _⟩ | ⟨_, e2⟩
      · obtain ⟨p, hp, rfl⟩ := List.mem_map.mp hb2
        rw [nT p hp] at e
        cases e
      · rw [hK0 b u e2] at e
        cases e
  generalize hHdef : tabH (cs.map (·.2)) G = H at tabsH cases_ calm hok okSp kindH hKn
  have dictH : ∀ {b : Addr} {o : Obj} {es : Array DictEntry} {ep : Nat}, s1.heap.get? b = some o → o.data = .dict es ep → H b = none := by
    intro b o es ep e d
    refine kindH e (fun vs n z => ?_) fun z => ?_
    · rw [d] at z; cases z
    · rw [d] at z; cases z
  have nsB : ∀ {b : Addr} {m : Str → Option Value}, s1.heap.Ns b m → (hidT s1.heap H).Ns b m := by
    rintro b m ⟨o, es, ep, e, d, r⟩
    exact ⟨o, es, ep, hidT_get e (dictH e d), d, r⟩
  have KB0 : K.In (hidT s1.heap H) := by
    intro b o e
    exact hidT_get (KX b o e) (hKn b o e)
  have hMod : L2.Mod K mg (hidT s1.heap H) := by
    refine ⟨KB0, nsB hns, ⟨mb, nsB hb, hbb⟩, ?_⟩
    obtain ⟨mc, h1, h2⟩ := hlim
    exact ⟨mc, nsB h1, h2⟩
  have tabB : ∀ p ∈ cs, TabB (hidT s1.heap H) mg p.1 p.2 := by
    intro p hp
    have hTp := hT p hp
    refine ⟨?_, ?_, fun z => ?_⟩
    · obtain ⟨o, us, file, tf, flags, tg, inF, text, tt, e1, r1, r2, r3, rr⟩ := hcode p hp
      refine ⟨o, us, file, tf, flags, tg, inF, text, tt, hidT_get e1 (kindH e1 (fun vs n z => ?_) fun z => ?_), r1, r2, r3, rr⟩
      · rw [r2] at z; cases z
      · rw [r2] at z; cases z; simp at r3
    · obtain ⟨bm, ob, b1, b2, b3, b4, b5, b6⟩ := hbm
      refine ⟨bm, ob, b1, b2, fun q => ?_, fun q => ?_, hidT_get b3 (kindH b3 (fun vs n z => ?_) fun z => ?_), b4, b5, b6⟩
      · obtain ⟨o, es, ep, e, hd, _⟩ := hns
        rw [q, e] at b3
        cases b3
        rw [hd] at b6
        cases b6
      · rw [q, hTp] at b3
        cases b3
        cases b6
      · rw [b6] at z; cases z
      · rw [b6] at z; cases z
    · obtain ⟨o, es, ep, e, hd, _⟩ := hns
      rw [z, hTp] at e
      cases e
      cases hd
  have env0 : Env0 P w K mg (hidT s1.heap H) callerA [] s1 H := ⟨rfl, hMod, fun b o e => of_hidT e, Nat.le_of_eq (hidT_size _ _), trivial, (fun b hb => absurd (show b ∈ ([] : List Addr) from hb) (by simp)), hok, .of_eq hg⟩
  refine codeAny_mono ((F _ KB0 (nsB hns) tabB).run callerA [] s1 H ⟨[.ref a], []⟩ [.ref a] [.ref a] _ _ hr env0 (hbind s1 [.ref a] rfl) (.cons rfl .nil) okSp) fun r s2 y => ?_
  cases r with
  | error e => exact False.elim y
  | ok fl =>
    cases fl with
    | next => exact False.elim y
    | brk => exact False.elim y
    | cont => exact False.elim y
    | ret u =>
      obtain ⟨v, H2, os, bare, un, hok2, rv, q⟩ := y
      have stays : ∀ b o, b ∉ cs.map (·.2) → s1.heap.get? b = some o → s2.heap.get? b = some o := by
        intro b o nb e
        cases qb : H b with
        | none => exact un.keep b o e qb (by intro z; exact absurd (show b ∈ ([] : List Addr) from z) (by simp)) (by simp)
        | some u2 =>
          rcases calm b with z | ⟨ob, u3, z⟩ | ⟨ps, z⟩
          · rw [qb] at z; cases z
          · have z2 := un.frzs b ob _ z
            obtain ⟨e1, _⟩ := hok b _ z
            obtain ⟨e2, _⟩ := hok2 b _ z2
            rw [e] at e1
            cases e1
            exact e2
          · rcases cases_ b _ z with ⟨hb2, _⟩ | ⟨_, e2⟩
            · exact absurd hb2 nb
            · rcases hO b with q1 | ⟨_, _, q1⟩ <;> (rw [q1] at e2; cases e2)
      have grown : ∀ p ∈ cs, ∃ more : Array Value, s2.heap.get? p.2 = some { cls := .none, data := .fields more } := by
        intro p hp
        obtain ⟨more, z⟩ := un.tbls p.2 #[] (tabsH p hp)
        exact ⟨_, hok2 p.2 _ z⟩
      have KX2 : K.In s2.heap := by
        intro b o e
        refine stays b o (fun z => ?_) (KX b o e)
        obtain ⟨p, hp, rfl⟩ := List.mem_map.mp z
        rw [nT p hp] at e
        cases e
      obtain ⟨as, hrd⟩ := Dw.reads (R := R) (cl := cl) hok2 KX2 d0 v u q rv
      refine ⟨u, as, rfl, hrd, ⟨fun b o e => ?_, fun b o e => ?_⟩, os, bare⟩
      · by_cases hb2 : b ∈ cs.map (·.2)
        · obtain ⟨p, hp, rfl⟩ := List.mem_map.mp hb2
          obtain ⟨more, hm⟩ := grown p hp
          rw [hT p hp] at e
          cases e
          exact .inr (.inl ⟨((hcode p hp).tab (hT p hp)).isCodeTable, rfl, #[], more, rfl, by rw [Array.empty_append]; exact hm⟩)
        · exact .inl (stays b o hb2 e)
      · by_cases hb2 : b ∈ cs.map (·.2)
        · obtain ⟨p, hp, rfl⟩ := List.mem_map.mp hb2
          obtain ⟨more, hm⟩ := grown p hp
          exact ⟨_, hm⟩
        · exact ⟨o, stays b o hb2 e⟩
end RG
namespace RG
open PySem PySem.Spec PyProof.Rows L2
open LamX (Tabs ExtN TabB)
open PySem.W (WData Codec OpenSpec Well WellAll ReadsW ReadsAllW)
theorem said : Rr.wellSaid = true := by decide +kernel
theorem theName : (HandSHeadRun.topDef Rr.prog 115).name = ("answers" : Str) := by kernel_rfl
theorem noDflt : (HandSHeadRun.topDef Rr.prog 115).params.defaults = [] := by kernel_rfl
def csT (K : PySem.W.Frag) : List (Addr × Addr) := tf.map (He.cT K)
theorem tabs_empty {K : PySem.W.Frag} {H : Hp} (h : ∀ p ∈ csT K, H p.2 = some (.tbl #[])) : Tabs (lamT K) H := by
  have h1 := h (He.cT K ("against_them", none)) (List.mem_map.mpr ⟨_, List.mem_cons_self, rfl⟩)
  have h2 := h (He.cT K ("helping_them", none)) (List.mem_map.mpr ⟨_, List.mem_cons_of_mem _ List.mem_cons_self, rfl⟩)
  intro q hq
  unfold lamT at hq
  rcases List.mem_cons.mp hq with e | hq
  · rw [e]
    exact LamX.TabS.nil h1
  · rw [List.mem_singleton.mp hq]
    exact LamX.TabS.nil h2
theorem walk : PySem.W.WalkOS qv names (PySem.W.XL qv []) hk2.says Rr (HandSHeadRun.topDef Rr.prog 115) [] (fun f vs => PySem.call f vs) := by
  intro w s0 s1 mg mb G Y fa o pm cd doc dV kV ho hd hcd hD hmg hg args vals as hpre hlay hrd hwl hlo
  obtain ⟨a, e1, e2⟩ := PySem.W.os_pre_some hpre
  obtain ⟨e3, hwi⟩ := Codec.encAll_of_decAll Rr.args args a e1
  subst e3
  obtain ⟨K, KX, c⟩ := Y
  obtain ⟨c1, cne⟩ := SaysM2.says c
  have T : Txt K mg := ⟨_, KX, G.T.g, c1⟩
  obtain ⟨f, fd, hF⟩ := F_answers T
  rw [theName, hF.1] at hmg
  injection hmg with hmg
  injection hmg with hmg
  subst hmg
  have tb : ∀ p ∈ csT K, PySem.W.codeHdIn K p.1 p.2 = true ∧ K.lookup p.2 = none ∧ s1.heap.get? p.2 = some emptyT := by
    intro p hp
    obtain ⟨q, hq, rfl⟩ := List.mem_map.mp hp
    exact c.tb q hq
  obtain ⟨zs, un⟩ := a
  refine PySem.W.enter_call (codeAny_mono (call_tabs (R := []) (cl := classAt s0.heap) (d0 := Rr.ret.enc (Codec.app Rr.args Rr.f (zs, un))) (zs := zs) (k := 13) (fa := f) (fd := fd) (x := "calls") (sp := spAll K) (cs := csT K) KX G.T.g G.T.b G.T.builtins G.T.nolimit hg
    (fun p hp => (tb p hp).2.2) (fun p hp => (tb p hp).2.1) (fun p hp => PySem.W.codeHd_of_K KX (tb p hp).1) G.T.bmain hwl (layable_weight hlay) ⟨rfl, by decide, by decide⟩ ?F ?B ?S) fun r' s2 hq => ?_)
  case F =>
    intro base hbase hns htab
    exact fn_answers T ⟨htab _ (List.mem_map.mpr ⟨_, List.mem_cons_self, rfl⟩), htab _ (List.mem_map.mpr ⟨_, List.mem_cons_of_mem _ List.mem_cons_self, rfl⟩), cne⟩ hF
  case B =>
    intro s us hu
    exact FunD.bindsA (ps := ["calls"]) hF.2 (fun _ _ _ _ _ _ us hl => match us, hl with | [_], _ => rfl) s us hu
  case S =>
    intro H b calm tabs sq
    obtain ⟨cs, ec, ea, ok, hl⟩ := asked_s (l := zs) e2
    refine ⟨b, cs, rfl, calm, by rw [← ec]; exact sq, tabs_empty tabs, ok, ?_, hl, fun H' q hq => ?_⟩
    · rw [← ec]
      have q : ((Codec.inLen 0 150 zs && zs.all (Codec.inInt 0 4294967295)) && true) = true := hwi
      rw [Bool.and_eq_true, Bool.and_eq_true] at q
      exact Nat.le_trans (Codec.inNat_iff.mp q.1.1).2 (by decide)
    · show Dw K H' (.ref q) (WData.list ((PyKm538.answers zs).map WData.int))
      rw [ea]
      exact .lst (SqL.of hq) (dw_ints _)
  obtain ⟨u, as', rfl, h1, h2, h3, h4⟩ := hq
  exact ⟨.inl ⟨u, _, as', rfl, (fun _ => rfl), h1, (OpenSpec.post_iff said hwi _ _).mpr rfl, (fun z => Bool.noConfusion (show false = true from z))⟩, h2, h3, h4⟩
end RG
open PySem PySem.W PySem.Calls PyProof.Rows
theorem PySem.Challenge.cw_ringgather_s01_answers_holds : PySem.Challenge.rw_ringgather_s01_answers.Holds := by
  w_on
  refine HandSHeadRun.head_spec (r := PySem.Challenge.rw_ringgather_s01_answers) (q := RG.qv) (H := RG.hk2) (ob := RG.ob2) (M := 40000) (loose := RG.names) (d := HandSHeadRun.topDef PySem.Challenge.rw_ringgather_s01_answers.prog 115) (kwd := []) RG.ob2_eq
    (by kernel_rfl) (fun s => by kernel_rfl) RG.run (by kernel_rfl) (by kernel_rfl) (by kernel_rfl) os_shapes RG.said (by decide +kernel) ⟨rfl, rfl, rfl, rfl, rfl, by decide +kernel⟩ ?hw RG.walk
  case hw => exact ⟨[.list [.int 2]], by decide +kernel, by decide +kernel⟩
#print axioms PySem.Challenge.cw_ringgather_s01_answers_holds
