import PyProof.Rows.All
import Wide.All
import OpenK.AllK
import Wide.FinOn
import KE.KStateDown
import KE.OsHead
import KE.OsGo
import HandS.ForMost
import HandS.ForSpec
import HandS.Evl
import HandS.More
import HandS.RaiseMore
import HandS.Flow
import HandS.Defaults
import HandS.ExcSuper
import HandS.ExcInit
import HandS.ExcField
import HandS.Head0
import HandS.Head1
import HandS.Head2
import HandS.Head3
import HandS.Head4
import HandS.HeadHook1
import HandS.HeadHook2
import PySem.Challenge.RW_seasonlake_s01_answers
import PyVbirak
import HandS.Spec
set_option Elab.async false
set_option linter.all false
set_option maxRecDepth 100000
set_option maxHeartbeats 4000000
namespace Sl
open PySem PySem.Spec PyProof.Rows L2
/-- the i-th statement of the program -/
def top (i : Nat) : Stmt := PySem.Challenge.pw_seasonlake_s01_answers.main.body.getD i (.Pass ⟨0, 0, 0, 0⟩)
abbrev s_Kind_init : Stmt := inClass (top 1) 0
abbrev s_Lake_init : Stmt := inClass (top 2) 0
abbrev s_greater_lake : Stmt := top 3
abbrev s_season_table : Stmt := top 4
abbrev s_most_letting : Stmt := top 5
abbrev s_level_behind : Stmt := top 6
abbrev s_can_come : Stmt := top 7
abbrev s_Rule_init : Stmt := inClass (top 9) 0
abbrev s_Strategy_init : Stmt := inClass (top 10) 0
abbrev s_condition_holds : Stmt := top 11
abbrev s_rule_holds : Stmt := top 12
abbrev s_wanted_letting : Stmt := top 13
abbrev s_strategy_letting : Stmt := top 14
abbrev s_sure_behind_kinds : Stmt := top 16
abbrev s_least_by_left : Stmt := top 17
abbrev s_worths : Stmt := top 18
abbrev s_best_by_level : Stmt := top 19
abbrev s_sure_by_level : Stmt := top 20
abbrev s_sure_at_end : Stmt := top 21
abbrev s_all_sure : Stmt := top 22
abbrev s_best_letting : Stmt := top 23
abbrev s_best_answer : Stmt := top 24
abbrev s_strategy_by_level : Stmt := top 25
abbrev s_strategy_sure : Stmt := top 26
abbrev s_best_if_known : Stmt := top 27
abbrev s_Keeper_init : Stmt := inClass (top 29) 0
abbrev s_Keeper_put_lake : Stmt := inClass (top 29) 1
abbrev s_Keeper_put_strategy : Stmt := inClass (top 29) 2
abbrev s_sure_of : Stmt := top 30
abbrev s_sure_by_strategy_of : Stmt := top 31
abbrev s_Course_init : Stmt := inClass (top 33) 0
abbrev s_Course_pass_season : Stmt := inClass (top 33) 1
abbrev s_Course_report : Stmt := inClass (top 33) 2
abbrev s_WrongText_init : Stmt := inClass (top 49) 0
abbrev s_Piece_init : Stmt := inClass (top 50) 0
abbrev s_run_end : Stmt := top 51
abbrev s_word_of : Stmt := top 52
abbrev s_number_of : Stmt := top 53
abbrev s_cut : Stmt := top 54
abbrev s_Reader_init : Stmt := inClass (top 55) 0
abbrev s_Reader_ahead : Stmt := inClass (top 55) 1
abbrev s_Reader_here : Stmt := inClass (top 55) 2
abbrev s_Reader_sees : Stmt := inClass (top 55) 3
abbrev s_Reader_take_word : Stmt := inClass (top 55) 4
abbrev s_Reader_take_name : Stmt := inClass (top 55) 5
abbrev s_Reader_take_number : Stmt := inClass (top 55) 6
abbrev s_Reader_take_end : Stmt := inClass (top 55) 7
abbrev s_shown_line : Stmt := top 57
abbrev s_byte_row : Stmt := top 58
abbrev s_number_behind : Stmt := top 68
abbrev s_read_kind_name : Stmt := top 69
abbrev s_read_follows : Stmt := top 70
abbrev s_kind_numbers : Stmt := top 71
abbrev s_read_kinds : Stmt := top 72
abbrev s_read_table : Stmt := top 73
abbrev s_read_tables : Stmt := top 74
abbrev s_read_lake : Stmt := top 75
abbrev s_show_lake : Stmt := top 76
abbrev s_is_season : Stmt := top 78
abbrev s_is_kind : Stmt := top 79
abbrev s_is_start : Stmt := top 80
abbrev s_is_weather : Stmt := top 81
abbrev s_weather_refusal : Stmt := top 82
abbrev s_look_at : Stmt := top 83
abbrev s_look_at_table : Stmt := top 84
abbrev s_pass_worst : Stmt := top 85
abbrev s_pass_by_best : Stmt := top 86
abbrev s_look_at_strategy : Stmt := top 87
abbrev s_pass_by_strategy : Stmt := top 88
abbrev s_look_back : Stmt := top 89
abbrev s_look_at_greater : Stmt := top 90
abbrev s_answer_reckoning : Stmt := top 91
abbrev s_read_level : Stmt := top 96
abbrev s_read_was : Stmt := top 97
abbrev s_read_season : Stmt := top 98
abbrev s_read_condition : Stmt := top 99
abbrev s_read_letting : Stmt := top 100
abbrev s_read_rule : Stmt := top 101
abbrev s_read_strategy : Stmt := top 102
abbrev s_condition_words : Stmt := top 103
abbrev s_rule_words : Stmt := top 104
abbrev s_show_strategy : Stmt := top 105
abbrev s_is_text : Stmt := top 109
abbrev s_take_lake : Stmt := top 110
abbrev s_find_wrong : Stmt := top 111
abbrev s_take_strategy : Stmt := top 112
abbrev s_list_weathers : Stmt := top 113
abbrev s_list_counts : Stmt := top 114
abbrev s_answer_telling : Stmt := top 115
abbrev s_answer_call : Stmt := top 121
abbrev s_answers : Stmt := top 122
def d_Kind_init : He.DefD := ⟨("Kind", some "__init__"), "__init__", "Kind.__init__", defArgs s_Kind_init, defBody s_Kind_init, defScope s_Kind_init, [], []⟩
def d_Lake_init : He.DefD := ⟨("Lake", some "__init__"), "__init__", "Lake.__init__", defArgs s_Lake_init, defBody s_Lake_init, defScope s_Lake_init, [], []⟩
def d_greater_lake : He.DefD := ⟨("greater_lake", none), "greater_lake", "greater_lake", defArgs s_greater_lake, defBody s_greater_lake, defScope s_greater_lake, [], []⟩
def d_season_table : He.DefD := ⟨("season_table", none), "season_table", "season_table", defArgs s_season_table, defBody s_season_table, defScope s_season_table, [], []⟩
def d_most_letting : He.DefD := ⟨("most_letting", none), "most_letting", "most_letting", defArgs s_most_letting, defBody s_most_letting, defScope s_most_letting, [], []⟩
def d_level_behind : He.DefD := ⟨("level_behind", none), "level_behind", "level_behind", defArgs s_level_behind, defBody s_level_behind, defScope s_level_behind, [], []⟩
def d_can_come : He.DefD := ⟨("can_come", none), "can_come", "can_come", defArgs s_can_come, defBody s_can_come, defScope s_can_come, [], []⟩
def d_Rule_init : He.DefD := ⟨("Rule", some "__init__"), "__init__", "Rule.__init__", defArgs s_Rule_init, defBody s_Rule_init, defScope s_Rule_init, [], []⟩
def d_Strategy_init : He.DefD := ⟨("Strategy", some "__init__"), "__init__", "Strategy.__init__", defArgs s_Strategy_init, defBody s_Strategy_init, defScope s_Strategy_init, [], []⟩
def d_condition_holds : He.DefD := ⟨("condition_holds", none), "condition_holds", "condition_holds", defArgs s_condition_holds, defBody s_condition_holds, defScope s_condition_holds, [], []⟩
def d_rule_holds : He.DefD := ⟨("rule_holds", none), "rule_holds", "rule_holds", defArgs s_rule_holds, defBody s_rule_holds, defScope s_rule_holds, [], []⟩
def d_wanted_letting : He.DefD := ⟨("wanted_letting", none), "wanted_letting", "wanted_letting", defArgs s_wanted_letting, defBody s_wanted_letting, defScope s_wanted_letting, [], []⟩
def d_strategy_letting : He.DefD := ⟨("strategy_letting", none), "strategy_letting", "strategy_letting", defArgs s_strategy_letting, defBody s_strategy_letting, defScope s_strategy_letting, [], []⟩
def d_sure_behind_kinds : He.DefD := ⟨("sure_behind_kinds", none), "sure_behind_kinds", "sure_behind_kinds", defArgs s_sure_behind_kinds, defBody s_sure_behind_kinds, defScope s_sure_behind_kinds, [], []⟩
def d_least_by_left : He.DefD := ⟨("least_by_left", none), "least_by_left", "least_by_left", defArgs s_least_by_left, defBody s_least_by_left, defScope s_least_by_left, [], []⟩
def d_worths : He.DefD := ⟨("worths", none), "worths", "worths", defArgs s_worths, defBody s_worths, defScope s_worths, [], []⟩
def d_best_by_level : He.DefD := ⟨("best_by_level", none), "best_by_level", "best_by_level", defArgs s_best_by_level, defBody s_best_by_level, defScope s_best_by_level, [], []⟩
def d_sure_by_level : He.DefD := ⟨("sure_by_level", none), "sure_by_level", "sure_by_level", defArgs s_sure_by_level, defBody s_sure_by_level, defScope s_sure_by_level, [], []⟩
def d_sure_at_end : He.DefD := ⟨("sure_at_end", none), "sure_at_end", "sure_at_end", defArgs s_sure_at_end, defBody s_sure_at_end, defScope s_sure_at_end, [], []⟩
def d_all_sure : He.DefD := ⟨("all_sure", none), "all_sure", "all_sure", defArgs s_all_sure, defBody s_all_sure, defScope s_all_sure, [], []⟩
def d_best_letting : He.DefD := ⟨("best_letting", none), "best_letting", "best_letting", defArgs s_best_letting, defBody s_best_letting, defScope s_best_letting, [], []⟩
def d_best_answer : He.DefD := ⟨("best_answer", none), "best_answer", "best_answer", defArgs s_best_answer, defBody s_best_answer, defScope s_best_answer, [], []⟩
def d_strategy_by_level : He.DefD := ⟨("strategy_by_level", none), "strategy_by_level", "strategy_by_level", defArgs s_strategy_by_level, defBody s_strategy_by_level, defScope s_strategy_by_level, [], []⟩
def d_strategy_sure : He.DefD := ⟨("strategy_sure", none), "strategy_sure", "strategy_sure", defArgs s_strategy_sure, defBody s_strategy_sure, defScope s_strategy_sure, [], []⟩
def d_best_if_known : He.DefD := ⟨("best_if_known", none), "best_if_known", "best_if_known", defArgs s_best_if_known, defBody s_best_if_known, defScope s_best_if_known, [], []⟩
def d_Keeper_init : He.DefD := ⟨("Keeper", some "__init__"), "__init__", "Keeper.__init__", defArgs s_Keeper_init, defBody s_Keeper_init, defScope s_Keeper_init, [], []⟩
def d_Keeper_put_lake : He.DefD := ⟨("Keeper", some "put_lake"), "put_lake", "Keeper.put_lake", defArgs s_Keeper_put_lake, defBody s_Keeper_put_lake, defScope s_Keeper_put_lake, [], []⟩
def d_Keeper_put_strategy : He.DefD := ⟨("Keeper", some "put_strategy"), "put_strategy", "Keeper.put_strategy", defArgs s_Keeper_put_strategy, defBody s_Keeper_put_strategy, defScope s_Keeper_put_strategy, [], []⟩
def d_sure_of : He.DefD := ⟨("sure_of", none), "sure_of", "sure_of", defArgs s_sure_of, defBody s_sure_of, defScope s_sure_of, [], []⟩
def d_sure_by_strategy_of : He.DefD := ⟨("sure_by_strategy_of", none), "sure_by_strategy_of", "sure_by_strategy_of", defArgs s_sure_by_strategy_of, defBody s_sure_by_strategy_of, defScope s_sure_by_strategy_of, [], []⟩
def d_Course_init : He.DefD := ⟨("Course", some "__init__"), "__init__", "Course.__init__", defArgs s_Course_init, defBody s_Course_init, defScope s_Course_init, [], []⟩
def d_Course_pass_season : He.DefD := ⟨("Course", some "pass_season"), "pass_season", "Course.pass_season", defArgs s_Course_pass_season, defBody s_Course_pass_season, defScope s_Course_pass_season, [], []⟩
def d_Course_report : He.DefD := ⟨("Course", some "report"), "report", "Course.report", defArgs s_Course_report, defBody s_Course_report, defScope s_Course_report, [], []⟩
def d_WrongText_init : He.DefD := ⟨("WrongText", some "__init__"), "__init__", "WrongText.__init__", defArgs s_WrongText_init, defBody s_WrongText_init, defScope s_WrongText_init, [], []⟩
def d_Piece_init : He.DefD := ⟨("Piece", some "__init__"), "__init__", "Piece.__init__", defArgs s_Piece_init, defBody s_Piece_init, defScope s_Piece_init, [], []⟩
def d_run_end : He.DefD := ⟨("run_end", none), "run_end", "run_end", defArgs s_run_end, defBody s_run_end, defScope s_run_end, [], []⟩
def d_word_of : He.DefD := ⟨("word_of", none), "word_of", "word_of", defArgs s_word_of, defBody s_word_of, defScope s_word_of, [], []⟩
def d_number_of : He.DefD := ⟨("number_of", none), "number_of", "number_of", defArgs s_number_of, defBody s_number_of, defScope s_number_of, [], []⟩
def d_cut : He.DefD := ⟨("cut", none), "cut", "cut", defArgs s_cut, defBody s_cut, defScope s_cut, [], []⟩
def d_Reader_init : He.DefD := ⟨("Reader", some "__init__"), "__init__", "Reader.__init__", defArgs s_Reader_init, defBody s_Reader_init, defScope s_Reader_init, [], []⟩
def d_Reader_ahead : He.DefD := ⟨("Reader", some "ahead"), "ahead", "Reader.ahead", defArgs s_Reader_ahead, defBody s_Reader_ahead, defScope s_Reader_ahead, [], []⟩
def d_Reader_here : He.DefD := ⟨("Reader", some "here"), "here", "Reader.here", defArgs s_Reader_here, defBody s_Reader_here, defScope s_Reader_here, [], []⟩
def d_Reader_sees : He.DefD := ⟨("Reader", some "sees"), "sees", "Reader.sees", defArgs s_Reader_sees, defBody s_Reader_sees, defScope s_Reader_sees, [], []⟩
def d_Reader_take_word : He.DefD := ⟨("Reader", some "take_word"), "take_word", "Reader.take_word", defArgs s_Reader_take_word, defBody s_Reader_take_word, defScope s_Reader_take_word, [], []⟩
def d_Reader_take_name : He.DefD := ⟨("Reader", some "take_name"), "take_name", "Reader.take_name", defArgs s_Reader_take_name, defBody s_Reader_take_name, defScope s_Reader_take_name, [], []⟩
def d_Reader_take_number : He.DefD := ⟨("Reader", some "take_number"), "take_number", "Reader.take_number", defArgs s_Reader_take_number, defBody s_Reader_take_number, defScope s_Reader_take_number, [], []⟩
def d_Reader_take_end : He.DefD := ⟨("Reader", some "take_end"), "take_end", "Reader.take_end", defArgs s_Reader_take_end, defBody s_Reader_take_end, defScope s_Reader_take_end, [], []⟩
def d_shown_line : He.DefD := ⟨("shown_line", none), "shown_line", "shown_line", defArgs s_shown_line, defBody s_shown_line, defScope s_shown_line, [], []⟩
def d_byte_row : He.DefD := ⟨("byte_row", none), "byte_row", "byte_row", defArgs s_byte_row, defBody s_byte_row, defScope s_byte_row, [], []⟩
def d_number_behind : He.DefD := ⟨("number_behind", none), "number_behind", "number_behind", defArgs s_number_behind, defBody s_number_behind, defScope s_number_behind, [], []⟩
def d_read_kind_name : He.DefD := ⟨("read_kind_name", none), "read_kind_name", "read_kind_name", defArgs s_read_kind_name, defBody s_read_kind_name, defScope s_read_kind_name, [], []⟩
def d_read_follows : He.DefD := ⟨("read_follows", none), "read_follows", "read_follows", defArgs s_read_follows, defBody s_read_follows, defScope s_read_follows, [], []⟩
def d_kind_numbers : He.DefD := ⟨("kind_numbers", none), "kind_numbers", "kind_numbers", defArgs s_kind_numbers, defBody s_kind_numbers, defScope s_kind_numbers, [], []⟩
def d_read_kinds : He.DefD := ⟨("read_kinds", none), "read_kinds", "read_kinds", defArgs s_read_kinds, defBody s_read_kinds, defScope s_read_kinds, [], []⟩
def d_read_table : He.DefD := ⟨("read_table", none), "read_table", "read_table", defArgs s_read_table, defBody s_read_table, defScope s_read_table, [], []⟩
def d_read_tables : He.DefD := ⟨("read_tables", none), "read_tables", "read_tables", defArgs s_read_tables, defBody s_read_tables, defScope s_read_tables, [], []⟩
def d_read_lake : He.DefD := ⟨("read_lake", none), "read_lake", "read_lake", defArgs s_read_lake, defBody s_read_lake, defScope s_read_lake, [], []⟩
def d_show_lake : He.DefD := ⟨("show_lake", none), "show_lake", "show_lake", defArgs s_show_lake, defBody s_show_lake, defScope s_show_lake, [], []⟩
def d_is_season : He.DefD := ⟨("is_season", none), "is_season", "is_season", defArgs s_is_season, defBody s_is_season, defScope s_is_season, [], []⟩
def d_is_kind : He.DefD := ⟨("is_kind", none), "is_kind", "is_kind", defArgs s_is_kind, defBody s_is_kind, defScope s_is_kind, [], []⟩
def d_is_start : He.DefD := ⟨("is_start", none), "is_start", "is_start", defArgs s_is_start, defBody s_is_start, defScope s_is_start, [], []⟩
def d_is_weather : He.DefD := ⟨("is_weather", none), "is_weather", "is_weather", defArgs s_is_weather, defBody s_is_weather, defScope s_is_weather, [], []⟩
def d_weather_refusal : He.DefD := ⟨("weather_refusal", none), "weather_refusal", "weather_refusal", defArgs s_weather_refusal, defBody s_weather_refusal, defScope s_weather_refusal, [], []⟩
def d_look_at : He.DefD := ⟨("look_at", none), "look_at", "look_at", defArgs s_look_at, defBody s_look_at, defScope s_look_at, [], []⟩
def d_look_at_table : He.DefD := ⟨("look_at_table", none), "look_at_table", "look_at_table", defArgs s_look_at_table, defBody s_look_at_table, defScope s_look_at_table, [], []⟩
def d_pass_worst : He.DefD := ⟨("pass_worst", none), "pass_worst", "pass_worst", defArgs s_pass_worst, defBody s_pass_worst, defScope s_pass_worst, [], []⟩
def d_pass_by_best : He.DefD := ⟨("pass_by_best", none), "pass_by_best", "pass_by_best", defArgs s_pass_by_best, defBody s_pass_by_best, defScope s_pass_by_best, [], []⟩
def d_look_at_strategy : He.DefD := ⟨("look_at_strategy", none), "look_at_strategy", "look_at_strategy", defArgs s_look_at_strategy, defBody s_look_at_strategy, defScope s_look_at_strategy, [], []⟩
def d_pass_by_strategy : He.DefD := ⟨("pass_by_strategy", none), "pass_by_strategy", "pass_by_strategy", defArgs s_pass_by_strategy, defBody s_pass_by_strategy, defScope s_pass_by_strategy, [], []⟩
def d_look_back : He.DefD := ⟨("look_back", none), "look_back", "look_back", defArgs s_look_back, defBody s_look_back, defScope s_look_back, [], []⟩
def d_look_at_greater : He.DefD := ⟨("look_at_greater", none), "look_at_greater", "look_at_greater", defArgs s_look_at_greater, defBody s_look_at_greater, defScope s_look_at_greater, [], []⟩
def d_answer_reckoning : He.DefD := ⟨("answer_reckoning", none), "answer_reckoning", "answer_reckoning", defArgs s_answer_reckoning, defBody s_answer_reckoning, defScope s_answer_reckoning, [], []⟩
def d_read_level : He.DefD := ⟨("read_level", none), "read_level", "read_level", defArgs s_read_level, defBody s_read_level, defScope s_read_level, [], []⟩
def d_read_was : He.DefD := ⟨("read_was", none), "read_was", "read_was", defArgs s_read_was, defBody s_read_was, defScope s_read_was, [], []⟩
def d_read_season : He.DefD := ⟨("read_season", none), "read_season", "read_season", defArgs s_read_season, defBody s_read_season, defScope s_read_season, [], []⟩
def d_read_condition : He.DefD := ⟨("read_condition", none), "read_condition", "read_condition", defArgs s_read_condition, defBody s_read_condition, defScope s_read_condition, [], []⟩
def d_read_letting : He.DefD := ⟨("read_letting", none), "read_letting", "read_letting", defArgs s_read_letting, defBody s_read_letting, defScope s_read_letting, [], []⟩
def d_read_rule : He.DefD := ⟨("read_rule", none), "read_rule", "read_rule", defArgs s_read_rule, defBody s_read_rule, defScope s_read_rule, [], []⟩
def d_read_strategy : He.DefD := ⟨("read_strategy", none), "read_strategy", "read_strategy", defArgs s_read_strategy, defBody s_read_strategy, defScope s_read_strategy, [], []⟩
def d_condition_words : He.DefD := ⟨("condition_words", none), "condition_words", "condition_words", defArgs s_condition_words, defBody s_condition_words, defScope s_condition_words, [], []⟩
def d_rule_words : He.DefD := ⟨("rule_words", none), "rule_words", "rule_words", defArgs s_rule_words, defBody s_rule_words, defScope s_rule_words, [], []⟩
def d_show_strategy : He.DefD := ⟨("show_strategy", none), "show_strategy", "show_strategy", defArgs s_show_strategy, defBody s_show_strategy, defScope s_show_strategy, [], []⟩
def d_is_text : He.DefD := ⟨("is_text", none), "is_text", "is_text", defArgs s_is_text, defBody s_is_text, defScope s_is_text, [], []⟩
def d_take_lake : He.DefD := ⟨("take_lake", none), "take_lake", "take_lake", defArgs s_take_lake, defBody s_take_lake, defScope s_take_lake, [], []⟩
def d_find_wrong : He.DefD := ⟨("find_wrong", none), "find_wrong", "find_wrong", defArgs s_find_wrong, defBody s_find_wrong, defScope s_find_wrong, [], []⟩
def d_take_strategy : He.DefD := ⟨("take_strategy", none), "take_strategy", "take_strategy", defArgs s_take_strategy, defBody s_take_strategy, defScope s_take_strategy, [], []⟩
def d_list_weathers : He.DefD := ⟨("list_weathers", none), "list_weathers", "list_weathers", defArgs s_list_weathers, defBody s_list_weathers, defScope s_list_weathers, [], []⟩
def d_list_counts : He.DefD := ⟨("list_counts", none), "list_counts", "list_counts", defArgs s_list_counts, defBody s_list_counts, defScope s_list_counts, [], []⟩
def d_answer_telling : He.DefD := ⟨("answer_telling", none), "answer_telling", "answer_telling", defArgs s_answer_telling, defBody s_answer_telling, defScope s_answer_telling, [], []⟩
def d_answer_call : He.DefD := ⟨("answer_call", none), "answer_call", "answer_call", defArgs s_answer_call, defBody s_answer_call, defScope s_answer_call, [], []⟩
def d_answers : He.DefD := ⟨("answers", none), "answers", "answers", defArgs s_answers, defBody s_answers, defScope s_answers, [], []⟩
def fn : List He.DefD := [d_Kind_init, d_Lake_init, d_greater_lake, d_season_table, d_most_letting, d_level_behind, d_can_come, d_Rule_init, d_Strategy_init, d_condition_holds, d_rule_holds, d_wanted_letting, d_strategy_letting, d_sure_behind_kinds, d_least_by_left, d_worths, d_best_by_level, d_sure_by_level, d_sure_at_end, d_all_sure, d_best_letting, d_best_answer, d_strategy_by_level, d_strategy_sure, d_best_if_known, d_Keeper_init, d_Keeper_put_lake, d_Keeper_put_strategy, d_sure_of, d_sure_by_strategy_of, d_Course_init, d_Course_pass_season, d_Course_report, d_WrongText_init, d_Piece_init, d_run_end, d_word_of, d_number_of, d_cut, d_Reader_init, d_Reader_ahead, d_Reader_here, d_Reader_sees, d_Reader_take_word, d_Reader_take_name, d_Reader_take_number, d_Reader_take_end, d_shown_line, d_byte_row, d_number_behind, d_read_kind_name, d_read_follows, d_kind_numbers, d_read_kinds, d_read_table, d_read_tables, d_read_lake, d_show_lake, d_is_season, d_is_kind, d_is_start, d_is_weather, d_weather_refusal, d_look_at, d_look_at_table, d_pass_worst, d_pass_by_best, d_look_at_strategy, d_pass_by_strategy, d_look_back, d_look_at_greater, d_answer_reckoning, d_read_level, d_read_was, d_read_season, d_read_condition, d_read_letting, d_read_rule, d_read_strategy, d_condition_words, d_rule_words, d_show_strategy, d_is_text, d_take_lake, d_find_wrong, d_take_strategy, d_list_weathers, d_list_counts, d_answer_telling, d_answer_call, d_answers]
def fa0 : List He.Fa := [.free "Exception", .free "all", .free "enumerate", .free "len", .free "max", .free "min", .free "ord", .free "range", .free "str", .str "LETTERS" "abcdefghijklmnopqrstuvwxyz", .int "FIRST_LETTER" 97, .int "LAST_LETTER" 122, .int "FIRST_DIGIT" 48, .int "LAST_DIGIT" 57, .int "SEMICOLON" 59, .glo "BLANKS", .int "LONGEST_WORD" 8, .int "LONGEST_NUMBER" 3, .glo "GRAMMAR_WORDS", .int "CANNOT_STAND" 1, .int "NO_KIND" 2, .int "TOO_OFTEN" 3, .int "OUT_OF_RANGE" 4, .int "MOST_HELD" 40, .int "MOST_SEASONS" 24, .int "WIDEST_GATE" 10, .int "MOST_REST" 99, .int "MOST_BROUGHT" 20, .int "MOST_YIELDED" 999, .int "MOST_KINDS" 4]
def fa1 : List He.Fa := [.int "MOST_TABLES" 4, .int "MOST_LEVEL" 40, .int "MOST_LET" 10, .int "MOST_RULES" 12, .int "LONGEST_TEXT" 1500, .int "LAST_BYTE" 255, .glo "NUMBERS", .glo "CALLS_WITH_LIST", .glo "CALLS_WITHOUT_LAKE", .glo "RECKONINGS", .glo "greater_lake", .glo "season_table", .glo "most_letting", .glo "level_behind", .glo "can_come", .glo "condition_holds", .glo "rule_holds", .glo "wanted_letting", .glo "strategy_letting", .glo "sure_behind_kinds", .glo "least_by_left", .glo "worths", .glo "best_by_level", .glo "sure_by_level", .glo "sure_at_end", .glo "all_sure", .glo "best_letting", .glo "best_answer", .glo "strategy_by_level", .glo "strategy_sure"]
def fa2 : List He.Fa := [.glo "best_if_known", .glo "sure_of", .glo "sure_by_strategy_of", .glo "run_end", .glo "word_of", .glo "number_of", .glo "cut", .glo "shown_line", .glo "byte_row", .glo "number_behind", .glo "read_kind_name", .glo "read_follows", .glo "kind_numbers", .glo "read_kinds", .glo "read_table", .glo "read_tables", .glo "read_lake", .glo "show_lake", .glo "is_season", .glo "is_kind", .glo "is_start", .glo "is_weather", .glo "weather_refusal", .glo "look_at", .glo "look_at_table", .glo "pass_worst", .glo "pass_by_best", .glo "look_at_strategy", .glo "pass_by_strategy", .glo "look_back"]
def fa3 : List He.Fa := [.glo "look_at_greater", .glo "answer_reckoning", .glo "read_level", .glo "read_was", .glo "read_season", .glo "read_condition", .glo "read_letting", .glo "read_rule", .glo "read_strategy", .glo "condition_words", .glo "rule_words", .glo "show_strategy", .glo "is_text", .glo "take_lake", .glo "find_wrong", .glo "take_strategy", .glo "list_weathers", .glo "list_counts", .glo "answer_telling", .glo "answer_call", .glo "answers", .glo "Kind", .cls "Kind", .mkr "Kind", .noat "Kind" "name", .noat "Kind" "brings", .noat "Kind" "follows", .glo "Lake", .cls "Lake", .mkr "Lake"]
def fa4 : List He.Fa := [.noat "Lake" "holds", .noat "Lake" "seasons", .noat "Lake" "gate", .noat "Lake" "rest", .noat "Lake" "kinds", .noat "Lake" "tables", .glo "Rule", .cls "Rule", .mkr "Rule", .noat "Rule" "conditions", .noat "Rule" "letting", .glo "Strategy", .cls "Strategy", .mkr "Strategy", .noat "Strategy" "rules", .noat "Strategy" "otherwise", .glo "Keeper", .cls "Keeper", .mkr "Keeper", .noat "Keeper" "lake", .noat "Keeper" "sure", .noat "Keeper" "strategy", .noat "Keeper" "sure_by_strategy", .meth "Keeper" "put_lake", .meth "Keeper" "put_strategy", .glo "Course", .cls "Course", .mkr "Course", .noat "Course" "lake", .noat "Course" "level"]
def fa5 : List He.Fa := [.noat "Course" "before", .noat "Course" "season", .noat "Course" "had", .noat "Course" "steps", .meth "Course" "pass_season", .meth "Course" "report", .glo "WrongText", .keep "WrongText", .exm "WrongText" "WrongText" true, .glo "Piece", .cls "Piece", .mkr "Piece", .noat "Piece" "place", .noat "Piece" "word", .noat "Piece" "number", .glo "Reader", .cls "Reader", .mkr "Reader", .noat "Reader" "pieces", .noat "Reader" "taken", .meth "Reader" "ahead", .meth "Reader" "here", .meth "Reader" "sees", .meth "Reader" "take_word", .meth "Reader" "take_name", .meth "Reader" "take_number", .meth "Reader" "take_end"]
def fa : List He.Fa := fa0 ++ fa1 ++ fa2 ++ fa3 ++ fa4 ++ fa5
def tup_BLANKS : List He.Dv := [.int 32, .int 10]
def tup_GRAMMAR_WORDS : List He.Dv := [.str "holds", .str "seasons", .str "gate", .str "rest", .str "weather", .str "brings", .str "then", .str "yields", .str "when", .str "and", .str "let", .str "else", .str "level", .str "least", .str "most", .str "was", .str "season", .str "to"]
def tup_NUMBERS : List He.Dv := [.int 0, .int 0, .int 0, .int 3, .int 2, .int 2, .int 2, .int 0, .int 0, .int 2, .int 2, .int 2, .int 3, .int 0, .int 0, .int 0]
def tup_CALLS_WITH_LIST : List He.Dv := [.int 0, .int 1, .int 6, .int 7, .int 10, .int 11]
def tup_CALLS_WITHOUT_LAKE : List He.Dv := [.int 0, .int 1, .int 15]
def tup_RECKONINGS : List He.Dv := [.int 3, .int 4, .int 5, .int 6, .int 9, .int 10, .int 11, .int 12]
def nm0 : List PySem.Str := ["Kind", "Lake", "greater_lake", "season_table", "most_letting", "level_behind", "can_come", "Rule", "Strategy", "condition_holds", "rule_holds", "wanted_letting", "strategy_letting", "sure_behind_kinds", "least_by_left", "worths", "best_by_level", "sure_by_level", "sure_at_end", "all_sure", "best_letting", "best_answer", "strategy_by_level", "strategy_sure", "best_if_known", "Keeper", "sure_of", "sure_by_strategy_of", "Course", "LETTERS"]
def nm1 : List PySem.Str := ["FIRST_LETTER", "LAST_LETTER", "FIRST_DIGIT", "LAST_DIGIT", "SEMICOLON", "BLANKS", "LONGEST_WORD", "LONGEST_NUMBER", "GRAMMAR_WORDS", "CANNOT_STAND", "NO_KIND", "TOO_OFTEN", "OUT_OF_RANGE", "WrongText", "Piece", "run_end", "word_of", "number_of", "cut", "Reader", "shown_line", "byte_row", "MOST_HELD", "MOST_SEASONS", "WIDEST_GATE", "MOST_REST", "MOST_BROUGHT", "MOST_YIELDED", "MOST_KINDS", "MOST_TABLES"]
def nm2 : List PySem.Str := ["number_behind", "read_kind_name", "read_follows", "kind_numbers", "read_kinds", "read_table", "read_tables", "read_lake", "show_lake", "is_season", "is_kind", "is_start", "is_weather", "weather_refusal", "look_at", "look_at_table", "pass_worst", "pass_by_best", "look_at_strategy", "pass_by_strategy", "look_back", "look_at_greater", "answer_reckoning", "MOST_LEVEL", "MOST_LET", "MOST_RULES", "read_level", "read_was", "read_season", "read_condition"]
def nm3 : List PySem.Str := ["read_letting", "read_rule", "read_strategy", "condition_words", "rule_words", "show_strategy", "LONGEST_TEXT", "LAST_BYTE", "is_text", "take_lake", "find_wrong", "take_strategy", "list_weathers", "list_counts", "answer_telling", "NUMBERS", "CALLS_WITH_LIST", "CALLS_WITHOUT_LAKE", "RECKONINGS", "answer_call"]
def nms : List PySem.Str := nm0 ++ nm1 ++ nm2 ++ nm3
end Sl
namespace Sl
open PySem PySem.Spec PyProof.Rows L2
/-- the class of the own error, by a look at its object -/
def wtB (K : PySem.W.Frag) : Bool := match K.lookup (He.ga K "WrongText") with
  | some ⟨.type "type", _, .cls cd, sl⟩ => (match cd.mro, sl.toList with
    | .ref c :: bm, [_, _, _, _, some (.builtin n), _] => c == He.ga K "WrongText" && (n == "Exception.__new__" && (!cd.hasDel && (cd.hasDict && bm == PySem.ESX.exTail)))
    | _, _ => false)
  | _ => false
def wtF (K : PySem.W.Frag) : Bool :=
  He.eqO (PySem.W.findIn K (.ref (He.ga K "WrongText")) "__setattr__") (some (some (.builtin "object.__setattr__"))) &&
  (He.eqO (PySem.W.findIn K (.ref (He.ga K "WrongText")) "__init__") (some (some (.ref (He.ma K (He.ga K "WrongText") "__init__")))) &&
  (decide (PySem.W.typeIn K (.ref (He.ma K (He.ga K "WrongText") "__init__")) = some (.type "function")) &&
  (decide (PySem.W.subIn K (.ref (He.ga K "WrongText")) (.type "BaseException") = some true) &&
  (decide (PySem.W.typeIn K (.ref (He.ga K "WrongText")) = some (.type "type")) &&
  (He.eqO (PySem.W.findIn K (.ref (He.ga K "WrongText")) "kind") (some none) &&
  (He.eqO (PySem.W.findIn K (.ref (He.ga K "WrongText")) "place") (some none) && xfB K (He.ga K "WrongText")))))))
def moreB (K : PySem.W.Frag) : Bool := wtB K && (wtF K && (He.tupB K "BLANKS" tup_BLANKS && (He.tupB K "GRAMMAR_WORDS" tup_GRAMMAR_WORDS && (He.tupB K "CALLS_WITHOUT_LAKE" tup_CALLS_WITHOUT_LAKE && (He.tupB K "NUMBERS" tup_NUMBERS && (He.tupB K "CALLS_WITH_LIST" tup_CALLS_WITH_LIST && He.tupB K "RECKONINGS" tup_RECKONINGS))))))
/-- what the end leans on -/
structure Told (K : PySem.W.Frag) : Prop where
  d : He.SaysD fa fn K
  m : moreB K = true
/-- where the written part lies: the module's names, the classes and their names, the tuples, each def and its code -/
def ad0 : List Addr := [3, 31, 52, 108, 129, 258, 307, 330, 350, 446, 30, 51, 107, 128, 257, 306, 329, 349, 445, 312, 313, 733, 734, 735, 736, 63, 62, 70, 69, 77, 76, 84, 83, 91, 90, 140, 139, 147, 146, 154]
def ad1 : List Addr := [153, 161, 160, 166, 165, 171, 170, 176, 175, 181, 180, 188, 187, 193, 192, 198, 197, 205, 204, 212, 211, 217, 216, 222, 221, 227, 226, 269, 268, 276, 275, 361, 360, 366, 365, 373, 372, 380, 379, 455]
def ad2 : List Addr := [454, 460, 459, 467, 466, 474, 473, 481, 480, 488, 487, 495, 494, 502, 501, 509, 508, 516, 515, 521, 520, 528, 527, 535, 534, 542, 541, 547, 546, 554, 553, 561, 560, 568, 567, 575, 574, 582, 581, 589]
def ad3 : List Addr := [588, 596, 595, 603, 602, 610, 609, 617, 616, 624, 623, 629, 628, 636, 635, 643, 642, 650, 649, 657, 656, 664, 663, 671, 670, 678, 677, 685, 684, 690, 689, 697, 696, 704, 703, 711, 710, 718, 717, 725]
def ad4 : List Addr := [724, 732, 731, 743, 742, 750, 749, 28, 27, 49, 48, 105, 104, 126, 125, 241, 240, 248, 247, 255, 254, 290, 289, 297, 296, 304, 303, 327, 326, 347, 346, 394, 393, 401, 400, 408, 407, 415, 414, 422]
def ad5 : List Addr := [421, 429, 428, 436, 435, 443, 442]
def adr : List Addr := ad0 ++ ad1 ++ ad2 ++ ad3 ++ ad4 ++ ad5
def look (g : Addr → Option Obj) : He.AlD × Bool := (He.obsD fa fn (He.frG g adr), moreB (He.frG g adr))
def hk : PySem.W.Hook where
  α := He.AlD × Bool
  obs := fun s => look s.heap.get?
  val := fun _ => (He.valD fn, true)
  says := fun _ h => ∃ K : PySem.W.Frag, K.In h ∧ Told K
  of := fun _ _ e => ⟨_, He.frG_in, ⟨congrArg (fun z : He.AlD × Bool => z.1) e, congrArg (fun z : He.AlD × Bool => z.2) e⟩⟩
  keeps := fun _ _ _ ⟨K, hK, c⟩ k => ⟨K, PySem.W.Frag.In.keeps hK k, c⟩
def ob (s : PySem.W.SharedT) : He.AlD × Bool := look (HandSHeadRun.getT s)
theorem ob_eq (s : PySem.W.SharedT) : ob s = hk.obs s.abs := by
  have e : HandSHeadRun.getT s = s.abs.heap.get? := funext (HandSHeadRun.getT_eq s)
  show look (HandSHeadRun.getT s) = look s.abs.heap.get?
  rw [e]
set_option maxHeartbeats 0 in
theorem run (w : World) : HandSHeadRun.RunEqS PySem.Challenge.rw_seasonlake_s01_answers (PySem.W.view PySem.Challenge.rw_seasonlake_s01_answers.prog [122]) hk ob 9000 nms w := by
  intro os
  kernel_rfl
end Sl
namespace Sl
open PySem PySem.Spec PyProof.Rows L2
/-- what a body leans on: the written part and the module's names -/
structure Tx (K : PySem.W.Frag) (mg : Str → Option Value) : Prop where
  t : Told K
  h : ∃ h : Heap, K.In h ∧ h.Ns mainGlobals mg
namespace Tx
variable {K : PySem.W.Frag} {mg : Str → Option Value}
theorem free_Exception (T : Tx K mg) : mg "Exception" = none := let ⟨_, a, b⟩ := T.h; He.free_ok a b (T.t.d.fact 0 (f := .free "Exception") rfl)
theorem free_all (T : Tx K mg) : mg "all" = none := let ⟨_, a, b⟩ := T.h; He.free_ok a b (T.t.d.fact 1 (f := .free "all") rfl)
theorem free_enumerate (T : Tx K mg) : mg "enumerate" = none := let ⟨_, a, b⟩ := T.h; He.free_ok a b (T.t.d.fact 2 (f := .free "enumerate") rfl)
theorem free_len (T : Tx K mg) : mg "len" = none := let ⟨_, a, b⟩ := T.h; He.free_ok a b (T.t.d.fact 3 (f := .free "len") rfl)
theorem free_max (T : Tx K mg) : mg "max" = none := let ⟨_, a, b⟩ := T.h; He.free_ok a b (T.t.d.fact 4 (f := .free "max") rfl)
theorem free_min (T : Tx K mg) : mg "min" = none := let ⟨_, a, b⟩ := T.h; He.free_ok a b (T.t.d.fact 5 (f := .free "min") rfl)
theorem free_ord (T : Tx K mg) : mg "ord" = none := let ⟨_, a, b⟩ := T.h; He.free_ok a b (T.t.d.fact 6 (f := .free "ord") rfl)
theorem free_range (T : Tx K mg) : mg "range" = none := let ⟨_, a, b⟩ := T.h; He.free_ok a b (T.t.d.fact 7 (f := .free "range") rfl)
theorem free_str (T : Tx K mg) : mg "str" = none := let ⟨_, a, b⟩ := T.h; He.free_ok a b (T.t.d.fact 8 (f := .free "str") rfl)
theorem cst_LETTERS (T : Tx K mg) : ∃ u, mg "LETTERS" = some u ∧ RelV (.str "abcdefghijklmnopqrstuvwxyz") u := let ⟨_, a, b⟩ := T.h; let ⟨t, e⟩ := He.str_ok a b (T.t.d.fact 9 (f := .str "LETTERS" "abcdefghijklmnopqrstuvwxyz") rfl); ⟨_, e, t, rfl⟩
theorem cst_FIRST_LETTER (T : Tx K mg) : ∃ u, mg "FIRST_LETTER" = some u ∧ RelV (.int 97) u := let ⟨_, a, b⟩ := T.h; let ⟨t, e⟩ := He.int_ok a b (T.t.d.fact 10 (f := .int "FIRST_LETTER" 97) rfl); ⟨_, e, t, rfl⟩
theorem cst_LAST_LETTER (T : Tx K mg) : ∃ u, mg "LAST_LETTER" = some u ∧ RelV (.int 122) u := let ⟨_, a, b⟩ := T.h; let ⟨t, e⟩ := He.int_ok a b (T.t.d.fact 11 (f := .int "LAST_LETTER" 122) rfl); ⟨_, e, t, rfl⟩
theorem cst_FIRST_DIGIT (T : Tx K mg) : ∃ u, mg "FIRST_DIGIT" = some u ∧ RelV (.int 48) u := let ⟨_, a, b⟩ := T.h; let ⟨t, e⟩ := He.int_ok a b (T.t.d.fact 12 (f := .int "FIRST_DIGIT" 48) rfl); ⟨_, e, t, rfl⟩
theorem cst_LAST_DIGIT (T : Tx K mg) : ∃ u, mg "LAST_DIGIT" = some u ∧ RelV (.int 57) u := let ⟨_, a, b⟩ := T.h; let ⟨t, e⟩ := He.int_ok a b (T.t.d.fact 13 (f := .int "LAST_DIGIT" 57) rfl); ⟨_, e, t, rfl⟩
theorem cst_SEMICOLON (T : Tx K mg) : ∃ u, mg "SEMICOLON" = some u ∧ RelV (.int 59) u := let ⟨_, a, b⟩ := T.h; let ⟨t, e⟩ := He.int_ok a b (T.t.d.fact 14 (f := .int "SEMICOLON" 59) rfl); ⟨_, e, t, rfl⟩
theorem glo_BLANKS (T : Tx K mg) : mg "BLANKS" = some (.ref (He.ga K "BLANKS")) := let ⟨_, a, b⟩ := T.h; He.glo_ok a b (T.t.d.fact 15 (f := .glo "BLANKS") rfl)
theorem cst_LONGEST_WORD (T : Tx K mg) : ∃ u, mg "LONGEST_WORD" = some u ∧ RelV (.int 8) u := let ⟨_, a, b⟩ := T.h; let ⟨t, e⟩ := He.int_ok a b (T.t.d.fact 16 (f := .int "LONGEST_WORD" 8) rfl); ⟨_, e, t, rfl⟩
theorem cst_LONGEST_NUMBER (T : Tx K mg) : ∃ u, mg "LONGEST_NUMBER" = some u ∧ RelV (.int 3) u := let ⟨_, a, b⟩ := T.h; let ⟨t, e⟩ := He.int_ok a b (T.t.d.fact 17 (f := .int "LONGEST_NUMBER" 3) rfl); ⟨_, e, t, rfl⟩
theorem glo_GRAMMAR_WORDS (T : Tx K mg) : mg "GRAMMAR_WORDS" = some (.ref (He.ga K "GRAMMAR_WORDS")) := let ⟨_, a, b⟩ := T.h; He.glo_ok a b (T.t.d.fact 18 (f := .glo "GRAMMAR_WORDS") rfl)
theorem cst_CANNOT_STAND (T : Tx K mg) : ∃ u, mg "CANNOT_STAND" = some u ∧ RelV (.int 1) u := let ⟨_, a, b⟩ := T.h; let ⟨t, e⟩ := He.int_ok a b (T.t.d.fact 19 (f := .int "CANNOT_STAND" 1) rfl); ⟨_, e, t, rfl⟩
theorem cst_NO_KIND (T : Tx K mg) : ∃ u, mg "NO_KIND" = some u ∧ RelV (.int 2) u := let ⟨_, a, b⟩ := T.h; let ⟨t, e⟩ := He.int_ok a b (T.t.d.fact 20 (f := .int "NO_KIND" 2) rfl); ⟨_, e, t, rfl⟩
theorem cst_TOO_OFTEN (T : Tx K mg) : ∃ u, mg "TOO_OFTEN" = some u ∧ RelV (.int 3) u := let ⟨_, a, b⟩ := T.h; let ⟨t, e⟩ := He.int_ok a b (T.t.d.fact 21 (f := .int "TOO_OFTEN" 3) rfl); ⟨_, e, t, rfl⟩
theorem cst_OUT_OF_RANGE (T : Tx K mg) : ∃ u, mg "OUT_OF_RANGE" = some u ∧ RelV (.int 4) u := let ⟨_, a, b⟩ := T.h; let ⟨t, e⟩ := He.int_ok a b (T.t.d.fact 22 (f := .int "OUT_OF_RANGE" 4) rfl); ⟨_, e, t, rfl⟩
theorem cst_MOST_HELD (T : Tx K mg) : ∃ u, mg "MOST_HELD" = some u ∧ RelV (.int 40) u := let ⟨_, a, b⟩ := T.h; let ⟨t, e⟩ := He.int_ok a b (T.t.d.fact 23 (f := .int "MOST_HELD" 40) rfl); ⟨_, e, t, rfl⟩
theorem cst_MOST_SEASONS (T : Tx K mg) : ∃ u, mg "MOST_SEASONS" = some u ∧ RelV (.int 24) u := let ⟨_, a, b⟩ := T.h; let ⟨t, e⟩ := He.int_ok a b (T.t.d.fact 24 (f := .int "MOST_SEASONS" 24) rfl); ⟨_, e, t, rfl⟩
theorem cst_WIDEST_GATE (T : Tx K mg) : ∃ u, mg "WIDEST_GATE" = some u ∧ RelV (.int 10) u := let ⟨_, a, b⟩ := T.h; let ⟨t, e⟩ := He.int_ok a b (T.t.d.fact 25 (f := .int "WIDEST_GATE" 10) rfl); ⟨_, e, t, rfl⟩
theorem cst_MOST_REST (T : Tx K mg) : ∃ u, mg "MOST_REST" = some u ∧ RelV (.int 99) u := let ⟨_, a, b⟩ := T.h; let ⟨t, e⟩ := He.int_ok a b (T.t.d.fact 26 (f := .int "MOST_REST" 99) rfl); ⟨_, e, t, rfl⟩
theorem cst_MOST_BROUGHT (T : Tx K mg) : ∃ u, mg "MOST_BROUGHT" = some u ∧ RelV (.int 20) u := let ⟨_, a, b⟩ := T.h; let ⟨t, e⟩ := He.int_ok a b (T.t.d.fact 27 (f := .int "MOST_BROUGHT" 20) rfl); ⟨_, e, t, rfl⟩
theorem cst_MOST_YIELDED (T : Tx K mg) : ∃ u, mg "MOST_YIELDED" = some u ∧ RelV (.int 999) u := let ⟨_, a, b⟩ := T.h; let ⟨t, e⟩ := He.int_ok a b (T.t.d.fact 28 (f := .int "MOST_YIELDED" 999) rfl); ⟨_, e, t, rfl⟩
theorem cst_MOST_KINDS (T : Tx K mg) : ∃ u, mg "MOST_KINDS" = some u ∧ RelV (.int 4) u := let ⟨_, a, b⟩ := T.h; let ⟨t, e⟩ := He.int_ok a b (T.t.d.fact 29 (f := .int "MOST_KINDS" 4) rfl); ⟨_, e, t, rfl⟩
theorem cst_MOST_TABLES (T : Tx K mg) : ∃ u, mg "MOST_TABLES" = some u ∧ RelV (.int 4) u := let ⟨_, a, b⟩ := T.h; let ⟨t, e⟩ := He.int_ok a b (T.t.d.fact 30 (f := .int "MOST_TABLES" 4) rfl); ⟨_, e, t, rfl⟩
theorem cst_MOST_LEVEL (T : Tx K mg) : ∃ u, mg "MOST_LEVEL" = some u ∧ RelV (.int 40) u := let ⟨_, a, b⟩ := T.h; let ⟨t, e⟩ := He.int_ok a b (T.t.d.fact 31 (f := .int "MOST_LEVEL" 40) rfl); ⟨_, e, t, rfl⟩
theorem cst_MOST_LET (T : Tx K mg) : ∃ u, mg "MOST_LET" = some u ∧ RelV (.int 10) u := let ⟨_, a, b⟩ := T.h; let ⟨t, e⟩ := He.int_ok a b (T.t.d.fact 32 (f := .int "MOST_LET" 10) rfl); ⟨_, e, t, rfl⟩
theorem cst_MOST_RULES (T : Tx K mg) : ∃ u, mg "MOST_RULES" = some u ∧ RelV (.int 12) u := let ⟨_, a, b⟩ := T.h; let ⟨t, e⟩ := He.int_ok a b (T.t.d.fact 33 (f := .int "MOST_RULES" 12) rfl); ⟨_, e, t, rfl⟩
theorem cst_LONGEST_TEXT (T : Tx K mg) : ∃ u, mg "LONGEST_TEXT" = some u ∧ RelV (.int 1500) u := let ⟨_, a, b⟩ := T.h; let ⟨t, e⟩ := He.int_ok a b (T.t.d.fact 34 (f := .int "LONGEST_TEXT" 1500) rfl); ⟨_, e, t, rfl⟩
theorem cst_LAST_BYTE (T : Tx K mg) : ∃ u, mg "LAST_BYTE" = some u ∧ RelV (.int 255) u := let ⟨_, a, b⟩ := T.h; let ⟨t, e⟩ := He.int_ok a b (T.t.d.fact 35 (f := .int "LAST_BYTE" 255) rfl); ⟨_, e, t, rfl⟩
theorem glo_NUMBERS (T : Tx K mg) : mg "NUMBERS" = some (.ref (He.ga K "NUMBERS")) := let ⟨_, a, b⟩ := T.h; He.glo_ok a b (T.t.d.fact 36 (f := .glo "NUMBERS") rfl)
theorem glo_CALLS_WITH_LIST (T : Tx K mg) : mg "CALLS_WITH_LIST" = some (.ref (He.ga K "CALLS_WITH_LIST")) := let ⟨_, a, b⟩ := T.h; He.glo_ok a b (T.t.d.fact 37 (f := .glo "CALLS_WITH_LIST") rfl)
theorem glo_CALLS_WITHOUT_LAKE (T : Tx K mg) : mg "CALLS_WITHOUT_LAKE" = some (.ref (He.ga K "CALLS_WITHOUT_LAKE")) := let ⟨_, a, b⟩ := T.h; He.glo_ok a b (T.t.d.fact 38 (f := .glo "CALLS_WITHOUT_LAKE") rfl)
theorem glo_RECKONINGS (T : Tx K mg) : mg "RECKONINGS" = some (.ref (He.ga K "RECKONINGS")) := let ⟨_, a, b⟩ := T.h; He.glo_ok a b (T.t.d.fact 39 (f := .glo "RECKONINGS") rfl)
theorem glo_greater_lake (T : Tx K mg) : mg "greater_lake" = some (.ref (He.ga K "greater_lake")) := let ⟨_, a, b⟩ := T.h; He.glo_ok a b (T.t.d.fact 40 (f := .glo "greater_lake") rfl)
theorem glo_season_table (T : Tx K mg) : mg "season_table" = some (.ref (He.ga K "season_table")) := let ⟨_, a, b⟩ := T.h; He.glo_ok a b (T.t.d.fact 41 (f := .glo "season_table") rfl)
theorem glo_most_letting (T : Tx K mg) : mg "most_letting" = some (.ref (He.ga K "most_letting")) := let ⟨_, a, b⟩ := T.h; He.glo_ok a b (T.t.d.fact 42 (f := .glo "most_letting") rfl)
theorem glo_level_behind (T : Tx K mg) : mg "level_behind" = some (.ref (He.ga K "level_behind")) := let ⟨_, a, b⟩ := T.h; He.glo_ok a b (T.t.d.fact 43 (f := .glo "level_behind") rfl)
theorem glo_can_come (T : Tx K mg) : mg "can_come" = some (.ref (He.ga K "can_come")) := let ⟨_, a, b⟩ := T.h; He.glo_ok a b (T.t.d.fact 44 (f := .glo "can_come") rfl)
theorem glo_condition_holds (T : Tx K mg) : mg "condition_holds" = some (.ref (He.ga K "condition_holds")) := let ⟨_, a, b⟩ := T.h; He.glo_ok a b (T.t.d.fact 45 (f := .glo "condition_holds") rfl)
theorem glo_rule_holds (T : Tx K mg) : mg "rule_holds" = some (.ref (He.ga K "rule_holds")) := let ⟨_, a, b⟩ := T.h; He.glo_ok a b (T.t.d.fact 46 (f := .glo "rule_holds") rfl)
theorem glo_wanted_letting (T : Tx K mg) : mg "wanted_letting" = some (.ref (He.ga K "wanted_letting")) := let ⟨_, a, b⟩ := T.h; He.glo_ok a b (T.t.d.fact 47 (f := .glo "wanted_letting") rfl)
theorem glo_strategy_letting (T : Tx K mg) : mg "strategy_letting" = some (.ref (He.ga K "strategy_letting")) := let ⟨_, a, b⟩ := T.h; He.glo_ok a b (T.t.d.fact 48 (f := .glo "strategy_letting") rfl)
theorem glo_sure_behind_kinds (T : Tx K mg) : mg "sure_behind_kinds" = some (.ref (He.ga K "sure_behind_kinds")) := let ⟨_, a, b⟩ := T.h; He.glo_ok a b (T.t.d.fact 49 (f := .glo "sure_behind_kinds") rfl)
theorem glo_least_by_left (T : Tx K mg) : mg "least_by_left" = some (.ref (He.ga K "least_by_left")) := let ⟨_, a, b⟩ := T.h; He.glo_ok a b (T.t.d.fact 50 (f := .glo "least_by_left") rfl)
theorem glo_worths (T : Tx K mg) : mg "worths" = some (.ref (He.ga K "worths")) := let ⟨_, a, b⟩ := T.h; He.glo_ok a b (T.t.d.fact 51 (f := .glo "worths") rfl)
theorem glo_best_by_level (T : Tx K mg) : mg "best_by_level" = some (.ref (He.ga K "best_by_level")) := let ⟨_, a, b⟩ := T.h; He.glo_ok a b (T.t.d.fact 52 (f := .glo "best_by_level") rfl)
theorem glo_sure_by_level (T : Tx K mg) : mg "sure_by_level" = some (.ref (He.ga K "sure_by_level")) := let ⟨_, a, b⟩ := T.h; He.glo_ok a b (T.t.d.fact 53 (f := .glo "sure_by_level") rfl)
theorem glo_sure_at_end (T : Tx K mg) : mg "sure_at_end" = some (.ref (He.ga K "sure_at_end")) := let ⟨_, a, b⟩ := T.h; He.glo_ok a b (T.t.d.fact 54 (f := .glo "sure_at_end") rfl)
theorem glo_all_sure (T : Tx K mg) : mg "all_sure" = some (.ref (He.ga K "all_sure")) := let ⟨_, a, b⟩ := T.h; He.glo_ok a b (T.t.d.fact 55 (f := .glo "all_sure") rfl)
theorem glo_best_letting (T : Tx K mg) : mg "best_letting" = some (.ref (He.ga K "best_letting")) := let ⟨_, a, b⟩ := T.h; He.glo_ok a b (T.t.d.fact 56 (f := .glo "best_letting") rfl)
theorem glo_best_answer (T : Tx K mg) : mg "best_answer" = some (.ref (He.ga K "best_answer")) := let ⟨_, a, b⟩ := T.h; He.glo_ok a b (T.t.d.fact 57 (f := .glo "best_answer") rfl)
theorem glo_strategy_by_level (T : Tx K mg) : mg "strategy_by_level" = some (.ref (He.ga K "strategy_by_level")) := let ⟨_, a, b⟩ := T.h; He.glo_ok a b (T.t.d.fact 58 (f := .glo "strategy_by_level") rfl)
theorem glo_strategy_sure (T : Tx K mg) : mg "strategy_sure" = some (.ref (He.ga K "strategy_sure")) := let ⟨_, a, b⟩ := T.h; He.glo_ok a b (T.t.d.fact 59 (f := .glo "strategy_sure") rfl)
theorem glo_best_if_known (T : Tx K mg) : mg "best_if_known" = some (.ref (He.ga K "best_if_known")) := let ⟨_, a, b⟩ := T.h; He.glo_ok a b (T.t.d.fact 60 (f := .glo "best_if_known") rfl)
theorem glo_sure_of (T : Tx K mg) : mg "sure_of" = some (.ref (He.ga K "sure_of")) := let ⟨_, a, b⟩ := T.h; He.glo_ok a b (T.t.d.fact 61 (f := .glo "sure_of") rfl)
theorem glo_sure_by_strategy_of (T : Tx K mg) : mg "sure_by_strategy_of" = some (.ref (He.ga K "sure_by_strategy_of")) := let ⟨_, a, b⟩ := T.h; He.glo_ok a b (T.t.d.fact 62 (f := .glo "sure_by_strategy_of") rfl)
theorem glo_run_end (T : Tx K mg) : mg "run_end" = some (.ref (He.ga K "run_end")) := let ⟨_, a, b⟩ := T.h; He.glo_ok a b (T.t.d.fact 63 (f := .glo "run_end") rfl)
theorem glo_word_of (T : Tx K mg) : mg "word_of" = some (.ref (He.ga K "word_of")) := let ⟨_, a, b⟩ := T.h; He.glo_ok a b (T.t.d.fact 64 (f := .glo "word_of") rfl)
theorem glo_number_of (T : Tx K mg) : mg "number_of" = some (.ref (He.ga K "number_of")) := let ⟨_, a, b⟩ := T.h; He.glo_ok a b (T.t.d.fact 65 (f := .glo "number_of") rfl)
theorem glo_cut (T : Tx K mg) : mg "cut" = some (.ref (He.ga K "cut")) := let ⟨_, a, b⟩ := T.h; He.glo_ok a b (T.t.d.fact 66 (f := .glo "cut") rfl)
theorem glo_shown_line (T : Tx K mg) : mg "shown_line" = some (.ref (He.ga K "shown_line")) := let ⟨_, a, b⟩ := T.h; He.glo_ok a b (T.t.d.fact 67 (f := .glo "shown_line") rfl)
theorem glo_byte_row (T : Tx K mg) : mg "byte_row" = some (.ref (He.ga K "byte_row")) := let ⟨_, a, b⟩ := T.h; He.glo_ok a b (T.t.d.fact 68 (f := .glo "byte_row") rfl)
theorem glo_number_behind (T : Tx K mg) : mg "number_behind" = some (.ref (He.ga K "number_behind")) := let ⟨_, a, b⟩ := T.h; He.glo_ok a b (T.t.d.fact 69 (f := .glo "number_behind") rfl)
theorem glo_read_kind_name (T : Tx K mg) : mg "read_kind_name" = some (.ref (He.ga K "read_kind_name")) := let ⟨_, a, b⟩ := T.h; He.glo_ok a b (T.t.d.fact 70 (f := .glo "read_kind_name") rfl)
theorem glo_read_follows (T : Tx K mg) : mg "read_follows" = some (.ref (He.ga K "read_follows")) := let ⟨_, a, b⟩ := T.h; He.glo_ok a b (T.t.d.fact 71 (f := .glo "read_follows") rfl)
theorem glo_kind_numbers (T : Tx K mg) : mg "kind_numbers" = some (.ref (He.ga K "kind_numbers")) := let ⟨_, a, b⟩ := T.h; He.glo_ok a b (T.t.d.fact 72 (f := .glo "kind_numbers") rfl)
theorem glo_read_kinds (T : Tx K mg) : mg "read_kinds" = some (.ref (He.ga K "read_kinds")) := let ⟨_, a, b⟩ := T.h; He.glo_ok a b (T.t.d.fact 73 (f := .glo "read_kinds") rfl)
theorem glo_read_table (T : Tx K mg) : mg "read_table" = some (.ref (He.ga K "read_table")) := let ⟨_, a, b⟩ := T.h; He.glo_ok a b (T.t.d.fact 74 (f := .glo "read_table") rfl)
theorem glo_read_tables (T : Tx K mg) : mg "read_tables" = some (.ref (He.ga K "read_tables")) := let ⟨_, a, b⟩ := T.h; He.glo_ok a b (T.t.d.fact 75 (f := .glo "read_tables") rfl)
theorem glo_read_lake (T : Tx K mg) : mg "read_lake" = some (.ref (He.ga K "read_lake")) := let ⟨_, a, b⟩ := T.h; He.glo_ok a b (T.t.d.fact 76 (f := .glo "read_lake") rfl)
theorem glo_show_lake (T : Tx K mg) : mg "show_lake" = some (.ref (He.ga K "show_lake")) := let ⟨_, a, b⟩ := T.h; He.glo_ok a b (T.t.d.fact 77 (f := .glo "show_lake") rfl)
theorem glo_is_season (T : Tx K mg) : mg "is_season" = some (.ref (He.ga K "is_season")) := let ⟨_, a, b⟩ := T.h; He.glo_ok a b (T.t.d.fact 78 (f := .glo "is_season") rfl)
theorem glo_is_kind (T : Tx K mg) : mg "is_kind" = some (.ref (He.ga K "is_kind")) := let ⟨_, a, b⟩ := T.h; He.glo_ok a b (T.t.d.fact 79 (f := .glo "is_kind") rfl)
theorem glo_is_start (T : Tx K mg) : mg "is_start" = some (.ref (He.ga K "is_start")) := let ⟨_, a, b⟩ := T.h; He.glo_ok a b (T.t.d.fact 80 (f := .glo "is_start") rfl)
theorem glo_is_weather (T : Tx K mg) : mg "is_weather" = some (.ref (He.ga K "is_weather")) := let ⟨_, a, b⟩ := T.h; He.glo_ok a b (T.t.d.fact 81 (f := .glo "is_weather") rfl)
theorem glo_weather_refusal (T : Tx K mg) : mg "weather_refusal" = some (.ref (He.ga K "weather_refusal")) := let ⟨_, a, b⟩ := T.h; He.glo_ok a b (T.t.d.fact 82 (f := .glo "weather_refusal") rfl)
theorem glo_look_at (T : Tx K mg) : mg "look_at" = some (.ref (He.ga K "look_at")) := let ⟨_, a, b⟩ := T.h; He.glo_ok a b (T.t.d.fact 83 (f := .glo "look_at") rfl)
theorem glo_look_at_table (T : Tx K mg) : mg "look_at_table" = some (.ref (He.ga K "look_at_table")) := let ⟨_, a, b⟩ := T.h; He.glo_ok a b (T.t.d.fact 84 (f := .glo "look_at_table") rfl)
theorem glo_pass_worst (T : Tx K mg) : mg "pass_worst" = some (.ref (He.ga K "pass_worst")) := let ⟨_, a, b⟩ := T.h; He.glo_ok a b (T.t.d.fact 85 (f := .glo "pass_worst") rfl)
theorem glo_pass_by_best (T : Tx K mg) : mg "pass_by_best" = some (.ref (He.ga K "pass_by_best")) := let ⟨_, a, b⟩ := T.h; He.glo_ok a b (T.t.d.fact 86 (f := .glo "pass_by_best") rfl)
theorem glo_look_at_strategy (T : Tx K mg) : mg "look_at_strategy" = some (.ref (He.ga K "look_at_strategy")) := let ⟨_, a, b⟩ := T.h; He.glo_ok a b (T.t.d.fact 87 (f := .glo "look_at_strategy") rfl)
theorem glo_pass_by_strategy (T : Tx K mg) : mg "pass_by_strategy" = some (.ref (He.ga K "pass_by_strategy")) := let ⟨_, a, b⟩ := T.h; He.glo_ok a b (T.t.d.fact 88 (f := .glo "pass_by_strategy") rfl)
theorem glo_look_back (T : Tx K mg) : mg "look_back" = some (.ref (He.ga K "look_back")) := let ⟨_, a, b⟩ := T.h; He.glo_ok a b (T.t.d.fact 89 (f := .glo "look_back") rfl)
theorem glo_look_at_greater (T : Tx K mg) : mg "look_at_greater" = some (.ref (He.ga K "look_at_greater")) := let ⟨_, a, b⟩ := T.h; He.glo_ok a b (T.t.d.fact 90 (f := .glo "look_at_greater") rfl)
theorem glo_answer_reckoning (T : Tx K mg) : mg "answer_reckoning" = some (.ref (He.ga K "answer_reckoning")) := let ⟨_, a, b⟩ := T.h; He.glo_ok a b (T.t.d.fact 91 (f := .glo "answer_reckoning") rfl)
theorem glo_read_level (T : Tx K mg) : mg "read_level" = some (.ref (He.ga K "read_level")) := let ⟨_, a, b⟩ := T.h; He.glo_ok a b (T.t.d.fact 92 (f := .glo "read_level") rfl)
theorem glo_read_was (T : Tx K mg) : mg "read_was" = some (.ref (He.ga K "read_was")) := let ⟨_, a, b⟩ := T.h; He.glo_ok a b (T.t.d.fact 93 (f := .glo "read_was") rfl)
theorem glo_read_season (T : Tx K mg) : mg "read_season" = some (.ref (He.ga K "read_season")) := let ⟨_, a, b⟩ := T.h; He.glo_ok a b (T.t.d.fact 94 (f := .glo "read_season") rfl)
theorem glo_read_condition (T : Tx K mg) : mg "read_condition" = some (.ref (He.ga K "read_condition")) := let ⟨_, a, b⟩ := T.h; He.glo_ok a b (T.t.d.fact 95 (f := .glo "read_condition") rfl)
theorem glo_read_letting (T : Tx K mg) : mg "read_letting" = some (.ref (He.ga K "read_letting")) := let ⟨_, a, b⟩ := T.h; He.glo_ok a b (T.t.d.fact 96 (f := .glo "read_letting") rfl)
theorem glo_read_rule (T : Tx K mg) : mg "read_rule" = some (.ref (He.ga K "read_rule")) := let ⟨_, a, b⟩ := T.h; He.glo_ok a b (T.t.d.fact 97 (f := .glo "read_rule") rfl)
theorem glo_read_strategy (T : Tx K mg) : mg "read_strategy" = some (.ref (He.ga K "read_strategy")) := let ⟨_, a, b⟩ := T.h; He.glo_ok a b (T.t.d.fact 98 (f := .glo "read_strategy") rfl)
theorem glo_condition_words (T : Tx K mg) : mg "condition_words" = some (.ref (He.ga K "condition_words")) := let ⟨_, a, b⟩ := T.h; He.glo_ok a b (T.t.d.fact 99 (f := .glo "condition_words") rfl)
theorem glo_rule_words (T : Tx K mg) : mg "rule_words" = some (.ref (He.ga K "rule_words")) := let ⟨_, a, b⟩ := T.h; He.glo_ok a b (T.t.d.fact 100 (f := .glo "rule_words") rfl)
theorem glo_show_strategy (T : Tx K mg) : mg "show_strategy" = some (.ref (He.ga K "show_strategy")) := let ⟨_, a, b⟩ := T.h; He.glo_ok a b (T.t.d.fact 101 (f := .glo "show_strategy") rfl)
theorem glo_is_text (T : Tx K mg) : mg "is_text" = some (.ref (He.ga K "is_text")) := let ⟨_, a, b⟩ := T.h; He.glo_ok a b (T.t.d.fact 102 (f := .glo "is_text") rfl)
theorem glo_take_lake (T : Tx K mg) : mg "take_lake" = some (.ref (He.ga K "take_lake")) := let ⟨_, a, b⟩ := T.h; He.glo_ok a b (T.t.d.fact 103 (f := .glo "take_lake") rfl)
theorem glo_find_wrong (T : Tx K mg) : mg "find_wrong" = some (.ref (He.ga K "find_wrong")) := let ⟨_, a, b⟩ := T.h; He.glo_ok a b (T.t.d.fact 104 (f := .glo "find_wrong") rfl)
theorem glo_take_strategy (T : Tx K mg) : mg "take_strategy" = some (.ref (He.ga K "take_strategy")) := let ⟨_, a, b⟩ := T.h; He.glo_ok a b (T.t.d.fact 105 (f := .glo "take_strategy") rfl)
theorem glo_list_weathers (T : Tx K mg) : mg "list_weathers" = some (.ref (He.ga K "list_weathers")) := let ⟨_, a, b⟩ := T.h; He.glo_ok a b (T.t.d.fact 106 (f := .glo "list_weathers") rfl)
theorem glo_list_counts (T : Tx K mg) : mg "list_counts" = some (.ref (He.ga K "list_counts")) := let ⟨_, a, b⟩ := T.h; He.glo_ok a b (T.t.d.fact 107 (f := .glo "list_counts") rfl)
theorem glo_answer_telling (T : Tx K mg) : mg "answer_telling" = some (.ref (He.ga K "answer_telling")) := let ⟨_, a, b⟩ := T.h; He.glo_ok a b (T.t.d.fact 108 (f := .glo "answer_telling") rfl)
theorem glo_answer_call (T : Tx K mg) : mg "answer_call" = some (.ref (He.ga K "answer_call")) := let ⟨_, a, b⟩ := T.h; He.glo_ok a b (T.t.d.fact 109 (f := .glo "answer_call") rfl)
theorem glo_answers (T : Tx K mg) : mg "answers" = some (.ref (He.ga K "answers")) := let ⟨_, a, b⟩ := T.h; He.glo_ok a b (T.t.d.fact 110 (f := .glo "answers") rfl)
theorem glo_Kind (T : Tx K mg) : mg "Kind" = some (.ref (He.ga K "Kind")) := let ⟨_, a, b⟩ := T.h; He.glo_ok a b (T.t.d.fact 111 (f := .glo "Kind") rfl)
theorem cls_Kind (T : Tx K mg) : Cls K (He.ga K "Kind") := He.cls_ok (T.t.d.fact 112 (f := .cls "Kind") rfl)
theorem mkr_Kind (T : Tx K mg) : Mk K (He.ga K "Kind") (He.ma K (He.ga K "Kind") "__init__") := He.mkr_ok (T.t.d.fact 113 (f := .mkr "Kind") rfl)
theorem noat_Kind_name (T : Tx K mg) : NoAttr K (He.ga K "Kind") "name" := He.noat_ok (T.t.d.fact 114 (f := .noat "Kind" "name") rfl)
theorem noat_Kind_brings (T : Tx K mg) : NoAttr K (He.ga K "Kind") "brings" := He.noat_ok (T.t.d.fact 115 (f := .noat "Kind" "brings") rfl)
theorem noat_Kind_follows (T : Tx K mg) : NoAttr K (He.ga K "Kind") "follows" := He.noat_ok (T.t.d.fact 116 (f := .noat "Kind" "follows") rfl)
theorem glo_Lake (T : Tx K mg) : mg "Lake" = some (.ref (He.ga K "Lake")) := let ⟨_, a, b⟩ := T.h; He.glo_ok a b (T.t.d.fact 117 (f := .glo "Lake") rfl)
theorem cls_Lake (T : Tx K mg) : Cls K (He.ga K "Lake") := He.cls_ok (T.t.d.fact 118 (f := .cls "Lake") rfl)
theorem mkr_Lake (T : Tx K mg) : Mk K (He.ga K "Lake") (He.ma K (He.ga K "Lake") "__init__") := He.mkr_ok (T.t.d.fact 119 (f := .mkr "Lake") rfl)
theorem noat_Lake_holds (T : Tx K mg) : NoAttr K (He.ga K "Lake") "holds" := He.noat_ok (T.t.d.fact 120 (f := .noat "Lake" "holds") rfl)
theorem noat_Lake_seasons (T : Tx K mg) : NoAttr K (He.ga K "Lake") "seasons" := He.noat_ok (T.t.d.fact 121 (f := .noat "Lake" "seasons") rfl)
theorem noat_Lake_gate (T : Tx K mg) : NoAttr K (He.ga K "Lake") "gate" := He.noat_ok (T.t.d.fact 122 (f := .noat "Lake" "gate") rfl)
theorem noat_Lake_rest (T : Tx K mg) : NoAttr K (He.ga K "Lake") "rest" := He.noat_ok (T.t.d.fact 123 (f := .noat "Lake" "rest") rfl)
theorem noat_Lake_kinds (T : Tx K mg) : NoAttr K (He.ga K "Lake") "kinds" := He.noat_ok (T.t.d.fact 124 (f := .noat "Lake" "kinds") rfl)
theorem noat_Lake_tables (T : Tx K mg) : NoAttr K (He.ga K "Lake") "tables" := He.noat_ok (T.t.d.fact 125 (f := .noat "Lake" "tables") rfl)
theorem glo_Rule (T : Tx K mg) : mg "Rule" = some (.ref (He.ga K "Rule")) := let ⟨_, a, b⟩ := T.h; He.glo_ok a b (T.t.d.fact 126 (f := .glo "Rule") rfl)
theorem cls_Rule (T : Tx K mg) : Cls K (He.ga K "Rule") := He.cls_ok (T.t.d.fact 127 (f := .cls "Rule") rfl)
theorem mkr_Rule (T : Tx K mg) : Mk K (He.ga K "Rule") (He.ma K (He.ga K "Rule") "__init__") := He.mkr_ok (T.t.d.fact 128 (f := .mkr "Rule") rfl)
theorem noat_Rule_conditions (T : Tx K mg) : NoAttr K (He.ga K "Rule") "conditions" := He.noat_ok (T.t.d.fact 129 (f := .noat "Rule" "conditions") rfl)
theorem noat_Rule_letting (T : Tx K mg) : NoAttr K (He.ga K "Rule") "letting" := He.noat_ok (T.t.d.fact 130 (f := .noat "Rule" "letting") rfl)
theorem glo_Strategy (T : Tx K mg) : mg "Strategy" = some (.ref (He.ga K "Strategy")) := let ⟨_, a, b⟩ := T.h; He.glo_ok a b (T.t.d.fact 131 (f := .glo "Strategy") rfl)
theorem cls_Strategy (T : Tx K mg) : Cls K (He.ga K "Strategy") := He.cls_ok (T.t.d.fact 132 (f := .cls "Strategy") rfl)
theorem mkr_Strategy (T : Tx K mg) : Mk K (He.ga K "Strategy") (He.ma K (He.ga K "Strategy") "__init__") := He.mkr_ok (T.t.d.fact 133 (f := .mkr "Strategy") rfl)
theorem noat_Strategy_rules (T : Tx K mg) : NoAttr K (He.ga K "Strategy") "rules" := He.noat_ok (T.t.d.fact 134 (f := .noat "Strategy" "rules") rfl)
theorem noat_Strategy_otherwise (T : Tx K mg) : NoAttr K (He.ga K "Strategy") "otherwise" := He.noat_ok (T.t.d.fact 135 (f := .noat "Strategy" "otherwise") rfl)
theorem glo_Keeper (T : Tx K mg) : mg "Keeper" = some (.ref (He.ga K "Keeper")) := let ⟨_, a, b⟩ := T.h; He.glo_ok a b (T.t.d.fact 136 (f := .glo "Keeper") rfl)
theorem cls_Keeper (T : Tx K mg) : Cls K (He.ga K "Keeper") := He.cls_ok (T.t.d.fact 137 (f := .cls "Keeper") rfl)
theorem mkr_Keeper (T : Tx K mg) : Mk K (He.ga K "Keeper") (He.ma K (He.ga K "Keeper") "__init__") := He.mkr_ok (T.t.d.fact 138 (f := .mkr "Keeper") rfl)
theorem noat_Keeper_lake (T : Tx K mg) : NoAttr K (He.ga K "Keeper") "lake" := He.noat_ok (T.t.d.fact 139 (f := .noat "Keeper" "lake") rfl)
theorem noat_Keeper_sure (T : Tx K mg) : NoAttr K (He.ga K "Keeper") "sure" := He.noat_ok (T.t.d.fact 140 (f := .noat "Keeper" "sure") rfl)
theorem noat_Keeper_strategy (T : Tx K mg) : NoAttr K (He.ga K "Keeper") "strategy" := He.noat_ok (T.t.d.fact 141 (f := .noat "Keeper" "strategy") rfl)
theorem noat_Keeper_sure_by_strategy (T : Tx K mg) : NoAttr K (He.ga K "Keeper") "sure_by_strategy" := He.noat_ok (T.t.d.fact 142 (f := .noat "Keeper" "sure_by_strategy") rfl)
theorem meth_Keeper_put_lake (T : Tx K mg) : Meth K (He.ga K "Keeper") "put_lake" (He.ma K (He.ga K "Keeper") "put_lake") := He.meth_ok (T.t.d.fact 143 (f := .meth "Keeper" "put_lake") rfl)
theorem meth_Keeper_put_strategy (T : Tx K mg) : Meth K (He.ga K "Keeper") "put_strategy" (He.ma K (He.ga K "Keeper") "put_strategy") := He.meth_ok (T.t.d.fact 144 (f := .meth "Keeper" "put_strategy") rfl)
theorem glo_Course (T : Tx K mg) : mg "Course" = some (.ref (He.ga K "Course")) := let ⟨_, a, b⟩ := T.h; He.glo_ok a b (T.t.d.fact 145 (f := .glo "Course") rfl)
theorem cls_Course (T : Tx K mg) : Cls K (He.ga K "Course") := He.cls_ok (T.t.d.fact 146 (f := .cls "Course") rfl)
theorem mkr_Course (T : Tx K mg) : Mk K (He.ga K "Course") (He.ma K (He.ga K "Course") "__init__") := He.mkr_ok (T.t.d.fact 147 (f := .mkr "Course") rfl)
theorem noat_Course_lake (T : Tx K mg) : NoAttr K (He.ga K "Course") "lake" := He.noat_ok (T.t.d.fact 148 (f := .noat "Course" "lake") rfl)
theorem noat_Course_level (T : Tx K mg) : NoAttr K (He.ga K "Course") "level" := He.noat_ok (T.t.d.fact 149 (f := .noat "Course" "level") rfl)
theorem noat_Course_before (T : Tx K mg) : NoAttr K (He.ga K "Course") "before" := He.noat_ok (T.t.d.fact 150 (f := .noat "Course" "before") rfl)
theorem noat_Course_season (T : Tx K mg) : NoAttr K (He.ga K "Course") "season" := He.noat_ok (T.t.d.fact 151 (f := .noat "Course" "season") rfl)
theorem noat_Course_had (T : Tx K mg) : NoAttr K (He.ga K "Course") "had" := He.noat_ok (T.t.d.fact 152 (f := .noat "Course" "had") rfl)
theorem noat_Course_steps (T : Tx K mg) : NoAttr K (He.ga K "Course") "steps" := He.noat_ok (T.t.d.fact 153 (f := .noat "Course" "steps") rfl)
theorem meth_Course_pass_season (T : Tx K mg) : Meth K (He.ga K "Course") "pass_season" (He.ma K (He.ga K "Course") "pass_season") := He.meth_ok (T.t.d.fact 154 (f := .meth "Course" "pass_season") rfl)
theorem meth_Course_report (T : Tx K mg) : Meth K (He.ga K "Course") "report" (He.ma K (He.ga K "Course") "report") := He.meth_ok (T.t.d.fact 155 (f := .meth "Course" "report") rfl)
theorem glo_WrongText (T : Tx K mg) : mg "WrongText" = some (.ref (He.ga K "WrongText")) := let ⟨_, a, b⟩ := T.h; He.glo_ok a b (T.t.d.fact 156 (f := .glo "WrongText") rfl)
theorem keep_WrongText (T : Tx K mg) : PySem.W.keepIn K (.ref (He.ga K "WrongText")) = true := He.keep_ok (T.t.d.fact 157 (f := .keep "WrongText") rfl)
theorem exm_WrongText (T : Tx K mg) : PySem.W.exmOne K (.ref (He.ga K "WrongText")) (.ref (He.ga K "WrongText")) = some true := He.exm_ok (T.t.d.fact 158 (f := .exm "WrongText" "WrongText" true) rfl)
theorem glo_Piece (T : Tx K mg) : mg "Piece" = some (.ref (He.ga K "Piece")) := let ⟨_, a, b⟩ := T.h; He.glo_ok a b (T.t.d.fact 159 (f := .glo "Piece") rfl)
theorem cls_Piece (T : Tx K mg) : Cls K (He.ga K "Piece") := He.cls_ok (T.t.d.fact 160 (f := .cls "Piece") rfl)
theorem mkr_Piece (T : Tx K mg) : Mk K (He.ga K "Piece") (He.ma K (He.ga K "Piece") "__init__") := He.mkr_ok (T.t.d.fact 161 (f := .mkr "Piece") rfl)
theorem noat_Piece_place (T : Tx K mg) : NoAttr K (He.ga K "Piece") "place" := He.noat_ok (T.t.d.fact 162 (f := .noat "Piece" "place") rfl)
theorem noat_Piece_word (T : Tx K mg) : NoAttr K (He.ga K "Piece") "word" := He.noat_ok (T.t.d.fact 163 (f := .noat "Piece" "word") rfl)
theorem noat_Piece_number (T : Tx K mg) : NoAttr K (He.ga K "Piece") "number" := He.noat_ok (T.t.d.fact 164 (f := .noat "Piece" "number") rfl)
theorem glo_Reader (T : Tx K mg) : mg "Reader" = some (.ref (He.ga K "Reader")) := let ⟨_, a, b⟩ := T.h; He.glo_ok a b (T.t.d.fact 165 (f := .glo "Reader") rfl)
theorem cls_Reader (T : Tx K mg) : Cls K (He.ga K "Reader") := He.cls_ok (T.t.d.fact 166 (f := .cls "Reader") rfl)
theorem mkr_Reader (T : Tx K mg) : Mk K (He.ga K "Reader") (He.ma K (He.ga K "Reader") "__init__") := He.mkr_ok (T.t.d.fact 167 (f := .mkr "Reader") rfl)
theorem noat_Reader_pieces (T : Tx K mg) : NoAttr K (He.ga K "Reader") "pieces" := He.noat_ok (T.t.d.fact 168 (f := .noat "Reader" "pieces") rfl)
theorem noat_Reader_taken (T : Tx K mg) : NoAttr K (He.ga K "Reader") "taken" := He.noat_ok (T.t.d.fact 169 (f := .noat "Reader" "taken") rfl)
theorem meth_Reader_ahead (T : Tx K mg) : Meth K (He.ga K "Reader") "ahead" (He.ma K (He.ga K "Reader") "ahead") := He.meth_ok (T.t.d.fact 170 (f := .meth "Reader" "ahead") rfl)
theorem meth_Reader_here (T : Tx K mg) : Meth K (He.ga K "Reader") "here" (He.ma K (He.ga K "Reader") "here") := He.meth_ok (T.t.d.fact 171 (f := .meth "Reader" "here") rfl)
theorem meth_Reader_sees (T : Tx K mg) : Meth K (He.ga K "Reader") "sees" (He.ma K (He.ga K "Reader") "sees") := He.meth_ok (T.t.d.fact 172 (f := .meth "Reader" "sees") rfl)
theorem meth_Reader_take_word (T : Tx K mg) : Meth K (He.ga K "Reader") "take_word" (He.ma K (He.ga K "Reader") "take_word") := He.meth_ok (T.t.d.fact 173 (f := .meth "Reader" "take_word") rfl)
theorem meth_Reader_take_name (T : Tx K mg) : Meth K (He.ga K "Reader") "take_name" (He.ma K (He.ga K "Reader") "take_name") := He.meth_ok (T.t.d.fact 174 (f := .meth "Reader" "take_name") rfl)
theorem meth_Reader_take_number (T : Tx K mg) : Meth K (He.ga K "Reader") "take_number" (He.ma K (He.ga K "Reader") "take_number") := He.meth_ok (T.t.d.fact 175 (f := .meth "Reader" "take_number") rfl)
theorem meth_Reader_take_end (T : Tx K mg) : Meth K (He.ga K "Reader") "take_end" (He.ma K (He.ga K "Reader") "take_end") := He.meth_ok (T.t.d.fact 176 (f := .meth "Reader" "take_end") rfl)
theorem fun_Kind_init (T : Tx K mg) : ∃ fd, FunD K "__init__" "Kind.__init__" (defArgs s_Kind_init) (defBody s_Kind_init) (defScope s_Kind_init) [] [] (He.ma K (He.ga K "Kind") "__init__") fd := T.t.d.def_ 0 (d := d_Kind_init) rfl
theorem fun_Lake_init (T : Tx K mg) : ∃ fd, FunD K "__init__" "Lake.__init__" (defArgs s_Lake_init) (defBody s_Lake_init) (defScope s_Lake_init) [] [] (He.ma K (He.ga K "Lake") "__init__") fd := T.t.d.def_ 1 (d := d_Lake_init) rfl
theorem fun_greater_lake (T : Tx K mg) : ∃ fd, FunD K "greater_lake" "greater_lake" (defArgs s_greater_lake) (defBody s_greater_lake) (defScope s_greater_lake) [] [] (He.ga K "greater_lake") fd := T.t.d.def_ 2 (d := d_greater_lake) rfl
theorem fun_season_table (T : Tx K mg) : ∃ fd, FunD K "season_table" "season_table" (defArgs s_season_table) (defBody s_season_table) (defScope s_season_table) [] [] (He.ga K "season_table") fd := T.t.d.def_ 3 (d := d_season_table) rfl
theorem fun_most_letting (T : Tx K mg) : ∃ fd, FunD K "most_letting" "most_letting" (defArgs s_most_letting) (defBody s_most_letting) (defScope s_most_letting) [] [] (He.ga K "most_letting") fd := T.t.d.def_ 4 (d := d_most_letting) rfl
theorem fun_level_behind (T : Tx K mg) : ∃ fd, FunD K "level_behind" "level_behind" (defArgs s_level_behind) (defBody s_level_behind) (defScope s_level_behind) [] [] (He.ga K "level_behind") fd := T.t.d.def_ 5 (d := d_level_behind) rfl
theorem fun_can_come (T : Tx K mg) : ∃ fd, FunD K "can_come" "can_come" (defArgs s_can_come) (defBody s_can_come) (defScope s_can_come) [] [] (He.ga K "can_come") fd := T.t.d.def_ 6 (d := d_can_come) rfl
theorem fun_Rule_init (T : Tx K mg) : ∃ fd, FunD K "__init__" "Rule.__init__" (defArgs s_Rule_init) (defBody s_Rule_init) (defScope s_Rule_init) [] [] (He.ma K (He.ga K "Rule") "__init__") fd := T.t.d.def_ 7 (d := d_Rule_init) rfl
theorem fun_Strategy_init (T : Tx K mg) : ∃ fd, FunD K "__init__" "Strategy.__init__" (defArgs s_Strategy_init) (defBody s_Strategy_init) (defScope s_Strategy_init) [] [] (He.ma K (He.ga K "Strategy") "__init__") fd := T.t.d.def_ 8 (d := d_Strategy_init) rfl
theorem fun_condition_holds (T : Tx K mg) : ∃ fd, FunD K "condition_holds" "condition_holds" (defArgs s_condition_holds) (defBody s_condition_holds) (defScope s_condition_holds) [] [] (He.ga K "condition_holds") fd := T.t.d.def_ 9 (d := d_condition_holds) rfl
theorem fun_rule_holds (T : Tx K mg) : ∃ fd, FunD K "rule_holds" "rule_holds" (defArgs s_rule_holds) (defBody s_rule_holds) (defScope s_rule_holds) [] [] (He.ga K "rule_holds") fd := T.t.d.def_ 10 (d := d_rule_holds) rfl
theorem fun_wanted_letting (T : Tx K mg) : ∃ fd, FunD K "wanted_letting" "wanted_letting" (defArgs s_wanted_letting) (defBody s_wanted_letting) (defScope s_wanted_letting) [] [] (He.ga K "wanted_letting") fd := T.t.d.def_ 11 (d := d_wanted_letting) rfl
theorem fun_strategy_letting (T : Tx K mg) : ∃ fd, FunD K "strategy_letting" "strategy_letting" (defArgs s_strategy_letting) (defBody s_strategy_letting) (defScope s_strategy_letting) [] [] (He.ga K "strategy_letting") fd := T.t.d.def_ 12 (d := d_strategy_letting) rfl
theorem fun_sure_behind_kinds (T : Tx K mg) : ∃ fd, FunD K "sure_behind_kinds" "sure_behind_kinds" (defArgs s_sure_behind_kinds) (defBody s_sure_behind_kinds) (defScope s_sure_behind_kinds) [] [] (He.ga K "sure_behind_kinds") fd := T.t.d.def_ 13 (d := d_sure_behind_kinds) rfl
theorem fun_least_by_left (T : Tx K mg) : ∃ fd, FunD K "least_by_left" "least_by_left" (defArgs s_least_by_left) (defBody s_least_by_left) (defScope s_least_by_left) [] [] (He.ga K "least_by_left") fd := T.t.d.def_ 14 (d := d_least_by_left) rfl
theorem fun_worths (T : Tx K mg) : ∃ fd, FunD K "worths" "worths" (defArgs s_worths) (defBody s_worths) (defScope s_worths) [] [] (He.ga K "worths") fd := T.t.d.def_ 15 (d := d_worths) rfl
theorem fun_best_by_level (T : Tx K mg) : ∃ fd, FunD K "best_by_level" "best_by_level" (defArgs s_best_by_level) (defBody s_best_by_level) (defScope s_best_by_level) [] [] (He.ga K "best_by_level") fd := T.t.d.def_ 16 (d := d_best_by_level) rfl
theorem fun_sure_by_level (T : Tx K mg) : ∃ fd, FunD K "sure_by_level" "sure_by_level" (defArgs s_sure_by_level) (defBody s_sure_by_level) (defScope s_sure_by_level) [] [] (He.ga K "sure_by_level") fd := T.t.d.def_ 17 (d := d_sure_by_level) rfl
theorem fun_sure_at_end (T : Tx K mg) : ∃ fd, FunD K "sure_at_end" "sure_at_end" (defArgs s_sure_at_end) (defBody s_sure_at_end) (defScope s_sure_at_end) [] [] (He.ga K "sure_at_end") fd := T.t.d.def_ 18 (d := d_sure_at_end) rfl
theorem fun_all_sure (T : Tx K mg) : ∃ fd, FunD K "all_sure" "all_sure" (defArgs s_all_sure) (defBody s_all_sure) (defScope s_all_sure) [] [] (He.ga K "all_sure") fd := T.t.d.def_ 19 (d := d_all_sure) rfl
theorem fun_best_letting (T : Tx K mg) : ∃ fd, FunD K "best_letting" "best_letting" (defArgs s_best_letting) (defBody s_best_letting) (defScope s_best_letting) [] [] (He.ga K "best_letting") fd := T.t.d.def_ 20 (d := d_best_letting) rfl
theorem fun_best_answer (T : Tx K mg) : ∃ fd, FunD K "best_answer" "best_answer" (defArgs s_best_answer) (defBody s_best_answer) (defScope s_best_answer) [] [] (He.ga K "best_answer") fd := T.t.d.def_ 21 (d := d_best_answer) rfl
theorem fun_strategy_by_level (T : Tx K mg) : ∃ fd, FunD K "strategy_by_level" "strategy_by_level" (defArgs s_strategy_by_level) (defBody s_strategy_by_level) (defScope s_strategy_by_level) [] [] (He.ga K "strategy_by_level") fd := T.t.d.def_ 22 (d := d_strategy_by_level) rfl
theorem fun_strategy_sure (T : Tx K mg) : ∃ fd, FunD K "strategy_sure" "strategy_sure" (defArgs s_strategy_sure) (defBody s_strategy_sure) (defScope s_strategy_sure) [] [] (He.ga K "strategy_sure") fd := T.t.d.def_ 23 (d := d_strategy_sure) rfl
theorem fun_best_if_known (T : Tx K mg) : ∃ fd, FunD K "best_if_known" "best_if_known" (defArgs s_best_if_known) (defBody s_best_if_known) (defScope s_best_if_known) [] [] (He.ga K "best_if_known") fd := T.t.d.def_ 24 (d := d_best_if_known) rfl
theorem fun_Keeper_init (T : Tx K mg) : ∃ fd, FunD K "__init__" "Keeper.__init__" (defArgs s_Keeper_init) (defBody s_Keeper_init) (defScope s_Keeper_init) [] [] (He.ma K (He.ga K "Keeper") "__init__") fd := T.t.d.def_ 25 (d := d_Keeper_init) rfl
theorem fun_Keeper_put_lake (T : Tx K mg) : ∃ fd, FunD K "put_lake" "Keeper.put_lake" (defArgs s_Keeper_put_lake) (defBody s_Keeper_put_lake) (defScope s_Keeper_put_lake) [] [] (He.ma K (He.ga K "Keeper") "put_lake") fd := T.t.d.def_ 26 (d := d_Keeper_put_lake) rfl
theorem fun_Keeper_put_strategy (T : Tx K mg) : ∃ fd, FunD K "put_strategy" "Keeper.put_strategy" (defArgs s_Keeper_put_strategy) (defBody s_Keeper_put_strategy) (defScope s_Keeper_put_strategy) [] [] (He.ma K (He.ga K "Keeper") "put_strategy") fd := T.t.d.def_ 27 (d := d_Keeper_put_strategy) rfl
theorem fun_sure_of (T : Tx K mg) : ∃ fd, FunD K "sure_of" "sure_of" (defArgs s_sure_of) (defBody s_sure_of) (defScope s_sure_of) [] [] (He.ga K "sure_of") fd := T.t.d.def_ 28 (d := d_sure_of) rfl
theorem fun_sure_by_strategy_of (T : Tx K mg) : ∃ fd, FunD K "sure_by_strategy_of" "sure_by_strategy_of" (defArgs s_sure_by_strategy_of) (defBody s_sure_by_strategy_of) (defScope s_sure_by_strategy_of) [] [] (He.ga K "sure_by_strategy_of") fd := T.t.d.def_ 29 (d := d_sure_by_strategy_of) rfl
theorem fun_Course_init (T : Tx K mg) : ∃ fd, FunD K "__init__" "Course.__init__" (defArgs s_Course_init) (defBody s_Course_init) (defScope s_Course_init) [] [] (He.ma K (He.ga K "Course") "__init__") fd := T.t.d.def_ 30 (d := d_Course_init) rfl
theorem fun_Course_pass_season (T : Tx K mg) : ∃ fd, FunD K "pass_season" "Course.pass_season" (defArgs s_Course_pass_season) (defBody s_Course_pass_season) (defScope s_Course_pass_season) [] [] (He.ma K (He.ga K "Course") "pass_season") fd := T.t.d.def_ 31 (d := d_Course_pass_season) rfl
theorem fun_Course_report (T : Tx K mg) : ∃ fd, FunD K "report" "Course.report" (defArgs s_Course_report) (defBody s_Course_report) (defScope s_Course_report) [] [] (He.ma K (He.ga K "Course") "report") fd := T.t.d.def_ 32 (d := d_Course_report) rfl
theorem fun_WrongText_init (T : Tx K mg) : ∃ fd, FunD K "__init__" "WrongText.__init__" (defArgs s_WrongText_init) (defBody s_WrongText_init) (defScope s_WrongText_init) [] [] (He.ma K (He.ga K "WrongText") "__init__") fd := T.t.d.def_ 33 (d := d_WrongText_init) rfl
theorem fun_Piece_init (T : Tx K mg) : ∃ fd, FunD K "__init__" "Piece.__init__" (defArgs s_Piece_init) (defBody s_Piece_init) (defScope s_Piece_init) [] [] (He.ma K (He.ga K "Piece") "__init__") fd := T.t.d.def_ 34 (d := d_Piece_init) rfl
theorem fun_run_end (T : Tx K mg) : ∃ fd, FunD K "run_end" "run_end" (defArgs s_run_end) (defBody s_run_end) (defScope s_run_end) [] [] (He.ga K "run_end") fd := T.t.d.def_ 35 (d := d_run_end) rfl
theorem fun_word_of (T : Tx K mg) : ∃ fd, FunD K "word_of" "word_of" (defArgs s_word_of) (defBody s_word_of) (defScope s_word_of) [] [] (He.ga K "word_of") fd := T.t.d.def_ 36 (d := d_word_of) rfl
theorem fun_number_of (T : Tx K mg) : ∃ fd, FunD K "number_of" "number_of" (defArgs s_number_of) (defBody s_number_of) (defScope s_number_of) [] [] (He.ga K "number_of") fd := T.t.d.def_ 37 (d := d_number_of) rfl
theorem fun_cut (T : Tx K mg) : ∃ fd, FunD K "cut" "cut" (defArgs s_cut) (defBody s_cut) (defScope s_cut) [] [] (He.ga K "cut") fd := T.t.d.def_ 38 (d := d_cut) rfl
theorem fun_Reader_init (T : Tx K mg) : ∃ fd, FunD K "__init__" "Reader.__init__" (defArgs s_Reader_init) (defBody s_Reader_init) (defScope s_Reader_init) [] [] (He.ma K (He.ga K "Reader") "__init__") fd := T.t.d.def_ 39 (d := d_Reader_init) rfl
theorem fun_Reader_ahead (T : Tx K mg) : ∃ fd, FunD K "ahead" "Reader.ahead" (defArgs s_Reader_ahead) (defBody s_Reader_ahead) (defScope s_Reader_ahead) [] [] (He.ma K (He.ga K "Reader") "ahead") fd := T.t.d.def_ 40 (d := d_Reader_ahead) rfl
theorem fun_Reader_here (T : Tx K mg) : ∃ fd, FunD K "here" "Reader.here" (defArgs s_Reader_here) (defBody s_Reader_here) (defScope s_Reader_here) [] [] (He.ma K (He.ga K "Reader") "here") fd := T.t.d.def_ 41 (d := d_Reader_here) rfl
theorem fun_Reader_sees (T : Tx K mg) : ∃ fd, FunD K "sees" "Reader.sees" (defArgs s_Reader_sees) (defBody s_Reader_sees) (defScope s_Reader_sees) [] [] (He.ma K (He.ga K "Reader") "sees") fd := T.t.d.def_ 42 (d := d_Reader_sees) rfl
theorem fun_Reader_take_word (T : Tx K mg) : ∃ fd, FunD K "take_word" "Reader.take_word" (defArgs s_Reader_take_word) (defBody s_Reader_take_word) (defScope s_Reader_take_word) [] [] (He.ma K (He.ga K "Reader") "take_word") fd := T.t.d.def_ 43 (d := d_Reader_take_word) rfl
theorem fun_Reader_take_name (T : Tx K mg) : ∃ fd, FunD K "take_name" "Reader.take_name" (defArgs s_Reader_take_name) (defBody s_Reader_take_name) (defScope s_Reader_take_name) [] [] (He.ma K (He.ga K "Reader") "take_name") fd := T.t.d.def_ 44 (d := d_Reader_take_name) rfl
theorem fun_Reader_take_number (T : Tx K mg) : ∃ fd, FunD K "take_number" "Reader.take_number" (defArgs s_Reader_take_number) (defBody s_Reader_take_number) (defScope s_Reader_take_number) [] [] (He.ma K (He.ga K "Reader") "take_number") fd := T.t.d.def_ 45 (d := d_Reader_take_number) rfl
theorem fun_Reader_take_end (T : Tx K mg) : ∃ fd, FunD K "take_end" "Reader.take_end" (defArgs s_Reader_take_end) (defBody s_Reader_take_end) (defScope s_Reader_take_end) [] [] (He.ma K (He.ga K "Reader") "take_end") fd := T.t.d.def_ 46 (d := d_Reader_take_end) rfl
theorem fun_shown_line (T : Tx K mg) : ∃ fd, FunD K "shown_line" "shown_line" (defArgs s_shown_line) (defBody s_shown_line) (defScope s_shown_line) [] [] (He.ga K "shown_line") fd := T.t.d.def_ 47 (d := d_shown_line) rfl
theorem fun_byte_row (T : Tx K mg) : ∃ fd, FunD K "byte_row" "byte_row" (defArgs s_byte_row) (defBody s_byte_row) (defScope s_byte_row) [] [] (He.ga K "byte_row") fd := T.t.d.def_ 48 (d := d_byte_row) rfl
theorem fun_number_behind (T : Tx K mg) : ∃ fd, FunD K "number_behind" "number_behind" (defArgs s_number_behind) (defBody s_number_behind) (defScope s_number_behind) [] [] (He.ga K "number_behind") fd := T.t.d.def_ 49 (d := d_number_behind) rfl
theorem fun_read_kind_name (T : Tx K mg) : ∃ fd, FunD K "read_kind_name" "read_kind_name" (defArgs s_read_kind_name) (defBody s_read_kind_name) (defScope s_read_kind_name) [] [] (He.ga K "read_kind_name") fd := T.t.d.def_ 50 (d := d_read_kind_name) rfl
theorem fun_read_follows (T : Tx K mg) : ∃ fd, FunD K "read_follows" "read_follows" (defArgs s_read_follows) (defBody s_read_follows) (defScope s_read_follows) [] [] (He.ga K "read_follows") fd := T.t.d.def_ 51 (d := d_read_follows) rfl
theorem fun_kind_numbers (T : Tx K mg) : ∃ fd, FunD K "kind_numbers" "kind_numbers" (defArgs s_kind_numbers) (defBody s_kind_numbers) (defScope s_kind_numbers) [] [] (He.ga K "kind_numbers") fd := T.t.d.def_ 52 (d := d_kind_numbers) rfl
theorem fun_read_kinds (T : Tx K mg) : ∃ fd, FunD K "read_kinds" "read_kinds" (defArgs s_read_kinds) (defBody s_read_kinds) (defScope s_read_kinds) [] [] (He.ga K "read_kinds") fd := T.t.d.def_ 53 (d := d_read_kinds) rfl
theorem fun_read_table (T : Tx K mg) : ∃ fd, FunD K "read_table" "read_table" (defArgs s_read_table) (defBody s_read_table) (defScope s_read_table) [] [] (He.ga K "read_table") fd := T.t.d.def_ 54 (d := d_read_table) rfl
theorem fun_read_tables (T : Tx K mg) : ∃ fd, FunD K "read_tables" "read_tables" (defArgs s_read_tables) (defBody s_read_tables) (defScope s_read_tables) [] [] (He.ga K "read_tables") fd := T.t.d.def_ 55 (d := d_read_tables) rfl
theorem fun_read_lake (T : Tx K mg) : ∃ fd, FunD K "read_lake" "read_lake" (defArgs s_read_lake) (defBody s_read_lake) (defScope s_read_lake) [] [] (He.ga K "read_lake") fd := T.t.d.def_ 56 (d := d_read_lake) rfl
theorem fun_show_lake (T : Tx K mg) : ∃ fd, FunD K "show_lake" "show_lake" (defArgs s_show_lake) (defBody s_show_lake) (defScope s_show_lake) [] [] (He.ga K "show_lake") fd := T.t.d.def_ 57 (d := d_show_lake) rfl
theorem fun_is_season (T : Tx K mg) : ∃ fd, FunD K "is_season" "is_season" (defArgs s_is_season) (defBody s_is_season) (defScope s_is_season) [] [] (He.ga K "is_season") fd := T.t.d.def_ 58 (d := d_is_season) rfl
theorem fun_is_kind (T : Tx K mg) : ∃ fd, FunD K "is_kind" "is_kind" (defArgs s_is_kind) (defBody s_is_kind) (defScope s_is_kind) [] [] (He.ga K "is_kind") fd := T.t.d.def_ 59 (d := d_is_kind) rfl
theorem fun_is_start (T : Tx K mg) : ∃ fd, FunD K "is_start" "is_start" (defArgs s_is_start) (defBody s_is_start) (defScope s_is_start) [] [] (He.ga K "is_start") fd := T.t.d.def_ 60 (d := d_is_start) rfl
theorem fun_is_weather (T : Tx K mg) : ∃ fd, FunD K "is_weather" "is_weather" (defArgs s_is_weather) (defBody s_is_weather) (defScope s_is_weather) [] [] (He.ga K "is_weather") fd := T.t.d.def_ 61 (d := d_is_weather) rfl
theorem fun_weather_refusal (T : Tx K mg) : ∃ fd, FunD K "weather_refusal" "weather_refusal" (defArgs s_weather_refusal) (defBody s_weather_refusal) (defScope s_weather_refusal) [] [] (He.ga K "weather_refusal") fd := T.t.d.def_ 62 (d := d_weather_refusal) rfl
theorem fun_look_at (T : Tx K mg) : ∃ fd, FunD K "look_at" "look_at" (defArgs s_look_at) (defBody s_look_at) (defScope s_look_at) [] [] (He.ga K "look_at") fd := T.t.d.def_ 63 (d := d_look_at) rfl
theorem fun_look_at_table (T : Tx K mg) : ∃ fd, FunD K "look_at_table" "look_at_table" (defArgs s_look_at_table) (defBody s_look_at_table) (defScope s_look_at_table) [] [] (He.ga K "look_at_table") fd := T.t.d.def_ 64 (d := d_look_at_table) rfl
theorem fun_pass_worst (T : Tx K mg) : ∃ fd, FunD K "pass_worst" "pass_worst" (defArgs s_pass_worst) (defBody s_pass_worst) (defScope s_pass_worst) [] [] (He.ga K "pass_worst") fd := T.t.d.def_ 65 (d := d_pass_worst) rfl
theorem fun_pass_by_best (T : Tx K mg) : ∃ fd, FunD K "pass_by_best" "pass_by_best" (defArgs s_pass_by_best) (defBody s_pass_by_best) (defScope s_pass_by_best) [] [] (He.ga K "pass_by_best") fd := T.t.d.def_ 66 (d := d_pass_by_best) rfl
theorem fun_look_at_strategy (T : Tx K mg) : ∃ fd, FunD K "look_at_strategy" "look_at_strategy" (defArgs s_look_at_strategy) (defBody s_look_at_strategy) (defScope s_look_at_strategy) [] [] (He.ga K "look_at_strategy") fd := T.t.d.def_ 67 (d := d_look_at_strategy) rfl
theorem fun_pass_by_strategy (T : Tx K mg) : ∃ fd, FunD K "pass_by_strategy" "pass_by_strategy" (defArgs s_pass_by_strategy) (defBody s_pass_by_strategy) (defScope s_pass_by_strategy) [] [] (He.ga K "pass_by_strategy") fd := T.t.d.def_ 68 (d := d_pass_by_strategy) rfl
theorem fun_look_back (T : Tx K mg) : ∃ fd, FunD K "look_back" "look_back" (defArgs s_look_back) (defBody s_look_back) (defScope s_look_back) [] [] (He.ga K "look_back") fd := T.t.d.def_ 69 (d := d_look_back) rfl
theorem fun_look_at_greater (T : Tx K mg) : ∃ fd, FunD K "look_at_greater" "look_at_greater" (defArgs s_look_at_greater) (defBody s_look_at_greater) (defScope s_look_at_greater) [] [] (He.ga K "look_at_greater") fd := T.t.d.def_ 70 (d := d_look_at_greater) rfl
theorem fun_answer_reckoning (T : Tx K mg) : ∃ fd, FunD K "answer_reckoning" "answer_reckoning" (defArgs s_answer_reckoning) (defBody s_answer_reckoning) (defScope s_answer_reckoning) [] [] (He.ga K "answer_reckoning") fd := T.t.d.def_ 71 (d := d_answer_reckoning) rfl
theorem fun_read_level (T : Tx K mg) : ∃ fd, FunD K "read_level" "read_level" (defArgs s_read_level) (defBody s_read_level) (defScope s_read_level) [] [] (He.ga K "read_level") fd := T.t.d.def_ 72 (d := d_read_level) rfl
theorem fun_read_was (T : Tx K mg) : ∃ fd, FunD K "read_was" "read_was" (defArgs s_read_was) (defBody s_read_was) (defScope s_read_was) [] [] (He.ga K "read_was") fd := T.t.d.def_ 73 (d := d_read_was) rfl
theorem fun_read_season (T : Tx K mg) : ∃ fd, FunD K "read_season" "read_season" (defArgs s_read_season) (defBody s_read_season) (defScope s_read_season) [] [] (He.ga K "read_season") fd := T.t.d.def_ 74 (d := d_read_season) rfl
theorem fun_read_condition (T : Tx K mg) : ∃ fd, FunD K "read_condition" "read_condition" (defArgs s_read_condition) (defBody s_read_condition) (defScope s_read_condition) [] [] (He.ga K "read_condition") fd := T.t.d.def_ 75 (d := d_read_condition) rfl
theorem fun_read_letting (T : Tx K mg) : ∃ fd, FunD K "read_letting" "read_letting" (defArgs s_read_letting) (defBody s_read_letting) (defScope s_read_letting) [] [] (He.ga K "read_letting") fd := T.t.d.def_ 76 (d := d_read_letting) rfl
theorem fun_read_rule (T : Tx K mg) : ∃ fd, FunD K "read_rule" "read_rule" (defArgs s_read_rule) (defBody s_read_rule) (defScope s_read_rule) [] [] (He.ga K "read_rule") fd := T.t.d.def_ 77 (d := d_read_rule) rfl
theorem fun_read_strategy (T : Tx K mg) : ∃ fd, FunD K "read_strategy" "read_strategy" (defArgs s_read_strategy) (defBody s_read_strategy) (defScope s_read_strategy) [] [] (He.ga K "read_strategy") fd := T.t.d.def_ 78 (d := d_read_strategy) rfl
theorem fun_condition_words (T : Tx K mg) : ∃ fd, FunD K "condition_words" "condition_words" (defArgs s_condition_words) (defBody s_condition_words) (defScope s_condition_words) [] [] (He.ga K "condition_words") fd := T.t.d.def_ 79 (d := d_condition_words) rfl
theorem fun_rule_words (T : Tx K mg) : ∃ fd, FunD K "rule_words" "rule_words" (defArgs s_rule_words) (defBody s_rule_words) (defScope s_rule_words) [] [] (He.ga K "rule_words") fd := T.t.d.def_ 80 (d := d_rule_words) rfl
theorem fun_show_strategy (T : Tx K mg) : ∃ fd, FunD K "show_strategy" "show_strategy" (defArgs s_show_strategy) (defBody s_show_strategy) (defScope s_show_strategy) [] [] (He.ga K "show_strategy") fd := T.t.d.def_ 81 (d := d_show_strategy) rfl
theorem fun_is_text (T : Tx K mg) : ∃ fd, FunD K "is_text" "is_text" (defArgs s_is_text) (defBody s_is_text) (defScope s_is_text) [] [] (He.ga K "is_text") fd := T.t.d.def_ 82 (d := d_is_text) rfl
theorem fun_take_lake (T : Tx K mg) : ∃ fd, FunD K "take_lake" "take_lake" (defArgs s_take_lake) (defBody s_take_lake) (defScope s_take_lake) [] [] (He.ga K "take_lake") fd := T.t.d.def_ 83 (d := d_take_lake) rfl
theorem fun_find_wrong (T : Tx K mg) : ∃ fd, FunD K "find_wrong" "find_wrong" (defArgs s_find_wrong) (defBody s_find_wrong) (defScope s_find_wrong) [] [] (He.ga K "find_wrong") fd := T.t.d.def_ 84 (d := d_find_wrong) rfl
theorem fun_take_strategy (T : Tx K mg) : ∃ fd, FunD K "take_strategy" "take_strategy" (defArgs s_take_strategy) (defBody s_take_strategy) (defScope s_take_strategy) [] [] (He.ga K "take_strategy") fd := T.t.d.def_ 85 (d := d_take_strategy) rfl
theorem fun_list_weathers (T : Tx K mg) : ∃ fd, FunD K "list_weathers" "list_weathers" (defArgs s_list_weathers) (defBody s_list_weathers) (defScope s_list_weathers) [] [] (He.ga K "list_weathers") fd := T.t.d.def_ 86 (d := d_list_weathers) rfl
theorem fun_list_counts (T : Tx K mg) : ∃ fd, FunD K "list_counts" "list_counts" (defArgs s_list_counts) (defBody s_list_counts) (defScope s_list_counts) [] [] (He.ga K "list_counts") fd := T.t.d.def_ 87 (d := d_list_counts) rfl
theorem fun_answer_telling (T : Tx K mg) : ∃ fd, FunD K "answer_telling" "answer_telling" (defArgs s_answer_telling) (defBody s_answer_telling) (defScope s_answer_telling) [] [] (He.ga K "answer_telling") fd := T.t.d.def_ 88 (d := d_answer_telling) rfl
theorem fun_answer_call (T : Tx K mg) : ∃ fd, FunD K "answer_call" "answer_call" (defArgs s_answer_call) (defBody s_answer_call) (defScope s_answer_call) [] [] (He.ga K "answer_call") fd := T.t.d.def_ 89 (d := d_answer_call) rfl
theorem fun_answers (T : Tx K mg) : ∃ fd, FunD K "answers" "answers" (defArgs s_answers) (defBody s_answers) (defScope s_answers) [] [] (He.ga K "answers") fd := T.t.d.def_ 90 (d := d_answers) rfl
theorem more (T : Tx K mg) : moreB K = true := T.t.m
end Tx
end Sl
namespace Sl
open PySem PySem.Spec PyProof.Rows L2
/-! ### arguments: no item is starred -/
def plainE : Expr → Bool
  | .Starred _ _ => false
  | _ => true
theorem star_one {e : Expr} {es : List Expr} {env : Env} (h : plainE e = true) : starEach (e :: es) env = (false, eval e env) :: starEach es env := by
  cases e <;> first | rfl | cases h
theorem pa_c {X : Cx} {e : Expr} {es : List Expr} {te : TE} {t : TA} (a : PE X e te) (b : PA X es t) (h : plainE e = true := by rfl) : PA X (e :: es) (tCons te t) := pa_cons a b (star_one h)
def plainEs : List Expr → Bool
  | [] => true
  | e :: r => plainE e && plainEs r
theorem star_any {pos : Pos} {env : Env} : ∀ {es : List Expr}, plainEs es = true → (backTo pos (starEach es env)).any (·.1) = false
  | [], _ => rfl
  | e :: r, h => by
    obtain ⟨h1, h2⟩ := Bool.and_eq_true_iff.mp (show (plainE e && plainEs r) = true from h)
    rw [star_one h1]
    show (false || (backTo pos (starEach r env)).any (·.1)) = false
    rw [star_any h2] <;> rfl
theorem pe_fldK {X : Cx} {K : PySem.W.Frag} {e : Expr} {f : Str} {pos : Pos} {ta : TE} (hK : X.K = K) (he : PE X e ta) (hb : attributeBase e f X.env (eval e X.env) = eval e X.env) : PE X (.Attribute e f pos) (tFld K ta f) := by
  subst hK
  exact pe_fld he hb
/-! ### a def, a method, a class, ready to be called -/
structure Fn (P : Program) (w : World) (K : PySem.W.Frag) (mg : Str → Option Value) (base : Heap) (k : Nat) (f : Addr) (ps : List Str) (sp : Sp) : Prop where
  ex : ∃ fd, FnOk P w K mg base (L2.CX P w) k f fd ps sp ∧ Binds K fd ps []
  kp : PySem.W.keepIn K (.ref f) = true
theorem fn_mk {P : Program} {w : World} {K : PySem.W.Frag} {mg : Str → Option Value} {base : Heap} {x qual : Str} {params : Arguments} {body : List Stmt} {scope : Scope} {f : Addr} {N ps : List Str} {k : Nat} {sp : Sp}
    (F : ∃ fd, FunD K x qual params body scope [] [] f fd) (S : FnScope N ps scope)
    (bnd : ∀ (kV doc pm : Value) (an : Option Addr) (cdv ct : Value) (us : List Value), us.length = ps.length → bindArgs (PySem.W.fnOf x qual params body scope .none kV doc pm an cdv ct) ⟨us, []⟩ = pure (ps.zip us))
    (len : ∀ vs H Q E, sp vs H Q E → vs.length = ps.length)
    (hbody : ∀ (cdv : Value) (A : Around) (outer : List Env) (s : Shared) (H : Hp) (vs : List V) (Q : VK) (E : XK), Room k (A.deeper (envOfC qual scope s.heap.objs.size f cdv)) → sp vs H Q E →
      ∃ t, PSs (cxOf (L2.CX P w) P w K mg base N qual scope f cdv A outer s H E) body t ∧ t { nx := fun _ H' => Q .non H', rt := Q } (start N vs) H) : Fn P w K mg base (k + 1) f ps sp := by
  obtain ⟨fd, F⟩ := F
  exact ⟨⟨fd, F.ok S len hbody, F.bindsN bnd⟩, F.kp⟩
section
variable {X : Cx} {k j : Nat} {f C : Addr} {ps : List Str} {sp : Sp} {E : XK} {EW : L2.St → XK} {x m : Str} {p pos apos : Pos} {e o : Expr} {es : List Expr} {ta : TE} {t : TA}
/-- f(e, ..) -/
theorem pe_f (F : Fn X.prog X.w X.K X.mg X.base k f ps sp) (hr : Room j X.A) (hj : k ≤ j) (hm : X.mg x = some (.ref f)) (hx : Passes (L2.CX X.prog X.w) X E) (ha : PA X (e :: es) t)
    (hg : Gl X x := by rfl) (hdb : (x == ("__debug__" : Str)) = false := by decide) (hp : plainE e = true := by rfl) (hps : plainEs es = true := by rfl) : PE X (.Call (.Name x p) (e :: es) [] pos) (tCall sp [] E t) := by
  obtain ⟨⟨fd, G, b⟩, hk⟩ := F
  exact pe_call G (hr.mono hj) hg hm hk b .nil hx ha hdb (star_one hp) (star_any hps)
/-- f(e, ..) within a try -/
theorem pe_fS (F : Fn X.prog X.w X.K X.mg X.base k f ps sp) (hr : Room j X.A) (hj : k ≤ j) (hm : X.mg x = some (.ref f)) (hx : ∀ σ, PassesAt (L2.CX X.prog X.w) X σ (EW σ)) (ha : PA X (e :: es) t)
    (hg : Gl X x := by rfl) (hdb : (x == ("__debug__" : Str)) = false := by decide) (hp : plainE e = true := by rfl) (hps : plainEs es = true := by rfl) : PE X (.Call (.Name x p) (e :: es) [] pos) (tCallS sp EW t) := by
  obtain ⟨⟨fd, G, b⟩, hk⟩ := F
  exact pe_callS G (hr.mono hj) hg hm hk b hx ha hdb (star_one hp) (star_any hps)
/-- o.m(e, ..) -/
theorem pe_m {pl : Sem Bool} (F : Fn X.prog X.w X.K X.mg X.base k f ps sp) (hr : Room j X.A) (hj : k ≤ j) (ho : PE X o ta) (c : Cls X.K C) (hm : Meth X.K C m f) (hx : Passes (L2.CX X.prog X.w) X E) (ha : PA X (e :: es) t)
    (hp : plainE e = true := by rfl) (hps : plainEs es = true := by rfl)
    (ht : eval (.Call (.Attribute o m apos) (e :: es) [] pos) X.env = (do
      let ov ← eval o X.env
      standAt apos.atName
      let (g, first) ← holding [ov] (getMethod ov m pl)
      callWith pos g first (backTo pos (starEach (e :: es) X.env)) (backToKw pos (keywordEach [] X.env))) := by rfl) : PE X (.Call (.Attribute o m apos) (e :: es) [] pos) (tMeth C m sp [] E ta t) := by
  obtain ⟨⟨fd, G, b⟩, hk⟩ := F
  exact pe_meth ho c hm G (hr.mono hj) b .nil hx ha (star_one hp) (star_any hps) ht
/-- o.m() -/
theorem pe_m0 {pl : Sem Bool} (F : Fn X.prog X.w X.K X.mg X.base k f ps sp) (hr : Room j X.A) (hj : k ≤ j) (ho : PE X o ta) (c : Cls X.K C) (hm : Meth X.K C m f) (hx : Passes (L2.CX X.prog X.w) X E)
    (ht : eval (.Call (.Attribute o m apos) [] [] pos) X.env = (do
      let ov ← eval o X.env
      standAt apos.atName
      let (g, first) ← holding [ov] (getMethod ov m pl)
      callWith pos g first (backTo pos (starEach [] X.env)) (backToKw pos (keywordEach [] X.env))) := by rfl) : PE X (.Call (.Attribute o m apos) [] [] pos) (tMeth C m sp [] E ta tNil) := by
  obtain ⟨⟨fd, G, b⟩, hk⟩ := F
  exact pe_meth0 ho c hm G (hr.mono hj) b .nil hx ht
/-- C(e, ..), C() -/
theorem pe_k (F : Fn X.prog X.w X.K X.mg X.base k f ps sp) (hr : Room j X.A) (hj : k + 1 ≤ j) (M : Mk X.K C f) (hm : X.mg x = some (.ref C)) (hx : Passes (L2.CX X.prog X.w) X E) (ha : PA X (e :: es) t)
    (hg : Gl X x := by rfl) (hdb : (x == ("__debug__" : Str)) = false := by decide) (hp : plainE e = true := by rfl) (hps : plainEs es = true := by rfl) : PE X (.Call (.Name x p) (e :: es) [] pos) (tMake C sp [] E t) := by
  obtain ⟨⟨fd, G, b⟩, hk⟩ := F
  exact pe_make M G (hr.mono hj) hg hm b .nil hx ha hdb (star_one hp) (star_any hps)
theorem pe_k0 (F : Fn X.prog X.w X.K X.mg X.base k f ps sp) (hr : Room j X.A) (hj : k + 1 ≤ j) (M : Mk X.K C f) (hm : X.mg x = some (.ref C)) (hx : Passes (L2.CX X.prog X.w) X E)
    (hg : Gl X x := by rfl) (hdb : (x == ("__debug__" : Str)) = false := by decide) : PE X (.Call (.Name x p) [] [] pos) (tMake C sp [] E tNil) := by
  obtain ⟨⟨fd, G, b⟩, hk⟩ := F
  exact pe_make0 M G (hr.mono hj) hg hm b .nil hx hdb
end
/-! ### the own error: an exception over Exception whose __init__ is a def of the text -/
structure OxC (K : PySem.W.Frag) (C : Addr) : Prop where
  cls : ∃ nm q N bs sn sub ab col dd k0 k1 k2 k3 k5, K.lookup C = some (excClassObj nm q C N bs PySem.ESX.exTail true sn sub ab col dd k0 k1 k2 k3 k5 "Exception.__new__")
  sa : PySem.W.findIn K (.ref C) "__setattr__" = some (some (.builtin "object.__setattr__"))
  exC : PySem.W.subIn K (.ref C) (.type "BaseException") = some true
  tyC : PySem.W.typeIn K (.ref C) = some (.type "type")
  kC : PySem.W.keepIn K (.ref C) = true
section
variable {X : Cx} {pins : List (Addr × Obj)} {σ : L2.St} {H : Hp} {s : Shared} {a C dx : Addr} {f : Str} {y : V} {u : Value} {fs : List (Str × V)} {Q : Unit → Shared → Prop} {E : Value → Shared → Prop} {A : Around}
theorem xst_new (T : OxC X.K C) (I : Inv X pins σ H s) (e : H a = some (exo a C none)) (hno : PySem.W.findIn X.K (.ref C) f = some none) (ry : RelV y u)
    (h : ∀ d1 s', H d1 = none → d1 ≠ a → Inv X pins σ (upd (upd H d1 (exd d1 [(f, y)])) a (exo a C (some d1))) s' → Q () s') : wpAny (model X.prog X.w) A (setAttr (.ref a) f u) Q E s := by
  obtain ⟨nm, qn, nsA, bs, sn, sub, ab, col, dd, k0, k1, k2, k3, k5, lC⟩ := T.cls
  have cIn : PySem.W.clsIn X.K C = some { name := nm, bases := bs, mro := .ref C :: PySem.ESX.exTail, ns := nsA, qualname := qn, hasDict := true, slotNames := sn, subclasses := sub, abstract := ab, collection := col, hasDel := false } := by
    unfold PySem.W.clsIn
    rw [lC] <;> rfl
  obtain ⟨t1, oe⟩ := exo_at I.hok e
  obtain ⟨hp, g, d, t, os⟩ := s
  refine PySem.W.set_plain I.kIn (ox := { cls := .ref C, dict := none, data := .fields #[.ref t1, .none, .none, .none, .bool false, .none] }) (od := none) ⟨oe, rfl, rfl, trivial⟩ T.sa ?_
  refine PySem.ESX.osa_new I.kIn oe cIn rfl rfl hno fun h' tk' d1 kk big dne hx hn => ?_
  have free : H d1 = none := I.hok.fresh big
  have apart : ∀ {b : Addr} {o : Obj}, hp.get? b = some o → b ≠ d1 := fun {b o} q => Nat.ne_of_lt (Nat.lt_of_lt_of_le (Heap.lt_size q) big)
  have off : ∀ {b : Addr}, H b = none → b ≠ a := fun {b} n z => by
    rw [z, e] at n
    cases n
  have U : Un X.fs [] H (upd (upd H d1 (exd d1 [(f, y)])) a (exo a C (some d1))) hp h' :=
    ⟨fun b o q n _ _ => kk b o (off n) q, fun b o q n _ _ => ⟨o.slots, kk b o (off n) q⟩,
     fun b o q n _ => by rw [upd_ne (off n), upd_ne (apart q)]; exact n,
     fun b o q _ => by
      by_cases hb : b = a
      · exact ⟨_, by rw [hb]; exact hx⟩
      · exact ⟨o, kk b o hb q⟩,
     fun b xs q => by rw [upd_ne (at_ne e q exo_tup), upd_ne (ne_of_none q free)]; exact q,
     fun b o v q => by rw [upd_ne (at_ne e q exo_frz), upd_ne (ne_of_none q free)]; exact q,
     fun b ps q => ⟨#[], by rw [upd_ne (at_ne e q exo_tbl), upd_ne (ne_of_none q free), q]; simp⟩⟩
  refine h d1 _ free dne (I.un (t' := tk') U fun b o q => ?_)
  by_cases hb : b = a
  · subst hb
    rw [upd_same] at q
    cases q
    exact exo_ok hx
  · rw [upd_ne hb] at q
    by_cases hd : b = d1
    · subst hd
      rw [upd_same] at q
      cases q
      exact exd_ok hn (relO_put (fs := []) ry fun _ => True.intro)
    · rw [upd_ne hd] at q
      refine (I.hok b o q).stay (fun c v hc z => kk c v ?_ z) (fun c hc => ?_) fun c xs hc => ?_
      · rcases hc with hc | hc
        · rw [hc]
          exact hb
        · exact at_ne e hc exo_own
      · rw [upd_ne (at_ne e hc exo_own), upd_ne (ne_of_none hc free)]
        exact hc
      · rw [upd_ne (at_ne e hc exo_tup), upd_ne (ne_of_none hc free)]
        exact hc
theorem xst_old (T : OxC X.K C) (I : Inv X pins σ H s) (e : H a = some (exo a C (some dx))) (ed : H dx = some (exd dx fs)) (few : fs.length ≤ 900) (hno : PySem.W.findIn X.K (.ref C) f = some none) (ry : RelV y u)
    (h : ∀ s', Inv X pins σ (upd H dx (exd dx ((f, y) :: fs))) s' → Q () s') : wpAny (model X.prog X.w) A (setAttr (.ref a) f u) Q E s := by
  obtain ⟨nm, qn, nsA, bs, sn, sub, ab, col, dd, k0, k1, k2, k3, k5, lC⟩ := T.cls
  have cIn : PySem.W.clsIn X.K C = some { name := nm, bases := bs, mro := .ref C :: PySem.ESX.exTail, ns := nsA, qualname := qn, hasDict := true, slotNames := sn, subclasses := sub, abstract := ab, collection := col, hasDel := false } := by
    unfold PySem.W.clsIn
    rw [lC] <;> rfl
  obtain ⟨t1, oe⟩ := exo_at I.hok e
  obtain ⟨mA, nsd, rel⟩ := exd_at I.hok ed
  have wi := within_of rel
  obtain ⟨hp, g, d, t, os⟩ := s
  obtain ⟨oD, _, _, hoD, _, _⟩ := nsd.count wi
  refine PySem.W.set_plain I.kIn (ox := { cls := .ref C, dict := some dx, data := .fields #[.ref t1, .none, .none, .none, .bool false, .none] }) (od := some oD) ⟨oe, rfl, rfl, hoD⟩ T.sa ?_
  refine PySem.ESX.osa_old I.kIn oe nsd wi (by rw [List.length_map]; omega) cIn rfl rfl hno fun h' tk' kk hn => ?_
  have there : ∃ o, h'.get? dx = some o := by
    obtain ⟨o, _, _, e', _⟩ := hn
    exact ⟨o, e'⟩
  exact h _ (I.write (t' := tk') (x := dx) (e := dx) (o := exd dx ((f, y) :: fs)) (by rw [ed]; exact True.intro) (.inl rfl) kk there (exd_ok hn (relO_put ry rel)))
/-- Exception.__init__(self, ..): nothing of it is told -/
theorem xinit_ok {us : List Value} {R : Value → Shared → Prop} (T : OxC X.K C) (I : Inv X pins σ H s) (e : H a = some (exo a C none)) (hl : us.length ≤ sizeLine) (h : ∀ s', Inv X pins σ H s' → R .none s') :
    wpAny (model X.prog X.w) A (call (.builtin "Exception.__init__") (.ref a :: us)) R E s := by
  obtain ⟨nm, qn, nsA, bs, sn, sub, ab, col, dd, k0, k1, k2, k3, k5, lC⟩ := T.cls
  obtain ⟨t1, oe⟩ := exo_at I.hok e
  obtain ⟨hp, g, d, t, os⟩ := s
  refine wpAny_call (PySem.HandSPX.init_base F.excBase_Exception (fun _ => rfl) (I.kIn _ _ lC) oe hl fun h' t2 kk hx => ?_)
  have J := I.write (t' := t) (x := a) (e := a) (o := exo a C none) (by rw [e]; exact True.intro) (.inl rfl) kk ⟨_, hx⟩ (exo_ok hx)
  have same : upd H a (exo a C none) = H := by
    funext b
    by_cases hb : b = a
    · rw [hb, upd_same, e]
    · rw [upd_ne hb]
  rw [same] at J
  exact h _ J
end
/-- Exception.__init__(self, ..) -/
def tExI (K : PySem.W.Frag) (ta : TA) : TE := fun σ H Q => ta σ H fun vs H1 => ∃ (a C : Addr) (ws : List V), vs = .ref a :: ws ∧ ws.length ≤ 1000 ∧ OxC K C ∧ H1 a = some (exo a C none) ∧ Q .non H1
/-- self.f = e of such an error -/
def tXst (K : PySem.W.Frag) (f : Str) (to te : TE) : TS := fun D σ H => te σ H fun y H1 => to σ H1 fun x H2 => ∃ a C : Addr, x = .ref a ∧ OxC K C ∧ PySem.W.findIn K (.ref C) f = some none ∧
  ((H2 a = some (exo a C none) ∧ ∀ d1, H2 d1 = none → d1 ≠ a → D.nx σ (upd (upd H2 d1 (exd d1 [(f, y)])) a (exo a C (some d1)))) ∨
    ∃ (d1 : Addr) (fs : List (Str × V)), H2 a = some (exo a C (some d1)) ∧ H2 d1 = some (exd d1 fs) ∧ fs.length ≤ 900 ∧ D.nx σ (upd H2 d1 (exd d1 ((f, y) :: fs))))
theorem typ_E : typeOf (.type "Exception") = pure (.type "type") := by kernel_rfl
section
variable {X : Cx} {o e : Expr} {es : List Expr} {to te : TE} {ta : TA} {f : Str} {p p' p1 p2 pos : Pos}
theorem pe_exi {pl : Sem Bool} (hm : X.mg "Exception" = none) (ha : PA X (e :: es) ta) (hg : Gl X "Exception" := by rfl)
    (vV : PySem.W.findCls X.K (.type "Exception") (.type "type") "__init__" = some (.val (.builtin "Exception.__init__")) := by kernel_rfl)
    (hc : eval (.Call (.Attribute (.Name "Exception" p1) "__init__" p2) (e :: es) [] pos) X.env = (do
      let ov ← eval (.Name "Exception" p1) X.env
      standAt p2.atName
      let (g, first) ← holding [ov] (getMethod ov "__init__" pl)
      callWith pos g first (backTo pos (starEach (e :: es) X.env)) (backToKw pos (keywordEach [] X.env))) := by rfl)
    (hp : plainE e = true := by rfl) (hps : plainEs es = true := by rfl) :
    PE X (.Call (.Attribute (.Name "Exception" p1) "__init__" p2) (e :: es) [] pos) (tExI X.K ta) := by
  refine ⟨fun pins s σ H Q I h => ?_⟩
  refine PySem.W.methodCall_KW (ld_blt I hg hm PyProof.Rows.Boot.«Exception» ?_ (by decide) (by decide)) hc
  obtain ⟨m, fr⟩ := I.fr
  refine PySem.W.method_type fr I.ok.mod.kin typ_E (by decide +kernel) vV (by decide +kernel) ?_
  show wpAny _ _ (callWith pos (Value.builtin "Exception.__init__") [] (backTo pos (starEach (e :: es) X.env)) []) _ _ _
  refine PyProof.Rows.callWith_method1 (thn (ha.run pos pins _ σ H _ (I.tok _) h) fun us s1 hh => ?_) (star_one hp) (star_any hps)
  obtain ⟨vs, H1, I1, r1, a, C, ws, ev, hl, T, ea, q⟩ := hh
  subst ev
  cases r1 with
  | @cons _ u0 _ ur ra rs =>
    obtain rfl : u0 = Value.ref a := ra
    have few : ur.length ≤ sizeLine := by
      rw [← Paired.length rs, sizeLine_eq]
      omega
    exact xinit_ok T I1 ea few fun s' J => ⟨.non, H1, J, rfl, q⟩
theorem ps_xst (ho : PE X o to) (he : PE X e te) (hs : swapsWith e (some (.Attribute o f p')) pos.line X.env = pure false := by rfl) : PS X (.Assign [.Attribute o f p'] e pos) (tXst X.K f to te) := by
  refine ⟨fun pins s σ H D I h => ?_⟩
  refine plainObj_wpAny_Assign_Attribute (thn (he.run pins s σ H _ I h) fun v s1 hv => ?_) hs
  obtain ⟨y, H1, I1, r1, q1⟩ := hv
  refine thn (ho.run pins s1 σ H1 _ I1 q1) fun u s2 hu => ?_
  obtain ⟨x, H2, I2, r2, a, C, ex, T, hno, q⟩ := hu
  subst ex
  obtain rfl : u = Value.ref a := r2
  rcases q with ⟨ea, q⟩ | ⟨d1, fs, ea, ed, few, q⟩
  · exact xst_new T I2 ea hno r1 fun d1 s' n ne J => ⟨σ, _, J, q d1 n ne⟩
  · exact xst_old T I2 ea ed few hno r1 fun s' J => ⟨σ, _, J, q⟩
/-- C(e, ..) of such a class -/
theorem pmk_x {x : Str} {C fI : Addr} {k j : Nat} {ps : List Str} {sp : Sp} (T : OxC X.K C) (iC : PySem.W.findIn X.K (.ref C) "__init__" = some (some (.ref fI))) (tI : PySem.W.typeIn X.K (.ref fI) = some (.type "function"))
    (G : Fn X.prog X.w X.K X.mg X.base k fI ps sp) (hr : Room j X.A) (hj : k + 1 ≤ j) (hx : Passes (L2.CX X.prog X.w) X E0) (hg : Gl X x) (hm : X.mg x = some (.ref C)) (ha : PA X (e :: es) ta)
    (hdb : (x == ("__debug__" : Str)) = false := by decide) (hp : plainE e = true := by rfl) (hps : plainEs es = true := by rfl) :
    PMk X (.Call (.Name x p) (e :: es) [] pos) (tMkO C sp [] ta) := by
  intro pins s σ H Q I h
  obtain ⟨⟨fd, F1, hb⟩, _⟩ := G
  obtain ⟨nm, qn, nsA, bs, sn, sub, ab, col, dd, k0, k1, k2, k3, k5, lC⟩ := T.cls
  refine wpAny_Call_Name_kw (ld_glob I hg hm ?_ hdb)
  refine PySem.W.callWith_K (h₀ := X.base) I.ok.mod.kin T.kC (thn (ha.run pos pins s σ H _ I h) fun us s1 hh => ?_) (star_one hp) (star_any hps)
  obtain ⟨vs, H1, I1, r1, hz, q1⟩ := hh
  refine ⟨I1.kIn, ?_⟩
  show wpAny _ _ (call (.ref C) us) _ _ _
  obtain ⟨hp, g, dr, tk, os⟩ := s1
  have big : hp.objs.size ≤ hp.objs.size + 1 := Nat.le_succ _
  have hq := q1 (hp.objs.size + 1) (I1.hok.fresh big)
  have kk : ∀ b o, hp.get? b = some o → ((hp.push (PySem.W.kdv_tup us)).push (PySem.HandSPX.excO C hp.objs.size)).get? b = some o := fun b o z => Heap.get?_push_of_some _ (Heap.get?_push_of_some _ z)
  have new : ((hp.push (PySem.W.kdv_tup us)).push (PySem.HandSPX.excO C hp.objs.size)).get? (hp.objs.size + 1) = some (PySem.HandSPX.excO C hp.objs.size) := by heap_get
  have I2 : Inv X pins σ (upd H1 (hp.objs.size + 1) (exo (hp.objs.size + 1) C none)) (Shared.mk ((hp.push (PySem.W.kdv_tup us)).push (PySem.HandSPX.excO C hp.objs.size)) g dr tk os) := I1.laid (t' := tk) (a := hp.objs.size + 1) (o := exo (hp.objs.size + 1) C none) (h' := (hp.push (PySem.W.kdv_tup us)).push (PySem.HandSPX.excO C hp.objs.size)) kk big (exo_ok new)
  have r2 : Vals (V.ref (hp.objs.size + 1) :: (vs ++ [])) (Value.ref (hp.objs.size + 1) :: (us ++ [])) := .cons rfl (r1.append .nil)
  have hl : ((Value.ref (hp.objs.size + 1) :: us) ++ []).length = ps.length := by
    have z := r2.length
    rw [F1.len _ _ _ _ hq] at z
    exact z.symm
  have few : us.length ≤ sizeLine := by
    rw [← Paired.length r1, sizeLine_eq]
    omega
  have hr1 : Room (k + 1) X.A := hr.mono hj
  have bind : BindsTo (Shared.mk ((hp.push (PySem.W.kdv_tup us)).push (PySem.HandSPX.excO C hp.objs.size)) g dr tk os) fd ⟨Value.ref (hp.objs.size + 1) :: us, []⟩ (ps.zip (Value.ref (hp.objs.size + 1) :: (us ++ []))) := by
    have z := hb _ (Value.ref (hp.objs.size + 1) :: us) I2.kIn hl
    rw [List.append_nil] at z ⊢
    exact z
  refine wpAny_call (PySem.HandSPX.call_own F.excBase_Exception (fun _ => rfl) (I1.kIn _ _ lC) (PySem.W.looks_findIn I1.kIn iC) (fun self => PySem.W.bind_fn I1.kIn self tI) few
    (codeAny_mono (F1.run _ X.stack _ _ ⟨Value.ref (hp.objs.size + 1) :: us, []⟩ (Value.ref (hp.objs.size + 1) :: (us ++ [])) _ _ E0 (hr1.make C us []) (I2.env0.make C us []) bind r2 hq) fun r s' hq' => ?_))
  cases r with
  | error er => exact hx pins σ _ _ er s' I2 hq'
  | ok fl =>
    cases fl with
    | next => exact False.elim hq'
    | brk => exact False.elim hq'
    | cont => exact False.elim hq'
    | ret u =>
      obtain ⟨v, H2, os2, bare2, un2, hok2, rv, ev, d, fs, ea, ed, hd1, q2⟩ := hq'
      subst ev
      obtain ⟨h2, g2, d2, t2, os'⟩ := s'
      exact ⟨rv, mk_end (raises_own T.exC T.tyC) I1 big kk un2 hok2 os2 bare2 ea ed hd1 q2⟩
end
end Sl
namespace Sl
open PySem PySem.Spec PyProof.Rows L2
open Evl (Ex)
/-! ### more of what the top has written -/
theorem wt_of {K : PySem.W.Frag} (h : wtB K = true) : ∃ nm q N bs sn sub ab col dd k0 k1 k2 k3 k5, K.lookup (He.ga K "WrongText") = some (excClassObj nm q (He.ga K "WrongText") N bs PySem.ESX.exTail true sn sub ab col dd k0 k1 k2 k3 k5 "Exception.__new__") := by
  unfold wtB at h
  split at h
  · rename_i dd cd sl ho
    split at h
    · rename_i c bm k0 k1 k2 k3 n k5 hm hs
      simp only [Bool.and_eq_true, beq_iff_eq, Bool.not_eq_true'] at h
      obtain ⟨rfl, rfl, hdel, hdct, rfl⟩ := h
      obtain ⟨nm, bs, mro, ns, qn, hd, sn, sub, ab, col, del⟩ := cd
      dsimp only at hm hdel hdct
      subst hm hdel hdct
      have hsl : sl = #[k0, k1, k2, k3, some (.builtin "Exception.__new__"), k5] := by
        obtain ⟨l⟩ := sl
        simp only at hs
        rw [hs]
      subst hsl
      exact ⟨nm, qn, ns, bs, sn, sub, ab, col, dd, k0, k1, k2, k3, k5, ho⟩
    · cases h
  · cases h
namespace Tx
variable {K : PySem.W.Frag} {mg : Str → Option Value}
theorem wtf (T : Tx K mg) : wtF K = true := (He.ba (He.ba T.t.m).2).1
theorem oxc (T : Tx K mg) : OxC K (He.ga K "WrongText") := by
  have h := T.wtf
  unfold wtF at h
  simp only [Bool.and_eq_true, decide_eq_true_eq] at h
  exact ⟨wt_of (He.ba T.t.m).1, He.eqO_ok h.1, h.2.2.2.1, h.2.2.2.2.1, T.keep_WrongText⟩
theorem ini_WrongText (T : Tx K mg) : PySem.W.findIn K (.ref (He.ga K "WrongText")) "__init__" = some (some (.ref (He.ma K (He.ga K "WrongText") "__init__"))) := by
  have h := T.wtf
  unfold wtF at h
  simp only [Bool.and_eq_true, decide_eq_true_eq] at h
  exact He.eqO_ok h.2.1
theorem ity_WrongText (T : Tx K mg) : PySem.W.typeIn K (.ref (He.ma K (He.ga K "WrongText") "__init__")) = some (.type "function") := by
  have h := T.wtf
  unfold wtF at h
  simp only [Bool.and_eq_true, decide_eq_true_eq] at h
  exact h.2.2.1
theorem xfc (T : Tx K mg) : XfC K (He.ga K "WrongText") := by
  have h := T.wtf
  unfold wtF at h
  simp only [Bool.and_eq_true, decide_eq_true_eq] at h
  exact xfB_ok h.2.2.2.2.2.2.2
theorem f_kind (T : Tx K mg) : PySem.W.findIn K (.ref (He.ga K "WrongText")) "kind" = some none := by
  have h := T.wtf
  unfold wtF at h
  simp only [Bool.and_eq_true, decide_eq_true_eq] at h
  exact He.eqO_ok h.2.2.2.2.2.1
theorem f_place (T : Tx K mg) : PySem.W.findIn K (.ref (He.ga K "WrongText")) "place" = some none := by
  have h := T.wtf
  unfold wtF at h
  simp only [Bool.and_eq_true, decide_eq_true_eq] at h
  exact He.eqO_ok h.2.2.2.2.2.2.1
end Tx
/-! ### looking fields up -/
theorem lk1 {k : Str} {v : V} {r : List (Str × V)} : List.lookup k ((k, v) :: r) = some v := by
  have e : (k == k) = true := beq_self_eq_true k
  simp only [List.lookup, e]
theorem lk2 {k g : Str} {v : V} {r : List (Str × V)} (h : (k == g) = false) : List.lookup k ((g, v) :: r) = List.lookup k r := by
  simp only [List.lookup, h]
theorem pf0 {f : Str} {v : V} : putF f v [] = [(f, v)] := rfl
theorem pf1 {f : Str} {v x : V} {r : List (Str × V)} : putF f v ((f, x) :: r) = (f, v) :: r := if_pos rfl
theorem pf2 {f g : Str} {v x : V} {r : List (Str × V)} (h : (g == f) = false) : putF f v ((g, x) :: r) = (g, x) :: putF f v r := if_neg (by intro e; subst e; simp at h)
/-! ### a new instance of a class whose __init__ stores its arguments -/
def spInit (C : Addr) (fs : List Str) : Sp := fun vs H Q _ => ∃ (p dx : Addr) (ws : List V), vs = .ref p :: ws ∧ ws.length = fs.length ∧ H p = some (.ins C dx []) ∧ Q .non (upd H p (.ins C dx (fs.zip ws)))
theorem len_init {C : Addr} {fs ps : List Str} (hl : ps.length = fs.length + 1) {vs : List V} {H : Hp} {Q : VK} {E : XK} (h : spInit C fs vs H Q E) : vs.length = ps.length := by
  obtain ⟨p, dx, ws, rfl, hw, _⟩ := h
  rw [hl, ← hw]
  rfl
section
variable {P : Program} {w : World} {K : PySem.W.Frag} {mg : Str → Option Value} {base : Heap}
end
end Sl
namespace Sm
open Vbirak
/-! ### the first least, the first greatest -/
theorem fl_some (f : Nat → Nat) : ∀ (ks : List Nat), ks ≠ [] → ∃ y, firstLeast f ks = some y
  | [], h => absurd rfl h
  | k :: r, _ => by
    unfold firstLeast
    split
    · exact ⟨_, rfl⟩
    · split <;> exact ⟨_, rfl⟩
theorem fl_spec (f : Nat → Nat) : ∀ (ks : List Nat) (y : Nat × Nat), firstLeast f ks = some y → y.2 = f y.1 ∧ ∃ j, ks[j]? = some y.1 ∧ (∀ (i k : Nat), ks[i]? = some k → y.2 ≤ f k) ∧ ∀ (i k : Nat), i < j → ks[i]? = some k → y.2 < f k
  | [], y, h => by cases h
  | k :: r, y, h => by
    unfold firstLeast at h
    split at h
    · rename_i e
      cases h
      cases r with
      | nil => exact ⟨rfl, 0, rfl, fun i k' hk => by cases i with | zero => (cases hk; exact Nat.le_refl _) | succ i => simp at hk, fun i k' hi _ => absurd hi (Nat.not_lt_zero _)⟩
      | cons a l =>
        obtain ⟨z, hz⟩ := fl_some f (a :: l) (by simp)
        rw [hz] at e
        cases e
    · rename_i z hz
      obtain ⟨h1, j, h2, h3, h4⟩ := fl_spec f r z hz
      split at h
      · rename_i lt
        cases h
        refine ⟨h1, j + 1, by simpa using h2, fun i k' hk => ?_, fun i k' hi hk => ?_⟩
        · cases i with
          | zero =>
            have e : k = k' := Option.some.inj hk
            subst e
            exact Nat.le_of_lt lt
          | succ i => exact h3 i k' (by simpa using hk)
        · cases i with
          | zero =>
            have e : k = k' := Option.some.inj hk
            subst e
            exact lt
          | succ i => exact h4 i k' (by omega) (by simpa using hk)
      · rename_i ge
        cases h
        refine ⟨rfl, 0, rfl, fun i k' hk => ?_, fun i k' hi _ => absurd hi (Nat.not_lt_zero _)⟩
        cases i with
        | zero =>
          have e : k = k' := Option.some.inj hk
          subst e
          exact Nat.le_refl _
        | succ i =>
          have := h3 i k' (by simpa using hk)
          show f k ≤ f k'
          omega
theorem fm_some (f : Nat → Nat) : ∀ (ks : List Nat), ks ≠ [] → ∃ y, firstMost f ks = some y
  | [], h => absurd rfl h
  | k :: r, _ => by
    unfold firstMost
    split
    · exact ⟨_, rfl⟩
    · split <;> exact ⟨_, rfl⟩
theorem fm_spec (f : Nat → Nat) : ∀ (ks : List Nat) (y : Nat × Nat), firstMost f ks = some y → y.2 = f y.1 ∧ ∃ j, ks[j]? = some y.1 ∧ (∀ (i k : Nat), ks[i]? = some k → f k ≤ y.2) ∧ ∀ (i k : Nat), i < j → ks[i]? = some k → f k < y.2
  | [], y, h => by cases h
  | k :: r, y, h => by
    unfold firstMost at h
    split at h
    · rename_i e
      cases h
      cases r with
      | nil => exact ⟨rfl, 0, rfl, fun i k' hk => by cases i with | zero => (cases hk; exact Nat.le_refl _) | succ i => simp at hk, fun i k' hi _ => absurd hi (Nat.not_lt_zero _)⟩
      | cons a l =>
        obtain ⟨z, hz⟩ := fm_some f (a :: l) (by simp)
        rw [hz] at e
        cases e
    · rename_i z hz
      obtain ⟨h1, j, h2, h3, h4⟩ := fm_spec f r z hz
      split at h
      · rename_i lt
        cases h
        refine ⟨h1, j + 1, by simpa using h2, fun i k' hk => ?_, fun i k' hi hk => ?_⟩
        · cases i with
          | zero =>
            have e : k = k' := Option.some.inj hk
            subst e
            exact Nat.le_of_lt lt
          | succ i => exact h3 i k' (by simpa using hk)
        · cases i with
          | zero =>
            have e : k = k' := Option.some.inj hk
            subst e
            exact lt
          | succ i => exact h4 i k' (by omega) (by simpa using hk)
      · rename_i ge
        cases h
        refine ⟨rfl, 0, rfl, fun i k' hk => ?_, fun i k' hi _ => absurd hi (Nat.not_lt_zero _)⟩
        cases i with
        | zero =>
          have e : k = k' := Option.some.inj hk
          subst e
          exact Nat.le_refl _
        | succ i =>
          have := h3 i k' (by simpa using hk)
          show f k' ≤ f k
          omega
/-! ### a lake in order -/
structure Fit (l : Lake) : Prop where
  holds : l.holds ≤ 40
  s1 : 1 ≤ l.seasons
  s2 : l.seasons ≤ 24
  gate : l.gate ≤ 10
  rest : l.rest ≤ 99
  w1 : 1 ≤ l.weathers.length
  w2 : l.weathers.length ≤ 4
  name : ∀ x ∈ l.weathers, x.name.length ≤ 8 ∧ ∀ c ∈ x.name, 97 ≤ c ∧ c ≤ 122
  brings : ∀ x ∈ l.weathers, x.brings ≤ 20
  n1 : ∀ x ∈ l.weathers, x.next ≠ []
  n2 : ∀ x ∈ l.weathers, x.next.length ≤ 4
  n3 : ∀ x ∈ l.weathers, ∀ k ∈ x.next, k < l.weathers.length
  y1 : 1 ≤ l.yields.length
  y2 : l.yields.length ≤ 4
  y3 : ∀ y ∈ l.yields, y.length = l.gate + 1
  y4 : ∀ y ∈ l.yields, ∀ n ∈ y, n ≤ 999
/-- the level behind a season, by what is left -/
def lb (l : Lake) (left k : Nat) : Nat := min l.holds (left + bringsOf l k)
theorem lb_eq (l : Lake) (x r k : Nat) : levelBehind l x r k = lb l (x - r) k := rfl
theorem lb_le (l : Lake) (left k : Nat) : lb l left k ≤ l.holds := Nat.min_le_left ..
/-- a row in order -/
structure RowFit (l : Lake) (row : Row) : Prop where
  len : row.length = l.weathers.length
  each : ∀ (k : Nat) (xs : List Nat), row[k]? = some xs → xs.length = l.holds + 1
/-- the numbers behind each kind that may come -/
def outs (l : Lake) (row : Row) (left w : Nat) : List Nat := (nextOf l w).map fun k => sureAt row k (lb l left k)
def leastLeft (l : Lake) (row : Row) (w left : Nat) : Nat := ((firstLeast (fun k => sureAt row k (lb l left k)) (nextOf l w)).map fun y => y.2).getD 0
def leasts (l : Lake) (row : Row) (w : Nat) : List Nat := (List.range (l.holds + 1)).map (leastLeft l row w)
theorem next_of {l : Lake} (F : Fit l) {w : Nat} (hw : w < l.weathers.length) : ∃ x ∈ l.weathers, l.weathers[w]? = some x ∧ nextOf l w = x.next := by
  refine ⟨l.weathers[w], List.getElem_mem hw, List.getElem?_eq_getElem hw, ?_⟩
  unfold nextOf
  rw [List.getElem?_eq_getElem hw]
  rfl
theorem next_ne {l : Lake} (F : Fit l) {w : Nat} (hw : w < l.weathers.length) : nextOf l w ≠ [] := by
  obtain ⟨x, hx, _, e⟩ := next_of F hw
  rw [e]
  exact F.n1 x hx
theorem next_lt {l : Lake} (F : Fit l) {w k : Nat} (hw : w < l.weathers.length) (hk : k ∈ nextOf l w) : k < l.weathers.length := by
  obtain ⟨x, hx, _, e⟩ := next_of F hw
  rw [e] at hk
  exact F.n3 x hx k hk
theorem next_len {l : Lake} (F : Fit l) {w : Nat} (hw : w < l.weathers.length) : (nextOf l w).length ≤ 4 := by
  obtain ⟨x, hx, _, e⟩ := next_of F hw
  rw [e]
  exact F.n2 x hx
/-- the least of them, however it is found -/
theorem least_is {l : Lake} {row : Row} {w left : Nat} {m : Int} (h1 : m ∈ (outs l row left w).map fun (n : Nat) => (n : Int)) (h2 : ∀ y ∈ (outs l row left w).map fun (n : Nat) => (n : Int), m ≤ y) : m = (leastLeft l row w left : Int) := by
  have hne : nextOf l w ≠ [] := by
    intro e
    unfold outs at h1
    rw [e] at h1
    simp at h1
  obtain ⟨y, hy⟩ := fl_some (fun k => sureAt row k (lb l left k)) _ hne
  obtain ⟨e1, j, e2, e3, _⟩ := fl_spec _ _ y hy
  have hv : leastLeft l row w left = y.2 := by
    unfold leastLeft
    rw [hy]
    rfl
  rw [hv]
  unfold outs at h1 h2
  rw [List.map_map] at h1 h2
  obtain ⟨k, hk, rfl⟩ := List.mem_map.mp h1
  obtain ⟨i, hi, rfl⟩ := List.mem_iff_getElem.mp hk
  have a := e3 i _ (List.getElem?_eq_getElem hi)
  have b := h2 (y.2 : Int) (List.mem_map.mpr ⟨y.1, List.mem_of_getElem? e2, by show ((sureAt row y.1 (lb l left y.1) : Nat) : Int) = _; rw [e1]⟩)
  show ((sureAt row (nextOf l w)[i] (lb l left (nextOf l w)[i]) : Nat) : Int) = (y.2 : Int)
  have b' : ((sureAt row (nextOf l w)[i] (lb l left (nextOf l w)[i]) : Nat) : Int) ≤ (y.2 : Int) := b
  have a' : y.2 ≤ sureAt row (nextOf l w)[i] (lb l left (nextOf l w)[i]) := a
  omega
/-- what each letting is worth -/
def worthsOf (l : Lake) (t : Nat) (ls : List Nat) (x : Nat) : List Nat := (lettings l x).map fun r => yieldAt l t r + ls.getD (x - r) 0
theorem worth_eq (l : Lake) (t : Nat) (row : Row) (x w r : Nat) (hx : x ≤ l.holds) : worth l t row x w r = yieldAt l t r + (leasts l row w).getD (x - r) 0 := by
  have e : (leasts l row w).getD (x - r) 0 = leastLeft l row w (x - r) := by
    unfold leasts
    rw [List.getD_eq_getElem?_getD, List.getElem?_map, List.getElem?_range (by omega)]
    rfl
  rw [e]
  rfl
theorem worths_eq (l : Lake) (t : Nat) (row : Row) (x w : Nat) (hx : x ≤ l.holds) : worthsOf l t (leasts l row w) x = (lettings l x).map (worth l t row x w) := by
  unfold worthsOf
  refine List.map_congr_left fun r _ => ?_
  exact (worth_eq l t row x w r hx).symm
theorem lettings_ne (l : Lake) (x : Nat) : lettings l x ≠ [] := by
  unfold lettings
  intro e
  have := congrArg List.length e
  simp at this
theorem best_spec (l : Lake) (t : Nat) (row : Row) (x w : Nat) : (best l t row x w).2 = worth l t row x w (best l t row x w).1 ∧ (best l t row x w).1 ≤ min x l.gate ∧
    (∀ r, r ≤ min x l.gate → worth l t row x w r ≤ (best l t row x w).2) ∧ ∀ r, r < (best l t row x w).1 → worth l t row x w r < (best l t row x w).2 := by
  obtain ⟨y, hy⟩ := fm_some (worth l t row x w) _ (lettings_ne l x)
  obtain ⟨e1, j, e2, e3, e4⟩ := fm_spec _ _ y hy
  have hb : best l t row x w = y := by
    unfold best
    rw [hy]
    rfl
  rw [hb]
  have hj : j < min x l.gate + 1 := by
    have := (List.getElem?_eq_some_iff.mp e2).1
    simpa [lettings] using this
  have ej : y.1 = j := by
    unfold lettings at e2
    rw [List.getElem?_range hj] at e2
    exact (Option.some.inj e2).symm
  refine ⟨e1, by omega, fun r hr => e3 r r ?_, fun r hr => e4 r r (by omega) ?_⟩
  · unfold lettings
    exact List.getElem?_range (by omega)
  · unfold lettings
    exact List.getElem?_range (by omega)
/-- the greatest of them, however it is found -/
theorem most_is {l : Lake} {t : Nat} {row : Row} {x w : Nat} (hx : x ≤ l.holds) {m : Int} (h1 : m ∈ (worthsOf l t (leasts l row w) x).map fun (n : Nat) => (n : Int))
    (h2 : ∀ y ∈ (worthsOf l t (leasts l row w) x).map fun (n : Nat) => (n : Int), y ≤ m) : m = ((best l t row x w).2 : Int) := by
  rw [worths_eq l t row x w hx, List.map_map] at h1 h2
  obtain ⟨e1, e2, e3, _⟩ := best_spec l t row x w
  obtain ⟨r, hr, rfl⟩ := List.mem_map.mp h1
  have hr' : r < min x l.gate + 1 := List.mem_range.mp hr
  have a := e3 r (by omega)
  have b := h2 (((best l t row x w).2 : Nat) : Int) (List.mem_map.mpr ⟨(best l t row x w).1, List.mem_range.mpr (by omega), by show ((worth l t row x w (best l t row x w).1 : Nat) : Int) = _; rw [← e1]⟩)
  have b' : ((best l t row x w).2 : Int) ≤ (worth l t row x w r : Int) := b
  show (worth l t row x w r : Int) = _
  omega
theorem rowBefore_fit (l : Lake) (t : Nat) (row : Row) : RowFit l (rowBefore l t row) := by
  refine ⟨by simp [rowBefore], fun k xs h => ?_⟩
  unfold rowBefore at h
  rw [List.getElem?_map] at h
  cases e : (List.range l.weathers.length)[k]? with
  | none => rw [e] at h; cases h
  | some w =>
    rw [e] at h
    cases h
    simp
theorem endRow_fit (l : Lake) : RowFit l (endRow l) := by
  refine ⟨by simp [endRow], fun k xs h => ?_⟩
  unfold endRow at h
  rw [List.getElem?_map] at h
  cases e : l.weathers[k]? with
  | none => rw [e] at h; cases h
  | some w =>
    rw [e] at h
    cases h
    simp
end Sm
namespace Sl
open PySem PySem.Spec PyProof.Rows L2
open Evl
open Vbirak (Lake Weather)
/-! ### more words of what evaluates to what -/
section
variable {K : PySem.W.Frag} {σ : L2.St} {H H' : Hp} {ta tb tc te : TE} {t u : TT} {x y z v : V} {r r' : R2}
theorem ev_fld {a C dx : Addr} {fs : List (Str × V)} {f : Str} (ha : Ev ta σ H (.ref a)) (ho : H a = some (.ins C dx fs)) (hc : Cls K C) (hn : NoAttr K C f) (hl : fs.lookup f = some v) : Ev (tFld K ta f) σ H v := fun H1 e Q q =>
  ha H1 e _ fun H2 e2 => ⟨a, C, dx, fs, v, rfl, e2 _ _ (e _ _ ho), hc, hn, hl, q H2 e2⟩
theorem ev_min2 {i j : Int} (ha : Ev ta σ H (.int i)) (hb : Ev tb σ H (.int j)) : Ev (tCB (fun xs H Q => ∃ i j, xs = [.int i, .int j] ∧ Q (.int (if j < i then j else i)) H) (tCons ta (tCons tb tNil))) σ H (.int (if j < i then j else i)) := fun H1 e Q q =>
  ha H1 e _ fun H2 e2 => hb H2 (e.trans e2) _ fun H3 e3 => ⟨i, j, rfl, q H3 (e2.trans e3)⟩
theorem ev_chain {a b : Bool} (ha : Ev ta σ H x) (hb : Ev tb σ H y) (hc : Ev tc σ H z) (h1 : RV r x y H (.bl a)) (h2 : RV r' y z H (.bl b)) : Ev (tChain r r' ta tb tc) σ H (.bl (a && b)) := fun H1 e Q q =>
  ha H1 e _ fun H2 e2 => hb H2 (e.trans e2) _ fun H3 e3 => h1 H3 ((e.trans e2).trans e3) _ fun H4 e4 => ⟨a, rfl, by
    cases a with
    | false =>
      show Q (.bl false) H4
      exact q H4 ((e2.trans e3).trans e4)
    | true =>
      show tc σ H4 fun w' H4 => r' y w' H4 Q
      exact hc H4 (((e.trans e2).trans e3).trans e4) _ fun H5 e5 => h2 H5 ((((e.trans e2).trans e3).trans e4).trans e5) Q fun H6 e6 => q H6 ((((e2.trans e3).trans e4).trans e5).trans e6)⟩
theorem rv_le {i j : Int} : RV (rI0 fun i j => .bl (decide (i ≤ j))) (.int i) (.int j) H (.bl (decide (i ≤ j))) := rv_I0 (g := fun i j => .bl (decide (i ≤ j)))
/-- len -/
theorem ev_lenL {p : Addr} {xs : List V} (ha : Ev ta σ H (.ref p)) (h : SqL K H p xs) : Ev (tCB (fun xs H Q => ∃ p ys, xs = [.ref p] ∧ (SqL K H p ys ∨ SqT K H p ys) ∧ Q (.int ys.length) H) (tCons ta tNil)) σ H (.int (xs.length : Int)) := fun H1 e Q q =>
  ha H1 e _ fun H2 e2 => ⟨p, xs, rfl, Or.inl (ex_l (e.trans e2) h), q H2 e2⟩
/-- min, max of a list, where the number is known -/
theorem ev_minN {ns : List Int} {m : Int} (ha : EvL ta σ H (ns.map V.int)) (h0 : 0 < ns.length) (h : ∀ k, k ∈ ns → (∀ y, y ∈ ns → k ≤ y) → k = m) : Ev (tCB (rMin K) (tCons ta tNil)) σ H (.int m) := fun H1 e Q q =>
  ha H1 e _ fun p H2 _ e2 hp => ⟨p, ns, rfl, sq_of hp, h0, fun k h1 h2 => by rw [h k h1 h2]; exact q H2 e2⟩
theorem ev_maxN {ns : List Int} {m : Int} (ha : EvL ta σ H (ns.map V.int)) (h0 : 0 < ns.length) (h : ∀ k, k ∈ ns → (∀ y, y ∈ ns → y ≤ k) → k = m) : Ev (tCB (rMax K) (tCons ta tNil)) σ H (.int m) := fun H1 e Q q =>
  ha H1 e _ fun p H2 _ e2 hp => ⟨p, ns, rfl, sq_of hp, h0, fun k h1 h2 => by rw [h k h1 h2]; exact q H2 e2⟩
theorem ev_min {p : Addr} {ns : List Int} {m : Int} (ha : Ev ta σ H (.ref p)) (hp : SqL K H p (ns.map V.int)) (h0 : 0 < ns.length) (h : ∀ k, k ∈ ns → (∀ y, y ∈ ns → k ≤ y) → k = m) : Ev (tCB (rMin K) (tCons ta tNil)) σ H (.int m) := fun H1 e Q q =>
  ha H1 e _ fun H2 e2 => ⟨p, ns, rfl, ex_l (e.trans e2) hp, h0, fun k h1 h2 => by rw [h k h1 h2]; exact q H2 e2⟩
theorem ev_max {p : Addr} {ns : List Int} {m : Int} (ha : Ev ta σ H (.ref p)) (hp : SqL K H p (ns.map V.int)) (h0 : 0 < ns.length) (h : ∀ k, k ∈ ns → (∀ y, y ∈ ns → y ≤ k) → k = m) : Ev (tCB (rMax K) (tCons ta tNil)) σ H (.int m) := fun H1 e Q q =>
  ha H1 e _ fun H2 e2 => ⟨p, ns, rfl, ex_l (e.trans e2) hp, h0, fun k h1 h2 => by rw [h k h1 h2]; exact q H2 e2⟩
end
/-- the comprehension without a test -/
theorem et_yes {σ : L2.St} {H : Hp} : EvT tYes σ H true := fun H1 _ _ q => q H1 (Ex.refl H1)
theorem given_all (n : Nat) (v : Nat → V) : given n (fun _ => true) v = (List.range n).map v := by
  unfold given
  rw [List.filter_eq_self.mpr (fun _ _ => rfl)]
theorem map_range_get {α : Type} (xs : List α) (f : α → V) (v : Nat → V) (h : ∀ i x, xs[i]? = some x → v i = f x) : (List.range xs.length).map v = xs.map f := by
  apply List.ext_getElem?
  intro i
  rw [List.getElem?_map, List.getElem?_map]
  by_cases hi : i < xs.length
  · rw [List.getElem?_range hi, List.getElem?_eq_getElem hi]
    show some (v i) = some (f xs[i])
    rw [h i _ (List.getElem?_eq_getElem hi)]
  · rw [List.getElem?_eq_none (by simpa using hi), List.getElem?_eq_none (by simpa using hi)] <;> rfl
/-! ### how a lake lies in the heap -/
def vI (ns : List Nat) : List V := ns.map fun (n : Nat) => V.int (n : Int)
theorem vI_len (ns : List Nat) : (vI ns).length = ns.length := List.length_map ..
theorem vI_get {ns : List Nat} {i n : Nat} (h : ns[i]? = some n) : (vI ns)[i]? = some (.int (n : Int)) := by
  unfold vI
  rw [List.getElem?_map, h]
  rfl
theorem vI_eq (ns : List Nat) : vI ns = (ns.map fun (n : Nat) => (n : Int)).map V.int := by
  unfold vI
  rw [List.map_map]
  rfl
def IntsAt (H : Hp) (p : Addr) (ns : List Nat) : Prop := H p = some (.lst (vI ns))
theorem IntsAt.ex {H H' : Hp} {p : Addr} {ns : List Nat} (h : IntsAt H p ns) (e : Ex H H') : IntsAt H' p ns := e _ _ h
def All2 {α : Type} (R : Addr → α → Prop) (as : List Addr) (xs : List α) : Prop := as.length = xs.length ∧ ∀ (i : Nat) (a : Addr) (x : α), as[i]? = some a → xs[i]? = some x → R a x
theorem All2.get {α : Type} {R : Addr → α → Prop} {as : List Addr} {xs : List α} (h : All2 R as xs) {i : Nat} {x : α} (hx : xs[i]? = some x) : ∃ a, as[i]? = some a ∧ R a x := by
  have hi : i < as.length := by
    rw [h.1]
    exact (List.getElem?_eq_some_iff.mp hx).1
  exact ⟨as[i], List.getElem?_eq_getElem hi, h.2 i _ x (List.getElem?_eq_getElem hi) hx⟩
theorem All2.imp {α : Type} {R R' : Addr → α → Prop} {as : List Addr} {xs : List α} (h : All2 R as xs) (f : ∀ a x, R a x → R' a x) : All2 R' as xs := ⟨h.1, fun i a x h1 h2 => f a x (h.2 i a x h1 h2)⟩
theorem All2.nil {α : Type} {R : Addr → α → Prop} : All2 R [] [] := ⟨rfl, fun i a x h => by simp at h⟩
theorem All2.snoc {α : Type} {R : Addr → α → Prop} {as : List Addr} {xs : List α} {a : Addr} {x : α} (h : All2 R as xs) (r : R a x) : All2 R (as ++ [a]) (xs ++ [x]) := by
  refine ⟨by simp [h.1], fun i b y h1 h2 => ?_⟩
  by_cases hi : i < as.length
  · rw [List.getElem?_append_left hi] at h1
    rw [List.getElem?_append_left (by rw [← h.1]; exact hi)] at h2
    exact h.2 i b y h1 h2
  · have hl : i = as.length := by
      have := (List.getElem?_eq_some_iff.mp h1).1
      simp at this
      omega
    subst hl
    rw [List.getElem?_concat_length] at h1
    rw [h.1, List.getElem?_concat_length] at h2
    cases h1
    cases h2
    exact r
theorem All2.cons {α : Type} {R : Addr → α → Prop} {as : List Addr} {xs : List α} {a : Addr} {x : α} (h : All2 R as xs) (r : R a x) : All2 R (a :: as) (x :: xs) := by
  refine ⟨by simp [h.1], fun i b y h1 h2 => ?_⟩
  cases i with
  | zero =>
    cases h1
    cases h2
    exact r
  | succ i => exact h.2 i b y (by simpa using h1) (by simpa using h2)
theorem ref_get {as : List Addr} {i : Nat} {a : Addr} (h : as[i]? = some a) : (as.map V.ref)[i]? = some (.ref a) := by
  rw [List.getElem?_map, h]
  rfl
def strOf (b : List Nat) : Str := ⟨b.toArray⟩
def kindF (x : Weather) (fl : Addr) : List (Str × V) := [("name", .str (strOf x.name)), ("brings", .int (x.brings : Int)), ("follows", .ref fl)]
def KindAt (K : PySem.W.Frag) (H : Hp) (a : Addr) (x : Weather) : Prop := ∃ dx fl, H a = some (.ins (He.ga K "Kind") dx (kindF x fl)) ∧ IntsAt H fl x.next
def lakeF (l : Lake) (kl tl : Addr) : List (Str × V) := [("holds", .int (l.holds : Int)), ("seasons", .int (l.seasons : Int)), ("gate", .int (l.gate : Int)), ("rest", .int (l.rest : Int)), ("kinds", .ref kl), ("tables", .ref tl)]
def LakeAt (K : PySem.W.Frag) (H : Hp) (a : Addr) (l : Lake) : Prop := ∃ dx kl tl ks ts, H a = some (.ins (He.ga K "Lake") dx (lakeF l kl tl)) ∧ H kl = some (.lst (ks.map V.ref)) ∧ All2 (KindAt K H) ks l.weathers ∧ H tl = some (.lst (ts.map V.ref)) ∧ All2 (IntsAt H) ts l.yields
section
variable {K : PySem.W.Frag} {mg : Str → Option Value} {H H' : Hp} {a : Addr} {l : Lake} {x : Weather}
theorem KindAt.ex (h : KindAt K H a x) (e : Ex H H') : KindAt K H' a x := by
  obtain ⟨dx, fl, h1, h2⟩ := h
  exact ⟨dx, fl, e _ _ h1, e _ _ h2⟩
theorem LakeAt.ex (h : LakeAt K H a l) (e : Ex H H') : LakeAt K H' a l := by
  obtain ⟨dx, kl, tl, ks, ts, h1, h2, h3, h4, h5⟩ := h
  exact ⟨dx, kl, tl, ks, ts, e _ _ h1, e _ _ h2, h3.imp fun _ _ z => z.ex e, e _ _ h4, h5.imp fun _ _ z => z.ex e⟩
theorem lk_name (x : Weather) (fl : Addr) : (kindF x fl).lookup ("name" : Str) = some (.str (strOf x.name)) := lk1
theorem lk_brings (x : Weather) (fl : Addr) : (kindF x fl).lookup ("brings" : Str) = some (.int (x.brings : Int)) := (lk2 (by decide +kernel)).trans lk1
theorem lk_follows (x : Weather) (fl : Addr) : (kindF x fl).lookup ("follows" : Str) = some (.ref fl) := (lk2 (by decide +kernel)).trans ((lk2 (by decide +kernel)).trans lk1)
theorem lk_holds (l : Lake) (kl tl : Addr) : (lakeF l kl tl).lookup ("holds" : Str) = some (.int (l.holds : Int)) := lk1
theorem lk_seasons (l : Lake) (kl tl : Addr) : (lakeF l kl tl).lookup ("seasons" : Str) = some (.int (l.seasons : Int)) := (lk2 (by decide +kernel)).trans lk1
theorem lk_gate (l : Lake) (kl tl : Addr) : (lakeF l kl tl).lookup ("gate" : Str) = some (.int (l.gate : Int)) := (lk2 (by decide +kernel)).trans ((lk2 (by decide +kernel)).trans lk1)
theorem lk_rest (l : Lake) (kl tl : Addr) : (lakeF l kl tl).lookup ("rest" : Str) = some (.int (l.rest : Int)) := (lk2 (by decide +kernel)).trans ((lk2 (by decide +kernel)).trans ((lk2 (by decide +kernel)).trans lk1))
theorem lk_kinds (l : Lake) (kl tl : Addr) : (lakeF l kl tl).lookup ("kinds" : Str) = some (.ref kl) := (lk2 (by decide +kernel)).trans ((lk2 (by decide +kernel)).trans ((lk2 (by decide +kernel)).trans ((lk2 (by decide +kernel)).trans lk1)))
theorem lk_tables (l : Lake) (kl tl : Addr) : (lakeF l kl tl).lookup ("tables" : Str) = some (.ref tl) := (lk2 (by decide +kernel)).trans ((lk2 (by decide +kernel)).trans ((lk2 (by decide +kernel)).trans ((lk2 (by decide +kernel)).trans ((lk2 (by decide +kernel)).trans lk1))))
variable {σ : L2.St} {ta tb : TE}
theorem ev_holds (T : Tx K mg) (ha : Ev ta σ H (.ref a)) (h : LakeAt K H a l) : Ev (tFld K ta "holds") σ H (.int (l.holds : Int)) := by
  obtain ⟨dx, kl, tl, ks, ts, h1, _⟩ := h
  exact ev_fld ha h1 T.cls_Lake T.noat_Lake_holds (lk_holds ..)
theorem ev_seasons (T : Tx K mg) (ha : Ev ta σ H (.ref a)) (h : LakeAt K H a l) : Ev (tFld K ta "seasons") σ H (.int (l.seasons : Int)) := by
  obtain ⟨dx, kl, tl, ks, ts, h1, _⟩ := h
  exact ev_fld ha h1 T.cls_Lake T.noat_Lake_seasons (lk_seasons ..)
theorem ev_gate (T : Tx K mg) (ha : Ev ta σ H (.ref a)) (h : LakeAt K H a l) : Ev (tFld K ta "gate") σ H (.int (l.gate : Int)) := by
  obtain ⟨dx, kl, tl, ks, ts, h1, _⟩ := h
  exact ev_fld ha h1 T.cls_Lake T.noat_Lake_gate (lk_gate ..)
theorem ev_rest (T : Tx K mg) (ha : Ev ta σ H (.ref a)) (h : LakeAt K H a l) : Ev (tFld K ta "rest") σ H (.int (l.rest : Int)) := by
  obtain ⟨dx, kl, tl, ks, ts, h1, _⟩ := h
  exact ev_fld ha h1 T.cls_Lake T.noat_Lake_rest (lk_rest ..)
/-- lake.kinds: the list, its items -/
theorem ev_kinds (T : Tx K mg) (ha : Ev ta σ H (.ref a)) (h : LakeAt K H a l) : ∃ kl ks, Ev (tFld K ta "kinds") σ H (.ref kl) ∧ H kl = some (.lst (ks.map V.ref)) ∧ All2 (KindAt K H) ks l.weathers := by
  obtain ⟨dx, kl, tl, ks, ts, h1, h2, h3, _⟩ := h
  exact ⟨kl, ks, ev_fld ha h1 T.cls_Lake T.noat_Lake_kinds (lk_kinds ..), h2, h3⟩
theorem ev_tables (T : Tx K mg) (ha : Ev ta σ H (.ref a)) (h : LakeAt K H a l) : ∃ tl ts, Ev (tFld K ta "tables") σ H (.ref tl) ∧ H tl = some (.lst (ts.map V.ref)) ∧ All2 (IntsAt H) ts l.yields := by
  obtain ⟨dx, kl, tl, ks, ts, h1, _, _, h4, h5⟩ := h
  exact ⟨tl, ts, ev_fld ha h1 T.cls_Lake T.noat_Lake_tables (lk_tables ..), h4, h5⟩
/-- lake.kinds[k] -/
theorem ev_kind {k : Nat} (T : Tx K mg) (ha : Ev ta σ H (.ref a)) (h : LakeAt K H a l) (hb : Ev tb σ H (.int (k : Int))) (hk : l.weathers[k]? = some x) : ∃ p, KindAt K H p x ∧ Ev (tOp (rIxL K) (tFld K ta "kinds") tb) σ H (.ref p) := by
  obtain ⟨kl, ks, h1, h2, h3⟩ := ev_kinds T ha h
  obtain ⟨p, hp, r⟩ := h3.get hk
  exact ⟨p, r, ev_op h1 hb (rv_ixL (sq_of h2) (atI_nat (ref_get hp)))⟩
theorem ev_brings (T : Tx K mg) (ha : Ev ta σ H (.ref a)) (h : KindAt K H a x) : Ev (tFld K ta "brings") σ H (.int (x.brings : Int)) := by
  obtain ⟨dx, fl, h1, _⟩ := h
  exact ev_fld ha h1 T.cls_Kind T.noat_Kind_brings (lk_brings ..)
theorem ev_name (T : Tx K mg) (ha : Ev ta σ H (.ref a)) (h : KindAt K H a x) : Ev (tFld K ta "name") σ H (.str (strOf x.name)) := by
  obtain ⟨dx, fl, h1, _⟩ := h
  exact ev_fld ha h1 T.cls_Kind T.noat_Kind_name (lk_name ..)
theorem ev_follows (T : Tx K mg) (ha : Ev ta σ H (.ref a)) (h : KindAt K H a x) : ∃ fl, Ev (tFld K ta "follows") σ H (.ref fl) ∧ IntsAt H fl x.next := by
  obtain ⟨dx, fl, h1, h2⟩ := h
  exact ⟨fl, ev_fld ha h1 T.cls_Kind T.noat_Kind_follows (lk_follows ..), h2⟩
end
end Sl
namespace Sl
open PySem PySem.Spec PyProof.Rows L2
open Evl
open Vbirak (Lake Weather bringsOf nextOf yieldAt lettings sureAt)
open Sm
section
variable {P : Program} {w : World} {K : PySem.W.Frag} {mg : Str → Option Value} {base : Heap}
def spSeasonTable (K : PySem.W.Frag) : Sp := fun vs H Q _ => ∃ (a : Addr) (l : Lake) (t : Nat) (ns : List Nat), vs = [.ref a, .int (t : Int)] ∧ LakeAt K H a l ∧ l.yields[t % l.yields.length]? = some ns ∧ ∀ (p : Addr) (H' : Hp), Ex H H' → IntsAt H' p ns → Q (.ref p) H'
theorem ok_season_table (T : Tx K mg)  : Fn P w K mg base 1 (He.ga K "season_table") ["lake", "season"] (spSeasonTable K) := by
  have sc : FnScope ["lake", "season"] ["lake", "season"] (defScope s_season_table) := ⟨rfl, rfl, rfl, by decide +kernel, rfl, by decide +kernel, by decide +kernel⟩
  refine fn_mk (k := 0) T.fun_season_table sc (fun _ _ _ _ _ _ us hl => match us, hl with | [_, _], _ => rfl) (fun vs H Q E h => ?len) (fun cdv A outer s H vs Q E hr h => ⟨_, (pss_one (ps_ret (pe_ix ix_list (pe_fld (pv 0) rfl) (pe_op op_modN (pv 1) (pe_callB call_len_seq (by rfl) T.free_len PySem.boot_len (pa_c (pe_fld (pv 0) rfl) pa_nil))) (fun _ _ => rfl)))), ?rd⟩)
  case len =>
    obtain ⟨a, l, t, ns, rfl, _⟩ := h
    rfl
  case rd =>
    obtain ⟨a, l, t, ns, rfl, hL, hy, k⟩ := h
    obtain ⟨tl, ts, e1, h1, h2⟩ := ev_tables (ta := tVar 0) (σ := start ["lake", "season"] [.ref a, .int (t : Int)]) T (ev_var rfl) hL
    obtain ⟨p, hp, r⟩ := h2.get hy
    have hl : ts.length = l.yields.length := h2.1
    have hne : (ts.map V.ref).length ≠ 0 := by
      rw [List.length_map, hl]
      intro z
      have := (List.getElem?_eq_some_iff.mp hy).1
      rw [z] at this
      omega
    refine s_ret (ev_op e1 (ev_op (ev_var rfl) (ev_lenL e1 (sq_of h1)) (rv_I (C := fun _ j => j ≠ 0) (g := fun i j => V.int (i.fmod j)) ?_)) (rv_ixL (sq_of h1) (v := .ref p) ?_)) fun H' e => k p H' e (r.ex e)
    · intro z
      exact hne (Int.natCast_eq_zero.mp z)
    · have e : ((t : Int).fmod ((ts.map V.ref).length : Int)) = ((t % l.yields.length : Nat) : Int) := by
        rw [List.length_map, hl, Int.fmod_eq_emod_of_nonneg _ (by omega)]
        rfl
      rw [e]
      exact atI_nat (ref_get hp)
def spMostLetting (K : PySem.W.Frag) : Sp := fun vs H Q _ => ∃ (a : Addr) (l : Lake) (x : Nat), vs = [.ref a, .int (x : Int)] ∧ LakeAt K H a l ∧ RetV (.int ((min x l.gate : Nat) : Int)) H Q
theorem min_int (a b : Nat) : (if ((b : Nat) : Int) < ((a : Nat) : Int) then (b : Int) else (a : Int)) = ((min a b : Nat) : Int) := by
  by_cases h : b < a
  · rw [if_pos (by omega), Nat.min_eq_right (by omega)]
  · rw [if_neg (by omega), Nat.min_eq_left (by omega)]
theorem ok_most_letting (T : Tx K mg)  : Fn P w K mg base 1 (He.ga K "most_letting") ["lake", "level"] (spMostLetting K) := by
  have sc : FnScope ["lake", "level"] ["lake", "level"] (defScope s_most_letting) := ⟨rfl, rfl, rfl, by decide +kernel, rfl, by decide +kernel, by decide +kernel⟩
  refine fn_mk (k := 0) T.fun_most_letting sc (fun _ _ _ _ _ _ us hl => match us, hl with | [_, _], _ => rfl) (fun vs H Q E h => ?len) (fun cdv A outer s H vs Q E hr h => ⟨_, (pss_one (ps_ret (pe_callB (call_min2 rfl) (by rfl) T.free_min (by decide +kernel) (pa_c (pv 1) (pa_c (pe_fld (pv 0) rfl) pa_nil))))), ?rd⟩)
  case len =>
    obtain ⟨a, l, x, rfl, _⟩ := h
    rfl
  case rd =>
    obtain ⟨a, l, x, rfl, hL, k⟩ := h
    refine s_ret (ev_is (ev_min2 (ev_var rfl) (ev_gate T (ev_var rfl) hL)) ?_) k
    exact congrArg V.int (min_int _ _)
def spLevelBehind (K : PySem.W.Frag) : Sp := fun vs H Q _ => ∃ (a : Addr) (l : Lake) (x k : Nat), vs = [.ref a, .int (x : Int), .int (k : Int)] ∧ LakeAt K H a l ∧ k < l.weathers.length ∧ RetV (.int ((lb l x k : Nat) : Int)) H Q
theorem brings_at {l : Lake} {k : Nat} {x : Weather} (h : l.weathers[k]? = some x) : bringsOf l k = x.brings := by
  unfold bringsOf
  rw [h]
  rfl
theorem next_at {l : Lake} {k : Nat} {x : Weather} (h : l.weathers[k]? = some x) : nextOf l k = x.next := by
  unfold nextOf
  rw [h]
  rfl
theorem ok_level_behind (T : Tx K mg)  : Fn P w K mg base 1 (He.ga K "level_behind") ["lake", "left", "kind"] (spLevelBehind K) := by
  have sc : FnScope ["lake", "left", "kind"] ["lake", "left", "kind"] (defScope s_level_behind) := ⟨rfl, rfl, rfl, by decide +kernel, rfl, by decide +kernel, by decide +kernel⟩
  refine fn_mk (k := 0) T.fun_level_behind sc (fun _ _ _ _ _ _ us hl => match us, hl with | [_, _, _], _ => rfl) (fun vs H Q E h => ?len) (fun cdv A outer s H vs Q E hr h => ⟨_, (pss_one (ps_ret (pe_callB (call_min2 rfl) (by rfl) T.free_min (by decide +kernel) (pa_c (pe_fld (pv 0) rfl) (pa_c (pe_op op_add (pv 1) (pe_fld (pe_ix ix_list (pe_fld (pv 0) rfl) (pv 2) (fun _ _ => rfl)) rfl)) pa_nil))))), ?rd⟩)
  case len =>
    obtain ⟨a, l, x, k, rfl, _⟩ := h
    rfl
  case rd =>
    obtain ⟨a, l, x, k, rfl, hL, hk, q⟩ := h
    obtain ⟨p, hp, ep⟩ := ev_kind (ta := tVar 0) (tb := tVar 2) (σ := start ["lake", "left", "kind"] [.ref a, .int (x : Int), .int (k : Int)]) T (ev_var rfl) hL (ev_var rfl) (List.getElem?_eq_getElem hk)
    refine s_ret (ev_is (ev_min2 (ev_holds T (ev_var rfl) hL) (ev_op (ev_var rfl) (ev_brings T ep hp) rv_I0)) ?_) q
    refine congrArg V.int ?_
    show (if (x : Int) + ((l.weathers[k].brings : Nat) : Int) < (l.holds : Int) then (x : Int) + ((l.weathers[k].brings : Nat) : Int) else (l.holds : Int)) = _
    have e := min_int l.holds (x + l.weathers[k].brings)
    unfold lb
    rw [brings_at (List.getElem?_eq_getElem hk), ← e]
    rfl
theorem inV_ints (k : Nat) : ∀ ns : List Nat, inV (.int (k : Int)) (vI ns) = ns.contains k
  | [] => rfl
  | n :: r => by
    have ih := inV_ints k r
    have e : ((n : Int) == (k : Int)) = (k == n) := by
      by_cases h : n = k
      · subst h
        simp
      · have h1 : ((n : Int) == (k : Int)) = false := by
          rw [beq_eq_false_iff_ne]
          omega
        have h2 : (k == n) = false := by
          rw [beq_eq_false_iff_ne]
          omega
        rw [h1, h2]
    show (((n : Int) == (k : Int)) || inV (.int (k : Int)) (vI r)) = _
    rw [e, ih, List.contains_cons]
theorem flat_ints (ns : List Nat) : (vI ns).all flatV = true := by
  rw [List.all_eq_true]
  intro x hx
  obtain ⟨n, _, rfl⟩ := List.mem_map.mp hx
  rfl
theorem vI_at {ws : List Nat} {i : Nat} {x : V} (h : (vI ws)[i]? = some x) : ∃ n : Nat, ws[i]? = some n ∧ x = .int (n : Int) := by
  unfold vI at h
  rw [List.getElem?_map] at h
  cases e : ws[i]? with
  | none =>
    rw [e] at h
    cases h
  | some n =>
    rw [e] at h
    exact ⟨n, rfl, (Option.some.inj h).symm⟩
theorem drop_at {α : Type} {ws : List α} {i : Nat} {n : α} (h : ws[i]? = some n) : ws.drop i = n :: ws.drop (i + 1) := by
  obtain ⟨hi, rfl⟩ := List.getElem?_eq_some_iff.mp h
  exact List.drop_eq_getElem_cons hi
def spCanCome (K : PySem.W.Frag) : Sp := fun vs H Q _ => ∃ (a p : Addr) (l : Lake) (b : Nat) (ws : List Nat), vs = [.ref a, .int (b : Int), .ref p] ∧ LakeAt K H a l ∧ SqL K H p (vI ws) ∧ b < l.weathers.length ∧ (∀ k ∈ ws, k < l.weathers.length) ∧ RetV (.bl (Vbirak.mayCome l b ws)) H Q
theorem ok_can_come (T : Tx K mg)  : Fn P w K mg base 1 (He.ga K "can_come") ["lake", "before", "weather"] (spCanCome K) := by
  have sc : FnScope ["lake", "before", "weather", "kind"] ["lake", "before", "weather"] (defScope s_can_come) := ⟨rfl, rfl, rfl, by decide +kernel, rfl, by decide +kernel, by decide +kernel⟩
  refine fn_mk (k := 0) T.fun_can_come sc (fun _ _ _ _ _ _ us hl => match us, hl with | [_, _, _], _ => rfl) (fun vs H Q E h => ?len) (fun cdv A outer s H vs Q E hr h => ⟨_, (pss_cons (ps_for (passes_of rfl) rfl (pi_list (pv 2)) (pg_name (i := 3) sc.nd rfl (Or.inl rfl)) (pss_cons (ps_if (pt_cmpR op_notIn_seq (pv 3) (pe_fld (pe_ix ix_list (pe_fld (pv 0) rfl) (pv 1) (fun _ _ => rfl)) rfl) (by rfl)) (pss_one (ps_ret pe_bl)) pss_nil)
      (pss_one (ps_set (i := 1) sc.nd rfl (Or.inl rfl) (pv 3)))))
      (pss_one (ps_ret pe_bl))), ?rd⟩)
  case len =>
    obtain ⟨a, p, l, b, ws, rfl, _⟩ := h
    rfl
  case rd =>
    obtain ⟨a, p, l, b, ws, rfl, hL, hS, hb, hw, q⟩ := h
    refine q_forLn (ev_var rfl) hS (fun i σ' H' => Ex H H' ∧ ∃ (c : Nat) (v : Option V), c < l.weathers.length ∧ σ' = [some (.ref a), some (.int (c : Int)), some (.ref p), v] ∧ Vbirak.mayCome l b ws = Vbirak.mayCome l c (ws.drop i))
      (fun H1 e => ⟨e, b, none, hb, rfl, rfl⟩) (fun i σ' H' _ z => ex_l z.1 hS) ?_ ?_
    · rintro i x σ' H' hx ⟨e, c, v, hc, rfl, hm⟩
      obtain ⟨n, hn, rfl⟩ := vI_at hx
      have hnl : n < l.weathers.length := hw n (List.mem_of_getElem? hn)
      obtain ⟨y, hy, ey⟩ := ev_kind (ta := tVar 0) (tb := tVar 1) (σ := [some (.ref a), some (.int (c : Int)), some (.ref p), some (.int (n : Int))]) T (ev_var rfl) (hL.ex e) (ev_var rfl) (List.getElem?_eq_getElem hc)
      obtain ⟨fl, ef, hf⟩ := ev_follows T ey hy
      have hnx : l.weathers[c].next = nextOf l c := (next_at (List.getElem?_eq_getElem hc)).symm
      rw [hnx] at hf
      rw [drop_at hn] at hm
      have hm2 : Vbirak.mayCome l b ws = ((nextOf l c).contains n && Vbirak.mayCome l n (ws.drop (i + 1))) := hm
      refine q_when (et_test (ev_op (ev_var rfl) ef (rv_niL (sq_of hf) rfl (flat_ints _)))) (fun hb H1 e1 => ?_) (fun hb H1 e1 => ?_)
      · refine s_ret ev_c fun H2 e2 => ?_
        have z : Vbirak.mayCome l b ws = false := by
          rw [inV_ints] at hb
          rw [hm2, (Bool.not_eq_true' _).mp hb]
          rfl
        rw [z] at q
        exact q H2 ((e.trans e1).trans e2)
      · refine s_asg (ev_var rfl) fun H2 e2 => ⟨(e.trans e1).trans e2, n, _, hnl, rfl, ?_⟩
        rw [inV_ints] at hb
        have hb' : (nextOf l c).contains n = true := by
          cases z : (nextOf l c).contains n with
          | true => rfl
          | false =>
            rw [z] at hb
            cases hb
        rw [hm2, hb', Bool.true_and]
    · rintro σ' H' ⟨e, c, v, hc, rfl, hm⟩
      refine s_ret ev_c fun H2 e2 => ?_
      rw [vI_len, List.drop_length] at hm
      have z : Vbirak.mayCome l b ws = true := hm
      rw [z] at q
      exact q H2 (e.trans e2)
/-! ### what is sure -/
/-- a list of lists of numbers -/
def RowAt (H : Hp) (p : Addr) (row : List (List Nat)) : Prop := ∃ as, H p = some (.lst (as.map V.ref)) ∧ All2 (IntsAt H) as row
theorem RowAt.ex {H H' : Hp} {p : Addr} {row : List (List Nat)} (h : RowAt H p row) (e : Ex H H') : RowAt H' p row := by
  obtain ⟨as, h1, h2⟩ := h
  exact ⟨as, e _ _ h1, h2.imp fun _ _ z => z.ex e⟩
theorem ev_row {σ : L2.St} {H : Hp} {ta tb : TE} {p : Addr} {row : List (List Nat)} {k : Nat} {ns : List Nat} (ha : Ev ta σ H (.ref p)) (h : RowAt H p row) (hb : Ev tb σ H (.int (k : Int))) (hk : row[k]? = some ns) : ∃ a, IntsAt H a ns ∧ Ev (tOp (rIxL K) ta tb) σ H (.ref a) := by
  obtain ⟨as, h1, h2⟩ := h
  obtain ⟨a, hp, r⟩ := h2.get hk
  exact ⟨a, r, ev_op ha hb (rv_ixL (sq_of h1) (atI_nat (ref_get hp)))⟩
theorem ev_int {σ : L2.St} {H : Hp} {ta tb : TE} {p : Addr} {ns : List Nat} {k n : Nat} (ha : Ev ta σ H (.ref p)) (h : IntsAt H p ns) (hb : Ev tb σ H (.int (k : Int))) (hk : ns[k]? = some n) : Ev (tOp (rIxL K) ta tb) σ H (.int (n : Int)) :=
  ev_op ha hb (rv_ixL (sq_of h) (atI_nat (vI_get hk)))
def spOuts (K : PySem.W.Frag) : Sp := fun vs H Q _ => ∃ (a p : Addr) (l : Lake) (row : Vbirak.Row) (x b : Nat), vs = [.ref a, .ref p, .int (x : Int), .int (b : Int)] ∧ LakeAt K H a l ∧ Fit l ∧ RowAt H p row ∧ RowFit l row ∧ b < l.weathers.length ∧ RetL (vI (outs l row x b)) H Q
theorem spv_level {a : Addr} {l : Lake} {x k : Nat} {H : Hp} (hL : LakeAt K H a l) (hk : k < l.weathers.length) : SpV (spLevelBehind K) [.ref a, .int (x : Int), .int (k : Int)] H (.int ((lb l x k : Nat) : Int)) :=
  fun H1 e Q q E => ⟨a, l, x, k, rfl, hL.ex e, hk, q⟩
theorem sure_row {l : Lake} {row : Vbirak.Row} (R : RowFit l row) {k x : Nat} (hk : k < l.weathers.length) (hx : x ≤ l.holds) : ∃ ns, row[k]? = some ns ∧ ns[x]? = some (sureAt row k x) := by
  have hk' : k < row.length := by
    rw [R.len]
    exact hk
  have hl := R.each k _ (List.getElem?_eq_getElem hk')
  have hx' : x < (row[k]).length := by omega
  refine ⟨row[k], List.getElem?_eq_getElem hk', ?_⟩
  simp [Vbirak.sureAt, List.getD_eq_getElem?_getD, List.getElem?_eq_getElem hk', List.getElem?_eq_getElem hx']
theorem ok_sure_behind_kinds (T : Tx K mg) (F_level_behind : Fn P w K mg base 1 (He.ga K "level_behind") ["lake", "left", "kind"] (spLevelBehind K)) : Fn P w K mg base 2 (He.ga K "sure_behind_kinds") ["lake", "behind", "left", "before"] (spOuts K) := by
  have sc : FnScope ["lake", "behind", "left", "before", "kind"] ["lake", "behind", "left", "before"] (defScope s_sure_behind_kinds) := ⟨rfl, rfl, rfl, by decide +kernel, rfl, by decide +kernel, by decide +kernel⟩
  refine fn_mk (k := 1) T.fun_sure_behind_kinds sc (fun _ _ _ _ _ _ us hl => match us, hl with | [_, _, _, _], _ => rfl) (fun vs H Q E h => ?len) (fun cdv A outer s H vs Q E hr h => ⟨_, (pss_one (ps_ret (pe_lc (own := [("kind", 4)]) (g := gName 4) (tt := tYes) rfl sc.nd (pi_list (pe_fld (pe_ix ix_list (pe_fld (pv 0) rfl) (pv 3) (fun _ _ => rfl)) rfl)) (blkOk_by (own := [("kind", 4)]) (N := ["lake", "behind", "left", "before", "kind"]) (sc := defScope s_sure_behind_kinds) (by decide +kernel)) (fun _ _ _ _ _ => pg_name (i := 4) sc.nd rfl (Or.inl rfl)) (fun _ _ _ _ _ => pts_nil) (fun _ _ _ _ _ => (pe_ix (r := rIxL K) ix_list (pe_ix (r := rIxL K) ix_list (pv 1) (pv 4) (fun _ _ => rfl)) (pe_f F_level_behind hr (by decide) T.glo_level_behind passL (pa_c (pv 0) (pa_c (pv 2) (pa_c (pv 4) pa_nil)))) (fun _ _ => rfl)))))), ?rd⟩)
  case len =>
    obtain ⟨a, p, l, row, x, b, rfl, _⟩ := h
    rfl
  case rd =>
    obtain ⟨a, p, l, row, x, b, rfl, hL, F, hR, R, hb, q⟩ := h
    obtain ⟨y, hy, ey⟩ := ev_kind (ta := tVar 0) (tb := tVar 3) (σ := start ["lake", "behind", "left", "before", "kind"] [.ref a, .ref p, .int (x : Int), .int (b : Int)]) T (ev_var rfl) hL (ev_var rfl) (List.getElem?_eq_getElem hb)
    obtain ⟨fl, ef, hf⟩ := ev_follows T ey hy
    have hnx : l.weathers[b].next = nextOf l b := (next_at (List.getElem?_eq_getElem hb)).symm
    rw [hnx] at hf
    have hlen := next_len F hb
    refine s_retL (xs := vI (outs l row x b)) ?_ q
    have key := el_lcL (K := K) (σ := start ["lake", "behind", "left", "before", "kind"] [.ref a, .ref p, .int (x : Int), .int (b : Int)]) (H := H) (t := tYes) (j := 4) (vs := [4]) (tl := tFld K (tOp (rIxL K) (tFld K (tVar 0) "kinds") (tVar 3)) "follows") (te := tOp (rIxL K) (tOp (rIxL K) (tVar 1) (tVar 4)) (tCall (spLevelBehind K) [] E0 (tCons (tVar 0) (tCons (tVar 2) (tCons (tVar 4) tNil)))))
      (fun _ => true) (fun i => .int ((sureAt row ((nextOf l b).getD i 0) (lb l x ((nextOf l b).getD i 0)) : Nat) : Int)) ef (sq_of hf) (by rw [vI_len]; omega) (fun _ => rfl) (fun _ _ _ _ _ => et_yes) ?_
    · rw [given_all, vI_len] at key
      have e : (List.range (nextOf l b).length).map (fun i => V.int ((sureAt row ((nextOf l b).getD i 0) (lb l x ((nextOf l b).getD i 0)) : Nat) : Int)) = vI (outs l row x b) := by
        unfold vI outs
        rw [List.map_map]
        refine map_range_get _ _ _ fun i k hk => ?_
        rw [List.getD_eq_getElem?_getD, hk]
        rfl
      rw [e] at key
      exact key
    · intro i v H1 e1 hv _
      obtain ⟨n, hn, rfl⟩ := vI_at hv
      have hnl : n < l.weathers.length := next_lt F hb (List.mem_of_getElem? hn)
      obtain ⟨ns, hns, hat⟩ := sure_row R hnl (lb_le l x n)
      obtain ⟨c, hc, ec⟩ := ev_row (K := K) (ta := tVar 1) (tb := tVar 4) (σ := [some (.ref a), some (.ref p), some (.int (x : Int)), some (.int (b : Int)), some (.int (n : Int))]) (ev_var rfl) (hR.ex e1) (ev_var rfl) hns
      have eg : (nextOf l b).getD i 0 = n := by
        rw [List.getD_eq_getElem?_getD, hn]
        rfl
      show Ev _ [some (.ref a), some (.ref p), some (.int (x : Int)), some (.int (b : Int)), some (.int (n : Int))] H1 _
      rw [eg]
      exact ev_int ec hc (ev_call (ea_cons (ev_var rfl) (ea_cons (ev_var rfl) (ea_cons (ev_var rfl) ea_nil))) (spv_level (hL.ex e1) hnl)) hat
/-- [e for i in range(n)], each a number -/
theorem el_rng {σ : L2.St} {H : Hp} {ta : TA} {te : TE} {j : Nat} {vs : List Nat} {n : Nat} (f : Nat → Nat) (h : EvA ta σ H [.int (n : Int)]) (hn : n ≤ 1000) (hw : ∀ x, wipe ((wipe σ vs).set j (some x)) vs = wipe σ vs)
    (he : ∀ (i : Nat) H1, Ex H H1 → i < n → Ev te ((wipe σ vs).set j (some (.int (i : Int)))) H1 (.int ((f i : Nat) : Int))) : EvL (tLc (iRng1 ta) (gName j) tYes te vs) σ H (vI ((List.range n).map f)) := by
  have key := el_lcR1 (t := tYes) (te := te) (j := j) (vs := vs) (n := (n : Int)) (fun _ => true) (fun i => .int ((f i : Nat) : Int)) h ⟨by omega, by omega⟩ hw (fun _ _ _ _ => et_yes) (fun i H1 e hi _ => he i H1 e (by omega))
  rw [given_all] at key
  have e : (List.range (n : Int).toNat).map (fun i => V.int ((f i : Nat) : Int)) = vI ((List.range n).map f) := by
    unfold vI
    rw [List.map_map, Int.toNat_natCast]
    rfl
  rw [e] at key
  exact key
theorem spl_outs {a p : Addr} {l : Lake} {row : Vbirak.Row} {x b : Nat} {H : Hp} (hL : LakeAt K H a l) (F : Fit l) (hR : RowAt H p row) (R : RowFit l row) (hb : b < l.weathers.length) : SpL (spOuts K) [.ref a, .ref p, .int (x : Int), .int (b : Int)] H (vI (outs l row x b)) :=
  fun H1 e Q q E => ⟨a, p, l, row, x, b, rfl, hL.ex e, F, hR.ex e, R, hb, q⟩
def spLeasts (K : PySem.W.Frag) : Sp := fun vs H Q _ => ∃ (a p : Addr) (l : Lake) (row : Vbirak.Row) (b : Nat), vs = [.ref a, .ref p, .int (b : Int)] ∧ LakeAt K H a l ∧ Fit l ∧ RowAt H p row ∧ RowFit l row ∧ b < l.weathers.length ∧ RetL (vI (leasts l row b)) H Q
theorem ok_least_by_left (T : Tx K mg) (F_sure_behind_kinds : Fn P w K mg base 2 (He.ga K "sure_behind_kinds") ["lake", "behind", "left", "before"] (spOuts K)) : Fn P w K mg base 3 (He.ga K "least_by_left") ["lake", "behind", "before"] (spLeasts K) := by
  have sc : FnScope ["lake", "behind", "before", "left"] ["lake", "behind", "before"] (defScope s_least_by_left) := ⟨rfl, rfl, rfl, by decide +kernel, rfl, by decide +kernel, by decide +kernel⟩
  refine fn_mk (k := 2) T.fun_least_by_left sc (fun _ _ _ _ _ _ us hl => match us, hl with | [_, _, _], _ => rfl) (fun vs H Q E h => ?len) (fun cdv A outer s H vs Q E hr h => ⟨_, (pss_one (ps_ret (pe_lc (own := [("left", 3)]) (g := gName 3) (tt := tYes) rfl sc.nd (pi_range1 rfl T.free_range (pa_c (pe_op op_add (pe_fld (pv 0) rfl) pe_int) pa_nil)) (blkOk_by (own := [("left", 3)]) (N := ["lake", "behind", "before", "left"]) (sc := defScope s_least_by_left) (by decide +kernel)) (fun _ _ _ _ _ => pg_name (i := 3) sc.nd rfl (Or.inl rfl)) (fun _ _ _ _ _ => pts_nil) (fun _ _ _ _ _ => (pe_callB (r := rMin K) (cr_min rfl) (by rfl) T.free_min (by decide +kernel) (pa_c (pe_f F_sure_behind_kinds hr (by decide) T.glo_sure_behind_kinds passL (pa_c (pv 0) (pa_c (pv 1) (pa_c (pv 3) (pa_c (pv 2) pa_nil))))) pa_nil)))))), ?rd⟩)
  case len =>
    obtain ⟨a, p, l, row, b, rfl, _⟩ := h
    rfl
  case rd =>
    obtain ⟨a, p, l, row, b, rfl, hL, F, hR, R, hb, q⟩ := h
    have hh := F.holds
    refine s_retL (xs := vI (leasts l row b)) (el_rng (n := l.holds + 1) (leastLeft l row b) (ea_cons (ev_is (ev_op (ev_holds T (ev_var rfl) hL) ev_c rv_I0) rfl) ea_nil) (by omega) (fun _ => rfl) fun i H1 e1 hi => ?_) q
    show Ev _ [some (.ref a), some (.ref p), some (.int (b : Int)), some (.int (i : Int))] H1 _
    have key := el_call (sp := spOuts K) (dvs := []) (E := E0) (ta := tCons (tVar 0) (tCons (tVar 1) (tCons (tVar 3) (tCons (tVar 2) tNil)))) (σ := [some (.ref a), some (.ref p), some (.int (b : Int)), some (.int (i : Int))]) (ea_cons (ev_var rfl) (ea_cons (ev_var rfl) (ea_cons (ev_var rfl) (ea_cons (ev_var rfl) ea_nil)))) (spl_outs (x := i) (hL.ex e1) F (hR.ex e1) R hb)
    rw [vI_eq] at key
    refine ev_minN key ?_ fun k h1 h2 => least_is h1 h2
    rw [List.length_map]
    unfold outs
    rw [List.length_map]
    exact List.length_pos_iff.mpr (next_ne F hb)
def spWorths (K : PySem.W.Frag) : Sp := fun vs H Q _ => ∃ (a p : Addr) (l : Lake) (ls : List Nat) (t x : Nat), vs = [.ref a, .int (t : Int), .ref p, .int (x : Int)] ∧ LakeAt K H a l ∧ Fit l ∧ IntsAt H p ls ∧ ls.length = l.holds + 1 ∧ x ≤ l.holds ∧ RetL (vI (worthsOf l t ls x)) H Q
theorem table_of {l : Lake} (F : Fit l) (t : Nat) : ∃ ns, l.yields[t % l.yields.length]? = some ns ∧ ns.length = l.gate + 1 ∧ ∀ r, r ≤ l.gate → ns[r]? = some (yieldAt l t r) := by
  have hy : 0 < l.yields.length := F.y1
  have hi : t % l.yields.length < l.yields.length := Nat.mod_lt _ hy
  have hl := F.y3 _ (List.getElem_mem hi)
  refine ⟨_, List.getElem?_eq_getElem hi, hl, fun r hr => ?_⟩
  have hr' : r < (l.yields[t % l.yields.length]).length := by omega
  simp [Vbirak.yieldAt, List.getD_eq_getElem?_getD, List.getElem?_eq_getElem hi, List.getElem?_eq_getElem hr']
theorem ok_worths (T : Tx K mg) (F_season_table : Fn P w K mg base 1 (He.ga K "season_table") ["lake", "season"] (spSeasonTable K)) (F_most_letting : Fn P w K mg base 1 (He.ga K "most_letting") ["lake", "level"] (spMostLetting K)) : Fn P w K mg base 2 (He.ga K "worths") ["lake", "season", "had_by_left", "level"] (spWorths K) := by
  have sc : FnScope ["lake", "season", "had_by_left", "level", "table", "letting"] ["lake", "season", "had_by_left", "level"] (defScope s_worths) := ⟨rfl, rfl, rfl, by decide +kernel, rfl, by decide +kernel, by decide +kernel⟩
  refine fn_mk (k := 1) T.fun_worths sc (fun _ _ _ _ _ _ us hl => match us, hl with | [_, _, _, _], _ => rfl) (fun vs H Q E h => ?len) (fun cdv A outer s H vs Q E hr h => ⟨_, (pss_cons (ps_set (i := 4) sc.nd rfl (Or.inr rfl) (pe_f F_season_table hr (by decide) T.glo_season_table (passes_call (takes_of rfl rfl rfl rfl) (fun _ _ _ _ h => h)) (pa_c (pv 0) (pa_c (pv 1) pa_nil))))
      (pss_one (ps_ret (pe_lc (own := [("letting", 5)]) (g := gName 5) (tt := tYes) rfl sc.nd (pi_range1 rfl T.free_range (pa_c (pe_op op_add (pe_f F_most_letting hr (by decide) T.glo_most_letting (passes_call (takes_of rfl rfl rfl rfl) (fun _ _ _ _ h => h)) (pa_c (pv 0) (pa_c (pv 3) pa_nil))) pe_int) pa_nil)) (blkOk_by (own := [("letting", 5)]) (N := ["lake", "season", "had_by_left", "level", "table", "letting"]) (sc := defScope s_worths) (by decide +kernel)) (fun _ _ _ _ _ => pg_name (i := 5) sc.nd rfl (Or.inl rfl)) (fun _ _ _ _ _ => pts_nil) (fun _ _ _ _ _ => (pe_op op_add (pe_ix (r := rIxL K) ix_list (pv 4) (pv 5) (fun _ _ => rfl)) (pe_ix (r := rIxL K) ix_list (pv 2) (pe_op op_sub (pv 3) (pv 5)) (fun _ _ => rfl)))))))), ?rd⟩)
  case len =>
    obtain ⟨a, p, l, ls, t, x, rfl, _⟩ := h
    rfl
  case rd =>
    obtain ⟨a, p, l, ls, t, x, rfl, hL, F, hp, hls, hx, q⟩ := h
    obtain ⟨ns, hns, hnl, hy⟩ := table_of F t
    have hg := F.gate
    refine ⟨_, rfl, _, rfl, a, l, t, ns, rfl, hL, hns, fun c H1 e1 hc => ?_⟩
    dsimp only [gName]
    refine s_retL (xs := vI (worthsOf l t ls x)) (el_rng (n := min x l.gate + 1) (fun r => yieldAt l t r + ls.getD (x - r) 0) (ea_cons (ev_is (ev_op (ev_call (sp := spMostLetting K) (ea_cons (ev_var rfl) (ea_cons (ev_var rfl) ea_nil)) (fun H2 e2 Q q E => ⟨a, l, x, rfl, hL.ex (e1.trans e2), q⟩)) ev_c rv_I0) rfl) ea_nil) (by omega) (fun _ => rfl) fun i H2 e2 hi => ?_) (fun p' H2 np e2 h2 => q p' H2 (fresh_back e1 np) (e1.trans e2) h2)
    show Ev _ [some (.ref a), some (.int (t : Int)), some (.ref p), some (.int (x : Int)), some (.ref c), some (.int (i : Int))] H2 _
    have hxi : ls[x - i]? = some (ls.getD (x - i) 0) := by
      have : x - i < ls.length := by omega
      simp [List.getD_eq_getElem?_getD, List.getElem?_eq_getElem this]
    refine ev_op (ev_int (ev_var rfl) (hc.ex e2) (ev_var rfl) (hy i (by omega))) (ev_int (ev_var rfl) (hp.ex (e1.trans e2)) (ev_is (ev_op (ev_var rfl) (ev_var rfl) rv_I0) ?_) hxi) rv_I0
    show V.int ((x : Int) - (i : Int)) = V.int ((x - i : Nat) : Int)
    rw [Int.ofNat_sub (by omega)]
end
end Sl
namespace Sm
open Vbirak
/-! ### the most by level, whatever is had behind -/
def topOf (l : Lake) (t : Nat) (hs : List Nat) (x : Nat) : Nat := ((firstMost (fun r => yieldAt l t r + hs.getD (x - r) 0) (lettings l x)).map fun y => y.2).getD 0
theorem top_is {l : Lake} {t : Nat} {hs : List Nat} {x : Nat} {m : Int} (h1 : m ∈ (worthsOf l t hs x).map fun (n : Nat) => (n : Int)) (h2 : ∀ y ∈ (worthsOf l t hs x).map fun (n : Nat) => (n : Int), y ≤ m) : m = (topOf l t hs x : Int) := by
  obtain ⟨y, hy⟩ := fm_some (fun r => yieldAt l t r + hs.getD (x - r) 0) _ (lettings_ne l x)
  obtain ⟨e1, j, e2, e3, _⟩ := fm_spec _ _ y hy
  have hv : topOf l t hs x = y.2 := by
    unfold topOf
    rw [hy]
    rfl
  rw [hv]
  unfold worthsOf at h1 h2
  rw [List.map_map] at h1 h2
  obtain ⟨k, hk, rfl⟩ := List.mem_map.mp h1
  obtain ⟨i, hi, rfl⟩ := List.mem_iff_getElem.mp hk
  have a : yieldAt l t (lettings l x)[i] + hs.getD (x - (lettings l x)[i]) 0 ≤ y.2 := e3 i _ (List.getElem?_eq_getElem hi)
  have b : ((y.2 : Nat) : Int) ≤ ((yieldAt l t (lettings l x)[i] + hs.getD (x - (lettings l x)[i]) 0 : Nat) : Int) := h2 (y.2 : Int) (List.mem_map.mpr ⟨y.1, List.mem_of_getElem? e2, by show ((yieldAt l t y.1 + hs.getD (x - y.1) 0 : Nat) : Int) = _; rw [e1]⟩)
  show ((yieldAt l t (lettings l x)[i] + hs.getD (x - (lettings l x)[i]) 0 : Nat) : Int) = (y.2 : Int)
  omega
theorem opt_snd {f : Nat → Nat} {L : List Nat} (h : L ≠ []) : ((firstMost f L).map fun y => y.2).getD 0 = ((firstMost f L).getD (0, 0)).2 := by
  obtain ⟨y, hy⟩ := fm_some f L h
  rw [hy]
  rfl
theorem top_best (l : Lake) (t : Nat) (row : Row) {x : Nat} (w : Nat) (hx : x ≤ l.holds) : topOf l t (leasts l row w) x = (best l t row x w).2 := by
  unfold topOf best
  rw [opt_snd (lettings_ne l x)]
  have e : (fun r => yieldAt l t r + (leasts l row w).getD (x - r) 0) = worth l t row x w := funext fun r => (worth_eq l t row x w r hx).symm
  rw [e]
theorem tops_best (l : Lake) (t : Nat) (row : Row) (w : Nat) : (List.range (l.holds + 1)).map (topOf l t (leasts l row w)) = (List.range (l.holds + 1)).map fun x => (best l t row x w).2 :=
  List.map_congr_left fun x hx => top_best l t row w (by have := List.mem_range.mp hx; omega)
/-- what is had behind a season whose weather is known, by what is left -/
def behindOf (l : Lake) (later : List Nat) (k : Nat) : List Nat := (List.range (l.holds + 1)).map fun left => later.getD (lb l left k) 0
theorem behind_len (l : Lake) (later : List Nat) (k : Nat) : (behindOf l later k).length = l.holds + 1 := by simp [behindOf]
theorem behind_at (l : Lake) (later : List Nat) (k : Nat) {i : Nat} (hi : i ≤ l.holds) : (behindOf l later k).getD i 0 = later.getD (lb l i k) 0 := by
  unfold behindOf
  rw [List.getD_eq_getElem?_getD, List.getElem?_map, List.getElem?_range (by omega)]
  rfl
theorem known_row (l : Lake) (t k : Nat) (r : List Nat) : (List.range (l.holds + 1)).map (topOf l t (behindOf l (knownRow l (t + 1) r) k)) = knownRow l t (k :: r) := by
  show _ = (List.range (l.holds + 1)).map fun x => ((firstMost (fun out => yieldAt l t out + (knownRow l (t + 1) r).getD (levelBehind l x out k) 0) (lettings l x)).map fun y => y.2).getD 0
  refine List.map_congr_left fun x hx => ?_
  have hx' : x ≤ l.holds := by
    have := List.mem_range.mp hx
    omega
  unfold topOf
  have e : (fun r' => yieldAt l t r' + (behindOf l (knownRow l (t + 1) r) k).getD (x - r') 0) = fun out => yieldAt l t out + (knownRow l (t + 1) r).getD (levelBehind l x out k) 0 := funext fun out => by
    rw [behind_at l _ k (by omega)]
    rfl
  rw [e]
end Sm
namespace Sl
open PySem PySem.Spec PyProof.Rows L2
open Evl
open Vbirak (Lake Weather bringsOf nextOf yieldAt lettings sureAt)
open Sm
/-! ### what is new in a heap; a heap without one object -/
def nw (H H' : Hp) : Hp := fun b => match H b with
  | none => H' b
  | some _ => none
section
variable {H H1 H2 H' : Hp} {s p b : Addr} {o : HO}
theorem nw_at (h : H b = none) : nw H H' b = H' b := by
  unfold nw
  rw [h]
theorem nw_old (h : nw H H' b = some o) : H b = none ∧ H' b = some o := by
  unfold nw at h
  cases e : H b with
  | none =>
    rw [e] at h
    exact ⟨rfl, h⟩
  | some u =>
    rw [e] at h
    cases h
theorem ex_nw : Ex (nw H H') H' := fun _ _ h => (nw_old h).2
theorem nw_mono (e : Ex H1 H2) : Ex (nw H H1) (nw H H2) := fun b o h => by
  obtain ⟨h1, h2⟩ := nw_old h
  rw [nw_at h1]
  exact e _ _ h2
theorem nw_back (e : Ex H H1) : Ex (nw H1 H2) (nw H H2) := fun b o h => by
  obtain ⟨h1, h2⟩ := nw_old h
  rw [nw_at (fresh_back e h1)]
  exact h2
theorem ex_del : Ex (del H s) H := fun b o h => by
  by_cases hb : b = s
  · rw [hb, del_same] at h
    cases h
  · rw [del_ne hb] at h
    exact h
theorem del_mono (e : Ex H H') : Ex (del H s) (del H' s) := fun b o h => by
  by_cases hb : b = s
  · rw [hb, del_same] at h
    cases h
  · rw [del_ne hb] at h ⊢
    exact e _ _ h
theorem ex_del_upd : Ex (del H s) (del (upd H s o) s) := fun b u h => by
  by_cases hb : b = s
  · rw [hb, del_same] at h
    cases h
  · rw [del_ne hb] at h ⊢
    rw [upd_ne hb]
    exact h
theorem ex_nw_del (h : H s ≠ none) : Ex (nw H H') (del H' s) := fun b o q => by
  obtain ⟨h1, h2⟩ := nw_old q
  have hb : b ≠ s := fun e => h (by rw [← e]; exact h1)
  rw [del_ne hb]
  exact h2
theorem ex_nw_nd (h : H1 s ≠ none) (e : Ex H H1) : Ex (nw H1 H') (nw H (del H' s)) := fun b o q => by
  obtain ⟨h1, h2⟩ := nw_old q
  have hb : b ≠ s := fun z => h (by rw [← z]; exact h1)
  rw [nw_at (fresh_back e h1), del_ne hb]
  exact h2
end
/-- a new thing of which R holds, in what is new -/
def EvN (te : TE) (σ : L2.St) (H : Hp) (R : Hp → Addr → Prop) : Prop := ∀ H1, Ex H H1 → ∀ Q : VK, (∀ p H2, Ex H1 H2 → R (nw H1 H2) p → Q (.ref p) H2) → te σ H1 Q
def RetN (R : Hp → Addr → Prop) (H : Hp) (Q : VK) : Prop := ∀ p H2, Ex H H2 → R (nw H H2) p → Q (.ref p) H2
def Mono (R : Hp → Addr → Prop) : Prop := ∀ H H' p, Ex H H' → R H p → R H' p
section
variable {K : PySem.W.Frag} {σ : L2.St} {H : Hp} {te : TE} {D : Ends} {R : Hp → Addr → Prop}
theorem en_ints {ns : List Nat} (h : EvL te σ H (vI ns)) : EvN te σ H (fun h p => IntsAt h p ns) := fun H1 e Q q => h H1 e Q fun p H2 hp e2 h2 => q p H2 e2 (by
  show nw H1 H2 p = _
  rw [nw_at hp]
  exact h2)
theorem en_call {sp : Sp} {vs : List V} {E : XK} {ta : TA} (h : EvA ta σ H vs) (hs : ∀ H1, Ex H H1 → ∀ Q : VK, RetN R H1 Q → ∀ E, sp vs H1 Q E) (m : Mono R) : EvN (tCall sp [] E ta) σ H R := fun H1 e Q q =>
  h H1 e _ fun H2 e2 => by
    show sp (vs ++ []) H2 Q E
    rw [List.append_nil]
    exact hs H2 (e.trans e2) Q (fun p H3 e3 r => q p H3 (e2.trans e3) (m _ _ _ (nw_back e2) r)) E
theorem s_retN (h : EvN te σ H R) (k : RetN R H D.rt) : tRet te D σ H := h H (Ex.refl H) _ k
/-- a list of new things, one for each turn -/
def LsAt (R : Nat → Hp → Addr → Prop) (n : Nat) (h : Hp) (p : Addr) : Prop := ∃ as : List Addr, h p = some (.lst (as.map V.ref)) ∧ as.length = n ∧ ∀ (i : Nat) (a : Addr), as[i]? = some a → R i h a
def Lw (R : Nat → Hp → Addr → Prop) (H : Hp) (Dl : Addr) (i : Nat) (H' : Hp) : Prop := H Dl = none ∧ Ex H H' ∧ ∃ as : List Addr, H' Dl = some (.lst (as.map V.ref)) ∧ as.length = i ∧ ∀ (k : Nat) (a : Addr), as[k]? = some a → R k (nw H (del H' Dl)) a
theorem lw_turn {R : Nat → Hp → Addr → Prop} (m : ∀ i, Mono (R i)) {Dl : Addr} {i : Nat} {H' : Hp} {σ2 : L2.St} (p : Lw R H Dl i H') (hi : i < 50000) (he : EvN te σ2 H (R i)) :
    tYes σ2 H' fun b H3 => if b = true then te σ2 H3 fun y H4 => ∃ acc, H4 Dl = some (.lst acc) ∧ acc.length < sizeLine ∧ Lw R H Dl (i + 1) (upd H4 Dl (.lst (acc ++ [y]))) else Lw R H Dl (i + 1) H3 := by
  obtain ⟨p1, p2, as, p3, p4, p5⟩ := p
  show te σ2 H' fun y H4 => ∃ acc, H4 Dl = some (.lst acc) ∧ acc.length < sizeLine ∧ Lw R H Dl (i + 1) (upd H4 Dl (.lst (acc ++ [y])))
  refine he H' p2 _ fun a H4 e4 r => ⟨_, e4 _ _ p3, sz_lt (by rw [List.length_map]; omega), p1, Ex.mut (p2.trans e4) p1, as ++ [a], ?_, by simp [p4], fun k b hb => ?_⟩
  · rw [upd_same, List.map_append]
    rfl
  · have base : Ex (nw H (del H' Dl)) (nw H (del (upd H4 Dl (.lst (as.map V.ref ++ [.ref a]))) Dl)) := nw_mono (Ex.trans (del_mono e4) ex_del_upd)
    by_cases hk : k < as.length
    · rw [List.getElem?_append_left hk] at hb
      exact m k _ _ _ base (p5 k b hb)
    · have hl : k = as.length := by
        have := (List.getElem?_eq_some_iff.mp hb).1
        simp at this
        omega
      subst hl
      rw [List.getElem?_concat_length] at hb
      cases hb
      rw [p4]
      refine m i _ _ _ ?_ r
      exact Ex.trans (ex_nw_nd (by rw [p3]; simp) p2) (nw_mono ex_del_upd)
theorem lw_end {R : Nat → Hp → Addr → Prop} (m : ∀ i, Mono (R i)) {Dl : Addr} {n : Nat} {H' : Hp} (p : Lw R H Dl n H') : LsAt R n (nw H H') Dl := by
  obtain ⟨p1, p2, as, p3, p4, p5⟩ := p
  exact ⟨as, by rw [nw_at p1]; exact p3, p4, fun i a ha => m i _ _ _ (nw_mono ex_del) (p5 i a ha)⟩
theorem en_lcR {ta : TA} {j : Nat} {vs : List Nat} {n : Nat} (R : Nat → Hp → Addr → Prop) (m : ∀ i, Mono (R i)) (h : EvA ta σ H [.int (n : Int)]) (hn : n ≤ 40000) (hw : ∀ x, wipe ((wipe σ vs).set j (some x)) vs = wipe σ vs)
    (he : ∀ (i : Nat) H1, Ex H H1 → i < n → EvN te ((wipe σ vs).set j (some (.int (i : Int)))) H1 (R i)) : EvN (tLc (iRng1 ta) (gName j) tYes te vs) σ H (LsAt R n) := fun H0 e Q q => h H0 e _ fun H1 e1 => ⟨(n : Int), rfl, by omega, by omega, fun Dl hD =>
  lc_range (lo := 0) (n := (n : Int).toNat) (Lw R H1 Dl) ⟨hD, Ex.new hD, [], upd_same, rfl, fun k a ha => by simp at ha⟩ (fun i H' hi p => by
    have e0 : (0 : Int) + (i : Int) = (i : Int) := Int.zero_add _
    show wipe ((wipe σ vs).set j (some (.int ((0 : Int) + (i : Int))))) vs = wipe σ vs ∧ tYes ((wipe σ vs).set j (some (.int ((0 : Int) + (i : Int))))) H' fun b H3 => if b = true then te ((wipe σ vs).set j (some (.int ((0 : Int) + (i : Int))))) H3 fun y H4 => ∃ acc, H4 Dl = some (.lst acc) ∧ acc.length < sizeLine ∧ Lw R H1 Dl (i + 1) (upd H4 Dl (.lst (acc ++ [y]))) else Lw R H1 Dl (i + 1) H3
    rw [e0]
    exact ⟨hw _, lw_turn m p (by omega) (he i H1 (e.trans e1) (by omega))⟩) (fun H' p => q Dl H' (e1.trans p.2.1) (by
      have z := lw_end m p
      rw [Int.toNat_natCast] at z
      obtain ⟨as, z1, z2, z3⟩ := z
      exact ⟨as, nw_back e1 _ _ z1, z2, fun i a ha => m i _ _ _ (nw_back e1) (z3 i a ha)⟩))⟩
theorem en_lcL {a : Addr} {xs : List V} {tl : TE} {j : Nat} {vs : List Nat} (R : Nat → Hp → Addr → Prop) (m : ∀ i, Mono (R i)) (h : Ev tl σ H (.ref a)) (hx : SqL K H a xs) (hz : xs.length ≤ 40000) (hw : ∀ x, wipe ((wipe σ vs).set j (some x)) vs = wipe σ vs)
    (he : ∀ (i : Nat) (x : V) H1, Ex H H1 → xs[i]? = some x → EvN te ((wipe σ vs).set j (some x)) H1 (R i)) : EvN (tLc (iList K tl) (gName j) tYes te vs) σ H (LsAt R xs.length) := fun H0 e Q q => h H0 e _ fun H1 e1 => ⟨a, rfl, ⟨xs, ex_l (e.trans e1) hx⟩, fun Dl hD =>
  lc_list (xs := xs) (Lw R H1 Dl) ⟨hD, Ex.new hD, [], upd_same, rfl, fun k a ha => by simp at ha⟩ (fun i H' _ p => ex_l ((e.trans e1).trans p.2.1) hx)
    (fun i x H' hi p => ⟨hw x, lw_turn m p (by have := (List.getElem?_eq_some_iff.mp hi).1; omega) (he i x H1 (e.trans e1) hi)⟩)
    (fun H' p => q Dl H' (e1.trans p.2.1) (by
      obtain ⟨as, z1, z2, z3⟩ := lw_end m p
      exact ⟨as, nw_back e1 _ _ z1, z2, fun i a ha => m i _ _ _ (nw_back e1) (z3 i a ha)⟩))⟩
end
theorem mono_ints (ns : List Nat) : Mono (fun h p => IntsAt h p ns) := fun _ _ _ e h => h.ex e
theorem mono_row (row : List (List Nat)) : Mono (fun h p => RowAt h p row) := fun _ _ _ e h => h.ex e
theorem ls_row {h : Hp} {p : Addr} {n : Nat} {f : Nat → List Nat} (z : LsAt (fun i h p => IntsAt h p (f i)) n h p) : RowAt h p ((List.range n).map f) := by
  obtain ⟨as, h1, h2, h3⟩ := z
  refine ⟨as, h1, by simp [h2], fun i a x ha hx => ?_⟩
  rw [List.getElem?_map] at hx
  have hi : i < n := by
    rw [← h2]
    exact (List.getElem?_eq_some_iff.mp ha).1
  rw [List.getElem?_range hi] at hx
  cases hx
  exact h3 i a ha
section
variable {P : Program} {w : World} {K : PySem.W.Frag} {mg : Str → Option Value} {base : Heap}
def spByLevel (K : PySem.W.Frag) : Sp := fun vs H Q _ => ∃ (a p : Addr) (l : Lake) (row : Vbirak.Row) (t b : Nat), vs = [.ref a, .int (t : Int), .ref p, .int (b : Int)] ∧ LakeAt K H a l ∧ Fit l ∧ RowAt H p row ∧ RowFit l row ∧ b < l.weathers.length ∧
  RetL (vI ((List.range (l.holds + 1)).map fun x => (Vbirak.best l t row x b).2)) H Q
theorem leasts_len (l : Lake) (row : Vbirak.Row) (b : Nat) : (leasts l row b).length = l.holds + 1 := by simp [leasts]
def spBestBy (K : PySem.W.Frag) : Sp := fun vs H Q _ => ∃ (a p : Addr) (l : Lake) (hs : List Nat) (t : Nat), vs = [.ref a, .int (t : Int), .ref p] ∧ LakeAt K H a l ∧ Fit l ∧ IntsAt H p hs ∧ hs.length = l.holds + 1 ∧ RetL (vI ((List.range (l.holds + 1)).map (topOf l t hs))) H Q
theorem ok_best_by_level (T : Tx K mg) (F_worths : Fn P w K mg base 2 (He.ga K "worths") ["lake", "season", "had_by_left", "level"] (spWorths K)) : Fn P w K mg base 3 (He.ga K "best_by_level") ["lake", "season", "had_by_left"] (spBestBy K) := by
  have sc : FnScope ["lake", "season", "had_by_left", "level"] ["lake", "season", "had_by_left"] (defScope s_best_by_level) := ⟨rfl, rfl, rfl, by decide +kernel, rfl, by decide +kernel, by decide +kernel⟩
  refine fn_mk (k := 2) T.fun_best_by_level sc (fun _ _ _ _ _ _ us hl => match us, hl with | [_, _, _], _ => rfl) (fun vs H Q E h => ?len) (fun cdv A outer s H vs Q E hr h => ⟨_, (pss_one (ps_ret (pe_lc (own := [("level", 3)]) (g := gName 3) (tt := tYes) rfl sc.nd (pi_range1 rfl T.free_range (pa_c (pe_op op_add (pe_fld (pv 0) rfl) pe_int) pa_nil)) (blkOk_by (own := [("level", 3)]) (N := ["lake", "season", "had_by_left", "level"]) (sc := defScope s_best_by_level) (by decide +kernel)) (fun _ _ _ _ _ => pg_name (i := 3) sc.nd rfl (Or.inl rfl)) (fun _ _ _ _ _ => pts_nil) (fun _ _ _ _ _ => (pe_callB (r := rMax K) (cr_max rfl) (by rfl) T.free_max (by decide +kernel) (pa_c (pe_f F_worths hr (by decide) T.glo_worths passL (pa_c (pv 0) (pa_c (pv 1) (pa_c (pv 2) (pa_c (pv 3) pa_nil))))) pa_nil)))))), ?rd⟩)
  case len =>
    obtain ⟨a, p, l, hs, t, rfl, _⟩ := h
    rfl
  case rd =>
    obtain ⟨a, p, l, hs, t, rfl, hL, F, hp, hl, q⟩ := h
    have hh := F.holds
    refine s_retL (el_rng (n := l.holds + 1) (topOf l t hs) (ea_cons (ev_is (ev_op (ev_holds T (ev_var rfl) hL) ev_c rv_I0) rfl) ea_nil) (by omega) (fun _ => rfl) fun i H2 e2 hi => ?_) q
    show Ev _ [some (.ref a), some (.int (t : Int)), some (.ref p), some (.int (i : Int))] H2 _
    have key := el_call (sp := spWorths K) (dvs := []) (E := E0) (ta := tCons (tVar 0) (tCons (tVar 1) (tCons (tVar 2) (tCons (tVar 3) tNil)))) (σ := [some (.ref a), some (.int (t : Int)), some (.ref p), some (.int (i : Int))]) (H := H2) (xs := vI (worthsOf l t hs i))
      (ea_cons (ev_var rfl) (ea_cons (ev_var rfl) (ea_cons (ev_var rfl) (ea_cons (ev_var rfl) ea_nil)))) (fun H3 e3 Q q E => ⟨a, p, l, hs, t, i, rfl, hL.ex (e2.trans e3), F, hp.ex (e2.trans e3), hl, by omega, q⟩)
    rw [vI_eq] at key
    refine ev_maxN key ?_ fun k h1 h2 => top_is h1 h2
    rw [List.length_map]
    unfold worthsOf
    rw [List.length_map]
    exact List.length_pos_iff.mpr (lettings_ne l i)
theorem ok_sure_by_level (T : Tx K mg) (F_best_by_level : Fn P w K mg base 3 (He.ga K "best_by_level") ["lake", "season", "had_by_left"] (spBestBy K)) (F_least_by_left : Fn P w K mg base 3 (He.ga K "least_by_left") ["lake", "behind", "before"] (spLeasts K)) : Fn P w K mg base 4 (He.ga K "sure_by_level") ["lake", "season", "behind", "before"] (spByLevel K) := by
  have sc : FnScope ["lake", "season", "behind", "before"] ["lake", "season", "behind", "before"] (defScope s_sure_by_level) := ⟨rfl, rfl, rfl, by decide +kernel, rfl, by decide +kernel, by decide +kernel⟩
  refine fn_mk (k := 3) T.fun_sure_by_level sc (fun _ _ _ _ _ _ us hl => match us, hl with | [_, _, _, _], _ => rfl) (fun vs H Q E h => ?len) (fun cdv A outer s H vs Q E hr h => ⟨_, (pss_one (ps_ret (pe_f F_best_by_level hr (by decide) T.glo_best_by_level (passes_call (takes_of rfl rfl rfl rfl) (fun _ _ _ _ h => h)) (pa_c (pv 0) (pa_c (pv 1) (pa_c (pe_f F_least_by_left hr (by decide) T.glo_least_by_left (passes_call (takes_of rfl rfl rfl rfl) (fun _ _ _ _ h => h)) (pa_c (pv 0) (pa_c (pv 2) (pa_c (pv 3) pa_nil)))) pa_nil)))))), ?rd⟩)
  case len =>
    obtain ⟨a, p, l, row, t, b, rfl, _⟩ := h
    rfl
  case rd =>
    obtain ⟨a, p, l, row, t, b, rfl, hL, F, hR, R, hb, q⟩ := h
    rw [← tops_best] at q
    exact ⟨_, rfl, _, rfl, _, rfl, _, rfl, _, rfl, a, p, l, row, b, rfl, hL, F, hR, R, hb, fun c H1 nc e1 hc => ⟨a, c, l, leasts l row b, t, rfl, hL.ex e1, F, hc, leasts_len .., fun p' H2 np e2 h2 => q p' H2 (fresh_back e1 np) (e1.trans e2) h2⟩⟩
def spAtEnd (K : PySem.W.Frag) : Sp := fun vs H Q _ => ∃ (a : Addr) (l : Lake), vs = [.ref a] ∧ LakeAt K H a l ∧ Fit l ∧ RetL (vI ((List.range (l.holds + 1)).map fun x => l.rest * x)) H Q
theorem ok_sure_at_end (T : Tx K mg)  : Fn P w K mg base 1 (He.ga K "sure_at_end") ["lake"] (spAtEnd K) := by
  have sc : FnScope ["lake", "level"] ["lake"] (defScope s_sure_at_end) := ⟨rfl, rfl, rfl, by decide +kernel, rfl, by decide +kernel, by decide +kernel⟩
  refine fn_mk (k := 0) T.fun_sure_at_end sc (fun _ _ _ _ _ _ us hl => match us, hl with | [_], _ => rfl) (fun vs H Q E h => ?len) (fun cdv A outer s H vs Q E hr h => ⟨_, (pss_one (ps_ret (pe_lc (own := [("level", 1)]) (g := gName 1) (tt := tYes) rfl sc.nd (pi_range1 rfl T.free_range (pa_c (pe_op op_add (pe_fld (pv 0) rfl) pe_int) pa_nil)) (blkOk_by (own := [("level", 1)]) (N := ["lake", "level"]) (sc := defScope s_sure_at_end) (by decide +kernel)) (fun _ _ _ _ _ => pg_name (i := 1) sc.nd rfl (Or.inl rfl)) (fun _ _ _ _ _ => pts_nil) (fun _ _ _ _ _ => (pe_op op_mul (pe_fldK (K := K) rfl (pv 0) rfl) (pv 1)))))), ?rd⟩)
  case len =>
    obtain ⟨a, l, rfl, _⟩ := h
    rfl
  case rd =>
    obtain ⟨a, l, rfl, hL, F, q⟩ := h
    have hh := F.holds
    have hr := F.rest
    refine s_retL (el_rng (n := l.holds + 1) (fun x => l.rest * x) (ea_cons (ev_is (ev_op (ev_holds T (ev_var rfl) hL) ev_c rv_I0) rfl) ea_nil) (by omega) (fun _ => rfl) fun i H2 e2 hi => ?_) q
    show Ev _ [some (.ref a), some (.int (i : Int))] H2 _
    refine ev_is (ev_op (ev_rest T (ev_var rfl) (hL.ex e2)) (ev_var rfl) (rv_I (.inl ⟨?_, ?_⟩))) ?_
    · have : (0 : Int) ≤ (l.rest : Int) := Int.natCast_nonneg _
      omega
    · omega
    · show V.int ((l.rest : Int) * (i : Int)) = V.int ((l.rest * i : Nat) : Int)
      rw [Int.natCast_mul]
end
end Sl
namespace Sl
open PySem PySem.Spec PyProof.Rows L2
open Evl
open Vbirak (Lake Weather bringsOf nextOf yieldAt lettings sureAt)
open Sm
def RowsAt (H : Hp) (p : Addr) (rs : List Vbirak.Row) : Prop := ∃ as, H p = some (.lst (as.map V.ref)) ∧ All2 (RowAt H) as rs
theorem RowsAt.ex {H H' : Hp} {p : Addr} {rs : List Vbirak.Row} (h : RowsAt H p rs) (e : Ex H H') : RowsAt H' p rs := by
  obtain ⟨as, h1, h2⟩ := h
  exact ⟨as, e _ _ h1, h2.imp fun _ _ z => z.ex e⟩
theorem mono_rows (rs : List Vbirak.Row) : Mono (fun h p => RowsAt h p rs) := fun _ _ _ e h => h.ex e
theorem rowsFrom_len (l : Lake) : ∀ n, (Vbirak.rowsFrom l n).length = n + 1
  | 0 => rfl
  | n + 1 => by
    show (Vbirak.rowsFrom l n).length + 1 = _
    rw [rowsFrom_len l n]
theorem rowsFrom_fit (l : Lake) : ∀ n, ∀ (i : Nat) (row : Vbirak.Row), (Vbirak.rowsFrom l n)[i]? = some row → RowFit l row
  | 0, i, row, h => by
    cases i with
    | zero =>
      cases h
      exact endRow_fit l
    | succ i => simp [Vbirak.rowsFrom] at h
  | n + 1, i, row, h => by
    cases i with
    | zero =>
      cases h
      exact rowBefore_fit ..
    | succ i => exact rowsFrom_fit l n i row (by simpa [Vbirak.rowsFrom] using h)
theorem endRow_eq (l : Lake) : (List.range l.weathers.length).map (fun _ => (List.range (l.holds + 1)).map fun x => l.rest * x) = Vbirak.endRow l := by
  unfold Vbirak.endRow
  apply List.ext_getElem?
  intro i
  rw [List.getElem?_map, List.getElem?_map]
  by_cases hi : i < l.weathers.length
  · rw [List.getElem?_range hi, List.getElem?_eq_getElem hi] <;> rfl
  · rw [List.getElem?_eq_none (by simpa using hi), List.getElem?_eq_none (by simpa using hi)] <;> rfl
section
variable {K : PySem.W.Frag} {σ : L2.St} {H : Hp} {te : TE} {tz tu : TS} {g : TG} {D : Ends} {R : Hp → Addr → Prop}
/-- x = [e], e a new thing -/
theorem q_lst1 {i : Nat} (h : EvN te σ H R) (k : ∀ p0 H1 s, Ex H H1 → R (nw H H1) p0 → H1 s = none → tz D (σ.set i (some (.ref s))) (upd H1 s (.lst [.ref p0]))) : tSeq (tAsg (tLst (tCons te tNil)) (gName i)) tz D σ H :=
  h H (Ex.refl H) _ fun p0 H1 e1 r1 => ⟨(by show 1 ≤ sizeLine; decide), fun s hs => k p0 H1 s e1 r1 hs⟩
theorem a_cN {v : V} {Q : List V → Hp → Prop} (h : EvN te σ H R) (k : ∀ p H1, Ex H H1 → R (nw H H1) p → Q [v, .ref p] H1) : tCons (tC v) (tCons te tNil) σ H Q := h H (Ex.refl H) _ fun p H1 e r => k p H1 e r
/-- for x in range(a, b, c) -/
theorem q_rng3 {ta : TA} {i j c : Int} {n : Nat} {jj : Nat} (h : EvA ta σ H [.int i, .int j, .int c]) (hr : RgC i j c n) (Pv : Nat → L2.St → Hp → Prop) (h0 : ∀ H1, Ex H H1 → Pv 0 σ H1)
    (hs : ∀ (k : Nat) σ' H', k < n → Pv k σ' H' → tu { D with nx := Pv (k + 1), ct := Pv (k + 1), bk := tz D } (σ'.set jj (some (.int (i + (k : Int) * c)))) H') (hd : ∀ σ' H', Pv n σ' H' → tz D σ' H') :
    tSeq (tFor (iRng3 ta) (gName jj) tu) tz D σ H := h H (Ex.refl H) _ fun H1 e => ⟨i, j, c, n, rfl, hr, for_rangeC (D := { D with nx := tz D }) Pv (h0 H1 e) (fun k σ' H' hk p => hs k σ' H' hk p) hd⟩
end
section
variable {P : Program} {w : World} {K : PySem.W.Frag} {mg : Str → Option Value} {base : Heap}
def spAll (K : PySem.W.Frag) : Sp := fun vs H Q _ => ∃ (a : Addr) (l : Lake), vs = [.ref a] ∧ LakeAt K H a l ∧ Fit l ∧ RetN (fun h p => RowsAt h p (Vbirak.rows l)) H Q
theorem ok_all_sure (T : Tx K mg) (F_sure_at_end : Fn P w K mg base 1 (He.ga K "sure_at_end") ["lake"] (spAtEnd K)) (F_sure_by_level : Fn P w K mg base 4 (He.ga K "sure_by_level") ["lake", "season", "behind", "before"] (spByLevel K)) : Fn P w K mg base 5 (He.ga K "all_sure") ["lake"] (spAll K) := by
  have sc : FnScope ["lake", "sure", "season", "behind", "kind", "before"] ["lake"] (defScope s_all_sure) := ⟨rfl, rfl, rfl, by decide +kernel, rfl, by decide +kernel, by decide +kernel⟩
  refine fn_mk (k := 4) T.fun_all_sure sc (fun _ _ _ _ _ _ us hl => match us, hl with | [_], _ => rfl) (fun vs H Q E h => ?len) (fun cdv A outer s H vs Q E hr h => ⟨_, (pss_cons (ps_set (i := 1) sc.nd rfl (Or.inl rfl) (pe_lst (pa_c (pe_lc (own := [("kind", 4)]) (g := gName 4) (tt := tYes) rfl sc.nd (pi_list (pe_fld (pv 0) rfl)) (blkOk_by (own := [("kind", 4)]) (N := ["lake", "sure", "season", "behind", "kind", "before"]) (sc := defScope s_all_sure) (by decide +kernel)) (fun _ _ _ _ _ => pg_name (i := 4) sc.nd rfl (Or.inl rfl)) (fun _ _ _ _ _ => pts_nil) (fun _ _ _ _ _ => (pe_f F_sure_at_end hr (by decide) T.glo_sure_at_end passL (pa_c (pv 0) pa_nil)))) pa_nil)))
      (pss_cons (ps_for (passes_of rfl) rfl (pi_range3 rfl T.free_range (pa_c (pe_op op_sub (pe_fld (pv 0) rfl) pe_int) (pa_c (pe_un un_neg pe_int) (pa_c (pe_un un_neg pe_int) pa_nil)))) (pg_name (i := 2) sc.nd rfl (Or.inr rfl)) (pss_cons (ps_set (i := 3) sc.nd rfl (Or.inr rfl) (pe_ix ix_list (pv 1) pe_int (fun _ _ => rfl)))
      (pss_one (ps_expr (pe_bm PySem.F.plainAttrs_list PySem.F.slot_list_insert PySem.F.type_list_insert mt_insert (pv 1) (pa_c pe_int (pa_c (pe_lc (own := [("before", 5)]) (g := gName 5) (tt := tYes) rfl sc.nd (pi_range1 rfl T.free_range (pa_c (pe_callB call_len_seq (by rfl) T.free_len PySem.boot_len (pa_c (pe_fld (pv 0) rfl) pa_nil)) pa_nil)) (blkOk_by (own := [("before", 5)]) (N := ["lake", "sure", "season", "behind", "kind", "before"]) (sc := defScope s_all_sure) (by decide +kernel)) (fun _ _ _ _ _ => pg_name (i := 5) sc.nd rfl (Or.inl rfl)) (fun _ _ _ _ _ => pts_nil) (fun _ _ _ _ _ => (pe_f F_sure_by_level hr (by decide) T.glo_sure_by_level passL (pa_c (pv 0) (pa_c (pv 2) (pa_c (pv 3) (pa_c (pv 5) pa_nil))))))) pa_nil)))))))
      (pss_one (ps_ret (pv 1))))), ?rd⟩)
  case len =>
    obtain ⟨a, l, rfl, _⟩ := h
    rfl
  case rd =>
    obtain ⟨a, l, rfl, hL, F, q⟩ := h
    have hw1 := F.w1
    have hw2 := F.w2
    have hs2 := F.s2
    have hs1 := F.s1
    obtain ⟨kl, ks, ek, hk, hks⟩ := ev_kinds (ta := tVar 0) (σ := start ["lake", "sure", "season", "behind", "kind", "before"] [.ref a]) T (ev_var rfl) hL
    have hkl : (ks.map V.ref).length = l.weathers.length := by rw [List.length_map, hks.1]
    have first := en_lcL (K := K) (σ := start ["lake", "sure", "season", "behind", "kind", "before"] [.ref a]) (H := H) (j := 4) (vs := [4]) (te := tCall (spAtEnd K) [] E0 (tCons (tVar 0) tNil)) (fun _ h p => IntsAt h p ((List.range (l.holds + 1)).map fun x => l.rest * x)) (fun _ => mono_ints _) ek (sq_of hk) (by omega) (fun _ => rfl)
      (fun i x H1 e1 _ => en_ints (el_call (ea_cons (ev_var rfl) ea_nil) (fun H2 e2 Q q E => ⟨a, l, rfl, hL.ex (e1.trans e2), F, q⟩)))
    refine q_lst1 first fun p0 H1 s e1 r1 hs => ?_
    rw [hkl] at r1
    have r0 : RowAt (nw H H1) p0 (Vbirak.endRow l) := by
      have z := ls_row r1
      rw [endRow_eq] at z
      exact z
    have hsH : H s = none := fresh_back e1 hs
    have eseas : Ev (tFld K (tVar 0) "seasons") [some (.ref a), some (.ref s), none, none, none, none] (upd H1 s (.lst [.ref p0])) (.int (l.seasons : Int)) := ev_seasons T (ev_var rfl) (hL.ex (e1.trans (Ex.new hs)))
    have hrg : RgC ((l.seasons : Int) - 1) (-1) (-1) l.seasons := by
      have z := RgC.neg (i := (l.seasons : Int) - 1) (j := -1) (by omega) (by omega) (by omega) (by omega)
      have e : ((l.seasons : Int) - 1 - -1).toNat = l.seasons := by omega
      rw [e] at z
      exact z
    refine q_rng3 (ea_cons (ev_op eseas ev_c rv_I0) (ea_cons (ev_un ev_c ru_neg) (ea_cons (ev_un ev_c ru_neg) ea_nil))) (n := l.seasons) hrg (fun i σ' H' => Ex H H' ∧ ∃ v2 v3, σ' = [some (.ref a), some (.ref s), v2, v3, none, none] ∧ ∃ as, H' s = some (.lst (as.map V.ref)) ∧ All2 (RowAt (nw H (del H' s))) as (Vbirak.rowsFrom l i)) ?_ ?_ ?_
    · intro H2 e2
      refine ⟨(e1.trans (Ex.new hs)).trans e2, none, none, rfl, [p0], e2 _ _ upd_same, ?_⟩
      refine All2.cons All2.nil (r0.ex ?_)
      refine nw_mono fun b o hb => ?_
      have hbs : b ≠ s := ne_of_none hb hs
      rw [del_ne hbs]
      exact e2 _ _ (by rw [upd_ne hbs]; exact hb)
    · rintro i σ' H' hi ⟨ex, v2, v3, rfl, as, h1, h2⟩
      have hlen := rowsFrom_len l i
      obtain ⟨row, hrow⟩ : ∃ row, (Vbirak.rowsFrom l i)[0]? = some row := ⟨_, List.getElem?_eq_getElem (by omega)⟩
      have hhead : (Vbirak.rowsFrom l i).headD [] = row := by
        cases e : Vbirak.rowsFrom l i with
        | nil =>
          rw [e] at hrow
          cases hrow
        | cons x r =>
          rw [e] at hrow
          cases hrow
          rfl
      have R := rowsFrom_fit l i 0 row hrow
      obtain ⟨b0, hb0, rb0⟩ := h2.get hrow
      have rb : RowAt H' b0 row := rb0.ex (Ex.trans ex_nw ex_del)
      have et : ((l.seasons : Int) - 1 + ((i : Nat) : Int) * -1) = ((l.seasons - (i + 1) : Nat) : Int) := by omega
      rw [et]
      refine q_asg (v := .ref b0) (ev_op (ev_var rfl) ev_c (rv_ixL (sq_of h1) (atI_nat (ref_get hb0)))) fun H3 e3 => ?_
      -- sure.insert(0, [..])
      refine ⟨_, rfl, Or.inl ⟨rfl, _, sq_of (e3 _ _ h1)⟩, ?_⟩
      obtain ⟨kl', ks', ek', hk', hks'⟩ := ev_kinds (ta := tVar 0) (σ := [some (.ref a), some (.ref s), some (.int ((l.seasons - (i + 1) : Nat) : Int)), some (.ref b0), none, none]) T (ev_var rfl) (hL.ex (ex.trans e3))
      have comp := en_lcR (σ := [some (.ref a), some (.ref s), some (.int ((l.seasons - (i + 1) : Nat) : Int)), some (.ref b0), none, none]) (H := H3) (ta := tCons (tCB (fun xs H Q => ∃ p ys, xs = [.ref p] ∧ (SqL K H p ys ∨ SqT K H p ys) ∧ Q (.int ys.length) H) (tCons (tFld K (tVar 0) "kinds") tNil)) tNil) (j := 5) (vs := [5]) (n := l.weathers.length)
        (te := tCall (spByLevel K) [] E0 (tCons (tVar 0) (tCons (tVar 2) (tCons (tVar 3) (tCons (tVar 5) tNil))))) (fun b h p => IntsAt h p ((List.range (l.holds + 1)).map fun x => (Vbirak.best l (l.seasons - (i + 1)) row x b).2)) (fun _ => mono_ints _)
        (ea_cons (ev_is (ev_lenL ek' (sq_of hk')) (by rw [List.length_map, hks'.1])) ea_nil) (by omega) (fun _ => rfl)
        (fun b H4 e4 hb => en_ints (el_call (ea_cons (ev_var rfl) (ea_cons (ev_var rfl) (ea_cons (ev_var rfl) (ea_cons (ev_var rfl) ea_nil)))) (fun H5 e5 Q q E => ⟨a, b0, l, row, _, b, rfl, hL.ex (((ex.trans e3).trans e4).trans e5), F, rb.ex ((e3.trans e4).trans e5), R, hb, q⟩)))
      refine a_cN comp fun p1 H4 e4 r4 => ?_
      have r5 := ls_row r4
      refine ⟨s, as.map V.ref, 0, .ref p1, rfl, rfl, e4 _ _ (e3 _ _ h1), ?_, Int.le_refl 0, by decide, ?_⟩
      · refine sz_lt ?_
        rw [List.length_map, h2.1, hlen]
        omega
      · have hm : Ex (nw H (del H' s)) (nw H (del (upd H4 s (.lst (.ref p1 :: as.map V.ref))) s)) := nw_mono (Ex.trans (del_mono (e3.trans e4)) ex_del_upd)
        refine ⟨Ex.mut ((ex.trans e3).trans e4) hsH, _, _, rfl, p1 :: as, upd_same, ?_⟩
        show All2 _ (p1 :: as) (Vbirak.rowBefore l (l.seasons - (i + 1)) ((Vbirak.rowsFrom l i).headD []) :: Vbirak.rowsFrom l i)
        rw [hhead]
        refine All2.cons (h2.imp fun _ _ z => z.ex hm) ?_
        refine RowAt.ex r5 ?_
        exact Ex.trans (ex_nw_nd (H := H) (by rw [e3 _ _ h1]; simp) (ex.trans e3)) (nw_mono ex_del_upd)
    · rintro σ' H' ⟨ex, v2, v3, rfl, as, h1, h2⟩
      refine ⟨_, rfl, q s H' ex ⟨as, ?_, ?_⟩⟩
      · rw [nw_at hsH]
        exact h1
      · exact h2.imp fun _ _ z => z.ex (nw_mono ex_del)
end
end Sl
namespace Sl
open PySem PySem.Spec PyProof.Rows L2
open Evl
open Vbirak (Lake Weather bringsOf nextOf yieldAt lettings sureAt)
open Sm
section
variable {K : PySem.W.Frag} {σ : L2.St} {H : Hp} {ta te : TE}
theorem ev_index {p : Addr} {ns : List Nat} {m j : Nat} (ha : Ev ta σ H (.ref p)) (hp : IntsAt H p ns) (he : Ev te σ H (.int (m : Int))) (hj : ns[j]? = some m) (hf : ∀ i k : Nat, i < j → ns[i]? = some k → k ≠ m) : Ev (tBM K "list" (rIndex K) ta (tCons te tNil)) σ H (.int (j : Int)) := fun H1 e Q q =>
  ha H1 e _ fun H2 e2 => ⟨Or.inl ⟨rfl, _, sq_of ((e.trans e2) _ _ hp)⟩, he H2 (e.trans e2) _ fun H3 e3 => ⟨p, vI ns, .int (m : Int), j, .int (m : Int), rfl, rfl, sq_of (((e.trans e2).trans e3) _ _ hp), rfl, flat_ints ns, vI_get hj, by show ((m : Int) == (m : Int)) = true; simp, fun i z hi hz => by
    obtain ⟨n, hn, rfl⟩ := vI_at hz
    have := hf i n hi hn
    show ((n : Int) == (m : Int)) = false
    rw [beq_eq_false_iff_ne]
    omega, q H3 (e2.trans e3)⟩⟩
end
section
variable {P : Program} {w : World} {K : PySem.W.Frag} {mg : Str → Option Value} {base : Heap}
theorem ev_rows {σ : L2.St} {H : Hp} {ta tb : TE} {p : Addr} {rs : List Vbirak.Row} {k : Nat} {row : Vbirak.Row} (ha : Ev ta σ H (.ref p)) (h : RowsAt H p rs) (hb : Ev tb σ H (.int (k : Int))) (hk : rs[k]? = some row) : ∃ a, RowAt H a row ∧ Ev (tOp (rIxL K) ta tb) σ H (.ref a) := by
  obtain ⟨as, h1, h2⟩ := h
  obtain ⟨a, hp, r⟩ := h2.get hk
  exact ⟨a, r, ev_op ha hb (rv_ixL (sq_of h1) (atI_nat (ref_get hp)))⟩
def spBest (K : PySem.W.Frag) : Sp := fun vs H Q _ => ∃ (a p : Addr) (l : Lake) (rs : List Vbirak.Row) (row : Vbirak.Row) (t x b : Nat), vs = [.ref a, .ref p, .int (t : Int), .int (x : Int), .int (b : Int)] ∧ LakeAt K H a l ∧ Fit l ∧ RowsAt H p rs ∧ rs[t + 1]? = some row ∧ RowFit l row ∧ x ≤ l.holds ∧ b < l.weathers.length ∧
  RetV (.int (((Vbirak.best l t row x b).1 : Nat) : Int)) H Q
theorem best_at (l : Lake) (t : Nat) (row : Vbirak.Row) (x b : Nat) (hx : x ≤ l.holds) : (worthsOf l t (leasts l row b) x)[(Vbirak.best l t row x b).1]? = some (Vbirak.best l t row x b).2 ∧
    ∀ i k : Nat, i < (Vbirak.best l t row x b).1 → (worthsOf l t (leasts l row b) x)[i]? = some k → k ≠ (Vbirak.best l t row x b).2 := by
  obtain ⟨h1, h2, h3, h4⟩ := best_spec l t row x b
  rw [worths_eq l t row x b hx]
  refine ⟨?_, fun i k hi hk => ?_⟩
  · rw [List.getElem?_map]
    unfold Vbirak.lettings
    rw [List.getElem?_range (by omega), h1]
    rfl
  · rw [List.getElem?_map] at hk
    unfold Vbirak.lettings at hk
    rw [List.getElem?_range (by omega)] at hk
    cases hk
    have := h4 i hi
    omega
theorem ok_best_letting (T : Tx K mg) (F_least_by_left : Fn P w K mg base 3 (He.ga K "least_by_left") ["lake", "behind", "before"] (spLeasts K)) (F_worths : Fn P w K mg base 2 (He.ga K "worths") ["lake", "season", "had_by_left", "level"] (spWorths K)) : Fn P w K mg base 4 (He.ga K "best_letting") ["lake", "sure", "season", "level", "before"] (spBest K) := by
  have sc : FnScope ["lake", "sure", "season", "level", "before", "leasts", "choices"] ["lake", "sure", "season", "level", "before"] (defScope s_best_letting) := ⟨rfl, rfl, rfl, by decide +kernel, rfl, by decide +kernel, by decide +kernel⟩
  refine fn_mk (k := 3) T.fun_best_letting sc (fun _ _ _ _ _ _ us hl => match us, hl with | [_, _, _, _, _], _ => rfl) (fun vs H Q E h => ?len) (fun cdv A outer s H vs Q E hr h => ⟨_, (pss_cons (ps_set (i := 5) sc.nd rfl (Or.inl rfl) (pe_f F_least_by_left hr (by decide) T.glo_least_by_left (passes_call (takes_of rfl rfl rfl rfl) (fun _ _ _ _ h => h)) (pa_c (pv 0) (pa_c (pe_ix ix_list (pv 1) (pe_op op_add (pv 2) pe_int) (fun _ _ => rfl)) (pa_c (pv 4) pa_nil)))))
      (pss_cons (ps_set (i := 6) sc.nd rfl (Or.inl rfl) (pe_f F_worths hr (by decide) T.glo_worths (passes_call (takes_of rfl rfl rfl rfl) (fun _ _ _ _ h => h)) (pa_c (pv 0) (pa_c (pv 2) (pa_c (pv 5) (pa_c (pv 3) pa_nil))))))
      (pss_one (ps_ret (pe_bm PySem.F.plainAttrs_list PySem.F.slot_list_index PySem.F.type_list_index mt_index (pv 6) (pa_c (pe_callB (cr_max rfl) (by rfl) T.free_max (by decide +kernel) (pa_c (pv 6) pa_nil)) pa_nil)))))), ?rd⟩)
  case len =>
    obtain ⟨a, p, l, rs, row, t, x, b, rfl, _⟩ := h
    rfl
  case rd =>
    obtain ⟨a, p, l, rs, row, t, x, b, rfl, hL, F, hR, hrow, R, hx, hb, q⟩ := h
    obtain ⟨c, hc, ec⟩ := ev_rows (K := K) (ta := tVar 1) (tb := tOp (rI0 fun i j => V.int (i + j)) (tVar 2) (tC (.int 1))) (σ := start ["lake", "sure", "season", "level", "before", "leasts", "choices"] [.ref a, .ref p, .int (t : Int), .int (x : Int), .int (b : Int)]) (ev_var rfl) hR (ev_op (ev_var rfl) ev_c rv_I0) hrow
    refine q_asgL (xs := vI (leasts l row b)) (el_call (sp := spLeasts K) (ea_cons (ev_var rfl) (ea_cons ec (ea_cons (ev_var rfl) ea_nil))) (fun H1 e Q q E => ⟨a, c, l, row, b, rfl, hL.ex e, F, hc.ex e, R, hb, q⟩)) fun c1 H1 n1 e1 h1 => ?_
    have h1' : IntsAt H1 c1 (leasts l row b) := h1
    refine q_asgL (xs := vI (worthsOf l t (leasts l row b) x)) (el_call (sp := spWorths K) (ea_cons (ev_var rfl) (ea_cons (ev_var rfl) (ea_cons (ev_var rfl) (ea_cons (ev_var rfl) ea_nil)))) (fun H2 e2 Q q E => ⟨a, c1, l, _, t, x, rfl, hL.ex (e1.trans e2), F, h1'.ex e2, leasts_len .., hx, q⟩)) fun c2 H2 n2 e2 h2 => ?_
    have h2' : IntsAt H2 c2 (worthsOf l t (leasts l row b) x) := h2
    obtain ⟨z1, z2⟩ := best_at l t row x b hx
    refine s_ret (ev_index (ev_var rfl) h2' (ev_max (ns := (worthsOf l t (leasts l row b) x).map fun (n : Nat) => (n : Int)) (ev_var rfl) (by rw [← vI_eq]; exact sq_of h2) ?_ fun k k1 k2 => most_is hx k1 k2) z1 z2) fun H3 e3 => q H3 ((e1.trans e2).trans e3)
    rw [List.length_map]
    unfold worthsOf
    rw [List.length_map]
    exact List.length_pos_iff.mpr (lettings_ne l x)
def spAnswer (K : PySem.W.Frag) : Sp := fun vs H Q _ => ∃ (a p : Addr) (l : Lake) (rs : List Vbirak.Row) (row : Vbirak.Row) (t x b : Nat), vs = [.ref a, .ref p, .int (t : Int), .int (x : Int), .int (b : Int)] ∧ LakeAt K H a l ∧ Fit l ∧ RowsAt H p rs ∧ rs[t + 1]? = some row ∧ RowFit l row ∧ b < l.weathers.length ∧
  RetV (.int (((((Vbirak.firstLeast (fun k => sureAt row k (lb l x k)) (nextOf l b)).map fun y => y.1).getD 0 : Nat) : Int))) H Q
theorem ok_best_answer (T : Tx K mg) (F_sure_behind_kinds : Fn P w K mg base 2 (He.ga K "sure_behind_kinds") ["lake", "behind", "left", "before"] (spOuts K)) : Fn P w K mg base 3 (He.ga K "best_answer") ["lake", "sure", "season", "left", "before"] (spAnswer K) := by
  have sc : FnScope ["lake", "sure", "season", "left", "before", "outcomes"] ["lake", "sure", "season", "left", "before"] (defScope s_best_answer) := ⟨rfl, rfl, rfl, by decide +kernel, rfl, by decide +kernel, by decide +kernel⟩
  refine fn_mk (k := 2) T.fun_best_answer sc (fun _ _ _ _ _ _ us hl => match us, hl with | [_, _, _, _, _], _ => rfl) (fun vs H Q E h => ?len) (fun cdv A outer s H vs Q E hr h => ⟨_, (pss_cons (ps_set (i := 5) sc.nd rfl (Or.inl rfl) (pe_f F_sure_behind_kinds hr (by decide) T.glo_sure_behind_kinds (passes_call (takes_of rfl rfl rfl rfl) (fun _ _ _ _ h => h)) (pa_c (pv 0) (pa_c (pe_ix ix_list (pv 1) (pe_op op_add (pv 2) pe_int) (fun _ _ => rfl)) (pa_c (pv 3) (pa_c (pv 4) pa_nil))))))
      (pss_one (ps_ret (pe_ix ix_list (pe_fld (pe_ix ix_list (pe_fld (pv 0) rfl) (pv 4) (fun _ _ => rfl)) rfl) (pe_bm PySem.F.plainAttrs_list PySem.F.slot_list_index PySem.F.type_list_index mt_index (pv 5) (pa_c (pe_callB (cr_min rfl) (by rfl) T.free_min (by decide +kernel) (pa_c (pv 5) pa_nil)) pa_nil)) (fun _ _ => rfl))))), ?rd⟩)
  case len =>
    obtain ⟨a, p, l, rs, row, t, x, b, rfl, _⟩ := h
    rfl
  case rd =>
    obtain ⟨a, p, l, rs, row, t, x, b, rfl, hL, F, hR, hrow, R, hb, q⟩ := h
    obtain ⟨c, hc, ec⟩ := ev_rows (K := K) (ta := tVar 1) (tb := tOp (rI0 fun i j => V.int (i + j)) (tVar 2) (tC (.int 1))) (σ := start ["lake", "sure", "season", "left", "before", "outcomes"] [.ref a, .ref p, .int (t : Int), .int (x : Int), .int (b : Int)]) (ev_var rfl) hR (ev_op (ev_var rfl) ev_c rv_I0) hrow
    refine q_asgL (xs := vI (outs l row x b)) (el_call (sp := spOuts K) (ea_cons (ev_var rfl) (ea_cons ec (ea_cons (ev_var rfl) (ea_cons (ev_var rfl) ea_nil)))) (spl_outs hL F hc R hb)) fun c1 H1 n1 e1 h1 => ?_
    have h1' : IntsAt H1 c1 (outs l row x b) := h1
    obtain ⟨y, hy⟩ := fl_some (fun k => sureAt row k (lb l x k)) _ (next_ne F hb)
    obtain ⟨z1, j, z2, z3, z4⟩ := fl_spec _ _ y hy
    have hj : (outs l row x b)[j]? = some y.2 := by
      unfold outs
      rw [List.getElem?_map, z2, z1]
      rfl
    obtain ⟨k, hk, ek⟩ := ev_kind (ta := tVar 0) (tb := tVar 4) (σ := [some (.ref a), some (.ref p), some (.int (t : Int)), some (.int (x : Int)), some (.int (b : Int)), some (.ref c1)]) T (ev_var rfl) (hL.ex e1) (ev_var rfl) (List.getElem?_eq_getElem hb)
    obtain ⟨fl, ef, hf⟩ := ev_follows T ek hk
    rw [(next_at (List.getElem?_eq_getElem hb)).symm] at hf
    have hl : leastLeft l row b x = y.2 := by
      unfold leastLeft
      rw [hy]
      rfl
    refine s_ret (ev_is (ev_int ef hf (ev_index (m := y.2) (ev_var rfl) h1' (ev_min (ns := (outs l row x b).map fun (n : Nat) => (n : Int)) (ev_var rfl) (by rw [← vI_eq]; exact sq_of h1) ?_ fun m k1 k2 => (by rw [← hl]; exact least_is k1 k2)) hj fun i m hi hm => ?_) z2) ?_) fun H2 e2 => q H2 (e1.trans e2)
    · rw [List.length_map]
      unfold outs
      rw [List.length_map]
      exact List.length_pos_iff.mpr (next_ne F hb)
    · unfold outs at hm
      rw [List.getElem?_map] at hm
      cases e : (nextOf l b)[i]? with
      | none =>
        rw [e] at hm
        cases hm
      | some k' =>
        rw [e] at hm
        cases hm
        have z : y.2 < sureAt row k' (lb l x k') := z4 i k' hi e
        exact Nat.ne_of_gt z
    · rw [hy]
      rfl
end
end Sl
namespace Sm
open Vbirak
/-! ### a text cut to its end -/
abbrev Pcs := List (Nat × Tok)
def wordTok (w : List Nat) : Tok := if 8 < w.length then .wrong else .word w
def numTok (w : List Nat) : Tok := if 3 < w.length ∨ (1 < w.length ∧ w.headD 0 = 48) then .wrong else .num (value w)
def cutP : Nat → Nat → List Nat → Pcs
  | 0, _, _ => []
  | _ + 1, _, [] => []
  | f + 1, i, c :: t =>
    if isLetter c = true then (i, wordTok ((c :: t).takeWhile isLetter)) :: cutP f (i + ((c :: t).takeWhile isLetter).length) ((c :: t).drop ((c :: t).takeWhile isLetter).length)
    else if isDigit c = true then (i, numTok ((c :: t).takeWhile isDigit)) :: cutP f (i + ((c :: t).takeWhile isDigit).length) ((c :: t).drop ((c :: t).takeWhile isDigit).length)
    else if c = 59 then (i, .semi) :: cutP f (i + 1) t
    else if c = 32 ∨ c = 10 then cutP f (i + 1) t
    else (i, .wrong) :: cutP f (i + 1) t
/-- up to the first wrong one -/
def stopW : Pcs → Toks
  | [] => []
  | (i, .wrong) :: _ => [(i, .wrong)]
  | x :: r => x :: stopW r
theorem stop_word {i : Nat} {w : Bytes} {r : Pcs} : stopW ((i, .word w) :: r) = (i, .word w) :: stopW r := rfl
theorem stop_num {i n : Nat} {r : Pcs} : stopW ((i, .num n) :: r) = (i, .num n) :: stopW r := rfl
theorem stop_semi {i : Nat} {r : Pcs} : stopW ((i, .semi) :: r) = (i, .semi) :: stopW r := rfl
theorem stop_wrong {i : Nat} {r : Pcs} : stopW ((i, .wrong) :: r) = [(i, .wrong)] := rfl
theorem letter_facts {c : Nat} (h : isLetter c = true) : c ≠ 32 ∧ c ≠ 10 ∧ c ≠ 59 ∧ isDigit c = false := by
  unfold isLetter at h
  simp only [Bool.and_eq_true, decide_eq_true_eq] at h
  refine ⟨by omega, by omega, by omega, ?_⟩
  unfold isDigit
  simp only [Bool.and_eq_false_iff, decide_eq_false_iff_not]
  omega
theorem digit_facts {c : Nat} (h : isDigit c = true) : c ≠ 32 ∧ c ≠ 10 ∧ c ≠ 59 ∧ isLetter c = false := by
  unfold isDigit at h
  simp only [Bool.and_eq_true, decide_eq_true_eq] at h
  refine ⟨by omega, by omega, by omega, ?_⟩
  unfold isLetter
  simp only [Bool.and_eq_false_iff, decide_eq_false_iff_not]
  omega
theorem tokens_cut : ∀ (f i : Nat) (t : List Nat), tokens f i t = stopW (cutP f i t)
  | 0, _, _ => rfl
  | _ + 1, _, [] => rfl
  | f + 1, i, c :: t => by
    unfold tokens cutP
    by_cases h1 : isLetter c = true
    · obtain ⟨a, b, d, _⟩ := letter_facts h1
      rw [if_neg (by omega), if_neg d, if_pos h1, if_pos h1]
      simp only [wordTok]
      by_cases h2 : 8 < ((c :: t).takeWhile isLetter).length
      · rw [if_pos h2, if_pos h2, stop_wrong]
      · rw [if_neg h2, if_neg h2, stop_word, tokens_cut f]
    · rw [if_neg h1]
      by_cases h3 : isDigit c = true
      · obtain ⟨a, b, d, _⟩ := digit_facts h3
        rw [if_neg (by omega), if_neg d, if_neg h1, if_pos h3, if_pos h3]
        have hh : ((c :: t).takeWhile isDigit).headD 0 = c := by
          rw [List.takeWhile_cons, if_pos h3]
          rfl
        simp only [numTok, hh]
        by_cases h2 : 3 < ((c :: t).takeWhile isDigit).length ∨ (1 < ((c :: t).takeWhile isDigit).length ∧ c = 48)
        · rw [if_pos h2, if_pos h2, stop_wrong]
        · rw [if_neg h2, if_neg h2, stop_num, tokens_cut f]
      · rw [if_neg h3]
        by_cases h4 : c = 59
        · have h5 : ¬ (c = 32 ∨ c = 10) := by omega
          simp only [if_neg h5, if_pos h4, if_neg h1, if_neg h3, stop_semi, tokens_cut f]
        · by_cases h5 : c = 32 ∨ c = 10
          · simp only [if_pos h5, if_neg h4, if_neg h1, if_neg h3, tokens_cut f]
          · simp only [if_neg h5, if_neg h4, if_neg h1, if_neg h3, stop_wrong]
theorem tw_pos {p : Nat → Bool} {c : Nat} {t : List Nat} (h : p c = true) : 0 < ((c :: t).takeWhile p).length := by
  rw [List.takeWhile_cons, if_pos h]
  simp
theorem cut_fuel : ∀ (n f g i : Nat) (t : List Nat), t.length ≤ n → n < f → n < g → cutP f i t = cutP g i t
  | n, 0, _, _, _, _, h, _ => absurd h (Nat.not_lt_zero _)
  | n, _, 0, _, _, _, _, h => absurd h (Nat.not_lt_zero _)
  | n, f + 1, g + 1, i, [], _, _, _ => rfl
  | 0, f + 1, g + 1, i, c :: t, hn, _, _ => by simp at hn
  | n + 1, f + 1, g + 1, i, c :: t, hn, hf, hg => by
    have hn' : t.length ≤ n := by simpa using hn
    have d : ∀ k, 0 < k → ((c :: t).drop k).length ≤ n := fun k hk => by
      rw [List.length_drop, List.length_cons]
      omega
    unfold cutP
    by_cases h1 : isLetter c = true
    · rw [if_pos h1, if_pos h1, cut_fuel n f g _ _ (d _ (tw_pos h1)) (by omega) (by omega)]
    · rw [if_neg h1, if_neg h1]
      by_cases h2 : isDigit c = true
      · rw [if_pos h2, if_pos h2, cut_fuel n f g _ _ (d _ (tw_pos h2)) (by omega) (by omega)]
      · rw [if_neg h2, if_neg h2, cut_fuel n f g (i + 1) t hn' (by omega) (by omega)]
/-- the pieces of a text, without its end -/
def pcs (t : List Nat) : Pcs := cutP (t.length + 1) 0 t
/-- the pieces from a place on -/
def pcsAt (t : List Nat) (i : Nat) : Pcs := cutP (t.length + 1) i (t.drop i)
theorem pcsAt_zero (t : List Nat) : pcsAt t 0 = pcs t := rfl
theorem pcsAt_end (t : List Nat) : pcsAt t t.length = [] := by
  unfold pcsAt
  rw [List.drop_length]
  rfl
theorem toks_pcs (t : List Nat) : tokens (t.length + 1) 0 t = stopW (pcs t) := tokens_cut ..
/-- the run of a kind at a place -/
def runOf (p : Nat → Bool) (t : List Nat) (i : Nat) : List Nat := (t.drop i).takeWhile p
theorem tw_len (p : Nat → Bool) : ∀ t : List Nat, (t.takeWhile p).length ≤ t.length
  | [] => Nat.le_refl _
  | a :: t => by
    have := tw_len p t
    rw [List.takeWhile_cons]
    split
    · simp only [List.length_cons]
      omega
    · simp
theorem run_le (p : Nat → Bool) (t : List Nat) (i : Nat) (hi : i ≤ t.length) : i + (runOf p t i).length ≤ t.length := by
  unfold runOf
  have h := tw_len p (t.drop i)
  rw [List.length_drop] at h
  omega
theorem run_zero {p : Nat → Bool} {t : List Nat} {i c : Nat} (hc : t[i]? = some c) : (runOf p t i).length = 0 ↔ p c = false := by
  obtain ⟨hi, rfl⟩ := List.getElem?_eq_some_iff.mp hc
  unfold runOf
  rw [List.drop_eq_getElem_cons hi, List.takeWhile_cons]
  cases p t[i] <;> simp
theorem cut_letter {f i c : Nat} {t : List Nat} (h : isLetter c = true) : cutP (f + 1) i (c :: t) = (i, wordTok ((c :: t).takeWhile isLetter)) :: cutP f (i + ((c :: t).takeWhile isLetter).length) ((c :: t).drop ((c :: t).takeWhile isLetter).length) := if_pos h
theorem cut_digit {f i c : Nat} {t : List Nat} (h : isDigit c = true) : cutP (f + 1) i (c :: t) = (i, numTok ((c :: t).takeWhile isDigit)) :: cutP f (i + ((c :: t).takeWhile isDigit).length) ((c :: t).drop ((c :: t).takeWhile isDigit).length) :=
  (if_neg (by rw [(digit_facts h).2.2.2]; exact Bool.false_ne_true)).trans (if_pos h)
theorem step_letter {t : List Nat} {i c : Nat} (hc : t[i]? = some c) (h : isLetter c = true) : pcsAt t i = (i, wordTok (runOf isLetter t i)) :: pcsAt t (i + (runOf isLetter t i).length) := by
  obtain ⟨hi, rfl⟩ := List.getElem?_eq_some_iff.mp hc
  have e : t.drop i = t[i] :: t.drop (i + 1) := List.drop_eq_getElem_cons hi
  have hp : 0 < (runOf isLetter t i).length := by
    unfold runOf
    rw [e]
    exact tw_pos h
  show cutP (t.length + 1) i (t.drop i) = _ :: cutP (t.length + 1) (i + (runOf isLetter t i).length) (t.drop (i + (runOf isLetter t i).length))
  rw [e, cut_letter h, ← e]
  show (i, wordTok (runOf isLetter t i)) :: cutP t.length (i + (runOf isLetter t i).length) ((t.drop i).drop (runOf isLetter t i).length) = _
  rw [List.drop_drop]
  refine congrArg _ (cut_fuel (t.length - 1) t.length (t.length + 1) _ _ ?_ (by omega) (by omega))
  rw [List.length_drop]
  omega
theorem step_digit {t : List Nat} {i c : Nat} (hc : t[i]? = some c) (h : isDigit c = true) : pcsAt t i = (i, numTok (runOf isDigit t i)) :: pcsAt t (i + (runOf isDigit t i).length) := by
  obtain ⟨hi, rfl⟩ := List.getElem?_eq_some_iff.mp hc
  have e : t.drop i = t[i] :: t.drop (i + 1) := List.drop_eq_getElem_cons hi
  have hp : 0 < (runOf isDigit t i).length := by
    unfold runOf
    rw [e]
    exact tw_pos h
  show cutP (t.length + 1) i (t.drop i) = _ :: cutP (t.length + 1) (i + (runOf isDigit t i).length) (t.drop (i + (runOf isDigit t i).length))
  rw [e, cut_digit h, ← e]
  show (i, numTok (runOf isDigit t i)) :: cutP t.length (i + (runOf isDigit t i).length) ((t.drop i).drop (runOf isDigit t i).length) = _
  rw [List.drop_drop]
  refine congrArg _ (cut_fuel (t.length - 1) t.length (t.length + 1) _ _ ?_ (by omega) (by omega))
  rw [List.length_drop]
  omega
/-- the piece of a sign that is no letter and no digit: none for a blank -/
def signPc (i c : Nat) : Pcs := if c = 59 then [(i, .semi)] else if c = 32 ∨ c = 10 then [] else [(i, .wrong)]
theorem cut_sign {f i c : Nat} {t : List Nat} (h1 : isLetter c = false) (h2 : isDigit c = false) : cutP (f + 1) i (c :: t) = signPc i c ++ cutP f (i + 1) t := by
  have e : cutP (f + 1) i (c :: t) = (if c = 59 then (i, .semi) :: cutP f (i + 1) t else if c = 32 ∨ c = 10 then cutP f (i + 1) t else (i, .wrong) :: cutP f (i + 1) t) :=
    (if_neg (by rw [h1]; exact Bool.false_ne_true)).trans (if_neg (by rw [h2]; exact Bool.false_ne_true))
  rw [e]
  unfold signPc
  split
  · rfl
  · split <;> rfl
theorem step_sign {t : List Nat} {i c : Nat} (hc : t[i]? = some c) (h1 : isLetter c = false) (h2 : isDigit c = false) : pcsAt t i = signPc i c ++ pcsAt t (i + 1) := by
  obtain ⟨hi, rfl⟩ := List.getElem?_eq_some_iff.mp hc
  have e : t.drop i = t[i] :: t.drop (i + 1) := List.drop_eq_getElem_cons hi
  have fu : cutP t.length (i + 1) (t.drop (i + 1)) = pcsAt t (i + 1) := by
    refine cut_fuel (t.length - 1) t.length (t.length + 1) _ _ ?_ (by omega) (by omega)
    rw [List.length_drop]
    omega
  rw [← fu]
  show cutP (t.length + 1) i (t.drop i) = _
  rw [e]
  exact cut_sign h1 h2
theorem cut_len : ∀ (f i : Nat) (t : List Nat), (cutP f i t).length ≤ t.length
  | 0, _, _ => Nat.zero_le _
  | _ + 1, _, [] => Nat.zero_le _
  | f + 1, i, c :: t => by
    unfold cutP
    by_cases h1 : isLetter c = true
    · rw [if_pos h1]
      have := cut_len f (i + ((c :: t).takeWhile isLetter).length) ((c :: t).drop ((c :: t).takeWhile isLetter).length)
      have p := tw_pos (t := t) h1
      rw [List.length_drop] at this
      rw [List.length_cons]
      simp only [List.length_cons] at this ⊢
      omega
    · rw [if_neg h1]
      by_cases h2 : isDigit c = true
      · rw [if_pos h2]
        have := cut_len f (i + ((c :: t).takeWhile isDigit).length) ((c :: t).drop ((c :: t).takeWhile isDigit).length)
        have p := tw_pos (t := t) h2
        rw [List.length_drop] at this
        rw [List.length_cons]
        simp only [List.length_cons] at this ⊢
        omega
      · rw [if_neg h2]
        have := cut_len f (i + 1) t
        rw [List.length_cons]
        split
        · simpa using this
        · split
          · omega
          · simpa using this
theorem stop_len : ∀ p : Pcs, (stopW p).length ≤ p.length
  | [] => Nat.le_refl _
  | (i, .wrong) :: r => by simp [stopW]
  | (i, .word w) :: r => by have := stop_len r; simp only [stop_word, List.length_cons]; omega
  | (i, .num n) :: r => by have := stop_len r; simp only [stop_num, List.length_cons]; omega
  | (i, .semi) :: r => by have := stop_len r; simp only [stop_semi, List.length_cons]; omega
theorem mem_tw {p : Nat → Bool} : ∀ {t : List Nat} {c : Nat}, c ∈ t.takeWhile p → p c = true
  | [], c, h => by simp at h
  | a :: t, c, h => by
    rw [List.takeWhile_cons] at h
    split at h
    · rename_i ha
      rcases List.mem_cons.mp h with e | h
      · rw [e]
        exact ha
      · exact mem_tw h
    · cases h
end Sm
namespace Sl
open PySem PySem.Spec PyProof.Rows L2
open Evl
open Vbirak (Lake Weather)
open Sm
theorem fw0 : ([] : List (Str × V)).length ≤ 0 := Nat.le_refl 0
theorem fwS {f : Str} {v : V} {n : Nat} : ∀ {fs : List (Str × V)}, fs.length ≤ n → (putF f v fs).length ≤ n + 1
  | [], _ => by
    show 1 ≤ n + 1
    omega
  | (g, x) :: r, h => by
    unfold putF
    split
    · simp only [List.length_cons] at h ⊢
      omega
    · have h' : r.length ≤ n - 1 := by
        simp only [List.length_cons] at h
        omega
      have := fwS (f := f) (v := v) h'
      simp only [List.length_cons] at h ⊢
      omega
theorem fwl {n m : Nat} (h : n ≤ m) (hm : m < 1000) : n < 1000 := Nat.lt_of_le_of_lt h hm
section
variable {K : PySem.W.Frag} {σ : L2.St} {H : Hp} {te ta : TE} {tz tu : TS} {D : Ends} {R : Hp → Addr → Prop} {E : XK}
/-- a new instance -/
def InsAt (C : Addr) (fs : List (Str × V)) (h : Hp) (p : Addr) : Prop := ∃ dx, h p = some (.ins C dx fs)
theorem mono_ins (C : Addr) (fs : List (Str × V)) : Mono (InsAt C fs) := fun _ _ _ e ⟨dx, h⟩ => ⟨dx, e _ _ h⟩
theorem en_make {C : Addr} {fs : List Str} {ta : TA} {vs : List V} (h : EvA ta σ H vs) (hl : vs.length = fs.length) : EvN (tMake C (spInit C fs) [] E ta) σ H (InsAt C (fs.zip vs)) := fun H1 e Q q => h H1 e _ fun H2 e2 x dx hx hdx ne => by
  refine ⟨x, dx, vs, by rw [List.append_nil], hl, upd_same, rfl, q x _ ?_ ⟨dx, ?_⟩⟩
  · exact Ex.mut (Ex.mut (Ex.mut e2 (fresh_back e2 hdx)) (fresh_back e2 hx)) (fresh_back e2 hx)
  · rw [nw_at (fresh_back e2 hx)]
    exact upd_same
/-- xs.append(a new thing) -/
theorem s_appN {l : Addr} {xs : List V} (hl : H l = some (.lst xs)) (ha : Ev ta σ H (.ref l)) (h : EvN te σ H R) (hz : xs.length < 100000) (k : ∀ p H1, Ex H H1 → R (nw H H1) p → D.nx σ (upd H1 l (.lst (xs ++ [.ref p])))) (m : Mono R) :
    tDrop (tBM K "list" rAppend ta (tCons te tNil)) D σ H := ha H (Ex.refl H) _ fun H1 e1 =>
  ⟨Or.inl ⟨rfl, xs, sq_of (e1 l _ hl)⟩, h H1 e1 _ fun p H2 e2 r2 => ⟨l, xs, .ref p, rfl, rfl, e2 l _ (e1 l _ hl), sz_lt hz, k p H2 (e1.trans e2) (m _ _ _ (nw_back e1) r2)⟩⟩
theorem q_appN {l : Addr} {xs : List V} (hl : H l = some (.lst xs)) (ha : Ev ta σ H (.ref l)) (h : EvN te σ H R) (hz : xs.length < 100000) (k : ∀ p H1, Ex H H1 → R (nw H H1) p → tz D σ (upd H1 l (.lst (xs ++ [.ref p])))) (m : Mono R) :
    tSeq (tDrop (tBM K "list" rAppend ta (tCons te tNil))) tz D σ H := s_appN (D := { D with nx := tz D }) hl ha h hz k m
/-- f(a new list) -/
theorem ev_callL1 {sp : Sp} {xs : List V} {z : V} (h : EvL ta σ H xs) (hs : ∀ p H1, H1 p = some (.lst xs) → Ex H H1 → SpV sp [.ref p] H1 z) : Ev (tCall sp [] E (tCons ta tNil)) σ H z := fun H1 e Q q =>
  h H1 e _ fun p H2 _ e2 hp => hs p H2 hp (e.trans e2) H2 (Ex.refl H2) Q (fun H3 e3 => q H3 (e2.trans e3)) E
end
theorem cut_nat (ns : List Nat) {i j : Nat} (hij : i ≤ j) (hj : j ≤ ns.length) : cutV (vI ns) (some (i : Int)) (some (j : Int)) = vI ((ns.drop i).take (j - i)) := by
  unfold cutV
  rw [HT.sIx_nat, HT.sIx_nat, vI_len, Nat.min_eq_left hj, Nat.min_eq_left (by omega)]
  unfold vI
  rw [List.map_take, List.map_drop]
theorem strOf_nil : strOf [] = ⟨#[]⟩ := rfl
theorem tl_strOf (b : List Nat) : TL.tl (strOf b) = b := rfl
theorem str_ext {x y : Str} (h : TL.tl x = TL.tl y) : x = y := by
  obtain ⟨⟨a⟩⟩ := x
  obtain ⟨⟨b⟩⟩ := y
  have : a = b := h
  rw [this]
theorem strOf_inj {a b : List Nat} (h : strOf a = strOf b) : a = b := congrArg TL.tl h
theorem join_signs : ∀ bs : List Nat, Txt.join ⟨#[]⟩ (bs.map fun c => (⟨#[c]⟩ : Str)) = strOf bs := fun bs => by
  rw [TL.join_eq]
  apply str_ext
  rw [TL.tl_join, tl_strOf, List.map_map]
  show TL.joinL [] (bs.map fun c => [c]) = bs
  induction bs with
  | nil => rfl
  | cons a r ih =>
    cases r with
    | nil => rfl
    | cons b r =>
      show [a] ++ ([] ++ TL.joinL [] ((b :: r).map fun c => [c])) = _
      rw [ih]
      rfl
section
variable {P : Program} {w : World} {K : PySem.W.Frag} {mg : Str → Option Value} {base : Heap}
theorem ok_Kind_init (T : Tx K mg)  : Fn P w K mg base 1 (He.ma K (He.ga K "Kind") "__init__") ["self", "name", "brings", "follows"] (spInit (He.ga K "Kind") ["name", "brings", "follows"]) := by
  have sc : FnScope ["self", "name", "brings", "follows"] ["self", "name", "brings", "follows"] (defScope s_Kind_init) := ⟨rfl, rfl, rfl, by decide +kernel, rfl, by decide +kernel, by decide +kernel⟩
  refine fn_mk (k := 0) T.fun_Kind_init sc (fun _ _ _ _ _ _ us hl => match us, hl with | [_, _, _, _], _ => rfl) (fun vs H Q E h => ?len) (fun cdv A outer s H vs Q E hr h => ⟨_, (pss_cons (ps_fld (pv 0) (pv 1) rfl)
      (pss_cons (ps_fld (pv 0) (pv 2) rfl)
      (pss_one (ps_fld (pv 0) (pv 3) rfl)))), ?rd⟩)
  case len => exact len_init rfl h
  case rd =>
    obtain ⟨p, dx, ws, rfl, hw, hp, k⟩ := h
    match ws, hw with
    | [a, b, c], _ =>
    refine ⟨_, rfl, _, rfl, p, _, dx, [], rfl, hp, T.cls_Kind, T.noat_Kind_name, fwl fw0 (by decide), ?_⟩
    refine ⟨_, rfl, _, rfl, p, _, dx, _, rfl, upd_same, T.cls_Kind, T.noat_Kind_brings, fwl (fwS fw0) (by decide), ?_⟩
    refine ⟨_, rfl, _, rfl, p, _, dx, _, rfl, upd_same, T.cls_Kind, T.noat_Kind_follows, fwl (fwS (fwS fw0)) (by decide), ?_⟩
    rw [upd_upd, upd_upd]
    exact k
theorem ok_Piece_init (T : Tx K mg)  : Fn P w K mg base 1 (He.ma K (He.ga K "Piece") "__init__") ["self", "place", "word", "number"] (spInit (He.ga K "Piece") ["place", "word", "number"]) := by
  have sc : FnScope ["self", "place", "word", "number"] ["self", "place", "word", "number"] (defScope s_Piece_init) := ⟨rfl, rfl, rfl, by decide +kernel, rfl, by decide +kernel, by decide +kernel⟩
  refine fn_mk (k := 0) T.fun_Piece_init sc (fun _ _ _ _ _ _ us hl => match us, hl with | [_, _, _, _], _ => rfl) (fun vs H Q E h => ?len) (fun cdv A outer s H vs Q E hr h => ⟨_, (pss_cons (ps_fld (pv 0) (pv 1) rfl)
      (pss_cons (ps_fld (pv 0) (pv 2) rfl)
      (pss_one (ps_fld (pv 0) (pv 3) rfl)))), ?rd⟩)
  case len => exact len_init rfl h
  case rd =>
    obtain ⟨p, dx, ws, rfl, hw, hp, k⟩ := h
    match ws, hw with
    | [a, b, c], _ =>
    refine ⟨_, rfl, _, rfl, p, _, dx, [], rfl, hp, T.cls_Piece, T.noat_Piece_place, fwl fw0 (by decide), ?_⟩
    refine ⟨_, rfl, _, rfl, p, _, dx, _, rfl, upd_same, T.cls_Piece, T.noat_Piece_word, fwl (fwS fw0) (by decide), ?_⟩
    refine ⟨_, rfl, _, rfl, p, _, dx, _, rfl, upd_same, T.cls_Piece, T.noat_Piece_number, fwl (fwS (fwS fw0)) (by decide), ?_⟩
    rw [upd_upd, upd_upd]
    exact k
theorem ok_Rule_init (T : Tx K mg)  : Fn P w K mg base 1 (He.ma K (He.ga K "Rule") "__init__") ["self", "conditions", "letting"] (spInit (He.ga K "Rule") ["conditions", "letting"]) := by
  have sc : FnScope ["self", "conditions", "letting"] ["self", "conditions", "letting"] (defScope s_Rule_init) := ⟨rfl, rfl, rfl, by decide +kernel, rfl, by decide +kernel, by decide +kernel⟩
  refine fn_mk (k := 0) T.fun_Rule_init sc (fun _ _ _ _ _ _ us hl => match us, hl with | [_, _, _], _ => rfl) (fun vs H Q E h => ?len) (fun cdv A outer s H vs Q E hr h => ⟨_, (pss_cons (ps_fld (pv 0) (pv 1) rfl)
      (pss_one (ps_fld (pv 0) (pv 2) rfl))), ?rd⟩)
  case len => exact len_init rfl h
  case rd =>
    obtain ⟨p, dx, ws, rfl, hw, hp, k⟩ := h
    match ws, hw with
    | [a, b], _ =>
    refine ⟨_, rfl, _, rfl, p, _, dx, [], rfl, hp, T.cls_Rule, T.noat_Rule_conditions, fwl fw0 (by decide), ?_⟩
    refine ⟨_, rfl, _, rfl, p, _, dx, _, rfl, upd_same, T.cls_Rule, T.noat_Rule_letting, fwl (fwS fw0) (by decide), ?_⟩
    rw [upd_upd]
    exact k
theorem ok_Strategy_init (T : Tx K mg)  : Fn P w K mg base 1 (He.ma K (He.ga K "Strategy") "__init__") ["self", "rules", "otherwise"] (spInit (He.ga K "Strategy") ["rules", "otherwise"]) := by
  have sc : FnScope ["self", "rules", "otherwise"] ["self", "rules", "otherwise"] (defScope s_Strategy_init) := ⟨rfl, rfl, rfl, by decide +kernel, rfl, by decide +kernel, by decide +kernel⟩
  refine fn_mk (k := 0) T.fun_Strategy_init sc (fun _ _ _ _ _ _ us hl => match us, hl with | [_, _, _], _ => rfl) (fun vs H Q E h => ?len) (fun cdv A outer s H vs Q E hr h => ⟨_, (pss_cons (ps_fld (pv 0) (pv 1) rfl)
      (pss_one (ps_fld (pv 0) (pv 2) rfl))), ?rd⟩)
  case len => exact len_init rfl h
  case rd =>
    obtain ⟨p, dx, ws, rfl, hw, hp, k⟩ := h
    match ws, hw with
    | [a, b], _ =>
    refine ⟨_, rfl, _, rfl, p, _, dx, [], rfl, hp, T.cls_Strategy, T.noat_Strategy_rules, fwl fw0 (by decide), ?_⟩
    refine ⟨_, rfl, _, rfl, p, _, dx, _, rfl, upd_same, T.cls_Strategy, T.noat_Strategy_otherwise, fwl (fwS fw0) (by decide), ?_⟩
    rw [upd_upd]
    exact k
theorem ok_Lake_init (T : Tx K mg)  : Fn P w K mg base 1 (He.ma K (He.ga K "Lake") "__init__") ["self", "holds", "seasons", "gate", "rest", "kinds", "tables"] (spInit (He.ga K "Lake") ["holds", "seasons", "gate", "rest", "kinds", "tables"]) := by
  have sc : FnScope ["self", "holds", "seasons", "gate", "rest", "kinds", "tables"] ["self", "holds", "seasons", "gate", "rest", "kinds", "tables"] (defScope s_Lake_init) := ⟨rfl, rfl, rfl, by decide +kernel, rfl, by decide +kernel, by decide +kernel⟩
  refine fn_mk (k := 0) T.fun_Lake_init sc (fun _ _ _ _ _ _ us hl => match us, hl with | [_, _, _, _, _, _, _], _ => rfl) (fun vs H Q E h => ?len) (fun cdv A outer s H vs Q E hr h => ⟨_, (pss_cons (ps_fld (pv 0) (pv 1) rfl)
      (pss_cons (ps_fld (pv 0) (pv 2) rfl)
      (pss_cons (ps_fld (pv 0) (pv 3) rfl)
      (pss_cons (ps_fld (pv 0) (pv 4) rfl)
      (pss_cons (ps_fld (pv 0) (pv 5) rfl)
      (pss_one (ps_fld (pv 0) (pv 6) rfl))))))), ?rd⟩)
  case len => exact len_init rfl h
  case rd =>
    obtain ⟨p, dx, ws, rfl, hw, hp, k⟩ := h
    match ws, hw with
    | [a, b, c, d, e, f], _ =>
    refine ⟨_, rfl, _, rfl, p, _, dx, [], rfl, hp, T.cls_Lake, T.noat_Lake_holds, fwl fw0 (by decide), ?_⟩
    refine ⟨_, rfl, _, rfl, p, _, dx, _, rfl, upd_same, T.cls_Lake, T.noat_Lake_seasons, fwl (fwS fw0) (by decide), ?_⟩
    refine ⟨_, rfl, _, rfl, p, _, dx, _, rfl, upd_same, T.cls_Lake, T.noat_Lake_gate, fwl (fwS (fwS fw0)) (by decide), ?_⟩
    refine ⟨_, rfl, _, rfl, p, _, dx, _, rfl, upd_same, T.cls_Lake, T.noat_Lake_rest, fwl (fwS (fwS (fwS fw0))) (by decide), ?_⟩
    refine ⟨_, rfl, _, rfl, p, _, dx, _, rfl, upd_same, T.cls_Lake, T.noat_Lake_kinds, fwl (fwS (fwS (fwS (fwS fw0)))) (by decide), ?_⟩
    refine ⟨_, rfl, _, rfl, p, _, dx, _, rfl, upd_same, T.cls_Lake, T.noat_Lake_tables, fwl (fwS (fwS (fwS (fwS (fwS fw0))))) (by decide), ?_⟩
    rw [upd_upd, upd_upd, upd_upd, upd_upd, upd_upd]
    exact k
def spWrong (K : PySem.W.Frag) : Sp := fun vs H Q _ => ∃ (p : Addr) (a b : V), vs = [.ref p, a, b] ∧ H p = some (exo p (He.ga K "WrongText") none) ∧ ∀ d H', H d = none → d ≠ p → H' p = some (exo p (He.ga K "WrongText") (some d)) → H' d = some (exd d [("place", b), ("kind", a)]) → (∀ c, c ≠ p → c ≠ d → H' c = H c) → Q .non H'
theorem ok_WrongText_init (T : Tx K mg)  : Fn P w K mg base 1 (He.ma K (He.ga K "WrongText") "__init__") ["self", "kind", "place"] (spWrong K) := by
  have sc : FnScope ["self", "kind", "place"] ["self", "kind", "place"] (defScope s_WrongText_init) := ⟨rfl, rfl, rfl, by decide +kernel, rfl, by decide +kernel, by decide +kernel⟩
  refine fn_mk (k := 0) T.fun_WrongText_init sc (fun _ _ _ _ _ _ us hl => match us, hl with | [_, _, _], _ => rfl) (fun vs H Q E h => ?len) (fun cdv A outer s H vs Q E hr h => ⟨_, (pss_cons (ps_expr (pe_exi T.free_Exception (pa_c (pv 0) (pa_c pe_str pa_nil))))
      (pss_cons (ps_xst (pv 0) (pv 1))
      (pss_one (ps_xst (pv 0) (pv 2))))), ?rd⟩)
  case len =>
    obtain ⟨p, a, b, rfl, _⟩ := h
    rfl
  case rd =>
    obtain ⟨p, a, b, rfl, hp, k⟩ := h
    refine ⟨_, rfl, p, _, [.str "the text is wrong"], rfl, (by decide), T.oxc, hp, ?_⟩
    refine ⟨_, rfl, _, rfl, p, _, rfl, T.oxc, T.f_kind, .inl ⟨hp, fun d hd hne => ?_⟩⟩
    refine ⟨_, rfl, _, rfl, p, _, rfl, T.oxc, T.f_place, .inr ⟨d, _, upd_same, (by rw [upd_ne hne]; exact upd_same), (by show 1 ≤ 900; decide), ?_⟩⟩
    refine k d _ hd hne ?_ upd_same fun c h1 h2 => ?_
    · rw [upd_ne (Ne.symm hne)]
      exact upd_same
    · rw [upd_ne h2, upd_ne h1, upd_ne h2]
def inR (lo hi : Nat) (c : Nat) : Bool := decide (lo ≤ c) && decide (c ≤ hi)
def spRunEnd (K : PySem.W.Frag) : Sp := fun vs H Q _ => ∃ (a : Addr) (ns : List Nat) (i lo hi : Nat), vs = [.ref a, .int (i : Int), .int (lo : Int), .int (hi : Int)] ∧ SqL K H a (vI ns) ∧ i ≤ ns.length ∧ RetV (.int ((i + (runOf (inR lo hi) ns i).length : Nat) : Int)) H Q
theorem ok_run_end (T : Tx K mg)  : Fn P w K mg base 1 (He.ga K "run_end") ["text", "place", "first", "last"] (spRunEnd K) := by
  have sc : FnScope ["text", "place", "first", "last", "end"] ["text", "place", "first", "last"] (defScope s_run_end) := ⟨rfl, rfl, rfl, by decide +kernel, rfl, by decide +kernel, by decide +kernel⟩
  refine fn_mk (k := 0) T.fun_run_end sc (fun _ _ _ _ _ _ us hl => match us, hl with | [_, _, _, _], _ => rfl) (fun vs H Q E h => ?len) (fun cdv A outer s H vs Q E hr h => ⟨_, (pss_cons (ps_set (i := 4) sc.nd rfl (Or.inl rfl) (pv 1))
      (pss_cons (ps_while (passes_of rfl) (PW.pt (pw_and (pt_cmpR op_lt (pv 4) (pe_callB call_len_seq (by rfl) T.free_len PySem.boot_len (pa_c (pv 0) pa_nil)) (nomark _)) (pw_and1 (pt_chain op_le op_le (pv 2) (pe_ix ix_list (pv 0) (pv 4) (fun _ _ => rfl)) (pv 3))))) (pss_one (ps_aug (i := 4) sc.nd rfl (Or.inl rfl) pe_int ip_add)))
      (pss_one (ps_ret (pv 4))))), ?rd⟩)
  case len =>
    obtain ⟨a, ns, i, lo, hi, rfl, _⟩ := h
    rfl
  case rd =>
    obtain ⟨a, ns, i, lo, hi, rfl, hS, hin, k⟩ := h
    refine q_asg (ev_var rfl) fun H0 e0 => ?_
    refine q_while (fun m σ' H' => Ex H H' ∧ ∃ j : Nat, j ≤ ns.length ∧ m = ns.length - j ∧ σ' = [some (.ref a), some (.int (i : Int)), some (.int (lo : Int)), some (.int (hi : Int)), some (.int (j : Int))] ∧ i + (runOf (inR lo hi) ns i).length = j + (runOf (inR lo hi) ns j).length) (ns.length - i) ⟨e0, i, hin, rfl, rfl, rfl⟩ ?_
    rintro m σ' H' ⟨ex, j, hj, rfl, rfl, eq⟩
    have hS' := ex_l ex hS
    have e1 : EvT (tTest (tOp (rI0 fun i j => V.bl (decide (i < j))) (tVar 4) (tCB (fun xs H Q => ∃ p ys, xs = [.ref p] ∧ (SqL K H p ys ∨ SqT K H p ys) ∧ Q (.int ys.length) H) (tCons (tVar 0) tNil)))) [some (.ref a), some (.int (i : Int)), some (.int (lo : Int)), some (.int (hi : Int)), some (.int (j : Int))] H' (decide (j < ns.length)) := by
      refine et_is (et_test (ev_op (ev_var rfl) (ev_lenL (ev_var rfl) hS') rv_I0)) ?_
      rw [vI_len]
      exact decide_eq_decide.mpr (by omega)
    by_cases hlt : j < ns.length
    · obtain ⟨c, hc⟩ : ∃ c, ns[j]? = some c := ⟨_, List.getElem?_eq_getElem hlt⟩
      refine ⟨_, et_and e1 fun _ => et_test (ev_chain (ev_var rfl) (ev_op (ev_var rfl) (ev_var rfl) (rv_ixL hS' (atI_nat (vI_get hc)))) (ev_var rfl) rv_I0 rv_I0), fun hb H1 h1 => ⟨_, fun σ2 H2 z => z, ?_⟩, fun hb H1 h1 => ?_⟩
      · refine s_aug (f := fun i j => i + j) rfl ev_c fun H2 h2 => ⟨ns.length - (j + 1), by omega, (ex.trans h1).trans h2, j + 1, by omega, rfl, rfl, ?_⟩
        rw [decide_eq_true hlt, Bool.true_and] at hb
        have hin : inR lo hi c = true := by
          rw [Bool.and_eq_true, decide_eq_true_eq, decide_eq_true_eq] at hb
          unfold inR
          rw [Bool.and_eq_true, decide_eq_true_eq, decide_eq_true_eq]
          omega
        rw [eq]
        unfold runOf
        rw [drop_at hc, List.takeWhile_cons, if_pos hin, List.length_cons]
        omega
      · rw [decide_eq_true hlt, Bool.true_and] at hb
        have hin : inR lo hi c = false := by
          rw [Bool.and_eq_false_iff, decide_eq_false_iff_not, decide_eq_false_iff_not] at hb
          unfold inR
          rw [Bool.and_eq_false_iff, decide_eq_false_iff_not, decide_eq_false_iff_not]
          omega
        have hz := (run_zero (p := inR lo hi) hc).mpr hin
        rw [hz, Nat.add_zero] at eq
        refine s_ret (ev_var rfl) fun H2 h2 => ?_
        rw [eq] at k
        exact k H2 ((ex.trans h1).trans h2)
    · have hj' : j = ns.length := by omega
      rw [decide_eq_false hlt] at e1
      refine ⟨false, fun H1 h1 Q q => e1 H1 h1 _ fun H2 h2 => q H2 h2, fun hb => Bool.noConfusion hb, fun _ H1 h1 => ?_⟩
      refine s_ret (ev_var rfl) fun H2 h2 => ?_
      have hz : (runOf (inR lo hi) ns j).length = 0 := by
        unfold runOf
        rw [hj', List.drop_length]
        rfl
      rw [hz, Nat.add_zero] at eq
      rw [eq] at k
      exact k H2 ((ex.trans h1).trans h2)
end
end Sl
namespace Sl
open PySem PySem.Spec PyProof.Rows L2
open Evl
open Vbirak (Lake Weather)
open Sm
/-! ### a list that grows by new things -/
def ListAt {α : Type} (R : Hp → Addr → α → Prop) (h : Hp) (p : Addr) (xs : List α) : Prop := ∃ as, h p = some (.lst (as.map V.ref)) ∧ All2 (R h) as xs
def MonoR {α : Type} (R : Hp → Addr → α → Prop) : Prop := ∀ H H' p x, Ex H H' → R H p x → R H' p x
theorem ListAt.ex {α : Type} {R : Hp → Addr → α → Prop} (m : MonoR R) {h h' : Hp} {p : Addr} {xs : List α} (z : ListAt R h p xs) (e : Ex h h') : ListAt R h' p xs := by
  obtain ⟨as, h1, h2⟩ := z
  exact ⟨as, e _ _ h1, h2.imp fun a x r => m _ _ _ _ e r⟩
structure Bld {α : Type} (R : Hp → Addr → α → Prop) (H : Hp) (s : Addr) (as : List Addr) (xs : List α) (H' : Hp) : Prop where
  free : H s = none
  ex : Ex H H'
  it : H' s = some (.lst (as.map V.ref))
  all : All2 (fun a x => R (nw H (del H' s)) a x) as xs
section
variable {α : Type} {R : Hp → Addr → α → Prop} {H H' H1 H2 : Hp} {s p : Addr} {as : List Addr} {xs : List α} {x : α}
theorem Bld.start (e : Ex H H1) (hs : H1 s = none) : Bld R H s [] [] (upd H1 s (.lst [])) := ⟨fresh_back e hs, Ex.mut e (fresh_back e hs), upd_same, All2.nil⟩
theorem Bld.on (m : MonoR R) (b : Bld R H s as xs H') (e : Ex H' H1) : Bld R H s as xs H1 := ⟨b.free, b.ex.trans e, e _ _ b.it, b.all.imp fun a x r => m _ _ _ _ (nw_mono (del_mono e)) r⟩
theorem Bld.app (m : MonoR R) (b : Bld R H s as xs H') (e : Ex H' H1) (r : R (nw H' H1) p x) : Bld R H s (as ++ [p]) (xs ++ [x]) (upd H1 s (.lst (as.map V.ref ++ [.ref p]))) := by
  refine ⟨b.free, Ex.mut (b.ex.trans e) b.free, ?_, ?_⟩
  · rw [upd_same, List.map_append]
    rfl
  · have base : Ex (nw H (del H' s)) (nw H (del (upd H1 s (.lst (as.map V.ref ++ [.ref p]))) s)) := nw_mono (Ex.trans (del_mono e) ex_del_upd)
    refine All2.snoc (b.all.imp fun a x r => m _ _ _ _ base r) (m _ _ _ _ ?_ r)
    exact Ex.trans (ex_nw_nd (by rw [b.it]; simp) b.ex) (nw_mono ex_del_upd)
theorem Bld.done (m : MonoR R) (b : Bld R H s as xs H') : ListAt R (nw H H') s xs := ⟨as, by rw [nw_at b.free]; exact b.it, b.all.imp fun a x r => m _ _ _ _ (nw_mono ex_del) r⟩
theorem Bld.len (b : Bld R H s as xs H') : as.length = xs.length := b.all.1
theorem Bld.here (m : MonoR R) (b : Bld R H s as xs H') : ListAt R H' s xs := ListAt.ex m (b.done m) ex_nw
end
/-! ### pieces -/
def wordV : Vbirak.Tok → V
  | .word w => .str (strOf w)
  | .semi => .str ";"
  | _ => .non
def numV : Vbirak.Tok → V
  | .num n => .int (n : Int)
  | _ => .non
def pieceF (x : Nat × Vbirak.Tok) : List (Str × V) := [("place", .int (x.1 : Int)), ("word", wordV x.2), ("number", numV x.2)]
def PieceAt (K : PySem.W.Frag) (h : Hp) (p : Addr) (x : Nat × Vbirak.Tok) : Prop := InsAt (He.ga K "Piece") (pieceF x) h p
theorem mono_piece (K : PySem.W.Frag) : MonoR (PieceAt K) := fun _ _ _ _ e h => mono_ins _ _ _ _ _ e h
section
variable {P : Program} {w : World} {K : PySem.W.Frag} {mg : Str → Option Value} {base : Heap}
theorem ev_join {σ : L2.St} {H : Hp} {te : TE} {a : Str} {ys : List Str} (h : EvL te σ H (ys.map V.str)) (hz : (ys.map (·.length)).sum + ys.length * a.length ≤ 16777216) :
    Ev (tM1 (fun x xs H Q => ∃ a p, ∃ ys : List Str, x = .str a ∧ xs = [.ref p] ∧ (SqL K H p (ys.map V.str) ∨ SqT K H p (ys.map V.str)) ∧ (ys.map (·.length)).sum + ys.length * a.length ≤ 16777216 ∧ Q (.str (Txt.join a ys)) H) (tC (.str a)) te) σ H (.str (Txt.join a ys)) := fun H1 e Q q =>
  ⟨⟨a, rfl⟩, h H1 e _ fun p H2 _ e2 hp => ⟨a, p, ys, rfl, rfl, Or.inl (sq_of hp), hz, q H2 e2⟩⟩
theorem letters_at : ∀ i : Fin 26, (("abcdefghijklmnopqrstuvwxyz" : Str).cps.toList)[i.val]? = some (i.val + 97) := by decide +kernel
theorem sum_ones (bs : List Nat) : ((bs.map fun c => (⟨#[c]⟩ : Str)).map (·.length)).sum = bs.length := by
  induction bs with
  | nil => rfl
  | cons a r ih =>
    rw [List.map_cons, List.map_cons, List.sum_cons, ih, List.length_cons]
    show 1 + r.length = _
    omega
def spWordOf (K : PySem.W.Frag) : Sp := fun vs H Q _ => ∃ (a : Addr) (bs : List Nat), vs = [.ref a] ∧ SqL K H a (vI bs) ∧ (∀ c ∈ bs, 97 ≤ c ∧ c ≤ 122) ∧ RetV (wordV (wordTok bs)) H Q
theorem ok_word_of (T : Tx K mg)  : Fn P w K mg base 1 (He.ga K "word_of") ["run"] (spWordOf K) := by
  obtain ⟨_, g_FIRST_LETTER, r_FIRST_LETTER⟩ := T.cst_FIRST_LETTER
  obtain ⟨_, g_LETTERS, r_LETTERS⟩ := T.cst_LETTERS
  obtain ⟨_, g_LONGEST_WORD, r_LONGEST_WORD⟩ := T.cst_LONGEST_WORD
  have sc : FnScope ["run", "byte"] ["run"] (defScope s_word_of) := ⟨rfl, rfl, rfl, by decide +kernel, rfl, by decide +kernel, by decide +kernel⟩
  refine fn_mk (k := 0) T.fun_word_of sc (fun _ _ _ _ _ _ us hl => match us, hl with | [_], _ => rfl) (fun vs H Q E h => ?len) (fun cdv A outer s H vs Q E hr h => ⟨_, (pss_cons (ps_if (pt_cmpR op_gt (pe_callB call_len_seq (by rfl) T.free_len PySem.boot_len (pa_c (pv 0) pa_nil)) (pe_glob rfl g_LONGEST_WORD r_LONGEST_WORD) (nomark _)) (pss_one (ps_ret pe_non)) pss_nil)
      (pss_one (ps_ret (pe_join pe_str (pe_lc (own := [("byte", 1)]) (g := gName 1) (tt := tYes) rfl sc.nd (pi_list (pv 0)) (blkOk_by (own := [("byte", 1)]) (N := ["run", "byte"]) (sc := defScope s_word_of) (by decide +kernel)) (fun _ _ _ _ _ => pg_name (i := 1) sc.nd rfl (Or.inl rfl)) (fun _ _ _ _ _ => pts_nil) (fun _ _ _ _ _ => (pe_ix ix_str (pe_glob rfl g_LETTERS r_LETTERS) (pe_op op_sub (pv 1) (pe_glob rfl g_FIRST_LETTER r_FIRST_LETTER)) (fun _ _ => rfl)))))))), ?rd⟩)
  case len =>
    obtain ⟨a, bs, rfl, _⟩ := h
    rfl
  case rd =>
    obtain ⟨a, bs, rfl, hS, hb, q⟩ := h
    refine q_when (et_test (ev_op (ev_lenL (ev_var rfl) hS) ev_c rv_I0)) (fun hc H1 e1 => ?_) (fun hc H1 e1 => ?_)
    · refine s_ret ev_c fun H2 e2 => ?_
      rw [vI_len, decide_eq_true_eq] at hc
      have z : wordV (wordTok bs) = .non := by
        unfold wordTok
        rw [if_pos (by omega)]
        rfl
      rw [z] at q
      exact q H2 (e1.trans e2)
    · rw [vI_len, decide_eq_false_iff_not] at hc
      have z : wordV (wordTok bs) = .str (strOf bs) := by
        unfold wordTok
        rw [if_neg (by omega)]
        rfl
      rw [z] at q
      have key := el_lcL (K := K) (σ := start ["run", "byte"] [.ref a]) (H := H1) (t := tYes) (j := 1) (vs := [1]) (tl := tVar 0) (te := tOp rIxS (tC (.str "abcdefghijklmnopqrstuvwxyz")) (tOp (rI0 fun i j => V.int (i - j)) (tVar 1) (tC (.int 97))))
        (fun _ => true) (fun i => .str ⟨#[bs.getD i 0]⟩) (ev_var rfl) (ex_l e1 hS) (by rw [vI_len]; omega) (fun _ => rfl) (fun _ _ _ _ _ => et_yes) (fun i x H2 e2 hx _ => by
          obtain ⟨n, hn, rfl⟩ := vI_at hx
          obtain ⟨h1, h2⟩ := hb n (List.mem_of_getElem? hn)
          have l := letters_at ⟨n - 97, by omega⟩
          have en : n - 97 + 97 = n := by omega
          have eg : bs.getD i 0 = n := by
            rw [List.getD_eq_getElem?_getD, hn]
            rfl
          rw [eg]
          refine ev_op ev_c (ev_op (ev_var rfl) ev_c rv_I0) (rv_ixS (by decide +kernel) ?_)
          have ei : (n : Int) - 97 = ((n - 97 : Nat) : Int) := by omega
          show atI _ ((n : Int) - 97) = some n
          rw [ei]
          refine atI_nat ?_
          rw [l, en])
      rw [given_all, vI_len] at key
      have e : (List.range bs.length).map (fun i => V.str ⟨#[bs.getD i 0]⟩) = (bs.map fun c => (⟨#[c]⟩ : Str)).map V.str := by
        rw [List.map_map]
        refine map_range_get _ _ _ fun i k hk => ?_
        rw [List.getD_eq_getElem?_getD, hk]
        rfl
      rw [e] at key
      refine s_ret (ev_is (ev_join key ?_) (congrArg V.str (join_signs bs))) fun H2 e2 => q H2 (e1.trans e2)
      rw [sum_ones, List.length_map]
      show bs.length + bs.length * 0 ≤ _
      omega
theorem value_snoc (ds : List Nat) (c : Nat) : Vbirak.value (ds ++ [c]) = 10 * Vbirak.value ds + (c - 48) := by
  unfold Vbirak.value
  rw [List.foldl_append]
  rfl
theorem value_lt : ∀ (ds : List Nat), (∀ c ∈ ds, 48 ≤ c ∧ c ≤ 57) → ∀ n, n ≤ ds.length → Vbirak.value (ds.take n) < 10 ^ n
  | ds, h, 0, _ => by simp [Vbirak.value]
  | ds, h, n + 1, hn => by
    have ih := value_lt ds h n (by omega)
    have hc : ds[n]? = some ds[n] := List.getElem?_eq_getElem (by omega)
    have hd := h ds[n] (List.getElem_mem _)
    rw [List.take_add_one, hc]
    show Vbirak.value (ds.take n ++ [ds[n]]) < _
    rw [value_snoc, Nat.pow_succ]
    omega
def spNumberOf (K : PySem.W.Frag) : Sp := fun vs H Q _ => ∃ (a : Addr) (bs : List Nat), vs = [.ref a] ∧ SqL K H a (vI bs) ∧ bs ≠ [] ∧ (∀ c ∈ bs, 48 ≤ c ∧ c ≤ 57) ∧ RetV (numV (numTok bs)) H Q
theorem ok_number_of (T : Tx K mg)  : Fn P w K mg base 1 (He.ga K "number_of") ["run"] (spNumberOf K) := by
  obtain ⟨_, g_FIRST_DIGIT, r_FIRST_DIGIT⟩ := T.cst_FIRST_DIGIT
  obtain ⟨_, g_LONGEST_NUMBER, r_LONGEST_NUMBER⟩ := T.cst_LONGEST_NUMBER
  have sc : FnScope ["run", "number", "byte"] ["run"] (defScope s_number_of) := ⟨rfl, rfl, rfl, by decide +kernel, rfl, by decide +kernel, by decide +kernel⟩
  refine fn_mk (k := 0) T.fun_number_of sc (fun _ _ _ _ _ _ us hl => match us, hl with | [_], _ => rfl) (fun vs H Q E h => ?len) (fun cdv A outer s H vs Q E hr h => ⟨_, (pss_cons (ps_if (PW.pt (pw_or (pt_cmpR op_gt (pe_callB call_len_seq (by rfl) T.free_len PySem.boot_len (pa_c (pv 0) pa_nil)) (pe_glob rfl g_LONGEST_NUMBER r_LONGEST_NUMBER) (nomark _)) (pw_or1 (PW.pt (pw_and (pt_cmpR op_gt (pe_callB call_len_seq (by rfl) T.free_len PySem.boot_len (pa_c (pv 0) pa_nil)) pe_int (nomark _)) (pw_and1 (pt_cmpR op_eq (pe_ix ix_list (pv 0) pe_int (fun _ _ => rfl)) (pe_glob rfl g_FIRST_DIGIT r_FIRST_DIGIT) (nomark _)))))))) (pss_one (ps_ret pe_non)) pss_nil)
      (pss_cons (ps_set (i := 1) sc.nd rfl (Or.inl rfl) pe_int)
      (pss_cons (ps_for (passes_of rfl) rfl (pi_list (pv 0)) (pg_name (i := 2) sc.nd rfl (Or.inl rfl)) (pss_one (ps_set (i := 1) sc.nd rfl (Or.inl rfl) (pe_op op_sub (pe_op op_add (pe_op op_mul (pv 1) pe_int) (pv 2)) (pe_glob rfl g_FIRST_DIGIT r_FIRST_DIGIT)))))
      (pss_one (ps_ret (pv 1)))))), ?rd⟩)
  case len =>
    obtain ⟨a, bs, rfl, _⟩ := h
    rfl
  case rd =>
    obtain ⟨a, bs, rfl, hS, hne, hb, q⟩ := h
    obtain ⟨c0, hc0⟩ : ∃ c, bs[0]? = some c := by
      cases bs with
      | nil => exact absurd rfl hne
      | cons c r => exact ⟨c, rfl⟩
    have hh : bs.headD 0 = c0 := by
      cases bs with
      | nil => cases hc0
      | cons c r =>
        cases hc0
        rfl
    have t : EvT _ (start ["run", "number", "byte"] [.ref a]) H (decide (3 < bs.length) || (decide (1 < bs.length) && decide (c0 = 48))) :=
      et_or (u := tAnd (tTest (tOp (rI0 fun i j => V.bl (decide (j < i))) (tCB (fun xs H Q => ∃ p ys, xs = [.ref p] ∧ (SqL K H p ys ∨ SqT K H p ys) ∧ Q (.int ys.length) H) (tCons (tVar 0) tNil)) (tC (.int 1)))) (tTest (tOp rEq (tOp (rIxL K) (tVar 0) (tC (.int 0))) (tC (.int 48)))))
        (et_is (et_test (ev_op (ev_lenL (K := K) (ta := tVar 0) (ev_var rfl) hS) (ev_c (v := .int 3)) (rv_I0 (g := fun i j => V.bl (decide (j < i)))))) (by rw [vI_len]; exact decide_eq_decide.mpr (by omega)))
        fun _ => et_and (et_is (et_test (ev_op (ev_lenL (ev_var rfl) hS) ev_c rv_I0)) (by rw [vI_len]; exact decide_eq_decide.mpr (by omega)))
          fun _ => et_is (et_test (ev_op (ev_op (ev_var rfl) ev_c (rv_ixL hS (atI_nat (j := 0) (vI_get hc0)))) ev_c (rv_eq rfl))) (decide_eq_decide.mpr (by
            constructor
            · intro z
              injection z with z
              omega
            · intro z
              rw [z]
              rfl))
    refine q_when t (fun hc H1 e1 => ?_) (fun hc H1 e1 => ?_)
    · refine s_ret ev_c fun H2 e2 => ?_
      have z : numV (numTok bs) = .non := by
        unfold numTok
        rw [Bool.or_eq_true, Bool.and_eq_true, decide_eq_true_eq, decide_eq_true_eq, decide_eq_true_eq] at hc
        rw [if_pos (by rw [hh]; exact hc)]
        rfl
      rw [z] at q
      exact q H2 (e1.trans e2)
    · have hc' : ¬ (3 < bs.length ∨ (1 < bs.length ∧ c0 = 48)) := by
        intro z
        have : (decide (3 < bs.length) || (decide (1 < bs.length) && decide (c0 = 48))) = true := by
          rw [Bool.or_eq_true, Bool.and_eq_true, decide_eq_true_eq, decide_eq_true_eq, decide_eq_true_eq]
          exact z
        rw [this] at hc
        cases hc
      have hl : bs.length ≤ 3 := by omega
      have z : numV (numTok bs) = .int (Vbirak.value bs : Nat) := by
        unfold numTok
        rw [if_neg (by rw [hh]; exact hc')]
        rfl
      rw [z] at q
      refine q_asg ev_c fun H2 e2 => ?_
      refine q_forLn (ev_var rfl) (ex_l (e1.trans e2) hS) (fun i σ' H' => Ex H H' ∧ ∃ v, σ' = [some (.ref a), some (.int ((Vbirak.value (bs.take i) : Nat) : Int)), v]) (fun H3 e3 => ⟨(e1.trans e2).trans e3, none, rfl⟩) (fun i σ' H' _ z => ex_l z.1 hS) ?_ ?_
      · rintro i x σ' H' hx ⟨ex, v, rfl⟩
        obtain ⟨n, hn, rfl⟩ := vI_at hx
        have hi : i < bs.length := (List.getElem?_eq_some_iff.mp hn).1
        have lt := value_lt bs hb i (by omega)
        have lt2 : (10 : Nat) ^ i ≤ 10 ^ 3 := Nat.pow_le_pow_right (by decide) (by omega)
        have hd := hb n (List.mem_of_getElem? hn)
        refine s_asg (ev_op (ev_op (ev_op (ev_var rfl) ev_c (rv_I (.inl ⟨?_, ?_⟩))) (ev_var rfl) rv_I0) ev_c rv_I0) fun H3 e3 => ⟨ex.trans e3, some (.int (n : Int)), ?_⟩
        · omega
        · omega
        · have ev : Vbirak.value (bs.take (i + 1)) = 10 * Vbirak.value (bs.take i) + (n - 48) := by
            rw [List.take_add_one, hn]
            exact value_snoc _ _
          have ei : ((Vbirak.value (bs.take i) : Nat) : Int) * 10 + (n : Int) - 48 = ((Vbirak.value (bs.take (i + 1)) : Nat) : Int) := by
            rw [ev]
            omega
          show [some (V.ref a), some (V.int (((Vbirak.value (bs.take i) : Nat) : Int) * 10 + (n : Int) - 48)), some (V.int (n : Int))] = _
          rw [ei]
      · rintro σ' H' ⟨ex, v, rfl⟩
        rw [vI_len, List.take_length]
        exact s_ret (ev_var rfl) fun H3 e3 => q H3 (ex.trans e3)
end
end Sl
namespace Sl
open PySem PySem.Spec PyProof.Rows L2
open Evl
open Vbirak (Lake Weather)
open Sm
theorem inR_letter : inR 97 122 = Vbirak.isLetter := rfl
theorem inR_digit : inR 48 57 = Vbirak.isDigit := rfl
theorem run_take (p : Nat → Bool) (t : List Nat) (i : Nat) : (t.drop i).take (runOf p t i).length = runOf p t i := by
  unfold runOf
  generalize t.drop i = l
  induction l with
  | nil => rfl
  | cons a r ih =>
    rw [List.takeWhile_cons]
    split
    · rw [List.length_cons, List.take_succ_cons, ih]
    · rfl
namespace Tx
variable {K : PySem.W.Frag} {mg : Str → Option Value}
theorem tup_BLANKS (T : Tx K mg) (H : Hp) : SqT K H (He.ga K "BLANKS") [.int 32, .int 10] := He.tupB_ok (vs := Sl.tup_BLANKS) (He.ba (He.ba (He.ba T.t.m).2).2).1 H
theorem tup_GRAMMAR_WORDS (T : Tx K mg) (H : Hp) : SqT K H (He.ga K "GRAMMAR_WORDS") (Sl.tup_GRAMMAR_WORDS.map (He.Dv.v K)) := He.tupB_ok (vs := Sl.tup_GRAMMAR_WORDS) (He.ba (He.ba (He.ba (He.ba T.t.m).2).2).2).1 H
end Tx
theorem blank_in (c : Nat) : inV (.int (c : Int)) [.int 32, .int 10] = decide (c = 32 ∨ c = 10) := by
  show ((32 : Int) == (c : Int) || ((10 : Int) == (c : Int) || false)) = _
  by_cases h1 : c = 32
  · subst h1
    rfl
  · by_cases h2 : c = 10
    · subst h2
      rfl
    · have e1 : ((32 : Int) == (c : Int)) = false := by
        rw [beq_eq_false_iff_ne]
        omega
      have e2 : ((10 : Int) == (c : Int)) = false := by
        rw [beq_eq_false_iff_ne]
        omega
      rw [e1, e2, decide_eq_false (by omega)]
      rfl
section
variable {P : Program} {w : World} {K : PySem.W.Frag} {mg : Str → Option Value} {base : Heap}
def PcsAt (K : PySem.W.Frag) (h : Hp) (p : Addr) (t : List Nat) : Prop := ListAt (PieceAt K) h p (pcs t ++ [(t.length, .wrong)])
def spCut (K : PySem.W.Frag) : Sp := fun vs H Q _ => ∃ (a : Addr) (t : List Nat), vs = [.ref a] ∧ SqL K H a (vI t) ∧ t.length ≤ 2000 ∧ RetN (fun h p => PcsAt K h p t) H Q
/-- Piece(e, ..) -/
theorem en_piece {σ : L2.St} {H : Hp} {E : XK} {ta : TA} {x : Nat × Vbirak.Tok} (h : EvA ta σ H [.int (x.1 : Int), wordV x.2, numV x.2]) : EvN (tMake (He.ga K "Piece") (spInit (He.ga K "Piece") ["place", "word", "number"]) [] E ta) σ H (fun h p => PieceAt K h p x) := en_make h rfl
theorem word_num (bs : List Nat) : numV (wordTok bs) = .non := by
  unfold wordTok
  split <;> rfl
theorem num_word (bs : List Nat) : wordV (numTok bs) = .non := by
  unfold numTok
  split <;> rfl
theorem ok_cut (T : Tx K mg) (F_run_end : Fn P w K mg base 1 (He.ga K "run_end") ["text", "place", "first", "last"] (spRunEnd K)) (F_Piece_init : Fn P w K mg base 1 (He.ma K (He.ga K "Piece") "__init__") ["self", "place", "word", "number"] (spInit (He.ga K "Piece") ["place", "word", "number"])) (F_word_of : Fn P w K mg base 1 (He.ga K "word_of") ["run"] (spWordOf K)) (F_number_of : Fn P w K mg base 1 (He.ga K "number_of") ["run"] (spNumberOf K)) : Fn P w K mg base 3 (He.ga K "cut") ["text"] (spCut K) := by
  obtain ⟨_, g_FIRST_DIGIT, r_FIRST_DIGIT⟩ := T.cst_FIRST_DIGIT
  obtain ⟨_, g_FIRST_LETTER, r_FIRST_LETTER⟩ := T.cst_FIRST_LETTER
  obtain ⟨_, g_LAST_DIGIT, r_LAST_DIGIT⟩ := T.cst_LAST_DIGIT
  obtain ⟨_, g_LAST_LETTER, r_LAST_LETTER⟩ := T.cst_LAST_LETTER
  obtain ⟨_, g_SEMICOLON, r_SEMICOLON⟩ := T.cst_SEMICOLON
  have sc : FnScope ["text", "pieces", "place", "word_end", "number_end"] ["text"] (defScope s_cut) := ⟨rfl, rfl, rfl, by decide +kernel, rfl, by decide +kernel, by decide +kernel⟩
  refine fn_mk (k := 2) T.fun_cut sc (fun _ _ _ _ _ _ us hl => match us, hl with | [_], _ => rfl) (fun vs H Q E h => ?len) (fun cdv A outer s H vs Q E hr h => ⟨_, (pss_cons (ps_set (i := 1) sc.nd rfl (Or.inl rfl) (pe_lst pa_nil))
      (pss_cons (ps_set (i := 2) sc.nd rfl (Or.inl rfl) pe_int)
      (pss_cons (ps_while (passes_of rfl) (pt_cmpR op_lt (pv 2) (pe_callB call_len_seq (by rfl) T.free_len PySem.boot_len (pa_c (pv 0) pa_nil)) (nomark _)) (pss_cons (ps_set (i := 3) sc.nd rfl (Or.inl rfl) (pe_f F_run_end hr (by decide) T.glo_run_end (passes_call (takes_of rfl rfl rfl rfl) (fun _ _ _ _ h => h)) (pa_c (pv 0) (pa_c (pv 2) (pa_c (pe_glob rfl g_FIRST_LETTER r_FIRST_LETTER) (pa_c (pe_glob rfl g_LAST_LETTER r_LAST_LETTER) pa_nil))))))
      (pss_cons (ps_set (i := 4) sc.nd rfl (Or.inl rfl) (pe_f F_run_end hr (by decide) T.glo_run_end (passes_call (takes_of rfl rfl rfl rfl) (fun _ _ _ _ h => h)) (pa_c (pv 0) (pa_c (pv 2) (pa_c (pe_glob rfl g_FIRST_DIGIT r_FIRST_DIGIT) (pa_c (pe_glob rfl g_LAST_DIGIT r_LAST_DIGIT) pa_nil))))))
      (pss_one (ps_if (pt_cmpR op_gt (pv 3) (pv 2) (nomark _)) (pss_cons (ps_expr (pe_bm PySem.F.plainAttrs_list PySem.F.slot_list_append PySem.F.type_list_append mt_append (pv 1) (pa_c (pe_k F_Piece_init hr (by decide) T.mkr_Piece T.glo_Piece (passes_call (takes_of rfl rfl rfl rfl) (fun _ _ _ _ h => h)) (pa_c (pv 2) (pa_c (pe_f F_word_of hr (by decide) T.glo_word_of (passes_call (takes_of rfl rfl rfl rfl) (fun _ _ _ _ h => h)) (pa_c (pe_slice sl_list (pv 0) (po_some (pv 2)) (po_some (pv 3))) pa_nil)) (pa_c pe_non pa_nil)))) pa_nil)))
      (pss_one (ps_set (i := 2) sc.nd rfl (Or.inl rfl) (pv 3)))) (pss_one (ps_if (pt_cmpR op_gt (pv 4) (pv 2) (nomark _)) (pss_cons (ps_expr (pe_bm PySem.F.plainAttrs_list PySem.F.slot_list_append PySem.F.type_list_append mt_append (pv 1) (pa_c (pe_k F_Piece_init hr (by decide) T.mkr_Piece T.glo_Piece (passes_call (takes_of rfl rfl rfl rfl) (fun _ _ _ _ h => h)) (pa_c (pv 2) (pa_c pe_non (pa_c (pe_f F_number_of hr (by decide) T.glo_number_of (passes_call (takes_of rfl rfl rfl rfl) (fun _ _ _ _ h => h)) (pa_c (pe_slice sl_list (pv 0) (po_some (pv 2)) (po_some (pv 4))) pa_nil)) pa_nil)))) pa_nil)))
      (pss_one (ps_set (i := 2) sc.nd rfl (Or.inl rfl) (pv 4)))) (pss_cons (ps_if (pt_cmpR op_eq (pe_ix ix_list (pv 0) (pv 2) (fun _ _ => rfl)) (pe_glob rfl g_SEMICOLON r_SEMICOLON) (nomark _)) (pss_one (ps_expr (pe_bm PySem.F.plainAttrs_list PySem.F.slot_list_append PySem.F.type_list_append mt_append (pv 1) (pa_c (pe_k F_Piece_init hr (by decide) T.mkr_Piece T.glo_Piece (passes_call (takes_of rfl rfl rfl rfl) (fun _ _ _ _ h => h)) (pa_c (pv 2) (pa_c pe_str (pa_c pe_non pa_nil)))) pa_nil)))) (pss_one (ps_if (pt_cmpR op_notIn_seq (pe_ix ix_list (pv 0) (pv 2) (fun _ _ => rfl)) (pe_glob (v := .ref (He.ga K "BLANKS")) rfl T.glo_BLANKS rfl) (by rfl)) (pss_one (ps_expr (pe_bm PySem.F.plainAttrs_list PySem.F.slot_list_append PySem.F.type_list_append mt_append (pv 1) (pa_c (pe_k F_Piece_init hr (by decide) T.mkr_Piece T.glo_Piece (passes_call (takes_of rfl rfl rfl rfl) (fun _ _ _ _ h => h)) (pa_c (pv 2) (pa_c pe_non (pa_c pe_non pa_nil)))) pa_nil)))) pss_nil)))
      (pss_one (ps_aug (i := 2) sc.nd rfl (Or.inl rfl) pe_int ip_add))))))))))
      (pss_cons (ps_expr (pe_bm PySem.F.plainAttrs_list PySem.F.slot_list_append PySem.F.type_list_append mt_append (pv 1) (pa_c (pe_k F_Piece_init hr (by decide) T.mkr_Piece T.glo_Piece (passes_call (takes_of rfl rfl rfl rfl) (fun _ _ _ _ h => h)) (pa_c (pe_callB call_len_seq (by rfl) T.free_len PySem.boot_len (pa_c (pv 0) pa_nil)) (pa_c pe_non (pa_c pe_non pa_nil)))) pa_nil)))
      (pss_one (ps_ret (pv 1))))))), ?rd⟩)
  case len =>
    obtain ⟨a, t, rfl, _⟩ := h
    rfl
  case rd =>
    obtain ⟨a, t, rfl, hS, hlen, q⟩ := h
    refine q_asgL (xs := []) (el_lst ea_nil (by decide)) fun s H1 hs e1 h1 => ?_
    refine q_asg ev_c fun H2 e2 => ?_
    have b0 : Bld (PieceAt K) H s [] [] H2 := ⟨hs, e1.trans e2, e2 _ _ h1, All2.nil⟩
    refine q_while (fun m σ' H' => ∃ (i : Nat) (v3 v4 : Option V) (as : List Addr) (dn : Pcs), i ≤ t.length ∧ m = t.length - i ∧ σ' = [some (.ref a), some (.ref s), some (.int (i : Int)), v3, v4] ∧ Bld (PieceAt K) H s as dn H' ∧ dn ++ pcsAt t i = pcs t ∧ dn.length ≤ i) t.length ⟨0, none, none, [], [], Nat.zero_le _, rfl, rfl, b0, rfl, Nat.zero_le _⟩ ?_
    rintro m σ' H' ⟨i, v3, v4, as, dn, hi, rfl, rfl, b, hd, hdl⟩
    have hS' := ex_l b.ex hS
    refine ⟨decide (i < t.length), et_is (et_test (ev_op (ev_var rfl) (ev_lenL (ev_var rfl) hS') rv_I0)) (by rw [vI_len]; exact decide_eq_decide.mpr (by omega)), fun hc H3 e3 => ⟨_, fun σ2 H2 z => z, ?_⟩, fun hc H3 e3 => ?_⟩
    · -- one turn
      have hlt : i < t.length := of_decide_eq_true hc
      obtain ⟨c, hcc⟩ : ∃ c, t[i]? = some c := ⟨_, List.getElem?_eq_getElem hlt⟩
      have b3 := b.on (mono_piece K) e3
      have hS3 := ex_l b3.ex hS
      refine q_asg (ev_call (sp := spRunEnd K) (ea_cons (ev_var rfl) (ea_cons (ev_var rfl) (ea_cons ev_c (ea_cons ev_c ea_nil)))) (fun H4 e4 Q q E => ⟨a, t, i, 97, 122, rfl, ex_l e4 hS3, hi, q⟩)) fun H4 e4 => ?_
      have b4 := b3.on (mono_piece K) e4
      have hS4 := ex_l b4.ex hS
      refine q_asg (ev_call (sp := spRunEnd K) (ea_cons (ev_var rfl) (ea_cons (ev_var rfl) (ea_cons ev_c (ea_cons ev_c ea_nil)))) (fun H5 e5 Q q E => ⟨a, t, i, 48, 57, rfl, ex_l e5 hS4, hi, q⟩)) fun H5 e5 => ?_
      have b5 := b4.on (mono_piece K) e5
      have hS5 := ex_l b5.ex hS
      rw [inR_letter, inR_digit]
      have hal : as.length = dn.length := b.len
      refine s_if (et_is (et_test (ev_op (ev_var rfl) (ev_var rfl) rv_I0)) (b := Vbirak.isLetter c) ?_) (fun hl H6 e6 => ?_) (fun hl H6 e6 => ?_)
      · have z := run_zero (p := Vbirak.isLetter) hcc
        cases hL : Vbirak.isLetter c with
        | true =>
          refine decide_eq_true ?_
          have : (runOf Vbirak.isLetter t i).length ≠ 0 := fun e => by
            rw [z.mp e] at hL
            cases hL
          omega
        | false =>
          refine decide_eq_false ?_
          have := z.mpr hL
          omega
      · -- a word
        have b6 := b5.on (mono_piece K) e6
        have hS6 := ex_l b6.ex hS
        have hle := run_le Vbirak.isLetter t i hi
        have hne : (runOf Vbirak.isLetter t i).length ≠ 0 := fun e => by
          rw [(run_zero hcc).mp e] at hl
          cases hl
        have sl := el_sl (K := K) (te := tVar 0) (tl := tPart (tVar 2)) (th := tPart (tVar 3)) (σ := [some (.ref a), some (.ref s), some (.int (i : Int)), some (.int ((i + (runOf Vbirak.isLetter t i).length : Nat) : Int)), some (.int ((i + (runOf Vbirak.isDigit t i).length : Nat) : Int))]) (H := H6) (ev_var rfl) (eo_some (ev_var rfl)) (eo_some (ev_var rfl)) hS6
        rw [cut_nat t (Nat.le_add_right _ _) hle, Nat.add_sub_cancel_left, run_take] at sl
        refine q_appN (R := fun h p => PieceAt K h p (i, wordTok (runOf Vbirak.isLetter t i))) b6.it (ev_var rfl) (en_piece (ea_cons (ev_var rfl) (ea_cons (ev_callL1 (sp := spWordOf K) sl (fun p H7 hp e7 H8 e8 Q q E => ⟨p, _, rfl, sq_of (e8 _ _ hp), fun d hd => ?_, q⟩)) (ea_cons (ev_is ev_c (word_num _).symm) ea_nil)))) (by rw [List.length_map, hal]; omega) (fun p H7 e7 r7 => ?_) (fun _ _ _ e h => mono_piece K _ _ _ _ e h)
        · have := mem_tw hd
          unfold Vbirak.isLetter at this
          simp only [Bool.and_eq_true, decide_eq_true_eq] at this
          exact this
        · refine s_asg (ev_var rfl) fun H8 e8 => ⟨t.length - (i + (runOf Vbirak.isLetter t i).length), by omega, i + (runOf Vbirak.isLetter t i).length, _, _, _, dn ++ [(i, wordTok (runOf Vbirak.isLetter t i))], hle, rfl, rfl, (b6.app (mono_piece K) e7 r7).on (mono_piece K) e8, ?_, by rw [List.length_append]; simp only [List.length_singleton]; omega⟩
          rw [List.append_assoc, ← hd, step_letter hcc hl]
          rfl
      · refine s_if (et_is (et_test (ev_op (ev_var rfl) (ev_var rfl) rv_I0)) (b := Vbirak.isDigit c) ?_) (fun hg H7 e7 => ?_) (fun hg H7 e7 => ?_)
        · have z := run_zero (p := Vbirak.isDigit) hcc
          cases hL : Vbirak.isDigit c with
          | true =>
            refine decide_eq_true ?_
            have : (runOf Vbirak.isDigit t i).length ≠ 0 := fun e => by
              rw [z.mp e] at hL
              cases hL
            omega
          | false =>
            refine decide_eq_false ?_
            have := z.mpr hL
            omega
        · -- a number
          have b6 := b5.on (mono_piece K) (e6.trans e7)
          have hS6 := ex_l b6.ex hS
          have hle := run_le Vbirak.isDigit t i hi
          have hne : (runOf Vbirak.isDigit t i).length ≠ 0 := fun e => by
            rw [(run_zero hcc).mp e] at hg
            cases hg
          have sl := el_sl (K := K) (te := tVar 0) (tl := tPart (tVar 2)) (th := tPart (tVar 4)) (σ := [some (.ref a), some (.ref s), some (.int (i : Int)), some (.int ((i + (runOf Vbirak.isLetter t i).length : Nat) : Int)), some (.int ((i + (runOf Vbirak.isDigit t i).length : Nat) : Int))]) (H := H7) (ev_var rfl) (eo_some (ev_var rfl)) (eo_some (ev_var rfl)) hS6
          rw [cut_nat t (Nat.le_add_right _ _) hle, Nat.add_sub_cancel_left, run_take] at sl
          refine q_appN (R := fun h p => PieceAt K h p (i, numTok (runOf Vbirak.isDigit t i))) b6.it (ev_var rfl) (en_piece (ea_cons (ev_var rfl) (ea_cons (ev_is ev_c (num_word _).symm) (ea_cons (ev_callL1 (sp := spNumberOf K) sl (fun p H8 hp e8 H9 e9 Q q E => ⟨p, _, rfl, sq_of (e9 _ _ hp), fun z => hne (by rw [z]; rfl), fun d hd => ?_, q⟩)) ea_nil)))) (by rw [List.length_map, hal]; omega) (fun p H8 e8 r8 => ?_) (fun _ _ _ e h => mono_piece K _ _ _ _ e h)
          · have := mem_tw hd
            unfold Vbirak.isDigit at this
            simp only [Bool.and_eq_true, decide_eq_true_eq] at this
            exact this
          · refine s_asg (ev_var rfl) fun H9 e9 => ⟨t.length - (i + (runOf Vbirak.isDigit t i).length), by omega, i + (runOf Vbirak.isDigit t i).length, _, _, _, dn ++ [(i, numTok (runOf Vbirak.isDigit t i))], hle, rfl, rfl, (b6.app (mono_piece K) e8 r8).on (mono_piece K) e9, ?_, by rw [List.length_append]; simp only [List.length_singleton]; omega⟩
            rw [List.append_assoc, ← hd, step_digit hcc hg]
            rfl
        · -- any other sign
          have b6 := b5.on (mono_piece K) (e6.trans e7)
          have hS6 := ex_l b6.ex hS
          have it : Ev (tOp (rIxL K) (tVar 0) (tVar 2)) [some (.ref a), some (.ref s), some (.int (i : Int)), some (.int ((i + (runOf Vbirak.isLetter t i).length : Nat) : Int)), some (.int ((i + (runOf Vbirak.isDigit t i).length : Nat) : Int))] H7 (.int (c : Int)) := ev_op (ev_var rfl) (ev_var rfl) (rv_ixL hS6 (atI_nat (vI_get hcc)))
          have stp := step_sign hcc hl hg
          have hle : i + 1 ≤ t.length := hlt
          refine q_if (et_is (et_test (ev_op it ev_c (rv_eq rfl))) (b := decide (c = 59)) ?_) (fun hq H8 e8 => ?_) (fun hq H8 e8 => ?_)
          · refine decide_eq_decide.mpr ⟨fun z => ?_, fun z => ?_⟩
            · injection z with z
              omega
            · rw [z]
              rfl
          · have hq' : c = 59 := of_decide_eq_true hq
            have b7 := b6.on (mono_piece K) e8
            refine s_appN (R := fun h p => PieceAt K h p (i, .semi)) b7.it (ev_var rfl) (en_piece (ea_cons (ev_var rfl) (ea_cons (ev_is ev_c rfl) (ea_cons (ev_is ev_c rfl) ea_nil)))) (by rw [List.length_map, hal]; omega) (fun p H9 e9 r9 => ?_) (fun _ _ _ e h => mono_piece K _ _ _ _ e h)
            refine s_aug (f := fun i j => i + j) rfl ev_c fun Ha ea => ⟨t.length - (i + 1), by omega, i + 1, _, _, _, dn ++ [(i, .semi)], hle, rfl, rfl, (b7.app (mono_piece K) e9 r9).on (mono_piece K) ea, ?_, by rw [List.length_append]; simp only [List.length_singleton]; omega⟩
            rw [List.append_assoc, ← hd, stp]
            unfold signPc
            rw [if_pos hq']
          · have hq' : ¬ c = 59 := of_decide_eq_false hq
            have b7 := b6.on (mono_piece K) e8
            refine s_when (et_test (ev_op (it.mono e8) ev_c (rv_niT (T.tup_BLANKS H8) rfl rfl))) (fun hw H9 e9 => ?_) (fun hw H9 e9 => ?_)
            · rw [blank_in] at hw
              have hw' : ¬ (c = 32 ∨ c = 10) := by
                intro z
                rw [decide_eq_true z] at hw
                cases hw
              have b8 := b7.on (mono_piece K) e9
              refine s_appN (R := fun h p => PieceAt K h p (i, .wrong)) b8.it (ev_var rfl) (en_piece (ea_cons (ev_var rfl) (ea_cons (ev_is ev_c rfl) (ea_cons (ev_is ev_c rfl) ea_nil)))) (by rw [List.length_map, hal]; omega) (fun p Ha ea ra => ?_) (fun _ _ _ e h => mono_piece K _ _ _ _ e h)
              refine s_aug (f := fun i j => i + j) rfl ev_c fun Hb eb => ⟨t.length - (i + 1), by omega, i + 1, _, _, _, dn ++ [(i, .wrong)], hle, rfl, rfl, (b8.app (mono_piece K) ea ra).on (mono_piece K) eb, ?_, by rw [List.length_append]; simp only [List.length_singleton]; omega⟩
              rw [List.append_assoc, ← hd, stp]
              unfold signPc
              rw [if_neg hq', if_neg hw']
            · rw [blank_in] at hw
              have hw' : c = 32 ∨ c = 10 := by
                by_cases z : c = 32 ∨ c = 10
                · exact z
                · rw [decide_eq_false z] at hw
                  cases hw
              refine s_aug (f := fun i j => i + j) rfl ev_c fun Hb eb => ⟨t.length - (i + 1), by omega, i + 1, _, _, _, dn, hle, rfl, rfl, b7.on (mono_piece K) (e9.trans eb), ?_, by omega⟩
              rw [← hd, stp]
              unfold signPc
              rw [if_neg hq', if_pos hw']
              rfl
    · -- the end
      have hge : i = t.length := by
        have := of_decide_eq_false hc
        omega
      have b3 := b.on (mono_piece K) e3
      have hal : as.length = dn.length := b.len
      refine q_appN (R := fun h p => PieceAt K h p (t.length, .wrong)) b3.it (ev_var rfl) (en_piece (ea_cons (ev_is (ev_lenL (ev_var rfl) (ex_l b3.ex hS)) (by rw [vI_len])) (ea_cons (ev_is ev_c rfl) (ea_cons (ev_is ev_c rfl) ea_nil)))) (by rw [List.length_map, hal]; omega) (fun p H4 e4 r4 => ?_) (fun _ _ _ e h => mono_piece K _ _ _ _ e h)
      have b4 := b3.app (mono_piece K) e4 r4
      refine s_ret (ev_var rfl) fun H5 e5 => ?_
      have b5 := b4.on (mono_piece K) e5
      refine q s H5 b5.ex ?_
      have z := b5.done (mono_piece K)
      rw [hge, pcsAt_end, List.append_nil] at hd
      rw [hd] at z
      exact z
end
end Sl
namespace Sm
open Vbirak
def okTok : Tok → Prop
  | .word w => 0 < w.length ∧ w.length ≤ 8 ∧ ∀ c ∈ w, 97 ≤ c ∧ c ≤ 122
  | .num n => n ≤ 999
  | _ => True
theorem okWord {w : List Nat} (h1 : 0 < w.length) (h2 : ∀ c ∈ w, isLetter c = true) : okTok (wordTok w) := by
  unfold wordTok
  split
  · trivial
  · refine ⟨h1, by omega, fun c hc => ?_⟩
    have := h2 c hc
    unfold isLetter at this
    simpa using this
theorem value_snoc0 (ds : List Nat) (c : Nat) : value (ds ++ [c]) = 10 * value ds + (c - 48) := by
  unfold value
  rw [List.foldl_append]
  rfl
theorem value_small : ∀ (w : List Nat), (∀ c ∈ w, isDigit c = true) → w.length ≤ 3 → value w ≤ 999 := fun w h hl => by
  have dig : ∀ c ∈ w, c - 48 ≤ 9 := fun c hc => by
    have := h c hc
    unfold isDigit at this
    simp only [Bool.and_eq_true, decide_eq_true_eq] at this
    omega
  match w, hl with
  | [], _ => simp [value]
  | [a], _ =>
    have := dig a (by simp)
    show 10 * 0 + (a - 48) ≤ 999
    omega
  | [a, b], _ =>
    have h1 := dig a (by simp)
    have h2 := dig b (by simp)
    show 10 * (10 * 0 + (a - 48)) + (b - 48) ≤ 999
    omega
  | [a, b, c], _ =>
    have h1 := dig a (by simp)
    have h2 := dig b (by simp)
    have h3 := dig c (by simp)
    show 10 * (10 * (10 * 0 + (a - 48)) + (b - 48)) + (c - 48) ≤ 999
    omega
theorem okNum {w : List Nat} (h2 : ∀ c ∈ w, isDigit c = true) : okTok (numTok w) := by
  unfold numTok
  split
  · trivial
  · exact value_small w h2 (by omega)
theorem cut_ok : ∀ (f i : Nat) (t : List Nat), ∀ x ∈ cutP f i t, okTok x.2
  | 0, _, _, x, h => by cases h
  | _ + 1, _, [], x, h => by cases h
  | f + 1, i, c :: t, x, h => by
    by_cases h1 : isLetter c = true
    · rw [cut_letter h1] at h
      rcases List.mem_cons.mp h with e | h
      · rw [e]
        exact okWord (tw_pos h1) fun d hd => mem_tw hd
      · exact cut_ok f _ _ x h
    · by_cases h2 : isDigit c = true
      · rw [cut_digit h2] at h
        rcases List.mem_cons.mp h with e | h
        · rw [e]
          exact okNum fun d hd => mem_tw hd
        · exact cut_ok f _ _ x h
      · rw [cut_sign (by simpa using h1) (by simpa using h2)] at h
        rcases List.mem_append.mp h with h | h
        · unfold signPc at h
          split at h
          · rw [List.mem_singleton.mp h]
            trivial
          · split at h
            · cases h
            · rw [List.mem_singleton.mp h]
              trivial
        · exact cut_ok f _ _ x h
theorem pcs_ok (t : List Nat) : ∀ x ∈ pcs t, okTok x.2 := fun x h => cut_ok _ _ _ x h
/-! ### the piece ahead -/
def hd (n : Nat) (l : Toks) : Nat × Tok := match l with
  | [] => (n, .wrong)
  | x :: _ => x
theorem place_hd (n : Nat) (l : Toks) : placeOf n l = (hd n l).1 := by
  cases l <;> rfl
theorem ahead_hd (s : String) (n : Nat) (l : Toks) : wordAhead s l = decide ((hd n l).2 = .word (bytesOf s)) := by
  cases l with
  | nil =>
    show false = decide (Tok.wrong = Tok.word (bytesOf s))
    rw [decide_eq_false (by intro z; cases z)]
  | cons x r =>
    show (some x.2 == some (Tok.word (bytesOf s))) = decide (x.2 = _)
    by_cases h : x.2 = .word (bytesOf s)
    · rw [h, decide_eq_true rfl]
      simp
    · rw [decide_eq_false h]
      simpa using h
theorem must_hd (s : String) (n : Nat) (l : Toks) : mustWord n s l = if (hd n l).2 = .word (bytesOf s) then .ok (l.drop 1) else .error ⟨1, (hd n l).1⟩ := by
  unfold mustWord
  rw [ahead_hd s n l, place_hd]
  by_cases h : (hd n l).2 = .word (bytesOf s)
  · rw [if_pos h, if_pos (decide_eq_true h)]
  · rw [if_neg h, if_neg (by rw [decide_eq_false h]; exact Bool.false_ne_true)]
theorem semi_hd (n : Nat) (l : Toks) : semi n l = if (hd n l).2 = .semi then .ok (l.drop 1) else .error ⟨1, (hd n l).1⟩ := by
  unfold semi
  rw [place_hd]
  cases l with
  | nil =>
    show (if (none == some Tok.semi) = true then _ else _) = if Tok.wrong = Tok.semi then _ else _
    rw [if_neg (by decide), if_neg (by intro z; cases z)]
  | cons x r =>
    show (if (some x.2 == some Tok.semi) = true then _ else _) = if x.2 = Tok.semi then _ else _
    by_cases h : x.2 = .semi
    · rw [if_pos h, if_pos (by rw [h]; decide)]
    · rw [if_neg h, if_neg (by simpa using h)]
theorem num_hd (n lo hi : Nat) (l : Toks) : numAt n lo hi l = match (hd n l).2 with
    | .num k => if lo ≤ k ∧ k ≤ hi then .ok (k, l.drop 1) else .error ⟨4, (hd n l).1⟩
    | _ => .error ⟨1, (hd n l).1⟩ := by
  unfold numAt
  cases l with
  | nil => rfl
  | cons x r =>
    obtain ⟨i, t⟩ := x
    cases t <;> rfl
theorem name_hd (n : Nat) (l : Toks) : nameAt n l = match (hd n l).2 with
    | .word w => if KEYS.contains w = true then .error ⟨1, (hd n l).1⟩ else .ok (((hd n l).1, w), l.drop 1)
    | _ => .error ⟨1, (hd n l).1⟩ := by
  unfold nameAt
  cases l with
  | nil => rfl
  | cons x r =>
    obtain ⟨i, t⟩ := x
    cases t <;> rfl
/-- a suffix of the pieces and the tokens ahead -/
theorem hd_stop (n : Nat) (ps : Pcs) (k : Nat) (hk : k ≤ ps.length) : (ps ++ [(n, Tok.wrong)])[k]? = some (hd n (stopW (ps.drop k))) := by
  by_cases h : k < ps.length
  · rw [List.getElem?_append_left h, List.getElem?_eq_getElem h, List.drop_eq_getElem_cons h]
    generalize ps[k] = x
    obtain ⟨i, t⟩ := x
    cases t <;> rfl
  · have e : k = ps.length := by omega
    subst e
    rw [List.getElem?_concat_length, List.drop_length]
    rfl
theorem stop_next (n : Nat) (ps : Pcs) (k : Nat) (hk : k ≤ ps.length) (h : (hd n (stopW (ps.drop k))).2 ≠ .wrong) : k < ps.length ∧ (stopW (ps.drop k)).drop 1 = stopW (ps.drop (k + 1)) := by
  by_cases hl : k < ps.length
  · refine ⟨hl, ?_⟩
    rw [List.drop_eq_getElem_cons hl] at h ⊢
    revert h
    generalize ps[k] = x
    intro h
    obtain ⟨i, t⟩ := x
    cases t with
    | wrong => exact absurd rfl h
    | word w => rfl
    | num n => rfl
    | semi => rfl
  · have e : k = ps.length := by omega
    subst e
    rw [List.drop_length] at h
    exact absurd rfl h
theorem hd_ok {n : Nat} {ps : Pcs} {k : Nat} (h : ∀ x ∈ ps, okTok x.2) (hk : k ≤ ps.length) : okTok (hd n (stopW (ps.drop k))).2 := by
  have e := hd_stop n ps k hk
  have m := List.mem_of_getElem? e
  rcases List.mem_append.mp m with m | m
  · exact h _ m
  · rw [List.mem_singleton.mp m]
    trivial
theorem stop_nil {ps : Pcs} {k : Nat} (hk : k ≤ ps.length) : stopW (ps.drop k) = [] ↔ k = ps.length := by
  constructor
  · intro h
    by_cases hl : k < ps.length
    · rw [List.drop_eq_getElem_cons hl] at h
      revert h
      generalize ps[k] = x
      intro h
      obtain ⟨i, t⟩ := x
      cases t <;> cases h
    · omega
  · intro e
    subst e
    rw [List.drop_length]
    rfl
end Sm
namespace Sl
open PySem PySem.Spec PyProof.Rows L2
open Evl
open Vbirak (Lake Weather)
open Sm
/-! ### the reader in the heap; what else stands -/
def readF (pl : Addr) (k : Nat) : List (Str × V) := [("pieces", .ref pl), ("taken", .int (k : Int))]
theorem lk_pieces (pl : Addr) (k : Nat) : (readF pl k).lookup ("pieces" : Str) = some (.ref pl) := lk1
theorem lk_taken (pl : Addr) (k : Nat) : (readF pl k).lookup ("taken" : Str) = some (.int (k : Int)) := (lk2 (by decide +kernel)).trans lk1
theorem lk_read {pl : Addr} {k : Nat} {m : Str} (h1 : (m == ("pieces" : Str)) = false) (h2 : (m == ("taken" : Str)) = false) : (readF pl k).lookup m = none := (lk2 h1).trans ((lk2 h2).trans rfl)
theorem put_taken (pl : Addr) (k j : Nat) : putF "taken" (.int (j : Int)) (readF pl k) = readF pl j := (pf2 (by decide +kernel)).trans (congrArg _ pf1)
def RdAt (K : PySem.W.Frag) (H : Hp) (r : Addr) (n : Nat) (l : Vbirak.Toks) : Prop := ∃ dx pl ps k, H r = some (.ins (He.ga K "Reader") dx (readF pl k)) ∧ ListAt (PieceAt K) (del H r) pl (ps ++ [(n, .wrong)]) ∧ k ≤ ps.length ∧ (∀ x ∈ ps, okTok x.2) ∧ l = stopW (ps.drop k) ∧ ps.length ≤ 2000
/-- all but the reader stands -/
def But (r : Addr) (H H' : Hp) : Prop := Ex (del H r) (del H' r)
section
variable {r : Addr} {H H' H1 H2 : Hp}
theorem But.refl : But r H H := Ex.refl _
theorem But.of (e : Ex H H') : But r H H' := del_mono e
theorem But.trans (a : But r H H1) (b : But r H1 H2) : But r H H2 := Ex.trans a b
theorem But.at (a : But r H H') {b : Addr} {o : HO} (h : H b = some o) (hb : b ≠ r) : H' b = some o := by
  have z := a b o (by rw [del_ne hb]; exact h)
  rw [del_ne hb] at z
  exact z
theorem But.upd {o : HO} : But r H (upd H r o) := ex_del_upd
theorem But.ne (a : But r H H') {b : Addr} {o : HO} (h : del H r b = some o) : H' b = some o := ex_del _ _ (a b o h)
end
theorem RdAt.ex {K : PySem.W.Frag} {H H' : Hp} {r : Addr} {n : Nat} {l : Vbirak.Toks} (h : RdAt K H r n l) (e : Ex H H') : RdAt K H' r n l := by
  obtain ⟨dx, pl, ps, k, h1, h2, h3⟩ := h
  exact ⟨dx, pl, ps, k, e _ _ h1, ListAt.ex (mono_piece K) h2 (del_mono e), h3⟩
def ErrAt (H : Hp) (d : Addr) (b : Vbirak.Bad) : Prop := H d = some (.xd [("place", .int (b.place : Int)), ("kind", .int (b.kind : Int))])
/-- it fails with b -/
def Fails (K : PySem.W.Frag) (r : Addr) (H : Hp) (E : XK) (b : Vbirak.Bad) : Prop := ∀ d H', But r H H' → ErrAt H' d b → E (.ref (He.ga K "WrongText")) (some d) H'
theorem Fails.go {K : PySem.W.Frag} {r : Addr} {H H1 : Hp} {E : XK} {b : Vbirak.Bad} (f : Fails K r H E b) (e : But r H H1) : Fails K r H1 E b := fun d H' e' h => f d H' (e.trans e') h
/-- it goes on with the rest of the tokens -/
def Goes (K : PySem.W.Frag) (n : Nat) (r : Addr) (H : Hp) (Q : VK) (v : V) (l : Vbirak.Toks) : Prop := ∀ H', But r H H' → RdAt K H' r n l → Q v H'
theorem Goes.go {K : PySem.W.Frag} {n : Nat} {r : Addr} {H H1 : Hp} {Q : VK} {v : V} {l : Vbirak.Toks} (f : Goes K n r H Q v l) (e : But r H H1) : Goes K n r H1 Q v l := fun H' e' h => f H' (e.trans e') h
section
variable {P : Program} {w : World} {K : PySem.W.Frag} {mg : Str → Option Value} {base : Heap}
/-- raise WrongText(k, p) -/
theorem rd_raise {σ : L2.St} {H : Hp} {ta : TA} {Q : XK} {b : Vbirak.Bad} {r : Addr} (h : EvA ta σ H [.int (b.kind : Int), .int (b.place : Int)]) (hr : H r ≠ none) (k : Fails K r H Q b) : tMkO (He.ga K "WrongText") (spWrong K) [] ta σ H Q :=
  h H (Ex.refl H) _ fun H1 e1 => ⟨(by show 2 ≤ 1000; decide), fun a ha => ⟨a, _, _, rfl, upd_same, fun d H2 hd hne h1 h2 h3 => ⟨rfl, d, _, h1, h2, (by rw [upd_ne hne] at hd; exact hd), k d _ (fun c o hc => by
    by_cases hcr : c = r
    · rw [hcr, del_same] at hc
      cases hc
    · rw [del_ne hcr] at hc ⊢
      have hc1 : H1 c = some o := e1 _ _ hc
      rw [upd_ne hne] at hd
      have n1 : c ≠ a := ne_of_none hc1 ha
      have n2 : c ≠ d := ne_of_none hc1 hd
      rw [upd_ne n2, del_ne n1, h3 c n1 n2, upd_ne n1]
      exact hc1) (by
    show upd _ d _ d = _
    rw [upd_same])⟩⟩⟩
theorem rd_meth {H : Hp} {r : Addr} {n : Nat} {l : Vbirak.Toks} (h : RdAt K H r n l) {m : Str} (h1 : (m == ("pieces" : Str)) = false) (h2 : (m == ("taken" : Str)) = false) : ∃ dx fs, H r = some (.ins (He.ga K "Reader") dx fs) ∧ fs.lookup m = none := by
  obtain ⟨dx, pl, ps, k, h3, _⟩ := h
  exact ⟨dx, _, h3, lk_read h1 h2⟩
theorem rd_some {H : Hp} {r : Addr} {n : Nat} {l : Vbirak.Toks} (h : RdAt K H r n l) : H r ≠ none := by
  obtain ⟨dx, pl, ps, k, h3, _⟩ := h
  rw [h3]
  simp
/-- reader.m(..) -/
theorem ev_rdm {σ : L2.St} {H : Hp} {te : TE} {ta : TA} {m : Str} {sp : Sp} {E : XK} {Q : VK} {r : Addr} {n : Nat} {l : Vbirak.Toks} {vs : List V} (he : Ev te σ H (.ref r)) (h : RdAt K H r n l) (ha : EvA ta σ H vs) (k : ∀ H1, Ex H H1 → sp (.ref r :: vs) H1 Q E)
    (h1 : (m == ("pieces" : Str)) = false := by decide +kernel) (h2 : (m == ("taken" : Str)) = false := by decide +kernel) : tMeth (He.ga K "Reader") m sp [] E te ta σ H Q := by
  refine he H (Ex.refl H) _ fun H1 e1 => ?_
  obtain ⟨dx, fs, h3, h4⟩ := rd_meth h h1 h2
  refine ⟨r, dx, fs, rfl, e1 _ _ h3, h4, ha H1 e1 _ fun H2 e2 => ?_⟩
  show sp (.ref r :: (vs ++ [])) H2 Q E
  rw [List.append_nil]
  exact k H2 (e1.trans e2)
theorem vm_rd {σ : L2.St} {H : Hp} {te : TE} {ta : TA} {m : Str} {sp : Sp} {E : XK} {r : Addr} {n : Nat} {l : Vbirak.Toks} {vs : List V} {z : V} (he : Ev te σ H (.ref r)) (h : RdAt K H r n l) (ha : EvA ta σ H vs) (k : SpV sp (.ref r :: vs) H z)
    (h1 : (m == ("pieces" : Str)) = false := by decide +kernel) (h2 : (m == ("taken" : Str)) = false := by decide +kernel) : Ev (tMeth (He.ga K "Reader") m sp [] E te ta) σ H z := fun H1 e1 Q q =>
  ev_rdm (he.mono e1) (h.ex e1) (ha.mono e1) (fun H2 e2 => k H2 (e1.trans e2) Q (fun H3 e3 => q H3 (e2.trans e3)) E) h1 h2
def spReader (K : PySem.W.Frag) : Sp := fun vs H Q _ => ∃ (p dx a : Addr) (t : List Nat), vs = [.ref p, .ref a] ∧ H p = some (.ins (He.ga K "Reader") dx []) ∧ SqL K H a (vI t) ∧ t.length ≤ 2000 ∧ ∀ H', But p H H' → RdAt K H' p t.length (stopW (pcs t)) → Q .non H'
theorem ok_Reader_init (T : Tx K mg) (F_cut : Fn P w K mg base 3 (He.ga K "cut") ["text"] (spCut K)) : Fn P w K mg base 4 (He.ma K (He.ga K "Reader") "__init__") ["self", "text"] (spReader K) := by
  have sc : FnScope ["self", "text"] ["self", "text"] (defScope s_Reader_init) := ⟨rfl, rfl, rfl, by decide +kernel, rfl, by decide +kernel, by decide +kernel⟩
  refine fn_mk (k := 3) T.fun_Reader_init sc (fun _ _ _ _ _ _ us hl => match us, hl with | [_, _], _ => rfl) (fun vs H Q E h => ?len) (fun cdv A outer s H vs Q E hr h => ⟨_, (pss_cons (ps_fld (pv 0) (pe_f F_cut hr (by decide) T.glo_cut (passes_call (takes_of rfl rfl rfl rfl) (fun _ _ _ _ h => h)) (pa_c (pv 1) pa_nil)) rfl)
      (pss_one (ps_fld (pv 0) pe_int rfl))), ?rd⟩)
  case len =>
    obtain ⟨p, dx, a, t, rfl, _⟩ := h
    rfl
  case rd =>
    obtain ⟨p, dx, a, t, rfl, hp, hS, hl, k⟩ := h
    refine ⟨_, rfl, a, t, rfl, hS, hl, fun pl H1 e1 r1 => ?_⟩
    refine ⟨_, rfl, p, _, dx, [], rfl, e1 _ _ hp, T.cls_Reader, T.noat_Reader_pieces, fwl fw0 (by decide), ?_⟩
    refine ⟨_, rfl, p, _, dx, _, rfl, upd_same, T.cls_Reader, T.noat_Reader_taken, fwl (fwS fw0) (by decide), ?_⟩
    rw [upd_upd]
    refine k _ ((But.of e1).trans But.upd) ⟨dx, pl, pcs t, 0, upd_same, ?_, Nat.zero_le _, pcs_ok t, rfl, Nat.le_trans (cut_len _ _ _) hl⟩
    refine ListAt.ex (mono_piece K) r1 ?_
    exact Ex.trans (ex_nw_del (s := p) (by rw [hp]; simp)) ex_del_upd
def spAhead (K : PySem.W.Frag) : Sp := fun vs H Q _ => ∃ (r : Addr) (n : Nat) (l : Vbirak.Toks), vs = [.ref r] ∧ RdAt K H r n l ∧ ∀ p H', Ex H H' → PieceAt K H' p (hd n l) → Q (.ref p) H'
theorem ok_Reader_ahead (T : Tx K mg)  : Fn P w K mg base 1 (He.ma K (He.ga K "Reader") "ahead") ["self"] (spAhead K) := by
  have sc : FnScope ["self"] ["self"] (defScope s_Reader_ahead) := ⟨rfl, rfl, rfl, by decide +kernel, rfl, by decide +kernel, by decide +kernel⟩
  refine fn_mk (k := 0) T.fun_Reader_ahead sc (fun _ _ _ _ _ _ us hl => match us, hl with | [_], _ => rfl) (fun vs H Q E h => ?len) (fun cdv A outer s H vs Q E hr h => ⟨_, (pss_one (ps_ret (pe_ix ix_list (pe_fld (pv 0) rfl) (pe_fld (pv 0) rfl) (fun _ _ => rfl)))), ?rd⟩)
  case len =>
    obtain ⟨r, n, l, rfl, _⟩ := h
    rfl
  case rd =>
    obtain ⟨r, n, l, rfl, ⟨dx, pl, ps, k, h1, ⟨as, h2, h3⟩, hk, ho, rfl, hz⟩, q⟩ := h
    obtain ⟨p, hp, rp⟩ := h3.get (hd_stop n ps k hk)
    refine s_ret (ev_op (ev_fld (ev_var rfl) h1 T.cls_Reader T.noat_Reader_pieces (lk_pieces ..)) (ev_fld (ev_var rfl) h1 T.cls_Reader T.noat_Reader_taken (lk_taken ..)) (rv_ixL (sq_of (ex_del _ _ h2)) (atI_nat (ref_get hp)))) fun H1 e1 => q p H1 e1 (mono_piece K _ _ _ _ (ex_del.trans e1) rp)
/-- a field of the piece ahead -/
theorem ev_ahead {σ : L2.St} {H : Hp} {te : TE} {E : XK} {r : Addr} {n : Nat} {l : Vbirak.Toks} {f : Str} {v : V} (T : Tx K mg) (he : Ev te σ H (.ref r)) (h : RdAt K H r n l) (hn : NoAttr K (He.ga K "Piece") f) (hv : (pieceF (hd n l)).lookup f = some v) :
    Ev (tFld K (tMeth (He.ga K "Reader") "ahead" (spAhead K) [] E te tNil) f) σ H v := fun H1 e1 Q q =>
  ev_rdm (he.mono e1) (h.ex e1) ea_nil fun H2 e2 => ⟨r, n, l, rfl, h.ex (e1.trans e2), fun p H3 e3 ⟨dx, hp⟩ => ⟨p, _, dx, _, v, rfl, hp, T.cls_Piece, hn, hv, q H3 (e2.trans e3)⟩⟩
theorem lk_place (x : Nat × Vbirak.Tok) : (pieceF x).lookup ("place" : Str) = some (.int (x.1 : Int)) := lk1
theorem lk_word (x : Nat × Vbirak.Tok) : (pieceF x).lookup ("word" : Str) = some (wordV x.2) := (lk2 (by decide +kernel)).trans lk1
theorem lk_number (x : Nat × Vbirak.Tok) : (pieceF x).lookup ("number" : Str) = some (numV x.2) := (lk2 (by decide +kernel)).trans ((lk2 (by decide +kernel)).trans lk1)
def spHere (K : PySem.W.Frag) : Sp := fun vs H Q _ => ∃ (r : Addr) (n : Nat) (l : Vbirak.Toks), vs = [.ref r] ∧ RdAt K H r n l ∧ RetV (.int ((hd n l).1 : Int)) H Q
theorem ok_Reader_here (T : Tx K mg) (F_Reader_ahead : Fn P w K mg base 1 (He.ma K (He.ga K "Reader") "ahead") ["self"] (spAhead K)) : Fn P w K mg base 2 (He.ma K (He.ga K "Reader") "here") ["self"] (spHere K) := by
  have sc : FnScope ["self"] ["self"] (defScope s_Reader_here) := ⟨rfl, rfl, rfl, by decide +kernel, rfl, by decide +kernel, by decide +kernel⟩
  refine fn_mk (k := 1) T.fun_Reader_here sc (fun _ _ _ _ _ _ us hl => match us, hl with | [_], _ => rfl) (fun vs H Q E h => ?len) (fun cdv A outer s H vs Q E hr h => ⟨_, (pss_one (ps_ret (pe_fld (pe_m0 F_Reader_ahead hr (by decide) (pv 0) T.cls_Reader T.meth_Reader_ahead (passes_call (takes_of rfl rfl rfl rfl) (fun _ _ _ _ h => h))) rfl))), ?rd⟩)
  case len =>
    obtain ⟨r, n, l, rfl, _⟩ := h
    rfl
  case rd =>
    obtain ⟨r, n, l, rfl, hR, q⟩ := h
    exact s_ret (ev_ahead T (ev_var rfl) hR T.noat_Piece_place (lk_place _)) q
def seesB (n : Nat) (l : Vbirak.Toks) (s : Str) : Bool := decide (wordV (hd n l).2 = .str s)
def spSees (K : PySem.W.Frag) : Sp := fun vs H Q _ => ∃ (r : Addr) (n : Nat) (l : Vbirak.Toks) (s : Str), vs = [.ref r, .str s] ∧ RdAt K H r n l ∧ RetV (.bl (seesB n l s)) H Q
theorem scal_word (t : Vbirak.Tok) (s : Str) : scal (wordV t) (.str s) = true := by
  cases t <;> rfl
theorem ok_Reader_sees (T : Tx K mg) (F_Reader_ahead : Fn P w K mg base 1 (He.ma K (He.ga K "Reader") "ahead") ["self"] (spAhead K)) : Fn P w K mg base 2 (He.ma K (He.ga K "Reader") "sees") ["self", "word"] (spSees K) := by
  have sc : FnScope ["self", "word"] ["self", "word"] (defScope s_Reader_sees) := ⟨rfl, rfl, rfl, by decide +kernel, rfl, by decide +kernel, by decide +kernel⟩
  refine fn_mk (k := 1) T.fun_Reader_sees sc (fun _ _ _ _ _ _ us hl => match us, hl with | [_, _], _ => rfl) (fun vs H Q E h => ?len) (fun cdv A outer s H vs Q E hr h => ⟨_, (pss_one (ps_ret (pe_cmpR op_eq (pe_fld (pe_m0 F_Reader_ahead hr (by decide) (pv 0) T.cls_Reader T.meth_Reader_ahead (passes_call (takes_of rfl rfl rfl rfl) (fun _ _ _ _ h => h))) rfl) (pv 1) (nomark _)))), ?rd⟩)
  case len =>
    obtain ⟨r, n, l, s, rfl, _⟩ := h
    rfl
  case rd =>
    obtain ⟨r, n, l, s, rfl, hR, q⟩ := h
    exact s_ret (ev_op (ev_ahead T (ev_var rfl) hR T.noat_Piece_word (lk_word _)) (ev_var rfl) (rv_eq (scal_word _ _))) q
theorem spv_here {r : Addr} {n : Nat} {l : Vbirak.Toks} {H : Hp} (hR : RdAt K H r n l) : SpV (spHere K) [.ref r] H (.int ((hd n l).1 : Int)) := fun H1 e1 Q q E => ⟨r, n, l, rfl, hR.ex e1, q⟩
theorem spv_sees {r : Addr} {n : Nat} {l : Vbirak.Toks} {s : Str} {H : Hp} (hR : RdAt K H r n l) : SpV (spSees K) [.ref r, .str s] H (.bl (seesB n l s)) := fun H1 e1 Q q E => ⟨r, n, l, s, rfl, hR.ex e1, q⟩
/-- taken += 1 -/
theorem rd_next {H H1 : Hp} {r : Addr} {n : Nat} {l : Vbirak.Toks} (hR : RdAt K H r n l) (e : Ex H H1) (h : (hd n l).2 ≠ .wrong) : ∃ dx pl k, H1 r = some (.ins (He.ga K "Reader") dx (readF pl k)) ∧ RdAt K (upd H1 r (.ins (He.ga K "Reader") dx (readF pl (k + 1)))) r n (l.drop 1) := by
  obtain ⟨dx, pl, ps, k, h1, h2, hk, ho, rfl, hz⟩ := hR
  obtain ⟨k1, k2⟩ := stop_next n ps k hk h
  exact ⟨dx, pl, k, e _ _ h1, dx, pl, ps, k + 1, upd_same, ListAt.ex (mono_piece K) h2 (Ex.trans (del_mono e) ex_del_upd), k1, ho, k2, hz⟩
theorem wordV_ne {t : Vbirak.Tok} (h : wordV t ≠ .non) : t ≠ .wrong := fun z => h (by rw [z]; rfl)
/-- self.taken += 1, then what follows -/
theorem s_taken {σ : L2.St} {H : Hp} {r : Addr} {n : Nat} {l : Vbirak.Toks} {D : Ends} {te : TE} (T : Tx K mg) (he : Ev te σ H (.ref r)) (hR : RdAt K H r n l) (h : (hd n l).2 ≠ .wrong) (k : ∀ H', But r H H' → RdAt K H' r n (l.drop 1) → D.nx σ H') : sFldAug K te (tC (.int 1)) rAdd "taken" D σ H := by
  refine he H (Ex.refl H) _ fun H1 e1 => ?_
  obtain ⟨dx, pl, k1, h1, h2⟩ := rd_next hR e1 h
  refine ⟨r, _, dx, _, _, rfl, h1, T.cls_Reader, T.noat_Reader_taken, lk_taken .., (k1 : Int), 1, rfl, rfl, dx, _, h1, (by show 2 < 1000; decide), ?_⟩
  have e : ((k1 : Int) + 1) = ((k1 + 1 : Nat) : Int) := rfl
  rw [e, put_taken]
  exact k _ ((But.of e1).trans But.upd) h2
def spTakeWord (K : PySem.W.Frag) : Sp := fun vs H Q E => ∃ (r : Addr) (n : Nat) (l : Vbirak.Toks) (s : Str), vs = [.ref r, .str s] ∧ RdAt K H r n l ∧ (seesB n l s = true → Goes K n r H Q .non (l.drop 1)) ∧ (seesB n l s = false → Fails K r H E ⟨1, (hd n l).1⟩)
theorem ok_Reader_take_word (T : Tx K mg) (F_Reader_sees : Fn P w K mg base 2 (He.ma K (He.ga K "Reader") "sees") ["self", "word"] (spSees K)) (F_WrongText_init : Fn P w K mg base 1 (He.ma K (He.ga K "WrongText") "__init__") ["self", "kind", "place"] (spWrong K)) (F_Reader_here : Fn P w K mg base 2 (He.ma K (He.ga K "Reader") "here") ["self"] (spHere K)) : Fn P w K mg base 4 (He.ma K (He.ga K "Reader") "take_word") ["self", "word"] (spTakeWord K) := by
  obtain ⟨_, g_CANNOT_STAND, r_CANNOT_STAND⟩ := T.cst_CANNOT_STAND
  have sc : FnScope ["self", "word"] ["self", "word"] (defScope s_Reader_take_word) := ⟨rfl, rfl, rfl, by decide +kernel, rfl, by decide +kernel, by decide +kernel⟩
  refine fn_mk (k := 3) T.fun_Reader_take_word sc (fun _ _ _ _ _ _ us hl => match us, hl with | [_, _], _ => rfl) (fun vs H Q E h => ?len) (fun cdv A outer s H vs Q E hr h => ⟨_, (pss_cons (ps_if (pt_not (pt_val (pe_m F_Reader_sees hr (by decide) (pv 0) T.cls_Reader T.meth_Reader_sees (passes_call (takes_of rfl rfl rfl rfl) (fun _ _ _ _ h => h)) (pa_c (pv 1) pa_nil)))) (pss_one (ps_raise rfl (takes_of rfl rfl rfl rfl) (pmk_x T.oxc T.ini_WrongText T.ity_WrongText F_WrongText_init hr (by decide) passL rfl T.glo_WrongText (pa_c (pe_glob rfl g_CANNOT_STAND r_CANNOT_STAND) (pa_c (pe_m0 F_Reader_here hr (by decide) (pv 0) T.cls_Reader T.meth_Reader_here (passes_call (takes_of rfl rfl rfl rfl) (fun _ _ _ _ h => h))) pa_nil))))) pss_nil)
      (pss_one (ps_fldaug (pv 0) pe_int in_add))), ?rd⟩)
  case len =>
    obtain ⟨r, n, l, s, rfl, _⟩ := h
    rfl
  case rd =>
    obtain ⟨r, n, l, s, rfl, hR, kS, kF⟩ := h
    refine q_when (et_not (et_B (vm_rd (ev_var rfl) hR (ea_cons (ev_var rfl) ea_nil) (spv_sees hR)))) (fun hc H1 e1 => ?_) (fun hc H1 e1 => ?_)
    · have hf : seesB n l s = false := by
        cases z : seesB n l s with
        | false => rfl
        | true =>
          rw [z] at hc
          cases hc
      exact rd_raise (b := ⟨1, (hd n l).1⟩) (ea_cons ev_c (ea_cons (vm_rd (ev_var rfl) (hR.ex e1) ea_nil (spv_here (hR.ex e1))) ea_nil)) (rd_some (hR.ex e1)) ((kF hf).go (But.of e1))
    · have hf : seesB n l s = true := by
        cases z : seesB n l s with
        | true => rfl
        | false =>
          rw [z] at hc
          cases hc
      refine s_taken T (ev_var rfl) (hR.ex e1) ?_ fun H' e' hR' => kS hf H' ((But.of e1).trans e') hR'
      refine wordV_ne ?_
      rw [of_decide_eq_true hf]
      intro z
      cases z
end
end Sl
namespace Sl
open PySem PySem.Spec PyProof.Rows L2
open Evl
open Vbirak (Lake Weather)
open Sm
/-! ### the words of the grammar -/
def gw : List String := ["holds", "seasons", "gate", "rest", "weather", "brings", "then", "yields", "when", "and", "let", "else", "level", "least", "most", "was", "season", "to"]
theorem gw_dv (K : PySem.W.Frag) : tup_GRAMMAR_WORDS.map (He.Dv.v K) = gw.map fun s => V.str (strOf (Vbirak.bytesOf s)) := by
  have e : gw.map (fun s => strOf (Vbirak.bytesOf s)) = gw.map fun s => Str.ofString s := by decide +kernel
  have e2 := congrArg (List.map V.str) e
  rw [List.map_map, List.map_map] at e2
  show gw.map (V.str ∘ fun s => Str.ofString s) = gw.map (V.str ∘ fun s => strOf (Vbirak.bytesOf s))
  exact e2.symm
theorem gw_keys1 : (gw.map Vbirak.bytesOf).all (fun k => Vbirak.KEYS.contains k) = true := by decide +kernel
theorem gw_keys2 : Vbirak.KEYS.all (fun k => (gw.map Vbirak.bytesOf).contains k) = true := by decide +kernel
theorem gw_keys (w : List Nat) : (gw.map Vbirak.bytesOf).contains w = Vbirak.KEYS.contains w := by
  rw [Bool.eq_iff_iff]
  constructor
  · intro h
    exact List.all_eq_true.mp gw_keys1 w (List.contains_iff_mem.mp h)
  · intro h
    exact List.all_eq_true.mp gw_keys2 w (List.contains_iff_mem.mp h)
theorem str_beq (a b : List Nat) : (strOf a == strOf b) = (b == a) := by
  by_cases h : a = b
  · subst h
    simp
  · have h1 : (strOf a == strOf b) = false := by
      rw [beq_eq_false_iff_ne]
      exact fun z => h (strOf_inj z)
    have h2 : (b == a) = false := by
      rw [beq_eq_false_iff_ne]
      exact fun z => h z.symm
    rw [h1, h2]
theorem in_words (w : List Nat) : ∀ ks : List String, inV (.str (strOf w)) (ks.map fun s => V.str (strOf (Vbirak.bytesOf s))) = (ks.map Vbirak.bytesOf).contains w
  | [] => rfl
  | k :: r => by
    have ih := in_words w r
    show (strOf (Vbirak.bytesOf k) == strOf w || inV (.str (strOf w)) (r.map fun s => V.str (strOf (Vbirak.bytesOf s)))) = _
    rw [ih, str_beq, List.map_cons, List.contains_cons]
theorem flat_words (ks : List String) : (ks.map fun s => V.str (strOf (Vbirak.bytesOf s))).all flatV = true := by
  rw [List.all_eq_true]
  intro x hx
  obtain ⟨n, _, rfl⟩ := List.mem_map.mp hx
  rfl
section
variable {K : PySem.W.Frag} {σ : L2.St} {H : Hp} {ta : TE} {x : V}
theorem ev_isN (ha : Ev ta σ H x) : Ev (tOp (fun x y H Q => y = .non ∧ Q (.bl (decide (x = .non))) H) ta (tC .non)) σ H (.bl (decide (x = .non))) := ev_op ha ev_c (rv_val fun H1 _ Q q => ⟨rfl, q⟩)
end
section
variable {P : Program} {w : World} {K : PySem.W.Frag} {mg : Str → Option Value} {base : Heap}
def Named (K : PySem.W.Frag) (n : Nat) (r : Addr) (H : Hp) (Q : VK) (E : XK) : Except Vbirak.Bad ((Nat × List Nat) × Vbirak.Toks) → Prop
  | .ok y => Goes K n r H Q (.str (strOf y.1.2)) y.2
  | .error b => Fails K r H E b
def spTakeName (K : PySem.W.Frag) : Sp := fun vs H Q E => ∃ (r : Addr) (n : Nat) (l : Vbirak.Toks), vs = [.ref r] ∧ RdAt K H r n l ∧ Named K n r H Q E (Vbirak.nameAt n l)
theorem rd_ok {H : Hp} {r : Addr} {n : Nat} {l : Vbirak.Toks} (h : RdAt K H r n l) : okTok (hd n l).2 := by
  obtain ⟨dx, pl, ps, k, h1, h2, hk, ho, rfl, _⟩ := h
  exact hd_ok ho hk
theorem semi_ne {w : List Nat} (h : okTok (.word w)) : strOf w ≠ (";" : Str) := fun z => by
  have e : strOf [59] = (";" : Str) := by decide +kernel
  rw [← e] at z
  have z2 := strOf_inj z
  subst z2
  have := h.2.2 59 (by simp)
  omega
theorem ok_Reader_take_name (T : Tx K mg) (F_Reader_ahead : Fn P w K mg base 1 (He.ma K (He.ga K "Reader") "ahead") ["self"] (spAhead K)) (F_WrongText_init : Fn P w K mg base 1 (He.ma K (He.ga K "WrongText") "__init__") ["self", "kind", "place"] (spWrong K)) (F_Reader_here : Fn P w K mg base 2 (He.ma K (He.ga K "Reader") "here") ["self"] (spHere K)) : Fn P w K mg base 4 (He.ma K (He.ga K "Reader") "take_name") ["self"] (spTakeName K) := by
  obtain ⟨_, g_CANNOT_STAND, r_CANNOT_STAND⟩ := T.cst_CANNOT_STAND
  have sc : FnScope ["self", "word"] ["self"] (defScope s_Reader_take_name) := ⟨rfl, rfl, rfl, by decide +kernel, rfl, by decide +kernel, by decide +kernel⟩
  refine fn_mk (k := 3) T.fun_Reader_take_name sc (fun _ _ _ _ _ _ us hl => match us, hl with | [_], _ => rfl) (fun vs H Q E h => ?len) (fun cdv A outer s H vs Q E hr h => ⟨_, (pss_cons (ps_set (i := 1) sc.nd rfl (Or.inl rfl) (pe_fld (pe_m0 F_Reader_ahead hr (by decide) (pv 0) T.cls_Reader T.meth_Reader_ahead (passes_call (takes_of rfl rfl rfl rfl) (fun _ _ _ _ h => h))) rfl))
      (pss_cons (ps_if (PW.pt (pw_or (pt_cmpR op_isN (pv 1) pe_non (nomark _)) (pw_or (pt_cmpR op_eq (pv 1) pe_str (nomark _)) (pw_or1 (pt_cmpR op_in_seq (pv 1) (pe_glob (v := .ref (He.ga K "GRAMMAR_WORDS")) rfl T.glo_GRAMMAR_WORDS rfl) (by rfl)))))) (pss_one (ps_raise rfl (takes_of rfl rfl rfl rfl) (pmk_x T.oxc T.ini_WrongText T.ity_WrongText F_WrongText_init hr (by decide) passL rfl T.glo_WrongText (pa_c (pe_glob rfl g_CANNOT_STAND r_CANNOT_STAND) (pa_c (pe_m0 F_Reader_here hr (by decide) (pv 0) T.cls_Reader T.meth_Reader_here (passes_call (takes_of rfl rfl rfl rfl) (fun _ _ _ _ h => h))) pa_nil))))) pss_nil)
      (pss_cons (ps_fldaug (pv 0) pe_int in_add)
      (pss_one (ps_ret (pv 1)))))), ?rd⟩)
  case len =>
    obtain ⟨r, n, l, rfl, _⟩ := h
    rfl
  case rd =>
    obtain ⟨r, n, l, rfl, hR, k⟩ := h
    have ok := rd_ok hR
    refine q_asg (ev_ahead T (ev_var rfl) hR T.noat_Piece_word (lk_word _)) fun H1 e1 => ?_
    have hR1 := hR.ex e1
    have fails : ∀ H2, Ex H1 H2 → Vbirak.nameAt n l = .error ⟨1, (hd n l).1⟩ → Fails K r H2 E ⟨1, (hd n l).1⟩ := fun H2 e2 z => by
      rw [z] at k
      exact Fails.go k (But.of (e1.trans e2))
    rw [name_hd] at fails
    cases ht : (hd n l).2 with
    | wrong =>
      rw [ht] at fails
      refine q_when (b := true) (et_is (et_or (b := true) (et_test (ev_isN (ev_var rfl))) fun z => ?_) (by rfl)) (fun hc H2 e2 => ?_) (fun hc => by cases hc)
      · cases z
      · exact rd_raise (b := ⟨1, (hd n l).1⟩) (ea_cons ev_c (ea_cons (vm_rd (ev_var rfl) (hR1.ex e2) ea_nil (spv_here (hR1.ex e2))) ea_nil)) (rd_some (hR1.ex e2)) (fails H2 e2 rfl)
    | num m =>
      rw [ht] at fails
      refine q_when (b := true) (et_is (et_or (b := true) (et_test (ev_isN (ev_var rfl))) fun z => ?_) (by rfl)) (fun hc H2 e2 => ?_) (fun hc => by cases hc)
      · cases z
      · exact rd_raise (b := ⟨1, (hd n l).1⟩) (ea_cons ev_c (ea_cons (vm_rd (ev_var rfl) (hR1.ex e2) ea_nil (spv_here (hR1.ex e2))) ea_nil)) (rd_some (hR1.ex e2)) (fails H2 e2 rfl)
    | semi =>
      rw [ht] at fails
      refine q_when (b := true) (et_is (et_or (b := true) (et_test (ev_isN (ev_var rfl))) fun z => et_is (et_or (b := true) (et_test (ev_op (ev_var rfl) ev_c (rv_eq rfl))) fun z => ?_) (by rfl)) (by rfl)) (fun hc H2 e2 => ?_) (fun hc => by cases hc)
      · cases z
      · exact rd_raise (b := ⟨1, (hd n l).1⟩) (ea_cons ev_c (ea_cons (vm_rd (ev_var rfl) (hR1.ex e2) ea_nil (spv_here (hR1.ex e2))) ea_nil)) (rd_some (hR1.ex e2)) (fails H2 e2 rfl)
    | word u =>
      rw [ht] at fails ok
      have hsemi : decide (V.str (strOf u) = V.str ";") = false := decide_eq_false fun z => semi_ne ok (V.str.inj z)
      refine q_when (b := Vbirak.KEYS.contains u) (et_is (et_or (b := Vbirak.KEYS.contains u) (et_test (ev_isN (ev_var rfl))) fun z => et_is (et_or (b := Vbirak.KEYS.contains u) (et_test (ev_op (ev_var rfl) ev_c (rv_eq rfl))) fun z => et_is (et_test (ev_op (ev_var rfl) ev_c (rv_isT (T.tup_GRAMMAR_WORDS H1) rfl ?_))) ?_) ?_) ?_) (fun hc H2 e2 => ?_) (fun hc H2 e2 => ?_)
      · rw [gw_dv]
        exact flat_words gw
      · rw [gw_dv]
        show inV (.str (strOf u)) _ = _
        rw [in_words, gw_keys]
      · show (decide (V.str (strOf u) = V.str ";") || Vbirak.KEYS.contains u) = _
        rw [hsemi, Bool.false_or]
      · show (decide (V.str (strOf u) = V.non) || Vbirak.KEYS.contains u) = _
        rw [decide_eq_false (by intro z; cases z), Bool.false_or]
      · exact rd_raise (b := ⟨1, (hd n l).1⟩) (ea_cons ev_c (ea_cons (vm_rd (ev_var rfl) (hR1.ex e2) ea_nil (spv_here (hR1.ex e2))) ea_nil)) (rd_some (hR1.ex e2)) (fails H2 e2 (if_pos hc))
      · have z : Vbirak.nameAt n l = .ok (((hd n l).1, u), l.drop 1) := by
          rw [name_hd, ht]
          exact if_neg (by rw [hc]; exact Bool.false_ne_true)
        rw [z] at k
        refine s_taken (D := { nx := tRet (tVar 1) _, rt := _ }) T (ev_var rfl) (hR1.ex e2) (by rw [ht]; intro z; cases z) fun H3 e3 hR3 => ?_
        exact s_ret (ev_is (ev_var rfl) rfl) fun H4 e4 => k H4 (((But.of (e1.trans e2)).trans e3).trans (But.of e4)) (hR3.ex e4)
def Numbered (K : PySem.W.Frag) (n : Nat) (r : Addr) (H : Hp) (Q : VK) (E : XK) : Except Vbirak.Bad (Nat × Vbirak.Toks) → Prop
  | .ok y => Goes K n r H Q (.int (y.1 : Int)) y.2
  | .error b => Fails K r H E b
def spTakeNumber (K : PySem.W.Frag) : Sp := fun vs H Q E => ∃ (r : Addr) (n : Nat) (l : Vbirak.Toks) (lo hi : Nat), vs = [.ref r, .int (lo : Int), .int (hi : Int)] ∧ RdAt K H r n l ∧ Numbered K n r H Q E (Vbirak.numAt n lo hi l)
theorem ok_Reader_take_number (T : Tx K mg) (F_Reader_ahead : Fn P w K mg base 1 (He.ma K (He.ga K "Reader") "ahead") ["self"] (spAhead K)) (F_WrongText_init : Fn P w K mg base 1 (He.ma K (He.ga K "WrongText") "__init__") ["self", "kind", "place"] (spWrong K)) (F_Reader_here : Fn P w K mg base 2 (He.ma K (He.ga K "Reader") "here") ["self"] (spHere K)) : Fn P w K mg base 4 (He.ma K (He.ga K "Reader") "take_number") ["self", "least", "most"] (spTakeNumber K) := by
  obtain ⟨_, g_CANNOT_STAND, r_CANNOT_STAND⟩ := T.cst_CANNOT_STAND
  obtain ⟨_, g_OUT_OF_RANGE, r_OUT_OF_RANGE⟩ := T.cst_OUT_OF_RANGE
  have sc : FnScope ["self", "least", "most", "number"] ["self", "least", "most"] (defScope s_Reader_take_number) := ⟨rfl, rfl, rfl, by decide +kernel, rfl, by decide +kernel, by decide +kernel⟩
  refine fn_mk (k := 3) T.fun_Reader_take_number sc (fun _ _ _ _ _ _ us hl => match us, hl with | [_, _, _], _ => rfl) (fun vs H Q E h => ?len) (fun cdv A outer s H vs Q E hr h => ⟨_, (pss_cons (ps_set (i := 3) sc.nd rfl (Or.inl rfl) (pe_fld (pe_m0 F_Reader_ahead hr (by decide) (pv 0) T.cls_Reader T.meth_Reader_ahead (passes_call (takes_of rfl rfl rfl rfl) (fun _ _ _ _ h => h))) rfl))
      (pss_cons (ps_if (pt_cmpR op_isN (pv 3) pe_non (nomark _)) (pss_one (ps_raise rfl (takes_of rfl rfl rfl rfl) (pmk_x T.oxc T.ini_WrongText T.ity_WrongText F_WrongText_init hr (by decide) passL rfl T.glo_WrongText (pa_c (pe_glob rfl g_CANNOT_STAND r_CANNOT_STAND) (pa_c (pe_m0 F_Reader_here hr (by decide) (pv 0) T.cls_Reader T.meth_Reader_here (passes_call (takes_of rfl rfl rfl rfl) (fun _ _ _ _ h => h))) pa_nil))))) pss_nil)
      (pss_cons (ps_if (PW.pt (pw_or (pt_cmpR op_lt (pv 3) (pv 1) (nomark _)) (pw_or1 (pt_cmpR op_gt (pv 3) (pv 2) (nomark _))))) (pss_one (ps_raise rfl (takes_of rfl rfl rfl rfl) (pmk_x T.oxc T.ini_WrongText T.ity_WrongText F_WrongText_init hr (by decide) passL rfl T.glo_WrongText (pa_c (pe_glob rfl g_OUT_OF_RANGE r_OUT_OF_RANGE) (pa_c (pe_m0 F_Reader_here hr (by decide) (pv 0) T.cls_Reader T.meth_Reader_here (passes_call (takes_of rfl rfl rfl rfl) (fun _ _ _ _ h => h))) pa_nil))))) pss_nil)
      (pss_cons (ps_fldaug (pv 0) pe_int in_add)
      (pss_one (ps_ret (pv 3))))))), ?rd⟩)
  case len =>
    obtain ⟨r, n, l, lo, hi, rfl, _⟩ := h
    rfl
  case rd =>
    obtain ⟨r, n, l, lo, hi, rfl, hR, k⟩ := h
    refine q_asg (ev_ahead T (ev_var rfl) hR T.noat_Piece_number (lk_number _)) fun H1 e1 => ?_
    have hR1 := hR.ex e1
    rw [num_hd] at k
    have none_ : numV (hd n l).2 = .non → (∀ m, (hd n l).2 ≠ .num m) := fun z m e => by
      rw [e] at z
      cases z
    cases ht : (hd n l).2 with
    | num m =>
      rw [ht] at k
      refine q_when (b := false) (et_is (et_test (ev_isN (ev_var rfl))) rfl) (fun hc => by cases hc) (fun hc H2 e2 => ?_)
      have hR2 := hR1.ex e2
      refine q_when (b := decide (¬ (lo ≤ m ∧ m ≤ hi))) (et_is (et_or (et_test (ev_op (ev_is (ev_var rfl) (w := .int (m : Int)) rfl) (ev_var rfl) rv_I0)) fun z => et_test (ev_op (ev_is (ev_var rfl) (w := .int (m : Int)) rfl) (ev_var rfl) rv_I0)) ?_) (fun hc H3 e3 => ?_) (fun hc H3 e3 => ?_)
      · rw [Bool.eq_iff_iff, Bool.or_eq_true, decide_eq_true_eq, decide_eq_true_eq, decide_eq_true_eq]
        omega
      · have z : ¬ (lo ≤ m ∧ m ≤ hi) := of_decide_eq_true hc
        have k' : Numbered K n r H Q E (if lo ≤ m ∧ m ≤ hi then .ok (m, l.drop 1) else .error ⟨4, (hd n l).1⟩) := k
        rw [if_neg z] at k'
        exact rd_raise (b := ⟨4, (hd n l).1⟩) (ea_cons ev_c (ea_cons (vm_rd (ev_var rfl) (hR2.ex e3) ea_nil (spv_here (hR2.ex e3))) ea_nil)) (rd_some (hR2.ex e3)) (Fails.go k' (But.of ((e1.trans e2).trans e3)))
      · have z : lo ≤ m ∧ m ≤ hi := by
          by_cases z : lo ≤ m ∧ m ≤ hi
          · exact z
          · rw [decide_eq_true z] at hc
            cases hc
        have k' : Numbered K n r H Q E (if lo ≤ m ∧ m ≤ hi then .ok (m, l.drop 1) else .error ⟨4, (hd n l).1⟩) := k
        rw [if_pos z] at k'
        refine s_taken (D := { nx := tRet (tVar 3) _, rt := _ }) T (ev_var rfl) (hR2.ex e3) (by rw [ht]; intro z; cases z) fun H4 e4 hR4 => ?_
        exact s_ret (ev_is (ev_var rfl) rfl) fun H5 e5 => k' H5 (((But.of ((e1.trans e2).trans e3)).trans e4).trans (But.of e5)) (hR4.ex e5)
    | wrong =>
      rw [ht] at k
      refine q_when (b := true) (et_is (et_test (ev_isN (ev_var rfl))) rfl) (fun hc H2 e2 => ?_) (fun hc => by cases hc)
      exact rd_raise (b := ⟨1, (hd n l).1⟩) (ea_cons ev_c (ea_cons (vm_rd (ev_var rfl) (hR1.ex e2) ea_nil (spv_here (hR1.ex e2))) ea_nil)) (rd_some (hR1.ex e2)) (Fails.go k (But.of (e1.trans e2)))
    | semi =>
      rw [ht] at k
      refine q_when (b := true) (et_is (et_test (ev_isN (ev_var rfl))) rfl) (fun hc H2 e2 => ?_) (fun hc => by cases hc)
      exact rd_raise (b := ⟨1, (hd n l).1⟩) (ea_cons ev_c (ea_cons (vm_rd (ev_var rfl) (hR1.ex e2) ea_nil (spv_here (hR1.ex e2))) ea_nil)) (rd_some (hR1.ex e2)) (Fails.go k (But.of (e1.trans e2)))
    | word u =>
      rw [ht] at k
      refine q_when (b := true) (et_is (et_test (ev_isN (ev_var rfl))) rfl) (fun hc H2 e2 => ?_) (fun hc => by cases hc)
      exact rd_raise (b := ⟨1, (hd n l).1⟩) (ea_cons ev_c (ea_cons (vm_rd (ev_var rfl) (hR1.ex e2) ea_nil (spv_here (hR1.ex e2))) ea_nil)) (rd_some (hR1.ex e2)) (Fails.go k (But.of (e1.trans e2)))
def spTakeEnd (K : PySem.W.Frag) : Sp := fun vs H Q E => ∃ (r : Addr) (n : Nat) (l : Vbirak.Toks), vs = [.ref r] ∧ RdAt K H r n l ∧ (l = [] → Goes K n r H Q .non l) ∧ (l ≠ [] → Fails K r H E ⟨1, (hd n l).1⟩)
theorem ok_Reader_take_end (T : Tx K mg) (F_WrongText_init : Fn P w K mg base 1 (He.ma K (He.ga K "WrongText") "__init__") ["self", "kind", "place"] (spWrong K)) (F_Reader_here : Fn P w K mg base 2 (He.ma K (He.ga K "Reader") "here") ["self"] (spHere K)) : Fn P w K mg base 4 (He.ma K (He.ga K "Reader") "take_end") ["self"] (spTakeEnd K) := by
  obtain ⟨_, g_CANNOT_STAND, r_CANNOT_STAND⟩ := T.cst_CANNOT_STAND
  have sc : FnScope ["self"] ["self"] (defScope s_Reader_take_end) := ⟨rfl, rfl, rfl, by decide +kernel, rfl, by decide +kernel, by decide +kernel⟩
  refine fn_mk (k := 3) T.fun_Reader_take_end sc (fun _ _ _ _ _ _ us hl => match us, hl with | [_], _ => rfl) (fun vs H Q E h => ?len) (fun cdv A outer s H vs Q E hr h => ⟨_, (pss_one (ps_if (pt_cmpR op_lt (pe_fld (pv 0) rfl) (pe_op op_sub (pe_callB call_len_seq (by rfl) T.free_len PySem.boot_len (pa_c (pe_fld (pv 0) rfl) pa_nil)) pe_int) (nomark _)) (pss_one (ps_raise rfl (takes_of rfl rfl rfl rfl) (pmk_x T.oxc T.ini_WrongText T.ity_WrongText F_WrongText_init hr (by decide) passL rfl T.glo_WrongText (pa_c (pe_glob rfl g_CANNOT_STAND r_CANNOT_STAND) (pa_c (pe_m0 F_Reader_here hr (by decide) (pv 0) T.cls_Reader T.meth_Reader_here (passes_call (takes_of rfl rfl rfl rfl) (fun _ _ _ _ h => h))) pa_nil))))) pss_nil)), ?rd⟩)
  case len =>
    obtain ⟨r, n, l, rfl, _⟩ := h
    rfl
  case rd =>
    obtain ⟨r, n, l, rfl, hR, kS, kF⟩ := h
    have hR0 := hR
    obtain ⟨dx, pl, ps, k, h1, ⟨as, h2, h3⟩, hk, ho, hl, hz⟩ := hR
    have hlen : as.length = ps.length + 1 := by
      rw [h3.1, List.length_append]
      rfl
    have sn : l = [] ↔ k = ps.length := by
      rw [hl]
      exact stop_nil hk
    refine s_when (b := decide (k < ps.length)) (et_is (et_test (ev_op (ev_fld (ev_var rfl) h1 T.cls_Reader T.noat_Reader_taken (lk_taken ..)) (ev_op (ev_lenL (ev_fld (ev_var rfl) h1 T.cls_Reader T.noat_Reader_pieces (lk_pieces ..)) (sq_of (ex_del _ _ h2))) ev_c rv_I0) rv_I0)) ?_) (fun hc H1 e1 => ?_) (fun hc H1 e1 => ?_)
    · refine decide_eq_decide.mpr ?_
      rw [List.length_map, hlen]
      omega
    · have : k < ps.length := of_decide_eq_true hc
      have hne : l ≠ [] := fun z => by
        have := sn.mp z
        omega
      exact rd_raise (b := ⟨1, (hd n l).1⟩) (ea_cons ev_c (ea_cons (vm_rd (ev_var rfl) (hR0.ex e1) ea_nil (spv_here (hR0.ex e1))) ea_nil)) (rd_some (hR0.ex e1)) ((kF hne).go (But.of e1))
    · have : ¬ k < ps.length := of_decide_eq_false hc
      exact kS (sn.mpr (by omega)) H1 (But.of e1) (hR0.ex e1)
end
end Sl
namespace Sm
open Vbirak
/-! ### the specification's reading, a step at a time -/
theorem wordNum_eq (n lo hi : Nat) (s : String) (l : Toks) : wordNum n lo hi s l = match mustWord n s l with
    | .error b => .error b
    | .ok w => numAt n lo hi w := by
  unfold wordNum
  cases mustWord n s l <;> rfl
theorem namesAt_eq (n f : Nat) (m : List (Nat × Bytes)) (l : Toks) : namesAt n (f + 1) m l = match nameAt n l with
    | .error b => .error b
    | .ok y => if (m.any fun x => x.2 == y.1.2) = true then .error ⟨3, y.1.1⟩ else if (hd n y.2).2 = .semi then .ok (m ++ [y.1], y.2.drop 1) else namesAt n f (m ++ [y.1]) y.2 := by
  rw [namesAt]
  cases nameAt n l with
  | error b => rfl
  | ok y =>
    obtain ⟨⟨i, w⟩, r⟩ := y
    show (if (m.any fun x => x.2 == w) = true then _ else _) = if (m.any fun x => x.2 == w) = true then _ else _
    split
    · rfl
    · cases r with
      | nil =>
        show namesAt n f (m ++ [(i, w)]) [] = if Tok.wrong = Tok.semi then _ else _
        rw [if_neg (by intro z; cases z)]
      | cons x r =>
        obtain ⟨j, t⟩ := x
        cases t with
        | semi =>
          show _ = if Tok.semi = Tok.semi then _ else _
          rw [if_pos rfl]
          rfl
        | word u =>
          show _ = if Tok.word u = Tok.semi then _ else _
          rw [if_neg (by intro z; cases z)]
        | num u =>
          show _ = if Tok.num u = Tok.semi then _ else _
          rw [if_neg (by intro z; cases z)]
        | wrong =>
          show _ = if Tok.wrong = Tok.semi then _ else _
          rw [if_neg (by intro z; cases z)]
theorem weathersAt_eq (n f : Nat) (m : Raw) (l : Toks) : weathersAt n (f + 1) m l = if wordAhead "weather" l = false ∧ m.isEmpty = false then .ok (m, l) else match mustWord n "weather" l with
    | .error b => .error b
    | .ok l1 => match nameAt n l1 with
      | .error b => .error b
      | .ok y => if (m.any fun x => x.1 == y.1.2) = true ∨ WEATHERS ≤ m.length then .error ⟨3, y.1.1⟩ else match wordNum n 0 20 "brings" y.2 with
        | .error b => .error b
        | .ok b => match mustWord n "then" b.2 with
          | .error e => .error e
          | .ok l2 => match namesAt n (l2.length + 1) [] l2 with
            | .error e => .error e
            | .ok k => weathersAt n f (m ++ [(y.1.2, b.1, k.1)]) k.2 := by
  rw [weathersAt]
  split
  · rfl
  · simp only [Bind.bind, Except.bind]
    cases mustWord n "weather" l with
    | error b => rfl
    | ok l1 =>
      dsimp only
      cases nameAt n l1 with
      | error b => rfl
      | ok y =>
        dsimp only
        split
        · rfl
        · cases wordNum n 0 20 "brings" y.2 with
          | error b => rfl
          | ok b =>
            dsimp only
            cases mustWord n "then" b.2 with
            | error e => rfl
            | ok l2 =>
              dsimp only
              cases namesAt n (l2.length + 1) [] l2 <;> rfl
theorem numsAt_zero (n : Nat) (m : List Nat) (l : Toks) : numsAt n 0 m l = match semi n l with
    | .error b => .error b
    | .ok r => .ok (m, r) := by
  rw [numsAt]
  cases semi n l <;> rfl
theorem numsAt_succ (n f : Nat) (m : List Nat) (l : Toks) : numsAt n (f + 1) m l = match numAt n 0 999 l with
    | .error b => .error b
    | .ok y => numsAt n f (m ++ [y.1]) y.2 := by
  rw [numsAt]
  cases numAt n 0 999 l <;> rfl
/-- the tables, and what stands behind them -/
def tabsAt (n gate : Nat) : Nat → List (List Nat) → Toks → Except Bad (List (List Nat) × Toks)
  | 0, m, l => .ok (m, l)
  | f + 1, m, l => if wordAhead "yields" l = false ∧ m.isEmpty = false then .ok (m, l) else match mustWord n "yields" l with
    | .error b => .error b
    | .ok l1 => if TABLES ≤ m.length then .error ⟨3, (hd n l).1⟩ else match numsAt n (gate + 1) [] l1 with
      | .error b => .error b
      | .ok r => tabsAt n gate f (m ++ [r.1]) r.2
/-! ### what is left is shorter -/
def Sh {α : Type} (x : Except Bad (α × Toks)) (l : Toks) : Prop := ∀ y, x = .ok y → y.2.length < l.length
theorem drop_lt {n : Nat} {l : Toks} (h : (hd n l).2 ≠ .wrong) : (l.drop 1).length < l.length := by
  cases l with
  | nil => exact absurd rfl h
  | cons x r => simp
theorem must_lt {n : Nat} {s : String} {l l1 : Toks} (h : mustWord n s l = .ok l1) : l1.length < l.length := by
  rw [must_hd] at h
  split at h
  · rename_i e
    cases h
    exact drop_lt (n := n) (by rw [e]; intro z; cases z)
  · cases h
theorem semi_lt {n : Nat} {l l1 : Toks} (h : semi n l = .ok l1) : l1.length < l.length := by
  rw [semi_hd] at h
  split at h
  · rename_i e
    cases h
    exact drop_lt (n := n) (by rw [e]; intro z; cases z)
  · cases h
theorem num_lt {n lo hi : Nat} {l : Toks} {y : Nat × Toks} (h : numAt n lo hi l = .ok y) : y.2.length < l.length ∧ lo ≤ y.1 ∧ y.1 ≤ hi := by
  rw [num_hd] at h
  split at h
  · rename_i k e
    split at h
    · rename_i c
      cases h
      exact ⟨drop_lt (n := n) (by rw [e]; intro z; cases z), c⟩
    · cases h
  · cases h
theorem name_lt {n : Nat} {l : Toks} {y : (Nat × Bytes) × Toks} (h : nameAt n l = .ok y) : y.2.length < l.length ∧ y.1.1 = (hd n l).1 ∧ (hd n l).2 = .word y.1.2 := by
  rw [name_hd] at h
  split at h
  · rename_i k e
    split at h
    · cases h
    · cases h
      exact ⟨drop_lt (n := n) (by rw [e]; intro z; cases z), rfl, e⟩
  · cases h
theorem wordNum_lt {n lo hi : Nat} {s : String} {l : Toks} {y : Nat × Toks} (h : wordNum n lo hi s l = .ok y) : y.2.length < l.length ∧ lo ≤ y.1 ∧ y.1 ≤ hi := by
  rw [wordNum_eq] at h
  cases e : mustWord n s l with
  | error b =>
    rw [e] at h
    cases h
  | ok w =>
    rw [e] at h
    have h1 := must_lt e
    have h2 := num_lt h
    exact ⟨by omega, h2.2⟩
theorem names_lt {n : Nat} : ∀ {f : Nat} {m : List (Nat × Bytes)} {l : Toks} {y : List (Nat × Bytes) × Toks}, l.length < f → namesAt n f m l = .ok y → y.2.length < l.length
  | 0, m, l, y, hf, h => absurd hf (Nat.not_lt_zero _)
  | f + 1, m, l, y, hf, h => by
    rw [namesAt_eq] at h
    cases e : nameAt n l with
    | error b =>
      rw [e] at h
      cases h
    | ok z =>
      rw [e] at h
      have h1 := name_lt e
      have h' : (if (m.any fun x => x.2 == z.1.2) = true then .error ⟨3, z.1.1⟩ else if (hd n z.2).2 = .semi then .ok (m ++ [z.1], z.2.drop 1) else namesAt n f (m ++ [z.1]) z.2) = Except.ok y := h
      split at h'
      · cases h'
      · split at h'
        · rename_i c
          cases h'
          have := drop_lt (n := n) (l := z.2) (by rw [c]; intro z; cases z)
          show (z.2.drop 1).length < l.length
          omega
        · have := names_lt (by omega) h'
          omega
theorem nums_lt {n : Nat} : ∀ {f : Nat} {m : List Nat} {l : Toks} {y : List Nat × Toks}, numsAt n f m l = .ok y → y.2.length < l.length ∧ y.1.length = m.length + f ∧ ((∀ k ∈ m, k ≤ 999) → ∀ k ∈ y.1, k ≤ 999)
  | 0, m, l, y, h => by
    rw [numsAt_zero] at h
    cases e : semi n l with
    | error b =>
      rw [e] at h
      cases h
    | ok r =>
      rw [e] at h
      cases h
      exact ⟨semi_lt e, rfl, fun z => z⟩
  | f + 1, m, l, y, h => by
    rw [numsAt_succ] at h
    cases e : numAt n 0 999 l with
    | error b =>
      rw [e] at h
      cases h
    | ok z =>
      rw [e] at h
      have h1 := num_lt e
      obtain ⟨a, b, c⟩ := nums_lt (f := f) h
      refine ⟨by omega, by rw [b, List.length_append]; simp only [List.length_singleton]; omega, fun hm => c fun k hk => ?_⟩
      rcases List.mem_append.mp hk with hk | hk
      · exact hm k hk
      · rw [List.mem_singleton.mp hk]
        exact h1.2.2
theorem yieldsAt_eq (n gate f : Nat) (m : List (List Nat)) (l : Toks) : yieldsAt n gate (f + 1) m l = if l.isEmpty = true ∧ m.isEmpty = false then .ok m else match mustWord n "yields" l with
    | .error b => .error b
    | .ok l1 => if TABLES ≤ m.length then .error ⟨3, placeOf n l⟩ else match numsAt n (gate + 1) [] l1 with
      | .error b => .error b
      | .ok r => yieldsAt n gate f (m ++ [r.1]) r.2 := by
  rw [yieldsAt]
  split
  · rfl
  · simp only [Bind.bind, Except.bind]
    cases mustWord n "yields" l with
    | error b => rfl
    | ok l1 =>
      dsimp only
      split
      · rfl
      · cases numsAt n (gate + 1) [] l1 <;> rfl
theorem yields_tabs {n gate : Nat} : ∀ {f : Nat} {m : List (List Nat)} {l : Toks}, l.length < f → yieldsAt n gate f m l = match tabsAt n gate f m l with
    | .error b => .error b
    | .ok y => if y.2 = [] then .ok y.1 else .error ⟨1, (hd n y.2).1⟩
  | 0, m, l, h => absurd h (Nat.not_lt_zero _)
  | f + 1, m, l, h => by
    rw [yieldsAt_eq]
    unfold tabsAt
    cases hl : l with
    | nil =>
      cases hm : m.isEmpty with
      | false =>
        rw [if_pos ⟨rfl, rfl⟩, if_pos ⟨rfl, rfl⟩]
        rfl
      | true =>
        rw [if_neg (by intro z; cases z.2), if_neg (by intro z; cases z.2)]
        rfl
    | cons x r =>
      rw [← hl, if_neg (by rw [hl]; intro z; cases z.1)]
      by_cases c : wordAhead "yields" l = false ∧ m.isEmpty = false
      · rw [if_pos c]
        have e : mustWord n "yields" l = .error ⟨1, (hd n l).1⟩ := by
          rw [must_hd, if_neg]
          intro z
          have := c.1
          rw [ahead_hd "yields" n, decide_eq_true z] at this
          cases this
        rw [e]
        show _ = if l = [] then _ else _
        rw [if_neg (by rw [hl]; intro z; cases z)]
      · rw [if_neg c]
        cases e : mustWord n "yields" l with
        | error b => rfl
        | ok l1 =>
          have h1 := must_lt e
          show (if TABLES ≤ m.length then _ else _) = _
          by_cases c2 : TABLES ≤ m.length
          · rw [if_pos c2, place_hd]
            show _ = match (if TABLES ≤ m.length then _ else _ : Except Bad (List (List Nat) × Toks)) with | .error b => _ | .ok y => _
            rw [if_pos c2]
          · rw [if_neg c2]
            show _ = match (if TABLES ≤ m.length then _ else _ : Except Bad (List (List Nat) × Toks)) with | .error b => _ | .ok y => _
            rw [if_neg c2]
            cases e2 : numsAt n (gate + 1) [] l1 with
            | error b => rfl
            | ok y =>
              have h2 := (nums_lt e2).1
              exact yields_tabs (by omega)
end Sm
namespace Sl
open PySem PySem.Spec PyProof.Rows L2
open Evl
open Vbirak (Lake Weather)
open Sm
theorem sees_word {n : Nat} {l : Vbirak.Toks} {u : List Nat} (h : strOf u ≠ (";" : Str)) : seesB n l (strOf u) = decide ((hd n l).2 = .word u) := by
  unfold seesB
  refine decide_eq_decide.mpr ⟨fun z => ?_, fun z => by rw [z]; rfl⟩
  cases e : (hd n l).2 with
  | word v =>
    rw [e] at z
    rw [strOf_inj (V.str.inj z)]
  | semi =>
    rw [e] at z
    exact absurd (V.str.inj z).symm h
  | num k =>
    rw [e] at z
    cases z
  | wrong =>
    rw [e] at z
    cases z
theorem sees_semi {n : Nat} {l : Vbirak.Toks} (h : okTok (hd n l).2) : seesB n l ";" = decide ((hd n l).2 = .semi) := by
  unfold seesB
  refine decide_eq_decide.mpr ⟨fun z => ?_, fun z => by rw [z]; rfl⟩
  cases e : (hd n l).2 with
  | word v =>
    rw [e] at z h
    exact absurd (V.str.inj z) (semi_ne h)
  | semi => rfl
  | num k =>
    rw [e] at z
    cases z
  | wrong =>
    rw [e] at z
    cases z
/-- a word of the grammar, as a text -/
structure Gw (s : String) : Prop where
  eq : strOf (Vbirak.bytesOf s) = Str.ofString s
  ne : strOf (Vbirak.bytesOf s) ≠ (";" : Str)
theorem gw_all : (gw.all fun s => decide (strOf (Vbirak.bytesOf s) = Str.ofString s) && !decide (strOf (Vbirak.bytesOf s) = (";" : Str))) = true := by decide +kernel
theorem gw_of {s : String} (h : s ∈ gw) : Gw s := by
  have z := List.all_eq_true.mp gw_all s h
  rw [Bool.and_eq_true, decide_eq_true_eq, Bool.not_eq_true', decide_eq_false_iff_not] at z
  exact ⟨z.1, z.2⟩
def AfterT (K : PySem.W.Frag) (n : Nat) (r : Addr) (H : Hp) (E : XK) (k : Vbirak.Toks → Hp → Prop) : Except Vbirak.Bad Vbirak.Toks → Prop
  | .ok l => ∀ H', But r H H' → RdAt K H' r n l → k l H'
  | .error b => Fails K r H E b
def AfterP {α : Type} (K : PySem.W.Frag) (n : Nat) (r : Addr) (H : Hp) (E : XK) (k : α → Vbirak.Toks → Hp → Prop) : Except Vbirak.Bad (α × Vbirak.Toks) → Prop
  | .ok y => ∀ H', But r H H' → RdAt K H' r n y.2 → k y.1 y.2 H'
  | .error b => Fails K r H E b
section
variable {K : PySem.W.Frag} {n : Nat} {r : Addr} {H H1 : Hp} {E : XK}
theorem AfterT.go {k : Vbirak.Toks → Hp → Prop} {x : Except Vbirak.Bad Vbirak.Toks} (h : AfterT K n r H E k x) (e : But r H H1) : AfterT K n r H1 E k x := by
  cases x with
  | error b => exact Fails.go h e
  | ok l => exact fun H' e' hR => h H' (e.trans e') hR
theorem AfterP.go {α : Type} {k : α → Vbirak.Toks → Hp → Prop} {x : Except Vbirak.Bad (α × Vbirak.Toks)} (h : AfterP K n r H E k x) (e : But r H H1) : AfterP K n r H1 E k x := by
  cases x with
  | error b => exact Fails.go h e
  | ok l => exact fun H' e' hR => h H' (e.trans e') hR
end
section
variable {P : Program} {w : World} {K : PySem.W.Frag} {mg : Str → Option Value} {base : Heap} {σ : L2.St} {H : Hp} {te tw tx : TE} {E : XK} {Q : VK} {r : Addr} {n : Nat} {l : Vbirak.Toks}
theorem m_word {s : String} (g : Gw s) (he : Ev te σ H (.ref r)) (hw : Ev tw σ H (.str (strOf (Vbirak.bytesOf s)))) (hR : RdAt K H r n l) (k : AfterT K n r H E (fun _ H' => Q .non H') (Vbirak.mustWord n s l)) : tMeth (He.ga K "Reader") "take_word" (spTakeWord K) [] E te (tCons tw tNil) σ H Q :=
  ev_rdm he hR (ea_cons hw ea_nil) fun H1 e1 => by
    rw [must_hd] at k
    refine ⟨r, n, l, _, rfl, hR.ex e1, fun z => ?_, fun z => ?_⟩
    · rw [sees_word g.ne, decide_eq_true_eq] at z
      rw [if_pos z] at k
      exact fun H' e' hR' => k H' ((But.of e1).trans e') hR'
    · rw [sees_word g.ne, decide_eq_false_iff_not] at z
      rw [if_neg z] at k
      exact Fails.go k (But.of e1)
theorem m_semi (he : Ev te σ H (.ref r)) (hw : Ev tw σ H (.str ";")) (hR : RdAt K H r n l) (k : AfterT K n r H E (fun _ H' => Q .non H') (Vbirak.semi n l)) : tMeth (He.ga K "Reader") "take_word" (spTakeWord K) [] E te (tCons tw tNil) σ H Q :=
  ev_rdm he hR (ea_cons hw ea_nil) fun H1 e1 => by
    rw [semi_hd] at k
    refine ⟨r, n, l, _, rfl, hR.ex e1, fun z => ?_, fun z => ?_⟩
    · rw [sees_semi (rd_ok hR), decide_eq_true_eq] at z
      rw [if_pos z] at k
      exact fun H' e' hR' => k H' ((But.of e1).trans e') hR'
    · rw [sees_semi (rd_ok hR), decide_eq_false_iff_not] at z
      rw [if_neg z] at k
      exact Fails.go k (But.of e1)
theorem m_name (he : Ev te σ H (.ref r)) (hR : RdAt K H r n l) (k : AfterP K n r H E (fun y _ H' => Q (.str (strOf y.2)) H') (Vbirak.nameAt n l)) : tMeth (He.ga K "Reader") "take_name" (spTakeName K) [] E te tNil σ H Q :=
  ev_rdm he hR ea_nil fun H1 e1 => ⟨r, n, l, rfl, hR.ex e1, by
    have k' := k.go (But.of e1)
    cases e : Vbirak.nameAt n l with
    | error b =>
      rw [e] at k'
      exact k'
    | ok y =>
      rw [e] at k'
      exact k'⟩
theorem m_num {lo hi : Nat} (he : Ev te σ H (.ref r)) (h1 : Ev tw σ H (.int (lo : Int))) (h2 : Ev tx σ H (.int (hi : Int))) (hR : RdAt K H r n l) (k : AfterP K n r H E (fun (y : Nat) _ H' => Q (.int (y : Int)) H') (Vbirak.numAt n lo hi l)) : tMeth (He.ga K "Reader") "take_number" (spTakeNumber K) [] E te (tCons tw (tCons tx tNil)) σ H Q :=
  ev_rdm he hR (ea_cons h1 (ea_cons h2 ea_nil)) fun H1 e1 => ⟨r, n, l, lo, hi, rfl, hR.ex e1, by
    have k' := k.go (But.of e1)
    cases e : Vbirak.numAt n lo hi l with
    | error b =>
      rw [e] at k'
      exact k'
    | ok y =>
      rw [e] at k'
      exact k'⟩
theorem ev_sees {s : Str} (he : Ev te σ H (.ref r)) (hw : Ev tw σ H (.str s)) (hR : RdAt K H r n l) : Ev (tMeth (He.ga K "Reader") "sees" (spSees K) [] E te (tCons tw tNil)) σ H (.bl (seesB n l s)) := vm_rd he hR (ea_cons hw ea_nil) (spv_sees hR)
theorem ev_here (he : Ev te σ H (.ref r)) (hR : RdAt K H r n l) : Ev (tMeth (He.ga K "Reader") "here" (spHere K) [] E te tNil) σ H (.int ((hd n l).1 : Int)) := vm_rd he hR ea_nil (spv_here hR)
def spNumberBehind (K : PySem.W.Frag) : Sp := fun vs H Q E => ∃ (r : Addr) (n : Nat) (l : Vbirak.Toks) (s : String) (lo hi : Nat), vs = [.ref r, .str (strOf (Vbirak.bytesOf s)), .int (lo : Int), .int (hi : Int)] ∧ Gw s ∧ RdAt K H r n l ∧ AfterP K n r H E (fun (y : Nat) _ H' => Q (.int (y : Int)) H') (Vbirak.wordNum n lo hi s l)
theorem ok_number_behind (T : Tx K mg) (F_Reader_take_word : Fn P w K mg base 4 (He.ma K (He.ga K "Reader") "take_word") ["self", "word"] (spTakeWord K)) (F_Reader_take_number : Fn P w K mg base 4 (He.ma K (He.ga K "Reader") "take_number") ["self", "least", "most"] (spTakeNumber K)) : Fn P w K mg base 5 (He.ga K "number_behind") ["reader", "word", "least", "most"] (spNumberBehind K) := by
  have sc : FnScope ["reader", "word", "least", "most"] ["reader", "word", "least", "most"] (defScope s_number_behind) := ⟨rfl, rfl, rfl, by decide +kernel, rfl, by decide +kernel, by decide +kernel⟩
  refine fn_mk (k := 4) T.fun_number_behind sc (fun _ _ _ _ _ _ us hl => match us, hl with | [_, _, _, _], _ => rfl) (fun vs H Q E h => ?len) (fun cdv A outer s H vs Q E hr h => ⟨_, (pss_cons (ps_expr (pe_m F_Reader_take_word hr (by decide) (pv 0) T.cls_Reader T.meth_Reader_take_word (passes_call (takes_of rfl rfl rfl rfl) (fun _ _ _ _ h => h)) (pa_c (pv 1) pa_nil)))
      (pss_one (ps_ret (pe_m F_Reader_take_number hr (by decide) (pv 0) T.cls_Reader T.meth_Reader_take_number (passes_call (takes_of rfl rfl rfl rfl) (fun _ _ _ _ h => h)) (pa_c (pv 2) (pa_c (pv 3) pa_nil)))))), ?rd⟩)
  case len =>
    obtain ⟨r, n, l, s, lo, hi, rfl, _⟩ := h
    rfl
  case rd =>
    obtain ⟨r, n, l, s, lo, hi, rfl, g, hR, k⟩ := h
    rw [wordNum_eq] at k
    refine m_word g (ev_var rfl) (ev_var rfl) hR ?_
    cases e : Vbirak.mustWord n s l with
    | error b =>
      rw [e] at k
      exact k
    | ok l1 =>
      rw [e] at k
      intro H1 b1 hR1
      exact m_num (ev_var rfl) (ev_var rfl) (ev_var rfl) hR1 (AfterP.go k b1)
/-- number_behind(reader, word, lo, hi) -/
theorem c_numb {s : String} {lo hi : Nat} {t1 t2 : TE} (g : Gw s) (he : Ev te σ H (.ref r)) (hw : Ev tw σ H (.str (strOf (Vbirak.bytesOf s)))) (h1 : Ev t1 σ H (.int (lo : Int))) (h2 : Ev t2 σ H (.int (hi : Int))) (hR : RdAt K H r n l) (k : AfterP K n r H E (fun (y : Nat) _ H' => Q (.int (y : Int)) H') (Vbirak.wordNum n lo hi s l)) :
    tCall (spNumberBehind K) [] E (tCons te (tCons tw (tCons t1 (tCons t2 tNil)))) σ H Q :=
  (ea_cons he (ea_cons hw (ea_cons h1 (ea_cons h2 ea_nil)))) H (Ex.refl H) _ fun H1 e1 => ⟨r, n, l, s, lo, hi, rfl, g, hR.ex e1, AfterP.go k (But.of e1)⟩
def vS (ws : List (List Nat)) : List V := ws.map fun u => V.str (strOf u)
theorem inV_strs (u : List Nat) : ∀ ws : List (List Nat), inV (.str (strOf u)) (vS ws) = ws.contains u
  | [] => rfl
  | k :: q => by
    have ih := inV_strs u q
    show (strOf k == strOf u || inV (.str (strOf u)) (vS q)) = _
    rw [ih, str_beq, List.contains_cons]
theorem flat_strs (ws : List (List Nat)) : (vS ws).all flatV = true := by
  rw [List.all_eq_true]
  intro x hx
  obtain ⟨n, _, rfl⟩ := List.mem_map.mp hx
  rfl
def kindName (n : Nat) (ws : List (List Nat)) (l : Vbirak.Toks) : Except Vbirak.Bad ((Nat × List Nat) × Vbirak.Toks) := match Vbirak.nameAt n l with
  | .error b => .error b
  | .ok y => if ws.contains y.1.2 = true ∨ 4 ≤ ws.length then .error ⟨3, y.1.1⟩ else .ok y
def spKindName (K : PySem.W.Frag) : Sp := fun vs H Q E => ∃ (r p : Addr) (n : Nat) (l : Vbirak.Toks) (ws : List (List Nat)), vs = [.ref r, .ref p] ∧ RdAt K H r n l ∧ p ≠ r ∧ H p = some (.lst (vS ws)) ∧ ws.length ≤ 4 ∧ AfterP K n r H E (fun y _ H' => Q (.str (strOf y.2)) H') (kindName n ws l)
theorem ok_read_kind_name (T : Tx K mg) (F_Reader_here : Fn P w K mg base 2 (He.ma K (He.ga K "Reader") "here") ["self"] (spHere K)) (F_Reader_take_name : Fn P w K mg base 4 (He.ma K (He.ga K "Reader") "take_name") ["self"] (spTakeName K)) (F_WrongText_init : Fn P w K mg base 1 (He.ma K (He.ga K "WrongText") "__init__") ["self", "kind", "place"] (spWrong K)) : Fn P w K mg base 5 (He.ga K "read_kind_name") ["reader", "names"] (spKindName K) := by
  obtain ⟨_, g_MOST_KINDS, r_MOST_KINDS⟩ := T.cst_MOST_KINDS
  obtain ⟨_, g_TOO_OFTEN, r_TOO_OFTEN⟩ := T.cst_TOO_OFTEN
  have sc : FnScope ["reader", "names", "place", "name"] ["reader", "names"] (defScope s_read_kind_name) := ⟨rfl, rfl, rfl, by decide +kernel, rfl, by decide +kernel, by decide +kernel⟩
  refine fn_mk (k := 4) T.fun_read_kind_name sc (fun _ _ _ _ _ _ us hl => match us, hl with | [_, _], _ => rfl) (fun vs H Q E h => ?len) (fun cdv A outer s H vs Q E hr h => ⟨_, (pss_cons (ps_set (i := 2) sc.nd rfl (Or.inl rfl) (pe_m0 F_Reader_here hr (by decide) (pv 0) T.cls_Reader T.meth_Reader_here (passes_call (takes_of rfl rfl rfl rfl) (fun _ _ _ _ h => h))))
      (pss_cons (ps_set (i := 3) sc.nd rfl (Or.inl rfl) (pe_m0 F_Reader_take_name hr (by decide) (pv 0) T.cls_Reader T.meth_Reader_take_name (passes_call (takes_of rfl rfl rfl rfl) (fun _ _ _ _ h => h))))
      (pss_cons (ps_if (PW.pt (pw_or (pt_cmpR op_in_seq (pv 3) (pv 1) (by rfl)) (pw_or1 (pt_cmpR op_eq (pe_callB call_len_seq (by rfl) T.free_len PySem.boot_len (pa_c (pv 1) pa_nil)) (pe_glob rfl g_MOST_KINDS r_MOST_KINDS) (nomark _))))) (pss_one (ps_raise rfl (takes_of rfl rfl rfl rfl) (pmk_x T.oxc T.ini_WrongText T.ity_WrongText F_WrongText_init hr (by decide) passL rfl T.glo_WrongText (pa_c (pe_glob rfl g_TOO_OFTEN r_TOO_OFTEN) (pa_c (pv 2) pa_nil))))) pss_nil)
      (pss_one (ps_ret (pv 3)))))), ?rd⟩)
  case len =>
    obtain ⟨r, p, n, l, ws, rfl, _⟩ := h
    rfl
  case rd =>
    obtain ⟨r, p, n, l, ws, rfl, hR, hpr, hp, hl, k⟩ := h
    unfold kindName at k
    refine q_asg (ev_here (ev_var rfl) hR) fun H1 e1 => ?_
    have hR1 := hR.ex e1
    refine m_name (ev_var rfl) hR1 ?_
    cases e : Vbirak.nameAt n l with
    | error b =>
      rw [e] at k
      exact Fails.go k (But.of e1)
    | ok y =>
      rw [e] at k
      have k' : AfterP K n r H E (fun y _ H' => Q (.str (strOf y.2)) H') (if ws.contains y.1.2 = true ∨ 4 ≤ ws.length then .error ⟨3, y.1.1⟩ else .ok y) := k
      intro H2 b2 hR2
      have hp2 : H2 p = some (.lst (vS ws)) := b2.at (e1 _ _ hp) hpr
      have hpl := (name_lt e).2.1
      dsimp only [gName]
      refine q_when (b := decide (ws.contains y.1.2 = true ∨ 4 ≤ ws.length)) (et_is (et_or (et_test (ev_op (ev_var rfl) (ev_var rfl) (rv_isL (x := .str (strOf y.1.2)) (sq_of hp2) rfl (flat_strs ws)))) (b := decide (4 ≤ ws.length)) fun _ => ?_) ?_) (fun hc H3 e3 => ?_) (fun hc H3 e3 => ?_)
      · refine et_is (et_test (ev_op (ev_lenL (ev_var rfl) (sq_of hp2)) ev_c (rv_eq rfl))) ?_
        refine decide_eq_decide.mpr ⟨fun z => ?_, fun z => ?_⟩
        · injection z with z
          unfold vS at z
          rw [List.length_map] at z
          omega
        · have : ws.length = 4 := by omega
          unfold vS
          rw [List.length_map, this]
          rfl
      · show (inV (.str (strOf y.1.2)) (vS ws) || decide (4 ≤ ws.length)) = _
        rw [inV_strs, Bool.eq_iff_iff, Bool.or_eq_true, decide_eq_true_eq, decide_eq_true_eq]
      · rw [if_pos (of_decide_eq_true hc)] at k'
        exact rd_raise (b := ⟨3, y.1.1⟩) (ea_cons ev_c (ea_cons (ev_is (ev_var rfl) (by rw [hpl])) ea_nil)) (rd_some (hR2.ex e3)) (Fails.go k' (((But.of e1).trans b2).trans (But.of e3)))
      · rw [if_neg (of_decide_eq_false hc)] at k'
        exact s_ret (ev_var rfl) fun H4 e4 => k' H4 (((But.of e1).trans b2).trans (But.of (e3.trans e4))) (hR2.ex (e3.trans e4))
end
end Sl
namespace Sl
open PySem PySem.Spec PyProof.Rows L2
open Evl
open Vbirak (Lake Weather)
open Sm
def dk (ms : List (Nat × List Nat)) : List (Key × V) := ms.map fun x => (Sum.inr (strOf x.2), .int (x.1 : Int))
def DictAt (h : Hp) (p : Addr) (ms : List (Nat × List Nat)) : Prop := h p = some (.dK (dk ms))
theorem mono_dict : MonoR DictAt := fun _ _ _ _ e h => e _ _ h
theorem dk_some (ms : List (Nat × List Nat)) (u : List Nat) : (valV (dk ms) (Sum.inr (strOf u))).isSome = ms.any fun x => x.2 == u := by
  rw [← valV_any]
  unfold dk
  rw [List.any_map]
  congr 1
  funext x
  show decide ((Sum.inr (strOf x.2) : Key) = Sum.inr (strOf u)) = (x.2 == u)
  by_cases h : x.2 = u
  · rw [h]
    simp
  · rw [decide_eq_false (fun z => h (strOf_inj (Sum.inr.inj z)))]
    simpa using h
theorem dk_none {ms : List (Nat × List Nat)} {u : List Nat} (h : (ms.any fun x => x.2 == u) = false) : valV (dk ms) (Sum.inr (strOf u)) = none := by
  have z := dk_some ms u
  rw [h] at z
  cases e : valV (dk ms) (Sum.inr (strOf u)) with
  | none => rfl
  | some v =>
    rw [e] at z
    cases z
theorem dk_put {ms : List (Nat × List Nat)} {i : Nat} {u : List Nat} (h : (ms.any fun x => x.2 == u) = false) : putK (dk ms) (Sum.inr (strOf u)) (.int (i : Int)) = dk (ms ++ [(i, u)]) := by
  rw [putK_new _ (dk_none h)]
  unfold dk
  rw [List.map_append]
  rfl
def Made {α : Type} (K : PySem.W.Frag) (n : Nat) (r : Addr) (H : Hp) (Q : VK) (E : XK) (R : Hp → Addr → α → Prop) : Except Vbirak.Bad (α × Vbirak.Toks) → Prop
  | .ok y => ∀ p H', But r H H' → RdAt K H' r n y.2 → R (nw (del H r) (del H' r)) p y.1 → Q (.ref p) H'
  | .error b => Fails K r H E b
theorem But.mut {r d : Addr} {H H' : Hp} {o : HO} (b : But r H H') (h : H d = none) : But r H (L2.upd H' d o) := fun c u hc => by
  by_cases hcr : c = r
  · rw [hcr, del_same] at hc
    cases hc
  · have z := b c u hc
    rw [del_ne hcr] at hc z ⊢
    rw [upd_ne (ne_of_none hc h)]
    exact z
theorem nw_but {r d : Addr} {H H' : Hp} (h : H d = none) (hd : d ≠ r) : nw (del H r) (del H' r) d = H' d := by
  rw [nw_at (by rw [del_ne hd]; exact h), del_ne hd]
theorem RdAt.upd {K : PySem.W.Frag} {H : Hp} {r d : Addr} {n : Nat} {l : Vbirak.Toks} {o o0 : HO} (h : RdAt K H r n l) (hd : d ≠ r) (ho : H d = some o0) (h1 : ∀ xs, o0 ≠ .lst xs) (h2 : ∀ C dx fs, o0 ≠ .ins C dx fs) : RdAt K (L2.upd H d o) r n l := by
  obtain ⟨dx, pl, ps, k, a1, ⟨as, a2, a3⟩, a4⟩ := h
  have key : ∀ b u, del H r b = some u → b ≠ d → del (L2.upd H d o) r b = some u := fun b u hb hbd => by
    by_cases hbr : b = r
    · rw [hbr, del_same] at hb
      cases hb
    · rw [del_ne hbr] at hb ⊢
      rw [upd_ne hbd]
      exact hb
  refine ⟨dx, pl, ps, k, by rw [upd_ne (Ne.symm hd)]; exact a1, ⟨as, key _ _ a2 fun z => ?_, a3.imp fun a x ⟨dy, hx⟩ => ⟨dy, key _ _ hx fun z => ?_⟩⟩, a4⟩
  · have e := ex_del _ _ a2
    rw [z, ho] at e
    exact h1 _ (Option.some.inj e)
  · have e := ex_del _ _ hx
    rw [z, ho] at e
    exact h2 _ _ _ (Option.some.inj e)
theorem rd_len {K : PySem.W.Frag} {H : Hp} {r : Addr} {n : Nat} {l : Vbirak.Toks} (h : RdAt K H r n l) : l.length ≤ 2000 := by
  obtain ⟨dx, pl, ps, k, _, _, _, _, rfl, hz⟩ := h
  have := stop_len (ps.drop k)
  rw [List.length_drop] at this
  omega
/-- names on: ended by a semicolon, or further -/
def nxt (n f : Nat) (ms : List (Nat × List Nat)) (l : Vbirak.Toks) : Except Vbirak.Bad (List (Nat × List Nat) × Vbirak.Toks) := if ms ≠ [] ∧ (hd n l).2 = .semi then .ok (ms, l.drop 1) else Vbirak.namesAt n f ms l
theorem nxt_step {n f : Nat} {ms : List (Nat × List Nat)} {l : Vbirak.Toks} (h : ¬ (ms ≠ [] ∧ (hd n l).2 = .semi)) : nxt n (f + 1) ms l = match Vbirak.nameAt n l with
    | .error b => .error b
    | .ok y => if (ms.any fun x => x.2 == y.1.2) = true then .error ⟨3, y.1.1⟩ else nxt n f (ms ++ [y.1]) y.2 := by
  unfold nxt
  rw [if_neg h, namesAt_eq]
  cases Vbirak.nameAt n l with
  | error b => rfl
  | ok y =>
    dsimp only
    split
    · rfl
    · by_cases c : (hd n y.2).2 = .semi
      · rw [if_pos c, if_pos ⟨by simp, c⟩]
      · rw [if_neg c, if_neg (by intro z; exact c z.2)]
def followsAt (n : Nat) (l : Vbirak.Toks) : Except Vbirak.Bad (List (Nat × List Nat) × Vbirak.Toks) := match Vbirak.mustWord n "then" l with
  | .error b => .error b
  | .ok l2 => Vbirak.namesAt n (l2.length + 1) [] l2
section
variable {P : Program} {w : World} {K : PySem.W.Frag} {mg : Str → Option Value} {base : Heap}
def spFollows (K : PySem.W.Frag) : Sp := fun vs H Q E => ∃ (r : Addr) (n : Nat) (l : Vbirak.Toks), vs = [.ref r] ∧ RdAt K H r n l ∧ Made K n r H Q E DictAt (followsAt n l)
theorem isE_dk (ms : List (Nat × List Nat)) : (dk ms).isEmpty = ms.isEmpty := by
  cases ms <;> rfl
theorem ok_read_follows (T : Tx K mg) (F_Reader_take_word : Fn P w K mg base 4 (He.ma K (He.ga K "Reader") "take_word") ["self", "word"] (spTakeWord K)) (F_Reader_sees : Fn P w K mg base 2 (He.ma K (He.ga K "Reader") "sees") ["self", "word"] (spSees K)) (F_Reader_here : Fn P w K mg base 2 (He.ma K (He.ga K "Reader") "here") ["self"] (spHere K)) (F_Reader_take_name : Fn P w K mg base 4 (He.ma K (He.ga K "Reader") "take_name") ["self"] (spTakeName K)) (F_WrongText_init : Fn P w K mg base 1 (He.ma K (He.ga K "WrongText") "__init__") ["self", "kind", "place"] (spWrong K)) : Fn P w K mg base 5 (He.ga K "read_follows") ["reader"] (spFollows K) := by
  obtain ⟨_, g_TOO_OFTEN, r_TOO_OFTEN⟩ := T.cst_TOO_OFTEN
  have sc : FnScope ["reader", "told", "place", "name"] ["reader"] (defScope s_read_follows) := ⟨rfl, rfl, rfl, by decide +kernel, rfl, by decide +kernel, by decide +kernel⟩
  refine fn_mk (k := 4) T.fun_read_follows sc (fun _ _ _ _ _ _ us hl => match us, hl with | [_], _ => rfl) (fun vs H Q E h => ?len) (fun cdv A outer s H vs Q E hr h => ⟨_, (pss_cons (ps_expr (pe_m F_Reader_take_word hr (by decide) (pv 0) T.cls_Reader T.meth_Reader_take_word (passes_call (takes_of rfl rfl rfl rfl) (fun _ _ _ _ h => h)) (pa_c pe_str pa_nil)))
      (pss_cons (ps_set (i := 1) sc.nd rfl (Or.inl rfl) pe_dnewK)
      (pss_cons (ps_while (passes_of rfl) (PW.pt (pw_or (pt_not (pt_truth (pv 1) (by intro _; rfl))) (pw_or1 (pt_not (pt_val (pe_m F_Reader_sees hr (by decide) (pv 0) T.cls_Reader T.meth_Reader_sees (passes_call (takes_of rfl rfl rfl rfl) (fun _ _ _ _ h => h)) (pa_c pe_str pa_nil))))))) (pss_cons (ps_set (i := 2) sc.nd rfl (Or.inl rfl) (pe_m0 F_Reader_here hr (by decide) (pv 0) T.cls_Reader T.meth_Reader_here (passes_call (takes_of rfl rfl rfl rfl) (fun _ _ _ _ h => h))))
      (pss_cons (ps_set (i := 3) sc.nd rfl (Or.inl rfl) (pe_m0 F_Reader_take_name hr (by decide) (pv 0) T.cls_Reader T.meth_Reader_take_name (passes_call (takes_of rfl rfl rfl rfl) (fun _ _ _ _ h => h))))
      (pss_cons (ps_if (pt_cmp (pc_din (hu_of hr) (pv 3) (pv 1))) (pss_one (ps_raise rfl (takes_of rfl rfl rfl rfl) (pmk_x T.oxc T.ini_WrongText T.ity_WrongText F_WrongText_init hr (by decide) passL rfl T.glo_WrongText (pa_c (pe_glob rfl g_TOO_OFTEN r_TOO_OFTEN) (pa_c (pv 2) pa_nil))))) pss_nil)
      (pss_one (ps_dput (hu_of hr) (pv 1) (pv 3) (pv 2) rfl))))))
      (pss_cons (ps_expr (pe_m F_Reader_take_word hr (by decide) (pv 0) T.cls_Reader T.meth_Reader_take_word (passes_call (takes_of rfl rfl rfl rfl) (fun _ _ _ _ h => h)) (pa_c pe_str pa_nil)))
      (pss_one (ps_ret (pv 1))))))), ?rd⟩)
  case len =>
    obtain ⟨r, n, l, rfl, _⟩ := h
    rfl
  case rd =>
    obtain ⟨r, n, l, rfl, hR, k⟩ := h
    unfold followsAt at k
    refine m_word (s := "then") (gw_of (by decide)) (ev_var rfl) (ev_is ev_c (congrArg V.str (gw_of (s := "then") (by decide)).eq.symm)) hR ?_
    cases e0 : Vbirak.mustWord n "then" l with
    | error b =>
      rw [e0] at k
      exact k
    | ok l0 =>
      rw [e0] at k
      have k0 : Made K n r H Q E DictAt (nxt n (l0.length + 1) [] l0) := by
        unfold nxt
        rw [if_neg (by intro z; exact z.1 rfl)]
        exact k
      intro H1 b1 hR1
      intro d hd1
      have hdr : d ≠ r := fun z => rd_some hR1 (by rw [← z]; exact hd1)
      have hdH : H d = none := by
        cases e : H d with
        | none => rfl
        | some o =>
          rw [b1.at e hdr] at hd1
          cases hd1
      dsimp only [gName]
      have hl0 := rd_len hR1
      refine q_while (fun m σ' H' => ∃ (f : Nat) (ms : List (Nat × List Nat)) (l' : Vbirak.Toks) (v2 v3 : Option V), But r H H' ∧ RdAt K H' r n l' ∧ H' d = some (.dK (dk ms)) ∧ σ' = [some (.ref r), some (.ref d), v2, v3] ∧ m = l'.length ∧ l'.length < f ∧ ms.length + l'.length ≤ 2000 ∧ Made K n r H Q E DictAt (nxt n f ms l'))
        l0.length ⟨l0.length + 1, [], l0, none, none, b1.mut hdH, ?_, upd_same, rfl, rfl, by omega, by simp only [List.length_nil]; omega, k0⟩ ?_
      · exact hR1.ex (Ex.new hd1)
      rintro m σ' H' ⟨f, ms, l', v2, v3, bH, hR', hd', rfl, rfl, hf, hz, kk⟩
      have ok := rd_ok hR'
      refine ⟨!(!ms.isEmpty) || !decide ((hd n l').2 = .semi), et_or (et_not ?_) fun _ => et_not (et_B (ev_is (ev_sees (ev_var rfl) ev_c hR') (by rw [sees_semi ok]))), fun hc H2 e2 => ⟨_, fun σ2 H2 z => z, ?_⟩, fun hc H2 e2 => ?_⟩
      · intro Ha ea Q' q'
        refine ⟨_, rfl, !ms.isEmpty, Or.inr (Or.inr ⟨dk ms, ea _ _ hd', by rw [isE_dk]⟩), q' Ha (Ex.refl _)⟩
      · -- a turn
        have hn : ¬ (ms ≠ [] ∧ (hd n l').2 = .semi) := by
          rintro ⟨z1, z2⟩
          rw [decide_eq_true z2] at hc
          cases ms with
          | nil => exact z1 rfl
          | cons x r => cases hc
        obtain ⟨f', rfl⟩ : ∃ f', f = f' + 1 := ⟨f - 1, by omega⟩
        rw [nxt_step hn] at kk
        have hR2 := hR'.ex e2
        refine q_asg (ev_here (ev_var rfl) hR2) fun H3 e3 => ?_
        refine m_name (ev_var rfl) (hR2.ex e3) ?_
        cases e : Vbirak.nameAt n l' with
        | error b =>
          rw [e] at kk
          exact Fails.go kk (bH.trans (But.of (e2.trans e3)))
        | ok y =>
          rw [e] at kk
          obtain ⟨ylt, ypl, yw⟩ := name_lt e
          have kk' : Made K n r H Q E DictAt (if (ms.any fun x => x.2 == y.1.2) = true then .error ⟨3, y.1.1⟩ else nxt n f' (ms ++ [y.1]) y.2) := kk
          intro H4 b4 hR4
          dsimp only [gName]
          have hd4 : H4 d = some (.dK (dk ms)) := b4.at (e3 _ _ (e2 _ _ hd')) hdr
          have bH4 : But r H H4 := (bH.trans (But.of (e2.trans e3))).trans b4
          refine q_when (b := ms.any fun x => x.2 == y.1.2) (fun Ha ea Q' q' => ⟨_, rfl, _, rfl, d, _, rfl, DGet.k (k := Sum.inr (strOf y.1.2)) (ea _ _ hd4), _, rfl, by rw [dk_some]; exact q' Ha (Ex.refl _)⟩) (fun hc H5 e5 => ?_) (fun hc H5 e5 => ?_)
          · rw [if_pos hc] at kk'
            exact rd_raise (b := ⟨3, y.1.1⟩) (ea_cons ev_c (ea_cons (ev_is (ev_var rfl) (by rw [ypl])) ea_nil)) (rd_some (hR4.ex e5)) (Fails.go kk' (bH4.trans (But.of e5)))
          · rw [if_neg (by rw [hc]; exact Bool.false_ne_true)] at kk'
            refine ⟨_, rfl, _, rfl, _, rfl, d, _, rfl, DPut.k (k := Sum.inr (strOf y.1.2)) (e5 _ _ hd4) ?_, ?_⟩
            · unfold dk
              rw [List.length_map]
              exact sz_lt (by omega)
            · rw [← ypl, dk_put hc]
              refine ⟨y.2.length, ylt, f', ms ++ [y.1], y.2, _, _, (bH4.trans (But.of e5)).mut hdH, (hR4.ex e5).upd hdr (e5 _ _ hd4) (fun xs z => by cases z) (fun C dx fs z => by cases z), upd_same, rfl, rfl, by omega, by rw [List.length_append]; simp only [List.length_singleton]; omega, kk'⟩
      · -- the end
        have hy : ms ≠ [] ∧ (hd n l').2 = .semi := by
          rw [Bool.or_eq_false_iff] at hc
          refine ⟨fun z => ?_, ?_⟩
          · rw [z] at hc
            cases hc.1
          · have := hc.2
            by_cases c : (hd n l').2 = .semi
            · exact c
            · rw [decide_eq_false c] at this
              cases this
        have es : Vbirak.semi n l' = .ok (l'.drop 1) := by
          rw [semi_hd, if_pos hy.2]
        unfold nxt at kk
        rw [if_pos hy] at kk
        refine m_semi (ev_var rfl) ev_c (hR'.ex e2) ?_
        rw [es]
        intro H3 b3 hR3
        refine ⟨_, rfl, kk d H3 ((bH.trans (But.of e2)).trans b3) hR3 ?_⟩
        show nw _ _ d = _
        rw [nw_but hdH hdr]
        exact b3.at (e2 _ _ hd') hdr
end
end Sl
namespace Sm
open Vbirak
/-- the first place of a word -/
def at1 : List (List Nat) → List Nat → Nat
  | [], _ => 0
  | v :: r, u => if v = u then 0 else at1 r u + 1
theorem at1_spec : ∀ (ws : List (List Nat)) (u : List Nat), ws.contains u = true → ws[at1 ws u]? = some u ∧ ∀ (i : Nat) (v : List Nat), i < at1 ws u → ws[i]? = some v → v ≠ u
  | [], u, h => by cases h
  | v :: r, u, h => by
    unfold at1
    by_cases c : v = u
    · rw [if_pos c]
      exact ⟨by rw [c]; rfl, fun i v hi => absurd hi (Nat.not_lt_zero _)⟩
    · rw [if_neg c]
      have h' : r.contains u = true := by
        rw [List.contains_cons] at h
        have : (u == v) = false := by
          rw [beq_eq_false_iff_ne]
          exact fun z => c z.symm
        rw [this, Bool.false_or] at h
        exact h
      obtain ⟨a, b⟩ := at1_spec r u h'
      refine ⟨by simpa using a, fun i v' hi hv => ?_⟩
      cases i with
      | zero =>
        have : v = v' := Option.some.inj hv
        rw [← this]
        exact c
      | succ i => exact b i v' (by omega) (by simpa using hv)
theorem at1_lt {ws : List (List Nat)} {u : List Nat} (h : ws.contains u = true) : at1 ws u < ws.length := (List.getElem?_eq_some_iff.mp (at1_spec ws u h).1).1
/-- the kinds, and what stands behind them -/
def kindsAt (n : Nat) (l : Toks) : Except Bad (List Weather × Toks) := match weathersAt n (l.length + 1) [] l with
  | .error b => .error b
  | .ok y => match stray y.1 with
    | some i => .error ⟨2, i⟩
    | none => .ok (solved y.1, y.2)
def rawNames (m : Raw) : List (List Nat) := m.map fun x => x.1
theorem any_names (m : Raw) (u : List Nat) : (m.any fun x => x.1 == u) = (rawNames m).contains u := by
  unfold rawNames
  induction m with
  | nil => rfl
  | cons a r ih =>
    rw [List.any_cons, List.map_cons, List.contains_cons, ih]
    congr 1
    by_cases h : a.1 = u
    · rw [h]
    · have h1 : (a.1 == u) = false := by simpa using h
      have h2 : (u == a.1) = false := by
        rw [beq_eq_false_iff_ne]
        exact fun z => h z.symm
      rw [h1, h2]
theorem at1_cons (v u : List Nat) (r : List (List Nat)) : at1 (v :: r) u = if v = u then 0 else at1 r u + 1 := rfl
theorem place_at (m : Raw) (u : List Nat) : placeIn m u = if (rawNames m).contains u = true then some (at1 (rawNames m) u) else none := by
  unfold placeIn rawNames
  induction m with
  | nil => rfl
  | cons a r ih =>
    rw [List.findIdx?_cons, ih, List.map_cons, List.contains_cons, at1_cons]
    by_cases h : a.1 = u
    · have h1 : (a.1 == u) = true := by simpa using h
      have h2 : (u == a.1) = true := by
        rw [h]
        simp
      rw [if_pos h1, h2, Bool.true_or, if_pos rfl, if_pos h]
    · have h1 : (a.1 == u) = false := by simpa using h
      have h2 : (u == a.1) = false := by
        rw [beq_eq_false_iff_ne]
        exact fun z => h z.symm
      rw [if_neg (by rw [h1]; exact Bool.false_ne_true), h2, Bool.false_or, if_neg h]
      split <;> rfl
theorem place_none (m : Raw) (u : List Nat) : (placeIn m u).isNone = !(rawNames m).contains u := by
  rw [place_at]
  cases (rawNames m).contains u <;> rfl
/-- the first stray name of one kind -/
def strayOf (ws : List (List Nat)) (ms : List (Nat × List Nat)) : Option (Nat × List Nat) := ms.find? fun y => !ws.contains y.2
theorem stray_eq (m : Raw) : stray m = m.findSome? fun x => (strayOf (rawNames m) x.2.2).map fun y => y.1 := by
  unfold stray strayOf
  congr 1
  funext x
  congr 1
  congr 1
  funext y
  exact place_none m y.2
theorem findSome_at {α β : Type} {f : α → Option β} : ∀ {l : List α} {i : Nat} {x : α} {b : β}, (∀ y ∈ l.take i, f y = none) → l[i]? = some x → f x = some b → l.findSome? f = some b
  | [], i, x, b, _, h, _ => by simp at h
  | a :: r, 0, x, b, _, h, hp => by
    cases h
    rw [List.findSome?_cons, hp]
  | a :: r, i + 1, x, b, h1, h, hp => by
    have ha := h1 a (by rw [List.take_succ_cons]; exact List.mem_cons_self)
    rw [List.findSome?_cons, ha]
    exact findSome_at (i := i) (fun y hy => h1 y (by rw [List.take_succ_cons]; exact List.mem_cons_of_mem _ hy)) (by simpa using h) hp
def solveOf (ws : List (List Nat)) (x : Bytes × Nat × List (Nat × Bytes)) : Weather := ⟨x.1, x.2.1, x.2.2.map fun y => at1 ws y.2⟩
theorem fm_all {α β : Type} {f : α → Option β} {g : α → β} : ∀ {l : List α}, (∀ x ∈ l, f x = some (g x)) → l.filterMap f = l.map g
  | [], _ => rfl
  | a :: r, h => by
    rw [List.filterMap_cons, h a List.mem_cons_self, List.map_cons, fm_all fun x hx => h x (List.mem_cons_of_mem _ hx)]
theorem solved_eq (m : Raw) (h : ∀ x ∈ m, ∀ y ∈ x.2.2, (rawNames m).contains y.2 = true) : solved m = m.map (solveOf (rawNames m)) := by
  unfold solved
  refine List.map_congr_left fun x hx => ?_
  unfold solveOf
  rw [fm_all (g := fun y => at1 (rawNames m) y.2) fun y hy => ?_]
  rw [place_at, if_pos (h x hx y hy)]
theorem stray_none {m : Raw} (h : ∀ x ∈ m, ∀ y ∈ x.2.2, (rawNames m).contains y.2 = true) : stray m = none := by
  rw [stray_eq, List.findSome?_eq_none_iff]
  intro x hx
  rw [Option.map_eq_none_iff]
  unfold strayOf
  rw [List.find?_eq_none]
  intro y hy
  rw [h x hx y hy]
  decide
end Sm
namespace Sl
open PySem PySem.Spec PyProof.Rows L2
open Evl
open Vbirak (Lake Weather)
open Sm
section
variable {K : PySem.W.Frag} {σ : L2.St} {H : Hp} {ta te : TE} {D : Ends} {tb : TS} {g : TG}
theorem vS_get {ws : List (List Nat)} {i : Nat} {u : List Nat} (h : ws[i]? = some u) : (vS ws)[i]? = some (.str (strOf u)) := by
  unfold vS
  rw [List.getElem?_map, h]
  rfl
theorem vS_at {ws : List (List Nat)} {i : Nat} {x : V} (h : (vS ws)[i]? = some x) : ∃ u, ws[i]? = some u ∧ x = .str (strOf u) := by
  unfold vS at h
  rw [List.getElem?_map] at h
  cases e : ws[i]? with
  | none =>
    rw [e] at h
    cases h
  | some n =>
    rw [e] at h
    exact ⟨n, rfl, (Option.some.inj h).symm⟩
theorem ev_indexS {p : Addr} {ws : List (List Nat)} {u : List Nat} (ha : Ev ta σ H (.ref p)) (hp : SqL K H p (vS ws)) (he : Ev te σ H (.str (strOf u))) (hu : ws.contains u = true) : Ev (tBM K "list" (rIndex K) ta (tCons te tNil)) σ H (.int ((at1 ws u : Nat) : Int)) := fun H1 e Q q =>
  ha H1 e _ fun H2 e2 => ⟨Or.inl ⟨rfl, _, ex_l (e.trans e2) hp⟩, he H2 (e.trans e2) _ fun H3 e3 => ⟨p, vS ws, .str (strOf u), at1 ws u, .str (strOf u), rfl, rfl, ex_l ((e.trans e2).trans e3) hp, rfl, flat_strs ws, vS_get (at1_spec ws u hu).1, by show (strOf u == strOf u) = true; simp, fun i z hi hz => by
    obtain ⟨v, hv, rfl⟩ := vS_at hz
    have := (at1_spec ws u hu).2 i v hi hv
    show (strOf v == strOf u) = false
    rw [beq_eq_false_iff_ne]
    exact fun z => this (strOf_inj z), q H3 (e2.trans e3)⟩⟩
/-- for k, v in d.items(), the dict locked -/
theorem s_items {d : Addr} {od : Obj} {kvs : List (Key × V)} (he : Ev te σ H (.ref d)) (hd : H d = some (.frz od (.dK kvs))) (Pv : Nat → L2.St → Hp → Prop) (h0 : ∀ H1, Ex H H1 → Pv 0 σ H1) (hl : ∀ i σ' H', i ≤ kvs.length → Pv i σ' H' → H' d = some (.frz od (.dK kvs)))
    (hs : ∀ (i : Nat) (k : Key) (v : V) T σ' H', kvs[i]? = some (k, v) → Pv i σ' H' → H' T = none → g (.ref T) σ' (upd H' T (.tup [kV k, v])) fun σ2 H2 => tb { D with nx := Pv (i + 1), ct := Pv (i + 1), bk := D.nx } σ2 H2) (hdn : ∀ σ' H', Pv kvs.length σ' H' → D.nx σ' H') : tFor (iItems te) g tb D σ H :=
  he H (Ex.refl H) _ fun H1 e1 => ⟨d, od, kvs, rfl, e1 _ _ hd, fun i m σ' H' => m = kvs.length - i ∧ i ≤ kvs.length ∧ Pv i σ' H', ⟨kvs.length, by simp, Nat.zero_le _, h0 H1 e1⟩, fun i m σ' H' ⟨hm, hi, p⟩ => by
    subst hm
    have q := hl i σ' H' hi p
    by_cases hlt : i < kvs.length
    · refine .inr ⟨⟨q, hlt⟩, Pv (i + 1), fun σ2 H2 p' => ⟨kvs.length - (i + 1), by omega, rfl, hlt, p'⟩, fun x H2 y => ?_⟩
      obtain ⟨T, k, v, h1, rfl, h2, rfl⟩ := y
      exact hs i k v T σ' H' h1 p h2
    · have e : i = kvs.length := by omega
      subst e
      exact .inl ⟨⟨q, Nat.le_refl _⟩, hdn σ' H' p⟩⟩
end
section
variable {P : Program} {w : World} {K : PySem.W.Frag} {mg : Str → Option Value} {base : Heap}
def spKindNumbers (K : PySem.W.Frag) : Sp := fun vs H Q E => ∃ (d p : Addr) (ms : List (Nat × List Nat)) (ws : List (List Nat)), vs = [.ref d, .ref p] ∧ DictAt H d ms ∧ H p = some (.lst (vS ws)) ∧ ms.length ≤ 2000 ∧
  (∀ y, (ms.find? fun y => !ws.contains y.2) = some y → Fails K d H E ⟨2, y.1⟩) ∧ ((∀ y ∈ ms, ws.contains y.2 = true) → RetN (fun h q => IntsAt h q (ms.map fun y => at1 ws y.2)) H Q)
theorem find_take {α : Type} {p : α → Bool} : ∀ {l : List α} {i : Nat} {x : α}, (∀ y ∈ l.take i, p y = false) → l[i]? = some x → p x = true → l.find? p = some x
  | [], i, x, _, h, _ => by simp at h
  | a :: r, 0, x, _, h, hp => by
    cases h
    rw [List.find?_cons, hp]
  | a :: r, i + 1, x, h1, h, hp => by
    have ha := h1 a (by rw [List.take_succ_cons]; exact List.mem_cons_self)
    rw [List.find?_cons, ha]
    exact find_take (i := i) (fun y hy => h1 y (by rw [List.take_succ_cons]; exact List.mem_cons_of_mem _ hy)) (by simpa using h) hp
theorem ok_kind_numbers (T : Tx K mg) (F_WrongText_init : Fn P w K mg base 1 (He.ma K (He.ga K "WrongText") "__init__") ["self", "kind", "place"] (spWrong K)) : Fn P w K mg base 3 (He.ga K "kind_numbers") ["told", "names"] (spKindNumbers K) := by
  obtain ⟨_, g_NO_KIND, r_NO_KIND⟩ := T.cst_NO_KIND
  have sc : FnScope ["told", "names", "numbers", "name", "place"] ["told", "names"] (defScope s_kind_numbers) := ⟨rfl, rfl, rfl, by decide +kernel, rfl, by decide +kernel, by decide +kernel⟩
  refine fn_mk (k := 2) T.fun_kind_numbers sc (fun _ _ _ _ _ _ us hl => match us, hl with | [_, _], _ => rfl) (fun vs H Q E h => ?len) (fun cdv A outer s H vs Q E hr h => ⟨_, (pss_cons (ps_set (i := 2) sc.nd rfl (Or.inl rfl) (pe_lst pa_nil))
      (pss_cons (ps_lock (ps_for (passes_of rfl) rfl (pi_items (pv 0)) (pg_tup rfl (pgs_cons (pg_name (i := 3) sc.nd rfl (Or.inl rfl)) (pgs_cons (pg_name (i := 4) sc.nd rfl (Or.inl rfl)) pgs_nil))) (pss_cons (ps_if (pt_cmpR op_notIn_seq (pv 3) (pv 1) (by rfl)) (pss_one (ps_raise rfl (takes_of rfl rfl rfl rfl) (pmk_x T.oxc T.ini_WrongText T.ity_WrongText F_WrongText_init hr (by decide) passL rfl T.glo_WrongText (pa_c (pe_glob rfl g_NO_KIND r_NO_KIND) (pa_c (pv 4) pa_nil))))) pss_nil)
      (pss_one (ps_expr (pe_bm PySem.F.plainAttrs_list PySem.F.slot_list_append PySem.F.type_list_append mt_append (pv 2) (pa_c (pe_bm PySem.F.plainAttrs_list PySem.F.slot_list_index PySem.F.type_list_index mt_index (pv 1) (pa_c (pv 3) pa_nil)) pa_nil)))))))
      (pss_one (ps_ret (pv 2))))), ?rd⟩)
  case len =>
    obtain ⟨d, p, ms, ws, rfl, _⟩ := h
    rfl
  case rd =>
    obtain ⟨d, p, ms, ws, rfl, hd, hp, hz, kF, kS⟩ := h
    have hpd : p ≠ d := fun z => by
      rw [z, hd] at hp
      cases hp
    refine q_asgL (xs := []) (el_lst ea_nil (by decide)) fun s H1 hs e1 h1 => ?_
    have hsd : s ≠ d := fun z => by
      rw [z, hd] at hs
      cases hs
    have hsp : s ≠ p := fun z => by
      rw [z, hp] at hs
      cases hs
    refine ⟨d, .dK (dk ms), e1 _ _ hd, trivial, fun od => ?_⟩
    have other : ∀ b o, b ≠ d → H1 b = some o → upd H1 d (.frz od (.dK (dk ms))) b = some o := fun b o hb h => by
      rw [upd_ne hb]
      exact h
    refine s_items (ev_var rfl) upd_same (fun i σ' H' => H' d = some (.frz od (.dK (dk ms))) ∧ But d H H' ∧ (∃ v3 v4, σ' = [some (.ref d), some (.ref p), some (.ref s), v3, v4]) ∧ H' s = some (.lst (vI ((ms.take i).map fun y => at1 ws y.2))) ∧ ∀ y ∈ ms.take i, ws.contains y.2 = true) ?_ (fun i σ' H' _ z => z.1) ?_ ?_
    · intro H2 e2
      exact ⟨e2 _ _ upd_same, ((But.of e1).trans But.upd).trans (But.of e2), ⟨none, none, rfl⟩, e2 _ _ (other s _ hsd h1), fun y hy => by simp at hy⟩
    · rintro i k v T' σ' H' hi ⟨q1, q2, ⟨v3, v4, rfl⟩, q4, q5⟩ hT
      unfold dk at hi
      rw [List.getElem?_map] at hi
      cases e : ms[i]? with
      | none =>
        rw [e] at hi
        cases hi
      | some y =>
        rw [e] at hi
        cases hi
        have hpH : H' p = some (.lst (vS ws)) := q2.at hp hpd
        refine ⟨T', _, rfl, SqT.of upd_same, rfl, _, _, rfl, _, _, rfl, rfl, ?_⟩
        have e2 : Ex H' (upd H' T' (.tup [kV (Sum.inr (strOf y.2)), .int (y.1 : Int)])) := Ex.new hT
        refine q_when (b := !ws.contains y.2) (et_is (et_test (ev_op (ev_var rfl) (ev_var rfl) (rv_niL (x := .str (strOf y.2)) (sq_of (e2 _ _ hpH)) rfl (flat_strs ws)))) ?_) (fun hc H3 e3 => ?_) (fun hc H3 e3 => ?_)
        · rw [inV_strs]
        · refine rd_raise (r := d) (b := ⟨2, y.1⟩) (ea_cons ev_c (ea_cons (ev_var rfl) ea_nil)) (by rw [e3 _ _ (e2 _ _ q1)]; simp) (Fails.go (kF y ?_) (q2.trans (But.of (e2.trans e3))))
          exact find_take (fun z hz => by rw [q5 z hz]; rfl) e hc
        · have hcu : ws.contains y.2 = true := by
            cases z : ws.contains y.2 with
            | true => rfl
            | false =>
              rw [z] at hc
              cases hc
          have hpl : ms[i]? = some y := e
          refine s_app (e3 _ _ (e2 _ _ q4)) (ev_var rfl) (ev_indexS (ev_var rfl) (sq_of (e3 _ _ (e2 _ _ hpH))) (ev_var rfl) hcu) ?_ fun H4 e4 => ⟨?_, ?_, ⟨_, _, rfl⟩, ?_, fun z hz => ?_⟩
          · rw [vI_len, List.length_map, List.length_take]
            omega
          · rw [upd_ne (Ne.symm hsd)]
            exact e4 _ _ (e3 _ _ (e2 _ _ q1))
          · exact (q2.trans (But.of ((e2.trans e3).trans e4))).mut hs
          · rw [upd_same, List.take_add_one, hpl]
            unfold vI
            rw [List.map_append, List.map_append]
            rfl
          · rw [List.take_add_one, hpl] at hz
            rcases List.mem_append.mp hz with hz | hz
            · exact q5 z hz
            · rw [List.mem_singleton.mp hz]
              exact hcu
    · rintro σ' H' ⟨q1, q2, ⟨v3, v4, rfl⟩, q4, q5⟩
      have hl : (dk ms).length = ms.length := List.length_map ..
      rw [hl, List.take_length] at q4 q5
      refine ⟨q1, _, rfl, kS q5 s _ (fun b o hb => ?_) ?_⟩
      · by_cases hbd : b = d
        · rw [hbd, upd_same]
          rw [hbd, hd] at hb
          exact hb
        · rw [upd_ne hbd]
          exact q2.at hb hbd
      · show nw H _ s = _
        rw [nw_at hs, upd_ne hsd]
        exact q4
end
end Sl
namespace Sl
open PySem PySem.Spec PyProof.Rows L2
open Evl
open Vbirak (Lake Weather)
open Sm
section
variable {K : PySem.W.Frag} {σ : L2.St} {H : Hp} {ta te : TE} {D : Ends} {tb tz : TS} {g : TG}
/-- for i, x in enumerate(xs) -/
theorem q_enum {a : Addr} {xs : List V} (he : Ev te σ H (.ref a)) (hx : SqL K H a xs) (Pv : Nat → L2.St → Hp → Prop) (h0 : ∀ H1, Ex H H1 → Pv 0 σ H1) (hl : ∀ i σ' H', i ≤ xs.length → Pv i σ' H' → SqL K H' a xs)
    (hs : ∀ (i : Nat) (x : V) T σ' H', xs[i]? = some x → Pv i σ' H' → H' T = none → g (.ref T) σ' (upd H' T (.tup [.int (i : Int), x])) fun σ2 H2 => tb { D with nx := Pv (i + 1), ct := Pv (i + 1), bk := tz D } σ2 H2) (hdn : ∀ σ' H', Pv xs.length σ' H' → tz D σ' H') : tSeq (tFor (iEnum K (tCons te tNil)) g tb) tz D σ H :=
  he H (Ex.refl H) _ fun H1 e1 => ⟨a, xs, rfl, ex_l e1 hx, fun i m σ' H' => m = xs.length - i ∧ i ≤ xs.length ∧ Pv i σ' H', ⟨xs.length, by simp, Nat.zero_le _, h0 H1 e1⟩, fun i m σ' H' ⟨hm, hi, p⟩ => by
    subst hm
    have q := hl i σ' H' hi p
    by_cases hlt : i < xs.length
    · refine .inr ⟨⟨xs, xs[i], q, List.getElem?_eq_getElem hlt⟩, Pv (i + 1), fun σ2 H2 p' => ⟨xs.length - (i + 1), by omega, rfl, hlt, p'⟩, fun x H2 y => ?_⟩
      obtain ⟨T, v, rfl, h1, rfl, h2⟩ := y
      exact hs i v T σ' H' (h2 xs q) p h1
    · have e : i = xs.length := by omega
      subst e
      exact .inl ⟨⟨xs, q, Nat.le_refl _⟩, hdn σ' H' p⟩⟩
end
theorem RdAt.updL {K : PySem.W.Frag} {H : Hp} {r a : Addr} {n : Nat} {l : Vbirak.Toks} {xs : List V} {o : HO} (h : RdAt K H r n l) (ha : H a = some (.lst xs)) (hx : ∀ p, xs.head? = some (.ref p) → ∀ C dx x, H p ≠ some (.ins C dx (pieceF x))) : RdAt K (L2.upd H a o) r n l := by
  obtain ⟨dx, pl, ps, k, a1, ⟨as, a2, a3⟩, a4⟩ := h
  have har : a ≠ r := fun z => by
    rw [z, a1] at ha
    cases ha
  have key : ∀ b u, del H r b = some u → b ≠ a → del (L2.upd H a o) r b = some u := fun b u hb hbd => by
    by_cases hbr : b = r
    · rw [hbr, del_same] at hb
      cases hb
    · rw [del_ne hbr] at hb ⊢
      rw [upd_ne hbd]
      exact hb
  refine ⟨dx, pl, ps, k, by rw [upd_ne (Ne.symm har)]; exact a1, ⟨as, key _ _ a2 fun z => ?_, a3.imp fun b x ⟨dy, hb⟩ => ⟨dy, key _ _ hb fun z => ?_⟩⟩, a4⟩
  · have e := ex_del _ _ a2
    rw [z, ha] at e
    have e2 : xs = as.map V.ref := by
      have := Option.some.inj e
      injection this
    cases as with
    | nil =>
      have := a3.1
      rw [List.length_append] at this
      simp at this
    | cons b bs =>
      obtain ⟨x, hx0⟩ : ∃ x, (ps ++ [(n, Vbirak.Tok.wrong)])[0]? = some x := ⟨_, List.getElem?_eq_getElem (by rw [← a3.1]; simp)⟩
      obtain ⟨dy, hb⟩ := a3.2 0 b x rfl hx0
      exact hx b (by rw [e2]; rfl) _ _ _ (ex_del _ _ hb)
  · have e := ex_del _ _ hb
    rw [z, ha] at e
    cases e
theorem Fails.sub {K : PySem.W.Frag} {r d : Addr} {H H1 : Hp} {E : XK} {b : Vbirak.Bad} (f : Fails K r H E b) (e : But r H H1) (hd : H d = none) : Fails K d H1 E b := fun p H2 e2 h => f p H2 (fun c o hc => by
  by_cases hcr : c = r
  · rw [hcr, del_same] at hc
    cases hc
  · have h1 := e c o hc
    rw [del_ne hcr] at hc h1 ⊢
    exact e2.at h1 (ne_of_none hc hd)) h
theorem But.none {r b : Addr} {H H' : Hp} (e : But r H H') (h : H' b = none) (hb : b ≠ r) : H b = none := by
  cases q : H b with
  | none => rfl
  | some o =>
    rw [e.at q hb] at h
    cases h
/-- a new thing behind the reader's calls -/
theorem nw_new {r p : Addr} {H H' : Hp} {o : HO} (h : nw (del H r) (del H' r) p = some o) : p ≠ r ∧ H p = none ∧ H' p = some o := by
  obtain ⟨h1, h2⟩ := nw_old h
  have hp : p ≠ r := fun z => by
    rw [z, del_same] at h2
    cases h2
  rw [del_ne hp] at h1 h2
  exact ⟨hp, h1, h2⟩
theorem dict_keep {H H' : Hp} {a : Addr} {xs : List V} {o : HO} {ds : List Addr} {ms : List (List (Nat × List Nat))} (h : All2 (DictAt H) ds ms) (ha : H a = some (.lst xs)) : All2 (DictAt (upd H a o)) ds ms := h.imp fun d m hd => by
  show upd H a o d = _
  rw [upd_ne (fun z => by
    rw [z] at hd
    have e : H a = some (.dK (dk m)) := hd
    rw [ha] at e
    cases e)]
  exact hd
theorem dict_but {K : PySem.W.Frag} {H H' : Hp} {r : Addr} {n : Nat} {l : Vbirak.Toks} {ds : List Addr} {ms : List (List (Nat × List Nat))} (h : All2 (DictAt H) ds ms) (hR : RdAt K H r n l) (e : But r H H') : All2 (DictAt H') ds ms := h.imp fun d m hd => e.at hd (fun z => by
  obtain ⟨dx, pl, ps, k, a1, _⟩ := hR
  have e2 : H d = some (.dK (dk m)) := hd
  rw [z, a1] at e2
  cases e2)
section
variable {P : Program} {w : World} {K : PySem.W.Frag} {mg : Str → Option Value} {base : Heap}
theorem mono_kind (K : PySem.W.Frag) : MonoR (KindAt K) := fun _ _ _ _ e h => h.ex e
def spReadKinds (K : PySem.W.Frag) : Sp := fun vs H Q E => ∃ (r : Addr) (n : Nat) (l : Vbirak.Toks), vs = [.ref r] ∧ RdAt K H r n l ∧ Made K n r H Q E (ListAt (KindAt K)) (kindsAt n l)
/-- the state of the first loop -/
structure Ks (K : PySem.W.Frag) (H : Hp) (r a1 a2 a3 : Addr) (n : Nat) (m : Vbirak.Raw) (l : Vbirak.Toks) (ds : List Addr) (H' : Hp) : Prop where
  bH : But r H H'
  hR : RdAt K H' r n l
  h1 : H' a1 = some (.lst (vS (rawNames m)))
  h2 : H' a2 = some (.lst (vI (m.map fun x => x.2.1)))
  h3 : H' a3 = some (.lst (ds.map V.ref))
  hd : All2 (DictAt H') ds (m.map fun x => x.2.2)
  nd : ∀ d ∈ ds, H d = none
  le : m.length ≤ 4
  len : ∀ x ∈ m, x.2.2.length ≤ 2000
theorem Ks.ex {H : Hp} {r a1 a2 a3 : Addr} {n : Nat} {m : Vbirak.Raw} {l : Vbirak.Toks} {ds : List Addr} {H' H'' : Hp} (s : Ks K H r a1 a2 a3 n m l ds H') (e : Ex H' H'') : Ks K H r a1 a2 a3 n m l ds H'' :=
  ⟨s.bH.trans (But.of e), s.hR.ex e, e _ _ s.h1, e _ _ s.h2, e _ _ s.h3, s.hd.imp fun _ _ z => e _ _ z, s.nd, s.le, s.len⟩
theorem names_len {n : Nat} : ∀ {f : Nat} {m : List (Nat × List Nat)} {l : Vbirak.Toks} {y : List (Nat × List Nat) × Vbirak.Toks}, l.length < f → Vbirak.namesAt n f m l = .ok y → y.1.length ≤ m.length + l.length
  | 0, m, l, y, hf, h => absurd hf (Nat.not_lt_zero _)
  | f + 1, m, l, y, hf, h => by
    rw [namesAt_eq] at h
    cases e : Vbirak.nameAt n l with
    | error b =>
      rw [e] at h
      cases h
    | ok z =>
      rw [e] at h
      have h1 := (name_lt e).1
      have h' : (if (m.any fun x => x.2 == z.1.2) = true then .error ⟨3, z.1.1⟩ else if (hd n z.2).2 = .semi then .ok (m ++ [z.1], z.2.drop 1) else Vbirak.namesAt n f (m ++ [z.1]) z.2) = Except.ok y := h
      split at h'
      · cases h'
      · split at h'
        · cases h'
          rw [List.length_append]
          simp only [List.length_singleton]
          omega
        · have := names_len (by omega) h'
          rw [List.length_append] at this
          simp only [List.length_singleton] at this
          omega
theorem ok_read_kinds (T : Tx K mg) (F_Reader_sees : Fn P w K mg base 2 (He.ma K (He.ga K "Reader") "sees") ["self", "word"] (spSees K)) (F_Reader_take_word : Fn P w K mg base 4 (He.ma K (He.ga K "Reader") "take_word") ["self", "word"] (spTakeWord K)) (F_read_kind_name : Fn P w K mg base 5 (He.ga K "read_kind_name") ["reader", "names"] (spKindName K)) (F_number_behind : Fn P w K mg base 5 (He.ga K "number_behind") ["reader", "word", "least", "most"] (spNumberBehind K)) (F_read_follows : Fn P w K mg base 5 (He.ga K "read_follows") ["reader"] (spFollows K)) (F_Kind_init : Fn P w K mg base 1 (He.ma K (He.ga K "Kind") "__init__") ["self", "name", "brings", "follows"] (spInit (He.ga K "Kind") ["name", "brings", "follows"])) (F_kind_numbers : Fn P w K mg base 3 (He.ga K "kind_numbers") ["told", "names"] (spKindNumbers K)) : Fn P w K mg base 6 (He.ga K "read_kinds") ["reader"] (spReadKinds K) := by
  obtain ⟨_, g_MOST_BROUGHT, r_MOST_BROUGHT⟩ := T.cst_MOST_BROUGHT
  have sc : FnScope ["reader", "names", "brings", "follows", "kinds", "number", "name"] ["reader"] (defScope s_read_kinds) := ⟨rfl, rfl, rfl, by decide +kernel, rfl, by decide +kernel, by decide +kernel⟩
  refine fn_mk (k := 5) T.fun_read_kinds sc (fun _ _ _ _ _ _ us hl => match us, hl with | [_], _ => rfl) (fun vs H Q E h => ?len) (fun cdv A outer s H vs Q E hr h => ⟨_, (pss_cons (ps_set (i := 1) sc.nd rfl (Or.inl rfl) (pe_lst pa_nil))
      (pss_cons (ps_set (i := 2) sc.nd rfl (Or.inl rfl) (pe_lst pa_nil))
      (pss_cons (ps_set (i := 3) sc.nd rfl (Or.inl rfl) (pe_lst pa_nil))
      (pss_cons (ps_while (passes_of rfl) (PW.pt (pw_or (pt_not (pt_truth (pv 1) (by intro _; rfl))) (pw_or1 (pt_val (pe_m F_Reader_sees hr (by decide) (pv 0) T.cls_Reader T.meth_Reader_sees (passes_call (takes_of rfl rfl rfl rfl) (fun _ _ _ _ h => h)) (pa_c pe_str pa_nil)))))) (pss_cons (ps_expr (pe_m F_Reader_take_word hr (by decide) (pv 0) T.cls_Reader T.meth_Reader_take_word (passes_call (takes_of rfl rfl rfl rfl) (fun _ _ _ _ h => h)) (pa_c pe_str pa_nil)))
      (pss_cons (ps_expr (pe_bm PySem.F.plainAttrs_list PySem.F.slot_list_append PySem.F.type_list_append mt_append (pv 1) (pa_c (pe_f F_read_kind_name hr (by decide) T.glo_read_kind_name (passes_call (takes_of rfl rfl rfl rfl) (fun _ _ _ _ h => h)) (pa_c (pv 0) (pa_c (pv 1) pa_nil))) pa_nil)))
      (pss_cons (ps_expr (pe_bm PySem.F.plainAttrs_list PySem.F.slot_list_append PySem.F.type_list_append mt_append (pv 2) (pa_c (pe_f F_number_behind hr (by decide) T.glo_number_behind (passes_call (takes_of rfl rfl rfl rfl) (fun _ _ _ _ h => h)) (pa_c (pv 0) (pa_c pe_str (pa_c pe_int (pa_c (pe_glob rfl g_MOST_BROUGHT r_MOST_BROUGHT) pa_nil))))) pa_nil)))
      (pss_one (ps_expr (pe_bm PySem.F.plainAttrs_list PySem.F.slot_list_append PySem.F.type_list_append mt_append (pv 3) (pa_c (pe_f F_read_follows hr (by decide) T.glo_read_follows (passes_call (takes_of rfl rfl rfl rfl) (fun _ _ _ _ h => h)) (pa_c (pv 0) pa_nil)) pa_nil))))))))
      (pss_cons (ps_set (i := 4) sc.nd rfl (Or.inl rfl) (pe_lst pa_nil))
      (pss_cons (ps_for (passes_of rfl) rfl (pi_enum rfl T.free_enumerate (pa_c (pv 1) pa_nil)) (pg_tup rfl (pgs_cons (pg_name (i := 5) sc.nd rfl (Or.inl rfl)) (pgs_cons (pg_name (i := 6) sc.nd rfl (Or.inl rfl)) pgs_nil))) (pss_one (ps_expr (pe_bm PySem.F.plainAttrs_list PySem.F.slot_list_append PySem.F.type_list_append mt_append (pv 4) (pa_c (pe_k F_Kind_init hr (by decide) T.mkr_Kind T.glo_Kind (passes_call (takes_of rfl rfl rfl rfl) (fun _ _ _ _ h => h)) (pa_c (pv 6) (pa_c (pe_ix ix_list (pv 2) (pv 5) (fun _ _ => rfl)) (pa_c (pe_f F_kind_numbers hr (by decide) T.glo_kind_numbers (passes_call (takes_of rfl rfl rfl rfl) (fun _ _ _ _ h => h)) (pa_c (pe_ix ix_list (pv 3) (pv 5) (fun _ _ => rfl)) (pa_c (pv 1) pa_nil))) pa_nil)))) pa_nil)))))
      (pss_one (ps_ret (pv 4))))))))), ?rd⟩)
  case len =>
    obtain ⟨r, n, l, rfl, _⟩ := h
    rfl
  case rd =>
    obtain ⟨r, n, l, rfl, hR, k⟩ := h
    unfold kindsAt at k
    have h0 := rd_some hR
    refine q_asgL (xs := []) (el_lst ea_nil (by decide)) fun a1 H1 n1 e1 h1 => ?_
    refine q_asgL (xs := []) (el_lst ea_nil (by decide)) fun a2 H2 n2 e2 h2 => ?_
    refine q_asgL (xs := []) (el_lst ea_nil (by decide)) fun a3 H3 n3 e3 h3 => ?_
    have r1 : a1 ≠ r := fun z => h0 (by rw [← z]; exact n1)
    have n2' := fresh_back e1 n2
    have r2 : a2 ≠ r := fun z => h0 (by rw [← z]; exact n2')
    have n3' := fresh_back (e1.trans e2) n3
    have r3 : a3 ≠ r := fun z => h0 (by rw [← z]; exact n3')
    have d12 : a1 ≠ a2 := ne_of_none h1 n2
    have d13 : a1 ≠ a3 := ne_of_none (e2 _ _ h1) n3
    have d23 : a2 ≠ a3 := ne_of_none h2 n3
    have start : Ks K H r a1 a2 a3 n [] l [] H3 := ⟨But.of ((e1.trans e2).trans e3), hR.ex ((e1.trans e2).trans e3), e3 _ _ (e2 _ _ h1), e3 _ _ h2, h3, All2.nil, fun d hd => (by cases hd), Nat.zero_le _, fun x hx => (by cases hx)⟩
    refine q_while (fun m σ' H' => ∃ (f : Nat) (ks : Vbirak.Raw) (l' : Vbirak.Toks) (ds : List Addr), Ks K H r a1 a2 a3 n ks l' ds H' ∧ σ' = [some (.ref r), some (.ref a1), some (.ref a2), some (.ref a3), none, none, none] ∧ m = l'.length ∧ l'.length < f ∧ Vbirak.weathersAt n f ks l' = Vbirak.weathersAt n (l.length + 1) [] l) l.length ⟨l.length + 1, [], l, [], start, rfl, rfl, by omega, rfl⟩ ?_
    rintro m σ' H' ⟨f, ks, l', ds, S, rfl, rfl, hf, hw⟩
    obtain ⟨f', rfl⟩ : ∃ f', f = f' + 1 := ⟨f - 1, by omega⟩
    have gW := gw_of (s := "weather") (by decide)
    rw [weathersAt_eq] at hw
    have hsee : seesB n l' "weather" = Vbirak.wordAhead "weather" l' := by
      rw [ahead_hd "weather" n]
      have z := sees_word (n := n) (l := l') gW.ne
      rw [gW.eq] at z
      exact z
    refine ⟨!(!ks.isEmpty) || Vbirak.wordAhead "weather" l', et_or (et_not ?_) fun _ => et_B (ev_is (ev_sees (ev_var rfl) ev_c S.hR) (by rw [hsee])), fun hc H4 e4 => ⟨_, fun σ2 H2 z => z, ?_⟩, fun hc H4 e4 => ?_⟩
    · intro Ha ea Q' q'
      refine ⟨_, rfl, !ks.isEmpty, Or.inl ⟨_, sq_of (ea _ _ S.h1), ?_⟩, q' Ha (Ex.refl _)⟩
      cases ks <;> rfl
    · -- one kind
      have hn : ¬ (Vbirak.wordAhead "weather" l' = false ∧ ks.isEmpty = false) := by
        rintro ⟨z1, z2⟩
        rw [z1, z2] at hc
        cases hc
      rw [if_neg hn] at hw
      have S4 := S.ex e4
      refine m_word gW (ev_var rfl) (ev_is ev_c (congrArg V.str gW.eq.symm)) S4.hR ?_
      cases e5 : Vbirak.mustWord n "weather" l' with
      | error b =>
        rw [e5] at hw
        rw [← hw] at k
        exact Fails.go k S4.bH
      | ok l1 =>
        rw [e5] at hw
        dsimp only at hw
        have lt1 := must_lt e5
        intro H5 b5 hR5
        -- names.append(read_kind_name(reader, names))
        have p1 : H5 a1 = some (.lst (vS (rawNames ks))) := b5.at S4.h1 r1
        have p2 : H5 a2 = some (.lst (vI (ks.map fun x => x.2.1))) := b5.at S4.h2 r2
        have p3 : H5 a3 = some (.lst (ds.map V.ref)) := b5.at S4.h3 r3
        have pd : All2 (DictAt H5) ds (ks.map fun x => x.2.2) := dict_but S4.hd S4.hR b5
        have pH : But r H H5 := S4.bH.trans b5
        have hnl : (rawNames ks).length = ks.length := List.length_map ..
        refine ⟨_, rfl, Or.inl ⟨rfl, _, sq_of p1⟩, _, rfl, _, rfl, r, a1, n, l1, rawNames ks, rfl, hR5, r1, p1, by rw [hnl]; exact S.le, ?_⟩
        unfold kindName
        cases e6 : Vbirak.nameAt n l1 with
        | error b =>
          rw [e6] at hw
          rw [← hw] at k
          exact Fails.go k pH
        | ok y =>
          rw [e6] at hw
          have lt2 := (name_lt e6).1
          have hw' : (if (ks.any fun x => x.1 == y.1.2) = true ∨ Vbirak.WEATHERS ≤ ks.length then (.error ⟨3, y.1.1⟩ : Except Vbirak.Bad (Vbirak.Raw × Vbirak.Toks)) else match Vbirak.wordNum n 0 20 "brings" y.2 with
            | .error b => .error b
            | .ok b => match Vbirak.mustWord n "then" b.2 with
              | .error e => .error e
              | .ok l2 => match Vbirak.namesAt n (l2.length + 1) [] l2 with
                | .error e => .error e
                | .ok k => Vbirak.weathersAt n f' (ks ++ [(y.1.2, b.1, k.1)]) k.2) = Vbirak.weathersAt n (l.length + 1) [] l := hw
          dsimp only
          by_cases c : (rawNames ks).contains y.1.2 = true ∨ 4 ≤ (rawNames ks).length
          · rw [if_pos c]
            rw [if_pos (by rw [any_names]; rw [hnl] at c; exact c)] at hw'
            rw [← hw'] at k
            exact Fails.go k pH
          · rw [if_neg c]
            rw [if_neg (by rw [any_names]; rw [hnl] at c; exact c)] at hw'
            have hlt : ks.length < 4 := by
              rw [hnl] at c
              omega
            intro H6 b6 hR6
            have q1 : H6 a1 = some (.lst (vS (rawNames ks))) := b6.at p1 r1
            refine ⟨a1, _, _, rfl, rfl, q1, sz_lt (by unfold vS; rw [List.length_map, hnl]; omega), ?_⟩
            -- the heap behind it
            have hn1 : ∀ p, (vS (rawNames ks)).head? = some (.ref p) → ∀ C dx x, H6 p ≠ some (.ins C dx (pieceF x)) := fun p hp => by
              unfold vS at hp
              cases hk : rawNames ks with
              | nil =>
                rw [hk] at hp
                cases hp
              | cons u us =>
                rw [hk] at hp
                cases hp
            have H7R := hR6.updL (o := .lst (vS (rawNames ks) ++ [.str (strOf y.1.2)])) q1 hn1
            have t2 : upd H6 a1 (.lst (vS (rawNames ks) ++ [.str (strOf y.1.2)])) a2 = some (.lst (vI (ks.map fun x => x.2.1))) := by
              rw [upd_ne (Ne.symm d12)]
              exact b6.at p2 r2
            have t3 : upd H6 a1 (.lst (vS (rawNames ks) ++ [.str (strOf y.1.2)])) a3 = some (.lst (ds.map V.ref)) := by
              rw [upd_ne (Ne.symm d13)]
              exact b6.at p3 r3
            have td := dict_keep (H' := H6) (o := .lst (vS (rawNames ks) ++ [.str (strOf y.1.2)])) (dict_but pd hR5 b6) q1
            have tH : But r H (upd H6 a1 (.lst (vS (rawNames ks) ++ [.str (strOf y.1.2)]))) := (pH.trans b6).mut n1
            have t1 : upd H6 a1 (.lst (vS (rawNames ks) ++ [.str (strOf y.1.2)])) a1 = some (.lst (vS (rawNames ks) ++ [.str (strOf y.1.2)])) := upd_same
            revert H7R t1 t2 t3 td tH
            generalize upd H6 a1 (.lst (vS (rawNames ks) ++ [.str (strOf y.1.2)])) = H7
            intro H7R t2 t3 td tH t1
            -- brings.append(number_behind(reader, 'brings', 0, 20))
            refine ⟨_, rfl, Or.inl ⟨rfl, _, sq_of t2⟩, ?_⟩
            have gB := gw_of (s := "brings") (by decide)
            refine c_numb (lo := 0) (hi := 20) gB (ev_var rfl) (ev_is ev_c (congrArg V.str gB.eq.symm)) ev_c ev_c H7R ?_
            cases e8 : Vbirak.wordNum n 0 20 "brings" y.2 with
            | error b =>
              rw [e8] at hw'
              rw [← hw'] at k
              exact Fails.go k tH
            | ok bb =>
              rw [e8] at hw'
              have lt3 := (wordNum_lt e8).1
              intro H8 b8 hR8
              have u2 : H8 a2 = some (.lst (vI (ks.map fun x => x.2.1))) := b8.at t2 r2
              refine ⟨a2, _, _, rfl, rfl, u2, sz_lt (by rw [vI_len, List.length_map]; omega), ?_⟩
              have hn2 : ∀ p, (vI (ks.map fun x => x.2.1)).head? = some (.ref p) → ∀ C dx x, H8 p ≠ some (.ins C dx (pieceF x)) := fun p hp => by
                unfold vI at hp
                cases ks with
                | nil => cases hp
                | cons u us => cases hp
              have H9R := hR8.updL (o := .lst (vI (ks.map fun x => x.2.1) ++ [.int (bb.1 : Int)])) u2 hn2
              have v1 : upd H8 a2 (.lst (vI (ks.map fun x => x.2.1) ++ [.int (bb.1 : Int)])) a1 = some (.lst (vS (rawNames ks) ++ [.str (strOf y.1.2)])) := by
                rw [upd_ne d12]
                exact b8.at t1 r1
              have v3 : upd H8 a2 (.lst (vI (ks.map fun x => x.2.1) ++ [.int (bb.1 : Int)])) a3 = some (.lst (ds.map V.ref)) := by
                rw [upd_ne (Ne.symm d23)]
                exact b8.at t3 r3
              have vd := dict_keep (H' := H8) (o := .lst (vI (ks.map fun x => x.2.1) ++ [.int (bb.1 : Int)])) (dict_but td H7R b8) u2
              have vH : But r H (upd H8 a2 (.lst (vI (ks.map fun x => x.2.1) ++ [.int (bb.1 : Int)]))) := (tH.trans b8).mut n2'
              have v2 : upd H8 a2 (.lst (vI (ks.map fun x => x.2.1) ++ [.int (bb.1 : Int)])) a2 = some (.lst (vI (ks.map fun x => x.2.1) ++ [.int (bb.1 : Int)])) := upd_same
              revert H9R v1 v2 v3 vd vH
              generalize upd H8 a2 (.lst (vI (ks.map fun x => x.2.1) ++ [.int (bb.1 : Int)])) = H9
              intro H9R v1 v3 vd vH v2
              -- follows.append(read_follows(reader))
              refine ⟨_, rfl, Or.inl ⟨rfl, _, sq_of v3⟩, _, rfl, r, n, bb.2, rfl, H9R, ?_⟩
              unfold followsAt
              have hw2 : (match Vbirak.mustWord n "then" bb.2 with
                | .error e => (.error e : Except Vbirak.Bad (Vbirak.Raw × Vbirak.Toks))
                | .ok l2 => match Vbirak.namesAt n (l2.length + 1) [] l2 with
                  | .error e => .error e
                  | .ok k => Vbirak.weathersAt n f' (ks ++ [(y.1.2, bb.1, k.1)]) k.2) = Vbirak.weathersAt n (l.length + 1) [] l := hw'
              cases e10 : Vbirak.mustWord n "then" bb.2 with
              | error b =>
                rw [e10] at hw2
                rw [← hw2] at k
                exact Fails.go k vH
              | ok l2 =>
                rw [e10] at hw2
                have lt4 := must_lt e10
                dsimp only at hw2 ⊢
                have hl2 := rd_len H9R
                cases e11 : Vbirak.namesAt n (l2.length + 1) [] l2 with
                | error b =>
                  rw [e11] at hw2
                  rw [← hw2] at k
                  exact Fails.go k vH
                | ok kk =>
                  rw [e11] at hw2
                  have lt5 := names_lt (by omega) e11
                  have len5 := names_len (by omega) e11
                  intro d H10 b10 hR10 hdict
                  obtain ⟨hdr, hd9, hd10⟩ := nw_new hdict
                  have hdH : H d = none := vH.none hd9 hdr
                  have x3 : H10 a3 = some (.lst (ds.map V.ref)) := b10.at v3 r3
                  refine ⟨a3, _, _, rfl, rfl, x3, sz_lt (by rw [List.length_map, vd.1, List.length_map]; omega), ?_⟩
                  have hn3 : ∀ p, (ds.map V.ref).head? = some (.ref p) → ∀ C dx x, H10 p ≠ some (.ins C dx (pieceF x)) := fun p hp C dx x hx => by
                    cases ds with
                    | nil => cases hp
                    | cons q qs =>
                      have hq : q = p := by
                        injection hp with hp
                        injection hp
                      subst hq
                      have hlen := vd.1
                      obtain ⟨z, hz⟩ : ∃ z, (ks.map fun x => x.2.2)[0]? = some z := ⟨_, List.getElem?_eq_getElem (by rw [← hlen]; simp)⟩
                      have hdd := (dict_but vd H9R b10).2 0 q z rfl hz
                      have hdd' : H10 q = some (.dK (dk z)) := hdd
                      rw [hdd'] at hx
                      cases hx
                  have yd := dict_keep (H' := H10) (o := .lst (ds.map V.ref ++ [.ref d])) (dict_but vd H9R b10) x3
                  have ydd : DictAt (upd H10 a3 (.lst (ds.map V.ref ++ [.ref d]))) d kk.1 := by
                    show upd H10 a3 _ d = _
                    rw [upd_ne (fun z => by
                      rw [z, x3] at hd10
                      cases hd10)]
                    exact hd10
                  refine ⟨kk.2.length, by omega, f', ks ++ [(y.1.2, bb.1, kk.1)], kk.2, ds ++ [d], ⟨(vH.trans b10).mut n3', hR10.updL x3 hn3, ?_, ?_, ?_, ?_, ?_, ?_, ?_⟩, rfl, rfl, by omega, hw2⟩
                  · rw [upd_ne d13, b10.at v1 r1]
                    unfold vS rawNames
                    rw [List.map_append, List.map_append]
                    rfl
                  · rw [upd_ne d23, b10.at v2 r2]
                    unfold vI
                    rw [List.map_append, List.map_append]
                    rfl
                  · rw [upd_same, List.map_append]
                    rfl
                  · rw [List.map_append]
                    exact All2.snoc yd ydd
                  · intro b hb
                    rcases List.mem_append.mp hb with hb | hb
                    · exact S.nd b hb
                    · rw [List.mem_singleton.mp hb]
                      exact hdH
                  · rw [List.length_append]
                    simp only [List.length_singleton]
                    omega
                  · intro x hx
                    rcases List.mem_append.mp hx with hx | hx
                    · exact S.len x hx
                    · rw [List.mem_singleton.mp hx]
                      simp only [List.length_nil] at len5
                      show kk.1.length ≤ 2000
                      omega
    · -- all kinds are told
      have hy : Vbirak.wordAhead "weather" l' = false ∧ ks.isEmpty = false := by
        rw [Bool.or_eq_false_iff] at hc
        refine ⟨hc.2, ?_⟩
        cases z : ks.isEmpty with
        | false => rfl
        | true =>
          rw [z] at hc
          cases hc.1
      rw [if_pos hy] at hw
      rw [← hw] at k
      have S4 := S.ex e4
      dsimp only at k
      refine q_asgL (xs := []) (el_lst ea_nil (by decide)) fun s H5 hs e5 h5 => ?_
      have S5 := S4.ex e5
      have hnl : (vS (rawNames ks)).length = ks.length := by
        unfold vS rawNames
        rw [List.length_map, List.length_map]
      refine q_enum (xs := vS (rawNames ks)) (ev_var rfl) (sq_of S5.h1) (fun i σ' H' => ∃ (as : List Addr) (v5 v6 : Option V), σ' = [some (.ref r), some (.ref a1), some (.ref a2), some (.ref a3), some (.ref s), v5, v6] ∧ Bld (KindAt K) H4 s as ((ks.take i).map (solveOf (rawNames ks))) H' ∧ ∀ x ∈ ks.take i, ∀ z ∈ x.2.2, (rawNames ks).contains z.2 = true) ?_ ?_ ?_ ?_
      · intro H6 e6
        exact ⟨[], none, none, rfl, ⟨hs, e5.trans e6, e6 _ _ h5, All2.nil⟩, fun x hx => by cases hx⟩
      · rintro i σ' H' hi ⟨as, v5, v6, rfl, b, hall⟩
        exact sq_of (b.ex _ _ S4.h1)
      · rintro i x T' σ' H' hx ⟨as, v5, v6, rfl, b, hall⟩ hT
        obtain ⟨u, hu, rfl⟩ := vS_at hx
        have e6 : Ex H' (upd H' T' (.tup [.int (i : Int), .str (strOf u)])) := Ex.new hT
        obtain ⟨kd, hkd⟩ : ∃ kd, ks[i]? = some kd := by
          unfold rawNames at hu
          rw [List.getElem?_map] at hu
          cases z : ks[i]? with
          | none =>
            rw [z] at hu
            cases hu
          | some kd => exact ⟨kd, rfl⟩
        have hun : u = kd.1 := by
          unfold rawNames at hu
          rw [List.getElem?_map, hkd] at hu
          exact (Option.some.inj hu).symm
        have hi : i < ks.length := (List.getElem?_eq_some_iff.mp hkd).1
        have S6 : Ks K H r a1 a2 a3 n ks l' ds (upd H' T' (.tup [.int (i : Int), .str (strOf u)])) := S4.ex (b.ex.trans e6)
        have b6 := b.on (mono_kind K) e6
        obtain ⟨d, hdi, hdd⟩ := S6.hd.get (i := i) (x := kd.2.2) (by rw [List.getElem?_map, hkd]; rfl)
        have hdn : H d = none := S6.nd d (List.mem_of_getElem? hdi)
        refine ⟨T', _, rfl, SqT.of upd_same, rfl, _, _, rfl, _, _, rfl, rfl, ?_⟩
        revert S6 b6 hdd
        generalize upd H' T' (.tup [.int (i : Int), .str (strOf u)]) = H6
        intro S6 b6 hdd
        dsimp only [gName]
        -- kinds.append(Kind(name, brings[number], kind_numbers(follows[number], names)))
        refine ⟨_, rfl, Or.inl ⟨rfl, _, sq_of b6.it⟩, _, rfl, ?_⟩
        have eb : Ev (tOp (rIxL K) (tVar 2) (tVar 5)) [some (.ref r), some (.ref a1), some (.ref a2), some (.ref a3), some (.ref s), some (.int (i : Int)), some (.str (strOf u))] H6 (.int ((kd.2.1 : Nat) : Int)) := ev_int (ev_var rfl) (show IntsAt H6 a2 _ from S6.h2) (ev_var rfl) (by rw [List.getElem?_map, hkd]; rfl)
        refine eb H6 (Ex.refl _) _ fun H7 e7 => ?_
        have ed : Ev (tOp (rIxL K) (tVar 3) (tVar 5)) [some (.ref r), some (.ref a1), some (.ref a2), some (.ref a3), some (.ref s), some (.int (i : Int)), some (.str (strOf u))] H7 (.ref d) := ev_op (ev_var rfl) (ev_var rfl) (rv_ixL (sq_of (e7 _ _ S6.h3)) (atI_nat (ref_get hdi)))
        refine ed H7 (Ex.refl _) _ fun H8 e8 => ?_
        have b8 := b6.on (mono_kind K) (e7.trans e8)
        have S8 := S6.ex (e7.trans e8)
        refine ⟨_, rfl, d, a1, kd.2.2, rawNames ks, rfl, (e7.trans e8) _ _ hdd, S8.h1, S.len kd (List.mem_of_getElem? hkd), fun z hz => ?_, fun hgood => ?_⟩
        · -- a stray name
          have hst : Vbirak.stray ks = some z.1 := by
            rw [stray_eq]
            refine findSome_at (i := i) (x := kd) (fun x hx => ?_) hkd ?_
            · rw [Option.map_eq_none_iff]
              unfold strayOf
              rw [List.find?_eq_none]
              intro w hw
              rw [hall x hx w hw]
              decide
            · unfold strayOf
              rw [hz]
              rfl
          rw [hst] at k
          exact Fails.sub k S8.bH hdn
        · intro fl H9 e9 hfl
          show tNil _ _ _
          intro x dx hx hdx hne
          have hfl9 : IntsAt H9 fl (kd.2.2.map fun y => at1 (rawNames ks) y.2) := hfl.ex ex_nw
          refine ⟨x, dx, [.str (strOf u), .int (kd.2.1 : Int), .ref fl], rfl, rfl, upd_same, rfl, ?_⟩
          rw [upd_upd]
          have e10 : Ex H9 (upd (upd H9 dx (.own x)) x (.ins (He.ga K "Kind") dx ([("name" : Str), "brings", "follows"].zip [V.str (strOf u), V.int (kd.2.1 : Int), V.ref fl]))) := Ex.mut (Ex.mut (Ex.refl _) hdx) hx
          have hxn : ∀ q o, H9 q = some o → q ≠ x := fun q o hq => ne_of_none hq hx
          refine ⟨s, as.map V.ref, .ref x, rfl, rfl, ?_, ?_, as ++ [x], _, _, rfl, ?_, ?_⟩
          · exact e10 _ _ (e9 _ _ b8.it)
          · rw [List.length_map, b8.len, List.length_map, List.length_take]
            have := S.le
            exact sz_lt (by omega)
          · have app := b8.app (p := x) (x := solveOf (rawNames ks) kd) (mono_kind K) (e9.trans e10) ?_
            · rw [List.take_add_one, hkd, List.map_append]
              exact app
            · have hx8 : H8 x = none := fresh_back e9 hx
              refine ⟨dx, fl, ?_, ?_⟩
              · rw [nw_at hx8, upd_same, hun]
                rfl
              · exact (nw_mono e10) _ _ hfl
          · intro w hw
            rw [List.take_add_one, hkd] at hw
            rcases List.mem_append.mp hw with hw | hw
            · exact hall w hw
            · rw [List.mem_singleton.mp hw]
              exact hgood
      · rintro σ' H' ⟨as, v5, v6, rfl, b, hall⟩
        rw [hnl, List.take_length] at b hall
        rw [stray_none hall] at k
        dsimp only at k
        rw [solved_eq ks hall] at k
        refine ⟨_, rfl, k s H' (S4.bH.trans (But.of b.ex)) (S4.hR.ex b.ex) ?_⟩
        refine ListAt.ex (mono_kind K) (b.done (mono_kind K)) fun q o hq => ?_
        obtain ⟨q1, q2⟩ := nw_old hq
        have hqr : q ≠ r := fun z => rd_some S4.hR (by rw [← z]; exact q1)
        rw [nw_at (by rw [del_ne hqr]; exact S4.bH.none q1 hqr), del_ne hqr]
        exact q2
end
end Sl
namespace Sm
open Vbirak
def readAt (n : Nat) (l0 : Toks) : Except Bad (Lake × Toks) := match wordNum n 0 40 "holds" l0 with
  | .error b => .error b
  | .ok h => match wordNum n 1 24 "seasons" h.2 with
    | .error b => .error b
    | .ok s => match wordNum n 0 10 "gate" s.2 with
      | .error b => .error b
      | .ok g => match wordNum n 0 99 "rest" g.2 with
        | .error b => .error b
        | .ok r => match semi n r.2 with
          | .error b => .error b
          | .ok l => match kindsAt n l with
            | .error b => .error b
            | .ok k => match tabsAt n g.1 (k.2.length + 1) [] k.2 with
              | .error b => .error b
              | .ok y => .ok (⟨h.1, s.1, g.1, r.1, k.1, y.1⟩, y.2)
theorem read_eq (t : Bytes) : Vbirak.read t = match readAt t.length (tokens (t.length + 1) 0 t) with
    | .error b => .error b
    | .ok y => if y.2 = [] then .ok y.1 else .error ⟨1, (hd t.length y.2).1⟩ := by
  unfold Vbirak.read readAt
  simp only [Bind.bind, Except.bind, HOLDS, SEASONS, GATE]
  cases wordNum t.length 0 40 "holds" (tokens (t.length + 1) 0 t) with
  | error b => rfl
  | ok h =>
    dsimp only
    cases wordNum t.length 1 24 "seasons" h.2 with
    | error b => rfl
    | ok s =>
      dsimp only
      cases wordNum t.length 0 10 "gate" s.2 with
      | error b => rfl
      | ok g =>
        dsimp only
        cases wordNum t.length 0 99 "rest" g.2 with
        | error b => rfl
        | ok r =>
          dsimp only
          cases semi t.length r.2 with
          | error b => rfl
          | ok l =>
            dsimp only
            unfold kindsAt
            cases weathersAt t.length (l.length + 1) [] l with
            | error b => rfl
            | ok w =>
              dsimp only
              cases stray w.1 with
              | some i => rfl
              | none =>
                dsimp only
                rw [yields_tabs (Nat.lt_succ_self _)]
                cases tabsAt t.length g.1 (w.2.length + 1) [] w.2 with
                | error b => rfl
                | ok y =>
                  dsimp only
                  by_cases c : y.2 = []
                  · rw [if_pos c, if_pos c]
                    rfl
                  · rw [if_neg c, if_neg c]
/-! ### what is read is in order -/
theorem tabs_fit {n gate : Nat} : ∀ {f : Nat} {m : List (List Nat)} {l : Toks} {y : List (List Nat) × Toks}, l.length < f → tabsAt n gate f m l = .ok y → m.length ≤ 4 → (∀ x ∈ m, x.length = gate + 1 ∧ ∀ k ∈ x, k ≤ 999) →
    1 ≤ y.1.length ∧ y.1.length ≤ 4 ∧ ∀ x ∈ y.1, x.length = gate + 1 ∧ ∀ k ∈ x, k ≤ 999
  | 0, m, l, y, hf, h, _, _ => absurd hf (Nat.not_lt_zero _)
  | f + 1, m, l, y, hf, h, hm, ha => by
    unfold tabsAt at h
    split at h
    · rename_i c
      cases h
      refine ⟨?_, hm, ha⟩
      cases m with
      | nil => cases c.2
      | cons a r => simp
    · cases e : mustWord n "yields" l with
      | error b =>
        rw [e] at h
        cases h
      | ok l1 =>
        rw [e] at h
        dsimp only at h
        have h1 := must_lt e
        split at h
        · cases h
        · rename_i c
          cases e2 : numsAt n (gate + 1) [] l1 with
          | error b =>
            rw [e2] at h
            cases h
          | ok z =>
            rw [e2] at h
            obtain ⟨z1, z2, z3⟩ := nums_lt e2
            have c' : ¬ 4 ≤ m.length := c
            refine tabs_fit (by omega) h (by rw [List.length_append]; simp only [List.length_singleton]; omega) fun x hx => ?_
            rcases List.mem_append.mp hx with hx | hx
            · exact ha x hx
            · rw [List.mem_singleton.mp hx]
              exact ⟨by simpa using z2, z3 fun k hk => by cases hk⟩
def okL (l : Toks) : Prop := ∀ x ∈ l, okTok x.2
theorem okL_drop {l : Toks} {k : Nat} (h : okL l) : okL (l.drop k) := fun x hx => h x (List.mem_of_mem_drop hx)
theorem must_ok {n : Nat} {s : String} {l l1 : Toks} (h : mustWord n s l = .ok l1) (o : okL l) : okL l1 := by
  rw [must_hd] at h
  split at h
  · cases h
    exact okL_drop o
  · cases h
theorem semi_ok {n : Nat} {l l1 : Toks} (h : semi n l = .ok l1) (o : okL l) : okL l1 := by
  rw [semi_hd] at h
  split at h
  · cases h
    exact okL_drop o
  · cases h
theorem num_ok {n lo hi : Nat} {l : Toks} {y : Nat × Toks} (h : numAt n lo hi l = .ok y) (o : okL l) : okL y.2 := by
  rw [num_hd] at h
  split at h
  · split at h
    · cases h
      exact okL_drop o
    · cases h
  · cases h
theorem hd_mem {n : Nat} {l : Toks} {w : Bytes} (h : (hd n l).2 = .word w) (o : okL l) : okTok (.word w) := by
  cases l with
  | nil => cases h
  | cons x r =>
    have := o x List.mem_cons_self
    have e : x.2 = .word w := h
    rw [e] at this
    exact this
theorem name_ok {n : Nat} {l : Toks} {y : (Nat × Bytes) × Toks} (h : nameAt n l = .ok y) (o : okL l) : okL y.2 ∧ okTok (.word y.1.2) := by
  have w := (name_lt h).2.2
  refine ⟨?_, hd_mem w o⟩
  rw [name_hd] at h
  split at h
  · split at h
    · cases h
    · cases h
      exact okL_drop o
  · cases h
theorem wordNum_ok {n lo hi : Nat} {s : String} {l : Toks} {y : Nat × Toks} (h : wordNum n lo hi s l = .ok y) (o : okL l) : okL y.2 := by
  rw [wordNum_eq] at h
  cases e : mustWord n s l with
  | error b =>
    rw [e] at h
    cases h
  | ok w =>
    rw [e] at h
    exact num_ok h (must_ok e o)
/-- none twice -/
def uniq (m : List (Nat × Bytes)) : Prop := (m.map fun x => x.2).Nodup
theorem any_mem (m : List (Nat × Bytes)) (u : Bytes) : (m.any fun x => x.2 == u) = (m.map fun x => x.2).contains u := by
  induction m with
  | nil => rfl
  | cons a r ih =>
    rw [List.any_cons, List.map_cons, List.contains_cons, ih]
    congr 1
    by_cases h : a.2 = u
    · rw [h]
    · have h1 : (a.2 == u) = false := by simpa using h
      have h2 : (u == a.2) = false := by
        rw [beq_eq_false_iff_ne]
        exact fun z => h z.symm
      rw [h1, h2]
theorem names_fit {n : Nat} : ∀ {f : Nat} {m : List (Nat × Bytes)} {l : Toks} {y : List (Nat × Bytes) × Toks}, l.length < f → namesAt n f m l = .ok y → okL l → uniq m → y.1 ≠ [] ∧ uniq y.1 ∧ okL y.2
  | 0, m, l, y, hf, h, _, _ => absurd hf (Nat.not_lt_zero _)
  | f + 1, m, l, y, hf, h, o, hu => by
    rw [namesAt_eq] at h
    cases e : nameAt n l with
    | error b =>
      rw [e] at h
      cases h
    | ok z =>
      rw [e] at h
      dsimp only at h
      have h1 := (name_lt e).1
      have o2 := (name_ok e o).1
      split at h
      · cases h
      · rename_i c
        have hu2 : uniq (m ++ [z.1]) := by
          unfold uniq
          rw [List.map_append, List.nodup_append]
          refine ⟨hu, by simp, fun a ha b hb => ?_⟩
          have hb' : b = z.1.2 := by simpa using hb
          intro e2
          rw [any_mem] at c
          exact c (List.contains_iff_mem.mpr (by rw [← hb', ← e2]; exact ha))
        split at h
        · cases h
          exact ⟨by simp, hu2, okL_drop o2⟩
        · exact names_fit (by omega) h o2 hu2
theorem nodup_le {α : Type} [DecidableEq α] : ∀ {l m : List α}, l.Nodup → (∀ x ∈ l, x ∈ m) → l.length ≤ m.length
  | [], m, _, _ => Nat.zero_le _
  | a :: r, m, h, hs => by
    obtain ⟨h1, h2⟩ := List.nodup_cons.mp h
    have ha : a ∈ m := hs a List.mem_cons_self
    have z := nodup_le (l := r) (m := m.erase a) h2 fun x hx => (List.mem_erase_of_ne (fun e => h1 (by rw [← e]; exact hx))).mpr (hs x (List.mem_cons_of_mem _ hx))
    rw [List.length_erase_of_mem ha] at z
    have hp := List.length_pos_of_mem ha
    simp only [List.length_cons]
    omega
structure RawFit (m : Raw) : Prop where
  le : m.length ≤ 4
  each : ∀ x ∈ m, okTok (.word x.1) ∧ x.2.1 ≤ 20 ∧ x.2.2 ≠ [] ∧ uniq x.2.2
theorem weathers_fit {n : Nat} : ∀ {f : Nat} {m : Raw} {l : Toks} {y : Raw × Toks}, l.length < f → weathersAt n f m l = .ok y → okL l → RawFit m → y.1 ≠ [] ∧ RawFit y.1 ∧ okL y.2
  | 0, m, l, y, hf, h, _, _ => absurd hf (Nat.not_lt_zero _)
  | f + 1, m, l, y, hf, h, o, R => by
    rw [weathersAt_eq] at h
    split at h
    · rename_i c
      cases h
      refine ⟨fun z => ?_, R, o⟩
      have z' : m = [] := z
      rw [z'] at c
      cases c.2
    · cases e1 : mustWord n "weather" l with
      | error b =>
        rw [e1] at h
        cases h
      | ok l1 =>
        rw [e1] at h
        dsimp only at h
        cases e2 : nameAt n l1 with
        | error b =>
          rw [e2] at h
          cases h
        | ok z =>
          rw [e2] at h
          dsimp only at h
          split at h
          · cases h
          · rename_i c
            cases e3 : wordNum n 0 20 "brings" z.2 with
            | error b =>
              rw [e3] at h
              cases h
            | ok b =>
              rw [e3] at h
              dsimp only at h
              cases e4 : mustWord n "then" b.2 with
              | error e =>
                rw [e4] at h
                cases h
              | ok l2 =>
                rw [e4] at h
                dsimp only at h
                cases e5 : namesAt n (l2.length + 1) [] l2 with
                | error e =>
                  rw [e5] at h
                  cases h
                | ok k =>
                  rw [e5] at h
                  dsimp only at h
                  have o1 := must_ok e1 o
                  have o2 := name_ok e2 o1
                  have o3 := wordNum_ok e3 o2.1
                  have o4 := must_ok e4 o3
                  have o5 := names_fit (Nat.lt_succ_self _) e5 o4 (by unfold uniq; simp)
                  have a1 := must_lt e1
                  have a2 := (name_lt e2).1
                  have a3 := wordNum_lt e3
                  have a4 := must_lt e4
                  have a5 := names_lt (Nat.lt_succ_self _) e5
                  have c' : ¬ 4 ≤ m.length := fun z => c (.inr z)
                  refine weathers_fit (by omega) h o5.2.2 ⟨by rw [List.length_append]; simp only [List.length_singleton]; omega, fun x hx => ?_⟩
                  rcases List.mem_append.mp hx with hx | hx
                  · exact R.each x hx
                  · rw [List.mem_singleton.mp hx]
                    exact ⟨o2.2, a3.2.2, o5.1, o5.2.1⟩
theorem read_fit {t : Bytes} {l : Lake} (h : Vbirak.read t = .ok l) : Fit l := by
  rw [read_eq] at h
  cases e : readAt t.length (tokens (t.length + 1) 0 t) with
  | error b =>
    rw [e] at h
    cases h
  | ok y =>
    rw [e] at h
    dsimp only at h
    split at h
    case isFalse => cases h
    cases h
    have o0 : okL (tokens (t.length + 1) 0 t) := by
      rw [toks_pcs]
      have : ∀ p : Pcs, (∀ x ∈ p, okTok x.2) → okL (stopW p) := by
        intro p
        induction p with
        | nil =>
          intro _ x hx
          cases hx
        | cons a r ih =>
          intro hp x hx
          obtain ⟨i, tk⟩ := a
          have hr := ih fun x hx => hp x (List.mem_cons_of_mem _ hx)
          have ha := hp (i, tk) List.mem_cons_self
          cases tk with
          | wrong =>
            rw [stop_wrong] at hx
            rw [List.mem_singleton.mp hx]
            trivial
          | word w =>
            rw [stop_word] at hx
            rcases List.mem_cons.mp hx with e | hx
            · rw [e]
              exact ha
            · exact hr x hx
          | num w =>
            rw [stop_num] at hx
            rcases List.mem_cons.mp hx with e | hx
            · rw [e]
              exact ha
            · exact hr x hx
          | semi =>
            rw [stop_semi] at hx
            rcases List.mem_cons.mp hx with e | hx
            · rw [e]
              exact ha
            · exact hr x hx
      exact this _ (pcs_ok t)
    revert e
    generalize tokens (t.length + 1) 0 t = l0 at o0
    intro e
    unfold readAt at e
    cases e1 : wordNum t.length 0 40 "holds" l0 with
    | error b =>
      rw [e1] at e
      cases e
    | ok h1 =>
      rw [e1] at e
      dsimp only at e
      cases e2 : wordNum t.length 1 24 "seasons" h1.2 with
      | error b =>
        rw [e2] at e
        cases e
      | ok h2 =>
        rw [e2] at e
        dsimp only at e
        cases e3 : wordNum t.length 0 10 "gate" h2.2 with
        | error b =>
          rw [e3] at e
          cases e
        | ok h3 =>
          rw [e3] at e
          dsimp only at e
          cases e4 : wordNum t.length 0 99 "rest" h3.2 with
          | error b =>
            rw [e4] at e
            cases e
          | ok h4 =>
            rw [e4] at e
            dsimp only at e
            cases e5 : semi t.length h4.2 with
            | error b =>
              rw [e5] at e
              cases e
            | ok l5 =>
              rw [e5] at e
              dsimp only at e
              unfold kindsAt at e
              cases e6 : weathersAt t.length (l5.length + 1) [] l5 with
              | error b =>
                rw [e6] at e
                cases e
              | ok ws =>
                rw [e6] at e
                dsimp only at e
                cases e7 : stray ws.1 with
                | some i =>
                  rw [e7] at e
                  cases e
                | none =>
                  rw [e7] at e
                  dsimp only at e
                  cases e8 : tabsAt t.length h3.1 (ws.2.length + 1) [] ws.2 with
                  | error b =>
                    rw [e8] at e
                    cases e
                  | ok tb =>
                    rw [e8] at e
                    cases e
                    have o5 := semi_ok e5 (wordNum_ok e4 (wordNum_ok e3 (wordNum_ok e2 (wordNum_ok e1 o0))))
                    obtain ⟨w1, w2, w3⟩ := weathers_fit (Nat.lt_succ_self _) e6 o5 ⟨Nat.zero_le _, fun x hx => by cases hx⟩
                    obtain ⟨t1, t2, t3⟩ := tabs_fit (Nat.lt_succ_self _) e8 (Nat.zero_le _) fun x hx => by cases hx
                    have all : ∀ x ∈ ws.1, ∀ y ∈ x.2.2, (rawNames ws.1).contains y.2 = true := by
                      intro x hx y hy
                      rw [stray_eq, List.findSome?_eq_none_iff] at e7
                      have z := e7 x hx
                      rw [Option.map_eq_none_iff] at z
                      unfold strayOf at z
                      rw [List.find?_eq_none] at z
                      have z2 := z y hy
                      simpa using z2
                    have hsol := solved_eq ws.1 all
                    have hlen : (rawNames ws.1).length = ws.1.length := List.length_map ..
                    have mem : ∀ x ∈ solved ws.1, ∃ y ∈ ws.1, x = solveOf (rawNames ws.1) y := fun x hx => by
                      rw [hsol] at hx
                      obtain ⟨y, hy, rfl⟩ := List.mem_map.mp hx
                      exact ⟨y, hy, rfl⟩
                    have wl : (solved ws.1).length = ws.1.length := by
                      rw [hsol, List.length_map]
                    refine ⟨(wordNum_lt e1).2.2, (wordNum_lt e2).2.1, (wordNum_lt e2).2.2, (wordNum_lt e3).2.2, (wordNum_lt e4).2.2, ?_, ?_, ?_, ?_, ?_, ?_, ?_, t1, t2, fun y hy => (t3 y hy).1, fun y hy => (t3 y hy).2⟩
                    · rw [wl]
                      exact List.length_pos_iff.mpr w1
                    · rw [wl]
                      exact w2.le
                    · intro x hx
                      obtain ⟨y, hy, rfl⟩ := mem x hx
                      exact ⟨(w2.each y hy).1.2.1, (w2.each y hy).1.2.2⟩
                    · intro x hx
                      obtain ⟨y, hy, rfl⟩ := mem x hx
                      exact (w2.each y hy).2.1
                    · intro x hx z
                      obtain ⟨y, hy, rfl⟩ := mem x hx
                      exact (w2.each y hy).2.2.1 (List.map_eq_nil_iff.mp z)
                    · intro x hx
                      obtain ⟨y, hy, rfl⟩ := mem x hx
                      show (y.2.2.map _).length ≤ 4
                      rw [List.length_map]
                      have u := (w2.each y hy).2.2.2
                      have z := nodup_le u fun x hx => by
                        obtain ⟨q, hq, rfl⟩ := List.mem_map.mp hx
                        exact List.contains_iff_mem.mp (all y hy q hq)
                      rw [List.length_map, hlen] at z
                      have := w2.le
                      omega
                    · intro x hx k hk
                      obtain ⟨y, hy, rfl⟩ := mem x hx
                      obtain ⟨q, hq, rfl⟩ := List.mem_map.mp hk
                      have z := at1_lt (all y hy q hq)
                      rw [hlen] at z
                      show _ < (solved ws.1).length
                      rw [wl]
                      exact z
end Sm
namespace Sl
open PySem PySem.Spec PyProof.Rows L2
open Evl
open Vbirak (Lake Weather)
open Sm
theorem mono_intsR : MonoR IntsAt := fun _ _ _ _ e h => h.ex e
theorem head_ints {ns : List Nat} {H : Hp} : ∀ p, (vI ns).head? = some (.ref p) → ∀ C dx x, H p ≠ some (.ins C dx (pieceF x)) := fun p hp => by
  unfold vI at hp
  cases ns with
  | nil => cases hp
  | cons u us => cases hp
section
variable {P : Program} {w : World} {K : PySem.W.Frag} {mg : Str → Option Value} {base : Heap}
def spReadTable (K : PySem.W.Frag) : Sp := fun vs H Q E => ∃ (r : Addr) (n gate : Nat) (l : Vbirak.Toks), vs = [.ref r, .int (gate : Int)] ∧ RdAt K H r n l ∧ gate ≤ 10 ∧ Made K n r H Q E IntsAt (Vbirak.numsAt n (gate + 1) [] l)
theorem ok_read_table (T : Tx K mg) (F_Reader_take_number : Fn P w K mg base 4 (He.ma K (He.ga K "Reader") "take_number") ["self", "least", "most"] (spTakeNumber K)) (F_Reader_take_word : Fn P w K mg base 4 (He.ma K (He.ga K "Reader") "take_word") ["self", "word"] (spTakeWord K)) : Fn P w K mg base 5 (He.ga K "read_table") ["reader", "gate"] (spReadTable K) := by
  obtain ⟨_, g_MOST_YIELDED, r_MOST_YIELDED⟩ := T.cst_MOST_YIELDED
  have sc : FnScope ["reader", "gate", "table"] ["reader", "gate"] (defScope s_read_table) := ⟨rfl, rfl, rfl, by decide +kernel, rfl, by decide +kernel, by decide +kernel⟩
  refine fn_mk (k := 4) T.fun_read_table sc (fun _ _ _ _ _ _ us hl => match us, hl with | [_, _], _ => rfl) (fun vs H Q E h => ?len) (fun cdv A outer s H vs Q E hr h => ⟨_, (pss_cons (ps_set (i := 2) sc.nd rfl (Or.inl rfl) (pe_lst pa_nil))
      (pss_cons (ps_while (passes_of rfl) (pt_cmpR op_le (pe_callB call_len_seq (by rfl) T.free_len PySem.boot_len (pa_c (pv 2) pa_nil)) (pv 1) (nomark _)) (pss_one (ps_expr (pe_bm PySem.F.plainAttrs_list PySem.F.slot_list_append PySem.F.type_list_append mt_append (pv 2) (pa_c (pe_m F_Reader_take_number hr (by decide) (pv 0) T.cls_Reader T.meth_Reader_take_number (passes_call (takes_of rfl rfl rfl rfl) (fun _ _ _ _ h => h)) (pa_c pe_int (pa_c (pe_glob rfl g_MOST_YIELDED r_MOST_YIELDED) pa_nil))) pa_nil)))))
      (pss_cons (ps_expr (pe_m F_Reader_take_word hr (by decide) (pv 0) T.cls_Reader T.meth_Reader_take_word (passes_call (takes_of rfl rfl rfl rfl) (fun _ _ _ _ h => h)) (pa_c pe_str pa_nil)))
      (pss_one (ps_ret (pv 2)))))), ?rd⟩)
  case len =>
    obtain ⟨r, n, gate, l, rfl, _⟩ := h
    rfl
  case rd =>
    obtain ⟨r, n, gate, l, rfl, hR, hg, k⟩ := h
    refine q_asgL (xs := []) (el_lst ea_nil (by decide)) fun a H1 n1 e1 h1 => ?_
    have har : a ≠ r := fun z => rd_some hR (by rw [← z]; exact n1)
    refine q_while (fun m σ' H' => ∃ (ms : List Nat) (l' : Vbirak.Toks), But r H H' ∧ RdAt K H' r n l' ∧ H' a = some (.lst (vI ms)) ∧ σ' = [some (.ref r), some (.int (gate : Int)), some (.ref a)] ∧ m = gate + 1 - ms.length ∧ ms.length ≤ gate + 1 ∧ Vbirak.numsAt n (gate + 1 - ms.length) ms l' = Vbirak.numsAt n (gate + 1) [] l) (gate + 1) ⟨[], l, But.of e1, hR.ex e1, h1, rfl, rfl, Nat.zero_le _, rfl⟩ ?_
    rintro m σ' H' ⟨ms, l', bH, hR', ha, rfl, rfl, hl, hw⟩
    refine ⟨decide (ms.length ≤ gate), et_is (et_test (ev_op (ev_lenL (ev_var rfl) (sq_of ha)) (ev_var rfl) rv_I0)) (by rw [vI_len]; exact decide_eq_decide.mpr (by omega)), fun hc H2 e2 => ⟨_, fun σ2 H2 z => z, ?_⟩, fun hc H2 e2 => ?_⟩
    · have hlt : ms.length ≤ gate := of_decide_eq_true hc
      have ef : gate + 1 - ms.length = (gate - ms.length) + 1 := by omega
      rw [ef, numsAt_succ] at hw
      refine ⟨_, rfl, Or.inl ⟨rfl, _, sq_of (e2 _ _ ha)⟩, ?_⟩
      refine m_num (lo := 0) (hi := 999) (ev_var rfl) ev_c ev_c (hR'.ex e2) ?_
      cases e : Vbirak.numAt n 0 999 l' with
      | error b =>
        rw [e] at hw
        rw [← hw] at k
        exact Fails.go k (bH.trans (But.of e2))
      | ok y =>
        rw [e] at hw
        intro H3 b3 hR3
        have ha3 : H3 a = some (.lst (vI ms)) := b3.at (e2 _ _ ha) har
        refine ⟨a, vI ms, .int ((y.1 : Nat) : Int), rfl, rfl, ha3, sz_lt (by rw [vI_len]; omega), gate + 1 - (ms.length + 1), by omega, ms ++ [y.1], y.2, ((bH.trans (But.of e2)).trans b3).mut n1, hR3.updL ha3 head_ints, ?_, rfl, ?_, ?_, ?_⟩
        · rw [upd_same]
          unfold vI
          rw [List.map_append]
          rfl
        · rw [List.length_append]
          rfl
        · rw [List.length_append]
          simp only [List.length_singleton]
          omega
        · rw [List.length_append]
          simp only [List.length_singleton]
          have e4 : gate + 1 - (ms.length + 1) = gate - ms.length := by omega
          rw [e4]
          exact hw
    · have hge : ms.length = gate + 1 := by
        have := of_decide_eq_false hc
        omega
      rw [hge, Nat.sub_self, numsAt_zero] at hw
      refine m_semi (ev_var rfl) ev_c (hR'.ex e2) ?_
      cases e : Vbirak.semi n l' with
      | error b =>
        rw [e] at hw
        rw [← hw] at k
        exact Fails.go k (bH.trans (But.of e2))
      | ok l2 =>
        rw [e] at hw
        rw [← hw] at k
        intro H3 b3 hR3
        refine ⟨_, rfl, k a H3 ((bH.trans (But.of e2)).trans b3) hR3 ?_⟩
        show nw _ _ a = _
        rw [nw_but n1 har]
        exact b3.at (e2 _ _ ha) har
theorem ints_keep {H : Hp} {a : Addr} {o : HO} {as : List Addr} {ms : List (List Nat)} (h : All2 (IntsAt H) as ms) (hn : ∀ x ∈ as, x ≠ a) : All2 (IntsAt (upd H a o)) as ms := ⟨h.1, fun i x m hx hm => by
  show upd H a o x = _
  rw [upd_ne (hn x (List.mem_of_getElem? hx))]
  exact h.2 i x m hx hm⟩
theorem ints_but {H H' : Hp} {r n : Addr} {k : Nat} {l : Vbirak.Toks} {as : List Addr} {ms : List (List Nat)} (h : All2 (IntsAt H) as ms) (hR : RdAt K H r n l) (e : But r H H') : All2 (IntsAt H') as ms := h.imp fun d m hd => e.at hd (fun z => by
  obtain ⟨dx, pl, ps, k, a1, _⟩ := hR
  have e2 : H d = some (.lst (vI m)) := hd
  rw [z, a1] at e2
  cases e2)
theorem tabsAt_eq (n gate f : Nat) (m : List (List Nat)) (l : Vbirak.Toks) : tabsAt n gate (f + 1) m l = if Vbirak.wordAhead "yields" l = false ∧ m.isEmpty = false then .ok (m, l) else match Vbirak.mustWord n "yields" l with
    | .error b => .error b
    | .ok l1 => if Vbirak.TABLES ≤ m.length then .error ⟨3, (hd n l).1⟩ else match Vbirak.numsAt n (gate + 1) [] l1 with
      | .error b => .error b
      | .ok r => tabsAt n gate f (m ++ [r.1]) r.2 := rfl
def spReadTables (K : PySem.W.Frag) : Sp := fun vs H Q E => ∃ (r : Addr) (n gate : Nat) (l : Vbirak.Toks), vs = [.ref r, .int (gate : Int)] ∧ RdAt K H r n l ∧ gate ≤ 10 ∧ Made K n r H Q E (ListAt IntsAt) (tabsAt n gate (l.length + 1) [] l)
theorem ok_read_tables (T : Tx K mg) (F_Reader_sees : Fn P w K mg base 2 (He.ma K (He.ga K "Reader") "sees") ["self", "word"] (spSees K)) (F_Reader_here : Fn P w K mg base 2 (He.ma K (He.ga K "Reader") "here") ["self"] (spHere K)) (F_Reader_take_word : Fn P w K mg base 4 (He.ma K (He.ga K "Reader") "take_word") ["self", "word"] (spTakeWord K)) (F_WrongText_init : Fn P w K mg base 1 (He.ma K (He.ga K "WrongText") "__init__") ["self", "kind", "place"] (spWrong K)) (F_read_table : Fn P w K mg base 5 (He.ga K "read_table") ["reader", "gate"] (spReadTable K)) : Fn P w K mg base 6 (He.ga K "read_tables") ["reader", "gate"] (spReadTables K) := by
  obtain ⟨_, g_MOST_TABLES, r_MOST_TABLES⟩ := T.cst_MOST_TABLES
  obtain ⟨_, g_TOO_OFTEN, r_TOO_OFTEN⟩ := T.cst_TOO_OFTEN
  have sc : FnScope ["reader", "gate", "tables", "place"] ["reader", "gate"] (defScope s_read_tables) := ⟨rfl, rfl, rfl, by decide +kernel, rfl, by decide +kernel, by decide +kernel⟩
  refine fn_mk (k := 5) T.fun_read_tables sc (fun _ _ _ _ _ _ us hl => match us, hl with | [_, _], _ => rfl) (fun vs H Q E h => ?len) (fun cdv A outer s H vs Q E hr h => ⟨_, (pss_cons (ps_set (i := 2) sc.nd rfl (Or.inl rfl) (pe_lst pa_nil))
      (pss_cons (ps_while (passes_of rfl) (PW.pt (pw_or (pt_not (pt_truth (pv 2) (by intro _; rfl))) (pw_or1 (pt_val (pe_m F_Reader_sees hr (by decide) (pv 0) T.cls_Reader T.meth_Reader_sees (passes_call (takes_of rfl rfl rfl rfl) (fun _ _ _ _ h => h)) (pa_c pe_str pa_nil)))))) (pss_cons (ps_set (i := 3) sc.nd rfl (Or.inl rfl) (pe_m0 F_Reader_here hr (by decide) (pv 0) T.cls_Reader T.meth_Reader_here (passes_call (takes_of rfl rfl rfl rfl) (fun _ _ _ _ h => h))))
      (pss_cons (ps_expr (pe_m F_Reader_take_word hr (by decide) (pv 0) T.cls_Reader T.meth_Reader_take_word (passes_call (takes_of rfl rfl rfl rfl) (fun _ _ _ _ h => h)) (pa_c pe_str pa_nil)))
      (pss_cons (ps_if (pt_cmpR op_eq (pe_callB call_len_seq (by rfl) T.free_len PySem.boot_len (pa_c (pv 2) pa_nil)) (pe_glob rfl g_MOST_TABLES r_MOST_TABLES) (nomark _)) (pss_one (ps_raise rfl (takes_of rfl rfl rfl rfl) (pmk_x T.oxc T.ini_WrongText T.ity_WrongText F_WrongText_init hr (by decide) passL rfl T.glo_WrongText (pa_c (pe_glob rfl g_TOO_OFTEN r_TOO_OFTEN) (pa_c (pv 3) pa_nil))))) pss_nil)
      (pss_one (ps_expr (pe_bm PySem.F.plainAttrs_list PySem.F.slot_list_append PySem.F.type_list_append mt_append (pv 2) (pa_c (pe_f F_read_table hr (by decide) T.glo_read_table (passes_call (takes_of rfl rfl rfl rfl) (fun _ _ _ _ h => h)) (pa_c (pv 0) (pa_c (pv 1) pa_nil))) pa_nil))))))))
      (pss_one (ps_ret (pv 2))))), ?rd⟩)
  case len =>
    obtain ⟨r, n, gate, l, rfl, _⟩ := h
    rfl
  case rd =>
    obtain ⟨r, n, gate, l, rfl, hR, hg, k⟩ := h
    refine q_asgL (xs := []) (el_lst ea_nil (by decide)) fun a H1 n1 e1 h1 => ?_
    have har : a ≠ r := fun z => rd_some hR (by rw [← z]; exact n1)
    have gY := gw_of (s := "yields") (by decide)
    refine q_while (fun m σ' H' => ∃ (f : Nat) (ms : List (List Nat)) (l' : Vbirak.Toks) (as : List Addr) (v3 : Option V), But r H H' ∧ RdAt K H' r n l' ∧ H' a = some (.lst (as.map V.ref)) ∧ All2 (IntsAt H') as ms ∧ (∀ x ∈ as, H x = none ∧ x ≠ a ∧ x ≠ r) ∧ σ' = [some (.ref r), some (.int (gate : Int)), some (.ref a), v3] ∧ m = l'.length ∧ l'.length < f ∧ ms.length ≤ 4 ∧ tabsAt n gate f ms l' = tabsAt n gate (l.length + 1) [] l) l.length
      ⟨l.length + 1, [], l, [], none, But.of e1, hR.ex e1, h1, All2.nil, fun x hx => (by cases hx), rfl, rfl, by omega, Nat.zero_le _, rfl⟩ ?_
    rintro m σ' H' ⟨f, ms, l', as, v3, bH, hR', ha, hA, hn, rfl, rfl, hf, hle, hw⟩
    obtain ⟨f', rfl⟩ : ∃ f', f = f' + 1 := ⟨f - 1, by omega⟩
    rw [tabsAt_eq] at hw
    have hsee : seesB n l' "yields" = Vbirak.wordAhead "yields" l' := by
      rw [ahead_hd "yields" n]
      have z := sees_word (n := n) (l := l') gY.ne
      rw [gY.eq] at z
      exact z
    refine ⟨!(!ms.isEmpty) || Vbirak.wordAhead "yields" l', et_or (et_not ?_) fun _ => et_B (ev_is (ev_sees (ev_var rfl) ev_c hR') (by rw [hsee])), fun hc H2 e2 => ⟨_, fun σ2 H2 z => z, ?_⟩, fun hc H2 e2 => ?_⟩
    · intro Ha ea Q' q'
      refine ⟨_, rfl, !ms.isEmpty, Or.inl ⟨_, sq_of (ea _ _ ha), ?_⟩, q' Ha (Ex.refl _)⟩
      have := hA.1
      cases ms with
      | nil =>
        cases as with
        | nil => rfl
        | cons x xs => cases this
      | cons y ys =>
        cases as with
        | nil => cases this
        | cons x xs => rfl
    · have hnn : ¬ (Vbirak.wordAhead "yields" l' = false ∧ ms.isEmpty = false) := by
        rintro ⟨z1, z2⟩
        rw [z1, z2] at hc
        cases hc
      rw [if_neg hnn] at hw
      have hR2 := hR'.ex e2
      refine q_asg (ev_here (ev_var rfl) hR2) fun H3 e3 => ?_
      have hR3 := hR2.ex e3
      refine m_word gY (ev_var rfl) (ev_is ev_c (congrArg V.str gY.eq.symm)) hR3 ?_
      cases e5 : Vbirak.mustWord n "yields" l' with
      | error b =>
        rw [e5] at hw
        rw [← hw] at k
        exact Fails.go k (bH.trans (But.of (e2.trans e3)))
      | ok l1 =>
        rw [e5] at hw
        dsimp only at hw
        have lt1 := must_lt e5
        intro H5 b5 hR5
        have pH : But r H H5 := (bH.trans (But.of (e2.trans e3))).trans b5
        have pa : H5 a = some (.lst (as.map V.ref)) := b5.at (e3 _ _ (e2 _ _ ha)) har
        have pA : All2 (IntsAt H5) as ms := ints_but (k := 0) (hA.imp fun _ _ z => z.ex (e2.trans e3)) hR3 b5
        have hml : (as.map V.ref).length = ms.length := by rw [List.length_map, hA.1]
        dsimp only
        refine q_when (b := decide (4 ≤ ms.length)) (et_is (et_test (ev_op (ev_lenL (ev_var rfl) (sq_of pa)) ev_c (rv_eq rfl))) ?_) (fun hq H6 e6 => ?_) (fun hq H6 e6 => ?_)
        · refine decide_eq_decide.mpr ⟨fun z => ?_, fun z => ?_⟩
          · injection z with z
            rw [hml] at z
            omega
          · have : ms.length = 4 := by omega
            rw [hml, this]
            rfl
        · rw [if_pos (show Vbirak.TABLES ≤ ms.length from of_decide_eq_true hq)] at hw
          rw [← hw] at k
          exact rd_raise (b := ⟨3, (hd n l').1⟩) (ea_cons ev_c (ea_cons (ev_var rfl) ea_nil)) (rd_some (hR5.ex e6)) (Fails.go k (pH.trans (But.of e6)))
        · have hq' : ¬ 4 ≤ ms.length := of_decide_eq_false hq
          rw [if_neg (show ¬ Vbirak.TABLES ≤ ms.length from hq')] at hw
          refine ⟨_, rfl, Or.inl ⟨rfl, _, sq_of (e6 _ _ pa)⟩, _, rfl, _, rfl, r, n, gate, l1, rfl, hR5.ex e6, hg, ?_⟩
          cases e7 : Vbirak.numsAt n (gate + 1) [] l1 with
          | error b =>
            rw [e7] at hw
            rw [← hw] at k
            exact Fails.go k (pH.trans (But.of e6))
          | ok y =>
            rw [e7] at hw
            dsimp only at hw
            have lt2 := (nums_lt e7).1
            intro d H8 b8 hR8 hd
            obtain ⟨hdr, hd6, hd8⟩ := nw_new hd
            have pH6 : But r H H6 := pH.trans (But.of e6)
            have hdH : H d = none := pH6.none hd6 hdr
            have hda : d ≠ a := fun z => by
              rw [z, e6 _ _ pa] at hd6
              cases hd6
            have xa : H8 a = some (.lst (as.map V.ref)) := b8.at (e6 _ _ pa) har
            have xA : All2 (IntsAt H8) as ms := ints_but (k := 0) (pA.imp fun _ _ z => z.ex e6) (hR5.ex e6) b8
            refine ⟨a, as.map V.ref, .ref d, rfl, rfl, xa, sz_lt (by rw [hml]; omega), y.2.length, by omega, f', ms ++ [y.1], y.2, as ++ [d], _, (pH6.trans b8).mut n1, hR8.updL xa ?_, ?_, ?_, ?_, rfl, rfl, by omega, ?_, hw⟩
            · intro p hp C dx x hx
              cases as with
              | nil => cases hp
              | cons q qs =>
                have hq : q = p := by
                  injection hp with hp
                  injection hp
                subst hq
                have hlen := xA.1
                obtain ⟨z, hz⟩ : ∃ z, ms[0]? = some z := ⟨_, List.getElem?_eq_getElem (by rw [← hlen]; simp)⟩
                have hdd' : H8 q = some (.lst (vI z)) := xA.2 0 q z rfl hz
                rw [hdd'] at hx
                cases hx
            · rw [upd_same, List.map_append]
              rfl
            · refine All2.snoc (ints_keep xA fun x hx => (hn x hx).2.1) ?_
              show upd H8 a _ d = _
              rw [upd_ne hda]
              exact hd8
            · intro x hx
              rcases List.mem_append.mp hx with hx | hx
              · exact hn x hx
              · rw [List.mem_singleton.mp hx]
                exact ⟨hdH, hda, hdr⟩
            · rw [List.length_append]
              simp only [List.length_singleton]
              omega
    · have hy : Vbirak.wordAhead "yields" l' = false ∧ ms.isEmpty = false := by
        rw [Bool.or_eq_false_iff] at hc
        refine ⟨hc.2, ?_⟩
        cases z : ms.isEmpty with
        | false => rfl
        | true =>
          rw [z] at hc
          cases hc.1
      rw [if_pos hy] at hw
      rw [← hw] at k
      refine ⟨_, rfl, k a H2 (bH.trans (But.of e2)) (hR'.ex e2) ⟨as, ?_, ?_⟩⟩
      · rw [nw_but n1 har]
        exact e2 _ _ ha
      · refine ⟨hA.1, fun i x m hx hm => ?_⟩
        have hx' := hn x (List.mem_of_getElem? hx)
        show nw _ _ x = _
        rw [nw_but hx'.1 hx'.2.2]
        exact e2 _ _ (hA.2 i x m hx hm)
end
end Sl
namespace Sl
open PySem PySem.Spec PyProof.Rows L2
open Evl
open Vbirak (Lake Weather)
open Sm
def FailsE (K : PySem.W.Frag) (H : Hp) (E : XK) (b : Vbirak.Bad) : Prop := ∀ d H', Ex H H' → ErrAt H' d b → E (.ref (He.ga K "WrongText")) (some d) H'
theorem ex_but {x : Addr} {H Hx H' : Hp} (hx : H x = none) (e : Ex H Hx) (b : But x Hx H') : Ex H H' := fun c o hc => b.at (e _ _ hc) (ne_of_none hc hx)
theorem FailsE.rd {K : PySem.W.Frag} {x : Addr} {H Hx : Hp} {E : XK} {b : Vbirak.Bad} (f : FailsE K H E b) (hx : H x = none) (e : Ex H Hx) : Fails K x Hx E b := fun d H' b' h => f d H' (ex_but hx e b') h
theorem nw_base {r : Addr} {H Hk H' : Hp} (hr : H r = none) (e : ∀ b o, H b = some o → Hk b = some o) : Ex (nw (del Hk r) (del H' r)) (nw H (del H' r)) := fun b o h => by
  obtain ⟨h1, h2⟩ := nw_old h
  have hb : H b = none := by
    by_cases z : b = r
    · rw [z]
      exact hr
    · rw [del_ne z] at h1
      exact fresh_back e h1
  rw [nw_at hb]
  exact h2
/-- a promise of a whole text read: the thing made, or the error -/
def ReadR {α : Type} (K : PySem.W.Frag) (H : Hp) (Q : VK) (E : XK) (R : Hp → Addr → α → Prop) : Except Vbirak.Bad α → Prop
  | .ok y => RetN (fun h p => R h p y) H Q
  | .error b => FailsE K H E b
section
variable {P : Program} {w : World} {K : PySem.W.Frag} {mg : Str → Option Value} {base : Heap}
theorem mono_lakeR (K : PySem.W.Frag) : MonoR (LakeAt K) := fun _ _ _ _ e h => h.ex e
def spReadLake (K : PySem.W.Frag) : Sp := fun vs H Q E => ∃ (a : Addr) (t : List Nat), vs = [.ref a] ∧ SqL K H a (vI t) ∧ t.length ≤ 2000 ∧ ReadR K H Q E (LakeAt K) (Vbirak.read t)
theorem ok_read_lake (T : Tx K mg) (F_Reader_init : Fn P w K mg base 4 (He.ma K (He.ga K "Reader") "__init__") ["self", "text"] (spReader K)) (F_number_behind : Fn P w K mg base 5 (He.ga K "number_behind") ["reader", "word", "least", "most"] (spNumberBehind K)) (F_Reader_take_word : Fn P w K mg base 4 (He.ma K (He.ga K "Reader") "take_word") ["self", "word"] (spTakeWord K)) (F_read_kinds : Fn P w K mg base 6 (He.ga K "read_kinds") ["reader"] (spReadKinds K)) (F_read_tables : Fn P w K mg base 6 (He.ga K "read_tables") ["reader", "gate"] (spReadTables K)) (F_Reader_take_end : Fn P w K mg base 4 (He.ma K (He.ga K "Reader") "take_end") ["self"] (spTakeEnd K)) (F_Lake_init : Fn P w K mg base 1 (He.ma K (He.ga K "Lake") "__init__") ["self", "holds", "seasons", "gate", "rest", "kinds", "tables"] (spInit (He.ga K "Lake") ["holds", "seasons", "gate", "rest", "kinds", "tables"])) : Fn P w K mg base 7 (He.ga K "read_lake") ["text"] (spReadLake K) := by
  obtain ⟨_, g_MOST_HELD, r_MOST_HELD⟩ := T.cst_MOST_HELD
  obtain ⟨_, g_MOST_REST, r_MOST_REST⟩ := T.cst_MOST_REST
  obtain ⟨_, g_MOST_SEASONS, r_MOST_SEASONS⟩ := T.cst_MOST_SEASONS
  obtain ⟨_, g_WIDEST_GATE, r_WIDEST_GATE⟩ := T.cst_WIDEST_GATE
  have sc : FnScope ["text", "reader", "holds", "seasons", "gate", "rest", "kinds", "tables"] ["text"] (defScope s_read_lake) := ⟨rfl, rfl, rfl, by decide +kernel, rfl, by decide +kernel, by decide +kernel⟩
  refine fn_mk (k := 6) T.fun_read_lake sc (fun _ _ _ _ _ _ us hl => match us, hl with | [_], _ => rfl) (fun vs H Q E h => ?len) (fun cdv A outer s H vs Q E hr h => ⟨_, (pss_cons (ps_set (i := 1) sc.nd rfl (Or.inl rfl) (pe_k F_Reader_init hr (by decide) T.mkr_Reader T.glo_Reader (passes_call (takes_of rfl rfl rfl rfl) (fun _ _ _ _ h => h)) (pa_c (pv 0) pa_nil)))
      (pss_cons (ps_set (i := 2) sc.nd rfl (Or.inl rfl) (pe_f F_number_behind hr (by decide) T.glo_number_behind (passes_call (takes_of rfl rfl rfl rfl) (fun _ _ _ _ h => h)) (pa_c (pv 1) (pa_c pe_str (pa_c pe_int (pa_c (pe_glob rfl g_MOST_HELD r_MOST_HELD) pa_nil))))))
      (pss_cons (ps_set (i := 3) sc.nd rfl (Or.inl rfl) (pe_f F_number_behind hr (by decide) T.glo_number_behind (passes_call (takes_of rfl rfl rfl rfl) (fun _ _ _ _ h => h)) (pa_c (pv 1) (pa_c pe_str (pa_c pe_int (pa_c (pe_glob rfl g_MOST_SEASONS r_MOST_SEASONS) pa_nil))))))
      (pss_cons (ps_set (i := 4) sc.nd rfl (Or.inl rfl) (pe_f F_number_behind hr (by decide) T.glo_number_behind (passes_call (takes_of rfl rfl rfl rfl) (fun _ _ _ _ h => h)) (pa_c (pv 1) (pa_c pe_str (pa_c pe_int (pa_c (pe_glob rfl g_WIDEST_GATE r_WIDEST_GATE) pa_nil))))))
      (pss_cons (ps_set (i := 5) sc.nd rfl (Or.inl rfl) (pe_f F_number_behind hr (by decide) T.glo_number_behind (passes_call (takes_of rfl rfl rfl rfl) (fun _ _ _ _ h => h)) (pa_c (pv 1) (pa_c pe_str (pa_c pe_int (pa_c (pe_glob rfl g_MOST_REST r_MOST_REST) pa_nil))))))
      (pss_cons (ps_expr (pe_m F_Reader_take_word hr (by decide) (pv 1) T.cls_Reader T.meth_Reader_take_word (passes_call (takes_of rfl rfl rfl rfl) (fun _ _ _ _ h => h)) (pa_c pe_str pa_nil)))
      (pss_cons (ps_set (i := 6) sc.nd rfl (Or.inl rfl) (pe_f F_read_kinds hr (by decide) T.glo_read_kinds (passes_call (takes_of rfl rfl rfl rfl) (fun _ _ _ _ h => h)) (pa_c (pv 1) pa_nil)))
      (pss_cons (ps_set (i := 7) sc.nd rfl (Or.inl rfl) (pe_f F_read_tables hr (by decide) T.glo_read_tables (passes_call (takes_of rfl rfl rfl rfl) (fun _ _ _ _ h => h)) (pa_c (pv 1) (pa_c (pv 4) pa_nil))))
      (pss_cons (ps_expr (pe_m0 F_Reader_take_end hr (by decide) (pv 1) T.cls_Reader T.meth_Reader_take_end (passes_call (takes_of rfl rfl rfl rfl) (fun _ _ _ _ h => h))))
      (pss_one (ps_ret (pe_k F_Lake_init hr (by decide) T.mkr_Lake T.glo_Lake (passes_call (takes_of rfl rfl rfl rfl) (fun _ _ _ _ h => h)) (pa_c (pv 2) (pa_c (pv 3) (pa_c (pv 4) (pa_c (pv 5) (pa_c (pv 6) (pa_c (pv 7) pa_nil)))))))))))))))))), ?rd⟩)
  case len =>
    obtain ⟨a, t, rfl, _⟩ := h
    rfl
  case rd =>
    obtain ⟨a, t, rfl, hS, ht, k⟩ := h
    rw [read_eq, toks_pcs] at k
    refine ⟨_, rfl, ?_⟩
    intro x dx hx hdx hne
    have e0 : Ex H (upd (upd H dx (.own x)) x (.ins (He.ga K "Reader") dx [])) := Ex.mut (Ex.mut (Ex.refl _) hdx) hx
    revert e0
    generalize hH0 : upd (upd H dx (.own x)) x (.ins (He.ga K "Reader") dx []) = H0
    intro e0
    refine ⟨x, dx, a, t, rfl, by rw [← hH0]; exact upd_same, ex_l e0 hS, ht, fun H1 b1 hR1 => ⟨rfl, ?_⟩⟩
    have x1 : Ex H H1 := ex_but hx e0 b1
    dsimp only [gName]
    -- holds
    have gH := gw_of (s := "holds") (by decide)
    refine c_numb (lo := 0) (hi := 40) gH (ev_var rfl) (ev_is ev_c (congrArg V.str gH.eq.symm)) ev_c ev_c hR1 ?_
    unfold readAt at k
    cases q1 : Vbirak.wordNum t.length 0 40 "holds" (stopW (pcs t)) with
    | error b =>
      rw [q1] at k
      exact FailsE.rd k hx x1
    | ok y1 =>
    rw [q1] at k
    dsimp only at k
    intro H2 b2 hR2
    have x2 : Ex H H2 := ex_but hx x1 b2
    dsimp only [gName]
    -- seasons
    have gS := gw_of (s := "seasons") (by decide)
    refine c_numb (lo := 1) (hi := 24) gS (ev_var rfl) (ev_is ev_c (congrArg V.str gS.eq.symm)) ev_c ev_c hR2 ?_
    cases q2 : Vbirak.wordNum t.length 1 24 "seasons" y1.2 with
    | error b =>
      rw [q2] at k
      exact FailsE.rd k hx x2
    | ok y2 =>
    rw [q2] at k
    dsimp only at k
    intro H3 b3 hR3
    have x3 : Ex H H3 := ex_but hx x2 b3
    dsimp only [gName]
    -- gate
    have gG := gw_of (s := "gate") (by decide)
    refine c_numb (lo := 0) (hi := 10) gG (ev_var rfl) (ev_is ev_c (congrArg V.str gG.eq.symm)) ev_c ev_c hR3 ?_
    cases q3 : Vbirak.wordNum t.length 0 10 "gate" y2.2 with
    | error b =>
      rw [q3] at k
      exact FailsE.rd k hx x3
    | ok y3 =>
    rw [q3] at k
    dsimp only at k
    intro H4 b4 hR4
    have x4 : Ex H H4 := ex_but hx x3 b4
    dsimp only [gName]
    -- rest
    have gR := gw_of (s := "rest") (by decide)
    refine c_numb (lo := 0) (hi := 99) gR (ev_var rfl) (ev_is ev_c (congrArg V.str gR.eq.symm)) ev_c ev_c hR4 ?_
    cases q4 : Vbirak.wordNum t.length 0 99 "rest" y3.2 with
    | error b =>
      rw [q4] at k
      exact FailsE.rd k hx x4
    | ok y4 =>
    rw [q4] at k
    dsimp only at k
    intro H5 b5 hR5
    have x5 : Ex H H5 := ex_but hx x4 b5
    dsimp only [gName]
    -- ;
    refine m_semi (ev_var rfl) ev_c hR5 ?_
    cases q5 : Vbirak.semi t.length y4.2 with
    | error b =>
      rw [q5] at k
      exact FailsE.rd k hx x5
    | ok l5 =>
    rw [q5] at k
    dsimp only at k
    intro H6 b6 hR6
    have x6 : Ex H H6 := ex_but hx x5 b6
    dsimp only
    -- kinds
    refine ⟨_, rfl, x, t.length, l5, rfl, hR6, ?_⟩
    cases q6 : kindsAt t.length l5 with
    | error b =>
      rw [q6] at k
      exact FailsE.rd k hx x6
    | ok y6 =>
    rw [q6] at k
    dsimp only at k
    intro kl H7 b7 hR7 hk7
    have x7 : Ex H H7 := ex_but hx x6 b7
    have k7 : ListAt (KindAt K) (nw H (del H7 x)) kl y6.1 := ListAt.ex (mono_kind K) hk7 (nw_base hx x6)
    dsimp only [gName]
    -- tables
    refine ⟨_, rfl, _, rfl, x, t.length, y3.1, y6.2, rfl, hR7, (wordNum_lt q3).2.2, ?_⟩
    cases q8 : tabsAt t.length y3.1 (y6.2.length + 1) [] y6.2 with
    | error b =>
      rw [q8] at k
      exact FailsE.rd k hx x7
    | ok y8 =>
    rw [q8] at k
    dsimp only at k
    intro tl H8 b8 hR8 ht8
    have x8 : Ex H H8 := ex_but hx x7 b8
    have k8 : ListAt (KindAt K) (nw H (del H8 x)) kl y6.1 := ListAt.ex (mono_kind K) k7 (nw_mono b8)
    have t8 : ListAt IntsAt (nw H (del H8 x)) tl y8.1 := ListAt.ex mono_intsR ht8 (nw_base hx x7)
    dsimp only [gName]
    -- the end
    refine ev_rdm (ev_var rfl) hR8 ea_nil fun H9 e9 => ⟨x, t.length, y8.2, rfl, hR8.ex e9, fun hz => ?_, fun hz => ?_⟩
    · rw [if_pos hz] at k
      intro H10 b10 hR10
      have x10 : Ex H H10 := ex_but hx (x8.trans e9) b10
      have k10 : ListAt (KindAt K) (nw H (del H10 x)) kl y6.1 := ListAt.ex (mono_kind K) k8 (nw_mono (Ex.trans (del_mono e9) b10))
      have t10 : ListAt IntsAt (nw H (del H10 x)) tl y8.1 := ListAt.ex mono_intsR t8 (nw_mono (Ex.trans (del_mono e9) b10))
      refine s_retN (R := InsAt (He.ga K "Lake") ([("holds" : Str), "seasons", "gate", "rest", "kinds", "tables"].zip [V.int (y1.1 : Int), V.int (y2.1 : Int), V.int (y3.1 : Int), V.int (y4.1 : Int), V.ref kl, V.ref tl])) (en_make (ea_cons (ev_var rfl) (ea_cons (ev_var rfl) (ea_cons (ev_var rfl) (ea_cons (ev_var rfl) (ea_cons (ev_var rfl) (ea_cons (ev_var rfl) ea_nil)))))) rfl) fun p H11 e11 hp => ?_
      obtain ⟨dp, hp⟩ := hp
      obtain ⟨ks, hk1, hk2⟩ := ListAt.ex (mono_kind K) k10 (nw_mono (ex_del.trans e11))
      obtain ⟨ts, ht1, ht2⟩ := ListAt.ex mono_intsR t10 (nw_mono (ex_del.trans e11))
      exact k p H11 (x10.trans e11) ⟨dp, kl, tl, ks, ts, nw_back x10 _ _ hp, hk1, hk2, ht1, ht2⟩
    · rw [if_neg hz] at k
      exact FailsE.rd k hx (x8.trans e9)
end
end Sl
namespace Sm
open Vbirak
def levelAt (n : Nat) (l : Toks) : Except Bad (Cond × Toks) := match mustWord n "level" l with
  | .error b => .error b
  | .ok w => if wordAhead "least" w = true then (match numAt n 0 40 (w.drop 1) with
      | .error b => .error b
      | .ok x => .ok (.least x.1, x.2))
    else match wordNum n 0 40 "most" w with
      | .error b => .error b
      | .ok x => .ok (.most x.1, x.2)
def kindNames (l : Lake) : List (List Nat) := l.weathers.map fun x => x.name
def wasAt (n : Nat) (lk : Lake) (l : Toks) : Except Bad (Cond × Toks) := match mustWord n "was" l with
  | .error b => .error b
  | .ok w => match nameAt n w with
    | .error b => .error b
    | .ok y => if (kindNames lk).contains y.1.2 = true then .ok (.was (at1 (kindNames lk) y.1.2), y.2) else .error ⟨2, y.1.1⟩
def seasonAt (n : Nat) (lk : Lake) (l : Toks) : Except Bad (Cond × Toks) := match mustWord n "season" l with
  | .error b => .error b
  | .ok w => match numAt n 0 (lk.seasons - 1) w with
    | .error b => .error b
    | .ok a => match mustWord n "to" a.2 with
      | .error b => .error b
      | .ok w2 => match numAt n a.1 (lk.seasons - 1) w2 with
        | .error b => .error b
        | .ok b => .ok (.season a.1 b.1, b.2)
theorem idx_kind (lk : Lake) (u : List Nat) : (lk.weathers.findIdx? fun w => w.name == u) = if (kindNames lk).contains u = true then some (at1 (kindNames lk) u) else none := by
  unfold kindNames
  induction lk.weathers with
  | nil => rfl
  | cons a r ih =>
    rw [List.findIdx?_cons, ih, List.map_cons, List.contains_cons, at1_cons]
    by_cases h : a.name = u
    · have h1 : (a.name == u) = true := by simpa using h
      have h2 : (u == a.name) = true := by
        rw [h]
        simp
      rw [if_pos h1, h2, Bool.true_or, if_pos rfl, if_pos h]
    · have h1 : (a.name == u) = false := by simpa using h
      have h2 : (u == a.name) = false := by
        rw [beq_eq_false_iff_ne]
        exact fun z => h z.symm
      rw [if_neg (by rw [h1]; exact Bool.false_ne_true), h2, Bool.false_or, if_neg h]
      split <;> rfl
theorem must_yes {n : Nat} {s : String} {l : Toks} (h : wordAhead s l = true) : mustWord n s l = .ok (l.drop 1) := by
  unfold mustWord
  rw [if_pos h]
theorem must_no {n : Nat} {s : String} {l : Toks} (h : wordAhead s l = false) : mustWord n s l = .error ⟨1, (hd n l).1⟩ := by
  unfold mustWord
  rw [if_neg (by rw [h]; exact Bool.false_ne_true), place_hd]
theorem cond_was {n : Nat} {lk : Lake} {l : Toks} (h : wordAhead "was" l = true) : condAt n lk l = wasAt n lk l := by
  unfold condAt wasAt
  rw [if_pos h, must_yes h]
  dsimp only
  simp only [Bind.bind, Except.bind]
  cases nameAt n (l.drop 1) with
  | error b => rfl
  | ok y =>
    dsimp only
    rw [idx_kind]
    by_cases c : (kindNames lk).contains y.1.2 = true
    · rw [if_pos c, if_pos c]
      rfl
    · rw [if_neg c, if_neg c]
theorem cond_season {n : Nat} {lk : Lake} {l : Toks} (h0 : wordAhead "was" l = false) (h : wordAhead "season" l = true) : condAt n lk l = seasonAt n lk l := by
  unfold condAt seasonAt
  rw [if_neg (by rw [h0]; exact Bool.false_ne_true), if_pos h, must_yes h]
  dsimp only
  simp only [Bind.bind, Except.bind]
  cases numAt n 0 (lk.seasons - 1) (l.drop 1) with
  | error b => rfl
  | ok y =>
    dsimp only
    cases mustWord n "to" y.2 with
    | error b => rfl
    | ok w =>
      dsimp only
      cases numAt n y.1 (lk.seasons - 1) w <;> rfl
theorem cond_level {n : Nat} {lk : Lake} {l : Toks} (h0 : wordAhead "was" l = false) (h : wordAhead "season" l = false) : condAt n lk l = levelAt n l := by
  unfold condAt levelAt
  rw [if_neg (by rw [h0]; exact Bool.false_ne_true), if_neg (by rw [h]; exact Bool.false_ne_true)]
  simp only [Bind.bind, Except.bind, HOLDS]
  cases mustWord n "level" l with
  | error b => rfl
  | ok w =>
    dsimp only
    split
    · cases numAt n 0 40 (w.drop 1) <;> rfl
    · cases wordNum n 0 40 "most" w <;> rfl
/-- only one word is ahead -/
theorem ahead_one {n : Nat} {s s' : String} {l : Toks} (h : wordAhead s l = true) (hn : bytesOf s ≠ bytesOf s') : wordAhead s' l = false := by
  rw [ahead_hd s n] at h
  rw [ahead_hd s' n]
  refine decide_eq_false fun z => ?_
  have := of_decide_eq_true h
  rw [this] at z
  injection z with z
  exact hn z
theorem condsAt_eq (n : Nat) (lk : Lake) (f : Nat) (m : List Cond) (l : Toks) : condsAt n lk (f + 1) m l = match condAt n lk l with
    | .error b => .error b
    | .ok c => if wordAhead "and" c.2 = true then condsAt n lk f (m ++ [c.1]) (c.2.drop 1) else .ok (m ++ [c.1], c.2) := by
  rw [condsAt]
  simp only [Bind.bind, Except.bind]
  cases condAt n lk l with
  | error b => rfl
  | ok c => rfl
def lettingAt (n : Nat) (l : Toks) : Except Bad (Nat × Toks) := match wordNum n 0 10 "let" l with
  | .error b => .error b
  | .ok x => match semi n x.2 with
    | .error b => .error b
    | .ok r => .ok (x.1, r)
def ruleAt (n : Nat) (lk : Lake) (l : Toks) : Except Bad ((List Cond × Nat) × Toks) := match mustWord n "when" l with
  | .error b => .error b
  | .ok w => match condsAt n lk (l.length + 1) [] w with
    | .error b => .error b
    | .ok c => match lettingAt n c.2 with
      | .error b => .error b
      | .ok x => .ok ((c.1, x.1), x.2)
theorem rulesAt_eq (n : Nat) (lk : Lake) (f : Nat) (m : List (List Cond × Nat)) (l : Toks) : rulesAt n lk (f + 1) m l = if wordAhead "when" l = true then
      (if RULES ≤ m.length then .error ⟨3, (hd n l).1⟩ else match ruleAt n lk l with
        | .error b => .error b
        | .ok x => rulesAt n lk f (m ++ [x.1]) x.2)
    else match mustWord n "else" l with
      | .error b => .error b
      | .ok w => match lettingAt n w with
        | .error b => .error b
        | .ok x => .ok (⟨m, x.1⟩, x.2) := by
  rw [rulesAt]
  by_cases c : wordAhead "when" l = true
  · rw [if_pos c, if_pos c]
    by_cases c2 : RULES ≤ m.length
    · rw [if_pos c2, if_pos c2, place_hd]
    · rw [if_neg c2, if_neg c2]
      unfold ruleAt lettingAt
      rw [must_yes c]
      dsimp only
      simp only [Bind.bind, Except.bind, GATE]
      cases condsAt n lk (l.length + 1) [] (l.drop 1) with
      | error b => rfl
      | ok cs =>
        dsimp only
        cases wordNum n 0 10 "let" cs.2 with
        | error b => rfl
        | ok x =>
          dsimp only
          cases semi n x.2 <;> rfl
  · rw [if_neg c, if_neg c]
    unfold lettingAt
    simp only [Bind.bind, Except.bind, GATE]
    cases mustWord n "else" l with
    | error b => rfl
    | ok w =>
      dsimp only
      cases wordNum n 0 10 "let" w with
      | error b => rfl
      | ok x =>
        dsimp only
        cases semi n x.2 <;> rfl
theorem strategy_eq (lk : Lake) (t : Bytes) : readStrategy lk t = match rulesAt t.length lk ((tokens (t.length + 1) 0 t).length + 1) [] (tokens (t.length + 1) 0 t) with
    | .error b => .error b
    | .ok s => if s.2 = [] then .ok s.1 else .error ⟨1, (hd t.length s.2).1⟩ := by
  unfold readStrategy
  simp only [Bind.bind, Except.bind]
  cases rulesAt t.length lk ((tokens (t.length + 1) 0 t).length + 1) [] (tokens (t.length + 1) 0 t) with
  | error b => rfl
  | ok s =>
    dsimp only
    cases h : s.2 with
    | nil => rfl
    | cons x r => rfl
theorem cond_lt {n : Nat} {lk : Lake} {l : Toks} {y : Cond × Toks} (h : condAt n lk l = .ok y) : y.2.length < l.length := by
  cases hw : wordAhead "was" l with
  | true =>
    rw [cond_was hw] at h
    unfold wasAt at h
    cases e : mustWord n "was" l with
    | error b =>
      rw [e] at h
      cases h
    | ok w =>
      rw [e] at h
      dsimp only at h
      cases e2 : nameAt n w with
      | error b =>
        rw [e2] at h
        cases h
      | ok z =>
        rw [e2] at h
        dsimp only at h
        have a := must_lt e
        have b := (name_lt e2).1
        split at h
        · cases h
          show z.2.length < l.length
          omega
        · cases h
  | false =>
    cases hs : wordAhead "season" l with
    | true =>
      rw [cond_season hw hs] at h
      unfold seasonAt at h
      cases e : mustWord n "season" l with
      | error b =>
        rw [e] at h
        cases h
      | ok w =>
        rw [e] at h
        dsimp only at h
        cases e2 : numAt n 0 (lk.seasons - 1) w with
        | error b =>
          rw [e2] at h
          cases h
        | ok z =>
          rw [e2] at h
          dsimp only at h
          cases e3 : mustWord n "to" z.2 with
          | error b =>
            rw [e3] at h
            cases h
          | ok w2 =>
            rw [e3] at h
            dsimp only at h
            cases e4 : numAt n z.1 (lk.seasons - 1) w2 with
            | error b =>
              rw [e4] at h
              cases h
            | ok z2 =>
              rw [e4] at h
              cases h
              have a := must_lt e
              have b := (num_lt e2).1
              have c := must_lt e3
              have d := (num_lt e4).1
              show z2.2.length < l.length
              omega
    | false =>
      rw [cond_level hw hs] at h
      unfold levelAt at h
      cases e : mustWord n "level" l with
      | error b =>
        rw [e] at h
        cases h
      | ok w =>
        rw [e] at h
        dsimp only at h
        have a := must_lt e
        split at h
        · cases e2 : numAt n 0 40 (w.drop 1) with
          | error b =>
            rw [e2] at h
            cases h
          | ok z =>
            rw [e2] at h
            cases h
            have b := (num_lt e2).1
            rw [List.length_drop] at b
            show z.2.length < l.length
            omega
        · cases e2 : wordNum n 0 40 "most" w with
          | error b =>
            rw [e2] at h
            cases h
          | ok z =>
            rw [e2] at h
            cases h
            have b := (wordNum_lt e2).1
            show z.2.length < l.length
            omega
theorem conds_lt {n : Nat} {lk : Lake} : ∀ {f : Nat} {m : List Cond} {l : Toks} {y : List Cond × Toks}, l.length < f → condsAt n lk f m l = .ok y → y.2.length < l.length ∧ y.1.length ≤ m.length + l.length
  | 0, m, l, y, hf, h => absurd hf (Nat.not_lt_zero _)
  | f + 1, m, l, y, hf, h => by
    rw [condsAt_eq] at h
    cases e : condAt n lk l with
    | error b =>
      rw [e] at h
      cases h
    | ok c =>
      rw [e] at h
      dsimp only at h
      have a := cond_lt e
      split at h
      · have b := conds_lt (f := f) (by rw [List.length_drop]; omega) h
        rw [List.length_drop, List.length_append] at b
        simp only [List.length_singleton] at b
        omega
      · cases h
        rw [List.length_append]
        simp only [List.length_singleton]
        omega
theorem letting_lt {n : Nat} {l : Toks} {y : Nat × Toks} (h : lettingAt n l = .ok y) : y.2.length < l.length ∧ y.1 ≤ 10 := by
  unfold lettingAt at h
  cases e : wordNum n 0 10 "let" l with
  | error b =>
    rw [e] at h
    cases h
  | ok x =>
    rw [e] at h
    dsimp only at h
    cases e2 : semi n x.2 with
    | error b =>
      rw [e2] at h
      cases h
    | ok r =>
      rw [e2] at h
      cases h
      have a := wordNum_lt e
      have b := semi_lt e2
      exact ⟨by show r.length < l.length; omega, a.2.2⟩
theorem rule_lt {n : Nat} {lk : Lake} {l : Toks} {y : (List Cond × Nat) × Toks} (h : ruleAt n lk l = .ok y) : y.2.length < l.length ∧ y.1.1.length ≤ l.length ∧ y.1.2 ≤ 10 := by
  unfold ruleAt at h
  cases e : mustWord n "when" l with
  | error b =>
    rw [e] at h
    cases h
  | ok w =>
    rw [e] at h
    dsimp only at h
    have a := must_lt e
    cases e2 : condsAt n lk (l.length + 1) [] w with
    | error b =>
      rw [e2] at h
      cases h
    | ok c =>
      rw [e2] at h
      dsimp only at h
      have b := conds_lt (by omega) e2
      simp only [List.length_nil] at b
      cases e3 : lettingAt n c.2 with
      | error b =>
        rw [e3] at h
        cases h
      | ok x =>
        rw [e3] at h
        cases h
        have d := letting_lt e3
        exact ⟨by show x.2.length < l.length; omega, by show c.1.length ≤ l.length; omega, d.2⟩
/-- conditions need only so much fuel -/
theorem conds_fuel {n : Nat} {lk : Lake} : ∀ {f g : Nat} {m : List Cond} {l : Toks}, l.length < f → l.length < g → condsAt n lk f m l = condsAt n lk g m l
  | 0, _, m, l, hf, _ => absurd hf (Nat.not_lt_zero _)
  | _, 0, m, l, _, hg => absurd hg (Nat.not_lt_zero _)
  | f + 1, g + 1, m, l, hf, hg => by
    rw [condsAt_eq, condsAt_eq]
    cases e : condAt n lk l with
    | error b => rfl
    | ok c =>
      dsimp only
      have a := cond_lt e
      split
      · exact conds_fuel (by rw [List.length_drop]; omega) (by rw [List.length_drop]; omega)
      · rfl
end Sm
namespace Sl
open PySem PySem.Spec PyProof.Rows L2
open Evl
open Vbirak (Lake Weather)
open Sm
def condV : Vbirak.Cond → List V
  | .least n => [.str "least", .int (n : Int)]
  | .most n => [.str "most", .int (n : Int)]
  | .was k => [.str "was", .int (k : Int)]
  | .season a b => [.str "season", .int (a : Int), .int (b : Int)]
def CondAt (h : Hp) (p : Addr) (c : Vbirak.Cond) : Prop := h p = some (.tup (condV c))
theorem mono_cond : MonoR CondAt := fun _ _ _ _ e h => e _ _ h
def RuleAt (K : PySem.W.Frag) (h : Hp) (p : Addr) (x : List Vbirak.Cond × Nat) : Prop := ∃ dx cl, h p = some (.ins (He.ga K "Rule") dx [("conditions", .ref cl), ("letting", .int (x.2 : Int))]) ∧ ListAt CondAt h cl x.1
theorem mono_rule (K : PySem.W.Frag) : MonoR (RuleAt K) := fun _ _ _ _ e ⟨dx, cl, h1, h2⟩ => ⟨dx, cl, e _ _ h1, ListAt.ex mono_cond h2 e⟩
def StratAt (K : PySem.W.Frag) (h : Hp) (p : Addr) (s : Vbirak.Strategy) : Prop := ∃ dx rl, h p = some (.ins (He.ga K "Strategy") dx [("rules", .ref rl), ("otherwise", .int (s.other : Int))]) ∧ ListAt (RuleAt K) h rl s.rules
theorem mono_strat (K : PySem.W.Frag) : MonoR (StratAt K) := fun _ _ _ _ e ⟨dx, rl, h1, h2⟩ => ⟨dx, rl, e _ _ h1, ListAt.ex (mono_rule K) h2 e⟩
theorem LakeAt.but {K : PySem.W.Frag} {H H' : Hp} {r a n : Addr} {l : Lake} (h : LakeAt K (del H r) a l) (e : But r H H') : LakeAt K (del H' r) a l := h.ex e
section
variable {P : Program} {w : World} {K : PySem.W.Frag} {mg : Str → Option Value} {base : Heap}
/-- sees a word of the grammar -/
theorem ev_ahw {σ : L2.St} {H : Hp} {te tw : TE} {E : XK} {r : Addr} {n : Nat} {l : Vbirak.Toks} {s : String} (g : Gw s) (he : Ev te σ H (.ref r)) (hw : Ev tw σ H (.str (Str.ofString s))) (hR : RdAt K H r n l) : Ev (tMeth (He.ga K "Reader") "sees" (spSees K) [] E te (tCons tw tNil)) σ H (.bl (Vbirak.wordAhead s l)) := by
  refine ev_is (ev_sees he hw hR) ?_
  rw [ahead_hd s n, ← g.eq]
  exact congrArg V.bl (sees_word g.ne)
/-- a new tuple behind the reader's calls -/
theorem made_tup {n : Nat} {r : Addr} {H H' : Hp} {Q : VK} {E : XK} {y : Vbirak.Cond × Vbirak.Toks} (k : Made K n r H Q E CondAt (.ok y)) (b : But r H H') (hR : RdAt K H' r n y.2) (p : Addr) (hp : H' p = none) : Q (.ref p) (upd H' p (.tup (condV y.1))) := by
  have hpr : p ≠ r := fun z => rd_some hR (by rw [← z]; exact hp)
  refine k p _ (b.trans (But.of (Ex.new hp))) (hR.ex (Ex.new hp)) ?_
  show nw _ _ p = _
  rw [nw_but (b.none hp hpr) hpr, upd_same]
theorem made_tup2 {n : Nat} {r : Addr} {H H' H1 : Hp} {Q : VK} {E : XK} {y : Vbirak.Cond × Vbirak.Toks} (k : Made K n r H Q E CondAt (.ok y)) (b : But r H H') (hR : RdAt K H' r n y.2) {p : Addr} (hp : H' p = none) (e : Ex H' H1) (h1 : H1 p = some (.tup (condV y.1))) : Q (.ref p) H1 := by
  have hpr : p ≠ r := fun z => rd_some hR (by rw [← z]; exact hp)
  refine k p _ (b.trans (But.of e)) (hR.ex e) ?_
  show nw _ _ p = _
  rw [nw_but (b.none hp hpr) hpr]
  exact h1
def spLevel (K : PySem.W.Frag) : Sp := fun vs H Q E => ∃ (r : Addr) (n : Nat) (l : Vbirak.Toks), vs = [.ref r] ∧ RdAt K H r n l ∧ Made K n r H Q E CondAt (levelAt n l)
theorem ok_read_level (T : Tx K mg) (F_Reader_take_word : Fn P w K mg base 4 (He.ma K (He.ga K "Reader") "take_word") ["self", "word"] (spTakeWord K)) (F_Reader_sees : Fn P w K mg base 2 (He.ma K (He.ga K "Reader") "sees") ["self", "word"] (spSees K)) (F_Reader_take_number : Fn P w K mg base 4 (He.ma K (He.ga K "Reader") "take_number") ["self", "least", "most"] (spTakeNumber K)) : Fn P w K mg base 5 (He.ga K "read_level") ["reader"] (spLevel K) := by
  obtain ⟨_, g_MOST_LEVEL, r_MOST_LEVEL⟩ := T.cst_MOST_LEVEL
  have sc : FnScope ["reader", "side"] ["reader"] (defScope s_read_level) := ⟨rfl, rfl, rfl, by decide +kernel, rfl, by decide +kernel, by decide +kernel⟩
  refine fn_mk (k := 4) T.fun_read_level sc (fun _ _ _ _ _ _ us hl => match us, hl with | [_], _ => rfl) (fun vs H Q E h => ?len) (fun cdv A outer s H vs Q E hr h => ⟨_, (pss_cons (ps_expr (pe_m F_Reader_take_word hr (by decide) (pv 0) T.cls_Reader T.meth_Reader_take_word (passes_call (takes_of rfl rfl rfl rfl) (fun _ _ _ _ h => h)) (pa_c pe_str pa_nil)))
      (pss_cons (ps_set (i := 1) sc.nd rfl (Or.inl rfl) (pe_ifExp (pt_val (pe_m F_Reader_sees hr (by decide) (pv 0) T.cls_Reader T.meth_Reader_sees (passes_call (takes_of rfl rfl rfl rfl) (fun _ _ _ _ h => h)) (pa_c pe_str pa_nil))) pe_str pe_str))
      (pss_cons (ps_expr (pe_m F_Reader_take_word hr (by decide) (pv 0) T.cls_Reader T.meth_Reader_take_word (passes_call (takes_of rfl rfl rfl rfl) (fun _ _ _ _ h => h)) (pa_c (pv 1) pa_nil)))
      (pss_one (ps_ret (pe_tup (pa_c (pv 1) (pa_c (pe_m F_Reader_take_number hr (by decide) (pv 0) T.cls_Reader T.meth_Reader_take_number (passes_call (takes_of rfl rfl rfl rfl) (fun _ _ _ _ h => h)) (pa_c pe_int (pa_c (pe_glob rfl g_MOST_LEVEL r_MOST_LEVEL) pa_nil))) pa_nil)))))))), ?rd⟩)
  case len =>
    obtain ⟨r, n, l, rfl, _⟩ := h
    rfl
  case rd =>
    obtain ⟨r, n, l, rfl, hR, k⟩ := h
    have gL := gw_of (s := "level") (by decide)
    have gE := gw_of (s := "least") (by decide)
    have gM := gw_of (s := "most") (by decide)
    unfold levelAt at k
    refine m_word gL (ev_var rfl) (ev_is ev_c (congrArg V.str gL.eq.symm)) hR ?_
    cases q1 : Vbirak.mustWord n "level" l with
    | error b =>
      rw [q1] at k
      exact k
    | ok l1 =>
    rw [q1] at k
    dsimp only at k
    intro H1 b1 hR1
    dsimp only
    have et : EvT (tB (tMeth (He.ga K "Reader") "sees" (spSees K) [] E (tVar 0) (tCons (tC (.str "least")) tNil))) [some (.ref r), none] H1 (Vbirak.wordAhead "least" l1) := et_B (ev_ahw gE (ev_var rfl) ev_c hR1)
    cases ha : Vbirak.wordAhead "least" l1 with
    | true =>
      rw [ha] at k et
      rw [if_pos rfl] at k
      refine q_asg (v := .str "least") (ev_if et (fun _ => ev_c) (fun z => by cases z)) fun H2 e2 => ?_
      refine m_word gE (ev_var rfl) (ev_is (ev_var rfl) (congrArg V.str gE.eq.symm)) (hR1.ex e2) ?_
      rw [must_yes ha]
      intro H3 b3 hR3
      have b13 : But r H H3 := (b1.trans (But.of e2)).trans b3
      refine ⟨_, rfl, ?_⟩
      refine m_num (lo := 0) (hi := 40) (ev_var rfl) ev_c ev_c hR3 ?_
      cases q2 : Vbirak.numAt n 0 40 (l1.drop 1) with
      | error b =>
        rw [q2] at k
        exact Fails.go k b13
      | ok x =>
        rw [q2] at k
        intro H4 b4 hR4
        exact ⟨(by show 2 ≤ sizeLine; decide), fun p hp => made_tup k (b13.trans b4) hR4 p hp⟩
    | false =>
      rw [ha] at k et
      rw [if_neg Bool.false_ne_true, wordNum_eq] at k
      refine q_asg (v := .str "most") (ev_if et (fun z => by cases z) (fun _ => ev_c)) fun H2 e2 => ?_
      refine m_word gM (ev_var rfl) (ev_is (ev_var rfl) (congrArg V.str gM.eq.symm)) (hR1.ex e2) ?_
      have b12 : But r H H2 := b1.trans (But.of e2)
      cases q3 : Vbirak.mustWord n "most" l1 with
      | error b =>
        rw [q3] at k
        exact Fails.go k b12
      | ok l3 =>
      rw [q3] at k
      dsimp only at k
      intro H3 b3 hR3
      have b13 : But r H H3 := b12.trans b3
      refine ⟨_, rfl, ?_⟩
      refine m_num (lo := 0) (hi := 40) (ev_var rfl) ev_c ev_c hR3 ?_
      cases q2 : Vbirak.numAt n 0 40 l3 with
      | error b =>
        rw [q2] at k
        exact Fails.go k b13
      | ok x =>
        rw [q2] at k
        intro H4 b4 hR4
        exact ⟨(by show 2 ≤ sizeLine; decide), fun p hp => made_tup k (b13.trans b4) hR4 p hp⟩
def spWas (K : PySem.W.Frag) : Sp := fun vs H Q E => ∃ (r a : Addr) (n : Nat) (l : Vbirak.Toks) (lk : Lake), vs = [.ref r, .ref a] ∧ RdAt K H r n l ∧ LakeAt K (del H r) a lk ∧ lk.weathers.length ≤ 4 ∧ Made K n r H Q E CondAt (wasAt n lk l)
theorem ok_read_was (T : Tx K mg) (F_Reader_take_word : Fn P w K mg base 4 (He.ma K (He.ga K "Reader") "take_word") ["self", "word"] (spTakeWord K)) (F_Reader_here : Fn P w K mg base 2 (He.ma K (He.ga K "Reader") "here") ["self"] (spHere K)) (F_Reader_take_name : Fn P w K mg base 4 (He.ma K (He.ga K "Reader") "take_name") ["self"] (spTakeName K)) (F_WrongText_init : Fn P w K mg base 1 (He.ma K (He.ga K "WrongText") "__init__") ["self", "kind", "place"] (spWrong K)) : Fn P w K mg base 5 (He.ga K "read_was") ["reader", "lake"] (spWas K) := by
  obtain ⟨_, g_NO_KIND, r_NO_KIND⟩ := T.cst_NO_KIND
  have sc : FnScope ["reader", "lake", "place", "name", "names", "kind"] ["reader", "lake"] (defScope s_read_was) := ⟨rfl, rfl, rfl, by decide +kernel, rfl, by decide +kernel, by decide +kernel⟩
  refine fn_mk (k := 4) T.fun_read_was sc (fun _ _ _ _ _ _ us hl => match us, hl with | [_, _], _ => rfl) (fun vs H Q E h => ?len) (fun cdv A outer s H vs Q E hr h => ⟨_, (pss_cons (ps_expr (pe_m F_Reader_take_word hr (by decide) (pv 0) T.cls_Reader T.meth_Reader_take_word (passes_call (takes_of rfl rfl rfl rfl) (fun _ _ _ _ h => h)) (pa_c pe_str pa_nil)))
      (pss_cons (ps_set (i := 2) sc.nd rfl (Or.inl rfl) (pe_m0 F_Reader_here hr (by decide) (pv 0) T.cls_Reader T.meth_Reader_here (passes_call (takes_of rfl rfl rfl rfl) (fun _ _ _ _ h => h))))
      (pss_cons (ps_set (i := 3) sc.nd rfl (Or.inl rfl) (pe_m0 F_Reader_take_name hr (by decide) (pv 0) T.cls_Reader T.meth_Reader_take_name (passes_call (takes_of rfl rfl rfl rfl) (fun _ _ _ _ h => h))))
      (pss_cons (ps_setLc (i := 4) (own := [("kind", 5)]) (g := gName 5) (tt := tYes) rfl sc.nd rfl rfl (sw_true rfl rfl rfl (by decide +kernel)) (pi_list (pe_fld (pv 1) rfl)) (blkOk_by (own := [("kind", 5)]) (N := ["reader", "lake", "place", "name", "names", "kind"]) (sc := defScope s_read_was) (by decide +kernel)) (fun _ _ _ _ _ => pg_name (i := 5) sc.nd rfl (Or.inl rfl)) (fun _ _ _ _ _ => pts_nil) (fun _ _ _ _ _ => (pe_fldK (K := K) rfl (pv 5) rfl)))
      (pss_cons (ps_if (pt_cmpR op_notIn_seq (pv 3) (pv 4) (by rfl)) (pss_one (ps_raise rfl (takes_of rfl rfl rfl rfl) (pmk_x T.oxc T.ini_WrongText T.ity_WrongText F_WrongText_init hr (by decide) passL rfl T.glo_WrongText (pa_c (pe_glob rfl g_NO_KIND r_NO_KIND) (pa_c (pv 2) pa_nil))))) pss_nil)
      (pss_one (ps_ret (pe_tup (pa_c pe_str (pa_c (pe_bm PySem.F.plainAttrs_list PySem.F.slot_list_index PySem.F.type_list_index mt_index (pv 4) (pa_c (pv 3) pa_nil)) pa_nil)))))))))), ?rd⟩)
  case len =>
    obtain ⟨r, a, n, l, lk, rfl, _⟩ := h
    rfl
  case rd =>
    obtain ⟨r, a, n, l, lk, rfl, hR, hL, h4, k⟩ := h
    have gW := gw_of (s := "was") (by decide)
    unfold wasAt at k
    refine m_word gW (ev_var rfl) (ev_is ev_c (congrArg V.str gW.eq.symm)) hR ?_
    cases q1 : Vbirak.mustWord n "was" l with
    | error b =>
      rw [q1] at k
      exact k
    | ok l1 =>
    rw [q1] at k
    dsimp only at k
    intro H1 b1 hR1
    dsimp only
    refine q_asg (ev_here (ev_var rfl) hR1) fun H2 e2 => ?_
    refine m_name (ev_var rfl) (hR1.ex e2) ?_
    have b12 : But r H H2 := b1.trans (But.of e2)
    cases q2 : Vbirak.nameAt n l1 with
    | error b =>
      rw [q2] at k
      exact Fails.go k b12
    | ok y =>
    rw [q2] at k
    dsimp only at k
    have hpl := (name_lt q2).2.1
    intro H3 b3 hR3
    have b13 : But r H H3 := b12.trans b3
    have hL3 : LakeAt K H3 a lk := (hL.ex b13).ex ex_del
    dsimp only [gName]
    obtain ⟨kl, ks, ek, hk, hks⟩ := ev_kinds (ta := tVar 1) (σ := [some (.ref r), some (.ref a), some (.int ((hd n l1).1 : Int)), some (.str (strOf y.1.2)), none, none]) T (ev_var rfl) hL3
    have hkl : (ks.map V.ref).length = lk.weathers.length := by rw [List.length_map, hks.1]
    have key := el_lcL (K := K) (σ := [some (.ref r), some (.ref a), some (.int ((hd n l1).1 : Int)), some (.str (strOf y.1.2)), none, none]) (H := H3) (t := tYes) (j := 5) (vs := [5]) (tl := tFld K (tVar 1) "kinds") (te := tFld K (tVar 5) "name")
      (fun _ => true) (fun i => .str (strOf ((kindNames lk).getD i []))) ek (sq_of hk) (by omega) (fun _ => rfl) (fun _ _ _ _ _ => et_yes) (fun i x Ha ea hx _ => by
        rw [List.getElem?_map] at hx
        cases e : ks[i]? with
        | none =>
          rw [e] at hx
          cases hx
        | some c =>
          rw [e] at hx
          cases hx
          have hi : i < lk.weathers.length := by
            rw [← hks.1]
            exact (List.getElem?_eq_some_iff.mp e).1
          have hc := hks.2 i c _ e (List.getElem?_eq_getElem hi)
          have eg : (kindNames lk).getD i [] = (lk.weathers[i]).name := by
            unfold kindNames
            rw [List.getD_eq_getElem?_getD, List.getElem?_map, List.getElem?_eq_getElem hi]
            rfl
          rw [eg]
          exact ev_name T (ev_var rfl) (hc.ex ea))
    rw [given_all, hkl] at key
    have eN : (List.range lk.weathers.length).map (fun i => V.str (strOf ((kindNames lk).getD i []))) = vS (kindNames lk) := by
      have hl : lk.weathers.length = (kindNames lk).length := by
        unfold kindNames
        rw [List.length_map]
      rw [hl]
      unfold vS
      refine map_range_get _ _ _ fun i u hu => ?_
      rw [List.getD_eq_getElem?_getD, hu]
      rfl
    rw [eN] at key
    refine q_asgL key fun nl H4 hn4 e4 h4' => ?_
    refine q_when (b := !(kindNames lk).contains y.1.2) (et_is (et_test (ev_op (ev_var rfl) (ev_var rfl) (rv_niL (x := .str (strOf y.1.2)) (sq_of h4') rfl (flat_strs _)))) (by rw [inV_strs])) (fun hc H5 e5 => ?_) (fun hc H5 e5 => ?_)
    · have hc' : ¬ (kindNames lk).contains y.1.2 = true := by
        intro z
        rw [z] at hc
        cases hc
      rw [if_neg hc'] at k
      exact rd_raise (b := ⟨2, y.1.1⟩) (ea_cons ev_c (ea_cons (ev_is (ev_var rfl) (by rw [hpl])) ea_nil)) (rd_some (hR3.ex (e4.trans e5))) (Fails.go k (b13.trans (But.of (e4.trans e5))))
    · have hc' : (kindNames lk).contains y.1.2 = true := by
        cases z : (kindNames lk).contains y.1.2 with
        | true => rfl
        | false =>
          rw [z] at hc
          cases hc
      rw [if_pos hc'] at k
      have ev := ev_indexS (K := K) (ta := tVar 4) (te := tVar 3) (σ := [some (.ref r), some (.ref a), some (.int ((hd n l1).1 : Int)), some (.str (strOf y.1.2)), some (.ref nl), none]) (H := H5) (ev_var rfl) (sq_of (e5 _ _ h4')) (ev_var rfl) hc'
      exact s_retU (eu_tup (ea_cons ev_c (ea_cons ev ea_nil)) (by show 2 ≤ 100000; decide)) fun p H6 hp e6 h6 => made_tup2 k (b13.trans (But.of (e4.trans e5))) (hR3.ex (e4.trans e5)) hp e6 h6
def spSeason (K : PySem.W.Frag) : Sp := fun vs H Q E => ∃ (r a : Addr) (n : Nat) (l : Vbirak.Toks) (lk : Lake), vs = [.ref r, .ref a] ∧ RdAt K H r n l ∧ LakeAt K (del H r) a lk ∧ 1 ≤ lk.seasons ∧ Made K n r H Q E CondAt (seasonAt n lk l)
theorem ok_read_season (T : Tx K mg) (F_Reader_take_word : Fn P w K mg base 4 (He.ma K (He.ga K "Reader") "take_word") ["self", "word"] (spTakeWord K)) (F_Reader_take_number : Fn P w K mg base 4 (He.ma K (He.ga K "Reader") "take_number") ["self", "least", "most"] (spTakeNumber K)) : Fn P w K mg base 5 (He.ga K "read_season") ["reader", "lake"] (spSeason K) := by
  have sc : FnScope ["reader", "lake", "first"] ["reader", "lake"] (defScope s_read_season) := ⟨rfl, rfl, rfl, by decide +kernel, rfl, by decide +kernel, by decide +kernel⟩
  refine fn_mk (k := 4) T.fun_read_season sc (fun _ _ _ _ _ _ us hl => match us, hl with | [_, _], _ => rfl) (fun vs H Q E h => ?len) (fun cdv A outer s H vs Q E hr h => ⟨_, (pss_cons (ps_expr (pe_m F_Reader_take_word hr (by decide) (pv 0) T.cls_Reader T.meth_Reader_take_word (passes_call (takes_of rfl rfl rfl rfl) (fun _ _ _ _ h => h)) (pa_c pe_str pa_nil)))
      (pss_cons (ps_set (i := 2) sc.nd rfl (Or.inl rfl) (pe_m F_Reader_take_number hr (by decide) (pv 0) T.cls_Reader T.meth_Reader_take_number (passes_call (takes_of rfl rfl rfl rfl) (fun _ _ _ _ h => h)) (pa_c pe_int (pa_c (pe_op op_sub (pe_fld (pv 1) rfl) pe_int) pa_nil))))
      (pss_cons (ps_expr (pe_m F_Reader_take_word hr (by decide) (pv 0) T.cls_Reader T.meth_Reader_take_word (passes_call (takes_of rfl rfl rfl rfl) (fun _ _ _ _ h => h)) (pa_c pe_str pa_nil)))
      (pss_one (ps_ret (pe_tup (pa_c pe_str (pa_c (pv 2) (pa_c (pe_m F_Reader_take_number hr (by decide) (pv 0) T.cls_Reader T.meth_Reader_take_number (passes_call (takes_of rfl rfl rfl rfl) (fun _ _ _ _ h => h)) (pa_c (pv 2) (pa_c (pe_op op_sub (pe_fld (pv 1) rfl) pe_int) pa_nil))) pa_nil))))))))), ?rd⟩)
  case len =>
    obtain ⟨r, a, n, l, lk, rfl, _⟩ := h
    rfl
  case rd =>
    obtain ⟨r, a, n, l, lk, rfl, hR, hL, h1, k⟩ := h
    have gW := gw_of (s := "season") (by decide)
    have gT := gw_of (s := "to") (by decide)
    unfold seasonAt at k
    refine m_word gW (ev_var rfl) (ev_is ev_c (congrArg V.str gW.eq.symm)) hR ?_
    cases q1 : Vbirak.mustWord n "season" l with
    | error b =>
      rw [q1] at k
      exact k
    | ok l1 =>
    rw [q1] at k
    dsimp only at k
    intro H1 b1 hR1
    dsimp only
    have hL1 : LakeAt K H1 a lk := (hL.ex b1).ex ex_del
    have esub : ((lk.seasons : Int) - 1) = ((lk.seasons - 1 : Nat) : Int) := by omega
    refine m_num (lo := 0) (hi := lk.seasons - 1) (ev_var rfl) ev_c (ev_is (ev_op (ev_seasons T (ev_var rfl) hL1) ev_c rv_I0) (congrArg V.int esub)) hR1 ?_
    cases q2 : Vbirak.numAt n 0 (lk.seasons - 1) l1 with
    | error b =>
      rw [q2] at k
      exact Fails.go k b1
    | ok y =>
    rw [q2] at k
    dsimp only at k
    intro H2 b2 hR2
    have b12 : But r H H2 := b1.trans b2
    dsimp only [gName]
    refine m_word gT (ev_var rfl) (ev_is ev_c (congrArg V.str gT.eq.symm)) hR2 ?_
    cases q3 : Vbirak.mustWord n "to" y.2 with
    | error b =>
      rw [q3] at k
      exact Fails.go k b12
    | ok l3 =>
    rw [q3] at k
    dsimp only at k
    intro H3 b3 hR3
    have b13 : But r H H3 := b12.trans b3
    have hL3 : LakeAt K H3 a lk := (hL.ex b13).ex ex_del
    refine ⟨_, rfl, ?_⟩
    refine m_num (lo := y.1) (hi := lk.seasons - 1) (ev_var rfl) (ev_var rfl) (ev_is (ev_op (ev_seasons T (ev_var rfl) hL3) ev_c rv_I0) (congrArg V.int esub)) hR3 ?_
    cases q4 : Vbirak.numAt n y.1 (lk.seasons - 1) l3 with
    | error b =>
      rw [q4] at k
      exact Fails.go k b13
    | ok z =>
      rw [q4] at k
      intro H4 b4 hR4
      exact ⟨(by show 3 ≤ sizeLine; decide), fun p hp => made_tup k (b13.trans b4) hR4 p hp⟩
def spCond (K : PySem.W.Frag) : Sp := fun vs H Q E => ∃ (r a : Addr) (n : Nat) (l : Vbirak.Toks) (lk : Lake), vs = [.ref r, .ref a] ∧ RdAt K H r n l ∧ LakeAt K (del H r) a lk ∧ Fit lk ∧ Made K n r H Q E CondAt (Vbirak.condAt n lk l)
theorem Made.go {α : Type} {n : Nat} {r : Addr} {H H1 : Hp} {Q : VK} {E : XK} {R : Hp → Addr → α → Prop} (m : MonoR R) {x : Except Vbirak.Bad (α × Vbirak.Toks)} (h : Made K n r H Q E R x) (e : But r H H1) : Made K n r H1 Q E R x := by
  cases x with
  | error b => exact Fails.go h e
  | ok y => exact fun p H' e' hR hp => h p H' (e.trans e') hR (m _ _ _ _ (nw_back e) hp)
theorem ok_read_condition (T : Tx K mg) (F_Reader_sees : Fn P w K mg base 2 (He.ma K (He.ga K "Reader") "sees") ["self", "word"] (spSees K)) (F_read_level : Fn P w K mg base 5 (He.ga K "read_level") ["reader"] (spLevel K)) (F_read_was : Fn P w K mg base 5 (He.ga K "read_was") ["reader", "lake"] (spWas K)) (F_read_season : Fn P w K mg base 5 (He.ga K "read_season") ["reader", "lake"] (spSeason K)) (F_WrongText_init : Fn P w K mg base 1 (He.ma K (He.ga K "WrongText") "__init__") ["self", "kind", "place"] (spWrong K)) (F_Reader_here : Fn P w K mg base 2 (He.ma K (He.ga K "Reader") "here") ["self"] (spHere K)) : Fn P w K mg base 6 (He.ga K "read_condition") ["reader", "lake"] (spCond K) := by
  obtain ⟨_, g_CANNOT_STAND, r_CANNOT_STAND⟩ := T.cst_CANNOT_STAND
  have sc : FnScope ["reader", "lake"] ["reader", "lake"] (defScope s_read_condition) := ⟨rfl, rfl, rfl, by decide +kernel, rfl, by decide +kernel, by decide +kernel⟩
  refine fn_mk (k := 5) T.fun_read_condition sc (fun _ _ _ _ _ _ us hl => match us, hl with | [_, _], _ => rfl) (fun vs H Q E h => ?len) (fun cdv A outer s H vs Q E hr h => ⟨_, (pss_cons (ps_if (pt_val (pe_m F_Reader_sees hr (by decide) (pv 0) T.cls_Reader T.meth_Reader_sees (passes_call (takes_of rfl rfl rfl rfl) (fun _ _ _ _ h => h)) (pa_c pe_str pa_nil))) (pss_one (ps_ret (pe_f F_read_level hr (by decide) T.glo_read_level (passes_call (takes_of rfl rfl rfl rfl) (fun _ _ _ _ h => h)) (pa_c (pv 0) pa_nil)))) pss_nil)
      (pss_cons (ps_if (pt_val (pe_m F_Reader_sees hr (by decide) (pv 0) T.cls_Reader T.meth_Reader_sees (passes_call (takes_of rfl rfl rfl rfl) (fun _ _ _ _ h => h)) (pa_c pe_str pa_nil))) (pss_one (ps_ret (pe_f F_read_was hr (by decide) T.glo_read_was (passes_call (takes_of rfl rfl rfl rfl) (fun _ _ _ _ h => h)) (pa_c (pv 0) (pa_c (pv 1) pa_nil))))) pss_nil)
      (pss_cons (ps_if (pt_val (pe_m F_Reader_sees hr (by decide) (pv 0) T.cls_Reader T.meth_Reader_sees (passes_call (takes_of rfl rfl rfl rfl) (fun _ _ _ _ h => h)) (pa_c pe_str pa_nil))) (pss_one (ps_ret (pe_f F_read_season hr (by decide) T.glo_read_season (passes_call (takes_of rfl rfl rfl rfl) (fun _ _ _ _ h => h)) (pa_c (pv 0) (pa_c (pv 1) pa_nil))))) pss_nil)
      (pss_one (ps_raise rfl (takes_of rfl rfl rfl rfl) (pmk_x T.oxc T.ini_WrongText T.ity_WrongText F_WrongText_init hr (by decide) passL rfl T.glo_WrongText (pa_c (pe_glob rfl g_CANNOT_STAND r_CANNOT_STAND) (pa_c (pe_m0 F_Reader_here hr (by decide) (pv 0) T.cls_Reader T.meth_Reader_here (passes_call (takes_of rfl rfl rfl rfl) (fun _ _ _ _ h => h))) pa_nil)))))))), ?rd⟩)
  case len =>
    obtain ⟨r, a, n, l, lk, rfl, _⟩ := h
    rfl
  case rd =>
    obtain ⟨r, a, n, l, lk, rfl, hR, hL, F, k⟩ := h
    have gL := gw_of (s := "level") (by decide)
    have gW := gw_of (s := "was") (by decide)
    have gS := gw_of (s := "season") (by decide)
    refine q_when (et_B (ev_ahw gL (ev_var rfl) ev_c hR)) (fun c1 H1 e1 => ?_) (fun c1 H1 e1 => ?_)
    · have w0 := ahead_one (n := n) (s' := "was") c1 (by decide)
      have s0 := ahead_one (n := n) (s' := "season") c1 (by decide)
      rw [cond_level w0 s0] at k
      exact ⟨_, rfl, r, n, l, rfl, hR.ex e1, Made.go mono_cond k (But.of e1)⟩
    · refine q_when (et_B (ev_ahw gW (ev_var rfl) ev_c (hR.ex e1))) (fun c2 H2 e2 => ?_) (fun c2 H2 e2 => ?_)
      · rw [cond_was c2] at k
        exact ⟨_, rfl, _, rfl, r, a, n, l, lk, rfl, hR.ex (e1.trans e2), hL.ex (But.of (e1.trans e2)), F.w2, Made.go mono_cond k (But.of (e1.trans e2))⟩
      · refine q_when (et_B (ev_ahw gS (ev_var rfl) ev_c (hR.ex (e1.trans e2)))) (fun c3 H3 e3 => ?_) (fun c3 H3 e3 => ?_)
        · rw [cond_season c2 c3] at k
          exact ⟨_, rfl, _, rfl, r, a, n, l, lk, rfl, hR.ex ((e1.trans e2).trans e3), hL.ex (But.of ((e1.trans e2).trans e3)), F.s1, Made.go mono_cond k (But.of ((e1.trans e2).trans e3))⟩
        · rw [cond_level c2 c3] at k
          unfold levelAt at k
          rw [must_no c1] at k
          have hR3 := hR.ex ((e1.trans e2).trans e3)
          exact rd_raise (b := ⟨1, (hd n l).1⟩) (ea_cons ev_c (ea_cons (ev_here (ev_var rfl) hR3) ea_nil)) (rd_some hR3) (Fails.go k (But.of ((e1.trans e2).trans e3)))
def spLetting (K : PySem.W.Frag) : Sp := fun vs H Q E => ∃ (r : Addr) (n : Nat) (l : Vbirak.Toks), vs = [.ref r] ∧ RdAt K H r n l ∧ AfterP K n r H E (fun (y : Nat) _ H' => Q (.int (y : Int)) H') (lettingAt n l)
theorem ok_read_letting (T : Tx K mg) (F_Reader_take_word : Fn P w K mg base 4 (He.ma K (He.ga K "Reader") "take_word") ["self", "word"] (spTakeWord K)) (F_Reader_take_number : Fn P w K mg base 4 (He.ma K (He.ga K "Reader") "take_number") ["self", "least", "most"] (spTakeNumber K)) : Fn P w K mg base 5 (He.ga K "read_letting") ["reader"] (spLetting K) := by
  obtain ⟨_, g_MOST_LET, r_MOST_LET⟩ := T.cst_MOST_LET
  have sc : FnScope ["reader", "letting"] ["reader"] (defScope s_read_letting) := ⟨rfl, rfl, rfl, by decide +kernel, rfl, by decide +kernel, by decide +kernel⟩
  refine fn_mk (k := 4) T.fun_read_letting sc (fun _ _ _ _ _ _ us hl => match us, hl with | [_], _ => rfl) (fun vs H Q E h => ?len) (fun cdv A outer s H vs Q E hr h => ⟨_, (pss_cons (ps_expr (pe_m F_Reader_take_word hr (by decide) (pv 0) T.cls_Reader T.meth_Reader_take_word (passes_call (takes_of rfl rfl rfl rfl) (fun _ _ _ _ h => h)) (pa_c pe_str pa_nil)))
      (pss_cons (ps_set (i := 1) sc.nd rfl (Or.inl rfl) (pe_m F_Reader_take_number hr (by decide) (pv 0) T.cls_Reader T.meth_Reader_take_number (passes_call (takes_of rfl rfl rfl rfl) (fun _ _ _ _ h => h)) (pa_c pe_int (pa_c (pe_glob rfl g_MOST_LET r_MOST_LET) pa_nil))))
      (pss_cons (ps_expr (pe_m F_Reader_take_word hr (by decide) (pv 0) T.cls_Reader T.meth_Reader_take_word (passes_call (takes_of rfl rfl rfl rfl) (fun _ _ _ _ h => h)) (pa_c pe_str pa_nil)))
      (pss_one (ps_ret (pv 1)))))), ?rd⟩)
  case len =>
    obtain ⟨r, n, l, rfl, _⟩ := h
    rfl
  case rd =>
    obtain ⟨r, n, l, rfl, hR, k⟩ := h
    have gL := gw_of (s := "let") (by decide)
    unfold lettingAt at k
    rw [wordNum_eq] at k
    refine m_word gL (ev_var rfl) (ev_is ev_c (congrArg V.str gL.eq.symm)) hR ?_
    cases q1 : Vbirak.mustWord n "let" l with
    | error b =>
      rw [q1] at k
      exact k
    | ok l1 =>
    rw [q1] at k
    dsimp only at k
    intro H1 b1 hR1
    dsimp only
    refine m_num (lo := 0) (hi := 10) (ev_var rfl) ev_c ev_c hR1 ?_
    cases q2 : Vbirak.numAt n 0 10 l1 with
    | error b =>
      rw [q2] at k
      exact Fails.go k b1
    | ok y =>
    rw [q2] at k
    dsimp only at k
    intro H2 b2 hR2
    have b12 : But r H H2 := b1.trans b2
    dsimp only [gName]
    refine m_semi (ev_var rfl) ev_c hR2 ?_
    cases q3 : Vbirak.semi n y.2 with
    | error b =>
      rw [q3] at k
      exact Fails.go k b12
    | ok l3 =>
      rw [q3] at k
      intro H3 b3 hR3
      exact ⟨_, rfl, k H3 (b12.trans b3) hR3⟩
end
end Sl
namespace Sl
open PySem PySem.Spec PyProof.Rows L2
open Evl
open Vbirak (Lake Weather)
open Sm
theorem del_upd {H : Hp} {s r : Addr} {o : HO} (h : s ≠ r) : del (upd H s o) r = upd (del H r) s o := by
  funext b
  by_cases hb : b = r
  · rw [hb, del_same, upd_ne (Ne.symm h), del_same]
  · rw [del_ne hb]
    by_cases hs : b = s
    · rw [hs, upd_same, upd_same]
    · rw [upd_ne hs, upd_ne hs, del_ne hb]
section
variable {P : Program} {w : World} {K : PySem.W.Frag} {mg : Str → Option Value} {base : Heap}
/-- what conds do from behind a condition on -/
def condsOn (n : Nat) (lk : Lake) (f : Nat) (cs : List Vbirak.Cond) (l : Vbirak.Toks) : Except Vbirak.Bad (List Vbirak.Cond × Vbirak.Toks) := if Vbirak.wordAhead "and" l = true then Vbirak.condsAt n lk f cs (l.drop 1) else .ok (cs, l)
theorem condsAt_on (n : Nat) (lk : Lake) (f : Nat) (m : List Vbirak.Cond) (l : Vbirak.Toks) : Vbirak.condsAt n lk (f + 1) m l = match Vbirak.condAt n lk l with
    | .error b => .error b
    | .ok c => condsOn n lk f (m ++ [c.1]) c.2 := condsAt_eq n lk f m l
theorem bld_but {α : Type} {R : Hp → Addr → α → Prop} (m : MonoR R) {H H' H1 : Hp} {r s : Addr} {as : List Addr} {xs : List α} (b : Bld R (del H r) s as xs (del H' r)) (e : But r H' H1) : Bld R (del H r) s as xs (del H1 r) := b.on m e
def spRule (K : PySem.W.Frag) : Sp := fun vs H Q E => ∃ (r a : Addr) (n : Nat) (l : Vbirak.Toks) (lk : Lake), vs = [.ref r, .ref a] ∧ RdAt K H r n l ∧ LakeAt K (del H r) a lk ∧ Fit lk ∧ Made K n r H Q E (RuleAt K) (ruleAt n lk l)
theorem head_cond {H : Hp} {as : List Addr} {cs : List Vbirak.Cond} (h : All2 (CondAt H) as cs) : ∀ p, (as.map V.ref).head? = some (.ref p) → ∀ C dx x, H p ≠ some (.ins C dx (pieceF x)) := fun p hp C dx x hx => by
  cases as with
  | nil => cases hp
  | cons q qs =>
    have hq : q = p := by
      injection hp with hp
      injection hp
    subst hq
    obtain ⟨z, hz⟩ : ∃ z, cs[0]? = some z := ⟨_, List.getElem?_eq_getElem (by rw [← h.1]; simp)⟩
    have hd : H q = some (.tup (condV z)) := h.2 0 q z rfl hz
    rw [hd] at hx
    cases hx
theorem ok_read_rule (T : Tx K mg) (F_Reader_take_word : Fn P w K mg base 4 (He.ma K (He.ga K "Reader") "take_word") ["self", "word"] (spTakeWord K)) (F_read_condition : Fn P w K mg base 6 (He.ga K "read_condition") ["reader", "lake"] (spCond K)) (F_Reader_sees : Fn P w K mg base 2 (He.ma K (He.ga K "Reader") "sees") ["self", "word"] (spSees K)) (F_Rule_init : Fn P w K mg base 1 (He.ma K (He.ga K "Rule") "__init__") ["self", "conditions", "letting"] (spInit (He.ga K "Rule") ["conditions", "letting"])) (F_read_letting : Fn P w K mg base 5 (He.ga K "read_letting") ["reader"] (spLetting K)) : Fn P w K mg base 7 (He.ga K "read_rule") ["reader", "lake"] (spRule K) := by
  have sc : FnScope ["reader", "lake", "conditions"] ["reader", "lake"] (defScope s_read_rule) := ⟨rfl, rfl, rfl, by decide +kernel, rfl, by decide +kernel, by decide +kernel⟩
  refine fn_mk (k := 6) T.fun_read_rule sc (fun _ _ _ _ _ _ us hl => match us, hl with | [_, _], _ => rfl) (fun vs H Q E h => ?len) (fun cdv A outer s H vs Q E hr h => ⟨_, (pss_cons (ps_expr (pe_m F_Reader_take_word hr (by decide) (pv 0) T.cls_Reader T.meth_Reader_take_word (passes_call (takes_of rfl rfl rfl rfl) (fun _ _ _ _ h => h)) (pa_c pe_str pa_nil)))
      (pss_cons (ps_set (i := 2) sc.nd rfl (Or.inl rfl) (pe_lst (pa_c (pe_f F_read_condition hr (by decide) T.glo_read_condition (passes_call (takes_of rfl rfl rfl rfl) (fun _ _ _ _ h => h)) (pa_c (pv 0) (pa_c (pv 1) pa_nil))) pa_nil)))
      (pss_cons (ps_while (passes_of rfl) (pt_val (pe_m F_Reader_sees hr (by decide) (pv 0) T.cls_Reader T.meth_Reader_sees (passes_call (takes_of rfl rfl rfl rfl) (fun _ _ _ _ h => h)) (pa_c pe_str pa_nil))) (pss_cons (ps_expr (pe_m F_Reader_take_word hr (by decide) (pv 0) T.cls_Reader T.meth_Reader_take_word (passes_call (takes_of rfl rfl rfl rfl) (fun _ _ _ _ h => h)) (pa_c pe_str pa_nil)))
      (pss_one (ps_expr (pe_bm PySem.F.plainAttrs_list PySem.F.slot_list_append PySem.F.type_list_append mt_append (pv 2) (pa_c (pe_f F_read_condition hr (by decide) T.glo_read_condition (passes_call (takes_of rfl rfl rfl rfl) (fun _ _ _ _ h => h)) (pa_c (pv 0) (pa_c (pv 1) pa_nil))) pa_nil))))))
      (pss_one (ps_ret (pe_k F_Rule_init hr (by decide) T.mkr_Rule T.glo_Rule (passes_call (takes_of rfl rfl rfl rfl) (fun _ _ _ _ h => h)) (pa_c (pv 2) (pa_c (pe_f F_read_letting hr (by decide) T.glo_read_letting (passes_call (takes_of rfl rfl rfl rfl) (fun _ _ _ _ h => h)) (pa_c (pv 0) pa_nil)) pa_nil)))))))), ?rd⟩)
  case len =>
    obtain ⟨r, a, n, l, lk, rfl, _⟩ := h
    rfl
  case rd =>
    obtain ⟨r, a, n, l, lk, rfl, hR, hL, F, k⟩ := h
    have gW := gw_of (s := "when") (by decide)
    have gA := gw_of (s := "and") (by decide)
    unfold ruleAt at k
    refine m_word gW (ev_var rfl) (ev_is ev_c (congrArg V.str gW.eq.symm)) hR ?_
    cases q1 : Vbirak.mustWord n "when" l with
    | error b =>
      rw [q1] at k
      exact k
    | ok l1 =>
    rw [q1] at k
    dsimp only at k
    have lt1 := must_lt q1
    have hl := rd_len hR
    intro H1 b1 hR1
    dsimp only
    rw [condsAt_on] at k
    refine ⟨_, rfl, _, rfl, r, a, n, l1, lk, rfl, hR1, hL.ex b1, F, ?_⟩
    cases q2 : Vbirak.condAt n lk l1 with
    | error b =>
      rw [q2] at k
      exact Fails.go k b1
    | ok y =>
    rw [q2] at k
    dsimp only at k
    have lt2 := cond_lt q2
    intro c0 H2 b2 hR2 hc0
    have b12 : But r H H2 := b1.trans b2
    show tNil _ _ _
    refine ⟨(by show 1 ≤ sizeLine; decide), fun c hc => ?_⟩
    have hcr : c ≠ r := fun z => rd_some hR2 (by rw [← z]; exact hc)
    have hcH : H c = none := b12.none hc hcr
    have hc0' : CondAt (nw (del H r) (del H2 r)) c0 y.1 := mono_cond _ _ _ _ (nw_back b1) hc0
    obtain ⟨c0r, c0H, c02⟩ := nw_new hc0'
    have hc0c : c0 ≠ c := ne_of_none c02 hc
    have bld0 : Bld CondAt (del H r) c [c0] [y.1] (del (upd H2 c (.lst [.ref c0])) r) := by
      refine ⟨by rw [del_ne hcr]; exact hcH, b12.mut hcH, by rw [del_ne hcr]; exact upd_same, ?_⟩
      refine All2.cons All2.nil ?_
      show nw _ _ c0 = _
      rw [nw_at (by rw [del_ne c0r]; exact c0H), del_ne hc0c, del_ne c0r, upd_ne hc0c]
      exact c02
    have hR2' : RdAt K (upd H2 c (.lst [.ref c0])) r n y.2 := hR2.ex (Ex.new hc)
    revert hR2' bld0
    generalize upd H2 c (.lst [.ref c0]) = H3
    intro bld0 hR3
    dsimp only [gName]
    refine q_while (fun m σ' H' => ∃ (f : Nat) (cs : List Vbirak.Cond) (l' : Vbirak.Toks) (as : List Addr), Bld CondAt (del H r) c as cs (del H' r) ∧ RdAt K H' r n l' ∧ σ' = [some (.ref r), some (.ref a), some (.ref c)] ∧ m = l'.length ∧ l'.length < f ∧ cs.length + l'.length ≤ 2000 ∧ condsOn n lk f cs l' = condsOn n lk l.length ([] ++ [y.1]) y.2) y.2.length
      ⟨l.length, [y.1], y.2, [c0], bld0, hR3, rfl, rfl, by omega, by simp only [List.length_singleton]; omega, rfl⟩ ?_
    rintro m σ' H' ⟨f, cs, l', as, B, hR', rfl, rfl, hf, hz, hw⟩
    have bH : But r H H' := B.ex
    refine ⟨Vbirak.wordAhead "and" l', et_B (ev_ahw gA (ev_var rfl) ev_c hR'), fun hc1 H4 e4 => ⟨_, fun σ2 H2 z => z, ?_⟩, fun hc1 H4 e4 => ?_⟩
    · have hw1 : Vbirak.condsAt n lk f cs (l'.drop 1) = condsOn n lk l.length ([] ++ [y.1]) y.2 := by
        rw [← hw]
        unfold condsOn
        rw [if_pos hc1]
      clear hw
      have hw := hw1
      refine m_word gA (ev_var rfl) (ev_is ev_c (congrArg V.str gA.eq.symm)) (hR'.ex e4) ?_
      rw [must_yes hc1]
      intro H5 b5 hR5
      have b45 : But r H' H5 := (But.of e4).trans b5
      have B5 := bld_but mono_cond B b45
      obtain ⟨f', rfl⟩ : ∃ f', f = f' + 1 := ⟨f - 1, by omega⟩
      have lt4 : (l'.drop 1).length < l'.length := drop_lt (n := n) (by
        have := hc1
        rw [ahead_hd "and" n, decide_eq_true_eq] at this
        rw [this]
        intro z
        cases z)
      rw [condsAt_on] at hw
      have pc : H5 c = some (.lst (as.map V.ref)) := ex_del _ _ B5.it
      refine ⟨_, rfl, Or.inl ⟨rfl, _, sq_of pc⟩, _, rfl, _, rfl, r, a, n, l'.drop 1, lk, rfl, hR5, hL.ex (bH.trans b45), F, ?_⟩
      cases q6 : Vbirak.condAt n lk (l'.drop 1) with
      | error b =>
        rw [q6] at hw
        rw [← hw] at k
        exact Fails.go k (bH.trans b45)
      | ok y6 =>
        rw [q6] at hw
        dsimp only at hw
        have lt6 := cond_lt q6
        intro p H7 b7 hR7 hp7
        have B7 := B5.app (p := p) (x := y6.1) mono_cond b7 hp7
        have pc7 : H7 c = some (.lst (as.map V.ref)) := b7.at pc hcr
        have hA7 : All2 (CondAt H7) as cs := (bld_but mono_cond B5 b7).all.imp fun _ _ z => mono_cond _ _ _ _ (Ex.trans ex_nw (Ex.trans ex_del ex_del)) z
        rw [← del_upd hcr] at B7
        refine ⟨c, as.map V.ref, .ref p, rfl, rfl, pc7, ?_, y6.2.length, by omega, f', cs ++ [y6.1], y6.2, as ++ [p], B7, hR7.updL pc7 (head_cond hA7), rfl, rfl, by omega, ?_, hw⟩
        · rw [List.length_map, hA7.1]
          exact sz_lt (by omega)
        · rw [List.length_append]
          simp only [List.length_singleton]
          omega
    · have hw1 : .ok (cs, l') = condsOn n lk l.length ([] ++ [y.1]) y.2 := by
        rw [← hw]
        unfold condsOn
        rw [if_neg (by rw [hc1]; exact Bool.false_ne_true)]
      clear hw
      rw [← hw1] at k
      dsimp only at k
      have B4 := bld_but mono_cond B (But.of e4)
      refine ⟨_, rfl, _, rfl, r, n, l', rfl, hR'.ex e4, ?_⟩
      cases q5 : lettingAt n l' with
      | error b =>
        rw [q5] at k
        exact Fails.go k (bH.trans (But.of e4))
      | ok x =>
        rw [q5] at k
        intro H5 b5 hR5
        have B5 := bld_but mono_cond B4 b5
        have bH5 : But r H H5 := B5.ex
        show tNil _ _ _
        intro p dx hp hdx hne
        refine ⟨p, dx, [.ref c, .int (x.1 : Int)], rfl, rfl, upd_same, rfl, ?_⟩
        rw [upd_upd]
        have e6 : Ex H5 (upd (upd H5 dx (.own p)) p (.ins (He.ga K "Rule") dx ([("conditions" : Str), "letting"].zip [V.ref c, V.int (x.1 : Int)]))) := Ex.mut (Ex.mut (Ex.refl _) hdx) hp
        have hpr : p ≠ r := fun z => rd_some hR5 (by rw [← z]; exact hp)
        refine k p _ (bH5.trans (But.of e6)) (hR5.ex e6) ⟨dx, c, ?_, ?_⟩
        · rw [nw_but (bH5.none hp hpr) hpr]
          exact upd_same
        · exact ListAt.ex mono_cond (B5.done mono_cond) (nw_mono (del_mono e6))
def spReadStrategy (K : PySem.W.Frag) : Sp := fun vs H Q E => ∃ (a b : Addr) (t : List Nat) (lk : Lake), vs = [.ref a, .ref b] ∧ SqL K H a (vI t) ∧ t.length ≤ 2000 ∧ LakeAt K H b lk ∧ Fit lk ∧ ReadR K H Q E (StratAt K) (Vbirak.readStrategy lk t)
theorem head_rule {H : Hp} {as : List Addr} {cs : List (List Vbirak.Cond × Nat)} (h : All2 (RuleAt K H) as cs) : ∀ p, (as.map V.ref).head? = some (.ref p) → ∀ C dx x, H p ≠ some (.ins C dx (pieceF x)) := fun p hp C dx x hx => by
  cases as with
  | nil => cases hp
  | cons q qs =>
    have hq : q = p := by
      injection hp with hp
      injection hp
    subst hq
    obtain ⟨z, hz⟩ : ∃ z, cs[0]? = some z := ⟨_, List.getElem?_eq_getElem (by rw [← h.1]; simp)⟩
    obtain ⟨dy, cl, hd, _⟩ := h.2 0 q z rfl hz
    rw [hd] at hx
    have e := Option.some.inj hx
    injection e with _ _ e3
    have := congrArg List.length e3
    cases this
theorem ex_del_of {r : Addr} {H H' : Hp} (hr : H r = none) (e : Ex H H') : Ex H (del H' r) := fun b o h => by
  rw [del_ne (ne_of_none h hr)]
  exact e _ _ h
theorem ok_read_strategy (T : Tx K mg) (F_Reader_init : Fn P w K mg base 4 (He.ma K (He.ga K "Reader") "__init__") ["self", "text"] (spReader K)) (F_Reader_sees : Fn P w K mg base 2 (He.ma K (He.ga K "Reader") "sees") ["self", "word"] (spSees K)) (F_WrongText_init : Fn P w K mg base 1 (He.ma K (He.ga K "WrongText") "__init__") ["self", "kind", "place"] (spWrong K)) (F_Reader_here : Fn P w K mg base 2 (He.ma K (He.ga K "Reader") "here") ["self"] (spHere K)) (F_read_rule : Fn P w K mg base 7 (He.ga K "read_rule") ["reader", "lake"] (spRule K)) (F_Reader_take_word : Fn P w K mg base 4 (He.ma K (He.ga K "Reader") "take_word") ["self", "word"] (spTakeWord K)) (F_read_letting : Fn P w K mg base 5 (He.ga K "read_letting") ["reader"] (spLetting K)) (F_Reader_take_end : Fn P w K mg base 4 (He.ma K (He.ga K "Reader") "take_end") ["self"] (spTakeEnd K)) (F_Strategy_init : Fn P w K mg base 1 (He.ma K (He.ga K "Strategy") "__init__") ["self", "rules", "otherwise"] (spInit (He.ga K "Strategy") ["rules", "otherwise"])) : Fn P w K mg base 8 (He.ga K "read_strategy") ["text", "lake"] (spReadStrategy K) := by
  obtain ⟨_, g_MOST_RULES, r_MOST_RULES⟩ := T.cst_MOST_RULES
  obtain ⟨_, g_TOO_OFTEN, r_TOO_OFTEN⟩ := T.cst_TOO_OFTEN
  have sc : FnScope ["text", "lake", "reader", "rules", "otherwise"] ["text", "lake"] (defScope s_read_strategy) := ⟨rfl, rfl, rfl, by decide +kernel, rfl, by decide +kernel, by decide +kernel⟩
  refine fn_mk (k := 7) T.fun_read_strategy sc (fun _ _ _ _ _ _ us hl => match us, hl with | [_, _], _ => rfl) (fun vs H Q E h => ?len) (fun cdv A outer s H vs Q E hr h => ⟨_, (pss_cons (ps_set (i := 2) sc.nd rfl (Or.inl rfl) (pe_k F_Reader_init hr (by decide) T.mkr_Reader T.glo_Reader (passes_call (takes_of rfl rfl rfl rfl) (fun _ _ _ _ h => h)) (pa_c (pv 0) pa_nil)))
      (pss_cons (ps_set (i := 3) sc.nd rfl (Or.inl rfl) (pe_lst pa_nil))
      (pss_cons (ps_while (passes_of rfl) (pt_val (pe_m F_Reader_sees hr (by decide) (pv 2) T.cls_Reader T.meth_Reader_sees (passes_call (takes_of rfl rfl rfl rfl) (fun _ _ _ _ h => h)) (pa_c pe_str pa_nil))) (pss_cons (ps_if (pt_cmpR op_eq (pe_callB call_len_seq (by rfl) T.free_len PySem.boot_len (pa_c (pv 3) pa_nil)) (pe_glob rfl g_MOST_RULES r_MOST_RULES) (nomark _)) (pss_one (ps_raise rfl (takes_of rfl rfl rfl rfl) (pmk_x T.oxc T.ini_WrongText T.ity_WrongText F_WrongText_init hr (by decide) passL rfl T.glo_WrongText (pa_c (pe_glob rfl g_TOO_OFTEN r_TOO_OFTEN) (pa_c (pe_m0 F_Reader_here hr (by decide) (pv 2) T.cls_Reader T.meth_Reader_here (passes_call (takes_of rfl rfl rfl rfl) (fun _ _ _ _ h => h))) pa_nil))))) pss_nil)
      (pss_one (ps_expr (pe_bm PySem.F.plainAttrs_list PySem.F.slot_list_append PySem.F.type_list_append mt_append (pv 3) (pa_c (pe_f F_read_rule hr (by decide) T.glo_read_rule (passes_call (takes_of rfl rfl rfl rfl) (fun _ _ _ _ h => h)) (pa_c (pv 2) (pa_c (pv 1) pa_nil))) pa_nil))))))
      (pss_cons (ps_expr (pe_m F_Reader_take_word hr (by decide) (pv 2) T.cls_Reader T.meth_Reader_take_word (passes_call (takes_of rfl rfl rfl rfl) (fun _ _ _ _ h => h)) (pa_c pe_str pa_nil)))
      (pss_cons (ps_set (i := 4) sc.nd rfl (Or.inl rfl) (pe_f F_read_letting hr (by decide) T.glo_read_letting (passes_call (takes_of rfl rfl rfl rfl) (fun _ _ _ _ h => h)) (pa_c (pv 2) pa_nil)))
      (pss_cons (ps_expr (pe_m0 F_Reader_take_end hr (by decide) (pv 2) T.cls_Reader T.meth_Reader_take_end (passes_call (takes_of rfl rfl rfl rfl) (fun _ _ _ _ h => h))))
      (pss_one (ps_ret (pe_k F_Strategy_init hr (by decide) T.mkr_Strategy T.glo_Strategy (passes_call (takes_of rfl rfl rfl rfl) (fun _ _ _ _ h => h)) (pa_c (pv 3) (pa_c (pv 4) pa_nil))))))))))), ?rd⟩)
  case len =>
    obtain ⟨a, b, t, lk, rfl, _⟩ := h
    rfl
  case rd =>
    obtain ⟨a, b, t, lk, rfl, hS, ht, hL, F, k⟩ := h
    have gW := gw_of (s := "when") (by decide)
    have gE := gw_of (s := "else") (by decide)
    rw [strategy_eq, toks_pcs] at k
    refine ⟨_, rfl, ?_⟩
    intro x dx hx hdx hne
    have e0 : Ex H (upd (upd H dx (.own x)) x (.ins (He.ga K "Reader") dx [])) := Ex.mut (Ex.mut (Ex.refl _) hdx) hx
    revert e0
    generalize hH0 : upd (upd H dx (.own x)) x (.ins (He.ga K "Reader") dx []) = H0
    intro e0
    refine ⟨x, dx, a, t, rfl, by rw [← hH0]; exact upd_same, ex_l e0 hS, ht, fun H1 b1 hR1 => ⟨rfl, ?_⟩⟩
    have x1 : Ex H H1 := ex_but hx e0 b1
    dsimp only [gName]
    refine q_asgL (xs := []) (el_lst ea_nil (by decide)) fun s H2 hs2 e2 h2 => ?_
    have hsx : s ≠ x := fun z => rd_some hR1 (by rw [← z]; exact hs2)
    have hsH : H s = none := fresh_back x1 hs2
    have B0 : Bld (RuleAt K) H s [] [] (del H2 x) := ⟨hsH, ex_del_of hx (x1.trans e2), by rw [del_ne hsx]; exact h2, All2.nil⟩
    have hlen := rd_len hR1
    refine q_while (fun m σ' H' => ∃ (f : Nat) (ms : List (List Vbirak.Cond × Nat)) (l' : Vbirak.Toks) (as : List Addr), Bld (RuleAt K) H s as ms (del H' x) ∧ RdAt K H' x t.length l' ∧ σ' = [some (.ref a), some (.ref b), some (.ref x), some (.ref s), none] ∧ m = l'.length ∧ l'.length < f ∧ ms.length ≤ 12 ∧ Vbirak.rulesAt t.length lk f ms l' = Vbirak.rulesAt t.length lk ((stopW (pcs t)).length + 1) [] (stopW (pcs t))) (stopW (pcs t)).length
      ⟨(stopW (pcs t)).length + 1, [], stopW (pcs t), [], B0, hR1.ex e2, rfl, rfl, by omega, Nat.zero_le _, rfl⟩ ?_
    rintro m σ' H' ⟨f, ms, l', as, B, hR', rfl, rfl, hf, h12, hw⟩
    obtain ⟨f', rfl⟩ : ∃ f', f = f' + 1 := ⟨f - 1, by omega⟩
    rw [rulesAt_eq] at hw
    have xH : Ex H H' := B.ex.trans ex_del
    refine ⟨Vbirak.wordAhead "when" l', et_B (ev_ahw gW (ev_var rfl) ev_c hR'), fun hc1 H4 e4 => ⟨_, fun σ2 H2 z => z, ?_⟩, fun hc1 H4 e4 => ?_⟩
    · rw [if_pos hc1] at hw
      have B4 := B.on (mono_rule K) (del_mono (s := x) e4)
      have pc : H4 s = some (.lst (as.map V.ref)) := ex_del _ _ B4.it
      have hml : (as.map V.ref).length = ms.length := by rw [List.length_map, B.len]
      refine q_when (b := decide (12 ≤ ms.length)) (et_is (et_test (ev_op (ev_lenL (ev_var rfl) (sq_of pc)) ev_c (rv_eq rfl))) ?_) (fun hq H5 e5 => ?_) (fun hq H5 e5 => ?_)
      · refine decide_eq_decide.mpr ⟨fun z => ?_, fun z => ?_⟩
        · injection z with z
          rw [hml] at z
          omega
        · have : ms.length = 12 := by omega
          rw [hml, this]
          rfl
      · rw [if_pos (show Vbirak.RULES ≤ ms.length from of_decide_eq_true hq)] at hw
        rw [← hw] at k
        have hR5 := hR'.ex (e4.trans e5)
        exact rd_raise (b := ⟨3, (hd t.length l').1⟩) (ea_cons ev_c (ea_cons (ev_here (ev_var rfl) hR5) ea_nil)) (rd_some hR5) (FailsE.rd k hx ((xH.trans e4).trans e5))
      · have hq' : ¬ 12 ≤ ms.length := of_decide_eq_false hq
        rw [if_neg (show ¬ Vbirak.RULES ≤ ms.length from hq')] at hw
        have hR5 := hR'.ex (e4.trans e5)
        have B5 := B4.on (mono_rule K) (del_mono (s := x) e5)
        have pc5 : H5 s = some (.lst (as.map V.ref)) := e5 _ _ pc
        have x5 : Ex H H5 := (xH.trans e4).trans e5
        refine ⟨_, rfl, Or.inl ⟨rfl, _, sq_of pc5⟩, _, rfl, _, rfl, x, b, t.length, l', lk, rfl, hR5, hL.ex (ex_del_of hx x5), F, ?_⟩
        cases q6 : ruleAt t.length lk l' with
        | error bb =>
          rw [q6] at hw
          rw [← hw] at k
          exact FailsE.rd k hx x5
        | ok y6 =>
          rw [q6] at hw
          dsimp only at hw
          have lt6 := rule_lt q6
          intro p H7 b7 hR7 hp7
          have B7 := B5.app (p := p) (x := y6.1) (mono_rule K) b7 hp7
          have pc7 : H7 s = some (.lst (as.map V.ref)) := b7.at pc5 hsx
          have hA7 : All2 (RuleAt K H7) as ms := (B5.on (mono_rule K) b7).all.imp fun _ _ z => mono_rule K _ _ _ _ (Ex.trans ex_nw (Ex.trans ex_del ex_del)) z
          rw [← del_upd hsx] at B7
          refine ⟨s, as.map V.ref, .ref p, rfl, rfl, pc7, ?_, y6.2.length, by omega, f', ms ++ [y6.1], y6.2, as ++ [p], B7, hR7.updL pc7 (head_rule hA7), rfl, rfl, by omega, ?_, hw⟩
          · rw [hml]
            exact sz_lt (by omega)
          · rw [List.length_append]
            simp only [List.length_singleton]
            omega
    · rw [if_neg (by rw [hc1]; exact Bool.false_ne_true)] at hw
      rw [← hw] at k
      have B4 := B.on (mono_rule K) (del_mono (s := x) e4)
      have x4 : Ex H H4 := xH.trans e4
      refine m_word gE (ev_var rfl) (ev_is ev_c (congrArg V.str gE.eq.symm)) (hR'.ex e4) ?_
      cases q5 : Vbirak.mustWord t.length "else" l' with
      | error bb =>
        rw [q5] at k
        exact FailsE.rd k hx x4
      | ok l5 =>
      rw [q5] at k
      dsimp only at k
      intro H5 b5 hR5
      have B5 := B4.on (mono_rule K) b5
      have x5 : Ex H H5 := B5.ex.trans ex_del
      refine ⟨_, rfl, x, t.length, l5, rfl, hR5, ?_⟩
      cases q6 : lettingAt t.length l5 with
      | error bb =>
        rw [q6] at k
        exact FailsE.rd k hx x5
      | ok y6 =>
      rw [q6] at k
      dsimp only at k
      intro H6 b6 hR6
      have B6 := B5.on (mono_rule K) b6
      have x6 : Ex H H6 := B6.ex.trans ex_del
      dsimp only [gName]
      refine ev_rdm (ev_var rfl) hR6 ea_nil fun H7 e7 => ⟨x, t.length, y6.2, rfl, hR6.ex e7, fun hz => ?_, fun hz => ?_⟩
      · rw [if_pos hz] at k
        intro H8 b8 hR8
        have B8 := (B6.on (mono_rule K) (del_mono (s := x) e7)).on (mono_rule K) b8
        have x8 : Ex H H8 := B8.ex.trans ex_del
        refine s_retN (R := InsAt (He.ga K "Strategy") ([("rules" : Str), "otherwise"].zip [V.ref s, V.int (y6.1 : Int)])) (en_make (ea_cons (ev_var rfl) (ea_cons (ev_var rfl) ea_nil)) rfl) fun p H9 e9 hp => ?_
        obtain ⟨dp, hp⟩ := hp
        refine k p H9 (x8.trans e9) ⟨dp, s, nw_back x8 _ _ hp, ?_⟩
        exact ListAt.ex (mono_rule K) (B8.done (mono_rule K)) (nw_mono (ex_del.trans e9))
      · rw [if_neg hz] at k
        exact FailsE.rd k hx (x6.trans e7)
end
end Sl
namespace Sl
open PySem PySem.Spec PyProof.Rows L2
open Evl
open Vbirak (Lake Weather)
open Sm
/-! ### seasons gone by -/
def courseF (la sl : Addr) (x b t h : Nat) : List (Str × V) := [("lake", .ref la), ("level", .int (x : Int)), ("before", .int (b : Int)), ("season", .int (t : Int)), ("had", .int (h : Int)), ("steps", .ref sl)]
section
variable (la sl : Addr) (x b t h y : Nat)
theorem lk_co_lake : (courseF la sl x b t h).lookup ("lake" : Str) = some (.ref la) := lk1
theorem lk_co_level : (courseF la sl x b t h).lookup ("level" : Str) = some (.int (x : Int)) := (lk2 (by decide +kernel)).trans lk1
theorem lk_co_before : (courseF la sl x b t h).lookup ("before" : Str) = some (.int (b : Int)) := (lk2 (by decide +kernel)).trans ((lk2 (by decide +kernel)).trans lk1)
theorem lk_co_season : (courseF la sl x b t h).lookup ("season" : Str) = some (.int (t : Int)) := (lk2 (by decide +kernel)).trans ((lk2 (by decide +kernel)).trans ((lk2 (by decide +kernel)).trans lk1))
theorem lk_co_had : (courseF la sl x b t h).lookup ("had" : Str) = some (.int (h : Int)) := (lk2 (by decide +kernel)).trans ((lk2 (by decide +kernel)).trans ((lk2 (by decide +kernel)).trans ((lk2 (by decide +kernel)).trans lk1)))
theorem lk_co_steps : (courseF la sl x b t h).lookup ("steps" : Str) = some (.ref sl) := (lk2 (by decide +kernel)).trans ((lk2 (by decide +kernel)).trans ((lk2 (by decide +kernel)).trans ((lk2 (by decide +kernel)).trans ((lk2 (by decide +kernel)).trans lk1))))
theorem put_co_level : putF "level" (.int (y : Int)) (courseF la sl x b t h) = courseF la sl y b t h := (pf2 (by decide +kernel)).trans (congrArg _ pf1)
theorem put_co_before : putF "before" (.int (y : Int)) (courseF la sl x b t h) = courseF la sl x y t h := (pf2 (by decide +kernel)).trans (congrArg _ ((pf2 (by decide +kernel)).trans (congrArg _ pf1)))
theorem put_co_season : putF "season" (.int (y : Int)) (courseF la sl x b t h) = courseF la sl x b y h := (pf2 (by decide +kernel)).trans (congrArg _ ((pf2 (by decide +kernel)).trans (congrArg _ ((pf2 (by decide +kernel)).trans (congrArg _ pf1)))))
theorem put_co_had : putF "had" (.int (y : Int)) (courseF la sl x b t h) = courseF la sl x b t y := (pf2 (by decide +kernel)).trans (congrArg _ ((pf2 (by decide +kernel)).trans (congrArg _ ((pf2 (by decide +kernel)).trans (congrArg _ ((pf2 (by decide +kernel)).trans (congrArg _ pf1)))))))
theorem lk_co_meth {m : Str} (h1 : (m == ("lake" : Str)) = false) (h2 : (m == ("level" : Str)) = false) (h3 : (m == ("before" : Str)) = false) (h4 : (m == ("season" : Str)) = false) (h5 : (m == ("had" : Str)) = false) (h6 : (m == ("steps" : Str)) = false) : (courseF la sl x b t h).lookup m = none :=
  (lk2 h1).trans ((lk2 h2).trans ((lk2 h3).trans ((lk2 h4).trans ((lk2 h5).trans ((lk2 h6).trans rfl)))))
end
/-- the course in the heap: all of G stands beside it -/
def CoAt (K : PySem.W.Frag) (G H : Hp) (c la : Addr) (x b t h : Nat) (st : List Nat) : Prop := Ex G H ∧ G c = none ∧ ∃ dx sl, G sl = none ∧ H c = some (.ins (He.ga K "Course") dx (courseF la sl x b t h)) ∧ H sl = some (.lst (vI st))
theorem CoAt.ex {K : PySem.W.Frag} {G H H' : Hp} {c la : Addr} {x b t h : Nat} {st : List Nat} (z : CoAt K G H c la x b t h st) (e : Ex H H') : CoAt K G H' c la x b t h st := by
  obtain ⟨g, gc, dx, sl, gs, h1, h2⟩ := z
  exact ⟨g.trans e, gc, dx, sl, gs, e _ _ h1, e _ _ h2⟩
theorem CoAt.less {K : PySem.W.Frag} {G G' H : Hp} {c la : Addr} {x b t h : Nat} {st : List Nat} (z : CoAt K G H c la x b t h st) (e : Ex G' G) : CoAt K G' H c la x b t h st := by
  obtain ⟨g, gc, dx, sl, gs, h1, h2⟩ := z
  exact ⟨e.trans g, fresh_back e gc, dx, sl, fresh_back e gs, h1, h2⟩
section
variable {K : PySem.W.Frag} {σ : L2.St} {H : Hp} {ta tv te : TE} {tz : TS} {D : Ends} {E : XK}
theorem s_fld {c C dx : Addr} {fs : List (Str × V)} {f : Str} {v : V} (hv : Ev tv σ H v) (ho : Ev ta σ H (.ref c)) (hc : H c = some (.ins C dx fs)) (cl : Cls K C) (na : NoAttr K C f) (few : fs.length < 1000) (k : ∀ H1, Ex H H1 → D.nx σ (upd H1 c (.ins C dx (putF f v fs)))) : sFld K ta tv f D σ H :=
  hv H (Ex.refl H) _ fun H1 e1 => ho H1 e1 _ fun H2 e2 => ⟨c, C, dx, fs, rfl, e2 _ _ (e1 _ _ hc), cl, na, few, k H2 (e1.trans e2)⟩
theorem q_fld {c C dx : Addr} {fs : List (Str × V)} {f : Str} {v : V} (hv : Ev tv σ H v) (ho : Ev ta σ H (.ref c)) (hc : H c = some (.ins C dx fs)) (cl : Cls K C) (na : NoAttr K C f) (few : fs.length < 1000) (k : ∀ H1, Ex H H1 → tz D σ (upd H1 c (.ins C dx (putF f v fs)))) : tSeq (sFld K ta tv f) tz D σ H :=
  s_fld (D := { D with nx := tz D }) hv ho hc cl na few k
theorem q_fldaug {c C dx : Addr} {fs : List (Str × V)} {f : Str} {i j : Int} (ho : Ev ta σ H (.ref c)) (hc : H c = some (.ins C dx fs)) (cl : Cls K C) (na : NoAttr K C f) (lk : fs.lookup f = some (.int i)) (hv : Ev tv σ H (.int j)) (few : fs.length < 1000) (k : ∀ H1, Ex H H1 → tz D σ (upd H1 c (.ins C dx (putF f (.int (i + j)) fs)))) : tSeq (sFldAug K ta tv rAdd f) tz D σ H :=
  ho H (Ex.refl H) _ fun H1 e1 => ⟨c, C, dx, fs, _, rfl, e1 _ _ hc, cl, na, lk, hv H1 e1 _ fun H2 e2 => ⟨i, j, rfl, rfl, dx, fs, e2 _ _ (e1 _ _ hc), few, k H2 (e1.trans e2)⟩⟩
/-- xs.extend(a new list) -/
theorem s_ext {l : Addr} {xs ys : List V} (hl : H l = some (.lst xs)) (ha : Ev ta σ H (.ref l)) (h : EvL te σ H ys) (hz : xs.length + ys.length ≤ 100000) (k : ∀ H1, Ex H H1 → D.nx σ (upd H1 l (.lst (xs ++ ys)))) :
    tDrop (tBM K "list" rExtend ta (tCons te tNil)) D σ H := ha H (Ex.refl H) _ fun H1 e1 =>
  ⟨Or.inl ⟨rfl, xs, sq_of (e1 l _ hl)⟩, h H1 e1 _ fun p H2 _ e2 hp => ⟨l, p, xs, ys, rfl, rfl, e2 l _ (e1 l _ hl), hp, sz_of hz, k H2 (e1.trans e2)⟩⟩
/-- a new list + a list -/
theorem el_cat {b : Addr} {xs ys : List V} (ha : EvL ta σ H xs) (hb : Ev tv σ H (.ref b)) (hy : H b = some (.lst ys)) (hz : xs.length + ys.length ≤ 100000) : EvL (tOp rCat ta tv) σ H (xs ++ ys) := fun H1 e Q q =>
  ha H1 e _ fun p H2 _ e2 hp => hb H2 (e.trans e2) _ fun H3 e3 => ⟨p, b, xs, ys, rfl, rfl, e3 _ _ hp, e3 _ _ (e2 _ _ (e _ _ hy)), sz_of hz, fun z hz => q z _ (fresh_back (e2.trans e3) hz) ((e2.trans e3).trans (Ex.new hz)) upd_same⟩
/-- a new list + a new list -/
theorem el_catL {xs ys : List V} (ha : EvL ta σ H xs) (hb : EvL tv σ H ys) (hz : xs.length + ys.length ≤ 100000) : EvL (tOp rCat ta tv) σ H (xs ++ ys) := fun H1 e Q q =>
  ha H1 e _ fun p H2 _ e2 hp => hb H2 (e.trans e2) _ fun p3 H3 _ e3 hy => ⟨p, p3, xs, ys, rfl, rfl, e3 _ _ hp, hy, sz_of hz, fun z hz => q z _ (fresh_back (e2.trans e3) hz) ((e2.trans e3).trans (Ex.new hz)) upd_same⟩
/-- season_table(..)[r] -/
theorem ev_table {ta : TA} {a : Addr} {l : Lake} {t r n : Nat} {ns : List Nat} (ha : EvA ta σ H [.ref a, .int (t : Int)]) (hL : LakeAt K H a l) (hy : l.yields[t % l.yields.length]? = some ns) (hb : Ev te σ H (.int (r : Int))) (hr : ns[r]? = some n) : Ev (tOp (rIxL K) (tCall (spSeasonTable K) [] E ta) te) σ H (.int (n : Int)) := fun H1 e Q q =>
  ha H1 e _ fun H2 e2 => ⟨a, l, t, ns, rfl, hL.ex (e.trans e2), hy, fun p H3 e3 hp => hb H3 ((e.trans e2).trans e3) _ fun H4 e4 => (rv_ixL (sq_of (hp.ex e4)) (atI_nat (vI_get hr))) H4 (Ex.refl H4) Q fun H5 e5 => q H5 (((e2.trans e3).trans e4).trans e5)⟩
end
section
variable {P : Program} {w : World} {K : PySem.W.Frag} {mg : Str → Option Value} {base : Heap}
def spCourse (K : PySem.W.Frag) : Sp := fun vs H Q _ => ∃ (c dx la : Addr) (x b : Nat), vs = [.ref c, .ref la, .int (x : Int), .int (b : Int)] ∧ H c = some (.ins (He.ga K "Course") dx []) ∧ ∀ H', CoAt K (del H c) H' c la x b 0 0 [] → Q .non H'
theorem ok_Course_init (T : Tx K mg)  : Fn P w K mg base 1 (He.ma K (He.ga K "Course") "__init__") ["self", "lake", "level", "before"] (spCourse K) := by
  have sc : FnScope ["self", "lake", "level", "before"] ["self", "lake", "level", "before"] (defScope s_Course_init) := ⟨rfl, rfl, rfl, by decide +kernel, rfl, by decide +kernel, by decide +kernel⟩
  refine fn_mk (k := 0) T.fun_Course_init sc (fun _ _ _ _ _ _ us hl => match us, hl with | [_, _, _, _], _ => rfl) (fun vs H Q E h => ?len) (fun cdv A outer s H vs Q E hr h => ⟨_, (pss_cons (ps_fld (pv 0) (pv 1) rfl)
      (pss_cons (ps_fld (pv 0) (pv 2) rfl)
      (pss_cons (ps_fld (pv 0) (pv 3) rfl)
      (pss_cons (ps_fld (pv 0) pe_int rfl)
      (pss_cons (ps_fld (pv 0) pe_int rfl)
      (pss_one (ps_fld (pv 0) (pe_lst pa_nil) rfl))))))), ?rd⟩)
  case len =>
    obtain ⟨c, dx, la, x, b, rfl, _⟩ := h
    rfl
  case rd =>
    obtain ⟨c, dx, la, x, b, rfl, hp, k⟩ := h
    refine ⟨_, rfl, _, rfl, c, _, dx, [], rfl, hp, T.cls_Course, T.noat_Course_lake, fwl fw0 (by decide), ?_⟩
    refine ⟨_, rfl, _, rfl, c, _, dx, _, rfl, upd_same, T.cls_Course, T.noat_Course_level, fwl (fwS fw0) (by decide), ?_⟩
    refine ⟨_, rfl, _, rfl, c, _, dx, _, rfl, upd_same, T.cls_Course, T.noat_Course_before, fwl (fwS (fwS fw0)) (by decide), ?_⟩
    refine ⟨_, rfl, c, _, dx, _, rfl, upd_same, T.cls_Course, T.noat_Course_season, fwl (fwS (fwS (fwS fw0))) (by decide), ?_⟩
    refine ⟨_, rfl, c, _, dx, _, rfl, upd_same, T.cls_Course, T.noat_Course_had, fwl (fwS (fwS (fwS (fwS fw0)))) (by decide), ?_⟩
    rw [upd_upd, upd_upd, upd_upd, upd_upd]
    refine ⟨(by show 0 ≤ sizeLine; decide), fun sl hsl => ?_⟩
    have hne : sl ≠ c := fun z => by
      rw [z, upd_same] at hsl
      cases hsl
    have hH : H sl = none := by
      rw [upd_ne hne] at hsl
      exact hsl
    refine ⟨_, rfl, c, _, dx, _, rfl, (by rw [upd_ne (Ne.symm hne)]; exact upd_same), T.cls_Course, T.noat_Course_steps, fwl (fwS (fwS (fwS (fwS (fwS fw0))))) (by decide), ?_⟩
    refine k _ ⟨?_, del_same, dx, sl, by rw [del_ne hne]; exact hH, upd_same, by rw [upd_ne hne]; exact upd_same⟩
    intro z o hz
    by_cases hzc : z = c
    · rw [hzc, del_same] at hz
      cases hz
    · rw [del_ne hzc] at hz
      rw [upd_ne hzc, upd_ne (ne_of_none hz hH), upd_ne hzc]
      exact hz
theorem co_stay {G H : Hp} {c sl : Addr} {o : HO} (g : Ex G H) (hc : G c = none) : Ex G (upd H c o) := fun z p hz => by
  rw [upd_ne (ne_of_none hz hc)]
  exact g _ _ hz
def spPass (K : PySem.W.Frag) : Sp := fun vs H Q _ => ∃ (G : Hp) (c la : Addr) (l : Lake) (x b t h : Nat) (st ns : List Nat) (r k n : Nat), vs = [.ref c, .int (r : Int), .int (k : Int)] ∧ CoAt K G H c la x b t h st ∧ LakeAt K G la l ∧ r ≤ x ∧ l.yields[t % l.yields.length]? = some ns ∧ ns[r]? = some n ∧ k < l.weathers.length ∧ st.length ≤ 1000 ∧ ∀ H', CoAt K G H' c la (lb l (x - r) k) k (t + 1) (h + n) (st ++ [r, k, lb l (x - r) k]) → Q .non H'
theorem co_few (la sl : Addr) (x b t h : Nat) : (courseF la sl x b t h).length < 1000 := (by decide : 6 < 1000)
theorem ok_Course_pass_season (T : Tx K mg) (F_season_table : Fn P w K mg base 1 (He.ga K "season_table") ["lake", "season"] (spSeasonTable K)) (F_level_behind : Fn P w K mg base 1 (He.ga K "level_behind") ["lake", "left", "kind"] (spLevelBehind K)) : Fn P w K mg base 2 (He.ma K (He.ga K "Course") "pass_season") ["self", "letting", "kind"] (spPass K) := by
  have sc : FnScope ["self", "letting", "kind"] ["self", "letting", "kind"] (defScope s_Course_pass_season) := ⟨rfl, rfl, rfl, by decide +kernel, rfl, by decide +kernel, by decide +kernel⟩
  refine fn_mk (k := 1) T.fun_Course_pass_season sc (fun _ _ _ _ _ _ us hl => match us, hl with | [_, _, _], _ => rfl) (fun vs H Q E h => ?len) (fun cdv A outer s H vs Q E hr h => ⟨_, (pss_cons (ps_fldaug (pv 0) (pe_ix ix_list (pe_f F_season_table hr (by decide) T.glo_season_table (passes_call (takes_of rfl rfl rfl rfl) (fun _ _ _ _ h => h)) (pa_c (pe_fld (pv 0) rfl) (pa_c (pe_fld (pv 0) rfl) pa_nil))) (pv 1) (fun _ _ => rfl)) in_add)
      (pss_cons (ps_fld (pv 0) (pe_f F_level_behind hr (by decide) T.glo_level_behind (passes_call (takes_of rfl rfl rfl rfl) (fun _ _ _ _ h => h)) (pa_c (pe_fld (pv 0) rfl) (pa_c (pe_op op_sub (pe_fld (pv 0) rfl) (pv 1)) (pa_c (pv 2) pa_nil)))) rfl)
      (pss_cons (ps_fld (pv 0) (pv 2) rfl)
      (pss_cons (ps_fldaug (pv 0) pe_int in_add)
      (pss_one (ps_expr (pe_bm PySem.F.plainAttrs_list PySem.F.slot_list_extend PySem.F.type_list_extend mt_extend (pe_fld (pv 0) rfl) (pa_c (pe_lst (pa_c (pv 1) (pa_c (pv 2) (pa_c (pe_fld (pv 0) rfl) pa_nil)))) pa_nil)))))))), ?rd⟩)
  case len =>
    obtain ⟨G, c, la, l, x, b, t, h, st, ns, r, k, n, rfl, _⟩ := h
    rfl
  case rd =>
    obtain ⟨G, c, la, l, x, b, t, h, st, ns, r, k, n, rfl, ⟨g, gc, dx, sl, gs, h1, h2⟩, hL, hrx, hy, hn, hk, hst, q⟩ := h
    have hcs : sl ≠ c := fun z => by
      rw [z, h1] at h2
      cases h2
    refine q_fldaug (ev_var rfl) h1 T.cls_Course T.noat_Course_had (lk_co_had ..) (ev_table (ea_cons (ev_fld (ev_var rfl) h1 T.cls_Course T.noat_Course_lake (lk_co_lake ..)) (ea_cons (ev_fld (ev_var rfl) h1 T.cls_Course T.noat_Course_season (lk_co_season ..)) ea_nil)) (hL.ex g) hy (ev_var rfl) hn) (co_few ..) fun H1 e1 => ?_
    have i1 : ((h : Int) + (n : Int)) = ((h + n : Nat) : Int) := rfl
    rw [i1, put_co_had]
    have g1 : Ex G (upd H1 c (.ins (He.ga K "Course") dx (courseF la sl x b t (h + n)))) := co_stay (sl := sl) (g.trans e1) gc
    have s1 : upd H1 c (.ins (He.ga K "Course") dx (courseF la sl x b t (h + n))) sl = some (.lst (vI st)) := by
      rw [upd_ne hcs]
      exact e1 _ _ h2
    have c1 : upd H1 c (.ins (He.ga K "Course") dx (courseF la sl x b t (h + n))) c = some (.ins (He.ga K "Course") dx (courseF la sl x b t (h + n))) := upd_same
    revert g1 s1 c1
    generalize upd H1 c (.ins (He.ga K "Course") dx (courseF la sl x b t (h + n))) = H2
    intro g1 s1 c1
    have i2 : ((x : Int) - (r : Int)) = ((x - r : Nat) : Int) := by omega
    refine q_fld (v := .int ((lb l (x - r) k : Nat) : Int)) (ev_call (ea_cons (ev_fld (ev_var rfl) c1 T.cls_Course T.noat_Course_lake (lk_co_lake ..)) (ea_cons (ev_is (ev_op (ev_fld (ev_var rfl) c1 T.cls_Course T.noat_Course_level (lk_co_level ..)) (ev_var rfl) rv_I0) (congrArg V.int i2)) (ea_cons (ev_var rfl) ea_nil))) (spv_level (hL.ex g1) hk)) (ev_var rfl) c1 T.cls_Course T.noat_Course_level (co_few ..) fun H3 e3 => ?_
    rw [put_co_level]
    have g3 : Ex G (upd H3 c (.ins (He.ga K "Course") dx (courseF la sl (lb l (x - r) k) b t (h + n)))) := co_stay (sl := sl) (g1.trans e3) gc
    have s3 : upd H3 c (.ins (He.ga K "Course") dx (courseF la sl (lb l (x - r) k) b t (h + n))) sl = some (.lst (vI st)) := by
      rw [upd_ne hcs]
      exact e3 _ _ s1
    have c3 : upd H3 c (.ins (He.ga K "Course") dx (courseF la sl (lb l (x - r) k) b t (h + n))) c = some (.ins (He.ga K "Course") dx (courseF la sl (lb l (x - r) k) b t (h + n))) := upd_same
    revert g3 s3 c3
    generalize upd H3 c (.ins (He.ga K "Course") dx (courseF la sl (lb l (x - r) k) b t (h + n))) = H4
    intro g3 s3 c3
    refine q_fld (ev_var rfl) (ev_var rfl) c3 T.cls_Course T.noat_Course_before (co_few ..) fun H5 e5 => ?_
    rw [put_co_before]
    refine q_fldaug (ev_var rfl) upd_same T.cls_Course T.noat_Course_season (lk_co_season ..) ev_c (co_few ..) fun H6 e6 => ?_
    have i3 : ((t : Int) + 1) = ((t + 1 : Nat) : Int) := rfl
    rw [i3, put_co_season]
    have g6 : Ex G (upd H6 c (.ins (He.ga K "Course") dx (courseF la sl (lb l (x - r) k) k (t + 1) (h + n)))) := co_stay (sl := sl) ((co_stay (sl := sl) (g3.trans e5) gc).trans e6) gc
    have s6 : upd H6 c (.ins (He.ga K "Course") dx (courseF la sl (lb l (x - r) k) k (t + 1) (h + n))) sl = some (.lst (vI st)) := by
      rw [upd_ne hcs]
      refine e6 _ _ ?_
      rw [upd_ne hcs]
      exact e5 _ _ s3
    have c6 : upd H6 c (.ins (He.ga K "Course") dx (courseF la sl (lb l (x - r) k) k (t + 1) (h + n))) c = some (.ins (He.ga K "Course") dx (courseF la sl (lb l (x - r) k) k (t + 1) (h + n))) := upd_same
    revert g6 s6 c6
    generalize upd H6 c (.ins (He.ga K "Course") dx (courseF la sl (lb l (x - r) k) k (t + 1) (h + n))) = H7
    intro g6 s6 c6
    refine s_ext (ys := [.int (r : Int), .int (k : Int), .int ((lb l (x - r) k : Nat) : Int)]) s6 (ev_fld (ev_var rfl) c6 T.cls_Course T.noat_Course_steps (lk_co_steps ..)) (el_lst (ea_cons (ev_var rfl) (ea_cons (ev_var rfl) (ea_cons (ev_fld (ev_var rfl) c6 T.cls_Course T.noat_Course_level (lk_co_level ..)) ea_nil))) (by show 3 ≤ 100000; decide)) ?_ fun H8 e8 => ?_
    · rw [vI_len]
      show st.length + 3 ≤ 100000
      omega
    refine q _ ⟨co_stay (sl := sl) (g6.trans e8) gs, gc, dx, sl, gs, ?_, ?_⟩
    · rw [upd_ne (Ne.symm hcs)]
      exact e8 _ _ c6
    · rw [upd_same]
      unfold vI
      rw [List.map_append]
      rfl
def spReport (K : PySem.W.Frag) : Sp := fun vs H Q _ => ∃ (G : Hp) (c la : Addr) (l : Lake) (x b t h : Nat) (st : List Nat), vs = [.ref c] ∧ CoAt K G H c la x b t h st ∧ LakeAt K G la l ∧ Fit l ∧ st.length ≤ 1000 ∧ RetL (vI ((h + if t = l.seasons then l.rest * x else 0) :: st)) H Q
theorem ok_Course_report (T : Tx K mg)  : Fn P w K mg base 1 (He.ma K (He.ga K "Course") "report") ["self"] (spReport K) := by
  have sc : FnScope ["self", "had"] ["self"] (defScope s_Course_report) := ⟨rfl, rfl, rfl, by decide +kernel, rfl, by decide +kernel, by decide +kernel⟩
  refine fn_mk (k := 0) T.fun_Course_report sc (fun _ _ _ _ _ _ us hl => match us, hl with | [_], _ => rfl) (fun vs H Q E h => ?len) (fun cdv A outer s H vs Q E hr h => ⟨_, (pss_cons (ps_set (i := 1) sc.nd rfl (Or.inl rfl) (pe_fld (pv 0) rfl))
      (pss_cons (ps_if (pt_cmpR op_eq (pe_fld (pv 0) rfl) (pe_fld (pe_fld (pv 0) rfl) rfl) (nomark _)) (pss_one (ps_aug (i := 1) sc.nd rfl (Or.inl rfl) (pe_op op_mul (pe_fld (pe_fld (pv 0) rfl) rfl) (pe_fld (pv 0) rfl)) ip_add)) pss_nil)
      (pss_one (ps_ret (pe_op op_cat (pe_lst (pa_c (pv 1) pa_nil)) (pe_fld (pv 0) rfl)))))), ?rd⟩)
  case len =>
    obtain ⟨G, c, la, l, x, b, t, h, st, rfl, _⟩ := h
    rfl
  case rd =>
    obtain ⟨G, c, la, l, x, b, t, h, st, rfl, ⟨g, gc, dx, sl, gs, h1, h2⟩, hL, F, hst, q⟩ := h
    refine q_asg (ev_fld (ev_var rfl) h1 T.cls_Course T.noat_Course_had (lk_co_had ..)) fun H1 e1 => ?_
    have fin : ∀ (m : Nat) (H3 : Hp), Ex H H3 → m = (h + if t = l.seasons then l.rest * x else 0) → tRet (tOp rCat (tLst (tCons (tVar 1) tNil)) (tFld K (tVar 0) "steps")) { nx := fun _ H' => Q .non H', rt := Q } [some (.ref c), some (.int (m : Int))] H3 := fun m H3 e3 hm => by
      subst hm
      exact s_retL (el_cat (el_lst (vs := [.int (((h + if t = l.seasons then l.rest * x else 0 : Nat)) : Int)]) (ea_cons (ev_var rfl) ea_nil) (by show 1 ≤ 100000; decide)) (ev_fld (ev_var rfl) (e3 _ _ h1) T.cls_Course T.noat_Course_steps (lk_co_steps ..)) (e3 _ _ h2) (by rw [vI_len]; show 1 + st.length ≤ 100000; omega)) fun p H4 hp e4 h4 => q p H4 (fresh_back e3 hp) (e3.trans e4) h4
    refine q_when (b := decide (t = l.seasons)) (et_is (et_test (ev_op (ev_fld (ev_var rfl) (e1 _ _ h1) T.cls_Course T.noat_Course_season (lk_co_season ..)) (ev_seasons T (ev_fld (ev_var rfl) (e1 _ _ h1) T.cls_Course T.noat_Course_lake (lk_co_lake ..)) (hL.ex (g.trans e1))) (rv_eq rfl))) ?_) (fun hb H2 e2 => ?_) (fun hb H2 e2 => ?_)
    · refine decide_eq_decide.mpr ⟨fun z => ?_, fun z => by rw [z]⟩
      injection z with z
      omega
    · refine s_aug rfl (b := ((l.rest * x : Nat) : Int)) (ev_is (ev_op (ev_rest T (ev_fld (ev_var rfl) (e2 _ _ (e1 _ _ h1)) T.cls_Course T.noat_Course_lake (lk_co_lake ..)) (hL.ex ((g.trans e1).trans e2))) (ev_fld (ev_var rfl) (e2 _ _ (e1 _ _ h1)) T.cls_Course T.noat_Course_level (lk_co_level ..)) (rv_I (C := CMul) (g := fun i j => V.int (i * j)) ?_)) ?_) fun H3 e3 => ?_
      · left
        have := F.rest
        omega
      · show V.int ((l.rest : Int) * (x : Int)) = _
        rw [Int.natCast_mul]
      · refine fin (h + l.rest * x) H3 ((e1.trans e2).trans e3) ?_
        rw [if_pos (of_decide_eq_true hb)]
    · refine fin h H2 (e1.trans e2) ?_
      rw [if_neg (of_decide_eq_false hb)]
      rfl
end
end Sl
namespace Sm
open Vbirak
theorem headD_cons {α : Type} (a d : α) (l : List α) : (a :: l).headD d = a := rfl
theorem rowsFrom_len (l : Lake) : ∀ n, (rowsFrom l n).length = n + 1
  | 0 => rfl
  | n + 1 => by
    show (rowBefore l (l.seasons - (n + 1)) ((rowsFrom l n).headD []) :: rowsFrom l n).length = _
    rw [List.length_cons, rowsFrom_len l n]
theorem rowsFrom_at (l : Lake) : ∀ (i n : Nat), i ≤ n → (rowsFrom l n)[i]? = some ((rowsFrom l (n - i)).headD [])
  | 0, n, _ => by
    cases n with
    | zero => rfl
    | succ n => rfl
  | i + 1, 0, h => by omega
  | i + 1, n + 1, h => by
    have ih := rowsFrom_at l i n (by omega)
    show (rowBefore l (l.seasons - (n + 1)) ((rowsFrom l n).headD []) :: rowsFrom l n)[i + 1]? = _
    rw [List.getElem?_cons_succ, ih, show n + 1 - (i + 1) = n - i from by omega]
theorem row_before (l : Lake) (t : Nat) (row : Row) : RowFit l (rowBefore l t row) := by
  unfold rowBefore
  refine ⟨by rw [List.length_map, List.length_range], fun k xs h => ?_⟩
  rw [List.getElem?_map] at h
  cases e : (List.range l.weathers.length)[k]? with
  | none =>
    rw [e] at h
    cases h
  | some j =>
    rw [e] at h
    cases h
    rw [List.length_map, List.length_range]
theorem row_end (l : Lake) : RowFit l (endRow l) := by
  unfold endRow
  refine ⟨List.length_map .., fun k xs h => ?_⟩
  rw [List.getElem?_map] at h
  cases e : l.weathers[k]? with
  | none =>
    rw [e] at h
    cases h
  | some j =>
    rw [e] at h
    cases h
    rw [List.length_map, List.length_range]
theorem head_fit (l : Lake) : ∀ n, RowFit l ((rowsFrom l n).headD [])
  | 0 => row_end l
  | n + 1 => row_before l _ _
/-- the row of a season -/
def rowAt (l : Lake) (t : Nat) : Row := (rowsFrom l (l.seasons - t)).headD []
theorem rows_at (l : Lake) {t : Nat} (h : t ≤ l.seasons) : (rows l)[t]? = some (rowAt l t) := rowsFrom_at l t _ h
theorem rowAt_fit (l : Lake) (t : Nat) : RowFit l (rowAt l t) := head_fit l _
theorem rows_getD (l : Lake) {t : Nat} (h : t ≤ l.seasons) : (rows l).getD t [] = rowAt l t := by
  rw [List.getD_eq_getElem?_getD, rows_at l h] <;> rfl
theorem rowAt_step (l : Lake) {t : Nat} (h : t < l.seasons) : rowAt l t = rowBefore l t (rowAt l (t + 1)) := by
  unfold rowAt
  obtain ⟨m, hm⟩ : ∃ m, l.seasons - t = m + 1 := ⟨l.seasons - t - 1, by omega⟩
  rw [hm, show l.seasons - (t + 1) = m from by omega]
  show rowBefore l (l.seasons - (m + 1)) _ = _
  rw [show l.seasons - (m + 1) = t from by omega]
theorem before_at (l : Lake) (t : Nat) (row : Row) {w x : Nat} (hw : w < l.weathers.length) (hx : x ≤ l.holds) : ∃ ns, (rowBefore l t row)[w]? = some ns ∧ ns[x]? = some (best l t row x w).2 := by
  refine ⟨(List.range (l.holds + 1)).map fun x => (best l t row x w).2, ?_, ?_⟩
  · unfold rowBefore
    rw [List.getElem?_map, List.getElem?_range hw] <;> rfl
  · rw [List.getElem?_map, List.getElem?_range (by omega)] <;> rfl
theorem rows_len (l : Lake) : (rows l).length = l.seasons + 1 := rowsFrom_len l _
/-! ### seasons gone by -/
def hadOf (l : Lake) (g : List Went) : Nat := g.zipIdx.foldl (fun n y => n + yieldAt l (0 + y.2) y.1.out) 0
def levOf (x : Nat) (g : List Went) : Nat := (g.getLast?.map fun y => y.level).getD x
def stepsOf (g : List Went) : List Nat := g.flatMap fun y => [y.out, y.kind, y.level]
theorem had_snoc (l : Lake) (g : List Went) (y : Went) : hadOf l (g ++ [y]) = hadOf l g + yieldAt l g.length y.out := by
  unfold hadOf
  rw [List.zipIdx_append, List.foldl_append]
  simp
theorem lev_snoc (x : Nat) (g : List Went) (y : Went) : levOf x (g ++ [y]) = y.level := by
  unfold levOf
  rw [List.getLast?_append]
  simp
theorem steps_snoc (g : List Went) (y : Went) : stepsOf (g ++ [y]) = stepsOf g ++ [y.out, y.kind, y.level] := by
  unfold stepsOf
  rw [List.flatMap_append]
  simp
theorem steps_len : ∀ g : List Went, (stepsOf g).length = 3 * g.length
  | [] => rfl
  | y :: g => by
    have := steps_len g
    unfold stepsOf at this ⊢
    rw [List.flatMap_cons, List.length_append, this, List.length_cons]
    simp only [List.length_cons, List.length_nil]
    omega
theorem answered_eq (l : Lake) (x : Nat) (g : List Went) : answered l x g = 0 :: nums ((hadOf l g + if g.length = l.seasons then l.rest * levOf x g else 0) :: stepsOf g) := by
  unfold answered
  have h1 : yieldOf l 0 x g = hadOf l g + if g.length = l.seasons then l.rest * levOf x g else 0 := by
    unfold yieldOf hadOf levOf
    rw [Nat.zero_add]
  have h2 : wentRow g = nums (stepsOf g) := by
    unfold wentRow stepsOf nums
    rw [List.map_flatMap]
  rw [h1, h2]
  rfl
theorem yield_at {l : Lake} (F : Fit l) (t : Nat) {r : Nat} (hr : r ≤ l.gate) : ∃ ns, l.yields[t % l.yields.length]? = some ns ∧ ns[r]? = some (yieldAt l t r) := by
  have hy := F.y1
  have hm : t % l.yields.length < l.yields.length := Nat.mod_lt _ (by omega)
  have hl := F.y3 _ (List.getElem_mem hm)
  refine ⟨_, List.getElem?_eq_getElem hm, ?_⟩
  have e : l.yields.getD (t % l.yields.length) [] = l.yields[t % l.yields.length] := by
    rw [List.getD_eq_getElem?_getD, List.getElem?_eq_getElem hm] <;> rfl
  have e2 : yieldAt l t r = (l.yields[t % l.yields.length]).getD r 0 := by
    unfold yieldAt
    rw [e]
  rw [e2, List.getD_eq_getElem?_getD, List.getElem?_eq_getElem (by omega)]
  rfl
end Sm
namespace Sm
open Vbirak
/-! ### what a strategy is sure of, row by row -/
theorem keptFrom_len (l : Lake) (s : Strategy) : ∀ n, (keptFrom l s n).length = n + 1
  | 0 => rfl
  | n + 1 => by
    show (keptRow l s (l.seasons - (n + 1)) ((keptFrom l s n).headD []) :: keptFrom l s n).length = _
    rw [List.length_cons, keptFrom_len l s n]
theorem keptFrom_at (l : Lake) (s : Strategy) : ∀ (i n : Nat), i ≤ n → (keptFrom l s n)[i]? = some ((keptFrom l s (n - i)).headD [])
  | 0, n, _ => by
    cases n with
    | zero => rfl
    | succ n => rfl
  | i + 1, 0, h => by omega
  | i + 1, n + 1, h => by
    have ih := keptFrom_at l s i n (by omega)
    show (keptRow l s (l.seasons - (n + 1)) ((keptFrom l s n).headD []) :: keptFrom l s n)[i + 1]? = _
    rw [List.getElem?_cons_succ, ih, show n + 1 - (i + 1) = n - i from by omega]
theorem kept_row (l : Lake) (s : Strategy) (t : Nat) (row : Row) : RowFit l (keptRow l s t row) := by
  unfold keptRow
  refine ⟨by rw [List.length_map, List.length_range], fun k xs h => ?_⟩
  rw [List.getElem?_map] at h
  cases e : (List.range l.weathers.length)[k]? with
  | none =>
    rw [e] at h
    cases h
  | some j =>
    rw [e] at h
    cases h
    rw [List.length_map, List.length_range]
def keptAt (l : Lake) (s : Strategy) (t : Nat) : Row := (keptFrom l s (l.seasons - t)).headD []
theorem kept_at (l : Lake) (s : Strategy) {t : Nat} (h : t ≤ l.seasons) : (kept l s)[t]? = some (keptAt l s t) := keptFrom_at l s t _ h
theorem keptHead_fit (l : Lake) (s : Strategy) : ∀ n, RowFit l ((keptFrom l s n).headD [])
  | 0 => row_end l
  | n + 1 => kept_row l s _ _
theorem keptAt_fit (l : Lake) (s : Strategy) (t : Nat) : RowFit l (keptAt l s t) := keptHead_fit l s _
theorem keptAt_step (l : Lake) (s : Strategy) {t : Nat} (h : t < l.seasons) : keptAt l s t = keptRow l s t (keptAt l s (t + 1)) := by
  unfold keptAt
  obtain ⟨m, hm⟩ : ∃ m, l.seasons - t = m + 1 := ⟨l.seasons - t - 1, by omega⟩
  rw [hm, show l.seasons - (t + 1) = m from by omega]
  show keptRow l s (l.seasons - (m + 1)) _ = _
  rw [show l.seasons - (m + 1) = t from by omega]
theorem keptAt_end (l : Lake) (s : Strategy) : keptAt l s l.seasons = endRow l := by
  unfold keptAt
  rw [Nat.sub_self]
  rfl
theorem rowAt_end (l : Lake) : rowAt l l.seasons = endRow l := by
  unfold rowAt
  rw [Nat.sub_self]
  rfl
theorem kept_entry (l : Lake) (s : Strategy) (t : Nat) (row : Row) {w x : Nat} (hw : w < l.weathers.length) (hx : x ≤ l.holds) : ∃ ns, (keptRow l s t row)[w]? = some ns ∧ ns[x]? = some (worth l t row x w (letBy l s t x w)) := by
  refine ⟨(List.range (l.holds + 1)).map fun x => worth l t row x w (letBy l s t x w), ?_, ?_⟩
  · unfold keptRow
    rw [List.getElem?_map, List.getElem?_range hw] <;> rfl
  · rw [List.getElem?_map, List.getElem?_range (by omega)] <;> rfl
theorem head_kept (l : Lake) (s : Strategy) : (kept l s).headD [] = keptAt l s 0 := rfl
theorem head_rows (l : Lake) : (rows l).headD [] = rowAt l 0 := rfl
theorem sure_entry {l : Lake} {row : Row} (R : RowFit l row) {k x : Nat} (hk : k < l.weathers.length) (hx : x ≤ l.holds) : ∃ ns, row[k]? = some ns ∧ ns[x]? = some (sureAt row k x) := by
  have hk' : k < row.length := by
    rw [R.len]
    exact hk
  have hl := R.each k _ (List.getElem?_eq_getElem hk')
  have hx' : x < (row[k]).length := by omega
  refine ⟨row[k], List.getElem?_eq_getElem hk', ?_⟩
  simp [sureAt, List.getD_eq_getElem?_getD, List.getElem?_eq_getElem hk', List.getElem?_eq_getElem hx']
/-! ### what a strategy lets out -/
theorem letBy_le (l : Lake) (s : Strategy) (t x w : Nat) : letBy l s t x w ≤ x ∧ letBy l s t x w ≤ l.gate := by
  unfold letBy
  have h1 := Nat.min_le_right (((s.rules.find? fun r => r.1.all (holds t x w)).map fun r => r.2).getD s.other) (min x l.gate)
  have h2 := Nat.min_le_left x l.gate
  have h3 := Nat.min_le_right x l.gate
  omega
theorem by_step (l : Lake) (s : Strategy) (t x w k : Nat) (r : List Nat) : byFrom l s t x w (k :: r) = ⟨letBy l s t x w, k, lb l (x - letBy l s t x w) k⟩ :: byFrom l s (t + 1) (lb l (x - letBy l s t x w) k) k r := rfl
/-! ### known weather -/
theorem known_len (l : Lake) : ∀ (t : Nat) (ks : List Nat), (knownRow l t ks).length = l.holds + 1
  | _, [] => by
    show ((List.range (l.holds + 1)).map _).length = _
    rw [List.length_map, List.length_range]
  | t, k :: r => by
    show ((List.range (l.holds + 1)).map _).length = _
    rw [List.length_map, List.length_range]
def knownOf (l : Lake) (t : Nat) (later : List Nat) (k x : Nat) : List Nat := (lettings l x).map fun out => yieldAt l t out + later.getD (lb l (x - out) k) 0
/-- the greatest of some numbers -/
theorem most_of (f : Nat → Nat) (L : List Nat) (hL : L ≠ []) : ∃ m, m ∈ L.map f ∧ (∀ y ∈ L.map f, y ≤ m) ∧ ((firstMost f L).map fun y => y.2).getD 0 = m := by
  obtain ⟨y, hy⟩ := fm_some f L hL
  obtain ⟨e1, j, e2, e3, e4⟩ := fm_spec f L y hy
  refine ⟨y.2, ?_, ?_, by rw [hy]; rfl⟩
  · rw [e1]
    exact List.mem_map.mpr ⟨y.1, List.mem_of_getElem? e2, rfl⟩
  · intro z hz
    obtain ⟨q, hq, rfl⟩ := List.mem_map.mp hz
    obtain ⟨i, hi, rfl⟩ := List.getElem_of_mem hq
    exact e3 i _ (List.getElem?_eq_getElem hi)
theorem known_at (l : Lake) (t k : Nat) (r : List Nat) {x : Nat} (hx : x ≤ l.holds) : ∃ m, (knownRow l t (k :: r))[x]? = some m ∧ m ∈ knownOf l t (knownRow l (t + 1) r) k x ∧ ∀ y ∈ knownOf l t (knownRow l (t + 1) r) k x, y ≤ m := by
  obtain ⟨m, h1, h2, h3⟩ := most_of (fun out => yieldAt l t out + (knownRow l (t + 1) r).getD (levelBehind l x out k) 0) (lettings l x) (lettings_ne l x)
  refine ⟨m, ?_, h1, h2⟩
  show ((List.range (l.holds + 1)).map _)[x]? = some m
  rw [List.getElem?_map, List.getElem?_range (by omega)]
  exact congrArg some h3
/-! ### a greater lake -/
theorem fit_more {l : Lake} (F : Fit l) {n : Nat} (h : l.holds + n ≤ 40) : Fit { l with holds := l.holds + n } := ⟨h, F.s1, F.s2, F.gate, F.rest, F.w1, F.w2, F.name, F.brings, F.n1, F.n2, F.n3, F.y1, F.y2, F.y3, F.y4⟩
end Sm
namespace Sl
open PySem PySem.Spec PyProof.Rows L2
open Evl
open Vbirak (Lake Weather)
open Sm
/-! ### what a strategy lets out -/
section
variable {K : PySem.W.Frag} {σ : L2.St} {H : Hp} {ta tl te : TE} {tz : TS} {D : Ends} {R : Hp → Addr → Prop}
theorem et_strY {p q : Str} (h : Ev ta σ H (.str p)) (e : p = q) : EvT (tTest (tOp rEq ta (tC (.str q)))) σ H true := et_is (et_test (ev_op h ev_c (rv_eq rfl))) (decide_eq_true (congrArg V.str e))
theorem et_strN {p q : Str} (h : Ev ta σ H (.str p)) (e : p ≠ q) : EvT (tTest (tOp rEq ta (tC (.str q)))) σ H false := et_is (et_test (ev_op h ev_c (rv_eq rfl))) (decide_eq_false fun z => e (by injection z))
theorem ev_ixT {p : Addr} {xs : List V} {k : Nat} {v : V} (h : Ev ta σ H (.ref p)) (hp : H p = some (.tup xs)) (hv : xs[k]? = some v) : Ev (tOp (rIxT K) ta (tC (.int (k : Int)))) σ H v := ev_op h ev_c (rv_ixT (st_of hp) (atI_nat hv))
theorem q_asgN {i : Nat} (h : EvN te σ H R) (k : ∀ p H1, Ex H H1 → R (nw H H1) p → tz D (σ.set i (some (.ref p))) H1) : tSeq (tAsg te (gName i)) tz D σ H := h H (Ex.refl H) _ fun p H1 e r => k p H1 e r
theorem s_asgN {i : Nat} (h : EvN te σ H R) (k : ∀ p H1, Ex H H1 → R (nw H H1) p → D.nx (σ.set i (some (.ref p))) H1) : tAsg te (gName i) D σ H := h H (Ex.refl H) _ fun p H1 e r => k p H1 e r
/-- [e for i, x in enumerate(xs)] -/
theorem el_lcE {a : Addr} {xs : List V} {i j : Nat} {vs : List Nat} (v : Nat → V) (h : Ev tl σ H (.ref a)) (hx : SqL K H a xs) (hz : xs.length ≤ 40000) (hw : ∀ x y, wipe (((wipe σ vs).set i (some x)).set j (some y)) vs = wipe σ vs)
    (he : ∀ (k : Nat) (x : V) H1, Ex H H1 → xs[k]? = some x → Ev te (((wipe σ vs).set i (some (.int (k : Int)))).set j (some x)) H1 (v k)) :
    EvL (tLc (iEnum K (tCons tl tNil)) (gTup K 2 (gCons (gName i) (gCons (gName j) gNil))) tYes te vs) σ H ((List.range xs.length).map v) := fun H0 e Q q => h H0 e _ fun H1 e1 => ⟨a, xs, rfl, ex_l (e.trans e1) hx, fun Dl hD => by
  refine ⟨fun k m H' => m = xs.length - k ∧ k ≤ xs.length ∧ Cw H1 (fun _ => true) v Dl k H', ⟨xs.length, rfl, Nat.zero_le _, hD, Ex.new hD, upd_same⟩, ?_⟩
  rintro k m H' ⟨rfl, hk, p⟩
  have q2 : SqL K H' a xs := ex_l ((e.trans e1).trans p.2.1) hx
  by_cases hlt : k < xs.length
  · refine .inr ⟨⟨xs, xs[k], q2, List.getElem?_eq_getElem hlt⟩, Cw H1 (fun _ => true) v Dl (k + 1), fun H2 p' => ⟨xs.length - (k + 1), by omega, rfl, hlt, p'⟩, fun y H2 hy => ?_⟩
    obtain ⟨T', x, rfl, hT, rfl, hx2⟩ := hy
    have hxk := hx2 xs q2
    obtain ⟨c1, c2, c3⟩ := p
    refine ⟨T', _, rfl, SqT.of upd_same, rfl, _, _, rfl, _, _, rfl, rfl, hw _ _, ?_⟩
    exact cw_turn (t := tYes) (f := fun _ => true) ⟨c1, c2.trans (Ex.new hT), Ex.new hT _ _ c3⟩ (by omega) et_yes fun _ => he k x H1 (e.trans e1) hxk
  · have e2 : k = xs.length := by omega
    subst e2
    refine .inl ⟨⟨xs, q2, Nat.le_refl _⟩, q Dl H' (fresh_back e1 p.1) (e1.trans p.2.1) ?_⟩
    have := p.2.2
    rw [given_all] at this
    exact this⟩
end
theorem ref_at {as : List Addr} {i : Nat} {x : V} (h : (as.map V.ref)[i]? = some x) : ∃ c, as[i]? = some c ∧ x = .ref c := by
  rw [List.getElem?_map] at h
  cases e : as[i]? with
  | none =>
    rw [e] at h
    cases h
  | some c =>
    rw [e] at h
    exact ⟨c, rfl, (Option.some.inj h).symm⟩
theorem All2.at {α : Type} {R : Addr → α → Prop} {as : List Addr} {xs : List α} (h : All2 R as xs) {i : Nat} {a : Addr} (ha : as[i]? = some a) : ∃ x, xs[i]? = some x ∧ R a x := by
  have hi : i < xs.length := by
    rw [← h.1]
    exact (List.getElem?_eq_some_iff.mp ha).1
  exact ⟨xs[i], List.getElem?_eq_getElem hi, h.2 i a _ ha (List.getElem?_eq_getElem hi)⟩
section
variable {P : Program} {w : World} {K : PySem.W.Frag} {mg : Str → Option Value} {base : Heap}
def spCondHolds (K : PySem.W.Frag) : Sp := fun vs H Q _ => ∃ (p : Addr) (c : Vbirak.Cond) (t x b : Nat), vs = [.ref p, .int (t : Int), .int (x : Int), .int (b : Int)] ∧ CondAt H p c ∧ RetV (.bl (Vbirak.holds t x b c)) H Q
theorem ok_condition_holds (T : Tx K mg)  : Fn P w K mg base 1 (He.ga K "condition_holds") ["condition", "season", "level", "before"] (spCondHolds K) := by
  have sc : FnScope ["condition", "season", "level", "before"] ["condition", "season", "level", "before"] (defScope s_condition_holds) := ⟨rfl, rfl, rfl, by decide +kernel, rfl, by decide +kernel, by decide +kernel⟩
  refine fn_mk (k := 0) T.fun_condition_holds sc (fun _ _ _ _ _ _ us hl => match us, hl with | [_, _, _, _], _ => rfl) (fun vs H Q E h => ?len) (fun cdv A outer s H vs Q E hr h => ⟨_, (pss_cons (ps_if (pt_cmpR op_eq (pe_ix ix_tup (pv 0) pe_int (fun _ _ => rfl)) pe_str (nomark _)) (pss_one (ps_ret (pe_cmpR op_ge (pv 2) (pe_ix ix_tup (pv 0) pe_int (fun _ _ => rfl)) (nomark _)))) pss_nil)
      (pss_cons (ps_if (pt_cmpR op_eq (pe_ix ix_tup (pv 0) pe_int (fun _ _ => rfl)) pe_str (nomark _)) (pss_one (ps_ret (pe_cmpR op_le (pv 2) (pe_ix ix_tup (pv 0) pe_int (fun _ _ => rfl)) (nomark _)))) pss_nil)
      (pss_cons (ps_if (pt_cmpR op_eq (pe_ix ix_tup (pv 0) pe_int (fun _ _ => rfl)) pe_str (nomark _)) (pss_one (ps_ret (pe_cmpR op_eq (pv 3) (pe_ix ix_tup (pv 0) pe_int (fun _ _ => rfl)) (nomark _)))) pss_nil)
      (pss_one (ps_ret (pe_chain op_le op_le (pe_ix ix_tup (pv 0) pe_int (fun _ _ => rfl)) (pv 1) (pe_ix ix_tup (pv 0) pe_int (fun _ _ => rfl)))))))), ?rd⟩)
  case len =>
    obtain ⟨p, c, t, x, b, rfl, _⟩ := h
    rfl
  case rd =>
    obtain ⟨p, c, t, x, b, rfl, hc, q⟩ := h
    cases c with
    | least n =>
      have hc : H p = some (.tup [.str "least", .int (n : Int)]) := hc
      refine q_when (et_strY (ev_ixT (k := 0) (ev_var rfl) hc rfl) rfl) (fun _ H1 e1 => ?_) (fun hb => by cases hb)
      refine s_ret (ev_is (ev_op (ev_var rfl) (ev_ixT (k := 1) (ev_var rfl) (e1 _ _ hc) rfl) rv_I0) (congrArg V.bl (decide_eq_decide.mpr ?_))) fun H2 e2 => q H2 (e1.trans e2)
      omega
    | most n =>
      have hc : H p = some (.tup [.str "most", .int (n : Int)]) := hc
      refine q_when (et_strN (ev_ixT (k := 0) (ev_var rfl) hc rfl) (by decide +kernel)) (fun hb => by cases hb) (fun _ H0 e0 => ?_)
      refine q_when (et_strY (ev_ixT (k := 0) (ev_var rfl) (e0 _ _ hc) rfl) rfl) (fun _ H1 e1 => ?_) (fun hb => by cases hb)
      refine s_ret (ev_is (ev_op (ev_var rfl) (ev_ixT (k := 1) (ev_var rfl) (e1 _ _ (e0 _ _ hc)) rfl) rv_I0) (congrArg V.bl (decide_eq_decide.mpr ?_))) fun H2 e2 => q H2 ((e0.trans e1).trans e2)
      omega
    | was k =>
      have hc : H p = some (.tup [.str "was", .int (k : Int)]) := hc
      refine q_when (et_strN (ev_ixT (k := 0) (ev_var rfl) hc rfl) (by decide +kernel)) (fun hb => by cases hb) (fun _ H0 e0 => ?_)
      refine q_when (et_strN (ev_ixT (k := 0) (ev_var rfl) (e0 _ _ hc) rfl) (by decide +kernel)) (fun hb => by cases hb) (fun _ H1 e1 => ?_)
      refine q_when (et_strY (ev_ixT (k := 0) (ev_var rfl) (e1 _ _ (e0 _ _ hc)) rfl) rfl) (fun _ H2 e2 => ?_) (fun hb => by cases hb)
      refine s_ret (ev_is (ev_op (ev_var rfl) (ev_ixT (k := 1) (ev_var rfl) (e2 _ _ (e1 _ _ (e0 _ _ hc))) rfl) (rv_eq rfl)) (congrArg V.bl ?_)) fun H3 e3 => q H3 (((e0.trans e1).trans e2).trans e3)
      show decide (V.int (b : Int) = V.int (k : Int)) = (b == k)
      by_cases hbk : b = k
      · subst hbk
        simp
      · rw [decide_eq_false fun z => hbk (by injection z with z; omega)]
        exact (beq_eq_false_iff_ne.mpr hbk).symm
    | season a d =>
      have hc : H p = some (.tup [.str "season", .int (a : Int), .int (d : Int)]) := hc
      refine q_when (et_strN (ev_ixT (k := 0) (ev_var rfl) hc rfl) (by decide +kernel)) (fun hb => by cases hb) (fun _ H0 e0 => ?_)
      refine q_when (et_strN (ev_ixT (k := 0) (ev_var rfl) (e0 _ _ hc) rfl) (by decide +kernel)) (fun hb => by cases hb) (fun _ H1 e1 => ?_)
      refine q_when (et_strN (ev_ixT (k := 0) (ev_var rfl) (e1 _ _ (e0 _ _ hc)) rfl) (by decide +kernel)) (fun hb => by cases hb) (fun _ H2 e2 => ?_)
      have hc2 := e2 _ _ (e1 _ _ (e0 _ _ hc))
      refine s_ret (ev_is (ev_chain (ev_ixT (k := 1) (ev_var rfl) hc2 rfl) (ev_var rfl) (ev_ixT (k := 2) (ev_var rfl) hc2 rfl) rv_le rv_le) (congrArg V.bl ?_)) fun H3 e3 => q H3 (((e0.trans e1).trans e2).trans e3)
      show (decide ((a : Int) ≤ (t : Int)) && decide ((t : Int) ≤ (d : Int))) = (decide (a ≤ t) && decide (t ≤ d))
      rw [decide_eq_decide.mpr (show (a : Int) ≤ (t : Int) ↔ a ≤ t by omega), decide_eq_decide.mpr (show (t : Int) ≤ (d : Int) ↔ t ≤ d by omega)]
def spRuleHolds (K : PySem.W.Frag) : Sp := fun vs H Q _ => ∃ (p : Addr) (r : List Vbirak.Cond × Nat) (t x b : Nat), vs = [.ref p, .int (t : Int), .int (x : Int), .int (b : Int)] ∧ RuleAt K H p r ∧ RetV (.bl (r.1.all (Vbirak.holds t x b))) H Q
theorem ok_rule_holds (T : Tx K mg) (F_condition_holds : Fn P w K mg base 1 (He.ga K "condition_holds") ["condition", "season", "level", "before"] (spCondHolds K)) : Fn P w K mg base 2 (He.ga K "rule_holds") ["rule", "season", "level", "before"] (spRuleHolds K) := by
  have sc : FnScope ["rule", "season", "level", "before", "condition"] ["rule", "season", "level", "before"] (defScope s_rule_holds) := ⟨rfl, rfl, rfl, by decide +kernel, rfl, by decide +kernel, by decide +kernel⟩
  refine fn_mk (k := 1) T.fun_rule_holds sc (fun _ _ _ _ _ _ us hl => match us, hl with | [_, _, _, _], _ => rfl) (fun vs H Q E h => ?len) (fun cdv A outer s H vs Q E hr h => ⟨_, (pss_cons (ps_for (passes_of rfl) rfl (pi_list (pe_fld (pv 0) rfl)) (pg_name (i := 4) sc.nd rfl (Or.inl rfl)) (pss_one (ps_if (pt_not (pt_val (pe_f F_condition_holds hr (by decide) T.glo_condition_holds (passes_call (takes_of rfl rfl rfl rfl) (fun _ _ _ _ h => h)) (pa_c (pv 4) (pa_c (pv 1) (pa_c (pv 2) (pa_c (pv 3) pa_nil))))))) (pss_one (ps_ret pe_bl)) pss_nil)))
      (pss_one (ps_ret pe_bl))), ?rd⟩)
  case len =>
    obtain ⟨p, r, t, x, b, rfl, _⟩ := h
    rfl
  case rd =>
    obtain ⟨p, r, t, x, b, rfl, ⟨dx, cl, h1, as, h2, h3⟩, q⟩ := h
    refine q_forLn (ev_fld (ev_var rfl) h1 T.cls_Rule T.noat_Rule_conditions lk1) (sq_of h2) (fun i σ' H' => Ex H H' ∧ ∃ v, σ' = [some (.ref p), some (.int (t : Int)), some (.int (x : Int)), some (.int (b : Int)), v] ∧ r.1.all (Vbirak.holds t x b) = (r.1.drop i).all (Vbirak.holds t x b))
      (fun H1 e => ⟨e, none, rfl, rfl⟩) (fun i σ' H' _ z => sq_of (z.1 _ _ h2)) ?_ ?_
    · rintro i u σ' H' hu ⟨e, v, rfl, hm⟩
      obtain ⟨c, hc, rfl⟩ := ref_at hu
      obtain ⟨cd, hcd, hca⟩ := h3.at hc
      rw [drop_at hcd, List.all_cons] at hm
      refine s_when (b := !Vbirak.holds t x b cd) (et_not (et_B (ev_call (sp := spCondHolds K) (ea_cons (ev_var rfl) (ea_cons (ev_var rfl) (ea_cons (ev_var rfl) (ea_cons (ev_var rfl) ea_nil)))) (fun H2 e2 Q q E => ⟨c, cd, t, x, b, rfl, e2 _ _ (e _ _ hca), q⟩)))) (fun hb H1 e1 => ?_) (fun hb H1 e1 => ?_)
      · refine s_ret ev_c fun H2 e2 => ?_
        have hf : Vbirak.holds t x b cd = false := by
          cases z : Vbirak.holds t x b cd with
          | false => rfl
          | true =>
            rw [z] at hb
            cases hb
        rw [hf, Bool.false_and] at hm
        rw [hm] at q
        exact q H2 ((e.trans e1).trans e2)
      · have hf : Vbirak.holds t x b cd = true := by
          cases z : Vbirak.holds t x b cd with
          | true => rfl
          | false =>
            rw [z] at hb
            cases hb
        rw [hf, Bool.true_and] at hm
        exact ⟨e.trans e1, _, rfl, hm⟩
    · rintro σ' H' ⟨e, v, rfl, hm⟩
      refine s_ret ev_c fun H2 e2 => ?_
      rw [List.length_map, h3.1, List.drop_length] at hm
      have hm : r.1.all (Vbirak.holds t x b) = true := hm
      rw [hm] at q
      exact q H2 (e.trans e2)
def wantedOf (s : Vbirak.Strategy) (t x b : Nat) : Nat := ((s.rules.find? fun r => r.1.all (Vbirak.holds t x b)).map fun r => r.2).getD s.other
def spWanted (K : PySem.W.Frag) : Sp := fun vs H Q _ => ∃ (p : Addr) (s : Vbirak.Strategy) (t x b : Nat), vs = [.ref p, .int (t : Int), .int (x : Int), .int (b : Int)] ∧ StratAt K H p s ∧ RetV (.int ((wantedOf s t x b : Nat) : Int)) H Q
theorem ok_wanted_letting (T : Tx K mg) (F_rule_holds : Fn P w K mg base 2 (He.ga K "rule_holds") ["rule", "season", "level", "before"] (spRuleHolds K)) : Fn P w K mg base 3 (He.ga K "wanted_letting") ["strategy", "season", "level", "before"] (spWanted K) := by
  have sc : FnScope ["strategy", "season", "level", "before", "rule"] ["strategy", "season", "level", "before"] (defScope s_wanted_letting) := ⟨rfl, rfl, rfl, by decide +kernel, rfl, by decide +kernel, by decide +kernel⟩
  refine fn_mk (k := 2) T.fun_wanted_letting sc (fun _ _ _ _ _ _ us hl => match us, hl with | [_, _, _, _], _ => rfl) (fun vs H Q E h => ?len) (fun cdv A outer s H vs Q E hr h => ⟨_, (pss_cons (ps_for (passes_of rfl) rfl (pi_list (pe_fld (pv 0) rfl)) (pg_name (i := 4) sc.nd rfl (Or.inl rfl)) (pss_one (ps_if (pt_val (pe_f F_rule_holds hr (by decide) T.glo_rule_holds (passes_call (takes_of rfl rfl rfl rfl) (fun _ _ _ _ h => h)) (pa_c (pv 4) (pa_c (pv 1) (pa_c (pv 2) (pa_c (pv 3) pa_nil)))))) (pss_one (ps_ret (pe_fld (pv 4) rfl))) pss_nil)))
      (pss_one (ps_ret (pe_fld (pv 0) rfl)))), ?rd⟩)
  case len =>
    obtain ⟨p, s, t, x, b, rfl, _⟩ := h
    rfl
  case rd =>
    obtain ⟨p, s, t, x, b, rfl, ⟨dx, rl, h1, as, h2, h3⟩, q⟩ := h
    refine q_forLn (ev_fld (ev_var rfl) h1 T.cls_Strategy T.noat_Strategy_rules lk1) (sq_of h2) (fun i σ' H' => Ex H H' ∧ ∃ v, σ' = [some (.ref p), some (.int (t : Int)), some (.int (x : Int)), some (.int (b : Int)), v] ∧ (s.rules.find? fun r => r.1.all (Vbirak.holds t x b)) = (s.rules.drop i).find? fun r => r.1.all (Vbirak.holds t x b))
      (fun H1 e => ⟨e, none, rfl, rfl⟩) (fun i σ' H' _ z => sq_of (z.1 _ _ h2)) ?_ ?_
    · rintro i u σ' H' hu ⟨e, v, rfl, hm⟩
      obtain ⟨c, hc, rfl⟩ := ref_at hu
      obtain ⟨r, hr', hra⟩ := h3.at hc
      rw [drop_at hr', List.find?_cons] at hm
      refine s_when (b := r.1.all (Vbirak.holds t x b)) (et_B (ev_call (sp := spRuleHolds K) (ea_cons (ev_var rfl) (ea_cons (ev_var rfl) (ea_cons (ev_var rfl) (ea_cons (ev_var rfl) ea_nil)))) (fun H2 e2 Q q E => ⟨c, r, t, x, b, rfl, mono_rule K _ _ _ _ (e.trans e2) hra, q⟩))) (fun hb H1 e1 => ?_) (fun hb H1 e1 => ?_)
      · rw [hb] at hm
        obtain ⟨dc, cl, hc1, _⟩ := mono_rule K _ _ _ _ (e.trans e1) hra
        refine s_ret (ev_fld (ev_var rfl) hc1 T.cls_Rule T.noat_Rule_letting ((lk2 (by decide +kernel)).trans lk1)) fun H2 e2 => ?_
        have hw : wantedOf s t x b = r.2 := by
          unfold wantedOf
          rw [hm]
          rfl
        rw [hw] at q
        exact q H2 ((e.trans e1).trans e2)
      · rw [hb] at hm
        exact ⟨e.trans e1, _, rfl, hm⟩
    · rintro σ' H' ⟨e, v, rfl, hm⟩
      rw [List.length_map, h3.1, List.drop_length] at hm
      refine s_ret (ev_fld (ev_var rfl) (e _ _ h1) T.cls_Strategy T.noat_Strategy_otherwise ((lk2 (by decide +kernel)).trans lk1)) fun H2 e2 => ?_
      have hw : wantedOf s t x b = s.other := by
        unfold wantedOf
        rw [hm]
        rfl
      rw [hw] at q
      exact q H2 (e.trans e2)
def spStratLet (K : PySem.W.Frag) : Sp := fun vs H Q _ => ∃ (a p : Addr) (l : Lake) (s : Vbirak.Strategy) (t x b : Nat), vs = [.ref a, .ref p, .int (t : Int), .int (x : Int), .int (b : Int)] ∧ LakeAt K H a l ∧ StratAt K H p s ∧ RetV (.int ((Vbirak.letBy l s t x b : Nat) : Int)) H Q
theorem ok_strategy_letting (T : Tx K mg) (F_wanted_letting : Fn P w K mg base 3 (He.ga K "wanted_letting") ["strategy", "season", "level", "before"] (spWanted K)) (F_most_letting : Fn P w K mg base 1 (He.ga K "most_letting") ["lake", "level"] (spMostLetting K)) : Fn P w K mg base 4 (He.ga K "strategy_letting") ["lake", "strategy", "season", "level", "before"] (spStratLet K) := by
  have sc : FnScope ["lake", "strategy", "season", "level", "before"] ["lake", "strategy", "season", "level", "before"] (defScope s_strategy_letting) := ⟨rfl, rfl, rfl, by decide +kernel, rfl, by decide +kernel, by decide +kernel⟩
  refine fn_mk (k := 3) T.fun_strategy_letting sc (fun _ _ _ _ _ _ us hl => match us, hl with | [_, _, _, _, _], _ => rfl) (fun vs H Q E h => ?len) (fun cdv A outer s H vs Q E hr h => ⟨_, (pss_one (ps_ret (pe_callB (call_min2 rfl) (by rfl) T.free_min (by decide +kernel) (pa_c (pe_f F_wanted_letting hr (by decide) T.glo_wanted_letting (passes_call (takes_of rfl rfl rfl rfl) (fun _ _ _ _ h => h)) (pa_c (pv 1) (pa_c (pv 2) (pa_c (pv 3) (pa_c (pv 4) pa_nil))))) (pa_c (pe_f F_most_letting hr (by decide) T.glo_most_letting (passes_call (takes_of rfl rfl rfl rfl) (fun _ _ _ _ h => h)) (pa_c (pv 0) (pa_c (pv 3) pa_nil))) pa_nil))))), ?rd⟩)
  case len =>
    obtain ⟨a, p, l, s, t, x, b, rfl, _⟩ := h
    rfl
  case rd =>
    obtain ⟨a, p, l, s, t, x, b, rfl, hL, hS, q⟩ := h
    refine s_ret (ev_is (ev_min2 (ev_call (sp := spWanted K) (z := .int ((wantedOf s t x b : Nat) : Int)) (ea_cons (ev_var rfl) (ea_cons (ev_var rfl) (ea_cons (ev_var rfl) (ea_cons (ev_var rfl) ea_nil)))) (fun H2 e2 Q q E => ⟨p, s, t, x, b, rfl, mono_strat K _ _ _ _ e2 hS, q⟩))
      (ev_call (sp := spMostLetting K) (z := .int ((min x l.gate : Nat) : Int)) (ea_cons (ev_var rfl) (ea_cons (ev_var rfl) ea_nil)) (fun H2 e2 Q q E => ⟨a, l, x, rfl, hL.ex e2, q⟩))) ?_) q
    exact congrArg V.int (min_int _ _)
theorem spv_let {a p : Addr} {l : Lake} {s : Vbirak.Strategy} {t x b : Nat} {H : Hp} (hL : LakeAt K H a l) (hS : StratAt K H p s) : SpV (spStratLet K) [.ref a, .ref p, .int (t : Int), .int (x : Int), .int (b : Int)] H (.int ((Vbirak.letBy l s t x b : Nat) : Int)) :=
  fun H1 e Q q E => ⟨a, p, l, s, t, x, b, rfl, hL.ex e, mono_strat K _ _ _ _ e hS, q⟩
end
end Sl
namespace Sl
open PySem PySem.Spec PyProof.Rows L2
open Evl
open Vbirak (Lake Weather)
open Sm
section
variable {P : Program} {w : World} {K : PySem.W.Frag} {mg : Str → Option Value} {base : Heap}
def keptBy (l : Lake) (s : Vbirak.Strategy) (t : Nat) (row : Vbirak.Row) (b x : Nat) : Nat := Vbirak.worth l t row x b (Vbirak.letBy l s t x b)
def spKeptBy (K : PySem.W.Frag) : Sp := fun vs H Q _ => ∃ (a sp p : Addr) (l : Lake) (s : Vbirak.Strategy) (row : Vbirak.Row) (t b : Nat), vs = [.ref a, .ref sp, .int (t : Int), .ref p, .int (b : Int)] ∧ LakeAt K H a l ∧ Fit l ∧ StratAt K H sp s ∧ RowAt H p row ∧ RowFit l row ∧ b < l.weathers.length ∧ RetL (vI ((List.range (l.holds + 1)).map (keptBy l s t row b))) H Q
theorem leasts_at (l : Lake) (row : Vbirak.Row) (b : Nat) {i : Nat} (hi : i ≤ l.holds) : (leasts l row b)[i]? = some ((leasts l row b).getD i 0) := by
  have : i < (leasts l row b).length := by
    rw [leasts_len]
    omega
  simp [List.getD_eq_getElem?_getD, List.getElem?_eq_getElem this]
theorem ok_strategy_by_level (T : Tx K mg) (F_season_table : Fn P w K mg base 1 (He.ga K "season_table") ["lake", "season"] (spSeasonTable K)) (F_least_by_left : Fn P w K mg base 3 (He.ga K "least_by_left") ["lake", "behind", "before"] (spLeasts K)) (F_strategy_letting : Fn P w K mg base 4 (He.ga K "strategy_letting") ["lake", "strategy", "season", "level", "before"] (spStratLet K)) : Fn P w K mg base 5 (He.ga K "strategy_by_level") ["lake", "strategy", "season", "behind", "before"] (spKeptBy K) := by
  have sc : FnScope ["lake", "strategy", "season", "behind", "before", "table", "leasts", "lettings", "level", "letting"] ["lake", "strategy", "season", "behind", "before"] (defScope s_strategy_by_level) := ⟨rfl, rfl, rfl, by decide +kernel, rfl, by decide +kernel, by decide +kernel⟩
  refine fn_mk (k := 4) T.fun_strategy_by_level sc (fun _ _ _ _ _ _ us hl => match us, hl with | [_, _, _, _, _], _ => rfl) (fun vs H Q E h => ?len) (fun cdv A outer s H vs Q E hr h => ⟨_, (pss_cons (ps_set (i := 5) sc.nd rfl (Or.inr rfl) (pe_f F_season_table hr (by decide) T.glo_season_table (passes_call (takes_of rfl rfl rfl rfl) (fun _ _ _ _ h => h)) (pa_c (pv 0) (pa_c (pv 2) pa_nil))))
      (pss_cons (ps_set (i := 6) sc.nd rfl (Or.inr rfl) (pe_f F_least_by_left hr (by decide) T.glo_least_by_left (passes_call (takes_of rfl rfl rfl rfl) (fun _ _ _ _ h => h)) (pa_c (pv 0) (pa_c (pv 3) (pa_c (pv 4) pa_nil)))))
      (pss_cons (ps_setLc (i := 7) (own := [("level", 8)]) (g := gName 8) (tt := tYes) rfl sc.nd rfl rfl (sw_true rfl rfl rfl (by decide +kernel)) (pi_range1 rfl T.free_range (pa_c (pe_op op_add (pe_fld (pv 0) rfl) pe_int) pa_nil)) (blkOk_by (own := [("level", 8)]) (N := ["lake", "strategy", "season", "behind", "before", "table", "leasts", "lettings", "level", "letting"]) (sc := defScope s_strategy_by_level) (by decide +kernel)) (fun _ _ _ _ _ => pg_name (i := 8) sc.nd rfl (Or.inl rfl)) (fun _ _ _ _ _ => pts_nil) (fun _ _ _ _ _ => (pe_f F_strategy_letting hr (by decide) T.glo_strategy_letting passL (pa_c (pv 0) (pa_c (pv 1) (pa_c (pv 2) (pa_c (pv 8) (pa_c (pv 4) pa_nil))))))))
      (pss_one (ps_ret (pe_lc (own := [("level", 8), ("letting", 9)]) (g := gTup K 2 (gCons (gName 8) (gCons (gName 9) gNil))) (tt := tYes) rfl sc.nd (pi_enum rfl T.free_enumerate (pa_c (pv 7) pa_nil)) (blkOk_by (own := [("level", 8), ("letting", 9)]) (N := ["lake", "strategy", "season", "behind", "before", "table", "leasts", "lettings", "level", "letting"]) (sc := defScope s_strategy_by_level) (by decide +kernel)) (fun _ _ _ _ _ => pg_tup rfl (pgs_cons (pg_name (i := 8) sc.nd rfl (Or.inl rfl)) (pgs_cons (pg_name (i := 9) sc.nd rfl (Or.inl rfl)) pgs_nil))) (fun _ _ _ _ _ => pts_nil) (fun _ _ _ _ _ => (pe_op op_add (pe_ix (r := rIxL K) ix_list (pv 5) (pv 9) (fun _ _ => rfl)) (pe_ix (r := rIxL K) ix_list (pv 6) (pe_op op_sub (pv 8) (pv 9)) (fun _ _ => rfl)))))))))), ?rd⟩)
  case len =>
    obtain ⟨a, sp, p, l, s, row, t, b, rfl, _⟩ := h
    rfl
  case rd =>
    obtain ⟨a, sp, p, l, s, row, t, b, rfl, hL, F, hS, hR, R, hb, q⟩ := h
    obtain ⟨ns, hns, hnl, hy⟩ := table_of F t
    have hh := F.holds
    have hg := F.gate
    refine ⟨_, rfl, _, rfl, a, l, t, ns, rfl, hL, hns, fun c H1 e1 hc => ?_⟩
    dsimp only [gName]
    refine q_asgL (xs := vI (leasts l row b)) (el_call (sp := spLeasts K) (ea_cons (ev_var rfl) (ea_cons (ev_var rfl) (ea_cons (ev_var rfl) ea_nil))) (fun H2 e2 Q q E => ⟨a, p, l, row, b, rfl, hL.ex (e1.trans e2), F, hR.ex (e1.trans e2), R, hb, q⟩)) fun c1 H2 n2 e2 h2 => ?_
    have h2' : IntsAt H2 c1 (leasts l row b) := h2
    have x2 := e1.trans e2
    refine q_asgL (xs := vI ((List.range (l.holds + 1)).map fun x => Vbirak.letBy l s t x b)) (el_rng (n := l.holds + 1) (fun x => Vbirak.letBy l s t x b) (ea_cons (ev_is (ev_op (ev_holds T (ev_var rfl) (hL.ex x2)) ev_c rv_I0) rfl) ea_nil) (by omega) (fun _ => rfl) fun i H3 e3 hi => ?_) fun c2 H3 n3 e3 h3 => ?_
    · show Ev _ [some (.ref a), some (.ref sp), some (.int (t : Int)), some (.ref p), some (.int (b : Int)), some (.ref c), some (.ref c1), none, some (.int (i : Int)), none] H3 _
      exact ev_call (ea_cons (ev_var rfl) (ea_cons (ev_var rfl) (ea_cons (ev_var rfl) (ea_cons (ev_var rfl) (ea_cons (ev_var rfl) ea_nil))))) (spv_let (hL.ex (x2.trans e3)) (mono_strat K _ _ _ _ (x2.trans e3) hS))
    · have x3 := x2.trans e3
      have key := el_lcE (K := K) (σ := [some (.ref a), some (.ref sp), some (.int (t : Int)), some (.ref p), some (.int (b : Int)), some (.ref c), some (.ref c1), some (.ref c2), none, none]) (H := H3) (tl := tVar 7) (te := tOp (rI0 fun i j => V.int (i + j)) (tOp (rIxL K) (tVar 5) (tVar 9)) (tOp (rIxL K) (tVar 6) (tOp (rI0 fun i j => V.int (i - j)) (tVar 8) (tVar 9)))) (i := 8) (j := 9) (vs := [8, 9])
        (fun x => .int ((keptBy l s t row b x : Nat) : Int)) (ev_var rfl) (sq_of h3) (by rw [vI_len, List.length_map, List.length_range]; omega) (fun _ _ => rfl) (fun k v H4 e4 hv => by
          obtain ⟨n, hn, rfl⟩ := vI_at hv
          rw [List.getElem?_map] at hn
          have hk : k < l.holds + 1 := by
            by_cases z : k < l.holds + 1
            · exact z
            · rw [List.getElem?_eq_none (by simpa using z)] at hn
              cases hn
          rw [List.getElem?_range hk] at hn
          have hn : n = Vbirak.letBy l s t k b := (Option.some.inj hn).symm
          obtain ⟨z1, z2⟩ := letBy_le l s t k b
          rw [← hn] at z1 z2
          show Ev _ [some (.ref a), some (.ref sp), some (.int (t : Int)), some (.ref p), some (.int (b : Int)), some (.ref c), some (.ref c1), some (.ref c2), some (.int (k : Int)), some (.int (n : Int))] H4 _
          have e0 : keptBy l s t row b k = Vbirak.yieldAt l t n + (leasts l row b).getD (k - n) 0 := by
            unfold keptBy
            rw [← hn, worth_eq l t row k b n (by omega)]
          rw [e0]
          refine ev_is (ev_op (ev_int (ev_var rfl) (hc.ex ((e2.trans e3).trans e4)) (ev_var rfl) (hy n z2)) (ev_int (ev_var rfl) (h2'.ex (e3.trans e4)) (ev_is (ev_op (ev_var rfl) (ev_var rfl) rv_I0) ?_) (leasts_at l row b (i := k - n) (by omega))) rv_I0) rfl
          exact congrArg V.int (show (k : Int) - (n : Int) = ((k - n : Nat) : Int) by omega))
      refine s_retL (xs := vI ((List.range (l.holds + 1)).map (keptBy l s t row b))) ?_ fun p' H4 np e4 h4 => q p' H4 (fresh_back x3 np) (x3.trans e4) h4
      rw [vI_len, List.length_map, List.length_range] at key
      unfold vI
      rw [List.map_map]
      exact key
def spStratSure (K : PySem.W.Frag) : Sp := fun vs H Q _ => ∃ (a sp : Addr) (l : Lake) (s : Vbirak.Strategy), vs = [.ref a, .ref sp] ∧ LakeAt K H a l ∧ Fit l ∧ StratAt K H sp s ∧ RetN (fun h p => RowAt h p (keptAt l s 0)) H Q
theorem rg_down {n : Nat} (h : n ≤ 24) : RgC ((n : Int) - 1) (-1) (-1) n := by
  have z := RgC.neg (i := (n : Int) - 1) (j := -1) (by omega) (by omega) (by omega) (by omega)
  have e : ((n : Int) - 1 - -1).toNat = n := by omega
  rw [e] at z
  exact z
theorem ok_strategy_sure (T : Tx K mg) (F_sure_at_end : Fn P w K mg base 1 (He.ga K "sure_at_end") ["lake"] (spAtEnd K)) (F_strategy_by_level : Fn P w K mg base 5 (He.ga K "strategy_by_level") ["lake", "strategy", "season", "behind", "before"] (spKeptBy K)) : Fn P w K mg base 6 (He.ga K "strategy_sure") ["lake", "strategy"] (spStratSure K) := by
  have sc : FnScope ["lake", "strategy", "behind", "season", "kind", "before"] ["lake", "strategy"] (defScope s_strategy_sure) := ⟨rfl, rfl, rfl, by decide +kernel, rfl, by decide +kernel, by decide +kernel⟩
  refine fn_mk (k := 5) T.fun_strategy_sure sc (fun _ _ _ _ _ _ us hl => match us, hl with | [_, _], _ => rfl) (fun vs H Q E h => ?len) (fun cdv A outer s H vs Q E hr h => ⟨_, (pss_cons (ps_set (i := 2) sc.nd rfl (Or.inr rfl) (pe_lc (own := [("kind", 4)]) (g := gName 4) (tt := tYes) rfl sc.nd (pi_list (pe_fld (pv 0) rfl)) (blkOk_by (own := [("kind", 4)]) (N := ["lake", "strategy", "behind", "season", "kind", "before"]) (sc := defScope s_strategy_sure) (by decide +kernel)) (fun _ _ _ _ _ => pg_name (i := 4) sc.nd rfl (Or.inl rfl)) (fun _ _ _ _ _ => pts_nil) (fun _ _ _ _ _ => (pe_f F_sure_at_end hr (by decide) T.glo_sure_at_end passL (pa_c (pv 0) pa_nil)))))
      (pss_cons (ps_for (passes_of rfl) rfl (pi_range3 rfl T.free_range (pa_c (pe_op op_sub (pe_fld (pv 0) rfl) pe_int) (pa_c (pe_un un_neg pe_int) (pa_c (pe_un un_neg pe_int) pa_nil)))) (pg_name (i := 3) sc.nd rfl (Or.inr rfl)) (pss_one (ps_set (i := 2) sc.nd rfl (Or.inr rfl) (pe_lc (own := [("before", 5)]) (g := gName 5) (tt := tYes) rfl sc.nd (pi_range1 rfl T.free_range (pa_c (pe_callB call_len_seq (by rfl) T.free_len PySem.boot_len (pa_c (pe_fld (pv 0) rfl) pa_nil)) pa_nil)) (blkOk_by (own := [("before", 5)]) (N := ["lake", "strategy", "behind", "season", "kind", "before"]) (sc := defScope s_strategy_sure) (by decide +kernel)) (fun _ _ _ _ _ => pg_name (i := 5) sc.nd rfl (Or.inl rfl)) (fun _ _ _ _ _ => pts_nil) (fun _ _ _ _ _ => (pe_f F_strategy_by_level hr (by decide) T.glo_strategy_by_level passL (pa_c (pv 0) (pa_c (pv 1) (pa_c (pv 3) (pa_c (pv 2) (pa_c (pv 5) pa_nil)))))))))))
      (pss_one (ps_ret (pv 2))))), ?rd⟩)
  case len =>
    obtain ⟨a, sp, l, s, rfl, _⟩ := h
    rfl
  case rd =>
    obtain ⟨a, sp, l, s, rfl, hL, F, hS, q⟩ := h
    have hw2 := F.w2
    have hs2 := F.s2
    obtain ⟨kl, ks, ek, hk, hks⟩ := ev_kinds (ta := tVar 0) (σ := start ["lake", "strategy", "behind", "season", "kind", "before"] [.ref a, .ref sp]) T (ev_var rfl) hL
    have hkl : (ks.map V.ref).length = l.weathers.length := by rw [List.length_map, hks.1]
    have first := en_lcL (K := K) (σ := start ["lake", "strategy", "behind", "season", "kind", "before"] [.ref a, .ref sp]) (H := H) (j := 4) (vs := [4]) (te := tCall (spAtEnd K) [] E0 (tCons (tVar 0) tNil)) (fun _ h p => IntsAt h p ((List.range (l.holds + 1)).map fun x => l.rest * x)) (fun _ => mono_ints _) ek (sq_of hk) (by omega) (fun _ => rfl)
      (fun i x H1 e1 _ => en_ints (el_call (ea_cons (ev_var rfl) ea_nil) (fun H2 e2 Q q E => ⟨a, l, rfl, hL.ex (e1.trans e2), F, q⟩)))
    refine q_asgN first fun p0 H1 e1 r1 => ?_
    rw [hkl] at r1
    have r0 : RowAt (nw H H1) p0 (Vbirak.endRow l) := by
      have z := ls_row r1
      rw [endRow_eq] at z
      exact z
    have eseas : Ev (tFld K (tVar 0) "seasons") [some (.ref a), some (.ref sp), some (.ref p0), none, none, none] H1 (.int (l.seasons : Int)) := ev_seasons T (ev_var rfl) (hL.ex e1)
    refine q_rng3 (ea_cons (ev_op eseas ev_c rv_I0) (ea_cons (ev_un ev_c ru_neg) (ea_cons (ev_un ev_c ru_neg) ea_nil))) (n := l.seasons) (rg_down hs2) (fun i σ' H' => Ex H H' ∧ ∃ (p : Addr) (v3 : Option V), σ' = [some (.ref a), some (.ref sp), some (.ref p), v3, none, none] ∧ RowAt (nw H H') p ((Vbirak.keptFrom l s i).headD [])) ?_ ?_ ?_
    · intro H2 e2
      exact ⟨e1.trans e2, p0, none, rfl, r0.ex (nw_mono e2)⟩
    · rintro i σ' H' hi ⟨ex, p, v3, rfl, hp⟩
      have R : RowFit l ((Vbirak.keptFrom l s i).headD []) := keptHead_fit l s i
      have et : ((l.seasons : Int) - 1 + ((i : Nat) : Int) * -1) = ((l.seasons - (i + 1) : Nat) : Int) := by omega
      rw [et]
      show tAsg _ _ _ [some (.ref a), some (.ref sp), some (.ref p), some (.int ((l.seasons - (i + 1) : Nat) : Int)), none, none] H'
      obtain ⟨kl', ks', ek', hk', hks'⟩ := ev_kinds (ta := tVar 0) (σ := [some (.ref a), some (.ref sp), some (.ref p), some (.int ((l.seasons - (i + 1) : Nat) : Int)), none, none]) T (ev_var rfl) (hL.ex ex)
      have rb : RowAt H' p ((Vbirak.keptFrom l s i).headD []) := hp.ex ex_nw
      generalize hrow : (Vbirak.keptFrom l s i).headD [] = row at R hp rb
      have comp := en_lcR (σ := [some (.ref a), some (.ref sp), some (.ref p), some (.int ((l.seasons - (i + 1) : Nat) : Int)), none, none]) (H := H') (ta := tCons (tCB (fun xs H Q => ∃ p ys, xs = [.ref p] ∧ (SqL K H p ys ∨ SqT K H p ys) ∧ Q (.int ys.length) H) (tCons (tFld K (tVar 0) "kinds") tNil)) tNil) (j := 5) (vs := [5]) (n := l.weathers.length)
        (te := tCall (spKeptBy K) [] E0 (tCons (tVar 0) (tCons (tVar 1) (tCons (tVar 3) (tCons (tVar 2) (tCons (tVar 5) tNil)))))) (fun b h p => IntsAt h p ((List.range (l.holds + 1)).map (keptBy l s (l.seasons - (i + 1)) row b))) (fun _ => mono_ints _)
        (ea_cons (ev_is (ev_lenL ek' (sq_of hk')) (by rw [List.length_map, hks'.1])) ea_nil) (by omega) (fun _ => rfl)
        (fun b H4 e4 hb => en_ints (el_call (ea_cons (ev_var rfl) (ea_cons (ev_var rfl) (ea_cons (ev_var rfl) (ea_cons (ev_var rfl) (ea_cons (ev_var rfl) ea_nil))))) (fun H5 e5 Q q E => ⟨a, sp, p, l, s, row, _, b, rfl, hL.ex ((ex.trans e4).trans e5), F, mono_strat K _ _ _ _ ((ex.trans e4).trans e5) hS, rb.ex (e4.trans e5), R, hb, q⟩)))
      refine s_asgN comp fun p1 H4 e4 r4 => ?_
      have r5 := ls_row r4
      refine ⟨ex.trans e4, p1, _, rfl, ?_⟩
      have e0 : (Vbirak.keptFrom l s (i + 1)).headD [] = (List.range l.weathers.length).map fun b => (List.range (l.holds + 1)).map (keptBy l s (l.seasons - (i + 1)) row b) := by
        rw [← hrow]
        rfl
      rw [e0]
      exact r5.ex (nw_back ex)
    · rintro σ' H' ⟨ex, p, v3, rfl, hp⟩
      exact ⟨_, rfl, q p H' ex hp⟩
def spKnown (K : PySem.W.Frag) : Sp := fun vs H Q _ => ∃ (a wp : Addr) (l : Lake) (ks : List Nat), vs = [.ref a, .ref wp] ∧ LakeAt K H a l ∧ Fit l ∧ SqL K H wp (vI ks) ∧ ks.length = l.seasons ∧ (∀ k ∈ ks, k < l.weathers.length) ∧ ∀ p H', Ex H H' → IntsAt H' p (Vbirak.knownRow l 0 ks) → Q (.ref p) H'
theorem ok_best_if_known (T : Tx K mg) (F_sure_at_end : Fn P w K mg base 1 (He.ga K "sure_at_end") ["lake"] (spAtEnd K)) (F_level_behind : Fn P w K mg base 1 (He.ga K "level_behind") ["lake", "left", "kind"] (spLevelBehind K)) (F_best_by_level : Fn P w K mg base 3 (He.ga K "best_by_level") ["lake", "season", "had_by_left"] (spBestBy K)) : Fn P w K mg base 4 (He.ga K "best_if_known") ["lake", "weather"] (spKnown K) := by
  have sc : FnScope ["lake", "weather", "best", "season", "had_by_left", "left"] ["lake", "weather"] (defScope s_best_if_known) := ⟨rfl, rfl, rfl, by decide +kernel, rfl, by decide +kernel, by decide +kernel⟩
  refine fn_mk (k := 3) T.fun_best_if_known sc (fun _ _ _ _ _ _ us hl => match us, hl with | [_, _], _ => rfl) (fun vs H Q E h => ?len) (fun cdv A outer s H vs Q E hr h => ⟨_, (pss_cons (ps_set (i := 2) sc.nd rfl (Or.inr rfl) (pe_f F_sure_at_end hr (by decide) T.glo_sure_at_end (passes_call (takes_of rfl rfl rfl rfl) (fun _ _ _ _ h => h)) (pa_c (pv 0) pa_nil)))
      (pss_cons (ps_for (passes_of rfl) rfl (pi_range3 rfl T.free_range (pa_c (pe_op op_sub (pe_fld (pv 0) rfl) pe_int) (pa_c (pe_un un_neg pe_int) (pa_c (pe_un un_neg pe_int) pa_nil)))) (pg_name (i := 3) sc.nd rfl (Or.inr rfl)) (pss_cons (ps_setLc (i := 4) (own := [("left", 5)]) (g := gName 5) (tt := tYes) rfl sc.nd rfl rfl (sw_true rfl rfl rfl (by decide +kernel)) (pi_range1 rfl T.free_range (pa_c (pe_op op_add (pe_fld (pv 0) rfl) pe_int) pa_nil)) (blkOk_by (own := [("left", 5)]) (N := ["lake", "weather", "best", "season", "had_by_left", "left"]) (sc := defScope s_best_if_known) (by decide +kernel)) (fun _ _ _ _ _ => pg_name (i := 5) sc.nd rfl (Or.inl rfl)) (fun _ _ _ _ _ => pts_nil) (fun _ _ _ _ _ => (pe_ix (r := rIxL K) ix_list (pv 2) (pe_f F_level_behind hr (by decide) T.glo_level_behind passL (pa_c (pv 0) (pa_c (pv 5) (pa_c (pe_ix (r := rIxL K) ix_list (pv 1) (pv 3) (fun _ _ => rfl)) pa_nil)))) (fun _ _ => rfl))))
      (pss_one (ps_set (i := 2) sc.nd rfl (Or.inr rfl) (pe_f F_best_by_level hr (by decide) T.glo_best_by_level (passes_call (takes_of rfl rfl rfl rfl) (fun _ _ _ _ h => h)) (pa_c (pv 0) (pa_c (pv 3) (pa_c (pv 4) pa_nil))))))))
      (pss_one (ps_ret (pv 2))))), ?rd⟩)
  case len =>
    obtain ⟨a, wp, l, ks, rfl, _⟩ := h
    rfl
  case rd =>
    obtain ⟨a, wp, l, ks, rfl, hL, F, hW, hlen, hks, q⟩ := h
    have hs2 := F.s2
    have hh := F.holds
    refine q_asgL (xs := vI ((List.range (l.holds + 1)).map fun x => l.rest * x)) (el_call (sp := spAtEnd K) (ea_cons (ev_var rfl) ea_nil) (fun H2 e2 Q q E => ⟨a, l, rfl, hL.ex e2, F, q⟩)) fun p0 H1 n1 e1 h1 => ?_
    have eseas : Ev (tFld K (tVar 0) "seasons") [some (.ref a), some (.ref wp), some (.ref p0), none, none, none] H1 (.int (l.seasons : Int)) := ev_seasons T (ev_var rfl) (hL.ex e1)
    refine q_rng3 (ea_cons (ev_op eseas ev_c rv_I0) (ea_cons (ev_un ev_c ru_neg) (ea_cons (ev_un ev_c ru_neg) ea_nil))) (n := l.seasons) (rg_down hs2) (fun i σ' H' => Ex H H' ∧ ∃ (p : Addr) (v3 v4 : Option V), σ' = [some (.ref a), some (.ref wp), some (.ref p), v3, v4, none] ∧ IntsAt H' p (Vbirak.knownRow l (l.seasons - i) (ks.drop (l.seasons - i)))) ?_ ?_ ?_
    · intro H2 e2
      refine ⟨e1.trans e2, p0, none, none, rfl, ?_⟩
      rw [Nat.sub_zero, ← hlen, List.drop_length]
      exact e2 _ _ h1
    · rintro i σ' H' hi ⟨ex, p, v3, v4, rfl, hp⟩
      have et : ((l.seasons : Int) - 1 + ((i : Nat) : Int) * -1) = ((l.seasons - (i + 1) : Nat) : Int) := by omega
      rw [et]
      obtain ⟨t, ht⟩ : ∃ t, t = l.seasons - (i + 1) := ⟨_, rfl⟩
      rw [show l.seasons - i = t + 1 from by omega] at hp
      rw [← ht]
      obtain ⟨k, hk⟩ : ∃ k, ks[t]? = some k := ⟨_, List.getElem?_eq_getElem (by omega)⟩
      have hkl : k < l.weathers.length := hks k (List.mem_of_getElem? hk)
      have hkn := known_row l t k (ks.drop (t + 1))
      rw [← drop_at hk] at hkn
      have hll := known_len l (t + 1) (ks.drop (t + 1))
      generalize Vbirak.knownRow l (t + 1) (ks.drop (t + 1)) = later at hp hkn hll
      refine q_asgL (xs := vI (behindOf l later k)) (el_rng (n := l.holds + 1) (fun left => later.getD (lb l left k) 0) (ea_cons (ev_is (ev_op (ev_holds T (ev_var rfl) (hL.ex ex)) ev_c rv_I0) rfl) ea_nil) (by omega) (fun _ => rfl) fun x H3 e3 hx => ?_) fun c H3 n3 e3 h3 => ?_
      · show Ev _ [some (.ref a), some (.ref wp), some (.ref p), some (.int (t : Int)), v4, some (.int (x : Int))] H3 _
        have hb : lb l x k < later.length := by
          have := lb_le l x k
          omega
        refine ev_int (ev_var rfl) (hp.ex e3) (ev_call (ea_cons (ev_var rfl) (ea_cons (ev_var rfl) (ea_cons (ev_op (ev_var rfl) (ev_var rfl) (rv_ixL (ex_l (ex.trans e3) hW) (atI_nat (vI_get hk)))) ea_nil))) (spv_level (hL.ex (ex.trans e3)) hkl)) ?_
        simp [List.getD_eq_getElem?_getD, List.getElem?_eq_getElem hb]
      · refine s_asgL (xs := vI ((List.range (l.holds + 1)).map (topOf l t (behindOf l later k)))) (el_call (sp := spBestBy K) (ea_cons (ev_var rfl) (ea_cons (ev_var rfl) (ea_cons (ev_var rfl) ea_nil))) (fun H5 e5 Q q E => ⟨a, c, l, behindOf l later k, t, rfl, hL.ex ((ex.trans e3).trans e5), F, e5 _ _ h3, behind_len .., q⟩)) fun p1 H4 n4 e4 h4 => ?_
        refine ⟨(ex.trans e3).trans e4, p1, _, _, rfl, ?_⟩
        rw [← hkn]
        exact h4
    · rintro σ' H' ⟨ex, p, v3, v4, rfl, hp⟩
      rw [Nat.sub_self] at hp
      exact ⟨_, rfl, q p H' ex hp⟩
def spGreater (K : PySem.W.Frag) : Sp := fun vs H Q _ => ∃ (a : Addr) (l : Lake) (n : Nat), vs = [.ref a, .int (n : Int)] ∧ LakeAt K H a l ∧ ∀ p H', Ex H H' → LakeAt K H' p { l with holds := l.holds + n } → Q (.ref p) H'
theorem ok_greater_lake (T : Tx K mg) (F_Lake_init : Fn P w K mg base 1 (He.ma K (He.ga K "Lake") "__init__") ["self", "holds", "seasons", "gate", "rest", "kinds", "tables"] (spInit (He.ga K "Lake") ["holds", "seasons", "gate", "rest", "kinds", "tables"])) : Fn P w K mg base 3 (He.ga K "greater_lake") ["lake", "more"] (spGreater K) := by
  have sc : FnScope ["lake", "more"] ["lake", "more"] (defScope s_greater_lake) := ⟨rfl, rfl, rfl, by decide +kernel, rfl, by decide +kernel, by decide +kernel⟩
  refine fn_mk (k := 2) T.fun_greater_lake sc (fun _ _ _ _ _ _ us hl => match us, hl with | [_, _], _ => rfl) (fun vs H Q E h => ?len) (fun cdv A outer s H vs Q E hr h => ⟨_, (pss_one (ps_ret (pe_k F_Lake_init hr (by decide) T.mkr_Lake T.glo_Lake (passes_call (takes_of rfl rfl rfl rfl) (fun _ _ _ _ h => h)) (pa_c (pe_op op_add (pe_fld (pv 0) rfl) (pv 1)) (pa_c (pe_fld (pv 0) rfl) (pa_c (pe_fld (pv 0) rfl) (pa_c (pe_fld (pv 0) rfl) (pa_c (pe_fld (pv 0) rfl) (pa_c (pe_fld (pv 0) rfl) pa_nil))))))))), ?rd⟩)
  case len =>
    obtain ⟨a, l, n, rfl, _⟩ := h
    rfl
  case rd =>
    obtain ⟨a, l, n, rfl, hL, q⟩ := h
    obtain ⟨dx, kl, tl, ks, ts, h1, h2, h3, h4, h5⟩ := id hL
    have f : ∀ {f : Str} {v : V}, NoAttr K (He.ga K "Lake") f → (lakeF l kl tl).lookup f = some v → Ev (tFld K (tVar 0) f) [some (.ref a), some (.int (n : Int))] H v := fun hn hl => ev_fld (ev_var rfl) h1 T.cls_Lake hn hl
    refine s_retN (R := InsAt (He.ga K "Lake") ([("holds" : Str), "seasons", "gate", "rest", "kinds", "tables"].zip [.int ((l.holds : Int) + (n : Int)), .int (l.seasons : Int), .int (l.gate : Int), .int (l.rest : Int), .ref kl, .ref tl])) (en_make (ea_cons (ev_op (f T.noat_Lake_holds (lk_holds ..)) (ev_var rfl) rv_I0) (ea_cons (f T.noat_Lake_seasons (lk_seasons ..)) (ea_cons (f T.noat_Lake_gate (lk_gate ..)) (ea_cons (f T.noat_Lake_rest (lk_rest ..)) (ea_cons (f T.noat_Lake_kinds (lk_kinds ..)) (ea_cons (f T.noat_Lake_tables (lk_tables ..)) ea_nil)))))) rfl) fun p H1 e1 hp => ?_
    obtain ⟨dp, hp⟩ := hp
    exact q p H1 e1 ⟨dp, kl, tl, ks, ts, ex_nw _ _ hp, e1 _ _ h2, h3.imp fun _ _ z => z.ex e1, e1 _ _ h4, h5.imp fun _ _ z => z.ex e1⟩
end
end Sl
namespace Sl
open PySem PySem.Spec PyProof.Rows L2
open Evl
open Vbirak (Lake Weather)
open Sm
/-! ### words shown -/
def wOf : V → List Nat
  | .int i => Vbirak.decimal i.toNat
  | .str s => TL.tl s
  | _ => []
def okW : V → Prop
  | .int i => 0 ≤ i ∧ i < 1000
  | .str s => (TL.tl s).length ≤ 10
  | _ => False
theorem dec_len : ((List.range 1000).all fun n => decide ((Vbirak.decimal n).length ≤ 3)) = true := by decide +kernel
theorem wOf_len {v : V} (h : okW v) : (wOf v).length ≤ 10 := by
  cases v <;> first | exact h | skip
  all_goals first | exact Nat.zero_le _ | skip
  rename_i i
  have h : 0 ≤ i ∧ i < 1000 := h
  have := of_decide_eq_true (List.all_eq_true.mp dec_len i.toNat (List.mem_range.mpr (by omega)))
  show (Vbirak.decimal i.toNat).length ≤ 10
  omega
theorem str_num (n : Nat) : Str.ofString (toString ((n : Nat) : Int)) = strOf (Vbirak.decimal n) := by
  rw [PySem.Str.ofString_eq_toList] <;> rfl
def rStr : List V → Hp → VK → Prop := fun xs H Q => (∃ i, xs = [.int i] ∧ i.natAbs.log2 < 1920 ∧ Q (.str (Str.ofString (toString i))) H) ∨ ∃ a, xs = [.str a] ∧ Q (.str a) H
theorem call_str_any {X : Cx} : CallR X (.type "str") rStr := fun pins s σ H xs us Q I r h => h.elim (fun h => call_str_int pins s σ H xs us Q I r h) fun h => SkE.call_str_str pins s σ H xs us Q I r h
def rCatS : V → V → Hp → VK → Prop := fun x y H Q => ∃ i j, x = .str i ∧ y = .str j ∧ i.length + j.length ≤ sizeLine ∧ Q (.str (i ++ j)) H
theorem ip_addS {X : Cx} : PIp X .Add rCatS := fun pins s σ H x y u v Q I rx ry h => iop_add_str pins s σ H x y u v Q I rx ry h
theorem strOf_tl (s : Str) : strOf (TL.tl s) = s := str_ext (tl_strOf _)
theorem strOf_app (a b : List Nat) : strOf a ++ strOf b = strOf (a ++ b) := str_ext (by rw [TL.tl_append, tl_strOf, tl_strOf, tl_strOf])
theorem strOf_len (a : List Nat) : (strOf a).length = a.length := rfl
section
variable {K : PySem.W.Frag} {σ : L2.St} {H : Hp} {ta tb te tl : TE} {tz : TS} {D : Ends} {E : XK} {v : V}
theorem ev_str (h : Ev ta σ H v) (ok : okW v) : Ev (tCB rStr (tCons ta tNil)) σ H (.str (strOf (wOf v))) := fun H1 e Q q => h H1 e _ fun H2 e2 => by
  cases v <;> first | exact ok.elim | skip
  · rename_i i
    obtain ⟨h0, h1⟩ := (show 0 ≤ i ∧ i < 1000 from ok)
    obtain ⟨n, rfl⟩ := Int.eq_ofNat_of_zero_le h0
    refine Or.inl ⟨_, rfl, ?_, ?_⟩
    · have : (n : Int).natAbs.log2 ≤ n := by
        rw [Int.natAbs_natCast]
        exact Nat.log2_le_self n
      omega
    · rw [str_num]
      exact q H2 e2
  · rename_i s
    refine Or.inr ⟨s, rfl, ?_⟩
    have e : strOf (wOf (.str s)) = s := strOf_tl s
    rw [e] at q
    exact q H2 e2
/-- [f(x) for x in xs] -/
theorem el_map {a : Addr} {xs : List V} {j : Nat} {vs : List Nat} (f : V → V) (h : Ev tl σ H (.ref a)) (hx : SqL K H a xs) (hz : xs.length ≤ 40000) (hw : ∀ x, wipe ((wipe σ vs).set j (some x)) vs = wipe σ vs)
    (he : ∀ (i : Nat) (x : V) H1, Ex H H1 → xs[i]? = some x → Ev te ((wipe σ vs).set j (some x)) H1 (f x)) : EvL (tLc (iList K tl) (gName j) tYes te vs) σ H (xs.map f) := by
  have key := el_lcL (K := K) (t := tYes) (te := te) (fun _ => true) (fun i => f (xs.getD i .non)) h hx hz hw (fun _ _ _ _ _ => et_yes) fun i x H1 e1 hx _ => by
    rw [List.getD_eq_getElem?_getD, hx]
    exact he i x H1 e1 hx
  rw [given_all, map_range_get xs f _ fun i x hx => by rw [List.getD_eq_getElem?_getD, hx]; rfl] at key
  exact key
/-- one more item of a long list -/
theorem cw_all {H1 H' : Hp} {v : Nat → V} {Dl : Addr} {i : Nat} {σ2 : L2.St} (p : Cw H1 (fun _ => true) v Dl i H') (hi : i < 10000000) (he : Ev te σ2 H1 (v i)) :
    tYes σ2 H' fun b H3 => if b = true then te σ2 H3 fun y H4 => ∃ acc, H4 Dl = some (.lst acc) ∧ acc.length < sizeLine ∧ Cw H1 (fun _ => true) v Dl (i + 1) (upd H4 Dl (.lst (acc ++ [y]))) else Cw H1 (fun _ => true) v Dl (i + 1) H3 := by
  obtain ⟨c1, c2, c3⟩ := p
  have hl := given_len i (fun _ => true) v
  show te σ2 H' fun y H4 => ∃ acc, H4 Dl = some (.lst acc) ∧ acc.length < sizeLine ∧ Cw H1 (fun _ => true) v Dl (i + 1) (upd H4 Dl (.lst (acc ++ [y])))
  refine he H' c2 _ fun H4 e4 => ⟨_, e4 _ _ c3, Nat.lt_of_lt_of_le (show _ < 10000000 by omega) (by decide), c1, Ex.mut (c2.trans e4) c1, ?_⟩
  rw [upd_same, ← given_yes (f := fun _ => true) (v := v) rfl]
/-- [ord(s) for s in a text] -/
theorem el_lcS {x : List Nat} {j : Nat} {vs : List Nat} (f : Nat → V) (h : Ev tl σ H (.str (strOf x))) (hz : x.length ≤ 10000000) (hw : ∀ x, wipe ((wipe σ vs).set j (some x)) vs = wipe σ vs)
    (he : ∀ (c : Nat) H1, Ex H H1 → Ev te ((wipe σ vs).set j (some (.str (strOf [c])))) H1 (f c)) : EvL (tLc (iStr tl) (gName j) tYes te vs) σ H (x.map f) := fun H0 e Q q => h H0 e _ fun H1 e1 => ⟨strOf x, rfl, fun Dl hD => by
  have sz : (strOf x).cps.size = x.length := List.size_toArray ..
  refine ⟨fun i m H' => m = x.length - i ∧ i ≤ x.length ∧ Cw H1 (fun _ => true) (fun i => f (x.getD i 0)) Dl i H', ⟨x.length, rfl, Nat.zero_le _, hD, Ex.new hD, upd_same⟩, ?_⟩
  rintro i m H' ⟨rfl, hi, p⟩
  by_cases hlt : i < x.length
  · refine .inr ⟨by rw [← sz] at hlt; exact hlt, Cw H1 (fun _ => true) (fun i => f (x.getD i 0)) Dl (i + 1), fun H2 p' => ⟨x.length - (i + 1), by omega, rfl, hlt, p'⟩, ?_⟩
    rintro y H2 ⟨rfl, c, hc, rfl⟩
    refine ⟨hw _, cw_all p (by omega) ?_⟩
    have hc' : x[i]? = some c := by
      have : x.toArray[i]? = some c := hc
      rw [List.getElem?_toArray] at this
      exact this
    rw [List.getD_eq_getElem?_getD, hc']
    exact he c H1 (e.trans e1)
  · have e2 : i = x.length := by omega
    subst e2
    refine .inl ⟨by show (strOf x).cps.size ≤ _; rw [sz]; exact Nat.le_refl _, ?_⟩
    have e3 : x.map f = given x.length (fun _ => true) fun i => f (x.getD i 0) := by
      rw [given_all]
      symm
      exact map_range_get x f _ fun i y hy => by rw [List.getD_eq_getElem?_getD, hy] <;> rfl
    have p3 := p.2.2
    rw [← e3] at p3
    exact q Dl H' (fresh_back e1 p.1) (e1.trans p.2.1) p3⟩
/-- sep.join(a new list of texts) -/
theorem ev_joinS {sep : Str} {ys : List Str} (h1 : Ev ta σ H (.str sep)) (h2 : EvL tb σ H (ys.map V.str)) (hz : (ys.map (·.length)).sum + ys.length * sep.length ≤ 16777216) : Ev (tM1 (fun x xs H Q => ∃ a p, ∃ ys : List Str, x = .str a ∧ xs = [.ref p] ∧ (SqL K H p (ys.map V.str) ∨ SqT K H p (ys.map V.str)) ∧ (ys.map (·.length)).sum + ys.length * a.length ≤ 16777216 ∧ Q (.str (Txt.join a ys)) H) ta tb) σ H (.str (Txt.join sep ys)) := fun H1 e Q q =>
  h1 H1 e _ fun H2 e2 => ⟨⟨_, rfl⟩, h2 H2 (e.trans e2) _ fun p H3 _ e3 hp => ⟨sep, p, ys, rfl, rfl, Or.inl (sq_of hp), hz, q H3 (e2.trans e3)⟩⟩
theorem ev_addS {a b : List Nat} (h1 : Ev ta σ H (.str (strOf a))) (h2 : Ev tb σ H (.str (strOf b))) (hz : a.length + b.length ≤ 10000000) : Ev (tOp (fun x y H Q => ∃ i j, x = .str i ∧ y = .str j ∧ i.length + j.length ≤ sizeLine ∧ Q (.str (i ++ j)) H) ta tb) σ H (.str (strOf (a ++ b))) := fun H1 e Q q =>
  h1 H1 e _ fun H2 e2 => h2 H2 (e.trans e2) _ fun H3 e3 => ⟨_, _, rfl, rfl, by rw [strOf_len, strOf_len]; exact Nat.le_trans hz (by decide), by rw [strOf_app]; exact q H3 (e2.trans e3)⟩
theorem s_augS {i : Nat} {a b : List Nat} (hx : σ[i]? = some (some (.str (strOf a)))) (h : Ev te σ H (.str (strOf b))) (hz : a.length + b.length ≤ 10000000) (k : ∀ H1, Ex H H1 → D.nx (σ.set i (some (.str (strOf (a ++ b))))) H1) : tAug i te rCatS D σ H :=
  ⟨_, hx, h H (Ex.refl H) _ fun H1 e => ⟨_, _, rfl, rfl, by rw [strOf_len, strOf_len]; exact Nat.le_trans hz (by decide), by rw [strOf_app]; exact k H1 e⟩⟩
end
theorem join_words : ∀ (x : List Nat) (r : List (List Nat)), TL.joinL [32] (x :: r) = r.foldl (fun a y => a ++ (32 :: y)) x
  | x, [] => rfl
  | x, y :: r => by
    rw [TL.joinL.eq_3, join_words y r, List.foldl_cons]
    have h : ∀ (r : List (List Nat)) (a b : List Nat), a ++ r.foldl (fun a y => a ++ (32 :: y)) b = r.foldl (fun a y => a ++ (32 :: y)) (a ++ b) := fun r => by
      induction r with
      | nil => intros; rfl
      | cons z r ih =>
        intro a b
        rw [List.foldl_cons, List.foldl_cons, ih, List.append_assoc]
    rw [h]
    show _ = r.foldl _ (x ++ ([32] ++ y))
    rw [h]
theorem line_len : ∀ (ws : List (List Nat)), (∀ x ∈ ws, x.length ≤ 10) → (Vbirak.line ws).length ≤ 11 * ws.length + 2 := fun ws h => by
  have f : ∀ (r : List (List Nat)) (b : List Nat), (∀ x ∈ r, x.length ≤ 10) → (r.foldl (fun a y => a ++ (32 :: y)) b).length ≤ b.length + 11 * r.length := fun r => by
    induction r with
    | nil => intro b _; exact Nat.le_refl _
    | cons z r ih =>
      intro b hb
      have h1 := hb z (List.mem_cons_self ..)
      have h2 := ih (b ++ 32 :: z) fun x hx => hb x (List.mem_cons_of_mem _ hx)
      rw [List.foldl_cons]
      simp only [List.length_append, List.length_cons] at h2 ⊢
      omega
  cases ws with
  | nil => exact Nat.le_refl _
  | cons x r =>
    have h1 := h x (List.mem_cons_self ..)
    have h2 := f r x fun y hy => h y (List.mem_cons_of_mem _ hy)
    show (r.foldl (fun a y => a ++ (32 :: y)) x ++ [59, 10]).length ≤ _
    simp only [List.length_append, List.length_cons, List.length_nil]
    omega
theorem sum_le : ∀ (ws : List V), (∀ v ∈ ws, okW v) → ((ws.map fun v => strOf (wOf v)).map (·.length)).sum ≤ 10 * ws.length
  | [], _ => Nat.le_refl _
  | v :: r, h => by
    have h1 := wOf_len (h v (List.mem_cons_self ..))
    have h2 := sum_le r fun x hx => h x (List.mem_cons_of_mem _ hx)
    rw [List.map_cons, List.map_cons, List.sum_cons, strOf_len, List.length_cons]
    omega
theorem blank_eq : (" " : Str) = strOf [32] := by decide +kernel
theorem end_eq : (";\n" : Str) = strOf [59, 10] := by decide +kernel
section
variable {P : Program} {w : World} {K : PySem.W.Frag} {mg : Str → Option Value} {base : Heap}
def spLine (K : PySem.W.Frag) : Sp := fun vs H Q _ => ∃ (p : Addr) (ws : List V), vs = [.ref p] ∧ SqL K H p ws ∧ (∀ v ∈ ws, okW v) ∧ ws.length ≤ 30000 ∧ RetV (.str (strOf (Vbirak.line (ws.map wOf)))) H Q
theorem ok_shown_line (T : Tx K mg)  : Fn P w K mg base 1 (He.ga K "shown_line") ["words"] (spLine K) := by
  have sc : FnScope ["words", "word"] ["words"] (defScope s_shown_line) := ⟨rfl, rfl, rfl, by decide +kernel, rfl, by decide +kernel, by decide +kernel⟩
  refine fn_mk (k := 0) T.fun_shown_line sc (fun _ _ _ _ _ _ us hl => match us, hl with | [_], _ => rfl) (fun vs H Q E h => ?len) (fun cdv A outer s H vs Q E hr h => ⟨_, (pss_one (ps_ret (pe_op op_add_str (pe_join pe_str (pe_lc (own := [("word", 1)]) (g := gName 1) (tt := tYes) rfl sc.nd (pi_list (pv 0)) (blkOk_by (own := [("word", 1)]) (N := ["words", "word"]) (sc := defScope s_shown_line) (by decide +kernel)) (fun _ _ _ _ _ => pg_name (i := 1) sc.nd rfl (Or.inl rfl)) (fun _ _ _ _ _ => pts_nil) (fun _ _ _ _ _ => (pe_callTy call_str_any (by rfl) T.free_str (by decide +kernel) (pa_c (pv 1) pa_nil))))) pe_str))), ?rd⟩)
  case len =>
    obtain ⟨p, ws, rfl, _⟩ := h
    rfl
  case rd =>
    obtain ⟨p, ws, rfl, hS, ok, hz, q⟩ := h
    have hs := sum_le ws ok
    have key : Ev (tM1 _ (tC (.str " ")) (tLc (iList K (tVar 0)) (gName 1) tYes (tCB rStr (tCons (tVar 1) tNil)) [1])) [some (.ref p), none] H _ := ev_joinS (K := K) (sep := " ") (ys := ws.map fun v => strOf (wOf v)) ev_c (by
      rw [List.map_map]
      exact el_map (V.str ∘ fun v => strOf (wOf v)) (ev_var rfl) hS (by omega) (fun _ => rfl) fun i x H1 e1 hx => ev_str (ev_var rfl) (ok x (List.mem_of_getElem? hx))) (by
      rw [List.length_map]
      show _ + ws.length * 1 ≤ _
      omega)
    have e1 : Txt.join " " (ws.map fun v => strOf (wOf v)) = strOf (TL.joinL [32] (ws.map wOf)) := by
      rw [TL.join_eq]
      apply str_ext
      rw [TL.tl_join, tl_strOf, List.map_map, blank_eq] <;> rfl
    rw [e1] at key
    have e2 : Vbirak.line (ws.map wOf) = TL.joinL [32] (ws.map wOf) ++ [59, 10] := by
      cases ws with
      | nil => rfl
      | cons v r =>
        rw [List.map_cons, join_words] <;> rfl
    have hl := line_len (ws.map wOf) fun x hx => by
      obtain ⟨v, hv, rfl⟩ := List.mem_map.mp hx
      exact wOf_len (ok v hv)
    rw [e2] at q hl
    rw [List.length_append, List.length_map] at hl
    exact s_ret (ev_addS key (ev_is ev_c (congrArg V.str end_eq)) (by omega)) q
def spBytes (K : PySem.W.Frag) : Sp := fun vs H Q _ => ∃ (x : List Nat), vs = [.str (strOf x)] ∧ x.length ≤ 10000000 ∧ RetL (vI x) H Q
theorem ok_byte_row (T : Tx K mg)  : Fn P w K mg base 1 (He.ga K "byte_row") ["text"] (spBytes K) := by
  have sc : FnScope ["text", "sign"] ["text"] (defScope s_byte_row) := ⟨rfl, rfl, rfl, by decide +kernel, rfl, by decide +kernel, by decide +kernel⟩
  refine fn_mk (k := 0) T.fun_byte_row sc (fun _ _ _ _ _ _ us hl => match us, hl with | [_], _ => rfl) (fun vs H Q E h => ?len) (fun cdv A outer s H vs Q E hr h => ⟨_, (pss_one (ps_ret (pe_lc (own := [("sign", 1)]) (g := gName 1) (tt := tYes) rfl sc.nd (pi_str (pv 0)) (blkOk_by (own := [("sign", 1)]) (N := ["text", "sign"]) (sc := defScope s_byte_row) (by decide +kernel)) (fun _ _ _ _ _ => pg_name (i := 1) sc.nd rfl (Or.inl rfl)) (fun _ _ _ _ _ => pts_nil) (fun _ _ _ _ _ => (pe_callB call_ord (by rfl) T.free_ord (by decide +kernel) (pa_c (pv 1) pa_nil)))))), ?rd⟩)
  case len =>
    obtain ⟨x, rfl, _⟩ := h
    rfl
  case rd =>
    obtain ⟨x, rfl, hz, q⟩ := h
    exact s_retL (xs := vI x) (el_lcS (fun (n : Nat) => V.int (n : Int)) (ev_var rfl) hz (fun _ => rfl) fun c H3 e3 H4 e4 Q q => ⟨_, rfl, strOf [c], rfl, rfl, q H4 (Ex.refl H4)⟩) q
theorem spl_bytes {x : List Nat} {H : Hp} (hz : x.length ≤ 10000000) : SpL (spBytes K) [.str (strOf x)] H (vI x) := fun H1 e Q q E => ⟨x, rfl, hz, q⟩
end
end Sl
namespace Sl
open PySem PySem.Spec PyProof.Rows L2
open Evl
open Vbirak (Lake Weather)
open Sm
/-! ### a lake shown -/
theorem wOf_s (s : String) : wOf (.str (Str.ofString s)) = Vbirak.bytesOf s := TL.tl_ofString s
theorem wOf_n (n : Nat) : wOf (.int (n : Int)) = Vbirak.decimal n := rfl
theorem wOf_b (b : List Nat) : wOf (.str (strOf b)) = b := rfl
theorem okW_n {n : Nat} (h : n < 1000) : okW (.int (n : Int)) := ⟨by omega, by omega⟩
theorem okW_s {s : String} (h : (TL.tl (Str.ofString s)).length ≤ 10) : okW (.str (Str.ofString s)) := h
theorem okW_b {b : List Nat} (h : b.length ≤ 10) : okW (.str (strOf b)) := h
theorem ok_nil : ∀ v ∈ ([] : List V), okW v := fun v h => by cases h
theorem ok_cons {v : V} {r : List V} (h : okW v) (hr : ∀ v ∈ r, okW v) : ∀ u ∈ v :: r, okW u := fun u hu => by
  rcases List.mem_cons.mp hu with rfl | hu
  · exact h
  · exact hr u hu
theorem ok_app {a b : List V} (h : ∀ v ∈ a, okW v) (hr : ∀ v ∈ b, okW v) : ∀ u ∈ a ++ b, okW u := fun u hu => by
  rcases List.mem_append.mp hu with hu | hu
  · exact h u hu
  · exact hr u hu
def lineW (l : Lake) (x : Weather) : List Nat := Vbirak.line ([Vbirak.bytesOf "weather", x.name, Vbirak.bytesOf "brings", Vbirak.decimal x.brings, Vbirak.bytesOf "then"] ++ x.next.map (Vbirak.nameOf l))
def lineY (y : List Nat) : List Nat := Vbirak.line (Vbirak.bytesOf "yields" :: y.map Vbirak.decimal)
def line0 (l : Lake) : List Nat := Vbirak.line [Vbirak.bytesOf "holds", Vbirak.decimal l.holds, Vbirak.bytesOf "seasons", Vbirak.decimal l.seasons, Vbirak.bytesOf "gate", Vbirak.decimal l.gate, Vbirak.bytesOf "rest", Vbirak.decimal l.rest]
theorem written_eq (l : Lake) : Vbirak.written l = line0 l ++ ((l.weathers.flatMap (lineW l)) ++ l.yields.flatMap lineY) := rfl
theorem flat_take {α : Type} {xs : List α} {f : α → List Nat} {i : Nat} {x : α} (h : xs[i]? = some x) : (xs.take (i + 1)).flatMap f = (xs.take i).flatMap f ++ f x := by
  rw [List.take_add_one, h, List.flatMap_append]
  simp
theorem flat_len {α : Type} {f : α → List Nat} {n : Nat} : ∀ xs : List α, (∀ x ∈ xs, (f x).length ≤ n) → (xs.flatMap f).length ≤ n * xs.length
  | [], _ => Nat.zero_le _
  | x :: r, h => by
    have h1 := h x (List.mem_cons_self ..)
    have h2 := flat_len r fun y hy => h y (List.mem_cons_of_mem _ hy)
    rw [List.flatMap_cons, List.length_append, List.length_cons, Nat.mul_succ]
    omega
section
variable {K : PySem.W.Frag} {σ : L2.St} {H : Hp} {ta : TE} {E : XK}
theorem ev_line {ws : List V} (h : EvL ta σ H ws) (ok : ∀ v ∈ ws, okW v) (hz : ws.length ≤ 30000) : Ev (tCall (spLine K) [] E (tCons ta tNil)) σ H (.str (strOf (Vbirak.line (ws.map wOf)))) :=
  ev_callL1 h fun p H1 hp _ H2 e2 Q q _ => ⟨p, ws, rfl, ex_l e2 (sq_of hp), ok, hz, q⟩
end
theorem line_ok {ws : List V} (ok : ∀ v ∈ ws, okW v) : (Vbirak.line (ws.map wOf)).length ≤ 11 * ws.length + 2 := by
  have := line_len (ws.map wOf) fun x hx => by
    obtain ⟨v, hv, rfl⟩ := List.mem_map.mp hx
    exact wOf_len (ok v hv)
  rw [List.length_map] at this
  exact this
def wsW (l : Lake) (x : Weather) : List V := [.str "weather", .str (strOf x.name), .str "brings", .int (x.brings : Int), .str "then"] ++ x.next.map fun k => V.str (strOf (Vbirak.nameOf l k))
theorem wsW_eq (l : Lake) (x : Weather) : Vbirak.line ((wsW l x).map wOf) = lineW l x := by
  unfold wsW lineW
  rw [List.map_append, List.map_map, ← wOf_s "weather", ← wOf_s "brings", ← wOf_s "then"] <;> rfl
theorem name_len {l : Lake} (F : Fit l) (k : Nat) : (Vbirak.nameOf l k).length ≤ 8 := by
  unfold Vbirak.nameOf
  cases h : l.weathers[k]? with
  | none => exact Nat.zero_le _
  | some x => exact (F.name x (List.mem_of_getElem? h)).1
theorem wsW_ok {l : Lake} (F : Fit l) {x : Weather} (hx : x ∈ l.weathers) : ∀ v ∈ wsW l x, okW v := by
  have h1 := (F.name x hx).1
  have h2 := F.brings x hx
  refine ok_app (ok_cons (okW_s (by decide +kernel)) (ok_cons (okW_b (by omega)) (ok_cons (okW_s (by decide +kernel)) (ok_cons (okW_n (by omega)) (ok_cons (okW_s (by decide +kernel)) ok_nil))))) fun v hv => ?_
  obtain ⟨k, _, rfl⟩ := List.mem_map.mp hv
  have := name_len F k
  exact okW_b (by omega)
def wsY (y : List Nat) : List V := [V.str "yields"] ++ vI y
theorem wsY_eq (y : List Nat) : Vbirak.line ((wsY y).map wOf) = lineY y := by
  unfold wsY lineY vI
  rw [List.map_append, List.map_map, ← wOf_s "yields"] <;> rfl
theorem wsY_ok {l : Lake} (F : Fit l) {y : List Nat} (hy : y ∈ l.yields) : ∀ v ∈ wsY y, okW v := by
  refine ok_app (ok_cons (okW_s (by decide +kernel)) ok_nil) fun v hv => ?_
  obtain ⟨n, hn, rfl⟩ := List.mem_map.mp hv
  have := F.y4 y hy n hn
  exact okW_n (by omega)
def ws0 (l : Lake) : List V := [.str "holds", .int (l.holds : Int), .str "seasons", .int (l.seasons : Int), .str "gate", .int (l.gate : Int), .str "rest", .int (l.rest : Int)]
theorem ws0_eq (l : Lake) : Vbirak.line ((ws0 l).map wOf) = line0 l := by
  unfold ws0 line0
  rw [← wOf_s "holds", ← wOf_s "seasons", ← wOf_s "gate", ← wOf_s "rest"] <;> rfl
theorem ws0_ok {l : Lake} (F : Fit l) : ∀ v ∈ ws0 l, okW v := by
  have h1 := F.holds
  have h2 := F.s2
  have h3 := F.gate
  have h4 := F.rest
  exact ok_cons (okW_s (by decide +kernel)) (ok_cons (okW_n (by omega)) (ok_cons (okW_s (by decide +kernel)) (ok_cons (okW_n (by omega)) (ok_cons (okW_s (by decide +kernel)) (ok_cons (okW_n (by omega)) (ok_cons (okW_s (by decide +kernel)) (ok_cons (okW_n (by omega)) ok_nil)))))))
theorem lineW_len {l : Lake} (F : Fit l) {x : Weather} (hx : x ∈ l.weathers) : (lineW l x).length ≤ 200 := by
  have h := line_ok (wsW_ok F hx)
  rw [wsW_eq] at h
  have h2 := F.n2 x hx
  unfold wsW at h
  simp only [List.length_append, List.length_cons, List.length_nil, List.length_map] at h
  omega
theorem lineY_len {l : Lake} (F : Fit l) {y : List Nat} (hy : y ∈ l.yields) : (lineY y).length ≤ 200 := by
  have h := line_ok (wsY_ok F hy)
  rw [wsY_eq] at h
  have h2 := F.y3 y hy
  have h3 := F.gate
  unfold wsY at h
  rw [List.length_append, vI_len] at h
  simp only [List.length_cons, List.length_nil] at h
  omega
theorem take_len {α : Type} {xs : List α} {i n : Nat} {f : α → List Nat} (h : ∀ x ∈ xs, (f x).length ≤ 200) (hn : xs.length ≤ n) : ((xs.take i).flatMap f).length ≤ 200 * n := by
  have h1 := flat_len (n := 200) (f := f) (xs.take i) fun x hx => h x (List.mem_of_mem_take hx)
  have h2 : (xs.take i).length ≤ xs.length := by rw [List.length_take]; omega
  have h3 : 200 * (xs.take i).length ≤ 200 * n := Nat.mul_le_mul_left _ (by omega)
  omega
section
variable {P : Program} {w : World} {K : PySem.W.Frag} {mg : Str → Option Value} {base : Heap}
def nameV (l : Lake) : V → V
  | .int i => .str (strOf (Vbirak.nameOf l i.toNat))
  | _ => .non
def spShow (K : PySem.W.Frag) : Sp := fun vs H Q _ => ∃ (a : Addr) (l : Lake), vs = [.ref a] ∧ LakeAt K H a l ∧ Fit l ∧ RetL (vI (Vbirak.written l)) H Q
theorem ok_show_lake (T : Tx K mg) (F_shown_line : Fn P w K mg base 1 (He.ga K "shown_line") ["words"] (spLine K)) (F_byte_row : Fn P w K mg base 1 (He.ga K "byte_row") ["text"] (spBytes K)) : Fn P w K mg base 2 (He.ga K "show_lake") ["lake"] (spShow K) := by
  have sc : FnScope ["lake", "shown", "kind", "follows", "table", "number"] ["lake"] (defScope s_show_lake) := ⟨rfl, rfl, rfl, by decide +kernel, rfl, by decide +kernel, by decide +kernel⟩
  refine fn_mk (k := 1) T.fun_show_lake sc (fun _ _ _ _ _ _ us hl => match us, hl with | [_], _ => rfl) (fun vs H Q E h => ?len) (fun cdv A outer s H vs Q E hr h => ⟨_, (pss_cons (ps_set (i := 1) sc.nd rfl (Or.inl rfl) (pe_f F_shown_line hr (by decide) T.glo_shown_line (passes_call (takes_of rfl rfl rfl rfl) (fun _ _ _ _ h => h)) (pa_c (pe_lst (pa_c pe_str (pa_c (pe_fld (pv 0) rfl) (pa_c pe_str (pa_c (pe_fld (pv 0) rfl) (pa_c pe_str (pa_c (pe_fld (pv 0) rfl) (pa_c pe_str (pa_c (pe_fld (pv 0) rfl) pa_nil))))))))) pa_nil)))
      (pss_cons (ps_for (passes_of rfl) rfl (pi_list (pe_fld (pv 0) rfl)) (pg_name (i := 2) sc.nd rfl (Or.inl rfl)) (pss_cons (ps_setLc (i := 3) (own := [("number", 5)]) (g := gName 5) (tt := tYes) rfl sc.nd rfl rfl (sw_true rfl rfl rfl (by decide +kernel)) (pi_list (pe_fld (pv 2) rfl)) (blkOk_by (own := [("number", 5)]) (N := ["lake", "shown", "kind", "follows", "table", "number"]) (sc := defScope s_show_lake) (by decide +kernel)) (fun _ _ _ _ _ => pg_name (i := 5) sc.nd rfl (Or.inl rfl)) (fun _ _ _ _ _ => pts_nil) (fun _ _ _ _ _ => (pe_fldK (K := K) rfl (pe_ix (r := rIxL K) ix_list (pe_fldK (K := K) rfl (pv 0) rfl) (pv 5) (fun _ _ => rfl)) rfl)))
      (pss_one (ps_aug (i := 1) sc.nd rfl (Or.inl rfl) (pe_f F_shown_line hr (by decide) T.glo_shown_line (passes_call (takes_of rfl rfl rfl rfl) (fun _ _ _ _ h => h)) (pa_c (pe_op op_cat (pe_lst (pa_c pe_str (pa_c (pe_fld (pv 2) rfl) (pa_c pe_str (pa_c (pe_fld (pv 2) rfl) (pa_c pe_str pa_nil)))))) (pv 3)) pa_nil)) ip_addS))))
      (pss_cons (ps_for (passes_of rfl) rfl (pi_list (pe_fld (pv 0) rfl)) (pg_name (i := 4) sc.nd rfl (Or.inl rfl)) (pss_one (ps_aug (i := 1) sc.nd rfl (Or.inl rfl) (pe_f F_shown_line hr (by decide) T.glo_shown_line (passes_call (takes_of rfl rfl rfl rfl) (fun _ _ _ _ h => h)) (pa_c (pe_op op_cat (pe_lst (pa_c pe_str pa_nil)) (pv 4)) pa_nil)) ip_addS)))
      (pss_one (ps_ret (pe_f F_byte_row hr (by decide) T.glo_byte_row (passes_call (takes_of rfl rfl rfl rfl) (fun _ _ _ _ h => h)) (pa_c (pv 1) pa_nil))))))), ?rd⟩)
  case len =>
    obtain ⟨a, l, rfl, _⟩ := h
    rfl
  case rd =>
    obtain ⟨a, l, rfl, hL, F, q⟩ := h
    have hw2 := F.w2
    have hy2 := F.y2
    have l0 := line_ok (ws0_ok F)
    rw [ws0_eq] at l0
    have l0 : (line0 l).length ≤ 11 * 8 + 2 := l0
    refine q_asg (v := .str (strOf (line0 l))) ?_ fun H1 e1 => ?_
    · rw [← ws0_eq]
      exact ev_line (ws := ws0 l) (el_lst (ea_cons ev_c (ea_cons (ev_holds T (ev_var rfl) hL) (ea_cons ev_c (ea_cons (ev_seasons T (ev_var rfl) hL) (ea_cons ev_c (ea_cons (ev_gate T (ev_var rfl) hL) (ea_cons ev_c (ea_cons (ev_rest T (ev_var rfl) hL) ea_nil)))))))) (by show 8 ≤ 100000; decide)) (ws0_ok F) (by show 8 ≤ 30000; decide)
    obtain ⟨kl, ks, ek, hk, hks⟩ := ev_kinds (ta := tVar 0) (σ := [some (.ref a), some (.str (strOf (line0 l))), none, none, none, none]) T (ev_var rfl) (hL.ex e1)
    refine q_forLn ek (sq_of hk) (fun i σ' H' => Ex H1 H' ∧ ∃ (v2 v3 : Option V), σ' = [some (.ref a), some (.str (strOf (line0 l ++ (l.weathers.take i).flatMap (lineW l)))), v2, v3, none, none]) (fun H2 e2 => ⟨e2, none, none, by rw [List.take_zero]; show _ = [some (V.ref a), some (V.str (strOf (line0 l ++ []))), none, none, none, none]; rw [List.append_nil]; rfl⟩) (fun i σ' H' _ z => sq_of (z.1 _ _ hk)) ?_ ?_
    · rintro i x σ' H' hx ⟨e, v2, v3, rfl⟩
      rw [List.getElem?_map] at hx
      cases ec : ks[i]? with
      | none =>
        rw [ec] at hx
        cases hx
      | some c =>
      rw [ec] at hx
      cases hx
      have hi : i < l.weathers.length := by
        rw [← hks.1]
        exact (List.getElem?_eq_some_iff.mp ec).1
      have hc := (hks.2 i c _ ec (List.getElem?_eq_getElem hi)).ex e
      have hm : l.weathers[i] ∈ l.weathers := List.getElem_mem hi
      obtain ⟨fl, ef, hf⟩ := ev_follows (ta := tVar 2) (σ := [some (.ref a), some (.str (strOf (line0 l ++ (l.weathers.take i).flatMap (lineW l)))), some (.ref c), v3, none, none]) T (ev_var rfl) hc
      have hn2 := F.n2 _ hm
      refine q_asgL (xs := (l.weathers[i].next).map fun k => V.str (strOf (Vbirak.nameOf l k))) ?_ fun p H2 hp e2 h2 => ?_
      · have key := el_map (K := K) (te := tFld K (tOp (rIxL K) (tFld K (tVar 0) "kinds") (tVar 5)) "name") (j := 5) (vs := [5]) (nameV l) ef (sq_of hf) (by rw [vI_len]; omega) (fun _ => rfl) fun i' x H3 e3 hx => by
          obtain ⟨n, hn, rfl⟩ := vI_at hx
          have hnl := F.n3 _ hm n (List.mem_of_getElem? hn)
          obtain ⟨y, hy, ey⟩ := ev_kind (K := K) (ta := tVar 0) (tb := tVar 5) (σ := [some (.ref a), some (.str (strOf (line0 l ++ (l.weathers.take i).flatMap (lineW l)))), some (.ref c), v3, none, some (.int (n : Int))]) T (ev_var rfl) (((hL.ex e1).ex e).ex e3) (ev_var rfl) (List.getElem?_eq_getElem hnl)
          have en : nameV l (.int (n : Int)) = .str (strOf (l.weathers[n]).name) := by
            show V.str (strOf (Vbirak.nameOf l n)) = _
            unfold Vbirak.nameOf
            rw [List.getElem?_eq_getElem hnl] <;> rfl
          rw [en]
          exact ev_name T ey hy
        unfold vI at key
        rw [List.map_map] at key
        exact key
      · have hw := wsW_ok F hm
        have hwl := lineW_len F hm
        have htl := take_len (i := i) (f := lineW l) (fun x hx => lineW_len F hx) hw2
        refine s_augS (a := line0 l ++ (l.weathers.take i).flatMap (lineW l)) (b := lineW l l.weathers[i]) rfl ?_ ?_ fun H3 e3 => ⟨(e.trans e2).trans e3, some (.ref c), some (.ref p), ?_⟩
        · rw [← wsW_eq]
          refine ev_line (el_cat (el_lst (ea_cons ev_c (ea_cons (ev_name T (ev_var (i := 2) rfl) (hc.ex e2)) (ea_cons ev_c (ea_cons (ev_brings T (ev_var (i := 2) rfl) (hc.ex e2)) (ea_cons ev_c ea_nil))))) (by show 5 ≤ 100000; decide)) (ev_var rfl) h2 ?_) hw ?_
          · rw [List.length_map]
            show 5 + _ ≤ 100000
            omega
          · unfold wsW
            rw [List.length_append, List.length_map]
            show 5 + _ ≤ 30000
            omega
        · rw [List.length_append]
          omega
        · rw [flat_take (List.getElem?_eq_getElem hi), ← List.append_assoc] <;> rfl
    · rintro σ' H' ⟨e, v2, v3, rfl⟩
      rw [List.length_map, hks.1, List.take_length]
      have htl := take_len (i := l.weathers.length) (f := lineW l) (fun x hx => lineW_len F hx) hw2
      rw [List.take_length] at htl
      generalize hA : line0 l ++ l.weathers.flatMap (lineW l) = A0
      have hA0 : A0.length ≤ 1000 := by
        rw [← hA, List.length_append]
        omega
      obtain ⟨tl, ts, et, ht, hts⟩ := ev_tables (ta := tVar 0) (σ := [some (.ref a), some (.str (strOf A0)), v2, v3, none, none]) T (ev_var rfl) ((hL.ex e1).ex e)
      refine q_forLn et (sq_of ht) (fun i σ' H2 => Ex H' H2 ∧ ∃ (v4 : Option V), σ' = [some (.ref a), some (.str (strOf (A0 ++ (l.yields.take i).flatMap lineY))), v2, v3, v4, none]) (fun H2 e2 => ⟨e2, none, by rw [List.take_zero]; show _ = [some (V.ref a), some (V.str (strOf (A0 ++ []))), v2, v3, none, none]; rw [List.append_nil]⟩) (fun i σ' H' _ z => sq_of (z.1 _ _ ht)) ?_ ?_
      · rintro i x σ' H2 hx ⟨e2, v4, rfl⟩
        rw [List.getElem?_map] at hx
        cases ec : ts[i]? with
        | none =>
          rw [ec] at hx
          cases hx
        | some c =>
        rw [ec] at hx
        cases hx
        have hi : i < l.yields.length := by
          rw [← hts.1]
          exact (List.getElem?_eq_some_iff.mp ec).1
        have hc := (hts.2 i c _ ec (List.getElem?_eq_getElem hi)).ex e2
        have hm : l.yields[i] ∈ l.yields := List.getElem_mem hi
        have h3 := F.y3 _ hm
        have hg := F.gate
        have hyl := lineY_len F hm
        have htl := take_len (i := i) (f := lineY) (fun x hx => lineY_len F hx) hy2
        refine s_augS (a := A0 ++ (l.yields.take i).flatMap lineY) (b := lineY l.yields[i]) rfl ?_ ?_ fun H3 e3 => ⟨e2.trans e3, some (.ref c), ?_⟩
        · rw [← wsY_eq]
          refine ev_line (el_cat (el_lst (ea_cons ev_c ea_nil) (by show 1 ≤ 100000; decide)) (ev_var rfl) hc ?_) (wsY_ok F hm) ?_
          · rw [vI_len]
            show 1 + _ ≤ 100000
            omega
          · unfold wsY
            rw [List.length_append, vI_len]
            show 1 + _ ≤ 30000
            omega
        · rw [List.length_append]
          omega
        · rw [flat_take (List.getElem?_eq_getElem hi), ← List.append_assoc] <;> rfl
      · rintro σ' H2 ⟨e2, v4, rfl⟩
        rw [List.length_map, hts.1, List.take_length]
        have htl := take_len (i := l.yields.length) (f := lineY) (fun x hx => lineY_len F hx) hy2
        rw [List.take_length] at htl
        have eW : A0 ++ l.yields.flatMap lineY = Vbirak.written l := by
          rw [written_eq, ← hA, List.append_assoc]
        have hWl : (Vbirak.written l).length ≤ 40000 := by
          rw [← eW, List.length_append]
          omega
        rw [eW]
        refine s_retL (xs := vI (Vbirak.written l)) ?_ fun p H3 hp e3 h3 => q p H3 (fresh_back ((e1.trans e).trans e2) hp) (((e1.trans e).trans e2).trans e3) h3
        exact el_call (ea_cons (ev_var rfl) ea_nil) (spl_bytes (Nat.le_trans hWl (by decide)))
end
end Sl
namespace Sl
open PySem PySem.Spec PyProof.Rows L2
open Evl
open Vbirak (Lake Weather)
open Sm
/-! ### a strategy shown; kinds and counts listed -/
def condFit (l : Lake) : Vbirak.Cond → Prop
  | .least n => n ≤ 40
  | .most n => n ≤ 40
  | .was k => k < l.weathers.length
  | .season a b => a < l.seasons ∧ b < l.seasons
structure SFit (l : Lake) (s : Vbirak.Strategy) : Prop where
  rules : s.rules.length ≤ 12
  other : s.other ≤ 10
  each : ∀ r ∈ s.rules, r.2 ≤ 10 ∧ r.1.length ≤ 2000 ∧ ∀ c ∈ r.1, condFit l c
def condWs (l : Lake) : Vbirak.Cond → List V
  | .least n => [.str "level", .str "least", .int (n : Int)]
  | .most n => [.str "level", .str "most", .int (n : Int)]
  | .was k => [.str "was", .str (strOf (Vbirak.nameOf l k))]
  | .season a b => [.str "season", .int (a : Int), .str "to", .int (b : Int)]
theorem condWs_eq (l : Lake) (c : Vbirak.Cond) : (condWs l c).map wOf = Vbirak.condWords l c := by
  cases c with
  | least n =>
    show [wOf (.str "level"), wOf (.str "least"), Vbirak.decimal n] = [Vbirak.bytesOf "level", Vbirak.bytesOf "least", Vbirak.decimal n]
    rw [← wOf_s "level", ← wOf_s "least"]
  | most n =>
    show [wOf (.str "level"), wOf (.str "most"), Vbirak.decimal n] = [Vbirak.bytesOf "level", Vbirak.bytesOf "most", Vbirak.decimal n]
    rw [← wOf_s "level", ← wOf_s "most"]
  | was k =>
    show [wOf (.str "was"), Vbirak.nameOf l k] = [Vbirak.bytesOf "was", Vbirak.nameOf l k]
    rw [← wOf_s "was"]
  | season a b =>
    show [wOf (.str "season"), Vbirak.decimal a, wOf (.str "to"), Vbirak.decimal b] = [Vbirak.bytesOf "season", Vbirak.decimal a, Vbirak.bytesOf "to", Vbirak.decimal b]
    rw [← wOf_s "season", ← wOf_s "to"]
theorem condWs_len (l : Lake) (c : Vbirak.Cond) : (condWs l c).length ≤ 4 := by
  cases c <;> simp [condWs]
theorem condWs_ok {l : Lake} (F : Fit l) {c : Vbirak.Cond} (h : condFit l c) : ∀ v ∈ condWs l c, okW v := by
  have hs := F.s2
  cases c with
  | least n =>
    have h : n ≤ 40 := h
    exact ok_cons (okW_s (by decide +kernel)) (ok_cons (okW_s (by decide +kernel)) (ok_cons (okW_n (by omega)) ok_nil))
  | most n =>
    have h : n ≤ 40 := h
    exact ok_cons (okW_s (by decide +kernel)) (ok_cons (okW_s (by decide +kernel)) (ok_cons (okW_n (by omega)) ok_nil))
  | was k =>
    have := name_len F k
    exact ok_cons (okW_s (by decide +kernel)) (ok_cons (okW_b (by omega)) ok_nil)
  | season a b =>
    have h : a < l.seasons ∧ b < l.seasons := h
    exact ok_cons (okW_s (by decide +kernel)) (ok_cons (okW_n (by omega)) (ok_cons (okW_s (by decide +kernel)) (ok_cons (okW_n (by omega)) ok_nil)))
def andWs (l : Lake) : List Vbirak.Cond → List V
  | [] => []
  | [c] => condWs l c
  | c :: r => condWs l c ++ (.str "and" :: andWs l r)
theorem andWs_eq (l : Lake) : ∀ cs : List Vbirak.Cond, (andWs l cs).map wOf = Vbirak.andWords l cs
  | [] => rfl
  | [c] => condWs_eq l c
  | c :: d :: r => by
    have ih := andWs_eq l (d :: r)
    show (condWs l c ++ (V.str "and" :: andWs l (d :: r))).map wOf = Vbirak.condWords l c ++ (Vbirak.bytesOf "and" :: Vbirak.andWords l (d :: r))
    rw [List.map_append, List.map_cons, ih, condWs_eq, ← wOf_s "and"] <;> rfl
theorem andWs_len (l : Lake) : ∀ cs : List Vbirak.Cond, (andWs l cs).length ≤ 5 * cs.length
  | [] => Nat.le_refl _
  | [c] => by
    have := condWs_len l c
    show (condWs l c).length ≤ 5 * 1
    omega
  | c :: d :: r => by
    have ih := andWs_len l (d :: r)
    have := condWs_len l c
    show (condWs l c ++ (V.str "and" :: andWs l (d :: r))).length ≤ _
    rw [List.length_append, List.length_cons, List.length_cons]
    omega
theorem andWs_ok {l : Lake} (F : Fit l) : ∀ cs : List Vbirak.Cond, (∀ c ∈ cs, condFit l c) → ∀ v ∈ andWs l cs, okW v
  | [], _ => ok_nil
  | [c], h => condWs_ok F (h c (List.mem_cons_self ..))
  | c :: d :: r, h => ok_app (condWs_ok F (h c (List.mem_cons_self ..))) (ok_cons (okW_s (by decide +kernel)) (andWs_ok F (d :: r) fun e he => h e (List.mem_cons_of_mem _ he)))
theorem andWs_snoc (l : Lake) (e : Vbirak.Cond) : ∀ cs : List Vbirak.Cond, cs ≠ [] → andWs l (cs ++ [e]) = andWs l cs ++ (.str "and" :: condWs l e)
  | [], h => absurd rfl h
  | [c], _ => rfl
  | c :: d :: r, _ => by
    have ih := andWs_snoc l e (d :: r) (by simp)
    show condWs l c ++ (V.str "and" :: andWs l ((d :: r) ++ [e])) = (condWs l c ++ (V.str "and" :: andWs l (d :: r))) ++ (.str "and" :: condWs l e)
    rw [ih, List.append_assoc] <;> rfl
section
variable {K : PySem.W.Frag} {σ : L2.St} {H : Hp} {ta te tv : TE} {tz : TS} {D : Ends} {E : XK}
theorem q_ext {l : Addr} {xs ys : List V} (hl : H l = some (.lst xs)) (ha : Ev ta σ H (.ref l)) (h : EvL te σ H ys) (hz : xs.length + ys.length ≤ 100000) (k : ∀ H1, Ex H H1 → tz D σ (upd H1 l (.lst (xs ++ ys)))) :
    tSeq (tDrop (tBM K "list" rExtend ta (tCons te tNil))) tz D σ H := s_ext (D := { D with nx := tz D }) hl ha h hz k
/-- xs.extend(a list that is there) -/
theorem s_extE {l b : Addr} {xs ys : List V} (hl : H l = some (.lst xs)) (ha : Ev ta σ H (.ref l)) (h : Ev te σ H (.ref b)) (hb : H b = some (.lst ys)) (hz : xs.length + ys.length ≤ 100000) (k : ∀ H1, Ex H H1 → D.nx σ (upd H1 l (.lst (xs ++ ys)))) :
    tDrop (tBM K "list" rExtend ta (tCons te tNil)) D σ H := ha H (Ex.refl H) _ fun H1 e1 =>
  ⟨Or.inl ⟨rfl, xs, sq_of (e1 l _ hl)⟩, h H1 e1 _ fun H2 e2 => ⟨l, b, xs, ys, rfl, rfl, e2 l _ (e1 l _ hl), e2 b _ (e1 b _ hb), sz_of hz, k H2 (e1.trans e2)⟩⟩
/-- len of a text -/
theorem ev_lenS {x : List Nat} (ha : Ev ta σ H (.str (strOf x))) (hz : x.length ≤ 100000) : Ev (tCB (fun xs H Q => ∃ z : Str, xs = [.str z] ∧ z.length ≤ sizeLine ∧ Q (.int z.length) H) (tCons ta tNil)) σ H (.int (x.length : Int)) := fun H1 e Q q =>
  ha H1 e _ fun H2 e2 => ⟨strOf x, rfl, sz_of (by rw [strOf_len]; exact hz), by rw [strOf_len]; exact q H2 e2⟩
/-- a list that is there + a new list -/
theorem el_catE {a : Addr} {xs ys : List V} (ha : Ev ta σ H (.ref a)) (hx : H a = some (.lst xs)) (hb : EvL tv σ H ys) (hz : xs.length + ys.length ≤ 100000) : EvL (tOp rCat ta tv) σ H (xs ++ ys) := fun H1 e Q q =>
  ha H1 e _ fun H2 e2 => hb H2 (e.trans e2) _ fun p3 H3 _ e3 hy => ⟨a, p3, xs, ys, rfl, rfl, e3 _ _ (e2 _ _ (e _ _ hx)), hy, sz_of hz, fun z hz => q z _ (fresh_back (e2.trans e3) hz) ((e2.trans e3).trans (Ex.new hz)) upd_same⟩
/-- a new list + a new list, long -/
theorem el_catB {xs ys : List V} (ha : EvL ta σ H xs) (hb : EvL tv σ H ys) (hz : xs.length + ys.length ≤ 10000000) : EvL (tOp rCat ta tv) σ H (xs ++ ys) := fun H1 e Q q =>
  ha H1 e _ fun p H2 _ e2 hp => hb H2 (e.trans e2) _ fun p3 H3 _ e3 hy => ⟨p, p3, xs, ys, rfl, rfl, e3 _ _ hp, hy, Nat.le_trans hz (by decide), fun z hz => q z _ (fresh_back (e2.trans e3) hz) ((e2.trans e3).trans (Ex.new hz)) upd_same⟩
end
section
variable {P : Program} {w : World} {K : PySem.W.Frag} {mg : Str → Option Value} {base : Heap}
def spCondWords (K : PySem.W.Frag) : Sp := fun vs H Q _ => ∃ (a p : Addr) (l : Lake) (c : Vbirak.Cond), vs = [.ref a, .ref p] ∧ LakeAt K H a l ∧ CondAt H p c ∧ condFit l c ∧ RetL (condWs l c) H Q
theorem ok_condition_words (T : Tx K mg)  : Fn P w K mg base 1 (He.ga K "condition_words") ["lake", "condition"] (spCondWords K) := by
  have sc : FnScope ["lake", "condition"] ["lake", "condition"] (defScope s_condition_words) := ⟨rfl, rfl, rfl, by decide +kernel, rfl, by decide +kernel, by decide +kernel⟩
  refine fn_mk (k := 0) T.fun_condition_words sc (fun _ _ _ _ _ _ us hl => match us, hl with | [_, _], _ => rfl) (fun vs H Q E h => ?len) (fun cdv A outer s H vs Q E hr h => ⟨_, (pss_cons (ps_if (pt_cmpR op_eq (pe_ix ix_tup (pv 1) pe_int (fun _ _ => rfl)) pe_str (nomark _)) (pss_one (ps_ret (pe_lst (pa_c pe_str (pa_c (pe_fld (pe_ix ix_list (pe_fld (pv 0) rfl) (pe_ix ix_tup (pv 1) pe_int (fun _ _ => rfl)) (fun _ _ => rfl)) rfl) pa_nil))))) pss_nil)
      (pss_cons (ps_if (pt_cmpR op_eq (pe_ix ix_tup (pv 1) pe_int (fun _ _ => rfl)) pe_str (nomark _)) (pss_one (ps_ret (pe_lst (pa_c pe_str (pa_c (pe_ix ix_tup (pv 1) pe_int (fun _ _ => rfl)) (pa_c pe_str (pa_c (pe_ix ix_tup (pv 1) pe_int (fun _ _ => rfl)) pa_nil))))))) pss_nil)
      (pss_one (ps_ret (pe_lst (pa_c pe_str (pa_c (pe_ix ix_tup (pv 1) pe_int (fun _ _ => rfl)) (pa_c (pe_ix ix_tup (pv 1) pe_int (fun _ _ => rfl)) pa_nil)))))))), ?rd⟩)
  case len =>
    obtain ⟨a, p, l, c, rfl, _⟩ := h
    rfl
  case rd =>
    obtain ⟨a, p, l, c, rfl, hL, hc, hf, q⟩ := h
    cases c with
    | least n =>
      have hc : H p = some (.tup [.str "least", .int (n : Int)]) := hc
      refine q_when (et_strN (ev_ixT (k := 0) (ev_var rfl) hc rfl) (by decide +kernel)) (fun hb => by cases hb) (fun _ H0 e0 => ?_)
      refine q_when (et_strN (ev_ixT (k := 0) (ev_var rfl) (e0 _ _ hc) rfl) (by decide +kernel)) (fun hb => by cases hb) (fun _ H1 e1 => ?_)
      have hc1 := e1 _ _ (e0 _ _ hc)
      exact s_retL (xs := condWs l (.least n)) (el_lst (ea_cons ev_c (ea_cons (ev_ixT (k := 0) (ev_var rfl) hc1 rfl) (ea_cons (ev_ixT (k := 1) (ev_var rfl) hc1 rfl) ea_nil))) (by show 3 ≤ 100000; decide)) fun p' H2 np e2 h2 => q p' H2 (fresh_back (e0.trans e1) np) ((e0.trans e1).trans e2) h2
    | most n =>
      have hc : H p = some (.tup [.str "most", .int (n : Int)]) := hc
      refine q_when (et_strN (ev_ixT (k := 0) (ev_var rfl) hc rfl) (by decide +kernel)) (fun hb => by cases hb) (fun _ H0 e0 => ?_)
      refine q_when (et_strN (ev_ixT (k := 0) (ev_var rfl) (e0 _ _ hc) rfl) (by decide +kernel)) (fun hb => by cases hb) (fun _ H1 e1 => ?_)
      have hc1 := e1 _ _ (e0 _ _ hc)
      exact s_retL (xs := condWs l (.most n)) (el_lst (ea_cons ev_c (ea_cons (ev_ixT (k := 0) (ev_var rfl) hc1 rfl) (ea_cons (ev_ixT (k := 1) (ev_var rfl) hc1 rfl) ea_nil))) (by show 3 ≤ 100000; decide)) fun p' H2 np e2 h2 => q p' H2 (fresh_back (e0.trans e1) np) ((e0.trans e1).trans e2) h2
    | was k =>
      have hc : H p = some (.tup [.str "was", .int (k : Int)]) := hc
      refine q_when (et_strY (ev_ixT (k := 0) (ev_var rfl) hc rfl) rfl) (fun _ H0 e0 => ?_) (fun hb => by cases hb)
      have hkl : k < l.weathers.length := hf
      obtain ⟨y, hy, ey⟩ := ev_kind (K := K) (ta := tVar 0) (tb := tOp (rIxT K) (tVar 1) (tC (.int ((1 : Nat) : Int)))) (σ := [some (.ref a), some (.ref p)]) (H := H0) T (ev_var rfl) (hL.ex e0) (ev_ixT (k := 1) (ev_var rfl) (e0 _ _ hc) rfl) (List.getElem?_eq_getElem hkl)
      have en : Vbirak.nameOf l k = (l.weathers[k]).name := by
        unfold Vbirak.nameOf
        rw [List.getElem?_eq_getElem hkl] <;> rfl
      have q' : RetL [.str "was", .str (strOf (l.weathers[k]).name)] H Q := by
        rw [← en]
        exact q
      exact s_retL (el_lst (ea_cons ev_c (ea_cons (ev_name T ey hy) ea_nil)) (by show 2 ≤ 100000; decide)) fun p' H2 np e2 h2 => q' p' H2 (fresh_back e0 np) (e0.trans e2) h2
    | season x y =>
      have hc : H p = some (.tup [.str "season", .int (x : Int), .int (y : Int)]) := hc
      refine q_when (et_strN (ev_ixT (k := 0) (ev_var rfl) hc rfl) (by decide +kernel)) (fun hb => by cases hb) (fun _ H0 e0 => ?_)
      refine q_when (et_strY (ev_ixT (k := 0) (ev_var rfl) (e0 _ _ hc) rfl) rfl) (fun _ H1 e1 => ?_) (fun hb => by cases hb)
      have hc1 := e1 _ _ (e0 _ _ hc)
      exact s_retL (xs := condWs l (.season x y)) (el_lst (ea_cons ev_c (ea_cons (ev_ixT (k := 1) (ev_var rfl) hc1 rfl) (ea_cons ev_c (ea_cons (ev_ixT (k := 2) (ev_var rfl) hc1 rfl) ea_nil)))) (by show 4 ≤ 100000; decide)) fun p' H2 np e2 h2 => q p' H2 (fresh_back (e0.trans e1) np) ((e0.trans e1).trans e2) h2
def ruleWs (l : Lake) (r : List Vbirak.Cond × Nat) : List V := (.str "when" :: andWs l r.1) ++ [.str "let", .int (r.2 : Int)]
def spRuleWords (K : PySem.W.Frag) : Sp := fun vs H Q _ => ∃ (a p : Addr) (l : Lake) (r : List Vbirak.Cond × Nat), vs = [.ref a, .ref p] ∧ LakeAt K H a l ∧ RuleAt K H p r ∧ (∀ c ∈ r.1, condFit l c) ∧ r.1.length ≤ 2000 ∧ RetL (ruleWs l r) H Q
theorem ok_rule_words (T : Tx K mg) (F_condition_words : Fn P w K mg base 1 (He.ga K "condition_words") ["lake", "condition"] (spCondWords K)) : Fn P w K mg base 2 (He.ga K "rule_words") ["lake", "rule"] (spRuleWords K) := by
  have sc : FnScope ["lake", "rule", "words", "number", "condition"] ["lake", "rule"] (defScope s_rule_words) := ⟨rfl, rfl, rfl, by decide +kernel, rfl, by decide +kernel, by decide +kernel⟩
  refine fn_mk (k := 1) T.fun_rule_words sc (fun _ _ _ _ _ _ us hl => match us, hl with | [_, _], _ => rfl) (fun vs H Q E h => ?len) (fun cdv A outer s H vs Q E hr h => ⟨_, (pss_cons (ps_set (i := 2) sc.nd rfl (Or.inl rfl) (pe_lst (pa_c pe_str pa_nil)))
      (pss_cons (ps_for (passes_of rfl) rfl (pi_enum rfl T.free_enumerate (pa_c (pe_fld (pv 1) rfl) pa_nil)) (pg_tup rfl (pgs_cons (pg_name (i := 3) sc.nd rfl (Or.inl rfl)) (pgs_cons (pg_name (i := 4) sc.nd rfl (Or.inl rfl)) pgs_nil))) (pss_cons (ps_if (pt_cmpR op_gt (pv 3) pe_int (nomark _)) (pss_one (ps_expr (pe_bm PySem.F.plainAttrs_list PySem.F.slot_list_append PySem.F.type_list_append mt_append (pv 2) (pa_c pe_str pa_nil)))) pss_nil)
      (pss_one (ps_expr (pe_bm PySem.F.plainAttrs_list PySem.F.slot_list_extend PySem.F.type_list_extend mt_extend (pv 2) (pa_c (pe_f F_condition_words hr (by decide) T.glo_condition_words (passes_call (takes_of rfl rfl rfl rfl) (fun _ _ _ _ h => h)) (pa_c (pv 0) (pa_c (pv 4) pa_nil))) pa_nil))))))
      (pss_one (ps_ret (pe_op op_cat (pv 2) (pe_lst (pa_c pe_str (pa_c (pe_fld (pv 1) rfl) pa_nil)))))))), ?rd⟩)
  case len =>
    obtain ⟨a, p, l, r, rfl, _⟩ := h
    rfl
  case rd =>
    obtain ⟨a, p, l, r, rfl, hL, ⟨dx, cl, h1, as, h2, h3⟩, hf, hz, q⟩ := h
    refine q_asgL (xs := [.str "when"]) (el_lst (ea_cons ev_c ea_nil) (by show 1 ≤ 100000; decide)) fun wd H1 nw1 e1 hw1 => ?_
    refine q_enum (ev_fld (ev_var rfl) (e1 _ _ h1) T.cls_Rule T.noat_Rule_conditions lk1) (sq_of (e1 _ _ h2)) (fun i σ' H' => Ex H H' ∧ H' wd = some (.lst (.str "when" :: andWs l (r.1.take i))) ∧ ∃ (v3 v4 : Option V), σ' = [some (.ref a), some (.ref p), some (.ref wd), v3, v4])
      (fun H2 e2 => ⟨e1.trans e2, by rw [List.take_zero]; exact e2 _ _ hw1, none, none, rfl⟩) (fun i σ' H' _ z => sq_of (z.1 _ _ h2)) ?_ ?_
    · rintro i u T' σ' H' hu ⟨ex, hwd, v3, v4, rfl⟩ hT
      obtain ⟨c, hc, rfl⟩ := ref_at hu
      obtain ⟨cd, hcd, hca⟩ := h3.at hc
      have hil := (List.getElem?_eq_some_iff.mp hcd).1
      have hlen := andWs_len l (r.1.take i)
      rw [List.length_take] at hlen
      have ex2 : Ex H (upd H' T' (.tup [.int (i : Int), .ref c])) := ex.trans (Ex.new hT)
      have hwd2 : upd H' T' (.tup [.int (i : Int), .ref c]) wd = some (.lst (.str "when" :: andWs l (r.1.take i))) := Ex.new hT _ _ hwd
      refine ⟨T', _, rfl, SqT.of upd_same, rfl, _, _, rfl, _, _, rfl, rfl, ?_⟩
      revert ex2 hwd2
      generalize upd H' T' (.tup [.int (i : Int), .ref c]) = H2
      intro ex2 hwd2
      dsimp only [gName]
      have hcl := condWs_len l cd
      have rest : ∀ (D : Ends) (σ2 : L2.St) (acc : List V) (H3 : Hp), σ2[0]? = some (some (.ref a)) → σ2[2]? = some (some (.ref wd)) → σ2[4]? = some (some (.ref c)) → Ex H H3 → H3 wd = some (.lst acc) → acc.length ≤ 20000 → (∀ H4, Ex H H4 → H4 wd = some (.lst (acc ++ condWs l cd)) → D.nx σ2 H4) →
          tDrop (tBM K "list" rExtend (tVar 2) (tCons (tCall (spCondWords K) [] E (tCons (tVar 0) (tCons (tVar 4) tNil))) tNil)) D σ2 H3 := fun D σ2 acc H3 s0 s2 s4 x3 ha hl k =>
        s_ext ha (ev_var s2) (el_call (ea_cons (ev_var s0) (ea_cons (ev_var s4) ea_nil)) (fun H5 e5 Q q E => ⟨a, c, l, cd, rfl, hL.ex (x3.trans e5), (x3.trans e5) _ _ hca, hf cd (List.mem_of_getElem? hcd), q⟩)) (by omega) fun H4 e4 => k _ (Ex.mut (x3.trans e4) nw1) upd_same
      refine q_when (b := decide (0 < i)) (et_is (et_test (ev_op (ev_var rfl) ev_c rv_I0)) (decide_eq_decide.mpr (by omega))) (fun hb H3 e3 => ?_) (fun hb H3 e3 => ?_)
      · have hi : 0 < i := of_decide_eq_true hb
        refine s_app (e3 _ _ hwd2) (ev_var rfl) ev_c (by rw [List.length_cons]; omega) fun H4 e4 => ?_
        refine rest _ _ _ _ rfl rfl rfl (Ex.mut ((ex2.trans e3).trans e4) nw1) upd_same (by rw [List.length_append, List.length_cons]; simp only [List.length_singleton]; omega) fun H5 x5 h5 => ⟨x5, ?_, _, _, rfl⟩
        rw [h5, List.take_add_one, hcd]
        have ne : r.1.take i ≠ [] := fun z => by
          have := congrArg List.length z
          rw [List.length_take, List.length_nil] at this
          omega
        show _ = some (HO.lst (V.str "when" :: andWs l (r.1.take i ++ [cd])))
        rw [andWs_snoc l cd _ ne]
        simp
      · have hi : i = 0 := by
          have := of_decide_eq_false hb
          omega
        subst hi
        refine rest _ _ _ _ rfl rfl rfl (ex2.trans e3) (e3 _ _ hwd2) (by rw [List.length_cons]; omega) fun H5 x5 h5 => ⟨x5, ?_, _, _, rfl⟩
        rw [h5, List.take_add_one, hcd, List.take_zero]
        rfl
    · rintro σ' H' ⟨ex, hwd, v3, v4, rfl⟩
      rw [List.length_map, h3.1, List.take_length] at hwd
      have hlen := andWs_len l r.1
      refine s_retL (xs := ruleWs l r) (el_catE (ev_var rfl) hwd (el_lst (ea_cons ev_c (ea_cons (ev_fld (ev_var rfl) (ex _ _ h1) T.cls_Rule T.noat_Rule_letting ((lk2 (by decide +kernel)).trans lk1)) ea_nil)) (by show 2 ≤ 100000; decide)) ?_) fun p' H2 np e2 h2 => q p' H2 (fresh_back ex np) (ex.trans e2) h2
      rw [List.length_cons]
      show _ + 2 ≤ 100000
      omega
theorem ruleWs_eq (l : Lake) (r : List Vbirak.Cond × Nat) : (ruleWs l r).map wOf = (Vbirak.bytesOf "when" :: Vbirak.andWords l r.1) ++ [Vbirak.bytesOf "let", Vbirak.decimal r.2] := by
  unfold ruleWs
  rw [List.map_append, List.map_cons, andWs_eq, ← wOf_s "when", ← wOf_s "let"] <;> rfl
theorem ruleWs_ok {l : Lake} (F : Fit l) {r : List Vbirak.Cond × Nat} (h : r.2 ≤ 10 ∧ r.1.length ≤ 2000 ∧ ∀ c ∈ r.1, condFit l c) : ∀ v ∈ ruleWs l r, okW v :=
  ok_app (ok_cons (okW_s (by decide +kernel)) (andWs_ok F _ h.2.2)) (ok_cons (okW_s (by decide +kernel)) (ok_cons (okW_n (by have := h.1; omega)) ok_nil))
theorem ruleWs_len {l : Lake} {r : List Vbirak.Cond × Nat} (h : r.1.length ≤ 2000) : (ruleWs l r).length ≤ 20000 := by
  have := andWs_len l r.1
  unfold ruleWs
  rw [List.length_append, List.length_cons]
  show _ + 2 ≤ _
  omega
def lineR (l : Lake) (r : List Vbirak.Cond × Nat) : List Nat := Vbirak.line ((Vbirak.bytesOf "when" :: Vbirak.andWords l r.1) ++ [Vbirak.bytesOf "let", Vbirak.decimal r.2])
theorem lineR_len {l : Lake} (F : Fit l) {r : List Vbirak.Cond × Nat} (h : r.2 ≤ 10 ∧ r.1.length ≤ 2000 ∧ ∀ c ∈ r.1, condFit l c) : (lineR l r).length ≤ 300000 := by
  have h1 := line_ok (ruleWs_ok F h)
  have h2 := ruleWs_len (l := l) h.2.1
  rw [ruleWs_eq] at h1
  unfold lineR
  omega
def wsE (s : Vbirak.Strategy) : List V := [.str "else", .str "let", .int (s.other : Int)]
def lineE (s : Vbirak.Strategy) : List Nat := Vbirak.line [Vbirak.bytesOf "else", Vbirak.bytesOf "let", Vbirak.decimal s.other]
theorem wsE_eq (s : Vbirak.Strategy) : Vbirak.line ((wsE s).map wOf) = lineE s := by
  unfold wsE lineE
  rw [← wOf_s "else", ← wOf_s "let"] <;> rfl
theorem wsE_ok {l : Lake} {s : Vbirak.Strategy} (S : SFit l s) : ∀ v ∈ wsE s, okW v := by
  have := S.other
  exact ok_cons (okW_s (by decide +kernel)) (ok_cons (okW_s (by decide +kernel)) (ok_cons (okW_n (by omega)) ok_nil))
theorem lineE_len {l : Lake} {s : Vbirak.Strategy} (S : SFit l s) : (lineE s).length ≤ 35 := by
  have h := line_ok (wsE_ok S)
  rw [wsE_eq] at h
  exact h
theorem text_eq (l : Lake) (s : Vbirak.Strategy) : Vbirak.strategyText l s = s.rules.flatMap (lineR l) ++ lineE s := rfl
theorem rules_len {l : Lake} (F : Fit l) {s : Vbirak.Strategy} (S : SFit l s) (i : Nat) : ((s.rules.take i).flatMap (lineR l)).length ≤ 3600000 := by
  have h1 := flat_len (n := 300000) (f := lineR l) (s.rules.take i) fun x hx => lineR_len F (S.each x (List.mem_of_mem_take hx))
  have h2 : (s.rules.take i).length ≤ 12 := by
    have := S.rules
    rw [List.length_take]
    omega
  have h3 : 300000 * (s.rules.take i).length ≤ 300000 * 12 := Nat.mul_le_mul_left _ h2
  omega
theorem told_len {l : Lake} (F : Fit l) {s : Vbirak.Strategy} (S : SFit l s) : (Vbirak.strategyText l s).length ≤ 4000000 := by
  have h1 := rules_len F S s.rules.length
  have h2 := lineE_len S
  rw [List.take_length] at h1
  rw [text_eq, List.length_append]
  omega
def spShowS (K : PySem.W.Frag) : Sp := fun vs H Q _ => ∃ (a p : Addr) (l : Lake) (s : Vbirak.Strategy), vs = [.ref a, .ref p] ∧ LakeAt K H a l ∧ Fit l ∧ StratAt K H p s ∧ SFit l s ∧ RetL (vI (Vbirak.strategyText l s)) H Q
theorem ok_show_strategy (T : Tx K mg) (F_shown_line : Fn P w K mg base 1 (He.ga K "shown_line") ["words"] (spLine K)) (F_rule_words : Fn P w K mg base 2 (He.ga K "rule_words") ["lake", "rule"] (spRuleWords K)) (F_byte_row : Fn P w K mg base 1 (He.ga K "byte_row") ["text"] (spBytes K)) : Fn P w K mg base 3 (He.ga K "show_strategy") ["lake", "strategy"] (spShowS K) := by
  have sc : FnScope ["lake", "strategy", "shown", "rule"] ["lake", "strategy"] (defScope s_show_strategy) := ⟨rfl, rfl, rfl, by decide +kernel, rfl, by decide +kernel, by decide +kernel⟩
  refine fn_mk (k := 2) T.fun_show_strategy sc (fun _ _ _ _ _ _ us hl => match us, hl with | [_, _], _ => rfl) (fun vs H Q E h => ?len) (fun cdv A outer s H vs Q E hr h => ⟨_, (pss_cons (ps_set (i := 2) sc.nd rfl (Or.inl rfl) pe_str)
      (pss_cons (ps_for (passes_of rfl) rfl (pi_list (pe_fld (pv 1) rfl)) (pg_name (i := 3) sc.nd rfl (Or.inl rfl)) (pss_one (ps_aug (i := 2) sc.nd rfl (Or.inl rfl) (pe_f F_shown_line hr (by decide) T.glo_shown_line (passes_call (takes_of rfl rfl rfl rfl) (fun _ _ _ _ h => h)) (pa_c (pe_f F_rule_words hr (by decide) T.glo_rule_words (passes_call (takes_of rfl rfl rfl rfl) (fun _ _ _ _ h => h)) (pa_c (pv 0) (pa_c (pv 3) pa_nil))) pa_nil)) ip_addS)))
      (pss_one (ps_ret (pe_f F_byte_row hr (by decide) T.glo_byte_row (passes_call (takes_of rfl rfl rfl rfl) (fun _ _ _ _ h => h)) (pa_c (pe_op op_add_str (pv 2) (pe_f F_shown_line hr (by decide) T.glo_shown_line (passes_call (takes_of rfl rfl rfl rfl) (fun _ _ _ _ h => h)) (pa_c (pe_lst (pa_c pe_str (pa_c pe_str (pa_c (pe_fld (pv 1) rfl) pa_nil)))) pa_nil))) pa_nil)))))), ?rd⟩)
  case len =>
    obtain ⟨a, p, l, s, rfl, _⟩ := h
    rfl
  case rd =>
    obtain ⟨a, p, l, s, rfl, hL, F, ⟨dx, rl, h1, as, h2, h3⟩, S, q⟩ := h
    refine q_asg (v := .str (strOf [])) ev_c fun H1 e1 => ?_
    refine q_forLn (ev_fld (ev_var rfl) (e1 _ _ h1) T.cls_Strategy T.noat_Strategy_rules lk1) (sq_of (e1 _ _ h2)) (fun i σ' H' => Ex H H' ∧ ∃ (v3 : Option V), σ' = [some (.ref a), some (.ref p), some (.str (strOf ((s.rules.take i).flatMap (lineR l)))), v3])
      (fun H2 e2 => ⟨e1.trans e2, none, rfl⟩) (fun i σ' H' _ z => sq_of (z.1 _ _ h2)) ?_ ?_
    · rintro i u σ' H' hu ⟨ex, v3, rfl⟩
      obtain ⟨c, hc, rfl⟩ := ref_at hu
      obtain ⟨r, hr', hra⟩ := h3.at hc
      have hS := S.each r (List.mem_of_getElem? hr')
      have hl1 := rules_len F S i
      have hl2 := lineR_len F hS
      refine s_augS (a := (s.rules.take i).flatMap (lineR l)) (b := lineR l r) rfl ?_ (by omega) fun H2 e2 => ⟨ex.trans e2, some (.ref c), ?_⟩
      · have key := ev_line (K := K) (E := E) (ta := tCall (spRuleWords K) [] E (tCons (tVar 0) (tCons (tVar 3) tNil))) (ws := ruleWs l r) (σ := [some (.ref a), some (.ref p), some (.str (strOf ((s.rules.take i).flatMap (lineR l)))), some (.ref c)]) (H := H') (el_call (ea_cons (ev_var rfl) (ea_cons (ev_var rfl) ea_nil)) (fun H5 e5 Q q E => ⟨a, c, l, r, rfl, hL.ex (ex.trans e5), mono_rule K _ _ _ _ (ex.trans e5) hra, hS.2.2, hS.2.1, q⟩)) (ruleWs_ok F hS) (Nat.le_trans (ruleWs_len hS.2.1) (by decide))
        rw [ruleWs_eq] at key
        exact key
      · rw [flat_take hr'] <;> rfl
    · rintro σ' H' ⟨ex, v3, rfl⟩
      rw [List.length_map, h3.1, List.take_length]
      have hl1 := rules_len F S s.rules.length
      rw [List.take_length] at hl1
      have hl2 := lineE_len S
      have ht := told_len F S
      have key := ev_line (K := K) (E := E) (ta := tLst (tCons (tC (.str "else")) (tCons (tC (.str "let")) (tCons (tFld K (tVar 1) "otherwise") tNil)))) (ws := wsE s) (σ := [some (.ref a), some (.ref p), some (.str (strOf (s.rules.flatMap (lineR l)))), v3]) (H := H') (el_lst (ea_cons ev_c (ea_cons ev_c (ea_cons (ev_fld (ev_var rfl) (ex _ _ h1) T.cls_Strategy T.noat_Strategy_otherwise ((lk2 (by decide +kernel)).trans lk1)) ea_nil))) (by show 3 ≤ 100000; decide)) (wsE_ok S) (by show 3 ≤ 30000; decide)
      rw [wsE_eq] at key
      have k2 := ev_addS (ta := tVar 2) (a := s.rules.flatMap (lineR l)) (ev_var rfl) key (by omega)
      rw [text_eq] at q ht
      exact s_retL (el_call (ea_cons k2 ea_nil) (spl_bytes (by omega))) fun p' H2 np e2 h2 => q p' H2 (fresh_back ex np) (ex.trans e2) h2
end
end Sl
namespace Sl
open PySem PySem.Spec PyProof.Rows L2
open Evl
open Vbirak (Lake Weather)
open Sm
/-! ### what is asked of numbers and lists -/
def vZ (t : List Int) : List V := t.map V.int
theorem vZ_len (t : List Int) : (vZ t).length = t.length := List.length_map ..
theorem vZ_at {t : List Int} {i : Nat} {x : V} (h : (vZ t)[i]? = some x) : ∃ z : Int, t[i]? = some z ∧ x = .int z := by
  unfold vZ at h
  rw [List.getElem?_map] at h
  cases e : t[i]? with
  | none =>
    rw [e] at h
    cases h
  | some n =>
    rw [e] at h
    exact ⟨n, rfl, (Option.some.inj h).symm⟩
theorem vZ_nums (ns : List Nat) : vZ (Vbirak.nums ns) = vI ns := by
  unfold vZ Vbirak.nums vI
  rw [List.map_map] <;> rfl
theorem inside_nat {z lo : Int} {hi : Nat} (h : Vbirak.inside z 0 (hi : Int) = true) : ∃ n : Nat, z = (n : Int) ∧ n ≤ hi := by
  unfold Vbirak.inside at h
  rw [Bool.and_eq_true, decide_eq_true_eq, decide_eq_true_eq] at h
  exact ⟨z.toNat, by omega, by omega⟩
theorem text_nats {t : List Int} (h : Vbirak.isText t = true) : vZ t = vI (Vbirak.nats t) ∧ (Vbirak.nats t).length ≤ 1500 := by
  unfold Vbirak.isText at h
  rw [Bool.and_eq_true, decide_eq_true_eq, List.all_eq_true] at h
  refine ⟨?_, by unfold Vbirak.nats; rw [List.length_map]; exact h.1⟩
  unfold vZ vI Vbirak.nats
  rw [List.map_map]
  refine List.map_congr_left fun z hz => ?_
  have := h.2 z hz
  obtain ⟨n, rfl, _⟩ := inside_nat (lo := 0) (hi := 255) this
  rfl
def boolV (f : Int → Bool) : V → V
  | .int z => .bl (f z)
  | _ => .non
theorem boolV_map (f : Int → Bool) (t : List Int) : (vZ t).map (boolV f) = (t.map f).map V.bl := by
  unfold vZ
  rw [List.map_map, List.map_map] <;> rfl
section
variable {K : PySem.W.Frag} {σ : L2.St} {H : Hp} {ta tb tl te : TE} {v : V}
theorem ev_all {bs : List Bool} (h : EvL ta σ H (bs.map V.bl)) : Ev (tCB (rAll K) (tCons ta tNil)) σ H (.bl (bs.all id)) := fun H1 e Q q =>
  h H1 e _ fun p H2 _ e2 hp => ⟨p, bs, rfl, sq_of hp, q H2 e2⟩
/-- all([f(x) for x in xs]) of numbers -/
theorem ev_allZ {a : Addr} {t : List Int} {j : Nat} {vs : List Nat} (f : Int → Bool) (h : Ev tl σ H (.ref a)) (hx : SqL K H a (vZ t)) (hz : t.length ≤ 40000) (hw : ∀ x, wipe ((wipe σ vs).set j (some x)) vs = wipe σ vs)
    (he : ∀ (z : Int) H1, Ex H H1 → z ∈ t → Ev te ((wipe σ vs).set j (some (.int z))) H1 (.bl (f z))) : Ev (tCB (rAll K) (tCons (tLc (iList K tl) (gName j) tYes te vs) tNil)) σ H (.bl (t.all f)) := by
  have key := el_map (K := K) (te := te) (boolV f) h hx (by rw [vZ_len]; exact hz) hw fun i x H1 e1 hx => by
    obtain ⟨z, hz, rfl⟩ := vZ_at hx
    exact he z H1 e1 (List.mem_of_getElem? hz)
  rw [boolV_map] at key
  have k2 := ev_all (K := K) key
  rw [List.all_map] at k2
  exact k2
theorem ev_lenC {p : Addr} {xs : List V} {n : Nat} (ha : Ev ta σ H (.ref p)) (h : SqL K H p xs) (hn : xs.length = n) : Ev (tCB (fun xs H Q => ∃ p ys, xs = [.ref p] ∧ (SqL K H p ys ∨ SqT K H p ys) ∧ Q (.int ys.length) H) (tCons ta tNil)) σ H (.int (n : Int)) := by
  rw [← hn]
  exact ev_lenL ha h
end
section
variable {P : Program} {w : World} {K : PySem.W.Frag} {mg : Str → Option Value} {base : Heap}
def spIsText (K : PySem.W.Frag) : Sp := fun vs H Q _ => ∃ (p : Addr) (t : List Int), vs = [.ref p] ∧ SqL K H p (vZ t) ∧ t.length ≤ 1600 ∧ RetV (.bl (Vbirak.isText t)) H Q
theorem ok_is_text (T : Tx K mg)  : Fn P w K mg base 1 (He.ga K "is_text") ["row"] (spIsText K) := by
  obtain ⟨_, g_LAST_BYTE, r_LAST_BYTE⟩ := T.cst_LAST_BYTE
  obtain ⟨_, g_LONGEST_TEXT, r_LONGEST_TEXT⟩ := T.cst_LONGEST_TEXT
  have sc : FnScope ["row", "byte"] ["row"] (defScope s_is_text) := ⟨rfl, rfl, rfl, by decide +kernel, rfl, by decide +kernel, by decide +kernel⟩
  refine fn_mk (k := 0) T.fun_is_text sc (fun _ _ _ _ _ _ us hl => match us, hl with | [_], _ => rfl) (fun vs H Q E h => ?len) (fun cdv A outer s H vs Q E hr h => ⟨_, (pss_one (ps_ret (pe_and (pe_cmpR op_le (pe_callB call_len_seq (by rfl) T.free_len PySem.boot_len (pa_c (pv 0) pa_nil)) (pe_glob rfl g_LONGEST_TEXT r_LONGEST_TEXT) (nomark _)) (pe_one (pe_callB (cr_all rfl) (by rfl) T.free_all (by decide +kernel) (pa_c (pe_lc (own := [("byte", 1)]) (g := gName 1) (tt := tYes) rfl sc.nd (pi_list (pv 0)) (blkOk_by (own := [("byte", 1)]) (N := ["row", "byte"]) (sc := defScope s_is_text) (by decide +kernel)) (fun _ _ _ _ _ => pg_name (i := 1) sc.nd rfl (Or.inl rfl)) (fun _ _ _ _ _ => pts_nil) (fun _ _ _ _ _ => (pe_chain op_le op_le pe_int (pv 1) (pe_glob rfl g_LAST_BYTE r_LAST_BYTE)))) pa_nil)))))), ?rd⟩)
  case len =>
    obtain ⟨p, t, rfl, _⟩ := h
    rfl
  case rd =>
    obtain ⟨p, t, rfl, hS, hz, q⟩ := h
    refine s_ret (ev_is (ev_andV (a := decide ((t.length : Int) ≤ 1500)) (ev_op (ev_lenC (ev_var rfl) hS (vZ_len t)) ev_c rv_le) fun _ => ev_allZ (K := K) (fun z => Vbirak.inside z 0 255) (ev_var rfl) hS (by omega) (fun _ => rfl) fun z H1 e1 hz => ev_chain ev_c (ev_var rfl) ev_c rv_le rv_le) ?_) q
    refine congrArg V.bl ?_
    unfold Vbirak.isText
    refine congrArg (· && _) (decide_eq_decide.mpr ?_)
    show _ ↔ t.length ≤ 1500
    omega
def spIsSeason (K : PySem.W.Frag) : Sp := fun vs H Q _ => ∃ (a : Addr) (l : Lake) (z : Int), vs = [.ref a, .int z] ∧ LakeAt K H a l ∧ RetV (.bl (Vbirak.inside z 0 ((l.seasons : Int) - 1))) H Q
theorem rv_ltI {H : Hp} {i j : Int} : RV (rI0 fun i j => .bl (decide (i < j))) (.int i) (.int j) H (.bl (decide (i < j))) := rv_I0 (g := fun i j => .bl (decide (i < j)))
theorem ok_is_season (T : Tx K mg)  : Fn P w K mg base 1 (He.ga K "is_season") ["lake", "season"] (spIsSeason K) := by
  have sc : FnScope ["lake", "season"] ["lake", "season"] (defScope s_is_season) := ⟨rfl, rfl, rfl, by decide +kernel, rfl, by decide +kernel, by decide +kernel⟩
  refine fn_mk (k := 0) T.fun_is_season sc (fun _ _ _ _ _ _ us hl => match us, hl with | [_, _], _ => rfl) (fun vs H Q E h => ?len) (fun cdv A outer s H vs Q E hr h => ⟨_, (pss_one (ps_ret (pe_chain op_le op_lt pe_int (pv 1) (pe_fld (pv 0) rfl)))), ?rd⟩)
  case len =>
    obtain ⟨a, l, z, rfl, _⟩ := h
    rfl
  case rd =>
    obtain ⟨a, l, z, rfl, hL, q⟩ := h
    refine s_ret (ev_is (ev_chain ev_c (ev_var rfl) (ev_seasons T (ev_var rfl) hL) rv_le rv_ltI) ?_) q
    refine congrArg V.bl (congrArg (_ && ·) (decide_eq_decide.mpr ?_))
    omega
def spIsKind (K : PySem.W.Frag) : Sp := fun vs H Q _ => ∃ (a : Addr) (l : Lake) (z : Int), vs = [.ref a, .int z] ∧ LakeAt K H a l ∧ RetV (.bl (Vbirak.isKind l z)) H Q
theorem ok_is_kind (T : Tx K mg)  : Fn P w K mg base 1 (He.ga K "is_kind") ["lake", "kind"] (spIsKind K) := by
  have sc : FnScope ["lake", "kind"] ["lake", "kind"] (defScope s_is_kind) := ⟨rfl, rfl, rfl, by decide +kernel, rfl, by decide +kernel, by decide +kernel⟩
  refine fn_mk (k := 0) T.fun_is_kind sc (fun _ _ _ _ _ _ us hl => match us, hl with | [_, _], _ => rfl) (fun vs H Q E h => ?len) (fun cdv A outer s H vs Q E hr h => ⟨_, (pss_one (ps_ret (pe_chain op_le op_lt pe_int (pv 1) (pe_callB call_len_seq (by rfl) T.free_len PySem.boot_len (pa_c (pe_fld (pv 0) rfl) pa_nil))))), ?rd⟩)
  case len =>
    obtain ⟨a, l, z, rfl, _⟩ := h
    rfl
  case rd =>
    obtain ⟨a, l, z, rfl, hL, q⟩ := h
    obtain ⟨kl, ks, ek, hk, hks⟩ := ev_kinds (ta := tVar 0) (σ := start ["lake", "kind"] [.ref a, .int z]) T (ev_var rfl) hL
    refine s_ret (ev_is (ev_chain ev_c (ev_var rfl) (ev_lenC (n := l.weathers.length) ek (sq_of hk) (by rw [List.length_map, hks.1])) rv_le rv_ltI) ?_) q
    refine congrArg V.bl (congrArg (_ && ·) (decide_eq_decide.mpr ?_))
    omega
theorem spv_kind {a : Addr} {l : Lake} {z : Int} {H : Hp} (hL : LakeAt K H a l) : SpV (spIsKind K) [.ref a, .int z] H (.bl (Vbirak.isKind l z)) := fun H1 e Q q E => ⟨a, l, z, rfl, hL.ex e, q⟩
def spIsStart (K : PySem.W.Frag) : Sp := fun vs H Q _ => ∃ (a : Addr) (l : Lake) (x b : Int), vs = [.ref a, .int x, .int b] ∧ LakeAt K H a l ∧ RetV (.bl (Vbirak.isLevel l x && Vbirak.isKind l b)) H Q
theorem ok_is_start (T : Tx K mg) (F_is_kind : Fn P w K mg base 1 (He.ga K "is_kind") ["lake", "kind"] (spIsKind K)) : Fn P w K mg base 2 (He.ga K "is_start") ["lake", "level", "before"] (spIsStart K) := by
  have sc : FnScope ["lake", "level", "before"] ["lake", "level", "before"] (defScope s_is_start) := ⟨rfl, rfl, rfl, by decide +kernel, rfl, by decide +kernel, by decide +kernel⟩
  refine fn_mk (k := 1) T.fun_is_start sc (fun _ _ _ _ _ _ us hl => match us, hl with | [_, _, _], _ => rfl) (fun vs H Q E h => ?len) (fun cdv A outer s H vs Q E hr h => ⟨_, (pss_one (ps_ret (pe_and (pe_chain op_le op_le pe_int (pv 1) (pe_fld (pv 0) rfl)) (pe_one (pe_f F_is_kind hr (by decide) T.glo_is_kind (passes_call (takes_of rfl rfl rfl rfl) (fun _ _ _ _ h => h)) (pa_c (pv 0) (pa_c (pv 2) pa_nil))))))), ?rd⟩)
  case len =>
    obtain ⟨a, l, x, b, rfl, _⟩ := h
    rfl
  case rd =>
    obtain ⟨a, l, x, b, rfl, hL, q⟩ := h
    exact s_ret (ev_andV (a := Vbirak.isLevel l x) (ev_chain ev_c (ev_var rfl) (ev_holds T (ev_var rfl) hL) rv_le rv_le) fun _ => ev_call (ea_cons (ev_var rfl) (ea_cons (ev_var rfl) ea_nil)) (spv_kind hL)) q
theorem spv_start {a : Addr} {l : Lake} {x b : Int} {H : Hp} (hL : LakeAt K H a l) : SpV (spIsStart K) [.ref a, .int x, .int b] H (.bl (Vbirak.isLevel l x && Vbirak.isKind l b)) := fun H1 e Q q E => ⟨a, l, x, b, rfl, hL.ex e, q⟩
theorem spv_isseas {a : Addr} {l : Lake} {z : Int} {H : Hp} (hL : LakeAt K H a l) : SpV (spIsSeason K) [.ref a, .int z] H (.bl (Vbirak.inside z 0 ((l.seasons : Int) - 1))) := fun H1 e Q q E => ⟨a, l, z, rfl, hL.ex e, q⟩
def spIsWeather (K : PySem.W.Frag) : Sp := fun vs H Q _ => ∃ (a p : Addr) (l : Lake) (t : List Int), vs = [.ref a, .ref p] ∧ LakeAt K H a l ∧ SqL K H p (vZ t) ∧ t.length ≤ 1600 ∧ RetV (.bl (Vbirak.isYears l t)) H Q
theorem ok_is_weather (T : Tx K mg) (F_is_kind : Fn P w K mg base 1 (He.ga K "is_kind") ["lake", "kind"] (spIsKind K)) : Fn P w K mg base 2 (He.ga K "is_weather") ["lake", "row"] (spIsWeather K) := by
  have sc : FnScope ["lake", "row", "kind"] ["lake", "row"] (defScope s_is_weather) := ⟨rfl, rfl, rfl, by decide +kernel, rfl, by decide +kernel, by decide +kernel⟩
  refine fn_mk (k := 1) T.fun_is_weather sc (fun _ _ _ _ _ _ us hl => match us, hl with | [_, _], _ => rfl) (fun vs H Q E h => ?len) (fun cdv A outer s H vs Q E hr h => ⟨_, (pss_one (ps_ret (pe_and (pe_cmpR op_le (pe_callB call_len_seq (by rfl) T.free_len PySem.boot_len (pa_c (pv 1) pa_nil)) (pe_fld (pv 0) rfl) (nomark _)) (pe_one (pe_callB (cr_all rfl) (by rfl) T.free_all (by decide +kernel) (pa_c (pe_lc (own := [("kind", 2)]) (g := gName 2) (tt := tYes) rfl sc.nd (pi_list (pv 1)) (blkOk_by (own := [("kind", 2)]) (N := ["lake", "row", "kind"]) (sc := defScope s_is_weather) (by decide +kernel)) (fun _ _ _ _ _ => pg_name (i := 2) sc.nd rfl (Or.inl rfl)) (fun _ _ _ _ _ => pts_nil) (fun _ _ _ _ _ => (pe_f F_is_kind hr (by decide) T.glo_is_kind passL (pa_c (pv 0) (pa_c (pv 2) pa_nil))))) pa_nil)))))), ?rd⟩)
  case len =>
    obtain ⟨a, p, l, t, rfl, _⟩ := h
    rfl
  case rd =>
    obtain ⟨a, p, l, t, rfl, hL, hS, hz, q⟩ := h
    refine s_ret (ev_is (ev_andV (a := decide ((t.length : Int) ≤ (l.seasons : Int))) (ev_op (ev_lenC (ev_var rfl) hS (vZ_len t)) (ev_seasons T (ev_var rfl) hL) rv_le) fun _ => ev_allZ (K := K) (Vbirak.isKind l) (ev_var rfl) hS (by omega) (fun _ => rfl) fun z H1 e1 hz => ev_call (ea_cons (ev_var rfl) (ea_cons (ev_var rfl) ea_nil)) (spv_kind (hL.ex e1))) ?_) q
    refine congrArg V.bl ?_
    unfold Vbirak.isYears
    refine congrArg (· && _) (decide_eq_decide.mpr ?_)
    omega
theorem spv_years {a p : Addr} {l : Lake} {t : List Int} {H : Hp} (hL : LakeAt K H a l) (hS : SqL K H p (vZ t)) (hz : t.length ≤ 1600) : SpV (spIsWeather K) [.ref a, .ref p] H (.bl (Vbirak.isYears l t)) := fun H1 e Q q E => ⟨a, p, l, t, rfl, hL.ex e, ex_l e hS, hz, q⟩
theorem spv_istext {p : Addr} {t : List Int} {H : Hp} (hS : SqL K H p (vZ t)) (hz : t.length ≤ 1600) : SpV (spIsText K) [.ref p] H (.bl (Vbirak.isText t)) := fun H1 e Q q E => ⟨p, t, rfl, ex_l e hS, hz, q⟩
end
/-! ### the keeper -/
def keepF (lv sv tv bv : V) : List (Str × V) := [("lake", lv), ("sure", sv), ("strategy", tv), ("sure_by_strategy", bv)]
section
variable (lv sv tv bv u : V)
theorem lk_k_lake : (keepF lv sv tv bv).lookup ("lake" : Str) = some lv := lk1
theorem lk_k_sure : (keepF lv sv tv bv).lookup ("sure" : Str) = some sv := (lk2 (by decide +kernel)).trans lk1
theorem lk_k_strategy : (keepF lv sv tv bv).lookup ("strategy" : Str) = some tv := (lk2 (by decide +kernel)).trans ((lk2 (by decide +kernel)).trans lk1)
theorem lk_k_by : (keepF lv sv tv bv).lookup ("sure_by_strategy" : Str) = some bv := (lk2 (by decide +kernel)).trans ((lk2 (by decide +kernel)).trans ((lk2 (by decide +kernel)).trans lk1))
theorem put_k_lake : putF "lake" u (keepF lv sv tv bv) = keepF u sv tv bv := pf1
theorem put_k_sure : putF "sure" u (keepF lv sv tv bv) = keepF lv u tv bv := (pf2 (by decide +kernel)).trans (congrArg _ pf1)
theorem put_k_strategy : putF "strategy" u (keepF lv sv tv bv) = keepF lv sv u bv := (pf2 (by decide +kernel)).trans (congrArg _ ((pf2 (by decide +kernel)).trans (congrArg _ pf1)))
theorem put_k_by : putF "sure_by_strategy" u (keepF lv sv tv bv) = keepF lv sv tv u := (pf2 (by decide +kernel)).trans (congrArg _ ((pf2 (by decide +kernel)).trans (congrArg _ ((pf2 (by decide +kernel)).trans (congrArg _ pf1)))))
theorem k_few : (keepF lv sv tv bv).length < 1000 := (by decide : 4 < 1000)
theorem lk_k_meth {m : Str} (h1 : (m == ("lake" : Str)) = false) (h2 : (m == ("sure" : Str)) = false) (h3 : (m == ("strategy" : Str)) = false) (h4 : (m == ("sure_by_strategy" : Str)) = false) : (keepF lv sv tv bv).lookup m = none := (lk2 h1).trans ((lk2 h2).trans ((lk2 h3).trans ((lk2 h4).trans rfl)))
end
def KpIn (K : PySem.W.Frag) (G : Hp) (lv sv tv bv : V) (s : Vbirak.State) : Prop := match s.lake with
  | none => lv = .non
  | some l => Fit l ∧ SFit l s.strategy ∧ ∃ la q, lv = .ref la ∧ LakeAt K G la l ∧ tv = .ref q ∧ StratAt K G q s.strategy ∧ (sv = .non ∨ ∃ p, sv = .ref p ∧ RowsAt G p (Vbirak.rows l)) ∧ (bv = .non ∨ ∃ p, bv = .ref p ∧ RowAt G p (keptAt l s.strategy 0))
/-- what is neither the keeper nor the list of answers -/
def G2 (kp an : Addr) (H : Hp) : Hp := del (del H kp) an
theorem g2_mono {kp an : Addr} {H H' : Hp} (e : Ex H H') : Ex (G2 kp an H) (G2 kp an H') := del_mono (del_mono e)
theorem g2_but {kp an : Addr} {H H' : Hp} (e : But kp H H') : Ex (G2 kp an H) (G2 kp an H') := del_mono e
theorem g2_sub {kp an : Addr} {H : Hp} : Ex (G2 kp an H) H := Ex.trans ex_del ex_del
theorem g2_nw {kp an : Addr} {H H1 : Hp} (h1 : H kp ≠ none) (h2 : H an ≠ none) : Ex (nw H H1) (G2 kp an H1) := fun b o hb => by
  obtain ⟨hbn, hb1⟩ := nw_old hb
  unfold G2
  rw [del_ne (fun z => h2 (by rw [← z]; exact hbn)), del_ne (fun z => h1 (by rw [← z]; exact hbn))]
  exact hb1
theorem g2_upd {kp an : Addr} {H : Hp} {o : HO} : G2 kp an (upd H an o) = G2 kp an H := by
  funext b
  unfold G2
  by_cases hb : b = an
  · rw [hb, del_same, del_same]
  · rw [del_ne hb, del_ne hb]
    by_cases hk : b = kp
    · rw [hk, del_same, del_same]
    · rw [del_ne hk, del_ne hk, upd_ne hb]
def KpAt (K : PySem.W.Frag) (an : Addr) (H : Hp) (kp : Addr) (s : Vbirak.State) : Prop := H an ≠ none ∧ an ≠ kp ∧ ∃ dx lv sv tv bv, H kp = some (.ins (He.ga K "Keeper") dx (keepF lv sv tv bv)) ∧ KpIn K (G2 kp an H) lv sv tv bv s
theorem RowsAt.ex' {H H' : Hp} {p : Addr} {rs : List Vbirak.Row} (h : RowsAt H p rs) (e : Ex H H') : RowsAt H' p rs := by
  obtain ⟨as, h1, h2⟩ := h
  exact ⟨as, e _ _ h1, h2.imp fun _ _ z => z.ex e⟩
theorem KpIn.ex {K : PySem.W.Frag} {G G' : Hp} {lv sv tv bv : V} {s : Vbirak.State} (h : KpIn K G lv sv tv bv s) (e : Ex G G') : KpIn K G' lv sv tv bv s := by
  unfold KpIn at h ⊢
  cases hl : s.lake with
  | none =>
    rw [hl] at h
    exact h
  | some l =>
    rw [hl] at h
    obtain ⟨F, S, la, q, h1, h2, h3, h4, h5, h8⟩ := h
    exact ⟨F, S, la, q, h1, h2.ex e, h3, mono_strat K _ _ _ _ e h4, h5.imp id fun ⟨p, h6, h7⟩ => ⟨p, h6, h7.ex' e⟩, h8.imp id fun ⟨p, h6, h7⟩ => ⟨p, h6, h7.ex e⟩⟩
theorem KpAt.ex {K : PySem.W.Frag} {H H' : Hp} {an kp : Addr} {s : Vbirak.State} (h : KpAt K an H kp s) (e : Ex H H') : KpAt K an H' kp s := by
  obtain ⟨hA, hAk, dx, lv, sv, tv, bv, h1, h2⟩ := h
  exact ⟨fun z => hA (fresh_back e z), hAk, dx, lv, sv, tv, bv, e _ _ h1, h2.ex (g2_mono e)⟩
theorem KpAt.upd {K : PySem.W.Frag} {an kp : Addr} {H : Hp} {s : Vbirak.State} {o : HO} (h : KpAt K an H kp s) : KpAt K an (L2.upd H an o) kp s := by
  obtain ⟨hA, hAk, dx, lv, sv, tv, bv, h1, h2⟩ := h
  refine ⟨by rw [upd_same]; simp, hAk, dx, lv, sv, tv, bv, by rw [upd_ne (Ne.symm hAk)]; exact h1, ?_⟩
  rw [g2_upd]
  exact h2
/-- an answer told -/
def Ans (K : PySem.W.Frag) (an kp : Addr) (H : Hp) (Q : VK) (y : Vbirak.State × List Int) : Prop := ∀ p H', But kp H H' → KpAt K an H' kp y.1 → p ≠ an → H' p = some (.lst (vZ y.2)) → Q (.ref p) H'
theorem Ans.go {K : PySem.W.Frag} {an kp : Addr} {H H1 : Hp} {Q : VK} {y : Vbirak.State × List Int} (a : Ans K an kp H Q y) (e : But kp H H1) : Ans K an kp H1 Q y := fun p H' e' h1 h2 h3 => a p H' (e.trans e') h1 h2 h3
/-- a refusal, an answer of known numbers -/
theorem s_ans {K : PySem.W.Frag} {an kp : Addr} {H : Hp} {D : Ends} {σ : L2.St} {ta : TE} {s : Vbirak.State} {zs : List Int} (h : EvL ta σ H (vZ zs)) (hk : KpAt K an H kp s) (a : Ans K an kp H D.rt (s, zs)) : tRet ta D σ H :=
  s_retL h fun p H1 hp e1 h1 => a p H1 (But.of e1) (hk.ex e1) (fun z => hk.1 (by rw [← z]; exact hp)) h1
section
variable {P : Program} {w : World} {K : PySem.W.Frag} {mg : Str → Option Value} {base : Heap}
/-- self.strategy = Strategy([], 0), whatever is behind it -/
theorem newStrat {σ : L2.St} {H : Hp} {Q : VK} {E : XK} (k : ∀ q H1, Ex H H1 → StratAt K (nw H H1) q ⟨[], 0⟩ → Q (.ref q) H1) :
    tMake (He.ga K "Strategy") (spInit (He.ga K "Strategy") ["rules", "otherwise"]) [] E (tCons (tLst tNil) (tCons (tC (.int 0)) tNil)) σ H Q := by
  refine ⟨(by show 0 ≤ sizeLine; decide), fun rl hrl => ?_⟩
  dsimp only [tCons, tC, tNil]
  intro q dq hq hdq hne
  refine ⟨q, dq, [.ref rl, .int 0], rfl, rfl, upd_same, rfl, ?_⟩
  rw [upd_upd]
  have e1 : Ex H (upd (upd (upd H rl (.lst [])) dq (.own q)) q (.ins (He.ga K "Strategy") dq ([("rules" : Str), "otherwise"].zip [V.ref rl, V.int 0]))) := Ex.mut (Ex.mut (Ex.new hrl) (fresh_back (Ex.new hrl) hdq)) (fresh_back (Ex.new hrl) hq)
  have hqr : q ≠ rl := fun z => by
    rw [z, upd_same] at hq
    cases hq
  have hdr : dq ≠ rl := fun z => by
    rw [z, upd_same] at hdq
    cases hdq
  refine k q _ e1 ⟨dq, rl, ?_, [], ?_, All2.nil⟩
  · rw [nw_at (fresh_back (Ex.new hrl) hq)]
    exact upd_same
  · rw [nw_at hrl, upd_ne (Ne.symm hqr), upd_ne (Ne.symm hdr)]
    exact upd_same
theorem q_newStrat {σ : L2.St} {H : Hp} {ta : TE} {tz : TS} {D : Ends} {E : XK} {kp C dx : Addr} {fs : List (Str × V)} {f : Str} (ho : Ev ta σ H (.ref kp)) (hk : H kp = some (.ins C dx fs)) (cl : Cls K C) (na : NoAttr K C f) (few : fs.length < 1000) (k : ∀ q H1, Ex H H1 → StratAt K (nw H H1) q ⟨[], 0⟩ → tz D σ (upd H1 kp (.ins C dx (putF f (.ref q) fs)))) :
    tSeq (sFld K ta (tMake (He.ga K "Strategy") (spInit (He.ga K "Strategy") ["rules", "otherwise"]) [] E (tCons (tLst tNil) (tCons (tC (.int 0)) tNil))) f) tz D σ H :=
  (newStrat (K := K) (E := E) (σ := σ) (H := H) (Q := fun y H1 => ta σ H1 fun x H2 => ∃ a C dx fs, x = .ref a ∧ H2 a = some (.ins C dx fs) ∧ Cls K C ∧ NoAttr K C f ∧ fs.length < 1000 ∧ tz D σ (upd H2 a (.ins C dx (putF f y fs)))) fun q H1 e1 hS => ho H1 e1 _ fun H2 e2 => ⟨kp, C, dx, fs, rfl, e2 _ _ (e1 _ _ hk), cl, na, few, k q H2 (e1.trans e2) (mono_strat K _ _ _ _ (nw_mono e2) hS)⟩ :)
/-- o.f = g(..) -/
theorem s_fldC {σ : L2.St} {H : Hp} {to : TE} {ta : TA} {D : Ends} {E : XK} {f : Str} {sp : Sp} {vs : List V} (h : EvA ta σ H vs) (k : ∀ H1, Ex H H1 → sp (vs ++ []) H1 (fun y H2 => sFld K to (tC y) f D σ H2) E) : sFld K to (tCall sp [] E ta) f D σ H := h H (Ex.refl H) _ k
def spKeeper (K : PySem.W.Frag) : Sp := fun vs H Q _ => ∃ (kp dx : Addr), vs = [.ref kp] ∧ H kp = some (.ins (He.ga K "Keeper") dx []) ∧ ∀ q H', But kp H H' → H' kp = some (.ins (He.ga K "Keeper") dx (keepF .non .non (.ref q) .non)) → Q .non H'
theorem ok_Keeper_init (T : Tx K mg) (F_Strategy_init : Fn P w K mg base 1 (He.ma K (He.ga K "Strategy") "__init__") ["self", "rules", "otherwise"] (spInit (He.ga K "Strategy") ["rules", "otherwise"])) : Fn P w K mg base 3 (He.ma K (He.ga K "Keeper") "__init__") ["self"] (spKeeper K) := by
  have sc : FnScope ["self"] ["self"] (defScope s_Keeper_init) := ⟨rfl, rfl, rfl, by decide +kernel, rfl, by decide +kernel, by decide +kernel⟩
  refine fn_mk (k := 2) T.fun_Keeper_init sc (fun _ _ _ _ _ _ us hl => match us, hl with | [_], _ => rfl) (fun vs H Q E h => ?len) (fun cdv A outer s H vs Q E hr h => ⟨_, (pss_cons (ps_fld (pv 0) pe_non rfl)
      (pss_cons (ps_fld (pv 0) pe_non rfl)
      (pss_cons (ps_fld (pv 0) (pe_k F_Strategy_init hr (by decide) T.mkr_Strategy T.glo_Strategy (passes_call (takes_of rfl rfl rfl rfl) (fun _ _ _ _ h => h)) (pa_c (pe_lst pa_nil) (pa_c pe_int pa_nil))) rfl)
      (pss_one (ps_fld (pv 0) pe_non rfl))))), ?rd⟩)
  case len =>
    obtain ⟨kp, dx, rfl, _⟩ := h
    rfl
  case rd =>
    obtain ⟨kp, dx, rfl, hp, k⟩ := h
    refine ⟨_, rfl, kp, _, dx, [], rfl, hp, T.cls_Keeper, T.noat_Keeper_lake, fwl fw0 (by decide), ?_⟩
    refine ⟨_, rfl, kp, _, dx, _, rfl, upd_same, T.cls_Keeper, T.noat_Keeper_sure, fwl (fwS fw0) (by decide), ?_⟩
    rw [upd_upd]
    refine q_newStrat (ev_var rfl) upd_same T.cls_Keeper T.noat_Keeper_strategy (fwl (fwS (fwS fw0)) (by decide)) fun q H1 e1 _ => ?_
    refine ⟨_, rfl, kp, _, dx, _, rfl, upd_same, T.cls_Keeper, T.noat_Keeper_sure_by_strategy, fwl (fwS (fwS (fwS fw0))) (by decide), ?_⟩
    rw [upd_upd]
    exact k q _ ((But.upd.trans (But.of e1)).trans But.upd) upd_same
def spPutStrategy (K : PySem.W.Frag) : Sp := fun vs H Q _ => ∃ (kp dx : Addr) (lv sv tv bv v : V), vs = [.ref kp, v] ∧ H kp = some (.ins (He.ga K "Keeper") dx (keepF lv sv tv bv)) ∧ Q .non (upd H kp (.ins (He.ga K "Keeper") dx (keepF lv sv v .non)))
theorem ok_Keeper_put_strategy (T : Tx K mg)  : Fn P w K mg base 1 (He.ma K (He.ga K "Keeper") "put_strategy") ["self", "strategy"] (spPutStrategy K) := by
  have sc : FnScope ["self", "strategy"] ["self", "strategy"] (defScope s_Keeper_put_strategy) := ⟨rfl, rfl, rfl, by decide +kernel, rfl, by decide +kernel, by decide +kernel⟩
  refine fn_mk (k := 0) T.fun_Keeper_put_strategy sc (fun _ _ _ _ _ _ us hl => match us, hl with | [_, _], _ => rfl) (fun vs H Q E h => ?len) (fun cdv A outer s H vs Q E hr h => ⟨_, (pss_cons (ps_fld (pv 0) (pv 1) rfl)
      (pss_one (ps_fld (pv 0) pe_non rfl))), ?rd⟩)
  case len =>
    obtain ⟨kp, dx, lv, sv, tv, bv, v, rfl, _⟩ := h
    rfl
  case rd =>
    obtain ⟨kp, dx, lv, sv, tv, bv, v, rfl, hp, k⟩ := h
    refine ⟨_, rfl, _, rfl, kp, _, dx, _, rfl, hp, T.cls_Keeper, T.noat_Keeper_strategy, k_few .., ?_⟩
    rw [put_k_strategy]
    refine ⟨_, rfl, kp, _, dx, _, rfl, upd_same, T.cls_Keeper, T.noat_Keeper_sure_by_strategy, k_few .., ?_⟩
    rw [put_k_by, upd_upd]
    exact k
def spPutLake (K : PySem.W.Frag) : Sp := fun vs H Q _ => ∃ (kp dx : Addr) (lv sv tv bv v : V), vs = [.ref kp, v] ∧ H kp = some (.ins (He.ga K "Keeper") dx (keepF lv sv tv bv)) ∧ ∀ q H', But kp H H' → H' kp = some (.ins (He.ga K "Keeper") dx (keepF v .non (.ref q) .non)) → StratAt K (nw H H') q ⟨[], 0⟩ → Q .non H'
theorem ok_Keeper_put_lake (T : Tx K mg) (F_Keeper_put_strategy : Fn P w K mg base 1 (He.ma K (He.ga K "Keeper") "put_strategy") ["self", "strategy"] (spPutStrategy K)) (F_Strategy_init : Fn P w K mg base 1 (He.ma K (He.ga K "Strategy") "__init__") ["self", "rules", "otherwise"] (spInit (He.ga K "Strategy") ["rules", "otherwise"])) : Fn P w K mg base 3 (He.ma K (He.ga K "Keeper") "put_lake") ["self", "lake"] (spPutLake K) := by
  have sc : FnScope ["self", "lake"] ["self", "lake"] (defScope s_Keeper_put_lake) := ⟨rfl, rfl, rfl, by decide +kernel, rfl, by decide +kernel, by decide +kernel⟩
  refine fn_mk (k := 2) T.fun_Keeper_put_lake sc (fun _ _ _ _ _ _ us hl => match us, hl with | [_, _], _ => rfl) (fun vs H Q E h => ?len) (fun cdv A outer s H vs Q E hr h => ⟨_, (pss_cons (ps_fld (pv 0) (pv 1) rfl)
      (pss_cons (ps_fld (pv 0) pe_non rfl)
      (pss_one (ps_expr (pe_m F_Keeper_put_strategy hr (by decide) (pv 0) T.cls_Keeper T.meth_Keeper_put_strategy (passes_call (takes_of rfl rfl rfl rfl) (fun _ _ _ _ h => h)) (pa_c (pe_k F_Strategy_init hr (by decide) T.mkr_Strategy T.glo_Strategy (passes_call (takes_of rfl rfl rfl rfl) (fun _ _ _ _ h => h)) (pa_c (pe_lst pa_nil) (pa_c pe_int pa_nil))) pa_nil)))))), ?rd⟩)
  case len =>
    obtain ⟨kp, dx, lv, sv, tv, bv, v, rfl, _⟩ := h
    rfl
  case rd =>
    obtain ⟨kp, dx, lv, sv, tv, bv, v, rfl, hp, k⟩ := h
    refine ⟨_, rfl, _, rfl, kp, _, dx, _, rfl, hp, T.cls_Keeper, T.noat_Keeper_lake, k_few .., ?_⟩
    rw [put_k_lake]
    refine ⟨_, rfl, kp, _, dx, _, rfl, upd_same, T.cls_Keeper, T.noat_Keeper_sure, k_few .., ?_⟩
    rw [put_k_sure, upd_upd]
    refine ⟨_, rfl, kp, dx, _, rfl, upd_same, lk_k_meth _ _ _ _ (by decide +kernel) (by decide +kernel) (by decide +kernel) (by decide +kernel), ?_⟩
    refine newStrat (K := K) fun q H1 e1 hS => ?_
    refine ⟨kp, dx, _, _, _, _, .ref q, rfl, e1 _ _ upd_same, k q _ ((But.upd.trans (But.of e1)).trans But.upd) upd_same (mono_strat K _ _ _ _ ?_ hS)⟩
    intro b o hb
    obtain ⟨hb1, hb2⟩ := nw_old hb
    have hbk : b ≠ kp := fun z => by
      rw [z, upd_same] at hb1
      cases hb1
    rw [upd_ne hbk] at hb1
    rw [nw_at hb1, upd_ne hbk]
    exact hb2
def spSureOf (K : PySem.W.Frag) : Sp := fun vs H Q _ => ∃ (an kp : Addr) (s : Vbirak.State) (l : Lake), vs = [.ref kp] ∧ KpAt K an H kp s ∧ s.lake = some l ∧ ∀ p H', But kp H H' → KpAt K an H' kp s → RowsAt (G2 kp an H') p (Vbirak.rows l) → Q (.ref p) H'
theorem nw_delR {H H1 : Hp} {an kp : Addr} (h : H kp ≠ none) : Ex (nw H H1) (del H1 kp) := ex_nw_del h
theorem ok_sure_of (T : Tx K mg) (F_all_sure : Fn P w K mg base 5 (He.ga K "all_sure") ["lake"] (spAll K)) : Fn P w K mg base 6 (He.ga K "sure_of") ["keeper"] (spSureOf K) := by
  have sc : FnScope ["keeper"] ["keeper"] (defScope s_sure_of) := ⟨rfl, rfl, rfl, by decide +kernel, rfl, by decide +kernel, by decide +kernel⟩
  refine fn_mk (k := 5) T.fun_sure_of sc (fun _ _ _ _ _ _ us hl => match us, hl with | [_], _ => rfl) (fun vs H Q E h => ?len) (fun cdv A outer s H vs Q E hr h => ⟨_, (pss_cons (ps_if (pt_cmpR op_isN (pe_fld (pv 0) rfl) pe_non (nomark _)) (pss_one (ps_fld (pv 0) (pe_f F_all_sure hr (by decide) T.glo_all_sure (passes_call (takes_of rfl rfl rfl rfl) (fun _ _ _ _ h => h)) (pa_c (pe_fld (pv 0) rfl) pa_nil)) rfl)) pss_nil)
      (pss_one (ps_ret (pe_fld (pv 0) rfl)))), ?rd⟩)
  case len =>
    obtain ⟨an, kp, s, l, rfl, _⟩ := h
    rfl
  case rd =>
    obtain ⟨an, kp, s, l, rfl, ⟨hA, hAk, dx, lv, sv, tv, bv, h1, h2⟩, hl, k⟩ := h
    have h2' := h2
    unfold KpIn at h2
    rw [hl] at h2
    obtain ⟨F, S, la, q, rfl, hL, rfl, hq, hs, hby⟩ := h2
    refine q_when (et_test (ev_isN (ev_fld (ev_var rfl) h1 T.cls_Keeper T.noat_Keeper_sure (lk_k_sure ..)))) (fun hb H1 e1 => ?_) (fun hb H1 e1 => ?_)
    · refine ev_fld (ev_var rfl) (e1 _ _ h1) T.cls_Keeper T.noat_Keeper_lake (lk_k_lake ..) H1 (Ex.refl H1) _ fun H2 e2 => ?_
      refine ⟨la, l, rfl, hL.ex ((g2_sub.trans e1).trans e2), F, fun p H3 e3 hp => ?_⟩
      have h3 := e3 _ _ (e2 _ _ (e1 _ _ h1))
      refine ⟨_, rfl, kp, _, dx, _, rfl, h3, T.cls_Keeper, T.noat_Keeper_sure, k_few .., ?_⟩
      rw [put_k_sure]
      have b3 : But kp H (upd H3 kp (.ins (He.ga K "Keeper") dx (keepF (.ref la) (.ref p) (.ref q) bv))) := (But.of ((e1.trans e2).trans e3)).trans But.upd
      have hR : RowsAt (G2 kp an (upd H3 kp (.ins (He.ga K "Keeper") dx (keepF (.ref la) (.ref p) (.ref q) bv)))) p (Vbirak.rows l) := RowsAt.ex' (RowsAt.ex' hp (g2_nw (by rw [e2 _ _ (e1 _ _ h1)]; simp) (fun z => hA (fresh_back (e1.trans e2) z)))) (g2_but But.upd)
      refine s_ret (ev_fld (ev_var rfl) upd_same T.cls_Keeper T.noat_Keeper_sure (lk_k_sure ..)) fun H4 e4 => k p H4 (b3.trans (But.of e4)) ?_ (hR.ex' (g2_mono e4))
      refine KpAt.ex ⟨fun z => hA (fresh_back ((e1.trans e2).trans e3) (by rw [upd_ne hAk] at z; exact z)), hAk, dx, _, _, _, _, upd_same, ?_⟩ e4
      unfold KpIn
      rw [hl]
      exact ⟨F, S, la, q, rfl, hL.ex (g2_but b3), rfl, mono_strat K _ _ _ _ (g2_but b3) hq, Or.inr ⟨p, rfl, hR⟩, hby.imp id fun ⟨p, h6, h7⟩ => ⟨p, h6, h7.ex (g2_but b3)⟩⟩
    · have hn : sv ≠ .non := of_decide_eq_false hb
      obtain ⟨p, rfl, hp⟩ := hs.resolve_left hn
      refine s_ret (ev_fld (ev_var rfl) (e1 _ _ h1) T.cls_Keeper T.noat_Keeper_sure (lk_k_sure ..)) fun H4 e4 => k p H4 (But.of (e1.trans e4)) ?_ (hp.ex' (g2_mono (e1.trans e4)))
      exact KpAt.ex ⟨hA, hAk, dx, _, _, _, _, h1, h2'⟩ (e1.trans e4)
def spByOf (K : PySem.W.Frag) : Sp := fun vs H Q _ => ∃ (an kp : Addr) (s : Vbirak.State) (l : Lake), vs = [.ref kp] ∧ KpAt K an H kp s ∧ s.lake = some l ∧ ∀ p H', But kp H H' → KpAt K an H' kp s → RowAt (G2 kp an H') p (keptAt l s.strategy 0) → Q (.ref p) H'
theorem ok_sure_by_strategy_of (T : Tx K mg) (F_strategy_sure : Fn P w K mg base 6 (He.ga K "strategy_sure") ["lake", "strategy"] (spStratSure K)) : Fn P w K mg base 7 (He.ga K "sure_by_strategy_of") ["keeper"] (spByOf K) := by
  have sc : FnScope ["keeper"] ["keeper"] (defScope s_sure_by_strategy_of) := ⟨rfl, rfl, rfl, by decide +kernel, rfl, by decide +kernel, by decide +kernel⟩
  refine fn_mk (k := 6) T.fun_sure_by_strategy_of sc (fun _ _ _ _ _ _ us hl => match us, hl with | [_], _ => rfl) (fun vs H Q E h => ?len) (fun cdv A outer s H vs Q E hr h => ⟨_, (pss_cons (ps_if (pt_cmpR op_isN (pe_fld (pv 0) rfl) pe_non (nomark _)) (pss_one (ps_fld (pv 0) (pe_f F_strategy_sure hr (by decide) T.glo_strategy_sure (passes_call (takes_of rfl rfl rfl rfl) (fun _ _ _ _ h => h)) (pa_c (pe_fld (pv 0) rfl) (pa_c (pe_fld (pv 0) rfl) pa_nil))) rfl)) pss_nil)
      (pss_one (ps_ret (pe_fld (pv 0) rfl)))), ?rd⟩)
  case len =>
    obtain ⟨an, kp, s, l, rfl, _⟩ := h
    rfl
  case rd =>
    obtain ⟨an, kp, s, l, rfl, ⟨hA, hAk, dx, lv, sv, tv, bv, h1, h2⟩, hl, k⟩ := h
    have h2' := h2
    unfold KpIn at h2
    rw [hl] at h2
    obtain ⟨F, S, la, q, rfl, hL, rfl, hq, hs, hby⟩ := h2
    refine q_when (et_test (ev_isN (ev_fld (ev_var rfl) h1 T.cls_Keeper T.noat_Keeper_sure_by_strategy (lk_k_by ..)))) (fun hb H1 e1 => ?_) (fun hb H1 e1 => ?_)
    · refine s_fldC (ea_cons (ev_fld (ev_var rfl) (e1 _ _ h1) T.cls_Keeper T.noat_Keeper_lake (lk_k_lake ..)) (ea_cons (ev_fld (ev_var rfl) (e1 _ _ h1) T.cls_Keeper T.noat_Keeper_strategy (lk_k_strategy ..)) ea_nil)) fun H2 e2 => ?_
      refine ⟨la, q, l, s.strategy, rfl, hL.ex ((g2_sub.trans e1).trans e2), F, mono_strat K _ _ _ _ ((g2_sub.trans e1).trans e2) hq, fun p H3 e3 hp => ?_⟩
      have h3 := e3 _ _ (e2 _ _ (e1 _ _ h1))
      refine (⟨_, rfl, kp, _, dx, _, rfl, h3, T.cls_Keeper, T.noat_Keeper_sure_by_strategy, k_few .., ?_⟩ : sFld K (tVar 0) (tC (.ref p)) "sure_by_strategy" _ [some (.ref kp)] H3)
      rw [put_k_by]
      have b3 : But kp H (upd H3 kp (.ins (He.ga K "Keeper") dx (keepF (.ref la) sv (.ref q) (.ref p)))) := (But.of ((e1.trans e2).trans e3)).trans But.upd
      have hR : RowAt (G2 kp an (upd H3 kp (.ins (He.ga K "Keeper") dx (keepF (.ref la) sv (.ref q) (.ref p))))) p (keptAt l s.strategy 0) := RowAt.ex (RowAt.ex hp (g2_nw (by rw [e2 _ _ (e1 _ _ h1)]; simp) (fun z => hA (fresh_back (e1.trans e2) z)))) (g2_but But.upd)
      refine s_ret (ev_fld (ev_var rfl) upd_same T.cls_Keeper T.noat_Keeper_sure_by_strategy (lk_k_by ..)) fun H4 e4 => k p H4 (b3.trans (But.of e4)) ?_ (hR.ex (g2_mono e4))
      refine KpAt.ex ⟨fun z => hA (fresh_back ((e1.trans e2).trans e3) (by rw [upd_ne hAk] at z; exact z)), hAk, dx, _, _, _, _, upd_same, ?_⟩ e4
      unfold KpIn
      rw [hl]
      exact ⟨F, S, la, q, rfl, hL.ex (g2_but b3), rfl, mono_strat K _ _ _ _ (g2_but b3) hq, hs.imp id fun ⟨p, h6, h7⟩ => ⟨p, h6, h7.ex' (g2_but b3)⟩, Or.inr ⟨p, rfl, hR⟩⟩
    · have hn : bv ≠ .non := of_decide_eq_false hb
      obtain ⟨p, rfl, hp⟩ := hby.resolve_left hn
      refine s_ret (ev_fld (ev_var rfl) (e1 _ _ h1) T.cls_Keeper T.noat_Keeper_sure_by_strategy (lk_k_by ..)) fun H4 e4 => k p H4 (But.of (e1.trans e4)) ?_ (hp.ex (g2_mono (e1.trans e4)))
      exact KpAt.ex ⟨hA, hAk, dx, _, _, _, _, h1, h2'⟩ (e1.trans e4)
end
end Sl
namespace Sl
open PySem PySem.Spec PyProof.Rows L2
open Evl
open Vbirak (Lake Weather)
open Sm
section
variable {K : PySem.W.Frag} {mg : Str → Option Value} {σ : L2.St} {H : Hp} {ta tb : TE} {tz : TS} {D : Ends} {E : XK} {an kp : Addr} {s : Vbirak.State} {l : Lake}
theorem ev_klake (T : Tx K mg) (ha : Ev ta σ H (.ref kp)) (h : KpAt K an H kp s) (hl : s.lake = some l) : ∃ la, Ev (tFld K ta "lake") σ H (.ref la) ∧ LakeAt K (G2 kp an H) la l ∧ Fit l := by
  obtain ⟨hA, hAk, dx, lv, sv, tv, bv, h1, h2⟩ := h
  unfold KpIn at h2
  rw [hl] at h2
  obtain ⟨F, S, la, q, rfl, hL, rfl, hq, hs, hby⟩ := h2
  exact ⟨la, ev_fld ha h1 T.cls_Keeper T.noat_Keeper_lake (lk_k_lake ..), hL, F⟩
theorem ev_kstrat (T : Tx K mg) (ha : Ev ta σ H (.ref kp)) (h : KpAt K an H kp s) (hl : s.lake = some l) : ∃ q, Ev (tFld K ta "strategy") σ H (.ref q) ∧ StratAt K (G2 kp an H) q s.strategy ∧ SFit l s.strategy := by
  obtain ⟨hA, hAk, dx, lv, sv, tv, bv, h1, h2⟩ := h
  unfold KpIn at h2
  rw [hl] at h2
  obtain ⟨F, S, la, q, rfl, hL, rfl, hq, hs, hby⟩ := h2
  exact ⟨q, ev_fld ha h1 T.cls_Keeper T.noat_Keeper_strategy (lk_k_strategy ..), hq, S⟩
theorem q_sure {i : Nat} (ha : Ev ta σ H (.ref kp)) (hk : KpAt K an H kp s) (hl : s.lake = some l) (k : ∀ p H', But kp H H' → KpAt K an H' kp s → RowsAt (G2 kp an H') p (Vbirak.rows l) → tz D (σ.set i (some (.ref p))) H') : tSeq (tAsg (tCall (spSureOf K) [] E (tCons ta tNil)) (gName i)) tz D σ H :=
  ha H (Ex.refl H) _ fun H1 e1 => ⟨an, kp, s, l, rfl, hk.ex e1, hl, fun p H' b h1 h2 => k p H' ((But.of e1).trans b) h1 h2⟩
theorem s_retOp {r : R2} (h : ta σ H fun x H1 => tb σ H1 fun y H2 => r x y H2 D.rt) : tRet (tOp r ta tb) D σ H := h
theorem ev_m1 {n : Int} : Ev (tUn (rU fun i => .int (-i)) (tC (.int n))) σ H (.int (-n)) := ev_un ev_c ru_neg
theorem ans_m {n : Int} (hk : KpAt K an H kp s) (a : Ans K an kp H D.rt (s, [-n])) : tRet (tLst (tCons (tUn (rU fun i => .int (-i)) (tC (.int n))) tNil)) D σ H :=
  s_ans (zs := [-n]) (el_lst (ea_cons ev_m1 ea_nil) (by show 1 ≤ 100000; decide)) hk a
theorem spv_best {a p : Addr} {rs : List Vbirak.Row} {row : Vbirak.Row} {t x b : Nat} (hL : LakeAt K H a l) (F : Fit l) (hR : RowsAt H p rs) (hr : rs[t + 1]? = some row) (R : RowFit l row) (hx : x ≤ l.holds) (hb : b < l.weathers.length) : SpV (spBest K) [.ref a, .ref p, .int (t : Int), .int (x : Int), .int (b : Int)] H (.int (((Vbirak.best l t row x b).1 : Nat) : Int)) :=
  fun H1 e Q q E => ⟨a, p, l, rs, row, t, x, b, rfl, hL.ex e, F, hR.ex e, hr, R, hx, hb, q⟩
def ansK (l : Lake) (row : Vbirak.Row) (x b : Nat) : Nat := ((Vbirak.firstLeast (fun k => Vbirak.sureAt row k (lb l x k)) (Vbirak.nextOf l b)).map fun y => y.1).getD 0
theorem spv_ans {a p : Addr} {rs : List Vbirak.Row} {row : Vbirak.Row} {t x b : Nat} (hL : LakeAt K H a l) (F : Fit l) (hR : RowsAt H p rs) (hr : rs[t + 1]? = some row) (R : RowFit l row) (hb : b < l.weathers.length) : SpV (spAnswer K) [.ref a, .ref p, .int (t : Int), .int (x : Int), .int (b : Int)] H (.int ((ansK l row x b : Nat) : Int)) :=
  fun H1 e Q q E => ⟨a, p, l, rs, row, t, x, b, rfl, hL.ex e, F, hR.ex e, hr, R, hb, q⟩
theorem ans_eq (l : Lake) (row : Vbirak.Row) (x w r : Nat) : ((Vbirak.answer l row x w r).map fun y => y.1).getD 0 = ansK l row (x - r) w := rfl
theorem ansK_lt (F : Fit l) {row : Vbirak.Row} {x b : Nat} (hb : b < l.weathers.length) : ansK l row x b < l.weathers.length := by
  obtain ⟨y, hy⟩ := fl_some (fun k => Vbirak.sureAt row k (lb l x k)) _ (next_ne F hb)
  obtain ⟨z1, j, z2, z3, z4⟩ := fl_spec _ _ y hy
  unfold ansK
  rw [hy]
  exact next_lt F hb (List.mem_of_getElem? z2)
end
theorem kind_nat {l : Lake} {z : Int} (F : Fit l) (h : Vbirak.isKind l z = true) : ∃ n : Nat, z = (n : Int) ∧ n < l.weathers.length := by
  unfold Vbirak.isKind Vbirak.inside at h
  rw [Bool.and_eq_true, decide_eq_true_eq, decide_eq_true_eq] at h
  exact ⟨z.toNat, by omega, by omega⟩
theorem level_nat {l : Lake} {z : Int} (h : Vbirak.isLevel l z = true) : ∃ n : Nat, z = (n : Int) ∧ n ≤ l.holds := inside_nat (lo := 0) h
theorem season_nat {l : Lake} {z : Int} (h : Vbirak.inside z 0 ((l.seasons : Int) - 1) = true) : ∃ n : Nat, z = (n : Int) ∧ n < l.seasons := by
  unfold Vbirak.inside at h
  rw [Bool.and_eq_true, decide_eq_true_eq, decide_eq_true_eq] at h
  exact ⟨z.toNat, by omega, by omega⟩
theorem nt {b : Bool} (h : (!b) = false) : b = true := by
  cases b with
  | true => rfl
  | false => cases h
theorem nf {b : Bool} (h : (!b) = true) : b = false := by
  cases b with
  | false => rfl
  | true => cases h
theorem years_nats {l : Lake} {t : List Int} (F : Fit l) (h : Vbirak.isYears l t = true) : vZ t = vI (Vbirak.nats t) ∧ (∀ k ∈ Vbirak.nats t, k < l.weathers.length) ∧ (Vbirak.nats t).length ≤ l.seasons := by
  unfold Vbirak.isYears at h
  rw [Bool.and_eq_true, decide_eq_true_eq, List.all_eq_true] at h
  refine ⟨?_, fun k hk => ?_, by unfold Vbirak.nats; rw [List.length_map]; exact h.1⟩
  · unfold vZ vI Vbirak.nats
    rw [List.map_map]
    refine List.map_congr_left fun z hz => ?_
    obtain ⟨n, rfl, _⟩ := kind_nat F (h.2 z hz)
    rfl
  · obtain ⟨z, hz, rfl⟩ := List.mem_map.mp hk
    obtain ⟨n, rfl, hn⟩ := kind_nat F (h.2 z hz)
    exact hn
def refusalOf (l : Lake) (x b : Int) (ws : List Int) : Int := if (Vbirak.isLevel l x && (Vbirak.isKind l b && Vbirak.isYears l ws)) = false then -1 else if Vbirak.mayCome l b.toNat (Vbirak.nats ws) = false then -3 else 0
section
variable {P : Program} {w : World} {K : PySem.W.Frag} {mg : Str → Option Value} {base : Heap}
def spRefusal (K : PySem.W.Frag) : Sp := fun vs H Q _ => ∃ (a p : Addr) (l : Lake) (x b : Int) (ws : List Int), vs = [.ref a, .int x, .int b, .ref p] ∧ LakeAt K H a l ∧ Fit l ∧ SqL K H p (vZ ws) ∧ ws.length ≤ 1600 ∧ RetV (.int (refusalOf l x b ws)) H Q
theorem ok_weather_refusal (T : Tx K mg) (F_is_start : Fn P w K mg base 2 (He.ga K "is_start") ["lake", "level", "before"] (spIsStart K)) (F_is_weather : Fn P w K mg base 2 (He.ga K "is_weather") ["lake", "row"] (spIsWeather K)) (F_can_come : Fn P w K mg base 1 (He.ga K "can_come") ["lake", "before", "weather"] (spCanCome K)) : Fn P w K mg base 3 (He.ga K "weather_refusal") ["lake", "level", "before", "weather"] (spRefusal K) := by
  have sc : FnScope ["lake", "level", "before", "weather"] ["lake", "level", "before", "weather"] (defScope s_weather_refusal) := ⟨rfl, rfl, rfl, by decide +kernel, rfl, by decide +kernel, by decide +kernel⟩
  refine fn_mk (k := 2) T.fun_weather_refusal sc (fun _ _ _ _ _ _ us hl => match us, hl with | [_, _, _, _], _ => rfl) (fun vs H Q E h => ?len) (fun cdv A outer s H vs Q E hr h => ⟨_, (pss_cons (ps_if (pt_not (PW.pt (pw_and (pt_val (pe_f F_is_start hr (by decide) T.glo_is_start (passes_call (takes_of rfl rfl rfl rfl) (fun _ _ _ _ h => h)) (pa_c (pv 0) (pa_c (pv 1) (pa_c (pv 2) pa_nil))))) (pw_and1 (pt_val (pe_f F_is_weather hr (by decide) T.glo_is_weather (passes_call (takes_of rfl rfl rfl rfl) (fun _ _ _ _ h => h)) (pa_c (pv 0) (pa_c (pv 3) pa_nil)))))))) (pss_one (ps_ret (pe_un un_neg pe_int))) pss_nil)
      (pss_one (ps_ret (pe_ifExp (pt_val (pe_f F_can_come hr (by decide) T.glo_can_come (passes_call (takes_of rfl rfl rfl rfl) (fun _ _ _ _ h => h)) (pa_c (pv 0) (pa_c (pv 2) (pa_c (pv 3) pa_nil))))) pe_int (pe_un un_neg pe_int))))), ?rd⟩)
  case len =>
    obtain ⟨a, p, l, x, b, ws, rfl, _⟩ := h
    rfl
  case rd =>
    obtain ⟨a, p, l, x, b, ws, rfl, hL, F, hW, hwl, q⟩ := h
    unfold refusalOf at q
    refine q_when (b := !(Vbirak.isLevel l x && (Vbirak.isKind l b && Vbirak.isYears l ws))) (et_is (et_not (et_and (et_B (ev_call (ea_cons (ev_var rfl) (ea_cons (ev_var rfl) (ea_cons (ev_var rfl) ea_nil))) (spv_start hL))) fun _ => et_B (ev_call (ea_cons (ev_var rfl) (ea_cons (ev_var rfl) ea_nil)) (spv_years hL hW hwl)))) (by rw [Bool.and_assoc])) (fun hb H1 e1 => ?_) (fun hb H1 e1 => ?_)
    · rw [if_pos (nf hb)] at q
      exact s_ret ev_m1 fun H2 e2 => q H2 (e1.trans e2)
    · have hy := nt hb
      rw [if_neg (by rw [hy]; simp)] at q
      rw [Bool.and_eq_true, Bool.and_eq_true] at hy
      obtain ⟨b, rfl, hbl⟩ := kind_nat F hy.2.1
      obtain ⟨ev, hks, hkl⟩ := years_nats F hy.2.2
      rw [ev] at hW
      generalize Vbirak.nats ws = ks at q ev hks hkl hW
      rw [Int.toNat_natCast] at q
      have et := et_B (ev_call (sp := spCanCome K) (dvs := []) (E := E) (z := .bl (Vbirak.mayCome l b ks)) (ta := tCons (tVar 0) (tCons (tVar 2) (tCons (tVar 3) tNil))) (σ := [some (.ref a), some (.int x), some (.int (b : Int)), some (.ref p)]) (H := H1) (ea_cons (ev_var rfl) (ea_cons (ev_var rfl) (ea_cons (ev_var rfl) ea_nil))) fun H3 e3 Q q E => ⟨a, p, l, b, ks, rfl, hL.ex (e1.trans e3), ex_l (e1.trans e3) hW, hbl, hks, q⟩)
      cases hm : Vbirak.mayCome l b ks with
      | true =>
        rw [hm] at et q
        rw [if_neg (by simp)] at q
        exact s_ret (ev_if et (fun _ => ev_c) (fun z => by cases z)) fun H2 e2 => q H2 (e1.trans e2)
      | false =>
        rw [hm] at et q
        rw [if_pos rfl] at q
        exact s_ret (ev_if et (fun z => by cases z) (fun _ => ev_m1)) fun H2 e2 => q H2 (e1.trans e2)
theorem spv_refusal {a p : Addr} {l : Lake} {x b : Int} {ws : List Int} {H : Hp} (hL : LakeAt K H a l) (F : Fit l) (hW : SqL K H p (vZ ws)) (hwl : ws.length ≤ 1600) : SpV (spRefusal K) [.ref a, .int x, .int b, .ref p] H (.int (refusalOf l x b ws)) := fun H1 e Q q E => ⟨a, p, l, x, b, ws, rfl, hL.ex e, F, ex_l e hW, hwl, q⟩
def spAt (K : PySem.W.Frag) : Sp := fun vs H Q _ => ∃ (an kp : Addr) (s : Vbirak.State) (l : Lake) (t x b : Int), vs = [.ref kp, .int t, .int x, .int b] ∧ KpAt K an H kp s ∧ s.lake = some l ∧ Ans K an kp H Q (Vbirak.doing s l (.at_ t x b))
theorem ok_look_at (T : Tx K mg) (F_is_season : Fn P w K mg base 1 (He.ga K "is_season") ["lake", "season"] (spIsSeason K)) (F_is_start : Fn P w K mg base 2 (He.ga K "is_start") ["lake", "level", "before"] (spIsStart K)) (F_sure_of : Fn P w K mg base 6 (He.ga K "sure_of") ["keeper"] (spSureOf K)) (F_best_letting : Fn P w K mg base 4 (He.ga K "best_letting") ["lake", "sure", "season", "level", "before"] (spBest K)) (F_best_answer : Fn P w K mg base 3 (He.ga K "best_answer") ["lake", "sure", "season", "left", "before"] (spAnswer K)) : Fn P w K mg base 7 (He.ga K "look_at") ["keeper", "season", "level", "before"] (spAt K) := by
  have sc : FnScope ["keeper", "season", "level", "before", "lake", "sure", "letting", "answer"] ["keeper", "season", "level", "before"] (defScope s_look_at) := ⟨rfl, rfl, rfl, by decide +kernel, rfl, by decide +kernel, by decide +kernel⟩
  refine fn_mk (k := 6) T.fun_look_at sc (fun _ _ _ _ _ _ us hl => match us, hl with | [_, _, _, _], _ => rfl) (fun vs H Q E h => ?len) (fun cdv A outer s H vs Q E hr h => ⟨_, (pss_cons (ps_set (i := 4) sc.nd rfl (Or.inl rfl) (pe_fld (pv 0) rfl))
      (pss_cons (ps_if (pt_not (PW.pt (pw_and (pt_val (pe_f F_is_season hr (by decide) T.glo_is_season (passes_call (takes_of rfl rfl rfl rfl) (fun _ _ _ _ h => h)) (pa_c (pv 4) (pa_c (pv 1) pa_nil)))) (pw_and1 (pt_val (pe_f F_is_start hr (by decide) T.glo_is_start (passes_call (takes_of rfl rfl rfl rfl) (fun _ _ _ _ h => h)) (pa_c (pv 4) (pa_c (pv 2) (pa_c (pv 3) pa_nil))))))))) (pss_one (ps_ret (pe_lst (pa_c (pe_un un_neg pe_int) pa_nil)))) pss_nil)
      (pss_cons (ps_set (i := 5) sc.nd rfl (Or.inl rfl) (pe_f F_sure_of hr (by decide) T.glo_sure_of (passes_call (takes_of rfl rfl rfl rfl) (fun _ _ _ _ h => h)) (pa_c (pv 0) pa_nil)))
      (pss_cons (ps_set (i := 6) sc.nd rfl (Or.inl rfl) (pe_f F_best_letting hr (by decide) T.glo_best_letting (passes_call (takes_of rfl rfl rfl rfl) (fun _ _ _ _ h => h)) (pa_c (pv 4) (pa_c (pv 5) (pa_c (pv 1) (pa_c (pv 2) (pa_c (pv 3) pa_nil)))))))
      (pss_cons (ps_set (i := 7) sc.nd rfl (Or.inl rfl) (pe_f F_best_answer hr (by decide) T.glo_best_answer (passes_call (takes_of rfl rfl rfl rfl) (fun _ _ _ _ h => h)) (pa_c (pv 4) (pa_c (pv 5) (pa_c (pv 1) (pa_c (pe_op op_sub (pv 2) (pv 6)) (pa_c (pv 3) pa_nil)))))))
      (pss_one (ps_ret (pe_lst (pa_c pe_int (pa_c (pe_ix ix_list (pe_ix ix_list (pe_ix ix_list (pv 5) (pv 1) (fun _ _ => rfl)) (pv 3) (fun _ _ => rfl)) (pv 2) (fun _ _ => rfl)) (pa_c (pv 6) (pa_c (pv 7) pa_nil)))))))))))), ?rd⟩)
  case len =>
    obtain ⟨an, kp, s, l, t, x, b, rfl, _⟩ := h
    rfl
  case rd =>
    obtain ⟨an, kp, s, l, t, x, b, rfl, hk, hl, a⟩ := h
    obtain ⟨la, el, hL, F⟩ := ev_klake (K := K) (ta := tVar 0) (σ := start ["keeper", "season", "level", "before", "lake", "sure", "letting", "answer"] [.ref kp, .int t, .int x, .int b]) T (ev_var rfl) hk hl
    refine q_asg el fun H1 e1 => ?_
    have hL1 : LakeAt K H1 la l := hL.ex (g2_sub.trans e1)
    unfold Vbirak.doing at a
    dsimp only at a
    refine q_when (b := !(Vbirak.inside t 0 ((l.seasons : Int) - 1) && (Vbirak.isLevel l x && Vbirak.isKind l b))) (et_not (et_and (et_B (ev_call (ea_cons (ev_var rfl) (ea_cons (ev_var rfl) ea_nil)) (spv_isseas hL1))) fun _ => et_B (ev_call (ea_cons (ev_var rfl) (ea_cons (ev_var rfl) (ea_cons (ev_var rfl) ea_nil))) (spv_start hL1)))) (fun hb H2 e2 => ?_) (fun hb H2 e2 => ?_)
    · rw [if_pos (nf hb)] at a
      exact ans_m ((hk.ex e1).ex e2) (a.go (But.of (e1.trans e2)))
    · have hy := nt hb
      rw [if_neg (by rw [hy]; simp)] at a
      rw [Bool.and_eq_true, Bool.and_eq_true] at hy
      obtain ⟨t, rfl, ht⟩ := season_nat hy.1
      obtain ⟨x, rfl, hx⟩ := level_nat hy.2.1
      obtain ⟨b, rfl, hbl⟩ := kind_nat F hy.2.2
      rw [Int.toNat_natCast, Int.toNat_natCast, Int.toNat_natCast, rows_getD l (by omega)] at a
      have b2 : But kp H H2 := But.of (e1.trans e2)
      refine q_sure (ev_var rfl) ((hk.ex e1).ex e2) hl fun p H3 b3 hk3 hR => ?_
      have b3' := b2.trans b3
      have hL3 : LakeAt K H3 la l := (hL.ex (g2_but b3')).ex g2_sub
      have hR3 : RowsAt H3 p (Vbirak.rows l) := hR.ex g2_sub
      have hr1 := rows_at l (t := t + 1) (by omega)
      refine q_asg (ev_call (ea_cons (ev_var rfl) (ea_cons (ev_var rfl) (ea_cons (ev_var rfl) (ea_cons (ev_var rfl) (ea_cons (ev_var rfl) ea_nil))))) (spv_best hL3 F hR3 hr1 (rowAt_fit l _) hx hbl)) fun H4 e4 => ?_
      have hle : (Vbirak.best l t (rowAt l (t + 1)) x b).1 ≤ x := Nat.le_trans (best_spec l t (rowAt l (t + 1)) x b).2.1 (Nat.min_le_left ..)
      refine q_asg (ev_call (ea_cons (ev_var rfl) (ea_cons (ev_var rfl) (ea_cons (ev_var rfl) (ea_cons (ev_is (ev_op (ev_var rfl) (ev_var rfl) rv_I0) (congrArg V.int (show ((x : Int) - ((Vbirak.best l t (rowAt l (t + 1)) x b).1 : Int)) = ((x - (Vbirak.best l t (rowAt l (t + 1)) x b).1 : Nat) : Int) from by omega))) (ea_cons (ev_var rfl) ea_nil))))) (spv_ans (hL3.ex e4) F (hR3.ex e4) hr1 (rowAt_fit l _) hbl)) fun H5 e5 => ?_
      obtain ⟨ns, hn1, hn2⟩ := before_at l t (rowAt l (t + 1)) hbl hx
      rw [← rowAt_step l ht] at hn1
      obtain ⟨c1, hc1, ec1⟩ := ev_rows (K := K) (ta := tVar 5) (tb := tVar 1) (σ := [some (.ref kp), some (.int (t : Int)), some (.int (x : Int)), some (.int (b : Int)), some (.ref la), some (.ref p), some (.int (((Vbirak.best l t (rowAt l (t + 1)) x b).1 : Nat) : Int)), some (.int ((ansK l (rowAt l (t + 1)) (x - (Vbirak.best l t (rowAt l (t + 1)) x b).1) b : Nat) : Int))]) (ev_var rfl) (hR3.ex (e4.trans e5)) (ev_var rfl) (rows_at l (by omega))
      obtain ⟨c2, hc2, ec2⟩ := ev_row (K := K) (tb := tVar 3) ec1 hc1 (ev_var rfl) hn1
      refine s_ans (zs := 0 :: Vbirak.nums [(Vbirak.best l t (rowAt l (t + 1)) x b).2, (Vbirak.best l t (rowAt l (t + 1)) x b).1, ansK l (rowAt l (t + 1)) (x - (Vbirak.best l t (rowAt l (t + 1)) x b).1) b]) (el_lst (ea_cons ev_c (ea_cons (ev_int ec2 hc2 (ev_var rfl) hn2) (ea_cons (ev_var rfl) (ea_cons (ev_var rfl) ea_nil)))) (by show 4 ≤ 100000; decide)) ((hk3.ex e4).ex e5) (a.go (b3'.trans (But.of (e4.trans e5))))
def spTable (K : PySem.W.Frag) : Sp := fun vs H Q _ => ∃ (an kp : Addr) (s : Vbirak.State) (l : Lake) (t b : Int), vs = [.ref kp, .int t, .int b] ∧ KpAt K an H kp s ∧ s.lake = some l ∧ Ans K an kp H Q (Vbirak.doing s l (.table t b))
theorem ok_look_at_table (T : Tx K mg) (F_is_kind : Fn P w K mg base 1 (He.ga K "is_kind") ["lake", "kind"] (spIsKind K)) (F_sure_of : Fn P w K mg base 6 (He.ga K "sure_of") ["keeper"] (spSureOf K)) : Fn P w K mg base 7 (He.ga K "look_at_table") ["keeper", "season", "before"] (spTable K) := by
  have sc : FnScope ["keeper", "season", "before", "lake"] ["keeper", "season", "before"] (defScope s_look_at_table) := ⟨rfl, rfl, rfl, by decide +kernel, rfl, by decide +kernel, by decide +kernel⟩
  refine fn_mk (k := 6) T.fun_look_at_table sc (fun _ _ _ _ _ _ us hl => match us, hl with | [_, _, _], _ => rfl) (fun vs H Q E h => ?len) (fun cdv A outer s H vs Q E hr h => ⟨_, (pss_cons (ps_set (i := 3) sc.nd rfl (Or.inl rfl) (pe_fld (pv 0) rfl))
      (pss_cons (ps_if (pt_not (PW.pt (pw_and (pt_chain op_le op_le pe_int (pv 1) (pe_fld (pv 3) rfl)) (pw_and1 (pt_val (pe_f F_is_kind hr (by decide) T.glo_is_kind (passes_call (takes_of rfl rfl rfl rfl) (fun _ _ _ _ h => h)) (pa_c (pv 3) (pa_c (pv 2) pa_nil)))))))) (pss_one (ps_ret (pe_lst (pa_c (pe_un un_neg pe_int) pa_nil)))) pss_nil)
      (pss_one (ps_ret (pe_op op_cat (pe_lst (pa_c pe_int pa_nil)) (pe_ix ix_list (pe_ix ix_list (pe_f F_sure_of hr (by decide) T.glo_sure_of (passes_call (takes_of rfl rfl rfl rfl) (fun _ _ _ _ h => h)) (pa_c (pv 0) pa_nil)) (pv 1) (fun _ _ => rfl)) (pv 2) (fun _ _ => rfl))))))), ?rd⟩)
  case len =>
    obtain ⟨an, kp, s, l, t, b, rfl, _⟩ := h
    rfl
  case rd =>
    obtain ⟨an, kp, s, l, t, b, rfl, hk, hl, a⟩ := h
    obtain ⟨la, el, hL, F⟩ := ev_klake (K := K) (ta := tVar 0) (σ := start ["keeper", "season", "before", "lake"] [.ref kp, .int t, .int b]) T (ev_var rfl) hk hl
    refine q_asg el fun H1 e1 => ?_
    have hL1 : LakeAt K H1 la l := hL.ex (g2_sub.trans e1)
    unfold Vbirak.doing at a
    dsimp only at a
    refine q_when (b := !(Vbirak.inside t 0 (l.seasons : Int) && Vbirak.isKind l b)) (et_not (et_and (et_test (ev_chain ev_c (ev_var rfl) (ev_seasons T (ev_var rfl) hL1) rv_le rv_le)) fun _ => et_B (ev_call (ea_cons (ev_var rfl) (ea_cons (ev_var rfl) ea_nil)) (spv_kind hL1)))) (fun hb H2 e2 => ?_) (fun hb H2 e2 => ?_)
    · rw [if_pos (nf hb)] at a
      exact ans_m ((hk.ex e1).ex e2) (a.go (But.of (e1.trans e2)))
    · have hy := nt hb
      rw [if_neg (by rw [hy]; simp)] at a
      rw [Bool.and_eq_true] at hy
      obtain ⟨t, rfl, ht⟩ := inside_nat (lo := 0) hy.1
      obtain ⟨b, rfl, hbl⟩ := kind_nat F hy.2
      rw [Int.toNat_natCast, Int.toNat_natCast, rows_getD l ht] at a
      have b2 : But kp H H2 := But.of (e1.trans e2)
      have R := rowAt_fit l t
      have hb' : b < (rowAt l t).length := by rw [R.len]; exact hbl
      have hlen := R.each b _ (List.getElem?_eq_getElem hb')
      have hg : (rowAt l t).getD b [] = (rowAt l t)[b] := by
        rw [List.getD_eq_getElem?_getD, List.getElem?_eq_getElem hb'] <;> rfl
      rw [hg] at a
      have hh := F.holds
      refine s_retOp ?_
      refine el_lst (vs := [.int 0]) (ea_cons ev_c ea_nil) (by show 1 ≤ 100000; decide) H2 (Ex.refl H2) _ fun z H3 hz e3 h3 => ?_
      refine ⟨_, rfl, an, kp, s, l, rfl, ((hk.ex e1).ex e2).ex e3, hl, fun p H4 b4 hk4 hR => ?_⟩
      obtain ⟨c1, hc1, ec1⟩ := ev_rows (K := K) (ta := tC (.ref p)) (tb := tVar 1) (σ := [some (.ref kp), some (.int (t : Int)), some (.int (b : Int)), some (.ref la)]) ev_c (hR.ex g2_sub) (ev_var rfl) (rows_at l ht)
      obtain ⟨c2, hc2, ec2⟩ := ev_row (K := K) (tb := tVar 2) ec1 hc1 (ev_var rfl) (List.getElem?_eq_getElem hb')
      have hzk : z ≠ kp := fun q => by
        obtain ⟨_, _, dx, lv, sv, tv, bv, h5, _⟩ := (hk.ex e1).ex e2
        rw [q, h5] at hz
        cases hz
      refine ec2 H4 (Ex.refl H4) _ fun H5 e5 => ⟨z, c2, _, _, rfl, rfl, e5 _ _ (b4.at h3 hzk), e5 _ _ hc2, ?_, fun y hy => ?_⟩
      · rw [vI_len, hlen]
        exact sz_of (by show 1 + _ ≤ 100000; omega)
      · refine a y _ ((b2.trans (But.of e3)).trans (b4.trans (But.of (e5.trans (Ex.new hy))))) ((hk4.ex e5).ex (Ex.new hy)) (fun z => (hk4.ex e5).1 (by rw [← z]; exact hy)) ?_
        rw [upd_same]
        show _ = some (HO.lst (vZ (0 :: Vbirak.nums (rowAt l t)[b])))
        rw [← vZ_nums] <;> rfl
end
end Sl
namespace Sl
open PySem PySem.Spec PyProof.Rows L2
open Evl
open Vbirak (Lake Weather)
open Sm
section
variable {K : PySem.W.Frag} {mg : Str → Option Value} {σ : L2.St} {H G : Hp} {te tb : TE} {ta : TA} {tz : TS} {D : Ends} {E : XK} {Q : VK} {c la : Addr} {l : Lake} {x b t hd : Nat} {st : List Nat}
theorem q_course {i : Nat} (h : EvA ta σ H [.ref la, .int (x : Int), .int (b : Int)]) (k : ∀ c H', CoAt K H H' c la x b 0 0 [] → tz D (σ.set i (some (.ref c))) H') : tSeq (tAsg (tMake (He.ga K "Course") (spCourse K) [] E ta) (gName i)) tz D σ H :=
  h H (Ex.refl H) _ fun H1 e1 c dx hc hdx hne => ⟨c, dx, la, x, b, rfl, upd_same, fun H' co => ⟨rfl, k c H' (co.less (e1.trans (ex_del_of hc (Ex.mut (Ex.mut (Ex.refl _) hdx) hc))))⟩⟩
theorem s_cometh {m : Str} {sp : Sp} {vs : List V} (he : Ev te σ H (.ref c)) (h : CoAt K G H c la x b t hd st) (ha : EvA ta σ H vs) (k : ∀ H1, Ex H H1 → sp (.ref c :: vs) H1 Q E)
    (h1 : (m == ("lake" : Str)) = false := by decide +kernel) (h2 : (m == ("level" : Str)) = false := by decide +kernel) (h3 : (m == ("before" : Str)) = false := by decide +kernel) (h4 : (m == ("season" : Str)) = false := by decide +kernel) (h5 : (m == ("had" : Str)) = false := by decide +kernel) (h6 : (m == ("steps" : Str)) = false := by decide +kernel) : tMeth (He.ga K "Course") m sp [] E te ta σ H Q := by
  obtain ⟨g, gc, dx, sl, gs, p1, p2⟩ := h
  refine he H (Ex.refl H) _ fun H1 e1 => ⟨c, dx, _, rfl, e1 _ _ p1, lk_co_meth _ _ _ _ _ _ h1 h2 h3 h4 h5 h6, ha H1 e1 _ fun H2 e2 => ?_⟩
  show sp (.ref c :: (vs ++ [])) H2 Q E
  rw [List.append_nil]
  exact k H2 (e1.trans e2)
theorem el_report (he : Ev te σ H (.ref c)) (h : CoAt K G H c la x b t hd st) (hL : LakeAt K G la l) (F : Fit l) (hst : st.length ≤ 1000) : EvL (tMeth (He.ga K "Course") "report" (spReport K) [] E te tNil) σ H (vI ((hd + if t = l.seasons then l.rest * x else 0) :: st)) := fun H1 e Q q =>
  s_cometh (he.mono e) (h.ex e) ea_nil fun H2 e2 => ⟨G, c, la, l, x, b, t, hd, st, rfl, (h.ex e).ex e2, hL, F, hst, fun p H3 hp e3 h3 => q p H3 (fresh_back e2 hp) (e2.trans e3) h3⟩
theorem co_lev (T : Tx K mg) (he : Ev te σ H (.ref c)) (h : CoAt K G H c la x b t hd st) : Ev (tFld K te "level") σ H (.int (x : Int)) := by
  obtain ⟨g, gc, dx, sl, gs, p1, p2⟩ := h
  exact ev_fld he p1 T.cls_Course T.noat_Course_level (lk_co_level ..)
theorem co_bef (T : Tx K mg) (he : Ev te σ H (.ref c)) (h : CoAt K G H c la x b t hd st) : Ev (tFld K te "before") σ H (.int (b : Int)) := by
  obtain ⟨g, gc, dx, sl, gs, p1, p2⟩ := h
  exact ev_fld he p1 T.cls_Course T.noat_Course_before (lk_co_before ..)
end
theorem worst_step (l : Lake) {n t x w : Nat} (ht : t < l.seasons) : Vbirak.worstFrom l (Vbirak.rows l) (n + 1) t x w = ⟨(Vbirak.best l t (rowAt l (t + 1)) x w).1, ansK l (rowAt l (t + 1)) (x - (Vbirak.best l t (rowAt l (t + 1)) x w).1) w, lb l (x - (Vbirak.best l t (rowAt l (t + 1)) x w).1) (ansK l (rowAt l (t + 1)) (x - (Vbirak.best l t (rowAt l (t + 1)) x w).1) w)⟩ :: Vbirak.worstFrom l (Vbirak.rows l) n (t + 1) (lb l (x - (Vbirak.best l t (rowAt l (t + 1)) x w).1) (ansK l (rowAt l (t + 1)) (x - (Vbirak.best l t (rowAt l (t + 1)) x w).1) w)) (ansK l (rowAt l (t + 1)) (x - (Vbirak.best l t (rowAt l (t + 1)) x w).1) w) := by
  have e := rows_getD l (t := t + 1) (by omega)
  rw [← e]
  rfl
theorem play_step (l : Lake) {t x w k : Nat} {r : List Nat} (ht : t < l.seasons) : Vbirak.playFrom l (Vbirak.rows l) t x w (k :: r) = ⟨(Vbirak.best l t (rowAt l (t + 1)) x w).1, k, lb l (x - (Vbirak.best l t (rowAt l (t + 1)) x w).1) k⟩ :: Vbirak.playFrom l (Vbirak.rows l) (t + 1) (lb l (x - (Vbirak.best l t (rowAt l (t + 1)) x w).1) k) k r := by
  have e := rows_getD l (t := t + 1) (by omega)
  rw [← e]
  rfl
theorem vZ_answered (l : Lake) (x : Nat) (g : List Vbirak.Went) : vZ (Vbirak.answered l x g) = [.int 0] ++ vI ((hadOf l g + if g.length = l.seasons then l.rest * levOf x g else 0) :: stepsOf g) := by
  rw [answered_eq, ← vZ_nums] <;> rfl
section
variable {P : Program} {w : World} {K : PySem.W.Frag} {mg : Str → Option Value} {base : Heap}
/-- [0] + course.report() at the end -/
theorem s_reported {σ : L2.St} {H G : Hp} {te : TE} {D : Ends} {E : XK} {an kp c la : Addr} {s : Vbirak.State} {l : Lake} {x x' b t : Nat} {g : List Vbirak.Went} (he : Ev te σ H (.ref c)) (h : CoAt K G H c la x' b t (hadOf l g) (stepsOf g)) (hL : LakeAt K G la l) (F : Fit l) (hk : KpAt K an G kp s) (ht : g.length = t) (hx : x' = levOf x g) (h2 : t ≤ 24) (a : Ans K an kp G D.rt (s, Vbirak.answered l x g)) :
    tRet (tOp rCat (tLst (tCons (tC (.int 0)) tNil)) (tMeth (He.ga K "Course") "report" (spReport K) [] E te tNil)) D σ H := by
  have hs := steps_len g
  refine s_retL (xs := vZ (Vbirak.answered l x g)) ?_ fun p H1 hp e1 h1 => a p H1 (But.of (h.1.trans e1)) (hk.ex (h.1.trans e1)) (fun z => hk.1 (fresh_back h.1 (by rw [← z]; exact hp))) h1
  rw [vZ_answered, ht, ← hx]
  refine el_catL (el_lst (ea_cons ev_c ea_nil) (by show 1 ≤ 100000; decide)) (el_report he h hL F (by omega)) ?_
  rw [vI_len]
  simp only [List.length_cons, List.length_nil]
  omega
def spWorst (K : PySem.W.Frag) : Sp := fun vs H Q _ => ∃ (an kp : Addr) (s : Vbirak.State) (l : Lake) (x b : Int), vs = [.ref kp, .int x, .int b] ∧ KpAt K an H kp s ∧ s.lake = some l ∧ Ans K an kp H Q (Vbirak.doing s l (.worst x b))
theorem ok_pass_worst (T : Tx K mg) (F_is_start : Fn P w K mg base 2 (He.ga K "is_start") ["lake", "level", "before"] (spIsStart K)) (F_sure_of : Fn P w K mg base 6 (He.ga K "sure_of") ["keeper"] (spSureOf K)) (F_Course_init : Fn P w K mg base 1 (He.ma K (He.ga K "Course") "__init__") ["self", "lake", "level", "before"] (spCourse K)) (F_best_letting : Fn P w K mg base 4 (He.ga K "best_letting") ["lake", "sure", "season", "level", "before"] (spBest K)) (F_best_answer : Fn P w K mg base 3 (He.ga K "best_answer") ["lake", "sure", "season", "left", "before"] (spAnswer K)) (F_Course_pass_season : Fn P w K mg base 2 (He.ma K (He.ga K "Course") "pass_season") ["self", "letting", "kind"] (spPass K)) (F_Course_report : Fn P w K mg base 1 (He.ma K (He.ga K "Course") "report") ["self"] (spReport K)) : Fn P w K mg base 7 (He.ga K "pass_worst") ["keeper", "level", "before"] (spWorst K) := by
  have sc : FnScope ["keeper", "level", "before", "lake", "sure", "course", "season", "letting", "kind"] ["keeper", "level", "before"] (defScope s_pass_worst) := ⟨rfl, rfl, rfl, by decide +kernel, rfl, by decide +kernel, by decide +kernel⟩
  refine fn_mk (k := 6) T.fun_pass_worst sc (fun _ _ _ _ _ _ us hl => match us, hl with | [_, _, _], _ => rfl) (fun vs H Q E h => ?len) (fun cdv A outer s H vs Q E hr h => ⟨_, (pss_cons (ps_set (i := 3) sc.nd rfl (Or.inl rfl) (pe_fld (pv 0) rfl))
      (pss_cons (ps_if (pt_not (pt_val (pe_f F_is_start hr (by decide) T.glo_is_start (passes_call (takes_of rfl rfl rfl rfl) (fun _ _ _ _ h => h)) (pa_c (pv 3) (pa_c (pv 1) (pa_c (pv 2) pa_nil)))))) (pss_one (ps_ret (pe_lst (pa_c (pe_un un_neg pe_int) pa_nil)))) pss_nil)
      (pss_cons (ps_set (i := 4) sc.nd rfl (Or.inl rfl) (pe_f F_sure_of hr (by decide) T.glo_sure_of (passes_call (takes_of rfl rfl rfl rfl) (fun _ _ _ _ h => h)) (pa_c (pv 0) pa_nil)))
      (pss_cons (ps_set (i := 5) sc.nd rfl (Or.inl rfl) (pe_k F_Course_init hr (by decide) T.mkr_Course T.glo_Course (passes_call (takes_of rfl rfl rfl rfl) (fun _ _ _ _ h => h)) (pa_c (pv 3) (pa_c (pv 1) (pa_c (pv 2) pa_nil)))))
      (pss_cons (ps_for (passes_of rfl) rfl (pi_range1 rfl T.free_range (pa_c (pe_fld (pv 3) rfl) pa_nil)) (pg_name (i := 6) sc.nd rfl (Or.inl rfl)) (pss_cons (ps_set (i := 7) sc.nd rfl (Or.inl rfl) (pe_f F_best_letting hr (by decide) T.glo_best_letting (passes_call (takes_of rfl rfl rfl rfl) (fun _ _ _ _ h => h)) (pa_c (pv 3) (pa_c (pv 4) (pa_c (pv 6) (pa_c (pe_fld (pv 5) rfl) (pa_c (pe_fld (pv 5) rfl) pa_nil)))))))
      (pss_cons (ps_set (i := 8) sc.nd rfl (Or.inl rfl) (pe_f F_best_answer hr (by decide) T.glo_best_answer (passes_call (takes_of rfl rfl rfl rfl) (fun _ _ _ _ h => h)) (pa_c (pv 3) (pa_c (pv 4) (pa_c (pv 6) (pa_c (pe_op op_sub (pe_fld (pv 5) rfl) (pv 7)) (pa_c (pe_fld (pv 5) rfl) pa_nil)))))))
      (pss_one (ps_expr (pe_m F_Course_pass_season hr (by decide) (pv 5) T.cls_Course T.meth_Course_pass_season (passes_call (takes_of rfl rfl rfl rfl) (fun _ _ _ _ h => h)) (pa_c (pv 7) (pa_c (pv 8) pa_nil))))))))
      (pss_one (ps_ret (pe_op op_cat (pe_lst (pa_c pe_int pa_nil)) (pe_m0 F_Course_report hr (by decide) (pv 5) T.cls_Course T.meth_Course_report (passes_call (takes_of rfl rfl rfl rfl) (fun _ _ _ _ h => h))))))))))), ?rd⟩)
  case len =>
    obtain ⟨an, kp, s, l, x, b, rfl, _⟩ := h
    rfl
  case rd =>
    obtain ⟨an, kp, s, l, x, b, rfl, hk, hl, a⟩ := h
    obtain ⟨la, el, hL, F⟩ := ev_klake (K := K) (ta := tVar 0) (σ := start ["keeper", "level", "before", "lake", "sure", "course", "season", "letting", "kind"] [.ref kp, .int x, .int b]) T (ev_var rfl) hk hl
    refine q_asg el fun H1 e1 => ?_
    have hL1 : LakeAt K H1 la l := hL.ex (g2_sub.trans e1)
    unfold Vbirak.doing at a
    dsimp only at a
    refine q_when (b := !(Vbirak.isLevel l x && Vbirak.isKind l b)) (et_not (et_B (ev_call (ea_cons (ev_var rfl) (ea_cons (ev_var rfl) (ea_cons (ev_var rfl) ea_nil))) (spv_start hL1)))) (fun hb H2 e2 => ?_) (fun hb H2 e2 => ?_)
    · rw [if_pos (nf hb)] at a
      exact ans_m ((hk.ex e1).ex e2) (a.go (But.of (e1.trans e2)))
    · have hy := nt hb
      rw [if_neg (by rw [hy]; simp)] at a
      rw [Bool.and_eq_true] at hy
      obtain ⟨x, rfl, hx⟩ := level_nat hy.1
      obtain ⟨b, rfl, hbl⟩ := kind_nat F hy.2
      rw [Int.toNat_natCast, Int.toNat_natCast] at a
      have b2 : But kp H H2 := But.of (e1.trans e2)
      refine q_sure (ev_var rfl) ((hk.ex e1).ex e2) hl fun p G b3 hkG hR => ?_
      have b3' := b2.trans b3
      have aG := a.go b3'
      have hLG : LakeAt K G la l := (hL.ex (g2_but b3')).ex g2_sub
      have hRG : RowsAt G p (Vbirak.rows l) := hR.ex g2_sub
      have hs2 := F.s2
      refine q_course (ea_cons (ev_var rfl) (ea_cons (ev_var rfl) (ea_cons (ev_var rfl) ea_nil))) fun c H4 co => ?_
      refine q_forR1 (n := (l.seasons : Int)) (ea_cons (ev_seasons T (ev_var rfl) (hLG.ex co.1)) ea_nil) ⟨by omega, by omega⟩ (fun i σ' H' => ∃ (g : List Vbirak.Went) (x' b' : Nat) (v6 v7 v8 : Option V), CoAt K G H' c la x' b' i (hadOf l g) (stepsOf g) ∧ g.length = i ∧ x' = levOf x g ∧ x' ≤ l.holds ∧ b' < l.weathers.length ∧ Vbirak.worstFrom l (Vbirak.rows l) l.seasons 0 x b = g ++ Vbirak.worstFrom l (Vbirak.rows l) (l.seasons - i) i x' b' ∧ σ' = [some (.ref kp), some (.int (x : Int)), some (.int (b : Int)), some (.ref la), some (.ref p), some (.ref c), v6, v7, v8])
        (fun H5 e5 => ⟨[], x, b, none, none, none, co.ex e5, rfl, rfl, hx, hbl, rfl, rfl⟩) ?_ ?_
      · rintro i σ' H' hi ⟨g, x', b', v6, v7, v8, co', hg, hx', hxl, hbl', hw, rfl⟩
        have hi' : i < l.seasons := by omega
        have hr1 := rows_at l (t := i + 1) (by omega)
        have bs := (best_spec l i (rowAt l (i + 1)) x' b').2.1
        have hle : (Vbirak.best l i (rowAt l (i + 1)) x' b').1 ≤ x' := Nat.le_trans bs (Nat.min_le_left ..)
        have hge : (Vbirak.best l i (rowAt l (i + 1)) x' b').1 ≤ l.gate := Nat.le_trans bs (Nat.min_le_right ..)
        refine q_asg (ev_call (ea_cons (ev_var rfl) (ea_cons (ev_var rfl) (ea_cons (ev_var rfl) (ea_cons (co_lev T (ev_var rfl) co') (ea_cons (co_bef T (ev_var rfl) co') ea_nil))))) (spv_best (hLG.ex co'.1) F (hRG.ex co'.1) hr1 (rowAt_fit l _) hxl hbl')) fun H5 e5 => ?_
        have co5 := co'.ex e5
        rw [show l.seasons - i = (l.seasons - (i + 1)) + 1 from by omega, worst_step l hi'] at hw
        generalize (Vbirak.best l i (rowAt l (i + 1)) x' b').1 = r at hle hge hw ⊢
        refine q_asg (ev_call (ea_cons (ev_var rfl) (ea_cons (ev_var rfl) (ea_cons (ev_var rfl) (ea_cons (ev_is (ev_op (co_lev T (ev_var rfl) co5) (ev_var rfl) rv_I0) (congrArg V.int (show ((x' : Int) - (r : Int)) = ((x' - r : Nat) : Int) from by omega))) (ea_cons (co_bef T (ev_var rfl) co5) ea_nil))))) (spv_ans (hLG.ex co5.1) F (hRG.ex co5.1) hr1 (rowAt_fit l _) hbl')) fun H6 e6 => ?_
        have co6 := co5.ex e6
        have hkl := ansK_lt F (row := rowAt l (i + 1)) (x := x' - r) hbl'
        generalize ansK l (rowAt l (i + 1)) (x' - r) b' = k at hkl hw ⊢
        obtain ⟨ns, hy1, hy2⟩ := yield_at F i hge
        have hsl := steps_len g
        refine s_cometh (ev_var rfl) co6 (ea_cons (ev_var rfl) (ea_cons (ev_var rfl) ea_nil)) fun H7 e7 => ⟨G, c, la, l, x', b', i, hadOf l g, stepsOf g, ns, r, k, Vbirak.yieldAt l i r, rfl, co6.ex e7, hLG, hle, hy1, hy2, hkl, by omega, fun H8 co8 => ?_⟩
        refine ⟨g ++ [⟨r, k, lb l (x' - r) k⟩], lb l (x' - r) k, k, _, _, _, ?_, by rw [List.length_append, hg]; rfl, (lev_snoc x g ⟨r, k, lb l (x' - r) k⟩).symm, lb_le .., hkl, ?_, rfl⟩
        · rw [had_snoc, steps_snoc, hg]
          exact co8
        · rw [hw, List.append_assoc]
          rfl
      · rintro σ' H' ⟨g, x', b', v6, v7, v8, co', hg, hx', hxl, hbl', hw, rfl⟩
        rw [Int.toNat_natCast] at co' hg hw
        rw [Nat.sub_self] at hw
        have hw2 : Vbirak.worstFrom l (Vbirak.rows l) l.seasons 0 x b = g := by
          rw [hw]
          exact List.append_nil g
        rw [hw2] at aG
        exact s_reported (ev_var rfl) co' hLG F hkG hg hx' (by omega) aG
theorem on_ref {s : Vbirak.State} {l : Lake} {x b : Int} {ws : List Int} {f : Nat → Nat → List Nat → List Int} (h : refusalOf l x b ws ≠ 0) : Vbirak.onWeather s l x b ws f = (s, [refusalOf l x b ws]) := by
  unfold refusalOf at h ⊢
  unfold Vbirak.onWeather
  by_cases h1 : (Vbirak.isLevel l x && (Vbirak.isKind l b && Vbirak.isYears l ws)) = false
  · rw [if_pos h1, if_pos h1]
  · rw [if_neg h1] at h
    rw [if_neg h1, if_neg h1]
    by_cases h2 : Vbirak.mayCome l b.toNat (Vbirak.nats ws) = false
    · rw [if_pos h2, if_pos h2]
    · rw [if_neg h2] at h
      exact absurd rfl h
theorem on_ok {s : Vbirak.State} {l : Lake} {x b : Int} {ws : List Int} {f : Nat → Nat → List Nat → List Int} (h : refusalOf l x b ws = 0) : Vbirak.onWeather s l x b ws f = (s, f x.toNat b.toNat (Vbirak.nats ws)) ∧ (Vbirak.isLevel l x && (Vbirak.isKind l b && Vbirak.isYears l ws)) = true := by
  unfold refusalOf at h
  unfold Vbirak.onWeather
  by_cases h1 : (Vbirak.isLevel l x && (Vbirak.isKind l b && Vbirak.isYears l ws)) = false
  · rw [if_pos h1] at h
    exact absurd h (by decide)
  · rw [if_neg h1] at h
    rw [if_neg h1]
    by_cases h2 : Vbirak.mayCome l b.toNat (Vbirak.nats ws) = false
    · rw [if_pos h2] at h
      exact absurd h (by decide)
    · rw [if_neg h2]
      exact ⟨rfl, by simpa using h1⟩
/-- refusal = weather_refusal(..); if refusal != 0: return [refusal] -/
theorem q_refused {σ : L2.St} {H : Hp} {ta : TA} {tz : TS} {D : Ends} {E : XK} {an kp la wp : Addr} {s : Vbirak.State} {l : Lake} {x b : Int} {ws : List Int} {f : Nat → Nat → List Nat → List Int} {i : Nat} (hi : i < σ.length) (ha : EvA ta σ H [.ref la, .int x, .int b, .ref wp]) (hL : LakeAt K H la l) (F : Fit l) (hW : SqL K H wp (vZ ws)) (hwl : ws.length ≤ 1600) (hk : KpAt K an H kp s) (a : Ans K an kp H D.rt (Vbirak.onWeather s l x b ws f))
    (k : ∀ (x' b' : Nat) (ks : List Nat) (H1 : Hp), x = (x' : Int) → b = (b' : Int) → x' ≤ l.holds → b' < l.weathers.length → vZ ws = vI ks → (∀ k ∈ ks, k < l.weathers.length) → ks.length ≤ l.seasons → ks.length = ws.length → Ex H H1 → Ans K an kp H1 D.rt (s, f x' b' ks) → tz D (σ.set i (some (.int 0))) H1) :
    tSeq (tAsg (tCall (spRefusal K) [] E ta) (gName i)) (tSeq (tIfS (tTest (tOp rNe (tVar i) (tC (.int 0)))) (tRet (tLst (tCons (tVar i) tNil))) tNext) tz) D σ H := by
  refine q_asg (ev_call ha (spv_refusal hL F hW hwl)) fun H1 e1 => ?_
  have hv : ∀ z : V, (σ.set i (some z))[i]? = some (some z) := fun z => by rw [List.getElem?_set_self hi]
  refine q_when (b := !decide (V.int (refusalOf l x b ws) = V.int 0)) (et_test (ev_op (ev_var (hv _)) ev_c (rv_ne rfl))) (fun hb H2 e2 => ?_) (fun hb H2 e2 => ?_)
  · have hn : refusalOf l x b ws ≠ 0 := fun z => by
      rw [z] at hb
      cases hb
    rw [on_ref hn] at a
    exact s_ans (zs := [refusalOf l x b ws]) (el_lst (ea_cons (ev_var (hv _)) ea_nil) (by show 1 ≤ 100000; decide)) ((hk.ex e1).ex e2) (a.go (But.of (e1.trans e2)))
  · have hz : refusalOf l x b ws = 0 := by
      have := of_decide_eq_true (nt hb)
      injection this
    obtain ⟨z1, z2⟩ := on_ok (s := s) (f := f) hz
    rw [z1] at a
    rw [Bool.and_eq_true, Bool.and_eq_true] at z2
    obtain ⟨x, rfl, hx⟩ := level_nat z2.1
    obtain ⟨b, rfl, hbl⟩ := kind_nat F z2.2.1
    obtain ⟨ev, hks, hkl⟩ := years_nats F z2.2.2
    rw [hz]
    rw [Int.toNat_natCast, Int.toNat_natCast] at a
    exact k x b (Vbirak.nats ws) H2 rfl rfl hx hbl ev hks hkl (by unfold Vbirak.nats; rw [List.length_map]) (e1.trans e2) (a.go (But.of (e1.trans e2)))
def spPlay (K : PySem.W.Frag) : Sp := fun vs H Q _ => ∃ (an kp wp : Addr) (s : Vbirak.State) (l : Lake) (x b : Int) (ws : List Int), vs = [.ref kp, .int x, .int b, .ref wp] ∧ KpAt K an H kp s ∧ s.lake = some l ∧ H wp = some (.lst (vZ ws)) ∧ wp ≠ kp ∧ ws.length ≤ 1600 ∧ Ans K an kp H Q (Vbirak.doing s l (.play x b ws))
theorem ok_pass_by_best (T : Tx K mg) (F_weather_refusal : Fn P w K mg base 3 (He.ga K "weather_refusal") ["lake", "level", "before", "weather"] (spRefusal K)) (F_sure_of : Fn P w K mg base 6 (He.ga K "sure_of") ["keeper"] (spSureOf K)) (F_Course_init : Fn P w K mg base 1 (He.ma K (He.ga K "Course") "__init__") ["self", "lake", "level", "before"] (spCourse K)) (F_Course_pass_season : Fn P w K mg base 2 (He.ma K (He.ga K "Course") "pass_season") ["self", "letting", "kind"] (spPass K)) (F_best_letting : Fn P w K mg base 4 (He.ga K "best_letting") ["lake", "sure", "season", "level", "before"] (spBest K)) (F_Course_report : Fn P w K mg base 1 (He.ma K (He.ga K "Course") "report") ["self"] (spReport K)) : Fn P w K mg base 7 (He.ga K "pass_by_best") ["keeper", "level", "before", "weather"] (spPlay K) := by
  have sc : FnScope ["keeper", "level", "before", "weather", "lake", "refusal", "sure", "course", "season", "kind"] ["keeper", "level", "before", "weather"] (defScope s_pass_by_best) := ⟨rfl, rfl, rfl, by decide +kernel, rfl, by decide +kernel, by decide +kernel⟩
  refine fn_mk (k := 6) T.fun_pass_by_best sc (fun _ _ _ _ _ _ us hl => match us, hl with | [_, _, _, _], _ => rfl) (fun vs H Q E h => ?len) (fun cdv A outer s H vs Q E hr h => ⟨_, (pss_cons (ps_set (i := 4) sc.nd rfl (Or.inl rfl) (pe_fld (pv 0) rfl))
      (pss_cons (ps_set (i := 5) sc.nd rfl (Or.inl rfl) (pe_f F_weather_refusal hr (by decide) T.glo_weather_refusal (passes_call (takes_of rfl rfl rfl rfl) (fun _ _ _ _ h => h)) (pa_c (pv 4) (pa_c (pv 1) (pa_c (pv 2) (pa_c (pv 3) pa_nil))))))
      (pss_cons (ps_if (pt_cmpR op_ne (pv 5) pe_int (nomark _)) (pss_one (ps_ret (pe_lst (pa_c (pv 5) pa_nil)))) pss_nil)
      (pss_cons (ps_set (i := 6) sc.nd rfl (Or.inl rfl) (pe_f F_sure_of hr (by decide) T.glo_sure_of (passes_call (takes_of rfl rfl rfl rfl) (fun _ _ _ _ h => h)) (pa_c (pv 0) pa_nil)))
      (pss_cons (ps_set (i := 7) sc.nd rfl (Or.inl rfl) (pe_k F_Course_init hr (by decide) T.mkr_Course T.glo_Course (passes_call (takes_of rfl rfl rfl rfl) (fun _ _ _ _ h => h)) (pa_c (pv 4) (pa_c (pv 1) (pa_c (pv 2) pa_nil)))))
      (pss_cons (ps_for (passes_of rfl) rfl (pi_enum rfl T.free_enumerate (pa_c (pv 3) pa_nil)) (pg_tup rfl (pgs_cons (pg_name (i := 8) sc.nd rfl (Or.inl rfl)) (pgs_cons (pg_name (i := 9) sc.nd rfl (Or.inl rfl)) pgs_nil))) (pss_one (ps_expr (pe_m F_Course_pass_season hr (by decide) (pv 7) T.cls_Course T.meth_Course_pass_season (passes_call (takes_of rfl rfl rfl rfl) (fun _ _ _ _ h => h)) (pa_c (pe_f F_best_letting hr (by decide) T.glo_best_letting (passes_call (takes_of rfl rfl rfl rfl) (fun _ _ _ _ h => h)) (pa_c (pv 4) (pa_c (pv 6) (pa_c (pv 8) (pa_c (pe_fld (pv 7) rfl) (pa_c (pe_fld (pv 7) rfl) pa_nil)))))) (pa_c (pv 9) pa_nil))))))
      (pss_one (ps_ret (pe_op op_cat (pe_lst (pa_c pe_int pa_nil)) (pe_m0 F_Course_report hr (by decide) (pv 7) T.cls_Course T.meth_Course_report (passes_call (takes_of rfl rfl rfl rfl) (fun _ _ _ _ h => h)))))))))))), ?rd⟩)
  case len =>
    obtain ⟨an, kp, wp, s, l, x, b, ws, rfl, _⟩ := h
    rfl
  case rd =>
    obtain ⟨an, kp, wp, s, l, x, b, ws, rfl, hk, hl, hwp, hne, hwl, a⟩ := h
    obtain ⟨la, el, hL, F⟩ := ev_klake (K := K) (ta := tVar 0) (σ := start ["keeper", "level", "before", "weather", "lake", "refusal", "sure", "course", "season", "kind"] [.ref kp, .int x, .int b, .ref wp]) T (ev_var rfl) hk hl
    refine q_asg el fun H1 e1 => ?_
    have hL1 : LakeAt K H1 la l := hL.ex (g2_sub.trans e1)
    refine q_refused (i := 5) (by show 5 < 10; decide) (ea_cons (ev_var rfl) (ea_cons (ev_var rfl) (ea_cons (ev_var rfl) (ea_cons (ev_var rfl) ea_nil)))) hL1 F (sq_of (e1 _ _ hwp)) hwl (hk.ex e1) (a.go (But.of e1)) fun x b ks H3 ex eb hx hbl ev hks hkl hkw e2 a2 => ?_
    subst ex eb
    rw [ev] at hwp
    have b3 : But kp H H3 := But.of (e1.trans e2)
    refine q_sure (ev_var rfl) ((hk.ex e1).ex e2) hl fun p G b4 hkG hR => ?_
    have b4' := b3.trans b4
    have aG := a2.go b4
    have hLG : LakeAt K G la l := (hL.ex (g2_but b4')).ex g2_sub
    have hRG : RowsAt G p (Vbirak.rows l) := hR.ex g2_sub
    have hwG : G wp = some (.lst (vI ks)) := b4'.at hwp hne
    have hs2 := F.s2
    refine q_course (ea_cons (ev_var rfl) (ea_cons (ev_var rfl) (ea_cons (ev_var rfl) ea_nil))) fun c H4 co => ?_
    refine q_enum (ev_var rfl) (sq_of (co.1 _ _ hwG)) (fun i σ' H' => ∃ (g : List Vbirak.Went) (x' b' : Nat) (v7 v8 : Option V), CoAt K G H' c la x' b' i (hadOf l g) (stepsOf g) ∧ g.length = i ∧ x' = levOf x g ∧ x' ≤ l.holds ∧ b' < l.weathers.length ∧ Vbirak.playFrom l (Vbirak.rows l) 0 x b ks = g ++ Vbirak.playFrom l (Vbirak.rows l) i x' b' (ks.drop i) ∧ σ' = [some (.ref kp), some (.int (x : Int)), some (.int (b : Int)), some (.ref wp), some (.ref la), some (.int 0), some (.ref p), some (.ref c), v7, v8])
      (fun H5 e5 => ⟨[], x, b, none, none, co.ex e5, rfl, rfl, hx, hbl, rfl, rfl⟩) (fun i σ' H' _ z => by
        obtain ⟨g, x', b', v7, v8, co', _⟩ := z
        exact sq_of (co'.1 _ _ hwG)) ?_ ?_
    · rintro i v T' σ' H' hv ⟨g, x', b', v7, v8, co', hg, hx', hxl, hbl', hw, rfl⟩ hT
      obtain ⟨k, hk', rfl⟩ := vI_at hv
      have hkk : k < l.weathers.length := hks k (List.mem_of_getElem? hk')
      have hik := (List.getElem?_eq_some_iff.mp hk').1
      have hi' : i < l.seasons := by omega
      have co5 := co'.ex (Ex.new (o := .tup [.int (i : Int), .int (k : Int)]) hT)
      refine ⟨T', _, rfl, SqT.of upd_same, rfl, _, _, rfl, _, _, rfl, rfl, ?_⟩
      revert co5
      generalize upd H' T' (.tup [.int (i : Int), .int (k : Int)]) = H5
      intro co5
      dsimp only [gName]
      have hr1 := rows_at l (t := i + 1) (by omega)
      have bs := (best_spec l i (rowAt l (i + 1)) x' b').2.1
      have hle : (Vbirak.best l i (rowAt l (i + 1)) x' b').1 ≤ x' := Nat.le_trans bs (Nat.min_le_left ..)
      have hge : (Vbirak.best l i (rowAt l (i + 1)) x' b').1 ≤ l.gate := Nat.le_trans bs (Nat.min_le_right ..)
      rw [drop_at hk', play_step l hi'] at hw
      obtain ⟨ns, hy1, hy2⟩ := yield_at F i hge
      have hsl := steps_len g
      refine s_cometh (ev_var rfl) co5 (ea_cons (ev_call (ea_cons (ev_var rfl) (ea_cons (ev_var rfl) (ea_cons (ev_var rfl) (ea_cons (co_lev T (ev_var rfl) co5) (ea_cons (co_bef T (ev_var rfl) co5) ea_nil))))) (spv_best (hLG.ex co5.1) F (hRG.ex co5.1) hr1 (rowAt_fit l _) hxl hbl')) (ea_cons (ev_var rfl) ea_nil)) fun H7 e7 => ?_
      generalize (Vbirak.best l i (rowAt l (i + 1)) x' b').1 = r at hle hge hw hy2 ⊢
      refine ⟨G, c, la, l, x', b', i, hadOf l g, stepsOf g, ns, r, k, Vbirak.yieldAt l i r, rfl, co5.ex e7, hLG, hle, hy1, hy2, hkk, by omega, fun H8 co8 => ?_⟩
      refine ⟨g ++ [⟨r, k, lb l (x' - r) k⟩], lb l (x' - r) k, k, _, _, ?_, by rw [List.length_append, hg]; rfl, (lev_snoc x g ⟨r, k, lb l (x' - r) k⟩).symm, lb_le .., hkk, ?_, rfl⟩
      · rw [had_snoc, steps_snoc, hg]
        exact co8
      · rw [hw, List.append_assoc]
        rfl
    · rintro σ' H' ⟨g, x', b', v7, v8, co', hg, hx', hxl, hbl', hw, rfl⟩
      rw [vI_len] at co' hg hw
      rw [List.drop_length] at hw
      have hw2 : Vbirak.playFrom l (Vbirak.rows l) 0 x b ks = g := by
        rw [hw]
        exact List.append_nil g
      rw [hw2] at aG
      exact s_reported (ev_var rfl) co' hLG F hkG hg hx' (by omega) aG
def spAgainst (K : PySem.W.Frag) : Sp := fun vs H Q _ => ∃ (an kp wp : Addr) (s : Vbirak.State) (l : Lake) (x b : Int) (ws : List Int), vs = [.ref kp, .int x, .int b, .ref wp] ∧ KpAt K an H kp s ∧ s.lake = some l ∧ H wp = some (.lst (vZ ws)) ∧ wp ≠ kp ∧ ws.length ≤ 1600 ∧ Ans K an kp H Q (Vbirak.doing s l (.against x b ws))
theorem ok_pass_by_strategy (T : Tx K mg) (F_weather_refusal : Fn P w K mg base 3 (He.ga K "weather_refusal") ["lake", "level", "before", "weather"] (spRefusal K)) (F_Course_init : Fn P w K mg base 1 (He.ma K (He.ga K "Course") "__init__") ["self", "lake", "level", "before"] (spCourse K)) (F_Course_pass_season : Fn P w K mg base 2 (He.ma K (He.ga K "Course") "pass_season") ["self", "letting", "kind"] (spPass K)) (F_strategy_letting : Fn P w K mg base 4 (He.ga K "strategy_letting") ["lake", "strategy", "season", "level", "before"] (spStratLet K)) (F_Course_report : Fn P w K mg base 1 (He.ma K (He.ga K "Course") "report") ["self"] (spReport K)) : Fn P w K mg base 7 (He.ga K "pass_by_strategy") ["keeper", "level", "before", "weather"] (spAgainst K) := by
  have sc : FnScope ["keeper", "level", "before", "weather", "lake", "refusal", "course", "season", "kind"] ["keeper", "level", "before", "weather"] (defScope s_pass_by_strategy) := ⟨rfl, rfl, rfl, by decide +kernel, rfl, by decide +kernel, by decide +kernel⟩
  refine fn_mk (k := 6) T.fun_pass_by_strategy sc (fun _ _ _ _ _ _ us hl => match us, hl with | [_, _, _, _], _ => rfl) (fun vs H Q E h => ?len) (fun cdv A outer s H vs Q E hr h => ⟨_, (pss_cons (ps_set (i := 4) sc.nd rfl (Or.inl rfl) (pe_fld (pv 0) rfl))
      (pss_cons (ps_set (i := 5) sc.nd rfl (Or.inl rfl) (pe_f F_weather_refusal hr (by decide) T.glo_weather_refusal (passes_call (takes_of rfl rfl rfl rfl) (fun _ _ _ _ h => h)) (pa_c (pv 4) (pa_c (pv 1) (pa_c (pv 2) (pa_c (pv 3) pa_nil))))))
      (pss_cons (ps_if (pt_cmpR op_ne (pv 5) pe_int (nomark _)) (pss_one (ps_ret (pe_lst (pa_c (pv 5) pa_nil)))) pss_nil)
      (pss_cons (ps_set (i := 6) sc.nd rfl (Or.inl rfl) (pe_k F_Course_init hr (by decide) T.mkr_Course T.glo_Course (passes_call (takes_of rfl rfl rfl rfl) (fun _ _ _ _ h => h)) (pa_c (pv 4) (pa_c (pv 1) (pa_c (pv 2) pa_nil)))))
      (pss_cons (ps_for (passes_of rfl) rfl (pi_enum rfl T.free_enumerate (pa_c (pv 3) pa_nil)) (pg_tup rfl (pgs_cons (pg_name (i := 7) sc.nd rfl (Or.inl rfl)) (pgs_cons (pg_name (i := 8) sc.nd rfl (Or.inl rfl)) pgs_nil))) (pss_one (ps_expr (pe_m F_Course_pass_season hr (by decide) (pv 6) T.cls_Course T.meth_Course_pass_season (passes_call (takes_of rfl rfl rfl rfl) (fun _ _ _ _ h => h)) (pa_c (pe_f F_strategy_letting hr (by decide) T.glo_strategy_letting (passes_call (takes_of rfl rfl rfl rfl) (fun _ _ _ _ h => h)) (pa_c (pv 4) (pa_c (pe_fld (pv 0) rfl) (pa_c (pv 7) (pa_c (pe_fld (pv 6) rfl) (pa_c (pe_fld (pv 6) rfl) pa_nil)))))) (pa_c (pv 8) pa_nil))))))
      (pss_one (ps_ret (pe_op op_cat (pe_lst (pa_c pe_int pa_nil)) (pe_m0 F_Course_report hr (by decide) (pv 6) T.cls_Course T.meth_Course_report (passes_call (takes_of rfl rfl rfl rfl) (fun _ _ _ _ h => h))))))))))), ?rd⟩)
  case len =>
    obtain ⟨an, kp, wp, s, l, x, b, ws, rfl, _⟩ := h
    rfl
  case rd =>
    obtain ⟨an, kp, wp, s, l, x, b, ws, rfl, hk, hl, hwp, hne, hwl, a⟩ := h
    obtain ⟨la, el, hL, F⟩ := ev_klake (K := K) (ta := tVar 0) (σ := start ["keeper", "level", "before", "weather", "lake", "refusal", "course", "season", "kind"] [.ref kp, .int x, .int b, .ref wp]) T (ev_var rfl) hk hl
    refine q_asg el fun H1 e1 => ?_
    have hL1 : LakeAt K H1 la l := hL.ex (g2_sub.trans e1)
    refine q_refused (i := 5) (by show 5 < 9; decide) (ea_cons (ev_var rfl) (ea_cons (ev_var rfl) (ea_cons (ev_var rfl) (ea_cons (ev_var rfl) ea_nil)))) hL1 F (sq_of (e1 _ _ hwp)) hwl (hk.ex e1) (a.go (But.of e1)) fun x b ks G ex eb hx hbl ev hks hkl hkw e2 aG => ?_
    subst ex eb
    rw [ev] at hwp
    have hkG : KpAt K an G kp s := (hk.ex e1).ex e2
    have hLG : LakeAt K G la l := hL1.ex e2
    have hwG : G wp = some (.lst (vI ks)) := e2 _ _ (e1 _ _ hwp)
    have hs2 := F.s2
    refine q_course (ea_cons (ev_var rfl) (ea_cons (ev_var rfl) (ea_cons (ev_var rfl) ea_nil))) fun c H4 co => ?_
    refine q_enum (ev_var rfl) (sq_of (co.1 _ _ hwG)) (fun i σ' H' => ∃ (g : List Vbirak.Went) (x' b' : Nat) (v7 v8 : Option V), CoAt K G H' c la x' b' i (hadOf l g) (stepsOf g) ∧ g.length = i ∧ x' = levOf x g ∧ x' ≤ l.holds ∧ b' < l.weathers.length ∧ Vbirak.byFrom l s.strategy 0 x b ks = g ++ Vbirak.byFrom l s.strategy i x' b' (ks.drop i) ∧ σ' = [some (.ref kp), some (.int (x : Int)), some (.int (b : Int)), some (.ref wp), some (.ref la), some (.int 0), some (.ref c), v7, v8])
      (fun H5 e5 => ⟨[], x, b, none, none, co.ex e5, rfl, rfl, hx, hbl, rfl, rfl⟩) (fun i σ' H' _ z => by
        obtain ⟨g, x', b', v7, v8, co', _⟩ := z
        exact sq_of (co'.1 _ _ hwG)) ?_ ?_
    · rintro i v T' σ' H' hv ⟨g, x', b', v7, v8, co', hg, hx', hxl, hbl', hw, rfl⟩ hT
      obtain ⟨k, hk', rfl⟩ := vI_at hv
      have hkk : k < l.weathers.length := hks k (List.mem_of_getElem? hk')
      have hik := (List.getElem?_eq_some_iff.mp hk').1
      have hi' : i < l.seasons := by omega
      have co5 := co'.ex (Ex.new (o := .tup [.int (i : Int), .int (k : Int)]) hT)
      refine ⟨T', _, rfl, SqT.of upd_same, rfl, _, _, rfl, _, _, rfl, rfl, ?_⟩
      revert co5
      generalize upd H' T' (.tup [.int (i : Int), .int (k : Int)]) = H5
      intro co5
      dsimp only [gName]
      obtain ⟨hle, hge⟩ := letBy_le l s.strategy i x' b'
      obtain ⟨qs, eqs, hqs, _⟩ := ev_kstrat (K := K) (ta := tVar 0) (σ := [some (.ref kp), some (.int (x : Int)), some (.int (b : Int)), some (.ref wp), some (.ref la), some (.int 0), some (.ref c), some (.int (i : Int)), some (.int (k : Int))]) T (ev_var rfl) (hkG.ex co5.1) hl
      rw [drop_at hk', by_step] at hw
      obtain ⟨ns, hy1, hy2⟩ := yield_at F i hge
      have hsl := steps_len g
      refine s_cometh (ev_var rfl) co5 (ea_cons (ev_call (ea_cons (ev_var rfl) (ea_cons eqs (ea_cons (ev_var rfl) (ea_cons (co_lev T (ev_var rfl) co5) (ea_cons (co_bef T (ev_var rfl) co5) ea_nil))))) (spv_let (hLG.ex co5.1) (mono_strat K _ _ _ _ g2_sub hqs))) (ea_cons (ev_var rfl) ea_nil)) fun H7 e7 => ?_
      generalize Vbirak.letBy l s.strategy i x' b' = r at hle hge hw hy2 ⊢
      refine ⟨G, c, la, l, x', b', i, hadOf l g, stepsOf g, ns, r, k, Vbirak.yieldAt l i r, rfl, co5.ex e7, hLG, hle, hy1, hy2, hkk, by omega, fun H8 co8 => ?_⟩
      refine ⟨g ++ [⟨r, k, lb l (x' - r) k⟩], lb l (x' - r) k, k, _, _, ?_, by rw [List.length_append, hg]; rfl, (lev_snoc x g ⟨r, k, lb l (x' - r) k⟩).symm, lb_le .., hkk, ?_, rfl⟩
      · rw [had_snoc, steps_snoc, hg]
        exact co8
      · rw [hw, List.append_assoc]
        rfl
    · rintro σ' H' ⟨g, x', b', v7, v8, co', hg, hx', hxl, hbl', hw, rfl⟩
      rw [vI_len] at co' hg hw
      rw [List.drop_length] at hw
      have hw2 : Vbirak.byFrom l s.strategy 0 x b ks = g := by
        rw [hw]
        exact List.append_nil g
      rw [hw2] at aG
      exact s_reported (ev_var rfl) co' hLG F hkG hg hx' (by omega) aG
end
end Sl
namespace Sl
open PySem PySem.Spec PyProof.Rows L2
open Evl
open Vbirak (Lake Weather)
open Sm
/-! ### sure, known, more -/
section
variable {K : PySem.W.Frag} {σ : L2.St} {H : Hp} {ta tb : TE} {E : XK}
/-- best_if_known(..)[x] -/
theorem ev_known {ta : TA} {a wp : Addr} {l : Lake} {ks : List Nat} {x : Nat} (ha : EvA ta σ H [.ref a, .ref wp]) (hL : LakeAt K H a l) (F : Fit l) (hW : SqL K H wp (vI ks)) (hlen : ks.length = l.seasons) (hks : ∀ k ∈ ks, k < l.weathers.length) (hb : Ev tb σ H (.int (x : Int))) (hx : x ≤ l.holds) : Ev (tOp (rIxL K) (tCall (spKnown K) [] E ta) tb) σ H (.int (((Vbirak.knownRow l 0 ks).getD x 0 : Nat) : Int)) := fun H1 e Q q =>
  ha H1 e _ fun H2 e2 => ⟨a, wp, l, ks, rfl, hL.ex (e.trans e2), F, ex_l (e.trans e2) hW, hlen, hks, fun p H3 e3 hp => hb H3 ((e.trans e2).trans e3) _ fun H4 e4 => (rv_ixL (sq_of (hp.ex e4)) (atI_nat (vI_get (show (Vbirak.knownRow l 0 ks)[x]? = some ((Vbirak.knownRow l 0 ks).getD x 0) from by
    have : x < (Vbirak.knownRow l 0 ks).length := by
      rw [known_len]
      omega
    simp [List.getD_eq_getElem?_getD, List.getElem?_eq_getElem this])))) H4 (Ex.refl H4) Q fun H5 e5 => q H5 (((e2.trans e3).trans e4).trans e5)⟩
end
section
variable {P : Program} {w : World} {K : PySem.W.Frag} {mg : Str → Option Value} {base : Heap}
def spSure (K : PySem.W.Frag) : Sp := fun vs H Q _ => ∃ (an kp : Addr) (s : Vbirak.State) (l : Lake) (x b : Int), vs = [.ref kp, .int x, .int b] ∧ KpAt K an H kp s ∧ s.lake = some l ∧ Ans K an kp H Q (Vbirak.doing s l (.sure x b))
theorem ok_look_at_strategy (T : Tx K mg) (F_is_start : Fn P w K mg base 2 (He.ga K "is_start") ["lake", "level", "before"] (spIsStart K)) (F_sure_by_strategy_of : Fn P w K mg base 7 (He.ga K "sure_by_strategy_of") ["keeper"] (spByOf K)) (F_sure_of : Fn P w K mg base 6 (He.ga K "sure_of") ["keeper"] (spSureOf K)) : Fn P w K mg base 8 (He.ga K "look_at_strategy") ["keeper", "level", "before"] (spSure K) := by
  have sc : FnScope ["keeper", "level", "before"] ["keeper", "level", "before"] (defScope s_look_at_strategy) := ⟨rfl, rfl, rfl, by decide +kernel, rfl, by decide +kernel, by decide +kernel⟩
  refine fn_mk (k := 7) T.fun_look_at_strategy sc (fun _ _ _ _ _ _ us hl => match us, hl with | [_, _, _], _ => rfl) (fun vs H Q E h => ?len) (fun cdv A outer s H vs Q E hr h => ⟨_, (pss_cons (ps_if (pt_not (pt_val (pe_f F_is_start hr (by decide) T.glo_is_start (passes_call (takes_of rfl rfl rfl rfl) (fun _ _ _ _ h => h)) (pa_c (pe_fld (pv 0) rfl) (pa_c (pv 1) (pa_c (pv 2) pa_nil)))))) (pss_one (ps_ret (pe_lst (pa_c (pe_un un_neg pe_int) pa_nil)))) pss_nil)
      (pss_one (ps_ret (pe_lst (pa_c pe_int (pa_c (pe_ix ix_list (pe_ix ix_list (pe_f F_sure_by_strategy_of hr (by decide) T.glo_sure_by_strategy_of (passes_call (takes_of rfl rfl rfl rfl) (fun _ _ _ _ h => h)) (pa_c (pv 0) pa_nil)) (pv 2) (fun _ _ => rfl)) (pv 1) (fun _ _ => rfl)) (pa_c (pe_ix ix_list (pe_ix ix_list (pe_ix ix_list (pe_f F_sure_of hr (by decide) T.glo_sure_of (passes_call (takes_of rfl rfl rfl rfl) (fun _ _ _ _ h => h)) (pa_c (pv 0) pa_nil)) pe_int (fun _ _ => rfl)) (pv 2) (fun _ _ => rfl)) (pv 1) (fun _ _ => rfl)) pa_nil))))))), ?rd⟩)
  case len =>
    obtain ⟨an, kp, s, l, x, b, rfl, _⟩ := h
    rfl
  case rd =>
    obtain ⟨an, kp, s, l, x, b, rfl, hk, hl, a⟩ := h
    obtain ⟨la, el, hL, F⟩ := ev_klake (K := K) (ta := tVar 0) (σ := start ["keeper", "level", "before"] [.ref kp, .int x, .int b]) T (ev_var rfl) hk hl
    have hL1 : LakeAt K H la l := hL.ex g2_sub
    unfold Vbirak.doing at a
    dsimp only at a
    refine q_when (b := !(Vbirak.isLevel l x && Vbirak.isKind l b)) (et_not (et_B (ev_call (ea_cons el (ea_cons (ev_var rfl) (ea_cons (ev_var rfl) ea_nil))) (spv_start hL1)))) (fun hb H2 e2 => ?_) (fun hb H2 e2 => ?_)
    · rw [if_pos (nf hb)] at a
      exact ans_m (hk.ex e2) (a.go (But.of e2))
    · have hy := nt hb
      rw [if_neg (by rw [hy]; simp)] at a
      rw [Bool.and_eq_true] at hy
      obtain ⟨x, rfl, hx⟩ := level_nat hy.1
      obtain ⟨b, rfl, hbl⟩ := kind_nat F hy.2
      rw [Int.toNat_natCast, Int.toNat_natCast, head_kept, head_rows] at a
      refine ⟨_, rfl, an, kp, s, l, rfl, hk.ex e2, hl, fun p H3 b3 hk3 hR => ?_⟩
      obtain ⟨ns, hn1, hn2⟩ := sure_entry (keptAt_fit l s.strategy 0) hbl hx
      obtain ⟨c1, hc1, ec1⟩ := ev_row (K := K) (ta := tC (.ref p)) (tb := tVar 2) (σ := [some (.ref kp), some (.int (x : Int)), some (.int (b : Int))]) ev_c (hR.ex g2_sub) (ev_var rfl) hn1
      refine ev_int (K := K) (tb := tVar 1) ec1 hc1 (ev_var rfl) hn2 H3 (Ex.refl H3) _ fun H4 e4 => ?_
      refine ⟨_, rfl, an, kp, s, l, rfl, hk3.ex e4, hl, fun p2 H5 b5 hk5 hR2 => ?_⟩
      obtain ⟨ms, hm1, hm2⟩ := sure_entry (rowAt_fit l 0) hbl hx
      obtain ⟨c2, hc2, ec2⟩ := ev_rows (K := K) (ta := tC (.ref p2)) (tb := tC (.int 0)) (k := 0) (σ := [some (.ref kp), some (.int (x : Int)), some (.int (b : Int))]) ev_c (hR2.ex g2_sub) ev_c (rows_at l (Nat.zero_le _))
      obtain ⟨c3, hc3, ec3⟩ := ev_row (K := K) (tb := tVar 2) ec2 hc2 (ev_var rfl) hm1
      refine ev_int (K := K) (tb := tVar 1) ec3 hc3 (ev_var rfl) hm2 H5 (Ex.refl H5) _ fun H6 e6 => ?_
      refine ⟨(by show 3 ≤ sizeLine; decide), fun y hy => ?_⟩
      exact a y _ ((((But.of e2).trans b3).trans (But.of e4)).trans (b5.trans (But.of (e6.trans (Ex.new hy))))) ((hk5.ex e6).ex (Ex.new hy)) (fun z => (hk5.ex e6).1 (by rw [← z]; exact hy)) upd_same
theorem known_on {s : Vbirak.State} {l : Lake} {x b : Int} {ws : List Int} (h : ws.length = l.seasons) : Vbirak.doing s l (.known x b ws) = Vbirak.onWeather s l x b ws fun x _ k => [0, ((Vbirak.knownRow l 0 k).getD x 0 : Int)] := by
  unfold Vbirak.doing
  dsimp only
  have e : (ws.length == l.seasons) = true := beq_iff_eq.mpr h
  rw [e, Bool.and_true]
  cases hy : Vbirak.isYears l ws with
  | true => rw [if_neg (by simp)]
  | false =>
    rw [if_pos rfl]
    unfold Vbirak.onWeather
    rw [hy, Bool.and_false, Bool.and_false, if_pos rfl]
theorem known_off {s : Vbirak.State} {l : Lake} {x b : Int} {ws : List Int} (h : ws.length ≠ l.seasons) : Vbirak.doing s l (.known x b ws) = (s, [-1]) := by
  unfold Vbirak.doing
  dsimp only
  have e : (ws.length == l.seasons) = false := beq_eq_false_iff_ne.mpr h
  rw [e, Bool.and_false, if_pos rfl]
def spBack (K : PySem.W.Frag) : Sp := fun vs H Q _ => ∃ (an kp wp : Addr) (s : Vbirak.State) (l : Lake) (x b : Int) (ws : List Int), vs = [.ref kp, .int x, .int b, .ref wp] ∧ KpAt K an H kp s ∧ s.lake = some l ∧ H wp = some (.lst (vZ ws)) ∧ wp ≠ kp ∧ ws.length ≤ 1600 ∧ Ans K an kp H Q (Vbirak.doing s l (.known x b ws))
theorem ok_look_back (T : Tx K mg) (F_weather_refusal : Fn P w K mg base 3 (He.ga K "weather_refusal") ["lake", "level", "before", "weather"] (spRefusal K)) (F_best_if_known : Fn P w K mg base 4 (He.ga K "best_if_known") ["lake", "weather"] (spKnown K)) : Fn P w K mg base 7 (He.ga K "look_back") ["keeper", "level", "before", "weather"] (spBack K) := by
  have sc : FnScope ["keeper", "level", "before", "weather", "lake", "refusal"] ["keeper", "level", "before", "weather"] (defScope s_look_back) := ⟨rfl, rfl, rfl, by decide +kernel, rfl, by decide +kernel, by decide +kernel⟩
  refine fn_mk (k := 6) T.fun_look_back sc (fun _ _ _ _ _ _ us hl => match us, hl with | [_, _, _, _], _ => rfl) (fun vs H Q E h => ?len) (fun cdv A outer s H vs Q E hr h => ⟨_, (pss_cons (ps_set (i := 4) sc.nd rfl (Or.inl rfl) (pe_fld (pv 0) rfl))
      (pss_cons (ps_if (pt_cmpR op_ne (pe_callB call_len_seq (by rfl) T.free_len PySem.boot_len (pa_c (pv 3) pa_nil)) (pe_fld (pv 4) rfl) (nomark _)) (pss_one (ps_ret (pe_lst (pa_c (pe_un un_neg pe_int) pa_nil)))) pss_nil)
      (pss_cons (ps_set (i := 5) sc.nd rfl (Or.inl rfl) (pe_f F_weather_refusal hr (by decide) T.glo_weather_refusal (passes_call (takes_of rfl rfl rfl rfl) (fun _ _ _ _ h => h)) (pa_c (pv 4) (pa_c (pv 1) (pa_c (pv 2) (pa_c (pv 3) pa_nil))))))
      (pss_cons (ps_if (pt_cmpR op_ne (pv 5) pe_int (nomark _)) (pss_one (ps_ret (pe_lst (pa_c (pv 5) pa_nil)))) pss_nil)
      (pss_one (ps_ret (pe_lst (pa_c pe_int (pa_c (pe_ix ix_list (pe_f F_best_if_known hr (by decide) T.glo_best_if_known (passes_call (takes_of rfl rfl rfl rfl) (fun _ _ _ _ h => h)) (pa_c (pv 4) (pa_c (pv 3) pa_nil))) (pv 1) (fun _ _ => rfl)) pa_nil))))))))), ?rd⟩)
  case len =>
    obtain ⟨an, kp, wp, s, l, x, b, ws, rfl, _⟩ := h
    rfl
  case rd =>
    obtain ⟨an, kp, wp, s, l, x, b, ws, rfl, hk, hl, hwp, hne, hwl, a⟩ := h
    obtain ⟨la, el, hL, F⟩ := ev_klake (K := K) (ta := tVar 0) (σ := start ["keeper", "level", "before", "weather", "lake", "refusal"] [.ref kp, .int x, .int b, .ref wp]) T (ev_var rfl) hk hl
    refine q_asg el fun H1 e1 => ?_
    have hL1 : LakeAt K H1 la l := hL.ex (g2_sub.trans e1)
    refine q_when (b := !decide (V.int (ws.length : Int) = V.int (l.seasons : Int))) (et_test (ev_op (ev_lenC (ev_var rfl) (sq_of (e1 _ _ hwp)) (vZ_len ws)) (ev_seasons T (ev_var rfl) hL1) (rv_ne rfl))) (fun hb H2 e2 => ?_) (fun hb H2 e2 => ?_)
    · have hn : ws.length ≠ l.seasons := fun z => by
        rw [z, decide_eq_true rfl] at hb
        cases hb
      rw [known_off hn] at a
      exact ans_m ((hk.ex e1).ex e2) (a.go (But.of (e1.trans e2)))
    · have hn : ws.length = l.seasons := by
        have := of_decide_eq_true (nt hb)
        injection this with this
        omega
      rw [known_on hn] at a
      have hL2 := hL1.ex e2
      refine q_refused (i := 5) (by show 5 < 6; decide) (ea_cons (ev_var rfl) (ea_cons (ev_var rfl) (ea_cons (ev_var rfl) (ea_cons (ev_var rfl) ea_nil)))) hL2 F (sq_of (e2 _ _ (e1 _ _ hwp))) hwl ((hk.ex e1).ex e2) (a.go (But.of (e1.trans e2))) fun x b ks G ex eb hx hbl ev hks hkl hkw e3 aG => ?_
      subst ex eb
      rw [ev] at hwp
      have hwG : G wp = some (.lst (vI ks)) := e3 _ _ (e2 _ _ (e1 _ _ hwp))
      exact s_ans (zs := [0, (((Vbirak.knownRow l 0 ks).getD x 0 : Nat) : Int)]) (el_lst (ea_cons ev_c (ea_cons (ev_known (ea_cons (ev_var rfl) (ea_cons (ev_var rfl) ea_nil)) (hL2.ex e3) F (sq_of hwG) (by omega) hks (ev_var rfl) hx) ea_nil)) (by show 2 ≤ 100000; decide)) (((hk.ex e1).ex e2).ex e3) aG
def spMore (K : PySem.W.Frag) : Sp := fun vs H Q _ => ∃ (an kp : Addr) (s : Vbirak.State) (l : Lake) (n x b : Int), vs = [.ref kp, .int n, .int x, .int b] ∧ KpAt K an H kp s ∧ s.lake = some l ∧ Ans K an kp H Q (Vbirak.doing s l (.more n x b))
theorem ok_look_at_greater (T : Tx K mg) (F_is_start : Fn P w K mg base 2 (He.ga K "is_start") ["lake", "level", "before"] (spIsStart K)) (F_all_sure : Fn P w K mg base 5 (He.ga K "all_sure") ["lake"] (spAll K)) (F_greater_lake : Fn P w K mg base 3 (He.ga K "greater_lake") ["lake", "more"] (spGreater K)) (F_sure_of : Fn P w K mg base 6 (He.ga K "sure_of") ["keeper"] (spSureOf K)) : Fn P w K mg base 7 (He.ga K "look_at_greater") ["keeper", "more", "level", "before"] (spMore K) := by
  obtain ⟨_, g_MOST_HELD, r_MOST_HELD⟩ := T.cst_MOST_HELD
  have sc : FnScope ["keeper", "more", "level", "before", "lake", "greater"] ["keeper", "more", "level", "before"] (defScope s_look_at_greater) := ⟨rfl, rfl, rfl, by decide +kernel, rfl, by decide +kernel, by decide +kernel⟩
  refine fn_mk (k := 6) T.fun_look_at_greater sc (fun _ _ _ _ _ _ us hl => match us, hl with | [_, _, _, _], _ => rfl) (fun vs H Q E h => ?len) (fun cdv A outer s H vs Q E hr h => ⟨_, (pss_cons (ps_set (i := 4) sc.nd rfl (Or.inl rfl) (pe_fld (pv 0) rfl))
      (pss_cons (ps_if (pt_not (PW.pt (pw_and (pt_chain op_le op_le pe_int (pv 1) (pe_glob rfl g_MOST_HELD r_MOST_HELD)) (pw_and1 (pt_val (pe_f F_is_start hr (by decide) T.glo_is_start (passes_call (takes_of rfl rfl rfl rfl) (fun _ _ _ _ h => h)) (pa_c (pv 4) (pa_c (pv 2) (pa_c (pv 3) pa_nil))))))))) (pss_one (ps_ret (pe_lst (pa_c (pe_un un_neg pe_int) pa_nil)))) pss_nil)
      (pss_cons (ps_if (pt_cmpR op_gt (pe_op op_add (pe_fld (pv 4) rfl) (pv 1)) (pe_glob rfl g_MOST_HELD r_MOST_HELD) (nomark _)) (pss_one (ps_ret (pe_lst (pa_c (pe_un un_neg pe_int) pa_nil)))) pss_nil)
      (pss_cons (ps_set (i := 5) sc.nd rfl (Or.inl rfl) (pe_f F_all_sure hr (by decide) T.glo_all_sure (passes_call (takes_of rfl rfl rfl rfl) (fun _ _ _ _ h => h)) (pa_c (pe_f F_greater_lake hr (by decide) T.glo_greater_lake (passes_call (takes_of rfl rfl rfl rfl) (fun _ _ _ _ h => h)) (pa_c (pv 4) (pa_c (pv 1) pa_nil))) pa_nil)))
      (pss_one (ps_ret (pe_lst (pa_c pe_int (pa_c (pe_ix ix_list (pe_ix ix_list (pe_ix ix_list (pe_f F_sure_of hr (by decide) T.glo_sure_of (passes_call (takes_of rfl rfl rfl rfl) (fun _ _ _ _ h => h)) (pa_c (pv 0) pa_nil)) pe_int (fun _ _ => rfl)) (pv 3) (fun _ _ => rfl)) (pv 2) (fun _ _ => rfl)) (pa_c (pe_ix ix_list (pe_ix ix_list (pe_ix ix_list (pv 5) pe_int (fun _ _ => rfl)) (pv 3) (fun _ _ => rfl)) (pv 2) (fun _ _ => rfl)) pa_nil)))))))))), ?rd⟩)
  case len =>
    obtain ⟨an, kp, s, l, n, x, b, rfl, _⟩ := h
    rfl
  case rd =>
    obtain ⟨an, kp, s, l, n, x, b, rfl, hk, hl, a⟩ := h
    obtain ⟨la, el, hL, F⟩ := ev_klake (K := K) (ta := tVar 0) (σ := start ["keeper", "more", "level", "before", "lake", "greater"] [.ref kp, .int n, .int x, .int b]) T (ev_var rfl) hk hl
    refine q_asg el fun H1 e1 => ?_
    have hL1 : LakeAt K H1 la l := hL.ex (g2_sub.trans e1)
    unfold Vbirak.doing at a
    dsimp only at a
    refine q_when (b := !(Vbirak.inside n 0 (Vbirak.HOLDS : Int) && (Vbirak.isLevel l x && Vbirak.isKind l b))) (et_not (et_and (et_test (ev_chain ev_c (ev_var rfl) ev_c rv_le rv_le)) fun _ => et_B (ev_call (ea_cons (ev_var rfl) (ea_cons (ev_var rfl) (ea_cons (ev_var rfl) ea_nil))) (spv_start hL1)))) (fun hb H2 e2 => ?_) (fun hb H2 e2 => ?_)
    · rw [if_pos (nf hb)] at a
      exact ans_m ((hk.ex e1).ex e2) (a.go (But.of (e1.trans e2)))
    · have hy := nt hb
      rw [if_neg (by rw [hy]; simp)] at a
      rw [Bool.and_eq_true, Bool.and_eq_true] at hy
      obtain ⟨n, rfl, hn⟩ := inside_nat (lo := 0) hy.1
      obtain ⟨x, rfl, hx⟩ := level_nat hy.2.1
      obtain ⟨b, rfl, hbl⟩ := kind_nat F hy.2.2
      rw [Int.toNat_natCast, Int.toNat_natCast, Int.toNat_natCast] at a
      have x2 := e1.trans e2
      refine q_when (b := decide (Vbirak.HOLDS < l.holds + n)) (et_is (et_test (ev_op (ev_op (ev_holds T (ev_var rfl) (hL1.ex e2)) (ev_var rfl) rv_I0) ev_c rv_I0)) (decide_eq_decide.mpr ?_)) (fun hb H3 e3 => ?_) (fun hb H3 e3 => ?_)
      · show (40 : Int) < (l.holds : Int) + (n : Int) ↔ 40 < l.holds + n
        omega
      · rw [if_pos (of_decide_eq_true hb)] at a
        exact ans_m ((hk.ex x2).ex e3) (a.go (But.of (x2.trans e3)))
      · have hgr : ¬ Vbirak.HOLDS < l.holds + n := of_decide_eq_false hb
        rw [if_neg hgr, head_rows, head_rows] at a
        have hgr' : l.holds + n ≤ 40 := Nat.le_of_not_lt hgr
        have F2 := fit_more F hgr'
        have x3 := x2.trans e3
        have hk3 := hk.ex x3
        refine ⟨_, rfl, _, rfl, la, l, n, rfl, (hL1.ex e2).ex e3, fun pg H4 e4 hG => ⟨pg, _, rfl, hG, F2, fun pr H5 e5 hR => ?_⟩⟩
        dsimp only [gName]
        have hk4 := hk3.ex e4
        have hk5 := hk4.ex e5
        have hR5 : RowsAt (G2 kp an H5) pr (Vbirak.rows { l with holds := l.holds + n }) := RowsAt.ex' hR (g2_nw (by
          obtain ⟨_, _, dx, lv, sv, tv, bv, z, _⟩ := hk4
          rw [z]
          simp) hk4.1)
        refine ⟨_, rfl, an, kp, s, l, rfl, hk5, hl, fun p2 H6 b6 hk6 hR2 => ?_⟩
        obtain ⟨ms, hm1, hm2⟩ := sure_entry (rowAt_fit l 0) hbl hx
        obtain ⟨c2, hc2, ec2⟩ := ev_rows (K := K) (ta := tC (.ref p2)) (tb := tC (.int 0)) (k := 0) (σ := [some (.ref kp), some (.int (n : Int)), some (.int (x : Int)), some (.int (b : Int)), some (.ref la), some (.ref pr)]) ev_c (hR2.ex g2_sub) ev_c (rows_at l (Nat.zero_le _))
        obtain ⟨c3, hc3, ec3⟩ := ev_row (K := K) (tb := tVar 3) ec2 hc2 (ev_var rfl) hm1
        refine ev_int (K := K) (tb := tVar 2) ec3 hc3 (ev_var rfl) hm2 H6 (Ex.refl H6) _ fun H7 e7 => ?_
        have hR7 : RowsAt H7 pr (Vbirak.rows { l with holds := l.holds + n }) := ((hR5.ex' (g2_but b6)).ex' g2_sub).ex' e7
        obtain ⟨ns, hn1, hn2⟩ := sure_entry (l := { l with holds := l.holds + n }) (rowAt_fit { l with holds := l.holds + n } 0) (k := b) (x := x) hbl (Nat.le_trans hx (Nat.le_add_right ..))
        obtain ⟨c4, hc4, ec4⟩ := ev_rows (K := K) (ta := tVar 5) (tb := tC (.int 0)) (k := 0) (σ := [some (.ref kp), some (.int (n : Int)), some (.int (x : Int)), some (.int (b : Int)), some (.ref la), some (.ref pr)]) (ev_var rfl) hR7 ev_c (rows_at { l with holds := l.holds + n } (Nat.zero_le _))
        obtain ⟨c5, hc5, ec5⟩ := ev_row (K := K) (tb := tVar 3) ec4 hc4 (ev_var rfl) hn1
        refine ev_int (K := K) (tb := tVar 2) ec5 hc5 (ev_var rfl) hn2 H7 (Ex.refl H7) _ fun H8 e8 => ?_
        refine ⟨(by show 3 ≤ sizeLine; decide), fun y hy => ?_⟩
        have hk8 := (hk6.ex e7).ex e8
        exact a y _ ((But.of ((x3.trans e4).trans e5)).trans (b6.trans (But.of ((e7.trans e8).trans (Ex.new hy))))) (hk8.ex (Ex.new hy)) (fun z => hk8.1 (by rw [← z]; exact hy)) upd_same
end
end Sl
namespace Sl
open PySem PySem.Spec PyProof.Rows L2
open Evl
open Vbirak (Lake Weather)
open Sm
/-! ### a strategy read is in order -/
theorem cond_fit {n : Nat} {lk : Lake} {l : Vbirak.Toks} {y : Vbirak.Cond × Vbirak.Toks} (F : Fit lk) (h : Vbirak.condAt n lk l = .ok y) : condFit lk y.1 := by
  have h1 := F.s1
  cases hw : Vbirak.wordAhead "was" l with
  | true =>
    rw [cond_was hw] at h
    unfold wasAt at h
    split at h
    · cases h
    split at h
    · cases h
    split at h
    · rename_i hc
      cases h
      have := at1_lt hc
      unfold kindNames at this
      rw [List.length_map] at this
      exact this
    · cases h
  | false =>
    cases hs : Vbirak.wordAhead "season" l with
    | true =>
      rw [cond_season hw hs] at h
      unfold seasonAt at h
      split at h
      · cases h
      split at h
      · cases h
      rename_i a ha
      split at h
      · cases h
      split at h
      · cases h
      rename_i b hb
      cases h
      have z1 := num_lt ha
      have z2 := num_lt hb
      exact ⟨by omega, by omega⟩
    | false =>
      rw [cond_level hw hs] at h
      unfold levelAt at h
      split at h
      · cases h
      split at h
      · split at h
        · cases h
        · rename_i x hx
          cases h
          exact (num_lt hx).2.2
      · split at h
        · cases h
        · rename_i x hx
          cases h
          exact (wordNum_lt hx).2.2
theorem conds_fit {n : Nat} {lk : Lake} (F : Fit lk) : ∀ (f : Nat) (m : List Vbirak.Cond) (l : Vbirak.Toks) (y : List Vbirak.Cond × Vbirak.Toks), (∀ c ∈ m, condFit lk c) → Vbirak.condsAt n lk f m l = .ok y → ∀ c ∈ y.1, condFit lk c
  | 0, m, l, y, hm, h => by
    cases h
    exact hm
  | f + 1, m, l, y, hm, h => by
    rw [condsAt_eq] at h
    split at h
    · cases h
    rename_i c hc
    have hm' : ∀ d ∈ m ++ [c.1], condFit lk d := fun d hd => by
      rcases List.mem_append.mp hd with hd | hd
      · exact hm d hd
      · rw [List.mem_singleton.mp hd]
        exact cond_fit F hc
    split at h
    · exact conds_fit F f _ _ y hm' h
    · cases h
      exact hm'
theorem rule_fit {n : Nat} {lk : Lake} (F : Fit lk) {l : Vbirak.Toks} {y : (List Vbirak.Cond × Nat) × Vbirak.Toks} (hl : l.length ≤ 1999) (h : ruleAt n lk l = .ok y) : y.1.2 ≤ 10 ∧ y.1.1.length ≤ 2000 ∧ ∀ c ∈ y.1.1, condFit lk c := by
  unfold ruleAt at h
  split at h
  · cases h
  rename_i w hw
  split at h
  · cases h
  rename_i c hc
  split at h
  · cases h
  rename_i x hx
  cases h
  have z := must_lt hw
  have z2 := (conds_lt (by omega) hc).2
  refine ⟨(letting_lt hx).2, ?_, conds_fit F _ _ _ _ (fun c hc => by cases hc) hc⟩
  simp only [List.length_nil] at z2
  show c.1.length ≤ 2000
  omega
theorem rules_fit {n : Nat} {lk : Lake} (F : Fit lk) : ∀ (f : Nat) (m : List (List Vbirak.Cond × Nat)) (l : Vbirak.Toks) (y : Vbirak.Strategy × Vbirak.Toks), l.length ≤ 1999 → m.length ≤ 12 → (∀ r ∈ m, r.2 ≤ 10 ∧ r.1.length ≤ 2000 ∧ ∀ c ∈ r.1, condFit lk c) → Vbirak.rulesAt n lk f m l = .ok y → SFit lk y.1
  | 0, m, l, y, hl, hm, he, h => by cases h
  | f + 1, m, l, y, hl, hm, he, h => by
    rw [rulesAt_eq] at h
    split at h
    · split at h
      · cases h
      rename_i hR
      split at h
      · cases h
      rename_i x hx
      have z := rule_lt hx
      have hR' : ¬ 12 ≤ m.length := hR
      refine rules_fit F f _ _ y (by omega) (by rw [List.length_append]; simp only [List.length_singleton]; omega) (fun r hr => ?_) h
      rcases List.mem_append.mp hr with hr | hr
      · exact he r hr
      · rw [List.mem_singleton.mp hr]
        exact rule_fit F hl hx
    · split at h
      · cases h
      split at h
      · cases h
      rename_i x hx
      cases h
      exact ⟨hm, (letting_lt hx).2, he⟩
theorem strat_fit {lk : Lake} {t : List Nat} {s : Vbirak.Strategy} (F : Fit lk) (ht : t.length ≤ 1999) (h : Vbirak.readStrategy lk t = .ok s) : SFit lk s := by
  rw [strategy_eq, toks_pcs] at h
  have hl : (stopW (pcs t)).length ≤ 1999 := by
    refine Nat.le_trans (stop_len _) (Nat.le_trans (cut_len _ _ _) ht)
  split at h
  · cases h
  rename_i y hy
  split at h
  · cases h
    exact rules_fit F _ _ _ _ hl (Nat.zero_le _) (fun r hr => by cases hr) hy
  · cases h
/-! ### texts taken -/
theorem exm_oxc {K : PySem.W.Frag} {C : Addr} (T : OxC K C) : PySem.W.exmOne K (.ref C) (.ref C) = some true := by
  obtain ⟨nm, qn, nsA, bs, sn, sub, ab, col, dd, k0, k1, k2, k3, k5, lC⟩ := T.cls
  have cIn : PySem.W.clsIn K C = some { name := nm, bases := bs, mro := .ref C :: PySem.ESX.exTail, ns := nsA, qualname := qn, hasDict := true, slotNames := sn, subclasses := sub, abstract := ab, collection := col, hasDel := false } := by
    unfold PySem.W.clsIn
    rw [lC] <;> rfl
  unfold PySem.W.exmOne PySem.W.kitCls
  rw [T.exC, if_pos (by rfl)]
  dsimp only
  rw [T.tyC, cIn, if_pos (by rfl)]
  show PySem.W.mroIn K C (.ref C) = _
  unfold PySem.W.mroIn
  rw [cIn]
  show some (List.contains (Value.ref C :: PySem.ESX.exTail) (.ref C)) = _
  rw [List.contains_cons]
  simp
section
variable {K : PySem.W.Frag} {mg : Str → Option Value} {σ : L2.St} {H : Hp} {te ta : TE} {tz : TS} {D : Ends} {E : XK} {an kp : Addr} {s : Vbirak.State}
theorem ev_xf {a d C : Addr} {f : Str} {fs : List (Str × V)} {v : V} (h : Ev te σ H (.ref a)) (hd : H d = some (.xd fs)) (hv : fs.lookup f = some v) : Ev (tXf a (.ref C) (some d) C f te) σ H v := fun H1 e Q q =>
  h H1 e _ fun H2 e2 => ⟨rfl, rfl, d, fs, v, rfl, e2 _ _ (e _ _ hd), hv, q H2 e2⟩
/-- return [1, wrong.kind, wrong.place] -/
theorem s_wrong {a d C : Addr} {b : Vbirak.Bad} (h : Ev te σ H (.ref a)) (hd : ErrAt H d b) (hk : KpAt K an H kp s) (an : Ans K an kp H D.rt (Vbirak.wrongText s b)) : tRet (tLst (tCons (tC (.int 1)) (tCons (tXf a (.ref C) (some d) C "kind" te) (tCons (tXf a (.ref C) (some d) C "place" te) tNil)))) D σ H :=
  s_ans (zs := [1, (b.kind : Int), (b.place : Int)]) (el_lst (ea_cons ev_c (ea_cons (ev_xf h hd ((lk2 (by decide +kernel)).trans lk1)) (ea_cons (ev_xf h hd lk1) ea_nil))) (by show 3 ≤ 100000; decide)) hk an
end
section
variable {P : Program} {w : World} {K : PySem.W.Frag} {mg : Str → Option Value} {base : Heap}
/-- what a text read with no keeper in sight leaves -/
theorem KpAt.some {H : Hp} {an kp : Addr} {s : Vbirak.State} (h : KpAt K an H kp s) : H kp ≠ none := by
  obtain ⟨_, _, dx, lv, sv, tv, bv, h1, _⟩ := h
  rw [h1]
  simp
def spTakeLake (K : PySem.W.Frag) : Sp := fun vs H Q _ => ∃ (an kp p : Addr) (s : Vbirak.State) (t : List Int), vs = [.ref kp, .ref p] ∧ KpAt K an H kp s ∧ H p = some (.lst (vZ t)) ∧ t.length ≤ 1600 ∧ Ans K an kp H Q (Vbirak.step s (.lake t))
theorem ok_take_lake (T : Tx K mg) (F_is_text : Fn P w K mg base 1 (He.ga K "is_text") ["row"] (spIsText K)) (F_read_lake : Fn P w K mg base 7 (He.ga K "read_lake") ["text"] (spReadLake K)) (F_Keeper_put_lake : Fn P w K mg base 3 (He.ma K (He.ga K "Keeper") "put_lake") ["self", "lake"] (spPutLake K)) : Fn P w K mg base 9 (He.ga K "take_lake") ["keeper", "text"] (spTakeLake K) := by
  have sc : FnScope ["keeper", "text", "lake", "wrong"] ["keeper", "text"] (defScope s_take_lake) := ⟨rfl, rfl, rfl, by decide +kernel, rfl, by decide +kernel, by decide +kernel⟩
  refine fn_mk (k := 8) T.fun_take_lake sc (fun _ _ _ _ _ _ us hl => match us, hl with | [_, _], _ => rfl) (fun vs H Q E h => ?len) (fun cdv A outer s H vs Q E hr h => ⟨_, (pss_cons (ps_if (pt_not (pt_val (pe_f F_is_text hr (by decide) T.glo_is_text (passes_call (takes_of rfl rfl rfl rfl) (fun _ _ _ _ h => h)) (pa_c (pv 1) pa_nil)))) (pss_one (ps_ret (pe_lst (pa_c (pe_un un_neg pe_int) pa_nil)))) pss_nil)
      (pss_cons (ps_try_as (i := 3) (Wout := fun cls d _ H => E cls d H) rfl rfl sc.nd rfl rfl ⟨rfl, by decide, Or.inl T.glo_WrongText⟩ (takes_of rfl rfl rfl rfl)
      (fun W pn xe tk _ => (pss_one (ps_set (i := 2) sc.nd rfl (Or.inl rfl) (pe_fS F_read_lake hr (by decide) T.glo_read_lake (fun σ => passAt tk σ) (pa_c (pv 1) pa_nil)))))
      (fun a oe cls d pn hz hf => (pss_one (ps_ret (pe_lst (pa_c pe_int (pa_c (pe_xf T.xfc T.f_kind hz hf (pv 3)) (pa_c (pe_xf T.xfc T.f_place hz hf (pv 3)) pa_nil))))))))
      (pss_cons (ps_expr (pe_m F_Keeper_put_lake hr (by decide) (pv 0) T.cls_Keeper T.meth_Keeper_put_lake (passes_call (takes_of rfl rfl rfl rfl) (fun _ _ _ _ h => h)) (pa_c (pv 2) pa_nil)))
      (pss_one (ps_ret (pe_lst (pa_c pe_int (pa_c (pe_callB call_len_seq (by rfl) T.free_len PySem.boot_len (pa_c (pe_fld (pv 2) rfl) pa_nil)) (pa_c (pe_callB call_len_seq (by rfl) T.free_len PySem.boot_len (pa_c (pe_fld (pv 2) rfl) pa_nil)) pa_nil))))))))), ?rd⟩)
  case len =>
    obtain ⟨an, kp, p, s, t, rfl, _⟩ := h
    rfl
  case rd =>
    obtain ⟨an, kp, p, s, t, rfl, hk, hp, ht, a⟩ := h
    unfold Vbirak.step at a
    dsimp only at a
    refine q_when (et_not (et_B (ev_call (ea_cons (ev_var rfl) ea_nil) (spv_istext (sq_of hp) ht)))) (fun hb H1 e1 => ?_) (fun hb H1 e1 => ?_)
    · rw [if_pos (nf hb)] at a
      exact ans_m (hk.ex e1) (a.go (But.of e1))
    have hy := nt hb
    rw [if_neg (by rw [hy]; simp)] at a
    obtain ⟨ev, hlen⟩ := text_nats hy
    rw [ev] at hp
    generalize Vbirak.nats t = ns at a ev hlen hp
    refine ⟨_, rfl, p, ns, rfl, sq_of (e1 _ _ hp), by omega, ?_⟩
    have hk1 := hk.ex e1
    cases q : Vbirak.read ns with
    | error b =>
      rw [q] at a
      intro d H2 e2 hE
      refine ⟨true, exm_oxc T.oxc, fun _ z hz => ?_, fun hc => by cases hc⟩
      exact s_wrong (ev_var rfl) hE (hk1.ex e2) (a.go (But.of (e1.trans e2)))
    | ok l =>
      rw [q] at a
      have F := read_fit q
      intro la H2 e2 hL
      have hk2 := hk1.ex e2
      obtain ⟨hA2, hAk, dx, lv, sv, tv, bv, h2, _⟩ := hk2
      have hn1 : H1 kp ≠ none := hk1.some
      have hLd : LakeAt K (G2 kp an H2) la l := hL.ex (g2_nw hn1 hk1.1)
      dsimp only [gName]
      refine ⟨_, rfl, kp, dx, _, rfl, h2, lk_k_meth _ _ _ _ (by decide +kernel) (by decide +kernel) (by decide +kernel) (by decide +kernel), _, rfl, kp, dx, lv, sv, tv, bv, .ref la, rfl, h2, fun qa H3 b3 h3 hS => ?_⟩
      have b4 : But kp H H3 := (But.of (e1.trans e2)).trans b3
      have hA3 : H3 an ≠ none := fun z => hA2 (b3.none z hAk)
      have hk6 : KpAt K an H3 kp { lake := some l } := ⟨hA3, hAk, dx, _, _, _, _, h3, F, ⟨Nat.zero_le _, Nat.zero_le _, fun r hr => by cases hr⟩, la, qa, rfl, hLd.ex (g2_but b3), rfl, mono_strat K _ _ _ _ (g2_nw (by rw [h2]; simp) hA2) hS, Or.inl rfl, Or.inl rfl⟩
      have hL6 : LakeAt K H3 la l := (hLd.ex (g2_but b3)).ex g2_sub
      obtain ⟨kl, ks, ek, hkl, hks⟩ := ev_kinds (ta := tVar 2) (σ := [some (.ref kp), some (.ref p), some (.ref la), none]) T (ev_var rfl) hL6
      obtain ⟨tl, ts, et, htl, hts⟩ := ev_tables (ta := tVar 2) (σ := [some (.ref kp), some (.ref p), some (.ref la), none]) T (ev_var rfl) hL6
      exact s_ans (zs := 0 :: Vbirak.nums [l.weathers.length, l.yields.length]) (el_lst (ea_cons ev_c (ea_cons (ev_lenC ek (sq_of hkl) (by rw [List.length_map, hks.1])) (ea_cons (ev_lenC et (sq_of htl) (by rw [List.length_map, hts.1])) ea_nil))) (by show 3 ≤ 100000; decide)) hk6 (a.go b4)
def spFindWrong (K : PySem.W.Frag) : Sp := fun vs H Q _ => ∃ (an kp p : Addr) (s : Vbirak.State) (t : List Int), vs = [.ref p] ∧ KpAt K an H kp s ∧ H p = some (.lst (vZ t)) ∧ t.length ≤ 1600 ∧ Ans K an kp H Q (Vbirak.step s (.whereIs t))
theorem ok_find_wrong (T : Tx K mg) (F_is_text : Fn P w K mg base 1 (He.ga K "is_text") ["row"] (spIsText K)) (F_read_lake : Fn P w K mg base 7 (He.ga K "read_lake") ["text"] (spReadLake K)) : Fn P w K mg base 9 (He.ga K "find_wrong") ["text"] (spFindWrong K) := by
  have sc : FnScope ["text", "wrong"] ["text"] (defScope s_find_wrong) := ⟨rfl, rfl, rfl, by decide +kernel, rfl, by decide +kernel, by decide +kernel⟩
  refine fn_mk (k := 8) T.fun_find_wrong sc (fun _ _ _ _ _ _ us hl => match us, hl with | [_], _ => rfl) (fun vs H Q E h => ?len) (fun cdv A outer s H vs Q E hr h => ⟨_, (pss_cons (ps_if (pt_not (pt_val (pe_f F_is_text hr (by decide) T.glo_is_text (passes_call (takes_of rfl rfl rfl rfl) (fun _ _ _ _ h => h)) (pa_c (pv 0) pa_nil)))) (pss_one (ps_ret (pe_lst (pa_c (pe_un un_neg pe_int) pa_nil)))) pss_nil)
      (pss_cons (ps_try_as (i := 1) (Wout := fun cls d _ H => E cls d H) rfl rfl sc.nd rfl rfl ⟨rfl, by decide, Or.inl T.glo_WrongText⟩ (takes_of rfl rfl rfl rfl)
      (fun W pn xe tk _ => (pss_one (ps_expr (pe_fS F_read_lake hr (by decide) T.glo_read_lake (fun σ => passAt tk σ) (pa_c (pv 0) pa_nil)))))
      (fun a oe cls d pn hz hf => (pss_one (ps_ret (pe_lst (pa_c pe_int (pa_c (pe_xf T.xfc T.f_kind hz hf (pv 1)) (pa_c (pe_xf T.xfc T.f_place hz hf (pv 1)) pa_nil))))))))
      (pss_one (ps_ret (pe_lst (pa_c pe_int pa_nil)))))), ?rd⟩)
  case len =>
    obtain ⟨an, kp, p, s, t, rfl, _⟩ := h
    rfl
  case rd =>
    obtain ⟨an, kp, p, s, t, rfl, hk, hp, ht, a⟩ := h
    unfold Vbirak.step at a
    dsimp only at a
    refine q_when (et_not (et_B (ev_call (ea_cons (ev_var rfl) ea_nil) (spv_istext (sq_of hp) ht)))) (fun hb H1 e1 => ?_) (fun hb H1 e1 => ?_)
    · rw [if_pos (nf hb)] at a
      exact ans_m (hk.ex e1) (a.go (But.of e1))
    have hy := nt hb
    rw [if_neg (by rw [hy]; simp)] at a
    obtain ⟨ev, hlen⟩ := text_nats hy
    rw [ev] at hp
    generalize Vbirak.nats t = ns at a ev hlen hp
    refine ⟨_, rfl, p, ns, rfl, sq_of (e1 _ _ hp), by omega, ?_⟩
    have hk1 := hk.ex e1
    cases q : Vbirak.read ns with
    | error b =>
      rw [q] at a
      intro d H2 e2 hE
      refine ⟨true, exm_oxc T.oxc, fun _ z hz => ?_, fun hc => by cases hc⟩
      exact s_wrong (ev_var rfl) hE (hk1.ex e2) (a.go (But.of (e1.trans e2)))
    | ok l =>
      rw [q] at a
      intro la H2 e2 hL
      exact s_ans (σ := [some (.ref p), none]) (zs := [0]) (el_lst (ea_cons ev_c ea_nil) (by show 1 ≤ 100000; decide)) (hk1.ex e2) (a.go (But.of (e1.trans e2)))
def spTakeStrategy (K : PySem.W.Frag) : Sp := fun vs H Q _ => ∃ (an kp p : Addr) (s : Vbirak.State) (l : Lake) (t : List Int), vs = [.ref kp, .ref p] ∧ KpAt K an H kp s ∧ s.lake = some l ∧ H p = some (.lst (vZ t)) ∧ t.length ≤ 1600 ∧ Ans K an kp H Q (Vbirak.doing s l (.strategy t))
theorem ok_take_strategy (T : Tx K mg) (F_is_text : Fn P w K mg base 1 (He.ga K "is_text") ["row"] (spIsText K)) (F_read_strategy : Fn P w K mg base 8 (He.ga K "read_strategy") ["text", "lake"] (spReadStrategy K)) (F_Keeper_put_strategy : Fn P w K mg base 1 (He.ma K (He.ga K "Keeper") "put_strategy") ["self", "strategy"] (spPutStrategy K)) : Fn P w K mg base 9 (He.ga K "take_strategy") ["keeper", "text"] (spTakeStrategy K) := by
  have sc : FnScope ["keeper", "text", "strategy", "wrong"] ["keeper", "text"] (defScope s_take_strategy) := ⟨rfl, rfl, rfl, by decide +kernel, rfl, by decide +kernel, by decide +kernel⟩
  refine fn_mk (k := 8) T.fun_take_strategy sc (fun _ _ _ _ _ _ us hl => match us, hl with | [_, _], _ => rfl) (fun vs H Q E h => ?len) (fun cdv A outer s H vs Q E hr h => ⟨_, (pss_cons (ps_if (pt_not (pt_val (pe_f F_is_text hr (by decide) T.glo_is_text (passes_call (takes_of rfl rfl rfl rfl) (fun _ _ _ _ h => h)) (pa_c (pv 1) pa_nil)))) (pss_one (ps_ret (pe_lst (pa_c (pe_un un_neg pe_int) pa_nil)))) pss_nil)
      (pss_cons (ps_try_as (i := 3) (Wout := fun cls d _ H => E cls d H) rfl rfl sc.nd rfl rfl ⟨rfl, by decide, Or.inl T.glo_WrongText⟩ (takes_of rfl rfl rfl rfl)
      (fun W pn xe tk _ => (pss_one (ps_set (i := 2) sc.nd rfl (Or.inl rfl) (pe_fS F_read_strategy hr (by decide) T.glo_read_strategy (fun σ => passAt tk σ) (pa_c (pv 1) (pa_c (pe_fldK (K := K) rfl (pv 0) rfl) pa_nil))))))
      (fun a oe cls d pn hz hf => (pss_one (ps_ret (pe_lst (pa_c pe_int (pa_c (pe_xf T.xfc T.f_kind hz hf (pv 3)) (pa_c (pe_xf T.xfc T.f_place hz hf (pv 3)) pa_nil))))))))
      (pss_cons (ps_expr (pe_m F_Keeper_put_strategy hr (by decide) (pv 0) T.cls_Keeper T.meth_Keeper_put_strategy (passes_call (takes_of rfl rfl rfl rfl) (fun _ _ _ _ h => h)) (pa_c (pv 2) pa_nil)))
      (pss_one (ps_ret (pe_lst (pa_c pe_int (pa_c (pe_callB call_len_seq (by rfl) T.free_len PySem.boot_len (pa_c (pe_fld (pv 2) rfl) pa_nil)) pa_nil)))))))), ?rd⟩)
  case len =>
    obtain ⟨an, kp, p, s, l, t, rfl, _⟩ := h
    rfl
  case rd =>
    obtain ⟨an, kp, p, s, l, t, rfl, hk, hl, hp, ht, a⟩ := h
    unfold Vbirak.doing at a
    dsimp only at a
    refine q_when (et_not (et_B (ev_call (ea_cons (ev_var rfl) ea_nil) (spv_istext (sq_of hp) ht)))) (fun hb H1 e1 => ?_) (fun hb H1 e1 => ?_)
    · rw [if_pos (nf hb)] at a
      exact ans_m (hk.ex e1) (a.go (But.of e1))
    have hy := nt hb
    rw [if_neg (by rw [hy]; simp)] at a
    obtain ⟨ev, hlen⟩ := text_nats hy
    rw [ev] at hp
    generalize Vbirak.nats t = ns at a ev hlen hp
    have hk1 := hk.ex e1
    obtain ⟨la, el, hL, F⟩ := ev_klake (K := K) (ta := tVar 0) (σ := [some (.ref kp), some (.ref p), none, none]) T (ev_var rfl) hk1 hl
    refine ⟨_, rfl, ?_⟩
    refine el H1 (Ex.refl H1) _ fun H2 e2 => ?_
    refine ⟨p, la, ns, l, rfl, sq_of (e2 _ _ (e1 _ _ hp)), by omega, hL.ex (g2_sub.trans e2), F, ?_⟩
    cases q : Vbirak.readStrategy l ns with
    | error b =>
      rw [q] at a
      intro d H3 e3 hE
      refine ⟨true, exm_oxc T.oxc, fun _ z hz => ?_, fun hc => by cases hc⟩
      exact s_wrong (ev_var rfl) hE ((hk1.ex e2).ex e3) (a.go (But.of ((e1.trans e2).trans e3)))
    | ok g =>
      rw [q] at a
      have SF := strat_fit F (by omega) q
      intro qa H3 e3 hS
      have hk2 := hk1.ex e2
      have hk3 := hk2.ex e3
      have hn2 : H2 kp ≠ none := hk2.some
      obtain ⟨hA3, hAk, dx, lv, sv, tv, bv, h3, h4⟩ := hk3
      unfold KpIn at h4
      rw [hl] at h4
      obtain ⟨F', S', la', q', rfl, hL', rfl, hq', hs', hby'⟩ := h4
      dsimp only [gName]
      refine ⟨_, rfl, kp, dx, _, rfl, h3, lk_k_meth _ _ _ _ (by decide +kernel) (by decide +kernel) (by decide +kernel) (by decide +kernel), _, rfl, kp, dx, .ref la', sv, .ref q', bv, .ref qa, rfl, h3, ?_⟩
      have x4 : Ex (G2 kp an H3) (G2 kp an (upd H3 kp (.ins (He.ga K "Keeper") dx (keepF (.ref la') sv (.ref qa) .non)))) := g2_but But.upd
      have b4 : But kp H (upd H3 kp (.ins (He.ga K "Keeper") dx (keepF (.ref la') sv (.ref qa) .non))) := (But.of ((e1.trans e2).trans e3)).trans But.upd
      have hS4 : StratAt K (G2 kp an (upd H3 kp (.ins (He.ga K "Keeper") dx (keepF (.ref la') sv (.ref qa) .non)))) qa g := mono_strat K _ _ _ _ ((g2_nw hn2 hk2.1).trans x4) hS
      have hk4 : KpAt K an (upd H3 kp (.ins (He.ga K "Keeper") dx (keepF (.ref la') sv (.ref qa) .non))) kp { s with strategy := g } := by
        refine ⟨fun z => hA3 (by rw [upd_ne hAk] at z; exact z), hAk, dx, _, _, _, _, upd_same, ?_⟩
        unfold KpIn
        dsimp only
        rw [hl]
        exact ⟨F, SF, la', qa, rfl, hL'.ex x4, rfl, hS4, hs'.imp id fun ⟨z, h6, h7⟩ => ⟨z, h6, h7.ex x4⟩, Or.inl rfl⟩
      have hS5 : StratAt K (upd H3 kp (.ins (He.ga K "Keeper") dx (keepF (.ref la') sv (.ref qa) .non))) qa g := mono_strat K _ _ _ _ g2_sub hS4
      revert b4 hk4 hS5
      generalize upd H3 kp (.ins (He.ga K "Keeper") dx (keepF (.ref la') sv (.ref qa) .non)) = H5
      intro b4 hk4 hS5
      obtain ⟨dq, rl, h6, as, h7, h8⟩ := hS5
      exact s_ans (zs := [0, (g.rules.length : Int)]) (el_lst (ea_cons ev_c (ea_cons (ev_lenC (ev_fld (ev_var (i := 2) rfl) h6 T.cls_Strategy T.noat_Strategy_rules lk1) (sq_of h7) (by rw [List.length_map, h8.1])) ea_nil)) (by show 2 ≤ 100000; decide)) hk4 (a.go b4)
end
end Sl
namespace Sl
open PySem PySem.Spec PyProof.Rows L2
open Evl
open Vbirak (Lake Weather)
open Sm
/-! ### kinds and counts listed -/
def listedOf (x : Weather) : List Int := Vbirak.listed x.name ++ ((x.brings : Int) :: Vbirak.listed x.next)
theorem vZ_app (a b : List Int) : vZ (a ++ b) = vZ a ++ vZ b := List.map_append ..
theorem flat_takeZ {α : Type} {xs : List α} {f : α → List Int} {i : Nat} {x : α} (h : xs[i]? = some x) : (xs.take (i + 1)).flatMap f = (xs.take i).flatMap f ++ f x := by
  rw [List.take_add_one, h, List.flatMap_append]
  simp
theorem flat_lenZ {α : Type} {f : α → List Int} {n : Nat} : ∀ xs : List α, (∀ x ∈ xs, (f x).length ≤ n) → (xs.flatMap f).length ≤ n * xs.length
  | [], _ => Nat.zero_le _
  | x :: r, h => by
    have h1 := h x (List.mem_cons_self ..)
    have h2 := flat_lenZ r fun y hy => h y (List.mem_cons_of_mem _ hy)
    rw [List.flatMap_cons, List.length_append, List.length_cons, Nat.mul_succ]
    omega
theorem listedOf_len {l : Lake} (F : Fit l) {x : Weather} (hx : x ∈ l.weathers) : (listedOf x).length ≤ 15 := by
  have h1 := (F.name x hx).1
  have h2 := F.n2 x hx
  unfold listedOf Vbirak.listed Vbirak.nums
  simp only [List.length_append, List.length_cons, List.length_map]
  omega
theorem listed_len {l : Lake} (F : Fit l) (i : Nat) : ((l.weathers.take i).flatMap listedOf).length ≤ 60 := by
  have h1 := flat_lenZ (n := 15) (f := listedOf) (l.weathers.take i) fun x hx => listedOf_len F (List.mem_of_mem_take hx)
  have h2 := F.w2
  have h3 : (l.weathers.take i).length ≤ 4 := by
    rw [List.length_take]
    omega
  have h4 : 15 * (l.weathers.take i).length ≤ 15 * 4 := Nat.mul_le_mul_left _ h3
  omega
section
variable {P : Program} {w : World} {K : PySem.W.Frag} {mg : Str → Option Value} {base : Heap}
def spListW (K : PySem.W.Frag) : Sp := fun vs H Q _ => ∃ (a : Addr) (l : Lake), vs = [.ref a] ∧ LakeAt K H a l ∧ Fit l ∧ RetL (vZ ((l.weathers.length : Int) :: l.weathers.flatMap listedOf)) H Q
theorem ok_list_weathers (T : Tx K mg) (F_byte_row : Fn P w K mg base 1 (He.ga K "byte_row") ["text"] (spBytes K)) : Fn P w K mg base 2 (He.ga K "list_weathers") ["lake"] (spListW K) := by
  have sc : FnScope ["lake", "listed", "kind"] ["lake"] (defScope s_list_weathers) := ⟨rfl, rfl, rfl, by decide +kernel, rfl, by decide +kernel, by decide +kernel⟩
  refine fn_mk (k := 1) T.fun_list_weathers sc (fun _ _ _ _ _ _ us hl => match us, hl with | [_], _ => rfl) (fun vs H Q E h => ?len) (fun cdv A outer s H vs Q E hr h => ⟨_, (pss_cons (ps_set (i := 1) sc.nd rfl (Or.inl rfl) (pe_lst (pa_c (pe_callB call_len_seq (by rfl) T.free_len PySem.boot_len (pa_c (pe_fld (pv 0) rfl) pa_nil)) pa_nil)))
      (pss_cons (ps_for (passes_of rfl) rfl (pi_list (pe_fld (pv 0) rfl)) (pg_name (i := 2) sc.nd rfl (Or.inl rfl)) (pss_cons (ps_expr (pe_bm PySem.F.plainAttrs_list PySem.F.slot_list_append PySem.F.type_list_append mt_append (pv 1) (pa_c (pe_callB call_len_str (by rfl) T.free_len PySem.boot_len (pa_c (pe_fld (pv 2) rfl) pa_nil)) pa_nil)))
      (pss_cons (ps_expr (pe_bm PySem.F.plainAttrs_list PySem.F.slot_list_extend PySem.F.type_list_extend mt_extend (pv 1) (pa_c (pe_f F_byte_row hr (by decide) T.glo_byte_row (passes_call (takes_of rfl rfl rfl rfl) (fun _ _ _ _ h => h)) (pa_c (pe_fld (pv 2) rfl) pa_nil)) pa_nil)))
      (pss_cons (ps_expr (pe_bm PySem.F.plainAttrs_list PySem.F.slot_list_append PySem.F.type_list_append mt_append (pv 1) (pa_c (pe_fld (pv 2) rfl) pa_nil)))
      (pss_cons (ps_expr (pe_bm PySem.F.plainAttrs_list PySem.F.slot_list_append PySem.F.type_list_append mt_append (pv 1) (pa_c (pe_callB call_len_seq (by rfl) T.free_len PySem.boot_len (pa_c (pe_fld (pv 2) rfl) pa_nil)) pa_nil)))
      (pss_one (ps_expr (pe_bm PySem.F.plainAttrs_list PySem.F.slot_list_extend PySem.F.type_list_extend mt_extend (pv 1) (pa_c (pe_fld (pv 2) rfl) pa_nil)))))))))
      (pss_one (ps_ret (pv 1))))), ?rd⟩)
  case len =>
    obtain ⟨a, l, rfl, _⟩ := h
    rfl
  case rd =>
    obtain ⟨a, l, rfl, hL, F, q⟩ := h
    obtain ⟨kl0, ks0, ek0, hk0, hks0⟩ := ev_kinds (ta := tVar 0) (σ := start ["lake", "listed", "kind"] [.ref a]) T (ev_var rfl) hL
    refine q_asgL (xs := vZ [(l.weathers.length : Int)]) (el_lst (ea_cons (ev_lenC ek0 (sq_of hk0) (by rw [List.length_map, hks0.1])) ea_nil) (by show 1 ≤ 100000; decide)) fun d H1 nd e1 hd => ?_
    obtain ⟨kl, ks, ek, hk, hks⟩ := ev_kinds (ta := tVar 0) (σ := [some (.ref a), some (.ref d), none]) T (ev_var rfl) (hL.ex e1)
    have hw2 := F.w2
    -- what the list of kinds stands on does not know the new list
    obtain ⟨dx, kl', tl', ks', ts', g1, g2, g3, g4, g5⟩ := id hL
    refine q_forLn (xs := ks'.map V.ref) (ev_fld (ev_var rfl) (e1 _ _ g1) T.cls_Lake T.noat_Lake_kinds (lk_kinds ..)) (sq_of (e1 _ _ g2)) (fun i σ' H' => Ex H H' ∧ H' d = some (.lst (vZ ((l.weathers.length : Int) :: (l.weathers.take i).flatMap listedOf))) ∧ ∃ (v2 : Option V), σ' = [some (.ref a), some (.ref d), v2])
      (fun H2 e2 => ⟨e1.trans e2, by rw [List.take_zero]; exact e2 _ _ hd, none, rfl⟩) (fun i σ' H' _ z => sq_of (z.1 _ _ g2)) ?_ ?_
    · rintro i u σ' H' hu ⟨ex, hd', v2, rfl⟩
      obtain ⟨c, hc, rfl⟩ := ref_at hu
      obtain ⟨x, hx, hcx⟩ := g3.at hc
      have hm := List.mem_of_getElem? hx
      have hn := (F.name x hm).1
      have hn2 := F.n2 x hm
      have hll := listed_len F i
      have hlen : (vZ ((l.weathers.length : Int) :: (l.weathers.take i).flatMap listedOf)).length ≤ 61 := by
        rw [vZ_len, List.length_cons]
        omega
      have eW : vZ ((l.weathers.length : Int) :: (l.weathers.take (i + 1)).flatMap listedOf) = vZ ((l.weathers.length : Int) :: (l.weathers.take i).flatMap listedOf) ++ [.int (x.name.length : Int)] ++ vI x.name ++ [.int (x.brings : Int)] ++ [.int (x.next.length : Int)] ++ vI x.next := by
        rw [flat_takeZ hx, ← List.cons_append, vZ_app, ← vZ_nums, ← vZ_nums]
        unfold listedOf Vbirak.listed
        rw [vZ_app]
        simp [vZ]
      generalize hacc : vZ ((l.weathers.length : Int) :: (l.weathers.take i).flatMap listedOf) = acc at hd' hlen eW
      have kc : ∀ {G : Hp}, Ex H G → KindAt K G c x := fun e => hcx.ex e
      refine q_app hd' (ev_var rfl) (ev_lenS (ev_name T (ev_var (i := 2) rfl) (kc ex)) (by omega)) (by omega) fun H2 e2 => ?_
      have x2 : Ex H (upd H2 d (.lst (acc ++ [.int (x.name.length : Int)]))) := Ex.mut (ex.trans e2) nd
      refine q_ext upd_same (ev_var rfl) (el_call (ea_cons (ev_name T (ev_var (i := 2) rfl) (kc x2)) ea_nil) (spl_bytes (by omega))) (by rw [List.length_append, vI_len]; simp only [List.length_singleton]; omega) fun H3 e3 => ?_
      have x3 : Ex H (upd H3 d (.lst (acc ++ [.int (x.name.length : Int)] ++ vI x.name))) := Ex.mut (x2.trans e3) nd
      refine q_app upd_same (ev_var rfl) (ev_brings T (ev_var (i := 2) rfl) (kc x3)) (by rw [List.length_append, List.length_append, vI_len]; simp only [List.length_singleton]; omega) fun H4 e4 => ?_
      have x4 : Ex H (upd H4 d (.lst (acc ++ [.int (x.name.length : Int)] ++ vI x.name ++ [.int (x.brings : Int)]))) := Ex.mut (x3.trans e4) nd
      obtain ⟨fl, ef, hf⟩ := ev_follows (ta := tVar 2) (σ := [some (.ref a), some (.ref d), some (.ref c)]) T (ev_var rfl) (kc x4)
      refine q_app upd_same (ev_var rfl) (ev_lenC ef (sq_of hf) (vI_len x.next)) (by rw [List.length_append, List.length_append, List.length_append, vI_len]; simp only [List.length_singleton]; omega) fun H5 e5 => ?_
      have x5 : Ex H (upd H5 d (.lst (acc ++ [.int (x.name.length : Int)] ++ vI x.name ++ [.int (x.brings : Int)] ++ [.int (x.next.length : Int)]))) := Ex.mut (x4.trans e5) nd
      obtain ⟨fl', ef', hf'⟩ := ev_follows (ta := tVar 2) (σ := [some (.ref a), some (.ref d), some (.ref c)]) T (ev_var rfl) (kc x5)
      refine s_extE upd_same (ev_var rfl) ef' hf' (by rw [List.length_append, List.length_append, List.length_append, List.length_append, vI_len, vI_len]; simp only [List.length_singleton]; omega) fun H6 e6 => ⟨Ex.mut (x5.trans e6) nd, ?_, _, rfl⟩
      rw [upd_same, eW]
    · rintro σ' H' ⟨ex, hd', v2, rfl⟩
      rw [List.length_map, g3.1, List.take_length] at hd'
      exact ⟨_, rfl, q d H' nd ex hd'⟩
def spCounts (K : PySem.W.Frag) : Sp := fun vs H Q _ => ∃ (a p : Addr) (l : Lake) (s : Vbirak.Strategy), vs = [.ref a, .ref p] ∧ LakeAt K H a l ∧ StratAt K H p s ∧ RetL (vI [l.holds, l.seasons, l.gate, l.rest, l.weathers.length, l.yields.length, s.rules.length]) H Q
theorem ok_list_counts (T : Tx K mg)  : Fn P w K mg base 1 (He.ga K "list_counts") ["lake", "strategy"] (spCounts K) := by
  have sc : FnScope ["lake", "strategy", "told"] ["lake", "strategy"] (defScope s_list_counts) := ⟨rfl, rfl, rfl, by decide +kernel, rfl, by decide +kernel, by decide +kernel⟩
  refine fn_mk (k := 0) T.fun_list_counts sc (fun _ _ _ _ _ _ us hl => match us, hl with | [_, _], _ => rfl) (fun vs H Q E h => ?len) (fun cdv A outer s H vs Q E hr h => ⟨_, (pss_cons (ps_set (i := 2) sc.nd rfl (Or.inl rfl) (pe_lst (pa_c (pe_fld (pv 0) rfl) (pa_c (pe_fld (pv 0) rfl) (pa_c (pe_fld (pv 0) rfl) (pa_c (pe_fld (pv 0) rfl) pa_nil))))))
      (pss_one (ps_ret (pe_op op_cat (pv 2) (pe_lst (pa_c (pe_callB call_len_seq (by rfl) T.free_len PySem.boot_len (pa_c (pe_fld (pv 0) rfl) pa_nil)) (pa_c (pe_callB call_len_seq (by rfl) T.free_len PySem.boot_len (pa_c (pe_fld (pv 0) rfl) pa_nil)) (pa_c (pe_callB call_len_seq (by rfl) T.free_len PySem.boot_len (pa_c (pe_fld (pv 1) rfl) pa_nil)) pa_nil)))))))), ?rd⟩)
  case len =>
    obtain ⟨a, p, l, s, rfl, _⟩ := h
    rfl
  case rd =>
    obtain ⟨a, p, l, s, rfl, hL, hS, q⟩ := h
    refine q_asgL (xs := vI [l.holds, l.seasons, l.gate, l.rest]) (el_lst (ea_cons (ev_holds T (ev_var rfl) hL) (ea_cons (ev_seasons T (ev_var rfl) hL) (ea_cons (ev_gate T (ev_var rfl) hL) (ea_cons (ev_rest T (ev_var rfl) hL) ea_nil)))) (by show 4 ≤ 100000; decide)) fun d H1 nd e1 hd => ?_
    obtain ⟨kl, ks, ek, hkl, hks⟩ := ev_kinds (ta := tVar 0) (σ := [some (.ref a), some (.ref p), some (.ref d)]) T (ev_var rfl) (hL.ex e1)
    obtain ⟨tl, ts, et, htl, hts⟩ := ev_tables (ta := tVar 0) (σ := [some (.ref a), some (.ref p), some (.ref d)]) T (ev_var rfl) (hL.ex e1)
    obtain ⟨dq, rl, h6, as, h7, h8⟩ := mono_strat K _ _ _ _ e1 hS
    exact s_retL (xs := vI [l.holds, l.seasons, l.gate, l.rest] ++ vI [l.weathers.length, l.yields.length, s.rules.length]) (el_catE (ev_var rfl) hd (el_lst (ea_cons (ev_lenC ek (sq_of hkl) (by rw [List.length_map, hks.1])) (ea_cons (ev_lenC et (sq_of htl) (by rw [List.length_map, hts.1])) (ea_cons (ev_lenC (ev_fld (ev_var (i := 1) rfl) h6 T.cls_Strategy T.noat_Strategy_rules lk1) (sq_of h7) (by rw [List.length_map, h8.1])) ea_nil))) (by show 3 ≤ 100000; decide)) (by show 4 + 3 ≤ 100000; decide)) fun p' H2 np e2 h2 => q p' H2 (fresh_back e1 np) (e1.trans e2) h2
end
end Sl
namespace Sm
/-! ### the flat list of calls -/
theorem whole_eq (c : List (List Int)) : PyVbirak.whole c = c := by
  unfold PyVbirak.whole
  split <;> rfl
theorem answers_of {l : List Int} {cs : List (List (List Int))} (h : PyFlat.calls PyVbirak.shape l.length l = some cs) : PyVbirak.answers l = PyFlat.told (PyFlat.played VbirakNeutral.step VbirakNeutral.start cs) := by
  unfold PyVbirak.answers PyVbirak.calls
  rw [h]
  have e : cs.map PyVbirak.whole = cs := by
    have : PyVbirak.whole = id := funext whole_eq
    rw [this, List.map_id]
  dsimp only
  rw [e]
theorem asked_of {l : List Int} (h : PyVbirak.answers_asked l = true) : ∃ cs, PyFlat.calls PyVbirak.shape l.length l = some cs ∧ (∀ c ∈ cs, VbirakNeutral.asked1 c = true) ∧ (PyVbirak.answers l).length ≤ 10000000 := by
  unfold PyVbirak.answers_asked at h
  cases e : PyFlat.calls PyVbirak.shape l.length l with
  | none =>
    rw [e] at h
    cases h
  | some cs =>
    rw [e] at h
    dsimp only at h
    have e2 : cs.map PyVbirak.whole = cs := by
      have : PyVbirak.whole = id := funext whole_eq
      rw [this, List.map_id]
    rw [e2] at h
    unfold VbirakNeutral.asked PyFlat.short at h
    simp only [Bool.and_eq_true, decide_eq_true_eq, List.all_eq_true] at h
    exact ⟨cs, rfl, h.1.2.1.2.2, h.2⟩
theorem call_step {f : Nat} {p : Int} {r : List Int} {cs : List (List (List Int))} (h : PyFlat.calls PyVbirak.shape f (p :: r) = some cs) : ∃ g n k xs t cs', f = g + 1 ∧ PyVbirak.shape p = some (n, k) ∧ n ≤ r.length ∧ PyFlat.rows k (r.drop n) = some (xs, t) ∧ PyFlat.calls PyVbirak.shape g t = some cs' ∧ cs = ((p :: r.take n) :: xs) :: cs' := by
  cases f with
  | zero => cases h
  | succ g =>
    unfold PyFlat.calls at h
    cases e : PyFlat.call PyVbirak.shape (p :: r) with
    | none =>
      rw [e] at h
      cases h
    | some y =>
      obtain ⟨c, t⟩ := y
      rw [e] at h
      dsimp only at h
      cases e2 : PyFlat.calls PyVbirak.shape g t with
      | none =>
        rw [e2] at h
        cases h
      | some cs' =>
        rw [e2] at h
        unfold PyFlat.call at e
        dsimp only at e
        cases e3 : PyVbirak.shape p with
        | none =>
          rw [e3] at e
          cases e
        | some z =>
          obtain ⟨n, k⟩ := z
          rw [e3] at e
          dsimp only at e
          by_cases hn : r.length < n
          · rw [if_pos hn] at e
            cases e
          · rw [if_neg hn] at e
            cases e4 : PyFlat.rows k (r.drop n) with
            | none =>
              rw [e4] at e
              cases e
            | some w =>
              obtain ⟨xs, t'⟩ := w
              rw [e4] at e
              cases e
              cases h
              exact ⟨g, n, k, xs, t, cs', rfl, rfl, by omega, e4, e2, rfl⟩
theorem rows_one {R : List Int} {xs : List (List Int)} {t : List Int} (h : PyFlat.rows 1 R = some (xs, t)) : ∃ m q, R = m :: q ∧ 0 ≤ m ∧ m.toNat ≤ q.length ∧ xs = [q.take m.toNat] ∧ t = q.drop m.toNat := by
  unfold PyFlat.rows at h
  cases R with
  | nil => cases h
  | cons m q =>
    unfold PyFlat.row at h
    dsimp only at h
    by_cases hm : 0 ≤ m ∧ m.toNat ≤ q.length
    · rw [if_pos hm] at h
      dsimp only at h
      unfold PyFlat.rows at h
      cases h
      exact ⟨m, q, rfl, hm.1, hm.2, rfl, rfl⟩
    · rw [if_neg hm] at h
      cases h
theorem rows_none {R : List Int} {xs : List (List Int)} {t : List Int} (h : PyFlat.rows 0 R = some (xs, t)) : xs = [] ∧ t = R := by
  unfold PyFlat.rows at h
  cases h
  exact ⟨rfl, rfl⟩
/-- the shapes, place by place -/
def shapes : List (Nat × Nat) := [(0, 1), (0, 1), (0, 0), (3, 0), (2, 0), (2, 0), (2, 1), (0, 1), (0, 0), (2, 0), (2, 1), (2, 1), (3, 0), (0, 0), (0, 0), (0, 0)]
theorem shape_at {p : Int} {z : Nat × Nat} (h : PyVbirak.shape p = some z) : ∃ i : Nat, p = (i : Int) ∧ shapes[i]? = some z := by
  unfold PyVbirak.shape at h
  by_cases h0 : p = 0
  · rw [if_pos h0] at h
    exact ⟨0, h0, h⟩
  rw [if_neg h0] at h
  by_cases h1 : p = 1
  · rw [if_pos h1] at h
    exact ⟨1, h1, h⟩
  rw [if_neg h1] at h
  by_cases h2 : p = 2
  · rw [if_pos h2] at h
    exact ⟨2, h2, h⟩
  rw [if_neg h2] at h
  by_cases h3 : p = 3
  · rw [if_pos h3] at h
    exact ⟨3, h3, h⟩
  rw [if_neg h3] at h
  by_cases h4 : p = 4
  · rw [if_pos h4] at h
    exact ⟨4, h4, h⟩
  rw [if_neg h4] at h
  by_cases h5 : p = 5
  · rw [if_pos h5] at h
    exact ⟨5, h5, h⟩
  rw [if_neg h5] at h
  by_cases h6 : p = 6
  · rw [if_pos h6] at h
    exact ⟨6, h6, h⟩
  rw [if_neg h6] at h
  by_cases h7 : p = 7
  · rw [if_pos h7] at h
    exact ⟨7, h7, h⟩
  rw [if_neg h7] at h
  by_cases h8 : p = 8
  · rw [if_pos h8] at h
    exact ⟨8, h8, h⟩
  rw [if_neg h8] at h
  by_cases h9 : p = 9
  · rw [if_pos h9] at h
    exact ⟨9, h9, h⟩
  rw [if_neg h9] at h
  by_cases h10 : p = 10
  · rw [if_pos h10] at h
    exact ⟨10, h10, h⟩
  rw [if_neg h10] at h
  by_cases h11 : p = 11
  · rw [if_pos h11] at h
    exact ⟨11, h11, h⟩
  rw [if_neg h11] at h
  by_cases h12 : p = 12
  · rw [if_pos h12] at h
    exact ⟨12, h12, h⟩
  rw [if_neg h12] at h
  by_cases h13 : p = 13
  · rw [if_pos h13] at h
    exact ⟨13, h13, h⟩
  rw [if_neg h13] at h
  by_cases h14 : p = 14
  · rw [if_pos h14] at h
    exact ⟨14, h14, h⟩
  rw [if_neg h14] at h
  by_cases h15 : p = 15
  · rw [if_pos h15] at h
    exact ⟨15, h15, h⟩
  rw [if_neg h15] at h
  cases h
theorem told_cons (a : List Int) (r : List (List Int)) : PyFlat.told (a :: r) = (a.length : Int) :: (a ++ PyFlat.told r) := by
  unfold PyFlat.told
  rw [List.flatMap_cons]
  rfl
/-- a call's list is not longer than told -/
theorem asked_row {c : List (List Int)} (h : VbirakNeutral.asked1 c = true) : ∀ h0 x, c = [h0, x] → x.length ≤ 1600 := by
  intro h0 x hc
  subst hc
  unfold VbirakNeutral.asked1 at h
  split at h <;> rename_i hc <;> first
    | (cases hc; unfold VbirakNeutral.row at h; simp only [Bool.and_eq_true, decide_eq_true_eq] at h; omega)
    | cases hc
    | cases h
end Sm
namespace Sm
/-- the calls as they may be asked: place, numbers, list -/
inductive Form : Int → List Int → List Int → Vbirak.Call → Prop
  | c0 (t : List Int) : t.length ≤ 1600 → Form 0 [] t (.lake t)
  | c1 (t : List Int) : t.length ≤ 1600 → Form 1 [] t (.whereIs t)
  | c2 (r : List Int) : Form 2 [] r .shown
  | c3 (a b c : Int) (r : List Int) : Form 3 [a, b, c] r (.at_ a b c)
  | c4 (a b : Int) (r : List Int) : Form 4 [a, b] r (.table a b)
  | c5 (a b : Int) (r : List Int) : Form 5 [a, b] r (.worst a b)
  | c6 (a b : Int) (t : List Int) : t.length ≤ 1600 → Form 6 [a, b] t (.play a b t)
  | c7 (t : List Int) : t.length ≤ 1600 → Form 7 [] t (.strategy t)
  | c8 (r : List Int) : Form 8 [] r .told
  | c9 (a b : Int) (r : List Int) : Form 9 [a, b] r (.sure a b)
  | c10 (a b : Int) (t : List Int) : t.length ≤ 1600 → Form 10 [a, b] t (.against a b t)
  | c11 (a b : Int) (t : List Int) : t.length ≤ 1600 → Form 11 [a, b] t (.known a b t)
  | c12 (a b c : Int) (r : List Int) : Form 12 [a, b, c] r (.more a b c)
  | c13 (r : List Int) : Form 13 [] r .weathers
  | c14 (r : List Int) : Form 14 [] r .counts
  | c15 (r : List Int) : Form 15 [] r .clear
theorem form_of {c : List (List Int)} {p : Int} {ns row : List Int} (h : VbirakNeutral.asked1 c = true) (hc : c = [p :: ns] ∨ c = [p :: ns, row]) : ∃ k, Form p ns row k ∧ VbirakNeutral.call c = some k := by
  have hr := asked_row h
  rcases hc with rfl | rfl
  · unfold VbirakNeutral.asked1 at h
    split at h <;> rename_i hc <;> first
      | (cases h; done)
      | cases hc
    all_goals first
      | exact ⟨_, .c2 _, rfl⟩
      | exact ⟨_, .c3 _ _ _ _, rfl⟩
      | exact ⟨_, .c4 _ _ _, rfl⟩
      | exact ⟨_, .c5 _ _ _, rfl⟩
      | exact ⟨_, .c8 _, rfl⟩
      | exact ⟨_, .c9 _ _ _, rfl⟩
      | exact ⟨_, .c12 _ _ _ _, rfl⟩
      | exact ⟨_, .c13 _, rfl⟩
      | exact ⟨_, .c14 _, rfl⟩
      | exact ⟨_, .c15 _, rfl⟩
  · have hrow := hr _ _ rfl
    unfold VbirakNeutral.asked1 at h
    split at h <;> rename_i hc <;> first
      | (cases h; done)
      | cases hc
    all_goals first
      | exact ⟨_, .c0 _ hrow, rfl⟩
      | exact ⟨_, .c1 _ hrow, rfl⟩
      | exact ⟨_, .c6 _ _ _ hrow, rfl⟩
      | exact ⟨_, .c7 _ hrow, rfl⟩
      | exact ⟨_, .c10 _ _ _ hrow, rfl⟩
      | exact ⟨_, .c11 _ _ _ hrow, rfl⟩
theorem step_of {s : Vbirak.State} {c : List (List Int)} {k : Vbirak.Call} (h : VbirakNeutral.call c = some k) : VbirakNeutral.step s c = Vbirak.step s k := by
  unfold VbirakNeutral.step
  rw [h]
end Sm
namespace Sl
open PySem PySem.Spec PyProof.Rows L2
open Evl
open Vbirak (Lake Weather)
open Sm
namespace Tx
variable {K : PySem.W.Frag} {mg : Str → Option Value}
theorem tup_CALLS_WITHOUT_LAKE (T : Tx K mg) (H : Hp) : SqT K H (He.ga K "CALLS_WITHOUT_LAKE") (Sl.tup_CALLS_WITHOUT_LAKE.map (He.Dv.v K)) := He.tupB_ok (vs := Sl.tup_CALLS_WITHOUT_LAKE) (He.ba (He.ba (He.ba (He.ba (He.ba T.t.m).2).2).2).2).1 H
theorem tup_NUMBERS (T : Tx K mg) (H : Hp) : SqT K H (He.ga K "NUMBERS") (Sl.tup_NUMBERS.map (He.Dv.v K)) := He.tupB_ok (vs := Sl.tup_NUMBERS) (He.ba (He.ba (He.ba (He.ba (He.ba (He.ba T.t.m).2).2).2).2).2).1 H
theorem tup_CALLS_WITH_LIST (T : Tx K mg) (H : Hp) : SqT K H (He.ga K "CALLS_WITH_LIST") (Sl.tup_CALLS_WITH_LIST.map (He.Dv.v K)) := He.tupB_ok (vs := Sl.tup_CALLS_WITH_LIST) (He.ba (He.ba (He.ba (He.ba (He.ba (He.ba (He.ba T.t.m).2).2).2).2).2).2).1 H
theorem tup_RECKONINGS (T : Tx K mg) (H : Hp) : SqT K H (He.ga K "RECKONINGS") (Sl.tup_RECKONINGS.map (He.Dv.v K)) := He.tupB_ok (vs := Sl.tup_RECKONINGS) (He.ba (He.ba (He.ba (He.ba (He.ba (He.ba (He.ba T.t.m).2).2).2).2).2).2).2 H
end Tx
def spCall (K : PySem.W.Frag) : Sp := fun vs H Q _ => ∃ (an kp np rp : Addr) (s : Vbirak.State) (p : Int) (ns row : List Int) (c : List (List Int)), vs = [.ref kp, .int p, .ref np, .ref rp] ∧ KpAt K an H kp s ∧ H np = some (.lst (vZ ns)) ∧ np ≠ kp ∧ H rp = some (.lst (vZ row)) ∧ rp ≠ kp ∧ VbirakNeutral.asked1 c = true ∧ (c = [p :: ns] ∨ c = [p :: ns, row]) ∧ Ans K an kp H Q (VbirakNeutral.step s c)
section
variable {K : PySem.W.Frag} {σ : L2.St} {H : Hp} {tu tz : TS} {D : Ends} {i k : Int}
theorem s_retC {sp : Sp} {E : XK} {ta : TA} {vs : List V} (h : EvA ta σ H vs) (k : ∀ H1, Ex H H1 → sp (vs ++ []) H1 D.rt E) : tRet (tCall sp [] E ta) D σ H := h H (Ex.refl H) _ k
theorem et_eqI {ta : TE} (h : Ev ta σ H (.int i)) : EvT (tTest (tOp rEq ta (tC (.int k)))) σ H (decide (i = k)) := et_is (et_test (ev_op h ev_c (rv_eq rfl))) (by
  refine decide_eq_decide.mpr ⟨fun z => ?_, fun z => by rw [z]⟩
  injection z)
/-- if call == k: .., not this call | this call -/
theorem q_skip {ta : TE} (h : Ev ta σ H (.int i)) (e : decide (i = k) = false) (c : ∀ H1, Ex H H1 → tz D σ H1) : tSeq (tIfS (tTest (tOp rEq ta (tC (.int k)))) tu tNext) tz D σ H := q_when (et_is (et_eqI h) e) (fun hb => by cases hb) fun _ => c
theorem q_take {ta : TE} (h : Ev ta σ H (.int i)) (e : decide (i = k) = true) (c : ∀ H1, Ex H H1 → tu { D with nx := tz D } σ H1) : tSeq (tIfS (tTest (tOp rEq ta (tC (.int k)))) tu tNext) tz D σ H := q_when (et_is (et_eqI h) e) (fun _ => c) (fun hb => by cases hb)
end
theorem written_len {l : Lake} (F : Fit l) : (Vbirak.written l).length ≤ 40000 := by
  have hw2 := F.w2
  have hy2 := F.y2
  have l0 := line_ok (ws0_ok F)
  rw [ws0_eq] at l0
  have l0 : (line0 l).length ≤ 11 * 8 + 2 := l0
  have l1 := take_len (i := l.weathers.length) (f := lineW l) (fun x hx => lineW_len F hx) hw2
  have l2 := take_len (i := l.yields.length) (f := lineY) (fun x hx => lineY_len F hx) hy2
  rw [List.take_length] at l1 l2
  rw [written_eq, List.length_append, List.length_append]
  omega
def reck (p : Int) : Bool := [3, 4, 5, 6, 9, 10, 11, 12].contains p
def noLake (p : Int) : Bool := [0, 1, 15].contains p
section
variable {P : Program} {w : World} {K : PySem.W.Frag} {mg : Str → Option Value} {base : Heap}
def spReckon (K : PySem.W.Frag) : Sp := fun vs H Q _ => ∃ (an kp np rp : Addr) (s : Vbirak.State) (l : Lake) (p : Int) (ns row : List Int) (kc : Vbirak.Call), vs = [.ref kp, .int p, .ref np, .ref rp] ∧ KpAt K an H kp s ∧ s.lake = some l ∧ H np = some (.lst (vZ ns)) ∧ H rp = some (.lst (vZ row)) ∧ rp ≠ kp ∧ Form p ns row kc ∧ reck p = true ∧ Ans K an kp H Q (Vbirak.doing s l kc)
theorem ok_answer_reckoning (T : Tx K mg) (F_look_at : Fn P w K mg base 7 (He.ga K "look_at") ["keeper", "season", "level", "before"] (spAt K)) (F_look_at_table : Fn P w K mg base 7 (He.ga K "look_at_table") ["keeper", "season", "before"] (spTable K)) (F_pass_worst : Fn P w K mg base 7 (He.ga K "pass_worst") ["keeper", "level", "before"] (spWorst K)) (F_pass_by_best : Fn P w K mg base 7 (He.ga K "pass_by_best") ["keeper", "level", "before", "weather"] (spPlay K)) (F_look_at_strategy : Fn P w K mg base 8 (He.ga K "look_at_strategy") ["keeper", "level", "before"] (spSure K)) (F_pass_by_strategy : Fn P w K mg base 7 (He.ga K "pass_by_strategy") ["keeper", "level", "before", "weather"] (spAgainst K)) (F_look_back : Fn P w K mg base 7 (He.ga K "look_back") ["keeper", "level", "before", "weather"] (spBack K)) (F_look_at_greater : Fn P w K mg base 7 (He.ga K "look_at_greater") ["keeper", "more", "level", "before"] (spMore K)) : Fn P w K mg base 9 (He.ga K "answer_reckoning") ["keeper", "call", "numbers", "row"] (spReckon K) := by
  have sc : FnScope ["keeper", "call", "numbers", "row"] ["keeper", "call", "numbers", "row"] (defScope s_answer_reckoning) := ⟨rfl, rfl, rfl, by decide +kernel, rfl, by decide +kernel, by decide +kernel⟩
  refine fn_mk (k := 8) T.fun_answer_reckoning sc (fun _ _ _ _ _ _ us hl => match us, hl with | [_, _, _, _], _ => rfl) (fun vs H Q E h => ?len) (fun cdv A outer s H vs Q E hr h => ⟨_, (pss_cons (ps_if (pt_cmpR op_eq (pv 1) pe_int (nomark _)) (pss_one (ps_ret (pe_f F_look_at hr (by decide) T.glo_look_at (passes_call (takes_of rfl rfl rfl rfl) (fun _ _ _ _ h => h)) (pa_c (pv 0) (pa_c (pe_ix ix_list (pv 2) pe_int (fun _ _ => rfl)) (pa_c (pe_ix ix_list (pv 2) pe_int (fun _ _ => rfl)) (pa_c (pe_ix ix_list (pv 2) pe_int (fun _ _ => rfl)) pa_nil))))))) pss_nil)
      (pss_cons (ps_if (pt_cmpR op_eq (pv 1) pe_int (nomark _)) (pss_one (ps_ret (pe_f F_look_at_table hr (by decide) T.glo_look_at_table (passes_call (takes_of rfl rfl rfl rfl) (fun _ _ _ _ h => h)) (pa_c (pv 0) (pa_c (pe_ix ix_list (pv 2) pe_int (fun _ _ => rfl)) (pa_c (pe_ix ix_list (pv 2) pe_int (fun _ _ => rfl)) pa_nil)))))) pss_nil)
      (pss_cons (ps_if (pt_cmpR op_eq (pv 1) pe_int (nomark _)) (pss_one (ps_ret (pe_f F_pass_worst hr (by decide) T.glo_pass_worst (passes_call (takes_of rfl rfl rfl rfl) (fun _ _ _ _ h => h)) (pa_c (pv 0) (pa_c (pe_ix ix_list (pv 2) pe_int (fun _ _ => rfl)) (pa_c (pe_ix ix_list (pv 2) pe_int (fun _ _ => rfl)) pa_nil)))))) pss_nil)
      (pss_cons (ps_if (pt_cmpR op_eq (pv 1) pe_int (nomark _)) (pss_one (ps_ret (pe_f F_pass_by_best hr (by decide) T.glo_pass_by_best (passes_call (takes_of rfl rfl rfl rfl) (fun _ _ _ _ h => h)) (pa_c (pv 0) (pa_c (pe_ix ix_list (pv 2) pe_int (fun _ _ => rfl)) (pa_c (pe_ix ix_list (pv 2) pe_int (fun _ _ => rfl)) (pa_c (pv 3) pa_nil))))))) pss_nil)
      (pss_cons (ps_if (pt_cmpR op_eq (pv 1) pe_int (nomark _)) (pss_one (ps_ret (pe_f F_look_at_strategy hr (by decide) T.glo_look_at_strategy (passes_call (takes_of rfl rfl rfl rfl) (fun _ _ _ _ h => h)) (pa_c (pv 0) (pa_c (pe_ix ix_list (pv 2) pe_int (fun _ _ => rfl)) (pa_c (pe_ix ix_list (pv 2) pe_int (fun _ _ => rfl)) pa_nil)))))) pss_nil)
      (pss_cons (ps_if (pt_cmpR op_eq (pv 1) pe_int (nomark _)) (pss_one (ps_ret (pe_f F_pass_by_strategy hr (by decide) T.glo_pass_by_strategy (passes_call (takes_of rfl rfl rfl rfl) (fun _ _ _ _ h => h)) (pa_c (pv 0) (pa_c (pe_ix ix_list (pv 2) pe_int (fun _ _ => rfl)) (pa_c (pe_ix ix_list (pv 2) pe_int (fun _ _ => rfl)) (pa_c (pv 3) pa_nil))))))) pss_nil)
      (pss_cons (ps_if (pt_cmpR op_eq (pv 1) pe_int (nomark _)) (pss_one (ps_ret (pe_f F_look_back hr (by decide) T.glo_look_back (passes_call (takes_of rfl rfl rfl rfl) (fun _ _ _ _ h => h)) (pa_c (pv 0) (pa_c (pe_ix ix_list (pv 2) pe_int (fun _ _ => rfl)) (pa_c (pe_ix ix_list (pv 2) pe_int (fun _ _ => rfl)) (pa_c (pv 3) pa_nil))))))) pss_nil)
      (pss_one (ps_ret (pe_f F_look_at_greater hr (by decide) T.glo_look_at_greater (passes_call (takes_of rfl rfl rfl rfl) (fun _ _ _ _ h => h)) (pa_c (pv 0) (pa_c (pe_ix ix_list (pv 2) pe_int (fun _ _ => rfl)) (pa_c (pe_ix ix_list (pv 2) pe_int (fun _ _ => rfl)) (pa_c (pe_ix ix_list (pv 2) pe_int (fun _ _ => rfl)) pa_nil)))))))))))))), ?rd⟩)
  case len =>
    obtain ⟨an, kp, np, rp, s, l, p, ns, row, kc, rfl, _⟩ := h
    rfl
  case rd =>
    obtain ⟨an, kp, np, rp, s, l, p, ns, row, kc, rfl, hk, hl, hn, hr, hrk, fm, hre, a⟩ := h
    have hL : ∀ H', Ex H H' → KpAt K an H' kp s := fun H' e => hk.ex e
    have hA : ∀ H', Ex H H' → Ans K an kp H' Q (Vbirak.doing s l kc) := fun H' e => a.go (But.of e)
    have hR : ∀ H', Ex H H' → H' rp = some (.lst (vZ row)) := fun H' e => e _ _ hr
    have hG : ∀ H', Ex H H' → SqL K H' np (vZ ns) := fun H' e => sq_of (e _ _ hn)
    clear hk hn hr a
    cases fm
    case c0 => exact absurd hre (by decide)
    case c1 => exact absurd hre (by decide)
    case c2 => exact absurd hre (by decide)
    case c3 x y z =>
      refine q_take (ev_var rfl) (by decide) fun G0 g0 => ?_
      exact s_retC (ea_cons (ev_var rfl) (ea_cons (ev_op (ev_var rfl) ev_c (rv_ixL (hG _ g0) rfl)) (ea_cons (ev_op (ev_var rfl) ev_c (rv_ixL (hG _ g0) rfl)) (ea_cons (ev_op (ev_var rfl) ev_c (rv_ixL (hG _ g0) rfl)) ea_nil)))) fun H5 e5 => ⟨an, kp, s, l, x, y, z, rfl, hL _ (g0.trans e5), hl, hA _ (g0.trans e5)⟩
    case c4 x y =>
      refine q_skip (ev_var rfl) (by decide) fun G0 g0 => ?_
      refine q_take (ev_var rfl) (by decide) fun G1 g1 => ?_
      exact s_retC (ea_cons (ev_var rfl) (ea_cons (ev_op (ev_var rfl) ev_c (rv_ixL (hG _ (g0.trans g1)) rfl)) (ea_cons (ev_op (ev_var rfl) ev_c (rv_ixL (hG _ (g0.trans g1)) rfl)) ea_nil))) fun H5 e5 => ⟨an, kp, s, l, x, y, rfl, hL _ ((g0.trans g1).trans e5), hl, hA _ ((g0.trans g1).trans e5)⟩
    case c5 x y =>
      refine q_skip (ev_var rfl) (by decide) fun G0 g0 => ?_
      refine q_skip (ev_var rfl) (by decide) fun G1 g1 => ?_
      refine q_take (ev_var rfl) (by decide) fun G2 g2 => ?_
      exact s_retC (ea_cons (ev_var rfl) (ea_cons (ev_op (ev_var rfl) ev_c (rv_ixL (hG _ ((g0.trans g1).trans g2)) rfl)) (ea_cons (ev_op (ev_var rfl) ev_c (rv_ixL (hG _ ((g0.trans g1).trans g2)) rfl)) ea_nil))) fun H5 e5 => ⟨an, kp, s, l, x, y, rfl, hL _ (((g0.trans g1).trans g2).trans e5), hl, hA _ (((g0.trans g1).trans g2).trans e5)⟩
    case c6 x y ht =>
      refine q_skip (ev_var rfl) (by decide) fun G0 g0 => ?_
      refine q_skip (ev_var rfl) (by decide) fun G1 g1 => ?_
      refine q_skip (ev_var rfl) (by decide) fun G2 g2 => ?_
      refine q_take (ev_var rfl) (by decide) fun G3 g3 => ?_
      exact s_retC (ea_cons (ev_var rfl) (ea_cons (ev_op (ev_var rfl) ev_c (rv_ixL (hG _ (((g0.trans g1).trans g2).trans g3)) rfl)) (ea_cons (ev_op (ev_var rfl) ev_c (rv_ixL (hG _ (((g0.trans g1).trans g2).trans g3)) rfl)) (ea_cons (ev_var rfl) ea_nil)))) fun H5 e5 => ⟨an, kp, rp, s, l, x, y, row, rfl, hL _ ((((g0.trans g1).trans g2).trans g3).trans e5), hl, hR _ ((((g0.trans g1).trans g2).trans g3).trans e5), hrk, ht, hA _ ((((g0.trans g1).trans g2).trans g3).trans e5)⟩
    case c7 => exact absurd hre (by decide)
    case c8 => exact absurd hre (by decide)
    case c9 x y =>
      refine q_skip (ev_var rfl) (by decide) fun G0 g0 => ?_
      refine q_skip (ev_var rfl) (by decide) fun G1 g1 => ?_
      refine q_skip (ev_var rfl) (by decide) fun G2 g2 => ?_
      refine q_skip (ev_var rfl) (by decide) fun G3 g3 => ?_
      refine q_take (ev_var rfl) (by decide) fun G4 g4 => ?_
      exact s_retC (ea_cons (ev_var rfl) (ea_cons (ev_op (ev_var rfl) ev_c (rv_ixL (hG _ ((((g0.trans g1).trans g2).trans g3).trans g4)) rfl)) (ea_cons (ev_op (ev_var rfl) ev_c (rv_ixL (hG _ ((((g0.trans g1).trans g2).trans g3).trans g4)) rfl)) ea_nil))) fun H5 e5 => ⟨an, kp, s, l, x, y, rfl, hL _ (((((g0.trans g1).trans g2).trans g3).trans g4).trans e5), hl, hA _ (((((g0.trans g1).trans g2).trans g3).trans g4).trans e5)⟩
    case c10 x y ht =>
      refine q_skip (ev_var rfl) (by decide) fun G0 g0 => ?_
      refine q_skip (ev_var rfl) (by decide) fun G1 g1 => ?_
      refine q_skip (ev_var rfl) (by decide) fun G2 g2 => ?_
      refine q_skip (ev_var rfl) (by decide) fun G3 g3 => ?_
      refine q_skip (ev_var rfl) (by decide) fun G4 g4 => ?_
      refine q_take (ev_var rfl) (by decide) fun G5 g5 => ?_
      exact s_retC (ea_cons (ev_var rfl) (ea_cons (ev_op (ev_var rfl) ev_c (rv_ixL (hG _ (((((g0.trans g1).trans g2).trans g3).trans g4).trans g5)) rfl)) (ea_cons (ev_op (ev_var rfl) ev_c (rv_ixL (hG _ (((((g0.trans g1).trans g2).trans g3).trans g4).trans g5)) rfl)) (ea_cons (ev_var rfl) ea_nil)))) fun H5 e5 => ⟨an, kp, rp, s, l, x, y, row, rfl, hL _ ((((((g0.trans g1).trans g2).trans g3).trans g4).trans g5).trans e5), hl, hR _ ((((((g0.trans g1).trans g2).trans g3).trans g4).trans g5).trans e5), hrk, ht, hA _ ((((((g0.trans g1).trans g2).trans g3).trans g4).trans g5).trans e5)⟩
    case c11 x y ht =>
      refine q_skip (ev_var rfl) (by decide) fun G0 g0 => ?_
      refine q_skip (ev_var rfl) (by decide) fun G1 g1 => ?_
      refine q_skip (ev_var rfl) (by decide) fun G2 g2 => ?_
      refine q_skip (ev_var rfl) (by decide) fun G3 g3 => ?_
      refine q_skip (ev_var rfl) (by decide) fun G4 g4 => ?_
      refine q_skip (ev_var rfl) (by decide) fun G5 g5 => ?_
      refine q_take (ev_var rfl) (by decide) fun G6 g6 => ?_
      exact s_retC (ea_cons (ev_var rfl) (ea_cons (ev_op (ev_var rfl) ev_c (rv_ixL (hG _ ((((((g0.trans g1).trans g2).trans g3).trans g4).trans g5).trans g6)) rfl)) (ea_cons (ev_op (ev_var rfl) ev_c (rv_ixL (hG _ ((((((g0.trans g1).trans g2).trans g3).trans g4).trans g5).trans g6)) rfl)) (ea_cons (ev_var rfl) ea_nil)))) fun H5 e5 => ⟨an, kp, rp, s, l, x, y, row, rfl, hL _ (((((((g0.trans g1).trans g2).trans g3).trans g4).trans g5).trans g6).trans e5), hl, hR _ (((((((g0.trans g1).trans g2).trans g3).trans g4).trans g5).trans g6).trans e5), hrk, ht, hA _ (((((((g0.trans g1).trans g2).trans g3).trans g4).trans g5).trans g6).trans e5)⟩
    case c12 x y z =>
      refine q_skip (ev_var rfl) (by decide) fun G0 g0 => ?_
      refine q_skip (ev_var rfl) (by decide) fun G1 g1 => ?_
      refine q_skip (ev_var rfl) (by decide) fun G2 g2 => ?_
      refine q_skip (ev_var rfl) (by decide) fun G3 g3 => ?_
      refine q_skip (ev_var rfl) (by decide) fun G4 g4 => ?_
      refine q_skip (ev_var rfl) (by decide) fun G5 g5 => ?_
      refine q_skip (ev_var rfl) (by decide) fun G6 g6 => ?_
      exact s_retC (ea_cons (ev_var rfl) (ea_cons (ev_op (ev_var rfl) ev_c (rv_ixL (hG _ ((((((g0.trans g1).trans g2).trans g3).trans g4).trans g5).trans g6)) rfl)) (ea_cons (ev_op (ev_var rfl) ev_c (rv_ixL (hG _ ((((((g0.trans g1).trans g2).trans g3).trans g4).trans g5).trans g6)) rfl)) (ea_cons (ev_op (ev_var rfl) ev_c (rv_ixL (hG _ ((((((g0.trans g1).trans g2).trans g3).trans g4).trans g5).trans g6)) rfl)) ea_nil)))) fun H5 e5 => ⟨an, kp, s, l, x, y, z, rfl, hL _ (((((((g0.trans g1).trans g2).trans g3).trans g4).trans g5).trans g6).trans e5), hl, hA _ (((((((g0.trans g1).trans g2).trans g3).trans g4).trans g5).trans g6).trans e5)⟩
    case c13 => exact absurd hre (by decide)
    case c14 => exact absurd hre (by decide)
    case c15 => exact absurd hre (by decide)
def spTell (K : PySem.W.Frag) : Sp := fun vs H Q _ => ∃ (an kp rp : Addr) (s : Vbirak.State) (p : Int) (ns row : List Int) (kc : Vbirak.Call), vs = [.ref kp, .int p, .ref rp] ∧ KpAt K an H kp s ∧ H rp = some (.lst (vZ row)) ∧ Form p ns row kc ∧ reck p = false ∧ (noLake p = false → ∃ l, s.lake = some l) ∧ Ans K an kp H Q (Vbirak.step s kc)
theorem ok_answer_telling (T : Tx K mg) (F_take_lake : Fn P w K mg base 9 (He.ga K "take_lake") ["keeper", "text"] (spTakeLake K)) (F_find_wrong : Fn P w K mg base 9 (He.ga K "find_wrong") ["text"] (spFindWrong K)) (F_show_lake : Fn P w K mg base 2 (He.ga K "show_lake") ["lake"] (spShow K)) (F_take_strategy : Fn P w K mg base 9 (He.ga K "take_strategy") ["keeper", "text"] (spTakeStrategy K)) (F_show_strategy : Fn P w K mg base 3 (He.ga K "show_strategy") ["lake", "strategy"] (spShowS K)) (F_list_weathers : Fn P w K mg base 2 (He.ga K "list_weathers") ["lake"] (spListW K)) (F_list_counts : Fn P w K mg base 1 (He.ga K "list_counts") ["lake", "strategy"] (spCounts K)) (F_Keeper_put_lake : Fn P w K mg base 3 (He.ma K (He.ga K "Keeper") "put_lake") ["self", "lake"] (spPutLake K)) : Fn P w K mg base 10 (He.ga K "answer_telling") ["keeper", "call", "row"] (spTell K) := by
  have sc : FnScope ["keeper", "call", "row"] ["keeper", "call", "row"] (defScope s_answer_telling) := ⟨rfl, rfl, rfl, by decide +kernel, rfl, by decide +kernel, by decide +kernel⟩
  refine fn_mk (k := 9) T.fun_answer_telling sc (fun _ _ _ _ _ _ us hl => match us, hl with | [_, _, _], _ => rfl) (fun vs H Q E h => ?len) (fun cdv A outer s H vs Q E hr h => ⟨_, (pss_cons (ps_if (pt_cmpR op_eq (pv 1) pe_int (nomark _)) (pss_one (ps_ret (pe_f F_take_lake hr (by decide) T.glo_take_lake (passes_call (takes_of rfl rfl rfl rfl) (fun _ _ _ _ h => h)) (pa_c (pv 0) (pa_c (pv 2) pa_nil))))) pss_nil)
      (pss_cons (ps_if (pt_cmpR op_eq (pv 1) pe_int (nomark _)) (pss_one (ps_ret (pe_f F_find_wrong hr (by decide) T.glo_find_wrong (passes_call (takes_of rfl rfl rfl rfl) (fun _ _ _ _ h => h)) (pa_c (pv 2) pa_nil)))) pss_nil)
      (pss_cons (ps_if (pt_cmpR op_eq (pv 1) pe_int (nomark _)) (pss_one (ps_ret (pe_op op_cat (pe_lst (pa_c pe_int pa_nil)) (pe_f F_show_lake hr (by decide) T.glo_show_lake (passes_call (takes_of rfl rfl rfl rfl) (fun _ _ _ _ h => h)) (pa_c (pe_fld (pv 0) rfl) pa_nil))))) pss_nil)
      (pss_cons (ps_if (pt_cmpR op_eq (pv 1) pe_int (nomark _)) (pss_one (ps_ret (pe_f F_take_strategy hr (by decide) T.glo_take_strategy (passes_call (takes_of rfl rfl rfl rfl) (fun _ _ _ _ h => h)) (pa_c (pv 0) (pa_c (pv 2) pa_nil))))) pss_nil)
      (pss_cons (ps_if (pt_cmpR op_eq (pv 1) pe_int (nomark _)) (pss_one (ps_ret (pe_op op_cat (pe_lst (pa_c pe_int pa_nil)) (pe_f F_show_strategy hr (by decide) T.glo_show_strategy (passes_call (takes_of rfl rfl rfl rfl) (fun _ _ _ _ h => h)) (pa_c (pe_fld (pv 0) rfl) (pa_c (pe_fld (pv 0) rfl) pa_nil)))))) pss_nil)
      (pss_cons (ps_if (pt_cmpR op_eq (pv 1) pe_int (nomark _)) (pss_one (ps_ret (pe_op op_cat (pe_lst (pa_c pe_int pa_nil)) (pe_f F_list_weathers hr (by decide) T.glo_list_weathers (passes_call (takes_of rfl rfl rfl rfl) (fun _ _ _ _ h => h)) (pa_c (pe_fld (pv 0) rfl) pa_nil))))) pss_nil)
      (pss_cons (ps_if (pt_cmpR op_eq (pv 1) pe_int (nomark _)) (pss_one (ps_ret (pe_op op_cat (pe_lst (pa_c pe_int pa_nil)) (pe_f F_list_counts hr (by decide) T.glo_list_counts (passes_call (takes_of rfl rfl rfl rfl) (fun _ _ _ _ h => h)) (pa_c (pe_fld (pv 0) rfl) (pa_c (pe_fld (pv 0) rfl) pa_nil)))))) pss_nil)
      (pss_cons (ps_expr (pe_m F_Keeper_put_lake hr (by decide) (pv 0) T.cls_Keeper T.meth_Keeper_put_lake (passes_call (takes_of rfl rfl rfl rfl) (fun _ _ _ _ h => h)) (pa_c pe_non pa_nil)))
      (pss_one (ps_ret (pe_lst (pa_c pe_int pa_nil)))))))))))), ?rd⟩)
  case len =>
    obtain ⟨an, kp, rp, s, p, ns, row, kc, rfl, _⟩ := h
    rfl
  case rd =>
    obtain ⟨an, kp, rp, s, p, ns, row, kc, rfl, hk, hr, fm, hre, hlk, a⟩ := h
    have hL : ∀ H', Ex H H' → KpAt K an H' kp s := fun H' e => hk.ex e
    have hA : ∀ H', Ex H H' → Ans K an kp H' Q (Vbirak.step s kc) := fun H' e => a.go (But.of e)
    have hR : ∀ H', Ex H H' → H' rp = some (.lst (vZ row)) := fun H' e => e _ _ hr
    have hD : ∀ l, s.lake = some l → noLake p = false → ∀ H', Ex H H' → Ans K an kp H' Q (Vbirak.doing s l kc) := fun l hl hp H' e => by
      have := hA H' e
      cases fm <;> first
        | (exfalso; exact absurd hp (by decide))
        | (unfold Vbirak.step at this; rw [hl] at this; exact this)
    clear hk hr a
    cases fm
    case c0 ht =>
      refine q_take (ev_var rfl) (by decide) fun G0 g0 => ?_
      exact ⟨_, rfl, _, rfl, an, kp, rp, s, row, rfl, hL _ g0, hR _ g0, ht, hA _ g0⟩
    case c1 ht =>
      refine q_skip (ev_var rfl) (by decide) fun G0 g0 => ?_
      refine q_take (ev_var rfl) (by decide) fun G1 g1 => ?_
      exact ⟨_, rfl, an, kp, rp, s, row, rfl, hL _ (g0.trans g1), hR _ (g0.trans g1), ht, hA _ (g0.trans g1)⟩
    case c2 =>
      obtain ⟨l, hl⟩ := hlk (by decide)
      have hA2 := hD l hl (by decide)
      refine q_skip (ev_var rfl) (by decide) fun G0 g0 => ?_
      refine q_skip (ev_var rfl) (by decide) fun G1 g1 => ?_
      refine q_take (ev_var rfl) (by decide) fun G2 g2 => ?_
      obtain ⟨la, el, hLa, F⟩ := ev_klake (K := K) (ta := tVar 0) (σ := [some (.ref kp), some (.int 2), some (.ref rp)]) T (ev_var rfl) (hL _ ((g0.trans g1).trans g2)) hl
      have hw := written_len F
      have hz : vZ (0 :: Vbirak.nums (Vbirak.written l)) = [.int 0] ++ vI (Vbirak.written l) := by
        rw [← vZ_nums]
        rfl
      refine s_ans (zs := 0 :: Vbirak.nums (Vbirak.written l)) ?_ (hL _ ((g0.trans g1).trans g2)) (hA2 _ ((g0.trans g1).trans g2))
      rw [hz]
      refine el_catL (el_lst (ea_cons ev_c ea_nil) (by show 1 ≤ 100000; decide)) (el_call (sp := spShow K) (ea_cons el ea_nil) fun H5 e5 Q q E => ⟨la, l, rfl, hLa.ex (g2_sub.trans e5), F, q⟩) ?_
      rw [vI_len]
      show 1 + _ ≤ 100000
      omega
    case c3 => exact absurd hre (by decide)
    case c4 => exact absurd hre (by decide)
    case c5 => exact absurd hre (by decide)
    case c6 => exact absurd hre (by decide)
    case c7 ht =>
      obtain ⟨l, hl⟩ := hlk (by decide)
      have hA2 := hD l hl (by decide)
      refine q_skip (ev_var rfl) (by decide) fun G0 g0 => ?_
      refine q_skip (ev_var rfl) (by decide) fun G1 g1 => ?_
      refine q_skip (ev_var rfl) (by decide) fun G2 g2 => ?_
      refine q_take (ev_var rfl) (by decide) fun G3 g3 => ?_
      exact ⟨_, rfl, _, rfl, an, kp, rp, s, l, row, rfl, hL _ (((g0.trans g1).trans g2).trans g3), hl, hR _ (((g0.trans g1).trans g2).trans g3), ht, hA2 _ (((g0.trans g1).trans g2).trans g3)⟩
    case c8 =>
      obtain ⟨l, hl⟩ := hlk (by decide)
      have hA2 := hD l hl (by decide)
      refine q_skip (ev_var rfl) (by decide) fun G0 g0 => ?_
      refine q_skip (ev_var rfl) (by decide) fun G1 g1 => ?_
      refine q_skip (ev_var rfl) (by decide) fun G2 g2 => ?_
      refine q_skip (ev_var rfl) (by decide) fun G3 g3 => ?_
      refine q_take (ev_var rfl) (by decide) fun G4 g4 => ?_
      obtain ⟨la, el, hLa, F⟩ := ev_klake (K := K) (ta := tVar 0) (σ := [some (.ref kp), some (.int 8), some (.ref rp)]) T (ev_var rfl) (hL _ ((((g0.trans g1).trans g2).trans g3).trans g4)) hl
      obtain ⟨qs, eqs, hqs, SF⟩ := ev_kstrat (K := K) (ta := tVar 0) (σ := [some (.ref kp), some (.int 8), some (.ref rp)]) T (ev_var rfl) (hL _ ((((g0.trans g1).trans g2).trans g3).trans g4)) hl
      have hw := told_len F SF
      have hz : vZ (0 :: Vbirak.nums (Vbirak.strategyText l s.strategy)) = [.int 0] ++ vI (Vbirak.strategyText l s.strategy) := by
        rw [← vZ_nums]
        rfl
      refine s_ans (zs := 0 :: Vbirak.nums (Vbirak.strategyText l s.strategy)) ?_ (hL _ ((((g0.trans g1).trans g2).trans g3).trans g4)) (hA2 _ ((((g0.trans g1).trans g2).trans g3).trans g4))
      rw [hz]
      refine el_catB (el_lst (ea_cons ev_c ea_nil) (by show 1 ≤ 100000; decide)) (el_call (sp := spShowS K) (ea_cons el (ea_cons eqs ea_nil)) fun H5 e5 Q q E => ⟨la, qs, l, s.strategy, rfl, hLa.ex (g2_sub.trans e5), F, mono_strat K _ _ _ _ (g2_sub.trans e5) hqs, SF, q⟩) ?_
      rw [vI_len]
      show 1 + _ ≤ 10000000
      omega
    case c9 => exact absurd hre (by decide)
    case c10 => exact absurd hre (by decide)
    case c11 => exact absurd hre (by decide)
    case c12 => exact absurd hre (by decide)
    case c13 =>
      obtain ⟨l, hl⟩ := hlk (by decide)
      have hA2 := hD l hl (by decide)
      refine q_skip (ev_var rfl) (by decide) fun G0 g0 => ?_
      refine q_skip (ev_var rfl) (by decide) fun G1 g1 => ?_
      refine q_skip (ev_var rfl) (by decide) fun G2 g2 => ?_
      refine q_skip (ev_var rfl) (by decide) fun G3 g3 => ?_
      refine q_skip (ev_var rfl) (by decide) fun G4 g4 => ?_
      refine q_take (ev_var rfl) (by decide) fun G5 g5 => ?_
      obtain ⟨la, el, hLa, F⟩ := ev_klake (K := K) (ta := tVar 0) (σ := [some (.ref kp), some (.int 13), some (.ref rp)]) T (ev_var rfl) (hL _ (((((g0.trans g1).trans g2).trans g3).trans g4).trans g5)) hl
      have hw := listed_len F l.weathers.length
      rw [List.take_length] at hw
      have hz : vZ (0 :: ((l.weathers.length : Int) :: l.weathers.flatMap listedOf)) = [.int 0] ++ vZ ((l.weathers.length : Int) :: l.weathers.flatMap listedOf) := rfl
      have hA3 : Ans K an kp _ Q (s, 0 :: ((l.weathers.length : Int) :: l.weathers.flatMap listedOf)) := hA2 _ (((((g0.trans g1).trans g2).trans g3).trans g4).trans g5)
      refine s_ans (zs := 0 :: ((l.weathers.length : Int) :: l.weathers.flatMap listedOf)) ?_ (hL _ (((((g0.trans g1).trans g2).trans g3).trans g4).trans g5)) hA3
      rw [hz]
      refine el_catL (el_lst (ea_cons ev_c ea_nil) (by show 1 ≤ 100000; decide)) (el_call (sp := spListW K) (ea_cons el ea_nil) fun H5 e5 Q q E => ⟨la, l, rfl, hLa.ex (g2_sub.trans e5), F, q⟩) ?_
      rw [vZ_len, List.length_cons]
      show 1 + (_ + 1) ≤ 100000
      omega
    case c14 =>
      obtain ⟨l, hl⟩ := hlk (by decide)
      have hA2 := hD l hl (by decide)
      refine q_skip (ev_var rfl) (by decide) fun G0 g0 => ?_
      refine q_skip (ev_var rfl) (by decide) fun G1 g1 => ?_
      refine q_skip (ev_var rfl) (by decide) fun G2 g2 => ?_
      refine q_skip (ev_var rfl) (by decide) fun G3 g3 => ?_
      refine q_skip (ev_var rfl) (by decide) fun G4 g4 => ?_
      refine q_skip (ev_var rfl) (by decide) fun G5 g5 => ?_
      refine q_take (ev_var rfl) (by decide) fun G6 g6 => ?_
      obtain ⟨la, el, hLa, F⟩ := ev_klake (K := K) (ta := tVar 0) (σ := [some (.ref kp), some (.int 14), some (.ref rp)]) T (ev_var rfl) (hL _ ((((((g0.trans g1).trans g2).trans g3).trans g4).trans g5).trans g6)) hl
      obtain ⟨qs, eqs, hqs, SF⟩ := ev_kstrat (K := K) (ta := tVar 0) (σ := [some (.ref kp), some (.int 14), some (.ref rp)]) T (ev_var rfl) (hL _ ((((((g0.trans g1).trans g2).trans g3).trans g4).trans g5).trans g6)) hl
      have hz : vZ (0 :: Vbirak.nums [l.holds, l.seasons, l.gate, l.rest, l.weathers.length, l.yields.length, s.strategy.rules.length]) = [.int 0] ++ vI [l.holds, l.seasons, l.gate, l.rest, l.weathers.length, l.yields.length, s.strategy.rules.length] := by
        rw [← vZ_nums]
        rfl
      refine s_ans (zs := 0 :: Vbirak.nums [l.holds, l.seasons, l.gate, l.rest, l.weathers.length, l.yields.length, s.strategy.rules.length]) ?_ (hL _ ((((((g0.trans g1).trans g2).trans g3).trans g4).trans g5).trans g6)) (hA2 _ ((((((g0.trans g1).trans g2).trans g3).trans g4).trans g5).trans g6))
      rw [hz]
      exact el_catL (el_lst (ea_cons ev_c ea_nil) (by show 1 ≤ 100000; decide)) (el_call (sp := spCounts K) (ea_cons el (ea_cons eqs ea_nil)) fun H5 e5 Q q E => ⟨la, qs, l, s.strategy, rfl, hLa.ex (g2_sub.trans e5), mono_strat K _ _ _ _ (g2_sub.trans e5) hqs, q⟩) (by show 1 + 7 ≤ 100000; decide)
    case c15 =>
      refine q_skip (ev_var rfl) (by decide) fun G0 g0 => ?_
      refine q_skip (ev_var rfl) (by decide) fun G1 g1 => ?_
      refine q_skip (ev_var rfl) (by decide) fun G2 g2 => ?_
      refine q_skip (ev_var rfl) (by decide) fun G3 g3 => ?_
      refine q_skip (ev_var rfl) (by decide) fun G4 g4 => ?_
      refine q_skip (ev_var rfl) (by decide) fun G5 g5 => ?_
      refine q_skip (ev_var rfl) (by decide) fun G6 g6 => ?_
      have hk := hL _ ((((((g0.trans g1).trans g2).trans g3).trans g4).trans g5).trans g6)
      have hA1 := hA _ ((((((g0.trans g1).trans g2).trans g3).trans g4).trans g5).trans g6)
      obtain ⟨hA2, hAk, dx, lv, sv, tv, bv, h2, _⟩ := hk
      refine ⟨_, rfl, kp, dx, _, rfl, h2, lk_k_meth _ _ _ _ (by decide +kernel) (by decide +kernel) (by decide +kernel) (by decide +kernel), kp, dx, lv, sv, tv, bv, .non, rfl, h2, fun qa H3 b3 h3 hS => ?_⟩
      have hk6 : KpAt K an H3 kp Vbirak.start := ⟨fun z => hA2 (b3.none z hAk), hAk, dx, _, _, _, _, h3, rfl⟩
      exact s_ans (σ := [some (.ref kp), some (.int 15), some (.ref rp)]) (zs := [0]) (el_lst (ea_cons ev_c ea_nil) (by show 1 ≤ 100000; decide)) hk6 (hA1.go b3)
theorem ok_answer_call (T : Tx K mg) (F_answer_reckoning : Fn P w K mg base 9 (He.ga K "answer_reckoning") ["keeper", "call", "numbers", "row"] (spReckon K)) (F_answer_telling : Fn P w K mg base 10 (He.ga K "answer_telling") ["keeper", "call", "row"] (spTell K)) : Fn P w K mg base 11 (He.ga K "answer_call") ["keeper", "call", "numbers", "row"] (spCall K) := by
  have sc : FnScope ["keeper", "call", "numbers", "row"] ["keeper", "call", "numbers", "row"] (defScope s_answer_call) := ⟨rfl, rfl, rfl, by decide +kernel, rfl, by decide +kernel, by decide +kernel⟩
  refine fn_mk (k := 10) T.fun_answer_call sc (fun _ _ _ _ _ _ us hl => match us, hl with | [_, _, _, _], _ => rfl) (fun vs H Q E h => ?len) (fun cdv A outer s H vs Q E hr h => ⟨_, (pss_cons (ps_if (PW.pt (pw_and (pt_cmpR op_isN (pe_fld (pv 0) rfl) pe_non (nomark _)) (pw_and1 (pt_cmpR op_notIn_seq (pv 1) (pe_glob (v := .ref (He.ga K "CALLS_WITHOUT_LAKE")) rfl T.glo_CALLS_WITHOUT_LAKE rfl) (by rfl))))) (pss_one (ps_ret (pe_lst (pa_c (pe_un un_neg pe_int) pa_nil)))) pss_nil)
      (pss_cons (ps_if (pt_cmpR op_in_seq (pv 1) (pe_glob (v := .ref (He.ga K "RECKONINGS")) rfl T.glo_RECKONINGS rfl) (by rfl)) (pss_one (ps_ret (pe_f F_answer_reckoning hr (by decide) T.glo_answer_reckoning (passes_call (takes_of rfl rfl rfl rfl) (fun _ _ _ _ h => h)) (pa_c (pv 0) (pa_c (pv 1) (pa_c (pv 2) (pa_c (pv 3) pa_nil))))))) pss_nil)
      (pss_one (ps_ret (pe_f F_answer_telling hr (by decide) T.glo_answer_telling (passes_call (takes_of rfl rfl rfl rfl) (fun _ _ _ _ h => h)) (pa_c (pv 0) (pa_c (pv 1) (pa_c (pv 3) pa_nil)))))))), ?rd⟩)
  case len =>
    obtain ⟨an, kp, np, rp, s, p, ns, row, c, rfl, _⟩ := h
    rfl
  case rd =>
    obtain ⟨an, kp, np, rp, s, p, ns, row, c, rfl, hk, hn, hnk, hr, hrk, hask, hc, a⟩ := h
    obtain ⟨kc, fm, hcall⟩ := form_of hask hc
    rw [step_of hcall] at a
    clear hask hc hcall
    have hlv : ∃ lv, Ev (tFld K (tVar 0) "lake") [some (.ref kp), some (.int p), some (.ref np), some (.ref rp)] H lv ∧ decide (lv = .non) = s.lake.isNone := by
      obtain ⟨hA, hAk, dx, lv, sv, tv, bv, h1, h2⟩ := hk
      refine ⟨lv, ev_fld (ev_var rfl) h1 T.cls_Keeper T.noat_Keeper_lake (lk_k_lake ..), ?_⟩
      unfold KpIn at h2
      cases hl : s.lake with
      | none =>
        rw [hl] at h2
        exact decide_eq_true h2
      | some l =>
        rw [hl] at h2
        obtain ⟨F, S, la, q, rfl, _⟩ := h2
        rfl
    obtain ⟨lv, elv, hdl⟩ := hlv
    have hin : inV (.int p) (tup_CALLS_WITHOUT_LAKE.map (He.Dv.v K)) = noLake p := by
      cases fm <;> rfl
    have hre : inV (.int p) (tup_RECKONINGS.map (He.Dv.v K)) = reck p := by
      cases fm <;> rfl
    have hboth : noLake p = true → reck p = false := by
      cases fm <;> decide
    have hstep : noLake p = false → s.lake = none → Vbirak.step s kc = (s, [-20]) := fun h1 h2 => by
      cases fm <;> first
        | (exfalso; exact absurd h1 (by decide))
        | (unfold Vbirak.step; rw [h2])
    have hdo : ∀ l, reck p = true → s.lake = some l → Vbirak.step s kc = Vbirak.doing s l kc := fun l h1 h2 => by
      cases fm <;> first
        | (exfalso; exact absurd h1 (by decide))
        | (unfold Vbirak.step; rw [h2])
    refine q_when (b := s.lake.isNone && !noLake p) (et_and (et_is (et_test (ev_isN elv)) hdl) fun _ => et_is (et_test (ev_op (ev_var rfl) ev_c (rv_niT (T.tup_CALLS_WITHOUT_LAKE H) rfl rfl))) (by rw [hin])) (fun hb H1 e1 => ?_) (fun hb H1 e1 => ?_)
    · rw [Bool.and_eq_true, Option.isNone_iff_eq_none] at hb
      rw [hstep (nf hb.2) hb.1] at a
      exact ans_m (hk.ex e1) (a.go (But.of e1))
    have hlk : noLake p = false → ∃ l, s.lake = some l := fun hp => by
      cases hl : s.lake with
      | some l => exact ⟨l, rfl⟩
      | none =>
        rw [hl, hp] at hb
        cases hb
    refine q_when (b := reck p) (et_is (et_test (ev_op (ev_var rfl) ev_c (rv_isT (T.tup_RECKONINGS H1) rfl rfl))) hre) (fun hb2 H2 e2 => ?_) (fun hb2 H2 e2 => ?_)
    · have hp : noLake p = false := by
        cases z : noLake p with
        | false => rfl
        | true =>
          rw [hboth z] at hb2
          cases hb2
      obtain ⟨l, hl⟩ := hlk hp
      rw [hdo l hb2 hl] at a
      have x2 := e1.trans e2
      exact ⟨_, rfl, _, rfl, _, rfl, _, rfl, an, kp, np, rp, s, l, p, ns, row, kc, rfl, hk.ex x2, hl, x2 _ _ hn, x2 _ _ hr, hrk, fm, hb2, a.go (But.of x2)⟩
    · have x2 := e1.trans e2
      exact ⟨_, rfl, _, rfl, _, rfl, an, kp, rp, s, p, ns, row, kc, rfl, hk.ex x2, x2 _ _ hr, fm, hb2, hlk, a.go (But.of x2)⟩
end
end Sl
namespace Sl
open PySem PySem.Spec PyProof.Rows L2
open Evl
open Vbirak (Lake Weather)
open Sm
theorem cut_int (ns : List Int) {i j : Nat} (hij : i ≤ j) (hj : j ≤ ns.length) : cutV (vZ ns) (some (i : Int)) (some (j : Int)) = vZ ((ns.drop i).take (j - i)) := by
  unfold cutV
  rw [HT.sIx_nat, HT.sIx_nat, vZ_len, Nat.min_eq_left hj, Nat.min_eq_left (by omega)]
  unfold vZ
  rw [List.map_take, List.map_drop]
theorem vZ_get {ns : List Int} {i : Nat} {n : Int} (h : ns[i]? = some n) : (vZ ns)[i]? = some (.int n) := by
  unfold vZ
  rw [List.getElem?_map, h] <;> rfl
theorem sz_big {n : Nat} (h : n ≤ 10000000) : n ≤ sizeLine := Nat.le_trans h (by decide)
theorem sz_bigL {n : Nat} (h : n < 10000000) : n < sizeLine := Nat.lt_of_lt_of_le h (by decide)
def spAnswers (K : PySem.W.Frag) : Sp := fun vs H Q _ => ∃ (p : Addr) (l : List Int), vs = [.ref p] ∧ SqL K H p (vZ l) ∧ l.length ≤ 16000 ∧ PyVbirak.answers_asked l = true ∧ RetL (vZ (PyVbirak.answers l)) H Q
/-- the loop's word: so much is left -/
def Wl (K : PySem.W.Frag) (H : Hp) (p kp an : Addr) (l : List Int) (m : Nat) (σ' : L2.St) (H' : Hp) : Prop := ∃ (pl f : Nat) (cs' : List (List (List Int))) (s : Vbirak.State) (done : List Int) (v4 v5 v6 v7 v8 : Option V), Ex H H' ∧ KpAt K an H' kp s ∧ H' an = some (.lst (vZ done)) ∧ pl ≤ l.length ∧ PyFlat.calls PyVbirak.shape f (l.drop pl) = some cs' ∧ (∀ c ∈ cs', VbirakNeutral.asked1 c = true) ∧ PyVbirak.answers l = done ++ PyFlat.told (PyFlat.played VbirakNeutral.step s cs') ∧ m = l.length - pl ∧ σ' = [some (.ref p), some (.ref kp), some (.ref an), some (.int (pl : Int)), v4, v5, v6, v7, v8]
section
variable {P : Program} {w : World} {K : PySem.W.Frag} {mg : Str → Option Value} {base : Heap}
variable (hN : ∀ (i : Nat) (z : Nat × Nat), shapes[i]? = some z → (tup_NUMBERS.map (He.Dv.v K))[i]? = some (.int (z.1 : Int)))
  (hC : ∀ (i : Nat) (z : Nat × Nat), shapes[i]? = some z → inV (.int (i : Int)) (tup_CALLS_WITH_LIST.map (He.Dv.v K)) = decide (z.2 = 1))
  (hF : (tup_CALLS_WITH_LIST.map (He.Dv.v K)).all flatV = true)
include hN hC hF
theorem top_answers (T : Tx K mg) (F_Keeper_init : Fn P w K mg base 3 (He.ma K (He.ga K "Keeper") "__init__") ["self"] (spKeeper K)) (F_answer_call : Fn P w K mg base 11 (He.ga K "answer_call") ["keeper", "call", "numbers", "row"] (spCall K)) {fd : FuncData} (FD : FunD K "answers" "answers" (defArgs s_answers) (defBody s_answers) (defScope s_answers) [] [] (He.ga K "answers") fd) : FnOk P w K mg base (L2.CX P w) 12 (He.ga K "answers") fd ["calls"] (spAnswers K) := by
  have sc : FnScope ["calls", "keeper", "answered", "place", "call", "end", "numbers", "row", "answer"] ["calls"] (defScope s_answers) := ⟨rfl, rfl, rfl, by decide +kernel, rfl, by decide +kernel, by decide +kernel⟩
  refine FD.ok (k := 11) sc (fun vs H Q E h => ?len) (fun cdv A outer s H vs Q E hr h => ⟨_, (pss_cons (ps_set (i := 1) sc.nd rfl (Or.inl rfl) (pe_k0 F_Keeper_init hr (by decide) T.mkr_Keeper T.glo_Keeper (passes_call (takes_of rfl rfl rfl rfl) (fun _ _ _ _ h => h))))
      (pss_cons (ps_set (i := 2) sc.nd rfl (Or.inl rfl) (pe_lst pa_nil))
      (pss_cons (ps_set (i := 3) sc.nd rfl (Or.inl rfl) pe_int)
      (pss_cons (ps_while (passes_of rfl) (pt_cmpR op_lt (pv 3) (pe_callB call_len_seq (by rfl) T.free_len PySem.boot_len (pa_c (pv 0) pa_nil)) (nomark _)) (pss_cons (ps_set (i := 4) sc.nd rfl (Or.inl rfl) (pe_ix ix_list (pv 0) (pv 3) (fun _ _ => rfl)))
      (pss_cons (ps_set (i := 5) sc.nd rfl (Or.inl rfl) (pe_op op_add (pe_op op_add (pv 3) pe_int) (pe_ix ix_tup (pe_glob (v := .ref (He.ga K "NUMBERS")) rfl T.glo_NUMBERS rfl) (pv 4) (fun _ _ => rfl))))
      (pss_cons (ps_set (i := 6) sc.nd rfl (Or.inl rfl) (pe_slice sl_list (pv 0) (po_some (pe_op op_add (pv 3) pe_int)) (po_some (pv 5))))
      (pss_cons (ps_set (i := 7) sc.nd rfl (Or.inl rfl) (pe_lst pa_nil))
      (pss_cons (ps_if (pt_cmpR op_in_seq (pv 4) (pe_glob (v := .ref (He.ga K "CALLS_WITH_LIST")) rfl T.glo_CALLS_WITH_LIST rfl) (by rfl)) (pss_cons (ps_set (i := 7) sc.nd rfl (Or.inl rfl) (pe_slice sl_list (pv 0) (po_some (pe_op op_add (pv 5) pe_int)) (po_some (pe_op op_add (pe_op op_add (pv 5) pe_int) (pe_ix ix_list (pv 0) (pv 5) (fun _ _ => rfl))))))
      (pss_one (ps_aug (i := 5) sc.nd rfl (Or.inl rfl) (pe_op op_add pe_int (pe_callB call_len_seq (by rfl) T.free_len PySem.boot_len (pa_c (pv 7) pa_nil))) ip_add))) pss_nil)
      (pss_cons (ps_set (i := 8) sc.nd rfl (Or.inl rfl) (pe_f F_answer_call hr (by decide) T.glo_answer_call (passes_call (takes_of rfl rfl rfl rfl) (fun _ _ _ _ h => h)) (pa_c (pv 1) (pa_c (pv 4) (pa_c (pv 6) (pa_c (pv 7) pa_nil))))))
      (pss_cons (ps_expr (pe_bm PySem.F.plainAttrs_list PySem.F.slot_list_append PySem.F.type_list_append mt_append (pv 2) (pa_c (pe_callB call_len_seq (by rfl) T.free_len PySem.boot_len (pa_c (pv 8) pa_nil)) pa_nil)))
      (pss_cons (ps_expr (pe_bm PySem.F.plainAttrs_list PySem.F.slot_list_extend PySem.F.type_list_extend mt_extend (pv 2) (pa_c (pv 8) pa_nil)))
      (pss_one (ps_set (i := 3) sc.nd rfl (Or.inl rfl) (pv 5))))))))))))
      (pss_one (ps_ret (pv 2))))))), ?rd⟩)
  case len =>
    obtain ⟨p, l, rfl, _⟩ := h
    rfl
  case rd =>
    obtain ⟨p, l, rfl, hS, hlen, hask, q⟩ := h
    obtain ⟨cs, hcs, hall, hbig⟩ := asked_of hask
    have hans := answers_of hcs
    intro kp dk hkp hdk hne
    have e0 : Ex H (upd (upd H dk (.own kp)) kp (.ins (He.ga K "Keeper") dk [])) := Ex.mut (Ex.mut (Ex.refl _) hdk) hkp
    revert e0
    generalize hH0 : upd (upd H dk (.own kp)) kp (.ins (He.ga K "Keeper") dk []) = H0
    intro e0
    refine ⟨kp, dk, rfl, by rw [← hH0]; exact upd_same, fun qs H1 b1 hk1 => ⟨rfl, ?_⟩⟩
    have x1 : Ex H H1 := ex_but hkp e0 b1
    dsimp only [gName]
    refine q_asgL (xs := []) (el_lst ea_nil (by decide)) fun an H2 han e2 h2 => ?_
    have hak : an ≠ kp := fun z => by
      rw [z, hk1] at han
      cases han
    have hanH : H an = none := fresh_back x1 han
    have hk2 : KpAt K an H2 kp Vbirak.start := ⟨by rw [h2]; simp, hak, dk, .non, .non, .ref qs, .non, e2 _ _ hk1, rfl⟩
    refine q_asg ev_c fun H3 e3 => ?_
    refine q_while (Wl K H p kp an l) l.length
      ⟨0, l.length, cs, Vbirak.start, [], none, none, none, none, none, (x1.trans e2).trans e3, hk2.ex e3, e3 _ _ h2, Nat.zero_le _, hcs, hall, hans, rfl, rfl⟩ ?_
    rintro m σ' H' ⟨pl, f, cs', s, done, v4, v5, v6, v7, v8, x', hk', ha', hpl, hcs', hall', hans', rfl, rfl⟩
    have hS' : SqL K H' p (vZ l) := ex_l x' hS
    refine ⟨decide ((pl : Int) < (l.length : Int)), et_test (ev_op (ev_var rfl) (ev_lenC (ev_var rfl) hS' (vZ_len l)) rv_ltI), fun hc H4 e4 => ⟨_, fun σ2 H2 z => z, ?_⟩, fun hc H4 e4 => ?_⟩
    · have hlt : pl < l.length := by
        have := of_decide_eq_true hc
        omega
      obtain ⟨z, hz⟩ : ∃ z, l[pl]? = some z := ⟨_, List.getElem?_eq_getElem hlt⟩
      rw [drop_at hz] at hcs'
      obtain ⟨g, n, k, xs, t, cs2, rfl, hsh, hn, hrows, hcs2, rfl⟩ := call_step hcs'
      obtain ⟨i, rfl, hi⟩ := shape_at hsh
      have hnl : pl + 1 + n ≤ l.length := by
        rw [List.length_drop] at hn
        omega
      have hk4 := hk'.ex e4
      refine q_asg (ev_op (ev_var rfl) (ev_var rfl) (rv_ixL (ex_l e4 hS') (atI_nat (vZ_get hz)))) fun H5 e5 => ?_
      refine q_asg (v := .int ((pl + 1 + n : Nat) : Int)) (ev_is (ev_op (ev_op (ev_var rfl) ev_c rv_I0) (ev_op ev_c (ev_var rfl) (rv_ixT (T.tup_NUMBERS H5) (atI_nat (hN i _ hi)))) rv_I0) rfl) fun H6 e6 => ?_
      have x6 : Ex H' H6 := (e4.trans e5).trans e6
      refine q_asgL (xs := vZ ((l.drop (pl + 1)).take n)) ?_ fun np H7 hnp e7 h7 => ?_
      · have key := el_sl (K := K) (H := H6) (te := tVar 0) (tl := tPart (tOp (rI0 fun i j => V.int (i + j)) (tVar 3) (tC (.int 1)))) (th := tPart (tVar 5)) (σ := [some (.ref p), some (.ref kp), some (.ref an), some (.int (pl : Int)), some (.int (i : Int)), some (.int ((pl + 1 + n : Nat) : Int)), v6, v7, v8]) (ev_var rfl) (eo_some (i := ((pl + 1 : Nat) : Int)) (ev_op (ev_var rfl) ev_c rv_I0)) (eo_some (ev_var rfl)) (ex_l x6 hS')
        rw [cut_int l (by omega) hnl, show pl + 1 + n - (pl + 1) = n from by omega] at key
        exact key
      refine q_asgL (xs := vZ []) (el_lst ea_nil (by decide)) fun r0 H8 hr0 e8 h8 => ?_
      have k8 : KpAt K an H8 kp s := ((hk'.ex x6).ex e7).ex e8
      have npk : np ≠ kp := fun z => by
        obtain ⟨_, _, dx, lv, sv, tv, bv, h9, _⟩ := hk'.ex x6
        rw [z, h9] at hnp
        cases hnp
      have r0k : r0 ≠ kp := fun z => by
        obtain ⟨_, _, dx, lv, sv, tv, bv, h9, _⟩ := (hk'.ex x6).ex e7
        rw [z, h9] at hr0
        cases hr0
      -- the rest, for a row and an end
      have rest : ∀ (D : Ends), (∀ σ2 H2, (∃ m', m' < l.length - pl ∧ Wl K H p kp an l m' σ2 H2) → D.nx σ2 H2) → ∀ (rp : Addr) (row : List Int) (H9 : Hp) (en : Nat), Ex H8 H9 → H9 rp = some (.lst (vZ row)) → rp ≠ kp → (xs = [] ∨ xs = [row]) → t = l.drop en → en ≤ l.length → pl < en →
          tSeq (tAsg (tCall (spCall K) [] E (tCons (tVar 1) (tCons (tVar 4) (tCons (tVar 6) (tCons (tVar 7) tNil))))) (gName 8)) (tSeq (tDrop (tBM K "list" rAppend (tVar 2) (tCons (tCB (fun xs H Q => ∃ p ys, xs = [.ref p] ∧ (SqL K H p ys ∨ SqT K H p ys) ∧ Q (.int ys.length) H) (tCons (tVar 8) tNil)) tNil))) (tSeq (tDrop (tBM K "list" rExtend (tVar 2) (tCons (tVar 8) tNil))) (tAsg (tVar 5) (gName 3)))) D [some (.ref p), some (.ref kp), some (.ref an), some (.int (pl : Int)), some (.int (i : Int)), some (.int (en : Int)), some (.ref np), some (.ref rp), v8] H9 := by
        intro D hnx rp row H9 en e9 hrp hrk hxs ht hen hplen
        refine ⟨_, rfl, _, rfl, _, rfl, _, rfl, an, kp, np, rp, s, (i : Int), (l.drop (pl + 1)).take n, row, ((i : Int) :: (l.drop (pl + 1)).take n) :: xs, rfl, k8.ex e9, e9 _ _ (e8 _ _ h7), npk, hrp, hrk, hall' _ (List.mem_cons_self ..), ?_, ?_⟩
        · rcases hxs with rfl | rfl
          · exact Or.inl rfl
          · exact Or.inr rfl
        intro ap H10 b10 k10 hap h10
        have x9 : Ex H H9 := (((x'.trans x6).trans e7).trans e8).trans e9
        have x10 : Ex H H10 := ex_but hkp x9 b10
        have a10 : H10 an = some (.lst (vZ done)) := b10.at (e9 _ _ (e8 _ _ (e7 _ _ (x6 _ _ ha')))) hak
        have hans2 : PyVbirak.answers l = done ++ (((VbirakNeutral.step s (((i : Int) :: (l.drop (pl + 1)).take n) :: xs)).2.length : Int) :: ((VbirakNeutral.step s (((i : Int) :: (l.drop (pl + 1)).take n) :: xs)).2 ++ PyFlat.told (PyFlat.played VbirakNeutral.step (VbirakNeutral.step s (((i : Int) :: (l.drop (pl + 1)).take n) :: xs)).1 cs2))) := by
          rw [hans', ← told_cons]
          rfl
        generalize VbirakNeutral.step s (((i : Int) :: (l.drop (pl + 1)).take n) :: xs) = y at hans2 k10 h10
        have hsz : done.length + 1 + y.2.length ≤ 10000000 := by
          rw [hans2] at hbig
          simp only [List.length_append, List.length_cons] at hbig
          omega
        dsimp only [gName]
        refine ⟨_, rfl, Or.inl ⟨rfl, _, sq_of a10⟩, _, rfl, ap, vZ y.2, rfl, Or.inl (sq_of h10), an, vZ done, _, rfl, rfl, a10, sz_bigL (by rw [vZ_len]; omega), ?_⟩
        refine ⟨_, rfl, Or.inl ⟨rfl, _, sq_of upd_same⟩, _, rfl, an, ap, _, _, rfl, rfl, upd_same, (by rw [upd_ne hap]; exact h10), sz_big (by rw [List.length_append, vZ_len, vZ_len]; exact hsz), ?_⟩
        rw [upd_upd]
        refine ⟨_, rfl, hnx _ _ ⟨l.length - en, by omega, en, g, cs2, y.1, done ++ [(y.2.length : Int)] ++ y.2, _, _, _, _, _, Ex.mut x10 hanH, k10.upd, ?_, hen, ?_, fun c hc => hall' c (List.mem_cons_of_mem _ hc), ?_, rfl, rfl⟩⟩
        · rw [upd_same, vZ_app, vZ_app, vZ_len] <;> rfl
        · rw [← ht]
          exact hcs2
        · rw [hans2, List.append_assoc, List.append_assoc] <;> rfl
      refine q_if (b := decide (k = 1)) (et_is (et_test (ev_op (ev_var rfl) ev_c (rv_isT (T.tup_CALLS_WITH_LIST H8) rfl hF))) (hC i _ hi)) (fun hb H9 e9 => ?_) (fun hb H9 e9 => ?_)
      · have hk1 : k = 1 := of_decide_eq_true hb
        subst hk1
        obtain ⟨m, qq, hR, hm0, hmq, rfl, rfl⟩ := rows_one hrows
        obtain ⟨m, rfl⟩ := Int.eq_ofNat_of_zero_le hm0
        have hmz : l[pl + 1 + n]? = some (m : Int) := by
          rw [List.drop_drop] at hR
          have := congrArg List.head? hR
          rw [List.head?_drop] at this
          exact this
        have hqq : qq = l.drop (pl + 1 + n + 1) := by
          rw [List.drop_drop] at hR
          have := congrArg (List.drop 1) hR
          rw [List.drop_drop] at this
          exact this.symm
        have hmq' : m ≤ qq.length := hmq
        have hlt2 : pl + 1 + n < l.length := (List.getElem?_eq_some_iff.mp hmz).1
        have hend : pl + 1 + n + 1 + m ≤ l.length := by
          rw [hqq, List.length_drop] at hmq'
          omega
        have x9 : Ex H' H9 := ((x6.trans e7).trans e8).trans e9
        refine q_asgL (xs := vZ (qq.take m)) ?_ fun rp H10 hrp e10 h10 => ?_
        · have e1 : Ev (tOp (rIxL K) (tVar 0) (tVar 5)) [some (.ref p), some (.ref kp), some (.ref an), some (.int (pl : Int)), some (.int (i : Int)), some (.int ((pl + 1 + n : Nat) : Int)), some (.ref np), some (.ref r0), v8] H9 (.int (m : Int)) := ev_op (ev_var rfl) (ev_var rfl) (rv_ixL (ex_l x9 hS') (atI_nat (vZ_get hmz)))
          have key := el_sl (K := K) (H := H9) (te := tVar 0) (tl := tPart (tOp (rI0 fun i j => V.int (i + j)) (tVar 5) (tC (.int 1)))) (th := tPart (tOp (rI0 fun i j => V.int (i + j)) (tOp (rI0 fun i j => V.int (i + j)) (tVar 5) (tC (.int 1))) (tOp (rIxL K) (tVar 0) (tVar 5)))) (σ := [some (.ref p), some (.ref kp), some (.ref an), some (.int (pl : Int)), some (.int (i : Int)), some (.int ((pl + 1 + n : Nat) : Int)), some (.ref np), some (.ref r0), v8]) (ev_var rfl) (eo_some (i := ((pl + 1 + n + 1 : Nat) : Int)) (ev_op (ev_var rfl) ev_c rv_I0)) (eo_some (i := ((pl + 1 + n + 1 + m : Nat) : Int)) (ev_op (ev_op (ev_var rfl) ev_c rv_I0) e1 rv_I0)) (ex_l x9 hS')
          rw [cut_int l (by omega) hend, show pl + 1 + n + 1 + m - (pl + 1 + n + 1) = m from by omega, ← hqq] at key
          exact key
        have rpk : rp ≠ kp := fun z => by
          obtain ⟨_, _, dx, lv, sv, tv, bv, h9, _⟩ := k8.ex e9
          rw [z, h9] at hrp
          cases hrp
        refine s_aug rfl (b := ((1 + m : Nat) : Int)) (ev_is (ev_op ev_c (ev_lenC (n := m) (ev_var rfl) (sq_of h10) (by rw [vZ_len, List.length_take]; omega)) rv_I0) rfl) fun H11 e11 => ?_
        refine rest _ (fun σ2 H2 z => z) rp (qq.take m) H11 (pl + 1 + n + (1 + m)) ((e9.trans e10).trans e11) (e11 _ _ h10) rpk (Or.inr rfl) ?_ (by omega) (by omega)
        show qq.drop m = _
        rw [hqq, List.drop_drop, show pl + 1 + n + 1 + m = pl + 1 + n + (1 + m) from by omega]
      · have hk0 : k = 0 := by
          have h1 : k ≠ 1 := of_decide_eq_false hb
          have h2 : ∀ z ∈ shapes, z.2 = 0 ∨ z.2 = 1 := by decide
          rcases h2 _ (List.mem_of_getElem? hi) with h | h
          · exact h
          · exact absurd h h1
        subst hk0
        obtain ⟨rfl, rfl⟩ := rows_none hrows
        refine rest _ (fun σ2 H2 z => z) r0 [] H9 (pl + 1 + n) e9 (e9 _ _ h8) r0k (Or.inl rfl) ?_ hnl (by omega)
        rw [List.drop_drop]
    · have hge : l.length ≤ pl := by
        have := of_decide_eq_false hc
        omega
      have hpe : l.drop pl = [] := List.drop_eq_nil_of_le hge
      rw [hpe] at hcs'
      have : cs' = [] := by
        unfold PyFlat.calls at hcs'
        cases hcs'
        rfl
      subst this
      have hd : PyVbirak.answers l = done := by
        rw [hans']
        exact List.append_nil done
      rw [hd] at q
      exact s_ret (ev_var rfl) fun H5 e5 => q an H5 hanH ((x'.trans e4).trans e5) (e5 _ _ (e4 _ _ ha'))
end
end Sl
namespace Sl
open PySem PySem.W PySem.Spec PyProof.Rows L2 Evl
/-- a def's promise, for whatever part of the heap the head tells of, gives the row's walk -/
theorem walkE {r : PySem.W.OpenSpec} {k : Nat} {q : Program} {loose : List Str} {XP : (Str → Option Value) → Heap → Prop} {YP : World → Heap → Prop} {d : DefRec} {ps : List Str} {sp : PySem.W.Frag → Sp}
    (h1 : r.wellSaid = true) (h2 : r.args.length = ps.length) (room : Room k callerA)
    (fn : ∀ (w : World) (mg : Str → Option Value) (f : Addr) (h : Heap), YP w h → h.Ns mainGlobals mg → mg d.name = some (.ref f) → ∃ K : PySem.W.Frag, K.In h ∧ ∃ fd : FuncData,
      (∀ (s : Shared) (us : List Value), us.length = ps.length → BindsTo s fd ⟨us, []⟩ (ps.zip us)) ∧ ∀ base : Heap, FnOk r.prog w K mg base (L2.CX r.prog w) k f fd ps (sp K))
    (pr : ∀ (K : PySem.W.Frag) (H : Hp) (xs : List V) (a : Codec.denoteAll r.args), Codec.withinAll r.args a = true → Codec.app r.args r.asked a = true → DwAll K H xs (Codec.encAll r.args a) → sp K xs H (fun v H' => Dw K H' v (r.ret.enc (Codec.app r.args r.f a))) fun _ _ _ => False) :
    PySem.W.WalkOS q loose XP YP r d [] (fun f vs => PySem.call f vs) := by
  intro w s₀ s₁ mg mb ground says f o pm cd doc dV kV _ _ _ _ hmg gens args vals as pre lay _ well _
  obtain ⟨a, dec, ask⟩ := PySem.W.os_pre_some pre
  obtain ⟨same, ins⟩ := Codec.encAll_of_decAll r.args args a dec
  subst same
  obtain ⟨K, KX, fd, bd, ok⟩ := fn w mg f _ says ground.T.g hmg
  have run := spec_call (R := []) (cl := classAt s₀.heap) (d0 := r.ret.enc (Codec.app r.args r.f a)) KX ground.T.g ground.T.b ground.T.builtins ground.T.nolimit gens well (pl_encAll _ _) (layable_weight lay) room
    (fun base _ _ => ok base) bd (by rw [encAll_len]; exact h2) (fun H xs _ o2 => pr K H xs a ins ask o2) (fun H e s' c => by
      obtain ⟨_, _, _, _, _, _, _, _, _, _, _, _, z⟩ := c
      exact z)
  refine PySem.W.enter_call (codeAny_mono run fun x s' got => ?_)
  obtain ⟨u, as', rfl, g1, g2, g3, g4⟩ := got
  exact ⟨.inl ⟨u, _, as', rfl, fun _ => rfl, g1, (OpenSpec.post_iff h1 ins _ _).mpr rfl, fun z => by cases z⟩, g2, g3, g4⟩
abbrev TopOk (k : Nat) : Prop := ∀ (P : Program) (w : World) (K : PySem.W.Frag) (mg : Str → Option Value) (base : Heap) (fd : FuncData), Tx K mg → FunD K "answers" "answers" (defArgs s_answers) (defBody s_answers) (defScope s_answers) [] [] (He.ga K "answers") fd → FnOk P w K mg base (L2.CX P w) k (He.ga K "answers") fd ["calls"] (spAnswers K)
end Sl
open PySem PySem.W PySem.Calls PyProof.Rows
theorem Sl.ended (top : Sl.TopOk 12) : PySem.Challenge.rw_seasonlake_s01_answers.Holds := by
  w_on
  refine HandSHeadRun.head_spec (r := PySem.Challenge.rw_seasonlake_s01_answers) (q := PySem.W.view PySem.Challenge.rw_seasonlake_s01_answers.prog [122]) (H := Sl.hk) (ob := Sl.ob) (M := 9000) (loose := Sl.nms) (d := HandSHeadRun.topDef PySem.Challenge.rw_seasonlake_s01_answers.prog 122) (kwd := []) Sl.ob_eq
    (by kernel_rfl) (fun s => by kernel_rfl) Sl.run (by kernel_rfl) (by kernel_rfl) (by kernel_rfl) os_shapes (by decide +kernel) (by decide +kernel) ⟨rfl, rfl, rfl, rfl, rfl, by decide +kernel⟩ ⟨[.list [.int 2]], by decide +kernel, by decide +kernel⟩ ?hc
  refine Sl.walkE (k := 12) (ps := ["calls"]) (sp := Sl.spAnswers) (by decide +kernel) rfl ⟨rfl, by decide, by decide⟩ ?F ?S
  case F =>
    rintro w mg f h ⟨K, KX, told⟩ G hmg0
    have hmg : mg ("answers" : PySem.Str) = some (.ref f) := by
      have e : (HandSHeadRun.topDef PySem.Challenge.rw_seasonlake_s01_answers.prog 122).name = ("answers" : PySem.Str) := by kernel_rfl
      rw [← e]
      exact hmg0
    have T : Sl.Tx K mg := ⟨told, h, KX, G⟩
    have e := hmg.symm.trans T.glo_answers
    cases e
    obtain ⟨fd, FD⟩ := T.fun_answers
    exact ⟨K, KX, fd, L2.FunD.bindsA (ps := ["calls"]) FD fun _ _ _ _ _ _ us hl => match us, hl with | [_], _ => rfl, fun base => top _ w K mg base fd T FD⟩
  case S =>
    intro K H xs a hwi hask hx
    cases hx with
    | cons h1 h2 =>
      cases h2
      cases h1 with
      | lst hs ha =>
        have e := L2.ints_dw a.1 _ ha
        subst e
        have q : ((Codec.inLen 0 16000 a.1 && a.1.all (Codec.inInt (-9223372036854775808) 9223372036854775807)) && true) = true := hwi
        rw [Bool.and_eq_true, Bool.and_eq_true] at q
        exact ⟨_, a.1, rfl, hs, (Codec.inNat_iff.mp q.1.1).2, hask, fun p H' _ _ hp => .lst (L2.SqL.of hp) (L2.dw_ints _)⟩
namespace Sl
open PySem PySem.Spec PyProof.Rows L2
open Evl Sm
theorem shapes_end {n : Nat} {z : Nat × Nat} (h : shapes[n + 16]? = some z) : False := by
  rw [List.getElem?_eq_none (by show 16 ≤ n + 16; omega)] at h
  cases h
theorem numbers_at (K : PySem.W.Frag) : ∀ (i : Nat) (z : Nat × Nat), shapes[i]? = some z → (tup_NUMBERS.map (He.Dv.v K))[i]? = some (.int (z.1 : Int))
  | 0, z, h => by cases h; rfl
  | 1, z, h => by cases h; rfl
  | 2, z, h => by cases h; rfl
  | 3, z, h => by cases h; rfl
  | 4, z, h => by cases h; rfl
  | 5, z, h => by cases h; rfl
  | 6, z, h => by cases h; rfl
  | 7, z, h => by cases h; rfl
  | 8, z, h => by cases h; rfl
  | 9, z, h => by cases h; rfl
  | 10, z, h => by cases h; rfl
  | 11, z, h => by cases h; rfl
  | 12, z, h => by cases h; rfl
  | 13, z, h => by cases h; rfl
  | 14, z, h => by cases h; rfl
  | 15, z, h => by cases h; rfl
  | n + 16, z, h => (shapes_end h).elim
theorem lists_at (K : PySem.W.Frag) : ∀ (i : Nat) (z : Nat × Nat), shapes[i]? = some z → inV (.int (i : Int)) (tup_CALLS_WITH_LIST.map (He.Dv.v K)) = decide (z.2 = 1)
  | 0, z, h => by cases h; rfl
  | 1, z, h => by cases h; rfl
  | 2, z, h => by cases h; rfl
  | 3, z, h => by cases h; rfl
  | 4, z, h => by cases h; rfl
  | 5, z, h => by cases h; rfl
  | 6, z, h => by cases h; rfl
  | 7, z, h => by cases h; rfl
  | 8, z, h => by cases h; rfl
  | 9, z, h => by cases h; rfl
  | 10, z, h => by cases h; rfl
  | 11, z, h => by cases h; rfl
  | 12, z, h => by cases h; rfl
  | 13, z, h => by cases h; rfl
  | 14, z, h => by cases h; rfl
  | 15, z, h => by cases h; rfl
  | n + 16, z, h => (shapes_end h).elim
theorem the_top : TopOk 12 := fun P w K mg base fd T FD => by
  have F_season_table := ok_season_table (P := P) (w := w) (base := base) T
  have F_most_letting := ok_most_letting (P := P) (w := w) (base := base) T
  have F_level_behind := ok_level_behind (P := P) (w := w) (base := base) T
  have F_can_come := ok_can_come (P := P) (w := w) (base := base) T
  have F_sure_behind_kinds := ok_sure_behind_kinds (P := P) (w := w) (base := base) T F_level_behind
  have F_least_by_left := ok_least_by_left (P := P) (w := w) (base := base) T F_sure_behind_kinds
  have F_worths := ok_worths (P := P) (w := w) (base := base) T F_season_table F_most_letting
  have F_best_by_level := ok_best_by_level (P := P) (w := w) (base := base) T F_worths
  have F_sure_by_level := ok_sure_by_level (P := P) (w := w) (base := base) T F_best_by_level F_least_by_left
  have F_sure_at_end := ok_sure_at_end (P := P) (w := w) (base := base) T
  have F_all_sure := ok_all_sure (P := P) (w := w) (base := base) T F_sure_at_end F_sure_by_level
  have F_best_letting := ok_best_letting (P := P) (w := w) (base := base) T F_least_by_left F_worths
  have F_best_answer := ok_best_answer (P := P) (w := w) (base := base) T F_sure_behind_kinds
  have F_Kind_init := ok_Kind_init (P := P) (w := w) (base := base) T
  have F_Piece_init := ok_Piece_init (P := P) (w := w) (base := base) T
  have F_Rule_init := ok_Rule_init (P := P) (w := w) (base := base) T
  have F_Strategy_init := ok_Strategy_init (P := P) (w := w) (base := base) T
  have F_Lake_init := ok_Lake_init (P := P) (w := w) (base := base) T
  have F_WrongText_init := ok_WrongText_init (P := P) (w := w) (base := base) T
  have F_run_end := ok_run_end (P := P) (w := w) (base := base) T
  have F_word_of := ok_word_of (P := P) (w := w) (base := base) T
  have F_number_of := ok_number_of (P := P) (w := w) (base := base) T
  have F_cut := ok_cut (P := P) (w := w) (base := base) T F_run_end F_Piece_init F_word_of F_number_of
  have F_Reader_init := ok_Reader_init (P := P) (w := w) (base := base) T F_cut
  have F_Reader_ahead := ok_Reader_ahead (P := P) (w := w) (base := base) T
  have F_Reader_here := ok_Reader_here (P := P) (w := w) (base := base) T F_Reader_ahead
  have F_Reader_sees := ok_Reader_sees (P := P) (w := w) (base := base) T F_Reader_ahead
  have F_Reader_take_word := ok_Reader_take_word (P := P) (w := w) (base := base) T F_Reader_sees F_WrongText_init F_Reader_here
  have F_Reader_take_name := ok_Reader_take_name (P := P) (w := w) (base := base) T F_Reader_ahead F_WrongText_init F_Reader_here
  have F_Reader_take_number := ok_Reader_take_number (P := P) (w := w) (base := base) T F_Reader_ahead F_WrongText_init F_Reader_here
  have F_Reader_take_end := ok_Reader_take_end (P := P) (w := w) (base := base) T F_WrongText_init F_Reader_here
  have F_number_behind := ok_number_behind (P := P) (w := w) (base := base) T F_Reader_take_word F_Reader_take_number
  have F_read_kind_name := ok_read_kind_name (P := P) (w := w) (base := base) T F_Reader_here F_Reader_take_name F_WrongText_init
  have F_read_follows := ok_read_follows (P := P) (w := w) (base := base) T F_Reader_take_word F_Reader_sees F_Reader_here F_Reader_take_name F_WrongText_init
  have F_kind_numbers := ok_kind_numbers (P := P) (w := w) (base := base) T F_WrongText_init
  have F_read_kinds := ok_read_kinds (P := P) (w := w) (base := base) T F_Reader_sees F_Reader_take_word F_read_kind_name F_number_behind F_read_follows F_Kind_init F_kind_numbers
  have F_read_table := ok_read_table (P := P) (w := w) (base := base) T F_Reader_take_number F_Reader_take_word
  have F_read_tables := ok_read_tables (P := P) (w := w) (base := base) T F_Reader_sees F_Reader_here F_Reader_take_word F_WrongText_init F_read_table
  have F_read_lake := ok_read_lake (P := P) (w := w) (base := base) T F_Reader_init F_number_behind F_Reader_take_word F_read_kinds F_read_tables F_Reader_take_end F_Lake_init
  have F_read_level := ok_read_level (P := P) (w := w) (base := base) T F_Reader_take_word F_Reader_sees F_Reader_take_number
  have F_read_was := ok_read_was (P := P) (w := w) (base := base) T F_Reader_take_word F_Reader_here F_Reader_take_name F_WrongText_init
  have F_read_season := ok_read_season (P := P) (w := w) (base := base) T F_Reader_take_word F_Reader_take_number
  have F_read_condition := ok_read_condition (P := P) (w := w) (base := base) T F_Reader_sees F_read_level F_read_was F_read_season F_WrongText_init F_Reader_here
  have F_read_letting := ok_read_letting (P := P) (w := w) (base := base) T F_Reader_take_word F_Reader_take_number
  have F_read_rule := ok_read_rule (P := P) (w := w) (base := base) T F_Reader_take_word F_read_condition F_Reader_sees F_Rule_init F_read_letting
  have F_read_strategy := ok_read_strategy (P := P) (w := w) (base := base) T F_Reader_init F_Reader_sees F_WrongText_init F_Reader_here F_read_rule F_Reader_take_word F_read_letting F_Reader_take_end F_Strategy_init
  have F_Course_init := ok_Course_init (P := P) (w := w) (base := base) T
  have F_Course_pass_season := ok_Course_pass_season (P := P) (w := w) (base := base) T F_season_table F_level_behind
  have F_Course_report := ok_Course_report (P := P) (w := w) (base := base) T
  have F_condition_holds := ok_condition_holds (P := P) (w := w) (base := base) T
  have F_rule_holds := ok_rule_holds (P := P) (w := w) (base := base) T F_condition_holds
  have F_wanted_letting := ok_wanted_letting (P := P) (w := w) (base := base) T F_rule_holds
  have F_strategy_letting := ok_strategy_letting (P := P) (w := w) (base := base) T F_wanted_letting F_most_letting
  have F_strategy_by_level := ok_strategy_by_level (P := P) (w := w) (base := base) T F_season_table F_least_by_left F_strategy_letting
  have F_strategy_sure := ok_strategy_sure (P := P) (w := w) (base := base) T F_sure_at_end F_strategy_by_level
  have F_best_if_known := ok_best_if_known (P := P) (w := w) (base := base) T F_sure_at_end F_level_behind F_best_by_level
  have F_greater_lake := ok_greater_lake (P := P) (w := w) (base := base) T F_Lake_init
  have F_shown_line := ok_shown_line (P := P) (w := w) (base := base) T
  have F_byte_row := ok_byte_row (P := P) (w := w) (base := base) T
  have F_show_lake := ok_show_lake (P := P) (w := w) (base := base) T F_shown_line F_byte_row
  have F_condition_words := ok_condition_words (P := P) (w := w) (base := base) T
  have F_rule_words := ok_rule_words (P := P) (w := w) (base := base) T F_condition_words
  have F_show_strategy := ok_show_strategy (P := P) (w := w) (base := base) T F_shown_line F_rule_words F_byte_row
  have F_is_text := ok_is_text (P := P) (w := w) (base := base) T
  have F_is_season := ok_is_season (P := P) (w := w) (base := base) T
  have F_is_kind := ok_is_kind (P := P) (w := w) (base := base) T
  have F_is_start := ok_is_start (P := P) (w := w) (base := base) T F_is_kind
  have F_is_weather := ok_is_weather (P := P) (w := w) (base := base) T F_is_kind
  have F_Keeper_init := ok_Keeper_init (P := P) (w := w) (base := base) T F_Strategy_init
  have F_Keeper_put_strategy := ok_Keeper_put_strategy (P := P) (w := w) (base := base) T
  have F_Keeper_put_lake := ok_Keeper_put_lake (P := P) (w := w) (base := base) T F_Keeper_put_strategy F_Strategy_init
  have F_sure_of := ok_sure_of (P := P) (w := w) (base := base) T F_all_sure
  have F_sure_by_strategy_of := ok_sure_by_strategy_of (P := P) (w := w) (base := base) T F_strategy_sure
  have F_weather_refusal := ok_weather_refusal (P := P) (w := w) (base := base) T F_is_start F_is_weather F_can_come
  have F_look_at := ok_look_at (P := P) (w := w) (base := base) T F_is_season F_is_start F_sure_of F_best_letting F_best_answer
  have F_look_at_table := ok_look_at_table (P := P) (w := w) (base := base) T F_is_kind F_sure_of
  have F_pass_worst := ok_pass_worst (P := P) (w := w) (base := base) T F_is_start F_sure_of F_Course_init F_best_letting F_best_answer F_Course_pass_season F_Course_report
  have F_pass_by_best := ok_pass_by_best (P := P) (w := w) (base := base) T F_weather_refusal F_sure_of F_Course_init F_Course_pass_season F_best_letting F_Course_report
  have F_pass_by_strategy := ok_pass_by_strategy (P := P) (w := w) (base := base) T F_weather_refusal F_Course_init F_Course_pass_season F_strategy_letting F_Course_report
  have F_look_at_strategy := ok_look_at_strategy (P := P) (w := w) (base := base) T F_is_start F_sure_by_strategy_of F_sure_of
  have F_look_back := ok_look_back (P := P) (w := w) (base := base) T F_weather_refusal F_best_if_known
  have F_look_at_greater := ok_look_at_greater (P := P) (w := w) (base := base) T F_is_start F_all_sure F_greater_lake F_sure_of
  have F_take_lake := ok_take_lake (P := P) (w := w) (base := base) T F_is_text F_read_lake F_Keeper_put_lake
  have F_find_wrong := ok_find_wrong (P := P) (w := w) (base := base) T F_is_text F_read_lake
  have F_take_strategy := ok_take_strategy (P := P) (w := w) (base := base) T F_is_text F_read_strategy F_Keeper_put_strategy
  have F_list_weathers := ok_list_weathers (P := P) (w := w) (base := base) T F_byte_row
  have F_list_counts := ok_list_counts (P := P) (w := w) (base := base) T
  have F_answer_reckoning := ok_answer_reckoning (P := P) (w := w) (base := base) T F_look_at F_look_at_table F_pass_worst F_pass_by_best F_look_at_strategy F_pass_by_strategy F_look_back F_look_at_greater
  have F_answer_telling := ok_answer_telling (P := P) (w := w) (base := base) T F_take_lake F_find_wrong F_show_lake F_take_strategy F_show_strategy F_list_weathers F_list_counts F_Keeper_put_lake
  have F_answer_call := ok_answer_call (P := P) (w := w) (base := base) T F_answer_reckoning F_answer_telling
  exact top_answers (numbers_at K) (lists_at K) rfl T F_Keeper_init F_answer_call FD
end Sl
theorem PySem.Challenge.cw_seasonlake_s01_answers_holds : PySem.Challenge.rw_seasonlake_s01_answers.Holds :=
  Sl.ended Sl.the_top
