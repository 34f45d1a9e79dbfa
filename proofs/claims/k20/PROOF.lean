import PyProof.Rows.All
import HandS.AnyAll
import HandS.GenList
import PyProof.GenComp
import PyProof.GenArm
import HandS.EndTab
import Wide.All
import OpenK.AllK
import Wide.FinOn
import PySem.Challenge.RW_gapcalls_k20_what_may_have_led_to_what
import HandS.ForMost
import HandS.Wide
import HandS.Codes
import HandS.Walk
import HandS.NoneIn
import HandS.Style
import HandS.IsInst
import HandS.SortOrd
import HandS.SortRule
import KE.LtData
import HandS.ForExc
import HandS.ExcInit
import HandS.ExcField
import HandS.More
import HandS.Deep
import HandS.TupAny
import HandS.TupLe
import HandS.Zip
import KE.GoesZip
import KE.GoesMore
import KE.GoesEnum
import Wide.All
import OpenK.AllK
import Wide.FinOn
import HandS.ForMost
import HandS.DictComp
import HandS.Conv
import HandS.SortKw
import HandS.Walk
import HandS.SortOrd
import KE.DataMinMax
import KE.KDictWalk
set_option Elab.async false
set_option linter.all false
set_option maxRecDepth 100000
set_option maxHeartbeats 4000000
namespace Gp
open PySem PySem.Spec PyProof.Rows L2
def topS (i : Nat) : Stmt := PySem.Challenge.pw_gapcalls_k20_what_may_have_led_to_what.main.body.getD i (.Pass ⟨0, 0, 0, 0⟩)
abbrev s_is_whole_from : Stmt := topS 8
theorem sc_is_whole_from : FnScope ["thing", "low", "high"] ["thing", "low", "high"] (defScope s_is_whole_from) := ⟨rfl, rfl, rfl, by decide +kernel, rfl, by decide +kernel, by decide +kernel⟩
abbrev s_is_time : Stmt := topS 9
theorem sc_is_time : FnScope ["thing"] ["thing"] (defScope s_is_time) := ⟨rfl, rfl, rfl, by decide +kernel, rfl, by decide +kernel, by decide +kernel⟩
abbrev s_is_number : Stmt := topS 10
theorem sc_is_number : FnScope ["thing"] ["thing"] (defScope s_is_number) := ⟨rfl, rfl, rfl, by decide +kernel, rfl, by decide +kernel, by decide +kernel⟩
abbrev s_is_count : Stmt := topS 11
theorem sc_is_count : FnScope ["thing"] ["thing"] (defScope s_is_count) := ⟨rfl, rfl, rfl, by decide +kernel, rfl, by decide +kernel, by decide +kernel⟩
abbrev s_is_span : Stmt := topS 12
theorem sc_is_span : FnScope ["low", "high"] ["low", "high"] (defScope s_is_span) := ⟨rfl, rfl, rfl, by decide +kernel, rfl, by decide +kernel, by decide +kernel⟩
abbrev s_is_ask_row : Stmt := topS 13
theorem sc_is_ask_row : FnScope ["houses", "thing", "word", "house", "number", "job", "asked", "out", "back"] ["houses", "thing"] (defScope s_is_ask_row) := ⟨rfl, rfl, rfl, by decide +kernel, rfl, by decide +kernel, by decide +kernel⟩
abbrev s_is_job_row : Stmt := topS 14
theorem sc_is_job_row : FnScope ["houses", "thing", "word", "house", "number", "begin", "end"] ["houses", "thing"] (defScope s_is_job_row) := ⟨rfl, rfl, rfl, by decide +kernel, rfl, by decide +kernel, by decide +kernel⟩
abbrev s_is_all_row : Stmt := topS 15
theorem sc_is_all_row : FnScope ["houses", "thing", "word", "house", "asks", "jobs"] ["houses", "thing"] (defScope s_is_all_row) := ⟨rfl, rfl, rfl, by decide +kernel, rfl, by decide +kernel, by decide +kernel⟩
abbrev s_is_row : Stmt := topS 16
theorem sc_is_row : FnScope ["town", "thing", "houses"] ["town", "thing"] (defScope s_is_row) := ⟨rfl, rfl, rfl, by decide +kernel, rfl, by decide +kernel, by decide +kernel⟩
abbrev s_is_out_of_order : Stmt := topS 18
theorem sc_is_out_of_order : FnScope ["number", "time", "other_number", "other_time"] ["number", "time", "other_number", "other_time"] (defScope s_is_out_of_order) := ⟨rfl, rfl, rfl, by decide +kernel, rfl, by decide +kernel, by decide +kernel⟩
abbrev s_do_asks_clash : Stmt := topS 19
theorem sc_do_asks_clash : FnScope ["one", "other", "number", "out", "other_number", "other_out"] ["one", "other"] (defScope s_do_asks_clash) := ⟨rfl, rfl, rfl, by decide +kernel, rfl, by decide +kernel, by decide +kernel⟩
abbrev s_do_jobs_clash : Stmt := topS 20
theorem sc_do_jobs_clash : FnScope ["one", "other", "number", "begin", "other_number", "other_begin"] ["one", "other"] (defScope s_do_jobs_clash) := ⟨rfl, rfl, rfl, by decide +kernel, rfl, by decide +kernel, by decide +kernel⟩
abbrev s_do_job_and_ask_clash : Stmt := topS 21
theorem sc_do_job_and_ask_clash : FnScope ["job", "ask", "number", "begin", "end", "made_in", "out", "back"] ["job", "ask"] (defScope s_do_job_and_ask_clash) := ⟨rfl, rfl, rfl, by decide +kernel, rfl, by decide +kernel, by decide +kernel⟩
abbrev s_does_all_row_clash : Stmt := topS 22
theorem sc_does_all_row_clash : FnScope ["all_row", "other", "asks", "jobs"] ["all_row", "other"] (defScope s_does_all_row_clash) := ⟨rfl, rfl, rfl, by decide +kernel, rfl, by decide +kernel, by decide +kernel⟩
abbrev s_do_alike_sorts_clash : Stmt := topS 23
theorem sc_do_alike_sorts_clash : FnScope ["one", "other"] ["one", "other"] (defScope s_do_alike_sorts_clash) := ⟨rfl, rfl, rfl, by decide +kernel, rfl, by decide +kernel, by decide +kernel⟩
abbrev s_do_clash : Stmt := topS 24
theorem sc_do_clash : FnScope ["one", "other"] ["one", "other"] (defScope s_do_clash) := ⟨rfl, rfl, rfl, by decide +kernel, rfl, by decide +kernel, by decide +kernel⟩
abbrev s_need_rows : Stmt := topS 25
theorem sc_need_rows : FnScope ["town", "rows", "number", "thing"] ["town", "rows"] (defScope s_need_rows) := ⟨rfl, rfl, rfl, by decide +kernel, rfl, by decide +kernel, by decide +kernel⟩
abbrev s_need_book : Stmt := topS 26
theorem sc_need_book : FnScope ["town", "rows", "second", "first"] ["town", "rows"] (defScope s_need_book) := ⟨rfl, rfl, rfl, by decide +kernel, rfl, by decide +kernel, by decide +kernel⟩
abbrev s_gaps_of : Stmt := topS 29
theorem sc_gaps_of : FnScope ["town", "rows"] ["town", "rows"] (defScope s_gaps_of) := ⟨rfl, rfl, rfl, by decide +kernel, rfl, by decide +kernel, by decide +kernel⟩
abbrev s_rows_by_number : Stmt := topS 30
theorem sc_rows_by_number : FnScope ["rows", "word", "row"] ["rows", "word"] (defScope s_rows_by_number) := ⟨rfl, rfl, rfl, by decide +kernel, rfl, by decide +kernel, by decide +kernel⟩
abbrev s_numbers_below : Stmt := topS 31
theorem sc_numbers_below : FnScope ["town", "counts", "house", "number"] ["town", "counts"] (defScope s_numbers_below) := ⟨rfl, rfl, rfl, by decide +kernel, rfl, by decide +kernel, by decide +kernel⟩
abbrev s_asks_of_house : Stmt := topS 32
theorem sc_asks_of_house : FnScope ["gaps", "house", "row"] ["gaps", "house"] (defScope s_asks_of_house) := ⟨rfl, rfl, rfl, by decide +kernel, rfl, by decide +kernel, by decide +kernel⟩
abbrev s_jobs_of_house : Stmt := topS 33
theorem sc_jobs_of_house : FnScope ["gaps", "house", "row"] ["gaps", "house"] (defScope s_jobs_of_house) := ⟨rfl, rfl, rfl, by decide +kernel, rfl, by decide +kernel, by decide +kernel⟩
abbrev s_count_asks : Stmt := topS 34
theorem sc_count_asks : FnScope ["gaps", "house", "row"] ["gaps", "house"] (defScope s_count_asks) := ⟨rfl, rfl, rfl, by decide +kernel, rfl, by decide +kernel, by decide +kernel⟩
abbrev s_count_jobs : Stmt := topS 35
theorem sc_count_jobs : FnScope ["gaps", "house", "done", "row", "asked_in"] ["gaps", "house"] (defScope s_count_jobs) := ⟨rfl, rfl, rfl, by decide +kernel, rfl, by decide +kernel, by decide +kernel⟩
abbrev s_earliest : Stmt := topS 36
theorem sc_earliest : FnScope ["times"] ["times"] (defScope s_earliest) := ⟨rfl, rfl, rfl, by decide +kernel, rfl, by decide +kernel, by decide +kernel⟩
abbrev s_latest : Stmt := topS 37
theorem sc_latest : FnScope ["times"] ["times"] (defScope s_latest) := ⟨rfl, rfl, rfl, by decide +kernel, rfl, by decide +kernel, by decide +kernel⟩
abbrev s_span_of_ask : Stmt := topS 38
theorem sc_span_of_ask : FnScope ["gaps", "ask", "house", "number", "asks", "low", "row", "high"] ["gaps", "ask"] (defScope s_span_of_ask) := ⟨rfl, rfl, rfl, by decide +kernel, rfl, by decide +kernel, by decide +kernel⟩
abbrev s_span_of_job : Stmt := topS 39
theorem sc_span_of_job : FnScope ["gaps", "job", "house", "number", "asks", "jobs", "low", "row", "begins", "ahead_of_asks", "last"] ["gaps", "job"] (defScope s_span_of_job) := ⟨rfl, rfl, rfl, by decide +kernel, rfl, by decide +kernel, by decide +kernel⟩
abbrev s_more_of : Stmt := topS 40
theorem sc_more_of : FnScope ["gaps", "house", "outs", "row", "begins"] ["gaps", "house"] (defScope s_more_of) := ⟨rfl, rfl, rfl, by decide +kernel, rfl, by decide +kernel, by decide +kernel⟩
abbrev s_is_not_above : Stmt := topS 42
theorem sc_is_not_above : FnScope ["one", "other"] ["one", "other"] (defScope s_is_not_above) := ⟨rfl, rfl, rfl, by decide +kernel, rfl, by decide +kernel, by decide +kernel⟩
abbrev s_latest_begin : Stmt := topS 43
theorem sc_latest_begin : FnScope ["gaps", "job"] ["gaps", "job"] (defScope s_latest_begin) := ⟨rfl, rfl, rfl, by decide +kernel, rfl, by decide +kernel, by decide +kernel⟩
abbrev s_can_lead_in_time : Stmt := topS 44
theorem sc_can_lead_in_time : FnScope ["gaps", "out", "back", "job", "begin", "end", "low", "high", "last", "meet"] ["gaps", "out", "back", "job"] (defScope s_can_lead_in_time) := ⟨rfl, rfl, rfl, by decide +kernel, rfl, by decide +kernel, by decide +kernel⟩
abbrev s_can_lead : Stmt := topS 45
theorem sc_can_lead : FnScope ["gaps", "ask", "job", "row", "low"] ["gaps", "ask", "job"] (defScope s_can_lead) := ⟨rfl, rfl, rfl, by decide +kernel, rfl, by decide +kernel, by decide +kernel⟩
abbrev s_can_lead_to_more : Stmt := topS 46
theorem sc_can_lead_to_more : FnScope ["gaps", "ask", "row"] ["gaps", "ask"] (defScope s_can_lead_to_more) := ⟨rfl, rfl, rfl, by decide +kernel, rfl, by decide +kernel, by decide +kernel⟩
abbrev s_can_come_of_more : Stmt := topS 47
theorem sc_can_come_of_more : FnScope ["gaps", "job", "begin", "times"] ["gaps", "job"] (defScope s_can_come_of_more) := ⟨rfl, rfl, rfl, by decide +kernel, rfl, by decide +kernel, by decide +kernel⟩
abbrev s_may_lead : Stmt := topS 48
theorem sc_may_lead : FnScope ["town", "rows", "ask", "job"] ["town", "rows", "ask", "job"] (defScope s_may_lead) := ⟨rfl, rfl, rfl, by decide +kernel, rfl, by decide +kernel, by decide +kernel⟩
abbrev s_more_jobs : Stmt := topS 49
theorem sc_more_jobs : FnScope ["town", "rows", "ask"] ["town", "rows", "ask"] (defScope s_more_jobs) := ⟨rfl, rfl, rfl, by decide +kernel, rfl, by decide +kernel, by decide +kernel⟩
abbrev s_more_asks : Stmt := topS 50
theorem sc_more_asks : FnScope ["town", "rows", "job"] ["town", "rows", "job"] (defScope s_more_asks) := ⟨rfl, rfl, rfl, by decide +kernel, rfl, by decide +kernel, by decide +kernel⟩
abbrev s_l_spread : Stmt := topS 52
theorem sc_l_spread : FnScope ["cell", "at", "one", "two", "three"] ["cell", "at"] (defScope s_l_spread) := ⟨rfl, rfl, rfl, by decide +kernel, rfl, by decide +kernel, by decide +kernel⟩
abbrev s_l_open : Stmt := topS 53
theorem sc_l_open : FnScope ["script", "cells", "k", "cell"] ["script"] (defScope s_l_open) := ⟨rfl, rfl, rfl, by decide +kernel, rfl, by decide +kernel, by decide +kernel⟩
abbrev s_l_take : Stmt := topS 54
theorem sc_l_take : FnScope ["pen", "many", "at", "cell", "found"] ["pen", "many"] (defScope s_l_take) := ⟨rfl, rfl, rfl, by decide +kernel, rfl, by decide +kernel, by decide +kernel⟩
abbrev s_l_names : Stmt := topS 55
theorem sc_l_names : FnScope ["pen", "many", "letters", "base", "k", "way", "turn", "size", "found", "sign", "part", "at"] ["pen", "many"] (defScope s_l_names) := ⟨rfl, rfl, rfl, by decide +kernel, rfl, by decide +kernel, by decide +kernel⟩
abbrev s_l_town : Stmt := topS 56
theorem sc_l_town : FnScope ["pen", "most", "houses", "gates", "house"] ["pen", "most"] (defScope s_l_town) := ⟨rfl, rfl, rfl, by decide +kernel, rfl, by decide +kernel, by decide +kernel⟩
abbrev s_l_room : Stmt := topS 57
theorem sc_l_room : FnScope ["world", "house", "goal", "asks", "ask", "jobs", "job"] ["world", "house", "goal"] (defScope s_l_room) := ⟨rfl, rfl, rfl, by decide +kernel, rfl, by decide +kernel, by decide +kernel⟩
abbrev s_l_job : Stmt := topS 58
theorem sc_l_job : FnScope ["pen", "world", "town", "house", "start", "deep", "place", "begin", "last", "now", "turn", "goal", "out", "ask"] ["pen", "world", "town", "house", "start", "deep"] (defScope s_l_job) := ⟨rfl, rfl, rfl, by decide +kernel, rfl, by decide +kernel, by decide +kernel⟩
abbrev s_l_world : Stmt := topS 59
theorem sc_l_world : FnScope ["pen", "town", "tops", "deep", "most", "stray", "world", "turn", "doors", "house"] ["pen", "town", "tops", "deep", "most", "stray"] (defScope s_l_world) := ⟨rfl, rfl, rfl, by decide +kernel, rfl, by decide +kernel, by decide +kernel⟩
abbrev s_l_called : Stmt := topS 60
theorem sc_l_called : FnScope ["town", "world", "asks", "jobs", "house", "outs", "at", "ask", "begins", "place", "job", "number"] ["town", "world"] (defScope s_l_called) := ⟨rfl, rfl, rfl, by decide +kernel, rfl, by decide +kernel, by decide +kernel⟩
abbrev s_l_bases : Stmt := topS 61
theorem sc_l_bases : FnScope ["pen", "town", "many", "base", "house"] ["pen", "town", "many"] (defScope s_l_bases) := ⟨rfl, rfl, rfl, by decide +kernel, rfl, by decide +kernel, by decide +kernel⟩
abbrev s_l_all_rows : Stmt := topS 62
theorem sc_l_all_rows : FnScope ["town", "world", "bases", "asks", "jobs", "rows", "place", "house", "begin", "end", "at", "goal", "out", "back", "child", "number", "many"] ["town", "world", "bases"] (defScope s_l_all_rows) := ⟨rfl, rfl, rfl, by decide +kernel, rfl, by decide +kernel, by decide +kernel⟩
abbrev s_l_left : Stmt := topS 63
theorem sc_l_left : FnScope ["pen", "rows", "fewer", "some", "found", "row", "turn"] ["pen", "rows", "fewer"] (defScope s_l_left) := ⟨rfl, rfl, rfl, by decide +kernel, rfl, by decide +kernel, by decide +kernel⟩
abbrev s_l_do_clash : Stmt := topS 64
theorem sc_l_do_clash : FnScope ["one", "other", "at", "here", "there"] ["one", "other"] (defScope s_l_do_clash) := ⟨rfl, rfl, rfl, by decide +kernel, rfl, by decide +kernel, by decide +kernel⟩
abbrev s_l_fair : Stmt := topS 65
theorem sc_l_fair : FnScope ["rows", "found", "row", "one"] ["rows"] (defScope s_l_fair) := ⟨rfl, rfl, rfl, by decide +kernel, rfl, by decide +kernel, by decide +kernel⟩
abbrev s_l_bent_row : Stmt := topS 66
theorem sc_l_bent_row : FnScope ["pen", "town", "row", "more", "way", "asks", "jobs"] ["pen", "town", "row"] (defScope s_l_bent_row) := ⟨rfl, rfl, rfl, by decide +kernel, rfl, by decide +kernel, by decide +kernel⟩
abbrev s_l_book : Stmt := topS 67
theorem sc_l_book : FnScope ["pen", "town", "tops", "deep", "most", "lost", "bent", "world", "base", "house", "rows", "left", "turn", "at"] ["pen", "town", "tops", "deep", "most", "lost", "bent"] (defScope s_l_book) := ⟨rfl, rfl, rfl, by decide +kernel, rfl, by decide +kernel, by decide +kernel⟩
abbrev s_l_ask_there : Stmt := topS 68
theorem sc_l_ask_there : FnScope ["asks", "number", "ahead", "k", "behind"] ["asks", "number"] (defScope s_l_ask_there) := ⟨rfl, rfl, rfl, by decide +kernel, rfl, by decide +kernel, by decide +kernel⟩
abbrev s_l_job_there : Stmt := topS 69
theorem sc_l_job_there : FnScope ["asks", "jobs", "number", "ahead", "k", "behind", "inside"] ["asks", "jobs", "number"] (defScope s_l_job_there) := ⟨rfl, rfl, rfl, by decide +kernel, rfl, by decide +kernel, by decide +kernel⟩
abbrev s_l_there : Stmt := topS 70
theorem sc_l_there : FnScope ["town", "rows", "there", "house", "own", "row", "asks", "jobs", "counts", "named", "k", "outs", "begins", "number"] ["town", "rows"] (defScope s_l_there) := ⟨rfl, rfl, rfl, by decide +kernel, rfl, by decide +kernel, by decide +kernel⟩
abbrev s_l_may : Stmt := topS 71
theorem sc_l_may : FnScope ["there", "ask", "job", "one", "other", "late", "low", "time", "high"] ["there", "ask", "job"] (defScope s_l_may) := ⟨rfl, rfl, rfl, by decide +kernel, rfl, by decide +kernel, by decide +kernel⟩
abbrev s_l_to_more : Stmt := topS 72
theorem sc_l_to_more : FnScope ["there", "ask", "one", "start"] ["there", "ask"] (defScope s_l_to_more) := ⟨rfl, rfl, rfl, by decide +kernel, rfl, by decide +kernel, by decide +kernel⟩
abbrev s_l_of_more : Stmt := topS 73
theorem sc_l_of_more : FnScope ["there", "job", "other", "late", "house", "start"] ["there", "job"] (defScope s_l_of_more) := ⟨rfl, rfl, rfl, by decide +kernel, rfl, by decide +kernel, by decide +kernel⟩
abbrev s_l_told_right : Stmt := topS 74
theorem sc_l_told_right : FnScope ["found", "due"] ["found", "due"] (defScope s_l_told_right) := ⟨rfl, rfl, rfl, by decide +kernel, rfl, by decide +kernel, by decide +kernel⟩
abbrev s_l_drawn_right : Stmt := topS 75
theorem sc_l_drawn_right : FnScope ["pen", "town", "rows", "there", "asks", "jobs", "k", "ask", "job"] ["pen", "town", "rows", "there"] (defScope s_l_drawn_right) := ⟨rfl, rfl, rfl, by decide +kernel, rfl, by decide +kernel, by decide +kernel⟩
abbrev s_l_long_right : Stmt := topS 76
theorem sc_l_long_right : FnScope ["pen", "town", "rows", "there", "asks", "jobs", "ask", "job"] ["pen", "town", "rows", "there"] (defScope s_l_long_right) := ⟨rfl, rfl, rfl, by decide +kernel, rfl, by decide +kernel, by decide +kernel⟩
abbrev s_law : Stmt := topS 77
theorem sc_law : FnScope ["script", "pen", "town", "turn", "world", "rows", "handed", "there"] ["script"] (defScope s_law) := ⟨rfl, rfl, rfl, by decide +kernel, rfl, by decide +kernel, by decide +kernel⟩
abbrev s_i_NoRow : Stmt := inClass (topS 2) 0
theorem sc_init_NoRow : FnScope ["self", "number"] ["self", "number"] (defScope s_i_NoRow) := ⟨rfl, rfl, rfl, by decide +kernel, rfl, by decide +kernel, by decide +kernel⟩
abbrev s_i_Clash : Stmt := inClass (topS 3) 0
theorem sc_init_Clash : FnScope ["self", "first", "second"] ["self", "first", "second"] (defScope s_i_Clash) := ⟨rfl, rfl, rfl, by decide +kernel, rfl, by decide +kernel, by decide +kernel⟩
structure ExcT (K : PySem.W.Frag) (mg : Str → Option Value) (name : Str) (C fI : Addr) (fdI : FuncData) (st : Stmt) (qual : Str) (ps fs : List Str) : Prop where
  g : mg name = some (.ref C)
  T : OexC K C
  iC : PySem.W.findIn K (.ref C) "__init__" = some (some (.ref fI))
  tI : PySem.W.typeIn K (.ref fI) = some (.type "function")
  F : Fun K "__init__" qual st fI fdI
  b : Binds K fdI ps []
  no : ∀ f ∈ fs, PySem.W.findIn K (.ref C) f = some none
  xf : XfC K C
abbrev s_i_Gaps : Stmt := inClass (topS 28) 0
theorem sc_init_Gaps : FnScope ["self", "town", "rows", "row", "house", "ask", "job"] ["self", "town", "rows"] (defScope s_i_Gaps) := ⟨rfl, rfl, rfl, by decide +kernel, rfl, by decide +kernel, by decide +kernel⟩
structure ClsT (K : PySem.W.Frag) (mg : Str → Option Value) (name : Str) (C fI : Addr) (fdI : FuncData) (st : Stmt) (qual : Str) (ps fs : List Str) : Prop where
  g : mg name = some (.ref C)
  M : Mk K C fI
  c : Cls K C
  F : Fun K "__init__" qual st fI fdI
  b : Binds K fdI ps []
  no : ∀ f ∈ fs, NoAttr K C f
structure Txt (K : PySem.W.Frag) (mg : Str → Option Value) (af : Nat → Addr) (fd : Nat → FuncData) : Prop where
  g_is_whole_from : mg "is_whole_from" = some (.ref (af 0))
  F_is_whole_from : Fun K "is_whole_from" "is_whole_from" s_is_whole_from (af 0) (fd 0)
  b_is_whole_from : Binds K (fd 0) ["thing", "low", "high"] []
  g_is_time : mg "is_time" = some (.ref (af 1))
  F_is_time : Fun K "is_time" "is_time" s_is_time (af 1) (fd 1)
  b_is_time : Binds K (fd 1) ["thing"] []
  g_is_number : mg "is_number" = some (.ref (af 2))
  F_is_number : Fun K "is_number" "is_number" s_is_number (af 2) (fd 2)
  b_is_number : Binds K (fd 2) ["thing"] []
  g_is_count : mg "is_count" = some (.ref (af 3))
  F_is_count : Fun K "is_count" "is_count" s_is_count (af 3) (fd 3)
  b_is_count : Binds K (fd 3) ["thing"] []
  g_is_span : mg "is_span" = some (.ref (af 4))
  F_is_span : Fun K "is_span" "is_span" s_is_span (af 4) (fd 4)
  b_is_span : Binds K (fd 4) ["low", "high"] []
  g_is_ask_row : mg "is_ask_row" = some (.ref (af 5))
  F_is_ask_row : Fun K "is_ask_row" "is_ask_row" s_is_ask_row (af 5) (fd 5)
  b_is_ask_row : Binds K (fd 5) ["houses", "thing"] []
  g_is_job_row : mg "is_job_row" = some (.ref (af 6))
  F_is_job_row : Fun K "is_job_row" "is_job_row" s_is_job_row (af 6) (fd 6)
  b_is_job_row : Binds K (fd 6) ["houses", "thing"] []
  g_is_all_row : mg "is_all_row" = some (.ref (af 7))
  F_is_all_row : Fun K "is_all_row" "is_all_row" s_is_all_row (af 7) (fd 7)
  b_is_all_row : Binds K (fd 7) ["houses", "thing"] []
  g_is_row : mg "is_row" = some (.ref (af 8))
  F_is_row : Fun K "is_row" "is_row" s_is_row (af 8) (fd 8)
  b_is_row : Binds K (fd 8) ["town", "thing"] []
  g_is_out_of_order : mg "is_out_of_order" = some (.ref (af 9))
  F_is_out_of_order : Fun K "is_out_of_order" "is_out_of_order" s_is_out_of_order (af 9) (fd 9)
  b_is_out_of_order : Binds K (fd 9) ["number", "time", "other_number", "other_time"] []
  g_do_asks_clash : mg "do_asks_clash" = some (.ref (af 10))
  F_do_asks_clash : Fun K "do_asks_clash" "do_asks_clash" s_do_asks_clash (af 10) (fd 10)
  b_do_asks_clash : Binds K (fd 10) ["one", "other"] []
  g_do_jobs_clash : mg "do_jobs_clash" = some (.ref (af 11))
  F_do_jobs_clash : Fun K "do_jobs_clash" "do_jobs_clash" s_do_jobs_clash (af 11) (fd 11)
  b_do_jobs_clash : Binds K (fd 11) ["one", "other"] []
  g_do_job_and_ask_clash : mg "do_job_and_ask_clash" = some (.ref (af 12))
  F_do_job_and_ask_clash : Fun K "do_job_and_ask_clash" "do_job_and_ask_clash" s_do_job_and_ask_clash (af 12) (fd 12)
  b_do_job_and_ask_clash : Binds K (fd 12) ["job", "ask"] []
  g_does_all_row_clash : mg "does_all_row_clash" = some (.ref (af 13))
  F_does_all_row_clash : Fun K "does_all_row_clash" "does_all_row_clash" s_does_all_row_clash (af 13) (fd 13)
  b_does_all_row_clash : Binds K (fd 13) ["all_row", "other"] []
  g_do_alike_sorts_clash : mg "do_alike_sorts_clash" = some (.ref (af 14))
  F_do_alike_sorts_clash : Fun K "do_alike_sorts_clash" "do_alike_sorts_clash" s_do_alike_sorts_clash (af 14) (fd 14)
  b_do_alike_sorts_clash : Binds K (fd 14) ["one", "other"] []
  g_do_clash : mg "do_clash" = some (.ref (af 15))
  F_do_clash : Fun K "do_clash" "do_clash" s_do_clash (af 15) (fd 15)
  b_do_clash : Binds K (fd 15) ["one", "other"] []
  g_need_rows : mg "need_rows" = some (.ref (af 16))
  F_need_rows : Fun K "need_rows" "need_rows" s_need_rows (af 16) (fd 16)
  b_need_rows : Binds K (fd 16) ["town", "rows"] []
  g_need_book : mg "need_book" = some (.ref (af 17))
  F_need_book : Fun K "need_book" "need_book" s_need_book (af 17) (fd 17)
  b_need_book : Binds K (fd 17) ["town", "rows"] []
  g_gaps_of : mg "gaps_of" = some (.ref (af 18))
  F_gaps_of : Fun K "gaps_of" "gaps_of" s_gaps_of (af 18) (fd 18)
  b_gaps_of : Binds K (fd 18) ["town", "rows"] []
  g_rows_by_number : mg "rows_by_number" = some (.ref (af 19))
  F_rows_by_number : Fun K "rows_by_number" "rows_by_number" s_rows_by_number (af 19) (fd 19)
  b_rows_by_number : Binds K (fd 19) ["rows", "word"] []
  g_numbers_below : mg "numbers_below" = some (.ref (af 20))
  F_numbers_below : Fun K "numbers_below" "numbers_below" s_numbers_below (af 20) (fd 20)
  b_numbers_below : Binds K (fd 20) ["town", "counts"] []
  g_asks_of_house : mg "asks_of_house" = some (.ref (af 21))
  F_asks_of_house : Fun K "asks_of_house" "asks_of_house" s_asks_of_house (af 21) (fd 21)
  b_asks_of_house : Binds K (fd 21) ["gaps", "house"] []
  g_jobs_of_house : mg "jobs_of_house" = some (.ref (af 22))
  F_jobs_of_house : Fun K "jobs_of_house" "jobs_of_house" s_jobs_of_house (af 22) (fd 22)
  b_jobs_of_house : Binds K (fd 22) ["gaps", "house"] []
  g_count_asks : mg "count_asks" = some (.ref (af 23))
  F_count_asks : Fun K "count_asks" "count_asks" s_count_asks (af 23) (fd 23)
  b_count_asks : Binds K (fd 23) ["gaps", "house"] []
  g_count_jobs : mg "count_jobs" = some (.ref (af 24))
  F_count_jobs : Fun K "count_jobs" "count_jobs" s_count_jobs (af 24) (fd 24)
  b_count_jobs : Binds K (fd 24) ["gaps", "house"] []
  g_earliest : mg "earliest" = some (.ref (af 25))
  F_earliest : Fun K "earliest" "earliest" s_earliest (af 25) (fd 25)
  b_earliest : Binds K (fd 25) ["times"] []
  g_latest : mg "latest" = some (.ref (af 26))
  F_latest : Fun K "latest" "latest" s_latest (af 26) (fd 26)
  b_latest : Binds K (fd 26) ["times"] []
  g_span_of_ask : mg "span_of_ask" = some (.ref (af 27))
  F_span_of_ask : Fun K "span_of_ask" "span_of_ask" s_span_of_ask (af 27) (fd 27)
  b_span_of_ask : Binds K (fd 27) ["gaps", "ask"] []
  g_span_of_job : mg "span_of_job" = some (.ref (af 28))
  F_span_of_job : Fun K "span_of_job" "span_of_job" s_span_of_job (af 28) (fd 28)
  b_span_of_job : Binds K (fd 28) ["gaps", "job"] []
  g_more_of : mg "more_of" = some (.ref (af 29))
  F_more_of : Fun K "more_of" "more_of" s_more_of (af 29) (fd 29)
  b_more_of : Binds K (fd 29) ["gaps", "house"] []
  g_is_not_above : mg "is_not_above" = some (.ref (af 30))
  F_is_not_above : Fun K "is_not_above" "is_not_above" s_is_not_above (af 30) (fd 30)
  b_is_not_above : Binds K (fd 30) ["one", "other"] []
  g_latest_begin : mg "latest_begin" = some (.ref (af 31))
  F_latest_begin : Fun K "latest_begin" "latest_begin" s_latest_begin (af 31) (fd 31)
  b_latest_begin : Binds K (fd 31) ["gaps", "job"] []
  g_can_lead_in_time : mg "can_lead_in_time" = some (.ref (af 32))
  F_can_lead_in_time : Fun K "can_lead_in_time" "can_lead_in_time" s_can_lead_in_time (af 32) (fd 32)
  b_can_lead_in_time : Binds K (fd 32) ["gaps", "out", "back", "job"] []
  g_can_lead : mg "can_lead" = some (.ref (af 33))
  F_can_lead : Fun K "can_lead" "can_lead" s_can_lead (af 33) (fd 33)
  b_can_lead : Binds K (fd 33) ["gaps", "ask", "job"] []
  g_can_lead_to_more : mg "can_lead_to_more" = some (.ref (af 34))
  F_can_lead_to_more : Fun K "can_lead_to_more" "can_lead_to_more" s_can_lead_to_more (af 34) (fd 34)
  b_can_lead_to_more : Binds K (fd 34) ["gaps", "ask"] []
  g_can_come_of_more : mg "can_come_of_more" = some (.ref (af 35))
  F_can_come_of_more : Fun K "can_come_of_more" "can_come_of_more" s_can_come_of_more (af 35) (fd 35)
  b_can_come_of_more : Binds K (fd 35) ["gaps", "job"] []
  d_can_come_of_more : (fd 35).code = .ref (af 71)
  g_may_lead : mg "may_lead" = some (.ref (af 36))
  F_may_lead : Fun K "may_lead" "may_lead" s_may_lead (af 36) (fd 36)
  b_may_lead : Binds K (fd 36) ["town", "rows", "ask", "job"] []
  g_more_jobs : mg "more_jobs" = some (.ref (af 37))
  F_more_jobs : Fun K "more_jobs" "more_jobs" s_more_jobs (af 37) (fd 37)
  b_more_jobs : Binds K (fd 37) ["town", "rows", "ask"] []
  g_more_asks : mg "more_asks" = some (.ref (af 38))
  F_more_asks : Fun K "more_asks" "more_asks" s_more_asks (af 38) (fd 38)
  b_more_asks : Binds K (fd 38) ["town", "rows", "job"] []
  g_l_spread : mg "_law_spread" = some (.ref (af 39))
  F_l_spread : Fun K "_law_spread" "_law_spread" s_l_spread (af 39) (fd 39)
  b_l_spread : Binds K (fd 39) ["cell", "at"] []
  g_l_open : mg "_law_open" = some (.ref (af 40))
  F_l_open : Fun K "_law_open" "_law_open" s_l_open (af 40) (fd 40)
  b_l_open : Binds K (fd 40) ["script"] []
  g_l_take : mg "_law_take" = some (.ref (af 41))
  F_l_take : Fun K "_law_take" "_law_take" s_l_take (af 41) (fd 41)
  b_l_take : Binds K (fd 41) ["pen", "many"] []
  g_l_names : mg "_law_names" = some (.ref (af 42))
  F_l_names : Fun K "_law_names" "_law_names" s_l_names (af 42) (fd 42)
  b_l_names : Binds K (fd 42) ["pen", "many"] []
  g_l_town : mg "_law_town" = some (.ref (af 43))
  F_l_town : Fun K "_law_town" "_law_town" s_l_town (af 43) (fd 43)
  b_l_town : Binds K (fd 43) ["pen", "most"] []
  g_l_room : mg "_law_room" = some (.ref (af 44))
  F_l_room : Fun K "_law_room" "_law_room" s_l_room (af 44) (fd 44)
  b_l_room : Binds K (fd 44) ["world", "house", "goal"] []
  g_l_job : mg "_law_job" = some (.ref (af 45))
  F_l_job : Fun K "_law_job" "_law_job" s_l_job (af 45) (fd 45)
  b_l_job : Binds K (fd 45) ["pen", "world", "town", "house", "start", "deep"] []
  g_l_world : mg "_law_world" = some (.ref (af 46))
  F_l_world : Fun K "_law_world" "_law_world" s_l_world (af 46) (fd 46)
  b_l_world : Binds K (fd 46) ["pen", "town", "tops", "deep", "most", "stray"] []
  g_l_called : mg "_law_called" = some (.ref (af 47))
  F_l_called : Fun K "_law_called" "_law_called" s_l_called (af 47) (fd 47)
  b_l_called : Binds K (fd 47) ["town", "world"] []
  g_l_bases : mg "_law_bases" = some (.ref (af 48))
  F_l_bases : Fun K "_law_bases" "_law_bases" s_l_bases (af 48) (fd 48)
  b_l_bases : Binds K (fd 48) ["pen", "town", "many"] []
  g_l_all_rows : mg "_law_all_rows" = some (.ref (af 49))
  F_l_all_rows : Fun K "_law_all_rows" "_law_all_rows" s_l_all_rows (af 49) (fd 49)
  b_l_all_rows : Binds K (fd 49) ["town", "world", "bases"] []
  g_l_left : mg "_law_left" = some (.ref (af 50))
  F_l_left : Fun K "_law_left" "_law_left" s_l_left (af 50) (fd 50)
  b_l_left : Binds K (fd 50) ["pen", "rows", "fewer"] []
  g_l_do_clash : mg "_law_do_clash" = some (.ref (af 51))
  F_l_do_clash : Fun K "_law_do_clash" "_law_do_clash" s_l_do_clash (af 51) (fd 51)
  b_l_do_clash : Binds K (fd 51) ["one", "other"] []
  g_l_fair : mg "_law_fair" = some (.ref (af 52))
  F_l_fair : Fun K "_law_fair" "_law_fair" s_l_fair (af 52) (fd 52)
  b_l_fair : Binds K (fd 52) ["rows"] []
  g_l_bent_row : mg "_law_bent_row" = some (.ref (af 53))
  F_l_bent_row : Fun K "_law_bent_row" "_law_bent_row" s_l_bent_row (af 53) (fd 53)
  b_l_bent_row : Binds K (fd 53) ["pen", "town", "row"] []
  g_l_book : mg "_law_book" = some (.ref (af 54))
  F_l_book : Fun K "_law_book" "_law_book" s_l_book (af 54) (fd 54)
  b_l_book : Binds K (fd 54) ["pen", "town", "tops", "deep", "most", "lost", "bent"] []
  g_l_ask_there : mg "_law_ask_there" = some (.ref (af 55))
  F_l_ask_there : Fun K "_law_ask_there" "_law_ask_there" s_l_ask_there (af 55) (fd 55)
  b_l_ask_there : Binds K (fd 55) ["asks", "number"] []
  g_l_job_there : mg "_law_job_there" = some (.ref (af 56))
  F_l_job_there : Fun K "_law_job_there" "_law_job_there" s_l_job_there (af 56) (fd 56)
  b_l_job_there : Binds K (fd 56) ["asks", "jobs", "number"] []
  g_l_there : mg "_law_there" = some (.ref (af 57))
  F_l_there : Fun K "_law_there" "_law_there" s_l_there (af 57) (fd 57)
  b_l_there : Binds K (fd 57) ["town", "rows"] []
  g_l_may : mg "_law_may" = some (.ref (af 58))
  F_l_may : Fun K "_law_may" "_law_may" s_l_may (af 58) (fd 58)
  b_l_may : Binds K (fd 58) ["there", "ask", "job"] []
  g_l_to_more : mg "_law_to_more" = some (.ref (af 59))
  F_l_to_more : Fun K "_law_to_more" "_law_to_more" s_l_to_more (af 59) (fd 59)
  b_l_to_more : Binds K (fd 59) ["there", "ask"] []
  g_l_of_more : mg "_law_of_more" = some (.ref (af 60))
  F_l_of_more : Fun K "_law_of_more" "_law_of_more" s_l_of_more (af 60) (fd 60)
  b_l_of_more : Binds K (fd 60) ["there", "job"] []
  g_l_told_right : mg "_law_told_right" = some (.ref (af 61))
  F_l_told_right : Fun K "_law_told_right" "_law_told_right" s_l_told_right (af 61) (fd 61)
  b_l_told_right : Binds K (fd 61) ["found", "due"] []
  g_l_drawn_right : mg "_law_drawn_right" = some (.ref (af 62))
  F_l_drawn_right : Fun K "_law_drawn_right" "_law_drawn_right" s_l_drawn_right (af 62) (fd 62)
  b_l_drawn_right : Binds K (fd 62) ["pen", "town", "rows", "there"] []
  g_l_long_right : mg "_law_long_right" = some (.ref (af 63))
  F_l_long_right : Fun K "_law_long_right" "_law_long_right" s_l_long_right (af 63) (fd 63)
  b_l_long_right : Binds K (fd 63) ["pen", "town", "rows", "there"] []
  g_law : mg "law" = some (.ref (af 64))
  F_law : Fun K "law" "law" s_law (af 64) (fd 64)
  b_law : Binds K (fd 64) ["script"] []
  e_NoRow : ExcT K mg "NoRow" (af 65) (af 66) (fd 66) s_i_NoRow "NoRow.__init__" ["self", "number"] ["number"]
  e_Clash : ExcT K mg "Clash" (af 67) (af 68) (fd 68) s_i_Clash "Clash.__init__" ["self", "first", "second"] ["first", "second"]
  o_Gaps : ClsT K mg "Gaps" (af 69) (af 70) (fd 70) s_i_Gaps "Gaps.__init__" ["self", "town", "rows"] ["town", "ask_rows", "job_rows", "all_rows", "asks", "jobs", "ask_spans", "job_spans", "more_times"]
  x_NoRow_NoRow : PySem.W.exmOne K (.ref (af 65)) (.ref (af 65)) = some true
  x_NoRow_Clash : PySem.W.exmOne K (.ref (af 65)) (.ref (af 67)) = some false
  x_Clash_NoRow : PySem.W.exmOne K (.ref (af 67)) (.ref (af 65)) = some false
  x_Clash_Clash : PySem.W.exmOne K (.ref (af 67)) (.ref (af 67)) = some true
  m_any : mg "any" = none
  m_bool : mg "bool" = none
  m_dict : mg "dict" = none
  m_enumerate : mg "enumerate" = none
  m_int : mg "int" = none
  m_isinstance : mg "isinstance" = none
  m_len : mg "len" = none
  m_list : mg "list" = none
  m_max : mg "max" = none
  m_min : mg "min" = none
  m_range : mg "range" = none
  m_sorted : mg "sorted" = none
  m_tuple : mg "tuple" = none
  c_MOST_COUNT : ∃ t, mg "MOST_COUNT" = some (.int (15) t)
  c_MOST_NUMBER : ∃ t, mg "MOST_NUMBER" = some (.int (14) t)
  c_MOST_TIME : ∃ t, mg "MOST_TIME" = some (.int (1000000000000) t)
structure TxtB (base : Heap) (mg : Str → Option Value) (af : Nat → Addr) : Prop where
  t_can_come_of_more : GxR.TabB base mg (af 71) (af 72)
def tabIx : List Nat := [72]
/-! the pen at p, its cells at c: a list of the cells' list, how many were taken, what is left of the last one -/
def Pen (H : Hp) (p c : Addr) : Prop := ∃ (cs : List Int) (n st : Int), H p = some (.lst [.ref c, .int n, .int st]) ∧ H c = some (.lst (cs.map V.int)) ∧ 0 ≤ n ∧ 0 ≤ st
/-! from H to H': the pen may have gone on; all else that stood stands -/
def Stp (p c : Addr) (H H' : Hp) : Prop := Pen H' p c ∧ ∀ b o, b ≠ p → H b = some o → H' b = some o
theorem Stp.refl {p c : Addr} {H : Hp} (h : Pen H p c) : Stp p c H H := ⟨h, fun _ _ _ e => e⟩
theorem Stp.trans {p c : Addr} {H H1 H2 : Hp} (a : Stp p c H H1) (b : Stp p c H1 H2) : Stp p c H H2 := ⟨b.1, fun x o n e => b.2 x o n (a.2 x o n e)⟩
theorem cells_ne {c : Addr} {cs : List Int} {n st : Int} : cs.map V.int ≠ [.ref c, .int n, .int st] := by
  cases cs with
  | nil => exact fun h => nomatch h
  | cons x r => exact fun h => nomatch (List.cons.inj h).1
theorem Pen.ne {p c : Addr} {H : Hp} (h : Pen H p c) : c ≠ p := by
  obtain ⟨cs, n, st, h1, h2, h3, h4⟩ := h
  intro e
  subst e
  rw [h2] at h1
  exact cells_ne (HO.lst.inj (Option.some.inj h1))
theorem Pen.neP {p c a : Addr} {H : Hp} (h : Pen H p c) (ha : H a = none) : p ≠ a := let ⟨_, _, _, h1, _⟩ := h; ne_of_none h1 ha
theorem Pen.neC {p c a : Addr} {H : Hp} (h : Pen H p c) (ha : H a = none) : c ≠ a := let ⟨_, _, _, _, h2, _⟩ := h; ne_of_none h2 ha
/-! no tuple is the pen -/
theorem Pen.tup {p c a : Addr} {H : Hp} {xs : List V} (h : Pen H p c) (ha : H a = some (.tup xs)) : a ≠ p := let ⟨_, _, _, h1, _⟩ := h; ne_of ha h1 (fun e => nomatch e)
theorem Stp.tup {p c a : Addr} {H H' : Hp} {xs : List V} (s : Stp p c H H') (h : Pen H p c) (ha : H a = some (.tup xs)) : H' a = some (.tup xs) := s.2 a _ (h.tup ha) ha
/-! an object that was not there ahead may come and change -/
theorem Stp.mut {p c a : Addr} {H H1 : Hp} {o : HO} (s : Stp p c H H1) (hp : Pen H p c) (ha : H a = none) : Stp p c H (upd H1 a o) := by
  obtain ⟨cs, n, st, h1, h2, h3, h4⟩ := s.1
  exact ⟨⟨cs, n, st, by rw [upd_ne (hp.neP ha)]; exact h1, by rw [upd_ne (hp.neC ha)]; exact h2, h3, h4⟩, fun b u nb e => by rw [upd_ne (ne_of_none e ha)]; exact s.2 b u nb e⟩
theorem Stp.back {p c a : Addr} {H H1 : Hp} (s : Stp p c H H1) (hp : Pen H p c) (ha : H1 a = none) : H a = none := by
  cases e : H a with
  | none => rfl
  | some o =>
    by_cases hb : a = p
    · subst hb
      obtain ⟨cs, n, st, h1, _⟩ := s.1
      rw [h1] at ha
      cases ha
    · rw [s.2 a o hb e] at ha
      cases ha
/-! a further new object -/
theorem Stp.new {p c a : Addr} {H H1 : Hp} {o : HO} (s : Stp p c H H1) (hp : Pen H p c) (ha : H1 a = none) : Stp p c H (upd H1 a o) := s.mut hp (s.back hp ha)
theorem yes_if {A B : Hp → Prop} {σ : L2.St} {H : Hp} (h : A H) : tYes σ H (fun b H3 => if b = true then A H3 else B H3) := by
  show (if true = true then A H else B H)
  exact iteT h
theorem at_any {A : Type} {xs : List A} {z : Int} {j : Nat} {v : A} (e : z = (j : Int)) (h : xs[j]? = some v) : atI xs z = some v := by
  rw [e]
  exact atI_nat h
theorem same_upd {H : Hp} {p : Addr} {o : HO} (h : H p = none) : Same H (upd H p o) := fun b x e => by
  rw [upd_ne (ne_of_none e h)]
  exact e
theorem same_mut {H H1 : Hp} {p : Addr} {o : HO} (s : Same H H1) (h : H p = none) : Same H (upd H1 p o) := fun b x e => by
  rw [upd_ne (ne_of_none e h)]
  exact s b x e
theorem cut_to (xs : List V) (n : Nat) : cutV xs none (some (n : Int)) = xs.take n := by
  unfold cutV
  rw [HT.sIx_none, HT.sIx_nat, List.drop_zero, Nat.sub_zero]
  by_cases h : n ≤ xs.length
  · rw [Nat.min_eq_left h]
  · rw [Nat.min_eq_right (by omega), List.take_length, List.take_of_length_le (by omega)]
theorem cut_mid (xs : List V) (m n : Nat) : cutV xs (some (m : Int)) (some (n : Int)) = (xs.drop (min m xs.length)).take (min n xs.length - min m xs.length) := by
  unfold cutV
  rw [HT.sIx_nat, HT.sIx_nat]
/-! ### max, min with default= of a list of ints -/
namespace Gr
open PySem PySem.Spec PyProof.Rows L2
theorem reads_ints {h : Heap} : ∀ {ns : List Int} {us : List Value}, Vals (ns.map V.int) us → ReadsAll h us (ns.map PyData.int) []
  | [], _, .nil => .nil
  | n :: ns, _ :: us, .cons r rs => by
    obtain ⟨t, rfl⟩ := r
    exact ReadsAll.cons (as := []) (.int n t) (reads_ints rs)
theorem alike_ints (ns : List Int) : PySem.W.AlikeAll (ns.map PyData.int) := by
  refine ⟨fun x hx y hy => ?_, fun x hx => ?_⟩
  · obtain ⟨a, _, rfl⟩ := List.mem_map.mp hx
    obtain ⟨b, _, rfl⟩ := List.mem_map.mp hy
    rfl
  · obtain ⟨a, _, rfl⟩ := List.mem_map.mp hx
    exact fun z => nomatch z
theorem depth_ints : ∀ ns : List Int, PyData.depthAll (ns.map PyData.int) = 0
  | [] => rfl
  | n :: ns => by
    show max (PyData.int n).depth (PyData.depthAll (ns.map PyData.int)) = 0
    rw [depth_ints ns]
    rfl
theorem fold_max : ∀ (ns : List Int) (n : Int), (ns.foldl max n = n ∨ ns.foldl max n ∈ ns) ∧ n ≤ ns.foldl max n ∧ ∀ y ∈ ns, y ≤ ns.foldl max n
  | [], n => ⟨.inl rfl, Int.le_refl _, fun _ m => nomatch m⟩
  | k :: ns, n => by
    obtain ⟨h1, h2, h3⟩ := fold_max ns (max n k)
    rw [List.foldl_cons]
    refine ⟨?_, by omega, fun y m => ?_⟩
    · rcases h1 with h1 | h1
      · rw [h1]
        by_cases e : n ≤ k
        · exact .inr (by rw [Int.max_eq_right e]; exact List.mem_cons_self)
        · exact .inl (Int.max_eq_left (by omega))
      · exact .inr (List.mem_cons_of_mem _ h1)
    · rcases List.mem_cons.mp m with rfl | m
      · omega
      · exact h3 y m
theorem fold_min : ∀ (ns : List Int) (n : Int), (ns.foldl min n = n ∨ ns.foldl min n ∈ ns) ∧ ns.foldl min n ≤ n ∧ ∀ y ∈ ns, ns.foldl min n ≤ y
  | [], n => ⟨.inl rfl, Int.le_refl _, fun _ m => nomatch m⟩
  | k :: ns, n => by
    obtain ⟨h1, h2, h3⟩ := fold_min ns (min n k)
    rw [List.foldl_cons]
    refine ⟨?_, by omega, fun y m => ?_⟩
    · rcases h1 with h1 | h1
      · rw [h1]
        by_cases e : n ≤ k
        · exact .inl (Int.min_eq_left e)
        · exact .inr (by rw [Int.min_eq_right (by omega)]; exact List.mem_cons_self)
      · exact .inr (List.mem_cons_of_mem _ h1)
    · rcases List.mem_cons.mp m with rfl | m
      · omega
      · exact h3 y m
/-! the greatest of ns, or d where there is none -/
def Best (le : Int → Int → Prop) (ns : List Int) (d v : V) : Prop := (ns = [] ∧ v = d) ∨ ∃ m, m ∈ ns ∧ (∀ y ∈ ns, le y m) ∧ v = .int m
def rBest (le : Int → Int → Prop) (K : PySem.W.Frag) : List V → List V → Hp → VK → Prop := fun vs zs H Q => ∃ (a : Addr) (ns : List Int) (d : V), vs = [V.ref a] ∧ zs = [d] ∧ SqL K H a (ns.map V.int) ∧ ∀ v, Best le ns d v → Q v H
section
variable {X : Cx}
theorem cr_maxDf (hc : X.calm = true) (hu : X.A.units + 1 < cLine) : CallRK X (.builtin "max") [Str.ofString "default"] (rBest (fun y m => y ≤ m) X.K) := by
  intro pins s σ H xs zs us ws Q I r1 r2 h
  obtain ⟨a, ns, d, rfl, rfl, hs, q⟩ := h
  obtain ⟨its, rv, hl, _⟩ := I.list hs
  rw [Vals.ref1 r1]
  obtain ⟨u, rfl, ru⟩ := vals1 r2
  show wpAny _ _ (call (.builtin "max") [.ref a] [(Str.ofString "default", u)]) _ _ s
  refine PySem.W.max_list_default (xs := ns.map PyData.int) (as := []) (I.ok.hd hc) hl.isList (by simpa using reads_ints rv) (alike_ints ns) (by rw [depth_ints]; exact hu) (fun e h' tk kp => ?_) (fun y ys i v h' tk bs e hv hr kp => ?_)
  · exact ⟨d, H, I.kept kp, ru, q d (.inl ⟨List.map_eq_nil_iff.mp e, rfl⟩)⟩
  · cases ns with
    | nil => exact nomatch e
    | cons n ns =>
      rw [List.map_cons] at e
      injection e with e1 e2
      subst e1
      subst e2
      rw [PySem.W.maxD_ints] at hr
      cases hr with
      | int _ t =>
        obtain ⟨h1, h2, h3⟩ := fold_max ns n
        refine ⟨.int _, H, I.kept kp, ⟨t, rfl⟩, q _ (.inr ⟨_, ?_, fun y m => ?_, rfl⟩)⟩
        · rcases h1 with h1 | h1
          · rw [h1]
            exact List.mem_cons_self
          · exact List.mem_cons_of_mem _ h1
        · rcases List.mem_cons.mp m with rfl | m
          · exact h2
          · exact h3 y m
theorem cr_minDf (hc : X.calm = true) (hu : X.A.units + 1 < cLine) : CallRK X (.builtin "min") [Str.ofString "default"] (rBest (fun y m => m ≤ y) X.K) := by
  intro pins s σ H xs zs us ws Q I r1 r2 h
  obtain ⟨a, ns, d, rfl, rfl, hs, q⟩ := h
  obtain ⟨its, rv, hl, _⟩ := I.list hs
  rw [Vals.ref1 r1]
  obtain ⟨u, rfl, ru⟩ := vals1 r2
  show wpAny _ _ (call (.builtin "min") [.ref a] [(Str.ofString "default", u)]) _ _ s
  refine PySem.W.min_list_default (xs := ns.map PyData.int) (as := []) (I.ok.hd hc) hl.isList (by simpa using reads_ints rv) (alike_ints ns) (by rw [depth_ints]; exact hu) (fun e h' tk kp => ?_) (fun y ys i v h' tk bs e hv hr kp => ?_)
  · exact ⟨d, H, I.kept kp, ru, q d (.inl ⟨List.map_eq_nil_iff.mp e, rfl⟩)⟩
  · cases ns with
    | nil => exact nomatch e
    | cons n ns =>
      rw [List.map_cons] at e
      injection e with e1 e2
      subst e1
      subst e2
      rw [PySem.W.minD_ints] at hr
      cases hr with
      | int _ t =>
        obtain ⟨h1, h2, h3⟩ := fold_min ns n
        refine ⟨.int _, H, I.kept kp, ⟨t, rfl⟩, q _ (.inr ⟨_, ?_, fun y m => ?_, rfl⟩)⟩
        · rcases h1 with h1 | h1
          · rw [h1]
            exact List.mem_cons_self
          · exact List.mem_cons_of_mem _ h1
        · rcases List.mem_cons.mp m with rfl | m
          · exact h2
          · exact h3 y m
end
/-! ### dict comprehensions, keys of any tracked kind -/
section
variable {X : Cx} {pins : List (Addr × Obj)} {σ : L2.St} {H : Hp} {s : Shared}
theorem put_dict {H' : Hp} {E : Value → Shared → Prop} {D : Addr} {y v : V} {u r : Value} {A : Around} {Q : Unit → Shared → Prop} (hu : A.units + 1 < cLine) (I : Inv X pins σ H s) (g : DPut H D y v H') (ry : RelV y u) (rv : RelV v r) (h : ∀ s', Inv X pins σ H' s' → Q () s') :
    wpAny (model X.prog X.w) A (dictSet D u r) Q E s := by
  rcases g with ⟨kvs, k, e, ey, lt, eH⟩ | ⟨kvs, k, b, e, ey, eb, lt, eH⟩
  · subst ey eH
    obtain ⟨z, nd, vs, rel, dd⟩ := dk_of I.hok e
    have z1 : vs.length ≤ sizeLine := by rw [← rel.length]; exact z
    have z2 : (putK kvs k v).length ≤ sizeLine := by have := length_putK kvs k v; omega
    refine wpAny_dictSet_pairs (hsz := z1) (kV_is ry) dd fun g1 dd1 sb => h _ ?_
    have there : ∃ q, g1.get? D = some q := let ⟨q, _, _, hq, _⟩ := dd1; ⟨q, hq⟩
    exact d_write I (by rw [e]; exact True.intro) sb there (dk_new z2 nd (rel.put k rv) dd1)
  · subst ey eH
    cases (show u = Value.ref b from ry)
    obtain ⟨z, nd, xs, rel, dd⟩ := dt_of I.hok e
    have z1 : xs.length ≤ sizeLine := by rw [← Paired.length rel]; exact z
    have z2 : (putK kvs k v).length ≤ sizeLine := by have := length_putK kvs k v; omega
    refine wpAny_dictSet_heap (hsz := z1) (show (tupleKind (mixKind X.prog X.w)).room A from Nat.lt_of_succ_lt hu) (key_of I.hok eb) dd fun g1 dd1 sb => h _ ?_
    obtain ⟨q, es, ep, hq, k2, k3, k4, _, k5⟩ := dd1
    refine d_write I (by rw [e]; exact True.intro) sb ⟨q, hq⟩ ⟨z2, nd, _, (rel.put k eb rv).keeps fun c ys ec => ?_, q, es, ep, hq, k2, k3, k4, k5⟩
    rw [upd_ne (ne_of ec e (fun z => nomatch z))]
    exact ec
end
/-! which empty dict the new one is: keys ints and texts, or tuples -/
def emptyD (t : Bool) : HO := if t then .dT [] else .dK []
theorem emptyD_ok {P : Program} {w : World} {H : Hp} (t : Bool) (h : Heap) (hb : sysModules < h.objs.size) : ObjOk P w H (h.push { cls := .type "dict", data := .dict #[] }) h.objs.size (emptyD t) := by
  cases t
  · exact dk_empty h hb
  · exact dt_empty h hb
section
variable {X : Cx}
def tDcd (t : Bool) (wi : TI) (g : TG) (tt : TT) (tk tv : TE) (own : List Nat) : TE := fun σ H Q => wi σ H fun J H1 => ∀ D, H1 D = none → ∃ W : Nat → Nat → Hp → Prop, (∃ m, W 0 m (upd H1 D (emptyD t))) ∧ ∀ i m H, W i m H →
  (J.stop i H ∧ Q (.ref D) H) ∨ (J.go i H ∧ ∃ Nx : Hp → Prop, (∀ H', Nx H' → ∃ m', m' < m ∧ W (i + 1) m' H') ∧ ∀ x H', J.yld i H x H' → g x (wipe σ own) H' fun σ2 H2 => wipe σ2 own = wipe σ own ∧ tt σ2 H2 fun b H3 =>
    if b = true then tk σ2 H3 fun y H4 => tv σ2 H4 fun z H5 => ∃ H6, DPut H5 D y z H6 ∧ Nx H6 else Nx H3)
theorem dcd_core {pins : List (Addr × Obj)} {s : Shared} {σ : L2.St} {H : Hp} {Q : VK} {kx vx tg iter : Expr} {ifs : List Expr} {scope : Scope} {own : List (Str × Nat)} {pos pos' : Pos} {t : Bool} {wi : TI} {g : TG} {tt : TT} {tk tv : TE} {use : Option (Value → Sem Unit)} {Qf : Value → Shared → Prop}
    (hu : X.A.units + 1 < cLine) (hc : X.calm = true) (hN : X.N.Nodup) (I : Inv X pins σ H s) (hi : PI X tg iter wi) (ok : BlkOk X.N X.env.scope scope own)
    (hg : ∀ (s : Shared) (H : Hp) (C : Addr) (cl : List (Str × Addr)) (fp : List Addr), PG (X.blk s H scope (compEnvC scope cl C X.env) fp) tg g) (ht : ∀ (s : Shared) (H : Hp) (C : Addr) (cl : List (Str × Addr)) (fp : List Addr), PTs (X.blk s H scope (compEnvC scope cl C X.env) fp) ifs tt)
    (hky : ∀ (s : Shared) (H : Hp) (C : Addr) (cl : List (Str × Addr)) (fp : List Addr), PE (X.blk s H scope (compEnvC scope cl C X.env) fp) kx tk)
    (hvl : ∀ (s : Shared) (H : Hp) (C : Addr) (cl : List (Str × Addr)) (fp : List Addr), PE (X.blk s H scope (compEnvC scope cl C X.env) fp) vx tv) (hs : ∀ x, foldedSetIterable iter X.env x = pure x)
    (h : tDcd t wi g tt tk tv (own.map (·.2)) σ H Q)
    (fini : ∀ D C s' m H', Inv X pins σ H' s' → Q (.ref D) H' → s'.heap.Ns C m → FpOk X pins H' C → compPost (model X.prog X.w) X.A X.xe use Qf (.ref D) C (.ok .next) s') :
    wpAny (model X.prog X.w) X.A (comprehension (.DictComp kx vx [⟨tg, iter, ifs, 0⟩] scope pos) scope X.env pos' newDict false (eval iter X.env) use) Qf X.xe s := by
  have frees : ∀ y ∈ scope.names, y.2 = .free → ∃ c, X.env.cells.lookup y.1 = some c := fun y hy e => by
    rcases ok.free y hy e with k | k
    · exact I.ok.has _ (.inl k)
    · exact I.ok.has _ (.inr k)
  refine wpAny_comprehension_free (use := use) rfl hs (closure_ok frees) ok.kind (fun y hy e => by rw [ok.uniq y hy, e])
    (thn (hi.run pins s σ H _ I h) fun xv t1 hx => thn hx fun itv t2 h2 => ?_)
  obtain ⟨it, fp, tn, J, H2, e, I2, T, st2, f2, q⟩ := h2
  subst e
  refine wpAny_newObj_type (newEnv_comp ?_)
  generalize hD : t2.heap.objs.size = D
  have nD : H2 D = none := I2.hok.fresh (Nat.le_of_eq hD)
  obtain ⟨W, ⟨m0, w0⟩, turn⟩ := q D nD
  generalize ht3 : ({ t2 with heap := t2.heap.push { cls := .type "dict", data := .dict #[] } } : Shared) = t3
  have I3 : Inv X pins σ (upd H2 D (emptyD t)) t3 := by
    rw [← ht3]
    refine I2.laid (t' := t2.toks) (fun b o e => Heap.get?_push_of_some _ e) (Nat.le_of_eq hD) ?_
    rw [← hD]
    exact emptyD_ok t t2.heap I2.big
  have h3 : t3.heap = t2.heap.push { cls := .type "dict", data := .dict #[] } := by rw [← ht3]
  have lower : ∀ b ∈ fp, b < t2.heap.objs.size := fun b hb => by
    obtain ⟨o, e, _⟩ := T.obj _ _ st2 b hb
    exact Heap.lt_size e
  have f3 : ∀ b ∈ fp, FpOk X pins (upd H2 D (emptyD t)) b ∧ b < t3.heap.objs.size := fun b hb => by
    have hlt := lower b hb
    refine ⟨⟨?_, (f2 b hb).2⟩, by rw [h3, Heap.size_push]; exact Nat.lt_succ_of_lt hlt⟩
    rw [upd_ne (by rw [← hD]; exact Nat.ne_of_lt hlt)]
    exact (f2 b hb).1
  have st3 : tn 0 t3.heap := T.keep _ _ _ st2 fun b _ o e => by rw [h3]; exact Heap.get?_push_of_some _ e
  have I4 := block_start I3 ok hN f3
  have pg := hg t3 (upd H2 D (emptyD t)) t3.heap.objs.size (cellsFrom (t3.heap.objs.size + 1) scope.names (cloFrom X.env.cells scope.names [])) fp
  have pt := ht t3 (upd H2 D (emptyD t)) t3.heap.objs.size (cellsFrom (t3.heap.objs.size + 1) scope.names (cloFrom X.env.cells scope.names [])) fp
  have pk := hky t3 (upd H2 D (emptyD t)) t3.heap.objs.size (cellsFrom (t3.heap.objs.size + 1) scope.names (cloFrom X.env.cells scope.names [])) fp
  have pe := hvl t3 (upd H2 D (emptyD t)) t3.heap.objs.size (cellsFrom (t3.heap.objs.size + 1) scope.names (cloFrom X.env.cells scope.names [])) fp
  show codeAny _ _ (.compStart (.DictComp kx vx [⟨tg, iter, ifs, 0⟩] scope pos) 0 (.ref it) (.ref D) (compEnvC scope (cellsFrom (t3.heap.objs.size + 1) scope.names (cloFrom X.env.cells scope.names [])) t3.heap.objs.size X.env)) (compPost (model X.prog X.w) X.A X.xe use Qf (.ref D) t3.heap.objs.size) { t3 with heap := pushCells (t3.heap.push { cls := .type "dict", data := .dict #[] }) scope.names }
  have nfp : ∀ b ∈ fp, (upd H2 D (emptyD t)) b = none := fun b hb => (f3 b hb).1.1
  generalize hce : compEnvC scope (cellsFrom (t3.heap.objs.size + 1) scope.names (cloFrom X.env.cells scope.names [])) t3.heap.objs.size X.env = ce at I4 pg pt pk pe ⊢
  have cL : ce.locals = t3.heap.objs.size := by subst hce; rfl
  generalize hH3 : upd H2 D (emptyD t) = H3 at I3 I4 pg pt pk pe w0 nfp f3
  generalize ht4 : ({ t3 with heap := pushCells (t3.heap.push { cls := .type "dict", data := .dict #[] }) scope.names } : Shared) = t4 at I4 ⊢
  have st4 : tn 0 t4.heap := T.keep _ _ _ st3 fun b _ o e => by rw [← ht4]; exact pushCells_keeps _ _ _ _ (Heap.get?_push_of_some _ e)
  have stat : ∀ {σ' : L2.St} {H' : Hp} {s' : Shared}, Inv (X.blk t3 H3 scope ce fp) [] σ' H' s' → (∀ b ∈ fp, H' b = none) → ∀ b ∈ fp, FpOk (X.blk t3 H3 scope ce fp) [] H' b := fun {σ' H' s'} I' hn b hb =>
    ⟨hn b hb, (I'.ok.exf b hb).1, I'.ok.exfs b hb, .inl hb, fun x c e => (I'.ok.exf b hb).2 x c e, fun p hp => absurd (show p ∈ ([] : List (Addr × Obj)) ++ [] from hp) (by simp)⟩
  have loop : codeAny (model X.prog X.w) X.A (.compLoop (.DictComp kx vx [⟨tg, iter, ifs, 0⟩] scope pos) 0 (.ref it) (.ref D) ce) (compPost (model X.prog X.w) X.A X.xe use Qf (.ref D) t3.heap.objs.size) t4 := by
    refine compLoop_anyD (fun n s' => ∃ i H', Inv (X.blk t3 H3 scope ce fp) [] (wipe σ (own.map (·.2))) H' s' ∧ tn i s'.heap ∧ (∀ b ∈ fp, H' b = none) ∧ W i n H') ?_ m0 ⟨0, H3, I4, st4, nfp, w0⟩
    rintro n t5 ⟨i, H5, I5, st5, n5, w5⟩
    rcases turn i n H5 w5 with ⟨stop, qq⟩ | ⟨go, Nx, hNx, step⟩
    · have td := T.done (X.blk t3 H3 scope ce fp) rfl rfl rfl hc i [] t5 _ H5 (fun _ _ => False) I5 (stat I5 n5) st5 stop
      refine thnF td fun r t6 ⟨hr, I6⟩ => ?_
      subst hr
      have I7 : Inv X pins σ H5 t6 := I3.call' (ch := fp) I6.os I6.base I6.hok I6.bare fun b hb => ⟨(f3 b hb).1.2.2.2.1, (f3 b hb).1.2.1, (f3 b hb).1.2.2.2.2.1, (f3 b hb).1.2.2.2.2.2⟩
      have nC : H5 t3.heap.objs.size = none := by
        have z : H5 ce.locals = none := I6.free
        rw [cL] at z
        exact z
      obtain ⟨m, hn, _⟩ := I6.loc
      have hn : t6.heap.Ns ce.locals m := hn
      rw [cL] at hn
      exact fini D t3.heap.objs.size t6 m H5 I7 qq hn (I3.fpOk (Nat.le_refl _) nC)
    · have ti := T.item (X.blk t3 H3 scope ce fp) rfl rfl rfl hc i [] t5 _ H5 (fun _ _ => False) I5 (stat I5 n5) st5 go
      refine thnF ti fun r t6 ⟨u, hr, h6⟩ => ?_
      subst hr
      refine thnF h6 fun _ t7 ⟨x, H7, I7, r7, y7, st7, n7⟩ => ?_
      have J7 := I7.pinned (stat I7 n7) (T.obj _ _ st7)
      refine thnF (pg.run _ t7 _ H7 x u _ J7 r7 (step x H7 y7)) fun _ t8 ⟨σ8, H8, I8, hw8, q8⟩ => ?_
      refine thnF (pt.run _ t8 σ8 H8 _ I8 q8) fun b t9 ⟨H9, I9, q9⟩ => ?_
      have last : ∀ {s' : Shared} {H' : Hp}, Inv (X.blk t3 H3 scope ce fp) ([] ++ pinsAt fp t7.heap) σ8 H' s' → Nx H' → ∃ m, m < n ∧ ∃ i H', Inv (X.blk t3 H3 scope ce fp) [] (wipe σ (own.map (·.2))) H' s' ∧ tn i s'.heap ∧ (∀ b ∈ fp, H' b = none) ∧ W i m H' := fun {s' H'} I' nx => by
        obtain ⟨m', hm, w'⟩ := hNx H' nx
        have pin' : ∀ b ∈ fp, ∀ o, t7.heap.get? b = some o → s'.heap.get? b = some o ∧ H' b = none := fun b hb o e =>
          let z := I'.pin (b, o) (List.mem_append_right _ (List.mem_append_right _ (mem_pinsAt hb e)))
          ⟨z.1, z.2.1⟩
        have hl : (wipe σ (own.map (·.2))).length = σ8.length := by rw [← hw8, wipe_length]
        refine ⟨m', hm, i + 1, H', (I'.unpinned (pins := [])).weak hl (fun j v e => ?_), T.keep _ _ _ st7 fun b hb o e => (pin' b hb o e).1, fun b hb => ?_, w'⟩
        · rw [← hw8] at e
          exact (wipe_some e).1
        · obtain ⟨o, e, _⟩ := T.obj _ _ st7 b hb
          exact (pin' b hb o e).2
      cases b with
      | false =>
        simp only [Bool.false_eq_true, if_false] at q9 ⊢
        exact last I9 q9
      | true =>
        simp only [if_true] at q9 ⊢
        refine thnF (pk.run _ t9 σ8 H9 _ I9 q9) fun z t10 ⟨yk, H10, I10, r10, q10⟩ => ?_
        refine thnF (pe.run _ t10 σ8 H10 _ I10 q10) fun z2 t11 ⟨yv, H11, I11, r11, H12, put, nx⟩ => ?_
        exact put_dict (X := X.blk t3 H3 scope ce fp) hu I11 put r10 r11 fun t12 I12 => last I12 nx
  exact codeAny_compStart_dict loop (T.self X.A 0 _ _ _ st4 loop)
theorem pe_dcd {kx vx tg iter : Expr} {ifs : List Expr} {scope : Scope} {own : List (Str × Nat)} {pos : Pos} (t : Bool) {wi : TI} {g : TG} {tt : TT} {tk tv : TE} (hu : X.A.units + 1 < cLine) (hc : X.calm = true) (hN : X.N.Nodup) (hi : PI X tg iter wi) (ok : BlkOk X.N X.env.scope scope own)
    (hg : ∀ (s : Shared) (H : Hp) (C : Addr) (cl : List (Str × Addr)) (fp : List Addr), PG (X.blk s H scope (compEnvC scope cl C X.env) fp) tg g) (ht : ∀ (s : Shared) (H : Hp) (C : Addr) (cl : List (Str × Addr)) (fp : List Addr), PTs (X.blk s H scope (compEnvC scope cl C X.env) fp) ifs tt)
    (hky : ∀ (s : Shared) (H : Hp) (C : Addr) (cl : List (Str × Addr)) (fp : List Addr), PE (X.blk s H scope (compEnvC scope cl C X.env) fp) kx tk)
    (hvl : ∀ (s : Shared) (H : Hp) (C : Addr) (cl : List (Str × Addr)) (fp : List Addr), PE (X.blk s H scope (compEnvC scope cl C X.env) fp) vx tv) (hs : ∀ x, foldedSetIterable iter X.env x = pure x := by intro _; rfl) :
    PE X (.DictComp kx vx [⟨tg, iter, ifs, 0⟩] scope pos) (tDcd t wi g tt tk tv (own.map (·.2))) := by
  refine ⟨fun pins s σ H Q I h => ?_⟩
  rw [arm_eval_DictComp]
  refine dcd_core hu hc hN I hi ok hg ht hky hvl hs h fun D C s' m H' I' q hn f => ⟨m, hn, fun h'' sb => ?_⟩
  obtain ⟨f0, f1, f2, f3, f4, f5⟩ := f
  exact ⟨.ref D, H', I'.turned (t' := s'.toks) (fun b o hb e => (sb.2 b hb).trans e) f0 f1 f3 f4 f5, rfl, q⟩
end
/-! ### for v in d.values(), d of tuple keys, locked -/
def Itdt (d : Addr) (o : Obj) (kvs : List (List Key × V)) : It :=
  ⟨fun i H => H d = some (.frz o (.dT kvs)) ∧ i < kvs.length, fun i H x H' => H' = H ∧ ∃ k, kvs[i]? = some (k, x), fun i H => H d = some (.frz o (.dT kvs)) ∧ kvs.length ≤ i⟩
theorem frz_vals {X : Cx} {pins : List (Addr × Obj)} {σ : L2.St} {H : Hp} {s : Shared} {d : Addr} {o : Obj} {kvs : List (List Key × V)} (I : Inv X pins σ H s) (h : H d = some (.frz o (.dT kvs))) :
    (d == sysModules) = false ∧ s.heap.get? d = some o ∧ o.ExactDict ∧ ∃ (es : Array DictEntry) (ep : Nat), o.data = .dict es ep ∧ es.size = kvs.length ∧
      ∀ (i : Nat) (k : List Key) (v : V), kvs[i]? = some (k, v) → ∃ en : DictEntry, es[i]? = some en ∧ RelV v en.val := by
  obtain ⟨hd, z, hs, xs, pr, o', es, ep, ho, hx, hdt, he, _⟩ := I.hok d _ h
  rw [hd] at ho
  cases ho
  refine ⟨hs, hd, hx, es, ep, hdt, ?_, fun i k v e => ?_⟩
  · have l1 : es.size = xs.length := size_of_entries he
    have l2 : kvs.length = xs.length := Paired.length pr
    omega
  · obtain ⟨b, hb, e1, e2, e3⟩ := paired_get pr e
    have q := entry_at he i
    rw [hb] at q
    exact ⟨_, q, e3⟩
section
variable {P : Program} {w : World} {K : PySem.W.Frag} {tg : Expr} {d : Addr} {o : Obj} {es : Array DictEntry} {ep : Nat}
theorem turn_valsT {kvs : List (List Key × V)} (it : Addr) (hod : o.data = .dict es ep) (hz : es.size = kvs.length) : Turn P w K tg (Itdt d o kvs) [it] it (fun i h => h.IsValIter it d i es.size ep) where
  mem := by simp
  obj := fun i h st b hb => by
    have e : b = it := by simpa using hb
    subst e
    obtain ⟨oi, e, cc, dd⟩ := st
    exact ⟨oi, e, fun v z => by rw [dd] at z; cases z⟩
  keep := fun i h h' st kk => st.at fun oi e => kk it (by simp) oi e
  item := by
    intro X hP hw hK hc i pins s σ H E I hf st hg
    subst hP hw hK
    obtain ⟨hd, hi⟩ := hg
    obtain ⟨f0, f1, f2, f3, f4, f5⟩ := hf it (by simp)
    obtain ⟨hs, hgd, hx, es', ep', hdt, hsz, ent⟩ := frz_vals I hd
    obtain ⟨rfl, rfl⟩ := dict_ep hod hdt
    obtain ⟨⟨k, v⟩, hkv⟩ : ∃ p, kvs[i]? = some p := ⟨kvs[i], List.getElem?_eq_getElem hi⟩
    obtain ⟨en, hen, rv⟩ := ent i k v hkv
    have hlt : i < es'.size := by omega
    have een : es'[i] = en := by
      rw [Array.getElem?_eq_getElem hlt] at hen
      exact Option.some.inj hen
    refine wpAny_pyNext_values_item_raw st ⟨o, hgd, hx, hdt⟩ hlt fun g1 st1 sb => ?_
    have I1 : Inv X pins σ H { s with heap := g1 } := I.turned (t' := s.toks) (fun b ob hb e => (sb.2 b hb).trans e) f0 f1 f3 f4 f5
    obtain ⟨oi, e, cc, dd⟩ := id st1
    refine ⟨es'[i].val, rfl, go_of (s := { s with heap := g1 }) e cc dd (by decide) ⟨v, H, I1, ?_, ⟨rfl, k, hkv⟩, st1, fun b hb => (hf b hb).1⟩⟩
    rw [een]
    exact rv
  done := by
    intro X hP hw hK hc i pins s σ H E I hf st hg
    subst hP hw hK
    obtain ⟨hd, hi⟩ := hg
    obtain ⟨f0, f1, f2, f3, f4, f5⟩ := hf it (by simp)
    obtain ⟨hs, hgd, hx, es', ep', hdt, hsz, ent⟩ := frz_vals I hd
    obtain ⟨rfl, rfl⟩ := dict_ep hod hdt
    exact wpAny_pyNext_values_end_raw (I.ok.hd hc) st ⟨o, hgd, hx, hdt⟩ (by omega) fun g1 eb => ⟨rfl, I.turned (t' := s.toks) (fun b ob hb e => eb b ob hb e) f0 f1 f3 f4 f5⟩
  self := fun A i s Q E st h => wpAny_pyIter_valiter st h
theorem walk_valuesT {kvs : List (List Key × V)} : Walk (Itdt d o kvs) kvs.length (fun H => H d = some (.frz o (.dT kvs))) (fun i H x H' => H' = H ∧ ∃ k, kvs[i]? = some (k, x)) :=
  ⟨fun i H hi g => ⟨g, hi⟩, fun H g => ⟨g, Nat.le_refl _⟩, fun i H x H' hi g y => y⟩
end
theorem dcd_it {J : It} {n : Nat} {G : Hp → Prop} {Y : Nat → Hp → V → Hp → Prop} (w : Walk J n G Y) {t : Bool} {g : TG} {tt : TT} {tk tv : TE} {own : List Nat} {σ : L2.St} {H1 : Hp} {D : Addr} {Qd : Hp → Prop} (Pv : Nat → Hp → Prop) (h0 : Pv 0 (upd H1 D (emptyD t))) (hG : ∀ i H, i ≤ n → Pv i H → G H)
    (hs : ∀ i x H H', i < n → Pv i H → Y i H x H' → g x (wipe σ own) H' fun σ2 H2 => wipe σ2 own = wipe σ own ∧ tt σ2 H2 fun b H3 =>
      if b = true then tk σ2 H3 fun y H4 => tv σ2 H4 fun z H5 => ∃ H6, DPut H5 D y z H6 ∧ Pv (i + 1) H6 else Pv (i + 1) H3) (hd : ∀ H, Pv n H → Qd H) :
    ∃ W : Nat → Nat → Hp → Prop, (∃ m, W 0 m (upd H1 D (emptyD t))) ∧ ∀ i m H, W i m H →
      (J.stop i H ∧ Qd H) ∨ (J.go i H ∧ ∃ Nx : Hp → Prop, (∀ H', Nx H' → ∃ m', m' < m ∧ W (i + 1) m' H') ∧ ∀ x H', J.yld i H x H' → g x (wipe σ own) H' fun σ2 H2 => wipe σ2 own = wipe σ own ∧ tt σ2 H2 fun b H3 =>
        if b = true then tk σ2 H3 fun y H4 => tv σ2 H4 fun z H5 => ∃ H6, DPut H5 D y z H6 ∧ Nx H6 else Nx H3) := by
  refine ⟨fun i m H => m = n - i ∧ i ≤ n ∧ Pv i H, ⟨n, by simp, Nat.zero_le _, h0⟩, ?_⟩
  rintro i m G1 ⟨rfl, hi, p⟩
  have gg := hG i G1 hi p
  by_cases hlt : i < n
  · exact .inr ⟨w.goes i G1 hlt gg, Pv (i + 1), fun G2 p2 => ⟨n - (i + 1), by omega, rfl, hlt, p2⟩, fun x G2 y => hs i x G1 G2 hlt p (w.yields i G1 x G2 hlt gg y)⟩
  · have e : i = n := by omega
    subst e
    exact .inl ⟨w.stops G1 gg, hd G1 p⟩
def iValsT (td : TE) : TI := fun σ H R => td σ H fun x H1 => ∃ d o kvs, x = .ref d ∧ H1 d = some (.frz o (.dT kvs)) ∧ R (Itdt d o kvs) H1
theorem pi_valuesT {X : Cx} {tg e : Expr} {td : TE} {apos cpos : Pos} (he : PE X e td) (hbase : attributeBase e "values" X.env (eval e X.env) = eval e X.env := by rfl) (hline : (apos.endLine == cpos.line) = true := by rfl) : PI X tg (.Call (.Attribute e "values" apos) [] [] cpos) (iValsT td) := by
  refine ⟨fun pins s σ H R I h => ?_⟩
  refine wpAny_Call_method (T := "dict") (id := "dict.values") hbase rfl hline F.plainAttrs_dict F.slot_dict_values F.type_dict_values (thn (he.run pins s σ H _ I h) fun u t1 ⟨x, H1, I1, rx, d, o, kvs, ex, hd, q⟩ => ?_)
  subst ex
  obtain rfl : u = Value.ref d := rx
  obtain ⟨hs, hgd, hx, es, ep, hdt, hsz, ent⟩ := frz_vals I1 hd
  have raw : t1.heap.DictRaw d es ep := ⟨o, hgd, hx, hdt⟩
  refine ⟨raw.typeIs, ?_, ?_⟩
  · exact fun b eb => by cases eb; exact ⟨o, hgd, hx.2.1⟩
  have I2 : Inv X pins σ H1 { t1 with heap := t1.heap.push { cls := .type "dict_values", data := .fields #[.ref d] } } := I1.kept (t' := t1.toks) fun b ob q => Heap.get?_push_of_some _ q
  have fin : wpAny (model X.prog X.w) X.A (pyIter (.ref t1.heap.objs.size)) (PIE X pins σ tg R) X.xe { t1 with heap := t1.heap.push { cls := .type "dict_values", data := .fields #[.ref d] } } := by
    refine wpAny_pyIter_values_raw (d := d) ⟨_, Heap.get?_push_size _ rfl, rfl, rfl⟩ (raw.at fun ob e => Heap.get?_push_of_some _ e) (pi_one (tk := t1.toks) I2 _ (turn_valsT _ hdt hsz) ⟨_, Heap.get?_push_size _ rfl, rfl, ?_⟩ q)
    rfl
  show wpAny _ _ (callWith cpos (.builtin "dict.values") [.ref d] [] []) _ X.xe t1
  exact method_meetsIn F.slot_dict_values F.entry_dict_values rfl (PySem.evalArgs_none ⟨rfl, raw.typeIs, F.args_dict_values_1 _, _, meets_dict_values_raw d hs, ⟨es, ep, raw⟩, fin⟩)
end Gr
/-! ### max with default= of a dict whose keys are ints -/
namespace Gr
open PySem PySem.Spec PyProof.Rows L2
def rBestD (le : Int → Int → Prop) : List V → List V → Hp → VK → Prop := fun vs zs H Q => ∃ (a : Addr) (ns : List Int) (kvs : List (Key × V)) (d : V), vs = [V.ref a] ∧ zs = [d] ∧ Rd H a (.dK kvs) ∧ kvs.map (·.1) = ns.map Sum.inl ∧ ∀ v, Best le ns d v → Q v H
section
variable {X : Cx}
theorem cr_maxDfD (hc : X.calm = true) (hu : X.A.units + 1 < cLine) : CallRK X (.builtin "max") [Str.ofString "default"] (rBestD (fun y m => y ≤ m)) := by
  intro pins s σ H xs zs us ws Q I r1 r2 h
  obtain ⟨a, ns, kvs, d, rfl, rfl, hd, hk, q⟩ := h
  rw [Vals.ref1 r1]
  obtain ⟨u, rfl, ru⟩ := vals1 r2
  obtain ⟨z, lo, vs, rel, dd⟩ := dk_rd I.hok hd
  obtain ⟨es, ep, raw, hsz, hes⟩ := dd.raw
  have elen : ns.length = vs.length := by
    have := congrArg List.length hk
    rw [List.length_map, List.length_map] at this
    rw [← this, rel.length]
  have hv : Vals (vs.map fun p => kV p.1) (es.map DictEntry.key).toList := keys_at (by rw [Array.length_toList, Array.size_map]; exact hsz) fun j v e => by
    rw [Array.getElem?_toList, Array.getElem?_map] at e
    obtain ⟨en, hen, rfl⟩ := Option.map_eq_some_iff.mp e
    obtain ⟨hj, rfl⟩ := Array.getElem?_eq_some_iff.mp hen
    have hj2 : j < vs.length := by rw [← hsz]; exact hj
    exact ⟨vs[j].1, vs[j].2, List.getElem?_eq_getElem hj2, (hes j hj _ _ (List.getElem?_eq_getElem hj2)).1⟩
  have ek : (vs.map fun p => kV p.1) = ns.map V.int := by
    have e := congrArg (List.map kV) rel.keys
    rw [hk, List.map_map, List.map_map] at e
    exact e.symm
  rw [ek] at hv
  have hr : ReadsAll s.heap (es.map DictEntry.key).toList (ns.map PyData.int) [] := reads_ints hv
  have hne : a ≠ s.heap.objs.size := by obtain ⟨o, ho, _⟩ := raw; exact Nat.ne_of_lt (Heap.lt_size ho)
  have hlt : a < s.heap.objs.size := by obtain ⟨o, ho, _⟩ := raw; exact Heap.lt_size ho
  have hh := I.ok.hd hc
  show wpAny _ _ (call (.builtin "max") [.ref a] [(Str.ofString "default", u)]) _ _ s
  refine call_max_walkD (wpAny_pyIter_dict_raw lo raw ?_)
  have W := ((Walks.rawKeys (prog := X.prog) (w := X.w) (A := X.A.in1) hh s.heap.objs.size a hne es ep).mono_item (P' := fun i v => (es.map DictEntry.key)[i]? = some v) (fun i v hi ⟨hi2, e⟩ => by rw [Array.getElem?_map, Array.getElem?_eq_getElem hi2, e]; rfl)).toS
  refine ⟨_, _, _, _, _, _, _, s.heap, (fun i j => PySem.W.dataLt ((ns.map PyData.int).getD j .none) ((ns.map PyData.int).getD i .none)), rfl, W, ⟨⟨_, Heap.get?_push_size _ rfl, rfl, rfl⟩, raw.at fun o e => Heap.get?_push_of_some _ e⟩, fun b hb => ?_, fun b o e hb => ?_, fun b o e => Heap.get?_push_of_some _ e, fun hz s' m => ?_, fun hp => ⟨PySem.W.cmpIn_gt (A := X.A.in1) hr (alike_ints ns) (by rw [depth_ints]; exact hu), fun v s' hP m => ?_⟩⟩
  · show b < (s.heap.push _).objs.size
    rw [Heap.size_push]
    rcases List.mem_cons.mp hb with rfl | hb
    · exact Nat.lt_succ_self _
    · rw [List.mem_singleton.mp hb]
      exact Nat.lt_succ_of_lt hlt
  · exact absurd (Heap.lt_size e) ((List.mem_singleton.mp hb) ▸ Nat.lt_irrefl _)
  · obtain ⟨h', tk, rfl, hk'⟩ := PySem.W.moved_old rfl rfl m
    exact ⟨d, H, I.kept hk', ru, q d (.inl ⟨List.eq_nil_of_length_eq_zero (by omega), rfl⟩)⟩
  · obtain ⟨h', tk, rfl, hk'⟩ := PySem.W.moved_old rfl rfl m
    obtain ⟨bs, r, _, _, _⟩ := PySem.W.readsAll_atA hr _ v hP
    cases ns with
    | nil => exact absurd hp (by rw [hsz, ← elen]; exact Nat.lt_irrefl 0)
    | cons n ns =>
      have e1 : es.size - 1 = (ns.map PyData.int).length := by rw [hsz, ← elen, List.length_map]; rfl
      have e2 := (PySem.W.argBest_fold (fun a b => PySem.W.dataLt b a) PyData.none (PyData.int n) (ns.map PyData.int) (ns.map PyData.int).length (Nat.le_refl _)).2
      rw [List.take_length] at e2
      rw [e1] at r
      have r2 : Reads h' v (PySem.W.maxD (PyData.int n) (ns.map PyData.int)) bs := PySem.W.reads_keeps hk' (by unfold PySem.W.maxD; rw [← e2]; exact r)
      rw [PySem.W.maxD_ints] at r2
      cases r2 with
      | int _ t =>
        obtain ⟨h1, h2, h3⟩ := fold_max ns n
        refine ⟨.int _, H, I.kept hk', ⟨t, rfl⟩, q _ (.inr ⟨_, ?_, fun y m => ?_, rfl⟩)⟩
        · rcases h1 with h1 | h1
          · rw [h1]
            exact List.mem_cons_self
          · exact List.mem_cons_of_mem _ h1
        · rcases List.mem_cons.mp m with rfl | m
          · exact h2
          · exact h3 y m
end
end Gr
/-! ### any(..), all(..) of a generator expression: its element may call defs, read globals and captured names -/
namespace Gx
open PySem PySem.Spec PyProof.Rows L2 GxR GenW
/-! the context of the generator's own frame -/
abbrev gcx (X : Cx) (A' : Around) (s : Shared) (H : Hp) (genv : Env) (fp : List Addr) : Cx :=
  { X with A := A', s_0 := s, H_0 := H, env := genv, outer := X.stack, stack := genv :: X.stack, ex := fp, fn := fun _ => false, calm := true, pn := [], xe := fun _ _ => False }
/-! while it sleeps all objects are kept -/
def Sl (s s' : Shared) : Prop := s'.os = s.os ∧ AllBare s'.gens ∧ ∀ b o, s.heap.get? b = some o → s'.heap.get? b = some o
section
variable {X : Cx} {pins : List (Addr × Obj)} {σ : L2.St} {H : Hp} {s : Shared}
theorem slept {s' : Shared} (I : Inv X pins σ H s) (z : Sl s s') : Inv X pins σ H s' :=
  I.call' (ch := []) z.1 (Un.kept z.2.2) (I.hok.kept z.2.2) z.2.1 (fun b hb => absurd hb (by simp))
theorem wiped {vs : List Nat} (I : Inv X pins σ H s) : Inv X pins (wipe σ vs) H s := by
  obtain ⟨m, hn, hl⟩ := I.loc
  exact ⟨I.ok, I.os, I.bare, I.base, ⟨m, hn, fun i x v e1 e2 e3 => hl i x v e1 (wipe_some e2).1 e3⟩, I.cell, I.free, I.freeC, I.pin, I.hok, by rw [wipe_length]; exact I.len⟩
theorem gen_start {scope : Scope} {own : List (Str × Nat)} {fp : List Addr} {A' : Around} {it code : Value} {h' : Heap} {g' : Array GenState} {t' : Nat} (I : Inv X pins σ H s) (ok : BlkOk X.N X.env.scope scope own) (hcell : ∀ y ∈ scope.names, y.2 ≠ .cell) (hN : X.N.Nodup)
    (hfp : ∀ b ∈ fp, FpOk X pins H b ∧ b < s.heap.objs.size) (hA : A'.handled = none) (hF : A'.frames = some (genEnv scope (cloFrom X.env.cells scope.names []) s.heap.objs.size code builtinsNs X.env :: X.stack))
    (hns : h'.Ns s.heap.objs.size (fun y => if y = ".0" then some it else none)) (kp : ∀ b o, s.heap.get? b = some o → h'.get? b = some o) (hg : AllBare g') :
    Inv (gcx X A' s H (genEnv scope (cloFrom X.env.cells scope.names []) s.heap.objs.size code builtinsNs X.env) fp) [] (wipe σ (own.map (·.2))) H { s with heap := h', gens := g', toks := t' } := by
  have hfree : ∀ y ∈ scope.names, y.2 = .free → ∃ c, X.env.cells.lookup y.1 = some c := fun y hy e => (ok.free y hy e).elim (fun k => I.ok.has _ (.inl k)) (fun k => I.ok.has _ (.inr k))
  have cm : ∀ {y c}, (cloFrom X.env.cells scope.names []).lookup y = some c → X.env.cells.lookup y = some c ∧ scope.names.lookup y = some .free ∧ c < s.heap.objs.size := fun {y c} e => by
    rcases cloFrom_mem (PySem.mem_of_lookup e) with hm | ⟨h1, h2⟩
    · cases hm
    · obtain ⟨c', hc'⟩ := hfree _ h1 rfl
      rw [show X.env.cells.lookup y = some c' from hc'] at h2
      have h2 : c = c' := h2
      subst h2
      obtain ⟨w, z⟩ := I.cell _ _ hc'
      exact ⟨hc', ok.uniq _ h1, z.lt⟩
  have look : ∀ {y}, scope.names.lookup y = some .free → ∃ c, (cloFrom X.env.cells scope.names []).lookup y = some c ∧ X.env.cells.lookup y = some c := fun {y} hl => by
    obtain ⟨c', e'⟩ := mem_lookup (cloFrom_has (cells := X.env.cells) (acc := []) (PySem.mem_of_lookup hl))
    exact ⟨c', e', (cm e').1⟩
  have okG : (gcx X A' s H (genEnv scope (cloFrom X.env.cells scope.names []) s.heap.objs.size code builtinsNs X.env) fp).Ok := by
    refine ⟨I.ok.mod, ok.kind, I.ok.glob, rfl, Nat.le_refl _, fun y z c e1 e2 => I.ok.inj y z c (cm e1).1 (cm e2).1, fun y hy => ?_, (fun y c z e => Bool.noConfusion z), fun _ => hA, hF, .inr ⟨rfl, rfl⟩, fun b hb => ⟨Nat.ne_of_lt (hfp b hb).2, fun y c e z => (hfp b hb).1.2.2.2.2.1 y c (cm e).1 z⟩,
      I.bs, Nat.le_trans I.ok.bsz I.sz, fun b o e hb => ?_, fun b hb z => ?_, I.stack, I.stkFree⟩
    · rcases hy with hy | hy
      · exact absurd rfl (hcell _ (PySem.mem_of_lookup (show scope.names.lookup y = some .cell from hy)))
      · obtain ⟨c, h1, _⟩ := look (show scope.names.lookup y = some .free from hy)
        exact ⟨c, h1⟩
    · rcases (hfp b hb).1.2.2.2.1 with z | z
      · exact I.ok.noex b o e z
      · exact Nat.lt_irrefl _ (Nat.lt_of_lt_of_le (Heap.lt_size e) (Nat.le_trans I.ok.bsz z))
    · rcases List.mem_cons.mp (I.stkSub b z) with q | q
      · exact (hfp b hb).1.2.1 q
      · exact (hfp b hb).1.2.2.1 q
  refine ⟨okG, rfl, hg, Un.kept kp, ⟨_, hns, fun i y av e1 e2 e3 => ?_⟩, fun y c e => ?_, I.hok.fresh (Nat.le_refl _), fun y c e => I.freeC y c (cm e).1, fun p hp => absurd (show p ∈ ([] : List (Addr × Obj)) ++ [] from hp) (by simp), I.hok.kept kp, by rw [wipe_length]; exact I.len⟩
  · obtain ⟨e2, hne⟩ := wipe_some e2
    have nol : ∀ k, scope.names.lookup y = some k → ¬ (k = .local ∨ k = .cell) := fun k hk hh => by
      rcases ok.own _ (PySem.mem_of_lookup hk) hh with e' | e'
      · obtain ⟨p, hp, hpy⟩ := List.mem_map.mp e'
        have e4 := ok.ix p hp
        rw [show p.1 = y from hpy] at e4
        exact hne (List.mem_map.mpr ⟨p, hp, nodup_ix hN e4 e1⟩)
      · exact e' (List.mem_of_getElem? e1)
    have hfr : scope.names.lookup y = some .free := by
      have e3 : Vis scope y := e3
      rcases e3 with e3 | e3 | e3
      · exact absurd (.inl rfl) (nol _ e3)
      · exact absurd (.inr rfl) (nol _ e3)
      · exact e3
    obtain ⟨m, hn, hl⟩ := I.loc
    have hk := ok.free _ (PySem.mem_of_lookup hfr) rfl
    obtain ⟨w, r, q⟩ := hl i y av e1 e2 (hk.elim (fun k => .inr (.inl k)) (fun k => .inr (.inr k)))
    obtain ⟨c, h1, h2⟩ := look hfr
    refine ⟨w, r, .inr ⟨.inr hfr, c, h1, ?_⟩⟩
    rcases q with ⟨k, _⟩ | ⟨_, c', e', z⟩
    · have k : X.env.scope.names.lookup y = some .local := k
      rcases hk with k' | k'
      · rw [show X.env.scope.names.lookup y = some .cell from k'] at k; cases k
      · rw [show X.env.scope.names.lookup y = some .free from k'] at k; cases k
    · rw [h2] at e'
      cases e'
      exact z.keeps kp
  · obtain ⟨w, z⟩ := I.cell y c (cm e).1
    exact ⟨w, z.keeps kp⟩
end
/-! ### the turns -/
section
variable {Y : Cx} {gp : List (Addr × Obj)}
def REnd (Y : Cx) (gp : List (Addr × Obj)) (Dn : Hp → Prop) : GenEnd := fun _ _ r s1 => r = .ok .next ∧ ∃ σ' H', Inv Y gp σ' H' s1 ∧ Dn H'
def YItem (Y : Cx) (gp : List (Addr × Obj)) (Wn : Nat → Nat → Hp → Prop) (Ps : Nat → Nat → V → Hp → Prop) : Protocol := fun n _ v s1 kap =>
  ∃ i m y σ' H', m ≤ n ∧ RelV y v ∧ Inv Y gp σ' H' s1 ∧ Ps i m y H' ∧ ∀ s' m', Sl s1 s' → m' < m → Wn (i + 1) m' H' → kap (.send .none) s'
theorem seg_turns {A : Around} {tg elt iter : Expr} {scope : Scope} {pos : Pos} {it : Addr} {fp : List Addr} {tn : Nat → Heap → Prop} {J : It} {g : TG} {te : TE} {vs : List Nat} {σ : L2.St} {Wn : Nat → Nat → Hp → Prop} {Ps : Nat → Nat → V → Hp → Prop} {Dn : Hp → Prop}
    (hA : A.over (.compLoop (.GeneratorExp elt [⟨tg, iter, [], 0⟩] scope pos) 0 (.ref it) .none Y.env) [] = Y.A) (hc : Y.calm = true) (hx : Y.xe = fun _ _ => False) (hco : Y.env.scope.isCoroutine = false)
    (T : Turn Y.prog Y.w Y.K tg J fp it tn) (hg : PG Y tg g) (he : PE Y elt te) (hfp : ∀ H' : Hp, (∀ b ∈ fp, H' b = none) → ∀ b ∈ fp, FpOk Y gp H' b)
    (turn : ∀ i m H, Wn i m H → (J.stop i H ∧ Dn H) ∨ (J.go i H ∧ ∃ Px : V → Hp → Prop, (∀ y H4, Px y H4 → Ps i m y H4) ∧ ∀ x H', J.yld i H x H' → g x (wipe σ vs) H' fun σ2 H2 => wipe σ2 vs = wipe σ vs ∧ te σ2 H2 Px)) :
    ∀ (n i m : Nat) (s₀ s : Shared) (σ1 : L2.St) (H1 : Hp), m < n → Inv Y gp σ1 H1 s → wipe σ1 vs = wipe σ vs → tn i s.heap → (∀ b ∈ fp, H1 b = none) → Wn i m H1 →
      Seg (model Y.prog Y.w) A (REnd Y gp Dn) (YItem Y gp Wn Ps) n s₀ (.compLoop (.GeneratorExp elt [⟨tg, iter, [], 0⟩] scope pos) 0 (.ref it) .none Y.env)
        ((model Y.prog Y.w).den (.compLoop (.GeneratorExp elt [⟨tg, iter, [], 0⟩] scope pos) 0 (.ref it) .none Y.env)) [] s := by
  intro n
  induction n with
  | zero =>
    intro i m s₀ s σ1 H1 hm
    exact absurd hm (Nat.not_lt_zero m)
  | succ n ih =>
    intro i m s₀ s σ1 H1 hm I1 hw hst hfr hW
    show Seg _ A _ _ _ s₀ _ ((compTurn (.GeneratorExp elt [⟨tg, iter, [], 0⟩] scope pos) 0 (.ref it) .none Y.env).onRaise (leaving Y.env)) [] s
    rw [compTurn_gen, Sem.onRaise_eq_wrap]
    refine seg_bind_wrap (wpAny_standAt ?_)
    have I0 : Inv Y gp (wipe σ vs) H1 s := by rw [← hw]; exact wiped I1
    rcases turn i m H1 hW with ⟨hstop, hd⟩ | ⟨hgo, Px, hPx, hy⟩
    · refine seg_bind_wrap ?_
      rw [hA]
      refine thnF (thn (T.done Y rfl rfl rfl hc i gp s _ H1 (fun _ _ => False) I0 (hfp H1 hfr) hst hstop) fun r s1 ⟨hr, I2⟩ => ?_) fun _ _ q => q
      subst hr
      exact seg_end (.ok .next) ⟨rfl, _, H1, I2, hd⟩
    · refine seg_bind_wrap ?_
      rw [hA]
      refine thnF (thn (T.item Y rfl rfl rfl hc i gp s _ H1 (fun _ _ => False) I0 (hfp H1 hfr) hst hgo) fun r s1 ⟨u, hr, h1⟩ => ?_) fun _ _ q => q
      subst hr
      refine seg_bind_wrap ?_
      rw [hA]
      refine thnF (thn h1 fun _ s2 ⟨x, H2, I2, ru, yl, st2, fr2⟩ => ?_) fun _ _ q => q
      have I3 := I2.pinned (hfp H2 fr2) (T.obj _ _ st2)
      refine seg_bind_wrap ?_
      rw [hA]
      have hgr := hg.run _ s2 _ H2 x u _ I3 ru (hy x H2 yl)
      rw [hx] at hgr
      refine thnF (thn hgr fun _ s3 ⟨σ3, H3, I4, hw3, q3⟩ => ?_) fun _ _ q => q
      simp only [List.forIn_nil]
      refine seg_bind_wrap (wpAny_pure ?_)
      simp only [if_true]
      have hyo : ∀ v, yieldOut Y.env v = yieldValue v := fun v => by simp only [yieldOut, hco, Bool.false_eq_true, if_false]
      simp only [hyo]
      rw [Sem.bind_eq_wrap', Sem.bind_eq_wrap', Sem.wrap_wrap, Sem.wrap_wrap]
      refine seg_wrap ?_
      rw [hA]
      have her := he.run _ s3 σ3 H3 _ I4 q3
      rw [hx] at her
      refine thnF (thn her fun v s4 ⟨y, H4, I5, ry, q4⟩ => ?_) fun _ _ q => q
      have st4 : tn (i + 1) s4.heap := T.keep _ _ _ st2 fun b hb o e => (I5.pin (b, o) (List.mem_append_right _ (List.mem_append_right _ (mem_pinsAt hb e)))).1
      have fr4 : ∀ b ∈ fp, H4 b = none := fun b hb => by
        obtain ⟨o, e, d⟩ := T.obj _ _ st2 b hb
        exact (I5.pin (b, o) (List.mem_append_right _ (List.mem_append_right _ (mem_pinsAt hb e)))).2.1
      have I6 := I5.unpinned
      refine seg_at (seg_yield rfl rfl rfl ⟨i, m, y, σ3, H4, by omega, ry, I6, hPx _ _ q4, fun s' m' z hm' hW' => ?_⟩)
      refine seg_again rfl (ih (i + 1) m' s' s' σ3 H4 (by omega) (slept I6 z) hw3 (T.keep _ _ _ st4 fun b _ o e => z.2.2 b o e) fr4 hW')
theorem seg_first {A : Around} {tg elt iter : Expr} {scope : Scope} {pos : Pos} {it : Addr} {R : GenEnd} {Yp : Protocol} {n : Nat} {s₀ s : Shared} {fp : List Addr} {tn : Nat → Heap → Prop} {J : It} {i : Nat} (T : Turn Y.prog Y.w Y.K tg J fp it tn) (hst : tn i s.heap)
    (loop : Seg (model Y.prog Y.w) A R Yp n s₀ (.compLoop (.GeneratorExp elt [⟨tg, iter, [], 0⟩] scope pos) 0 (.ref it) .none Y.env)
        ((model Y.prog Y.w).den (.compLoop (.GeneratorExp elt [⟨tg, iter, [], 0⟩] scope pos) 0 (.ref it) .none Y.env)) [] s) :
    Seg (model Y.prog Y.w) A R Yp n s₀ (.compStart (.GeneratorExp elt [⟨tg, iter, [], 0⟩] scope pos) 0 (.ref it) .none Y.env)
        ((model Y.prog Y.w).den (.compStart (.GeneratorExp elt [⟨tg, iter, [], 0⟩] scope pos) 0 (.ref it) .none Y.env)) [] s := by
  show Seg _ A _ _ _ s₀ _ ((compStart (.GeneratorExp elt [⟨tg, iter, [], 0⟩] scope pos) 0 (.ref it) .none Y.env).onRaise (leaving Y.env)) [] s
  unfold compStart
  rw [Sem.onRaise_eq_wrap]
  show Seg _ A _ _ _ s₀ _ ((ask >>= _).wrap _ _ _ _) [] s
  refine seg_bind_wrap (wpAny_askSetting ?_)
  split
  · exact seg_again rfl loop
  · first
      | exact seg_bind_wrap (wpAny_rule (seg_bind_wrap (wpAny_standAt (seg_bind_wrap (T.self _ i s _ _ hst (seg_again rfl loop))))))
      | (refine seg_bind_wrap (wpAny_rule ?_)
         show Seg _ A _ _ _ s₀ _ ((standAt iter.pos >>= _).wrap _ _ _ _) [] s
         exact seg_bind_wrap (wpAny_standAt (seg_bind_wrap (T.self _ i s _ _ hst (seg_again rfl loop)))))
end
end Gx
namespace Gx
open PySem PySem.Spec PyProof.Rows L2 GxR GenW
/-! ### the consumer: any (st = true), all (st = false) -/
abbrev stopId (st : Bool) : String := if st = true then "any" else "all"
def PsB (st : Bool) (Wn : Nat → Nat → Hp → Prop) (Q : VK) (i m : Nat) (y : V) (H : Hp) : Prop := ∃ b, y = .bl b ∧ if b = st then Q (.bl st) H else ∃ m', m' < m ∧ Wn (i + 1) m' H
section
variable {Y : Cx} {gp : List (Addr × Obj)} {A : Around} {a : Addr} {g : Nat} {Wn : Nat → Nat → Hp → Prop} {Q : VK} {R : Result → Shared → Prop}
theorem wake_sl {s1 : Shared} {x : GenState} (hb : AllBare s1.gens) (hx : x.bare = true) : Sl s1 ((s1.setGen g x).setGen g .running) :=
  ⟨rfl, allBare_setGen (allBare_setGen hb hx) rfl, fun _ _ e => e⟩
theorem set_sl {s1 : Shared} {x : GenState} (hb : AllBare s1.gens) (hx : x.bare = true) : Sl s1 (s1.setGen g x) := ⟨rfl, allBare_setGen hb hx, fun _ _ e => e⟩
theorem any_loop (hh : A.handled = none) (hd : A.depth < recursionLimit) (hgen : ∀ σ' H' s', Inv Y gp σ' H' s' → s'.heap.IsGen a g)
    (hyes : ∀ σ' H' s', Inv Y gp σ' H' s' → Q (.bl true) H' → R (.ok (.ret (.bool true))) s') (hno : ∀ σ' H' s', Inv Y gp σ' H' s' → Q (.bl false) H' → R (.ok (.ret (.bool false))) s') :
    ∀ (n : Nat) (s : Shared), g < s.gens.size → s.heap.IsGen a g → s.heap.NoLimit →
      (∃ gs, s.gens[g]? = some gs ∧ gs.Goes (model Y.prog Y.w) A.in1.in1 (REnd Y gp fun H => Q (.bl false) H) (YItem Y gp Wn (PsB true Wn Q)) n (.send .none) (s.setGen g .running)) →
      codeAny (model Y.prog Y.w) A (.builtin "any.loop" ⟨[.ref a], []⟩) R s := by
  intro n
  induction n with
  | zero =>
    intro s hgs hg hl ⟨gs, e1, hgo⟩
    refine codeAny_builtin F.entry_any_loop ?_
    rw [Around.under_plainId F.plain_any_loop _]
    show wpAny _ A.in1 (pyNext (.ref a) >>= _) _ _ s
    refine wpAny_bind (wpAny_pyNext_genexpQ (P := fun _ _ s1 => ∃ σ' H', Inv Y gp σ' H' s1 ∧ Q (.bl false) H') hh hl hd hg e1 hgo (fun v s1 gs' hb hv => ?_) (fun s1 hp h' hk => ?_))
    · obtain ⟨i, m, y, σ', H', hm, ry, I, ⟨b, rfl, hq⟩, kap⟩ := hv
      obtain rfl : v = .bool b := ry
      refine wpAny_bind (wpAny_holding (wpAny_truthy_bool ?_))
      refine wpAny_bind (wpAny_letGo ?_)
      cases b with
      | true =>
        simp only [if_true]
        refine wpAny_bind (wpAny_rule (wpAny_pure ?_))
        exact hyes σ' H' _ (slept I (set_sl I.bare hb)) (by simpa using hq)
      | false =>
        obtain ⟨m', hm', hw⟩ : ∃ m', m' < m ∧ Wn (i + 1) m' H' := by simpa using hq
        exact False.elim (kap s1 m' ⟨rfl, I.bare, fun _ _ e => e⟩ hm' hw)
    · obtain ⟨σ', H', I, q⟩ := hp
      refine wpAny_bind (wpAny_rule (wpAny_pure ?_))
      exact hno σ' H' _ (slept I ⟨rfl, allBare_setGen I.bare rfl, hk⟩) q
  | succ n ih =>
    intro s hgs hg hl ⟨gs, e1, hgo⟩
    refine codeAny_builtin F.entry_any_loop ?_
    rw [Around.under_plainId F.plain_any_loop _]
    show wpAny _ A.in1 (pyNext (.ref a) >>= _) _ _ s
    refine wpAny_bind (wpAny_gsz (n := g + 1) hgs (wpAny_pyNext_genexpQ (P := fun _ _ s1 => ∃ σ' H', Inv Y gp σ' H' s1 ∧ Q (.bl false) H') hh hl hd hg e1 hgo (fun v s1 gs' hb hv hz => ?_) (fun s1 hp h' hk hz => ?_)))
    · obtain ⟨i, m, y, σ', H', hm, ry, I, ⟨b, rfl, hq⟩, kap⟩ := hv
      obtain rfl : v = .bool b := ry
      refine wpAny_bind (wpAny_holding (wpAny_truthy_bool ?_))
      refine wpAny_bind (wpAny_letGo ?_)
      cases b with
      | true =>
        simp only [if_true]
        refine wpAny_bind (wpAny_rule (wpAny_pure ?_))
        exact hyes σ' H' _ (slept I (set_sl I.bare hb)) (by simpa using hq)
      | false =>
        obtain ⟨m', hm', hw⟩ : ∃ m', m' < m ∧ Wn (i + 1) m' H' := by simpa using hq
        simp only [Bool.false_eq_true, if_false]
        have hz1 : g < s1.gens.size := by
          have hz : g + 1 ≤ (s1.setGen g gs').gens.size := hz
          rw [setGen_size] at hz
          exact hz
        refine wpAny_pure ⟨plainId_quiet F.plain_any_loop _, ih _ (by rw [setGen_size]; exact hz1) (hgen _ _ _ (slept I (set_sl I.bare hb))) I.nolimit ⟨gs', setGen_at hz1, ?_⟩⟩
        exact kap _ m' (wake_sl I.bare hb) hm' hw
    · obtain ⟨σ', H', I, q⟩ := hp
      refine wpAny_bind (wpAny_rule (wpAny_pure ?_))
      exact hno σ' H' _ (slept I ⟨rfl, allBare_setGen I.bare rfl, hk⟩) q
theorem all_loop (hh : A.handled = none) (hd : A.depth < recursionLimit) (hgen : ∀ σ' H' s', Inv Y gp σ' H' s' → s'.heap.IsGen a g)
    (hyes : ∀ σ' H' s', Inv Y gp σ' H' s' → Q (.bl true) H' → R (.ok (.ret (.bool true))) s') (hno : ∀ σ' H' s', Inv Y gp σ' H' s' → Q (.bl false) H' → R (.ok (.ret (.bool false))) s') :
    ∀ (n : Nat) (s : Shared), g < s.gens.size → s.heap.IsGen a g → s.heap.NoLimit →
      (∃ gs, s.gens[g]? = some gs ∧ gs.Goes (model Y.prog Y.w) A.in1.in1 (REnd Y gp fun H => Q (.bl true) H) (YItem Y gp Wn (PsB false Wn Q)) n (.send .none) (s.setGen g .running)) →
      codeAny (model Y.prog Y.w) A (.builtin "all.loop" ⟨[.ref a], []⟩) R s := by
  intro n
  induction n with
  | zero =>
    intro s hgs hg hl ⟨gs, e1, hgo⟩
    refine codeAny_builtin F.entry_all_loop ?_
    rw [Around.under_plainId F.plain_all_loop _]
    show wpAny _ A.in1 (pyNext (.ref a) >>= _) _ _ s
    refine wpAny_bind (wpAny_pyNext_genexpQ (P := fun _ _ s1 => ∃ σ' H', Inv Y gp σ' H' s1 ∧ Q (.bl true) H') hh hl hd hg e1 hgo (fun v s1 gs' hb hv => ?_) (fun s1 hp h' hk => ?_))
    · obtain ⟨i, m, y, σ', H', hm, ry, I, ⟨b, rfl, hq⟩, kap⟩ := hv
      obtain rfl : v = .bool b := ry
      refine wpAny_bind (wpAny_holding (wpAny_truthy_bool ?_))
      refine wpAny_bind (wpAny_letGo ?_)
      cases b with
      | false =>
        simp only [Bool.false_eq_true, if_false]
        refine wpAny_bind (wpAny_rule (wpAny_pure ?_))
        exact hno σ' H' _ (slept I (set_sl I.bare hb)) (by simpa using hq)
      | true =>
        obtain ⟨m', hm', hw⟩ : ∃ m', m' < m ∧ Wn (i + 1) m' H' := by simpa using hq
        exact False.elim (kap s1 m' ⟨rfl, I.bare, fun _ _ e => e⟩ hm' hw)
    · obtain ⟨σ', H', I, q⟩ := hp
      refine wpAny_bind (wpAny_rule (wpAny_pure ?_))
      exact hyes σ' H' _ (slept I ⟨rfl, allBare_setGen I.bare rfl, hk⟩) q
  | succ n ih =>
    intro s hgs hg hl ⟨gs, e1, hgo⟩
    refine codeAny_builtin F.entry_all_loop ?_
    rw [Around.under_plainId F.plain_all_loop _]
    show wpAny _ A.in1 (pyNext (.ref a) >>= _) _ _ s
    refine wpAny_bind (wpAny_gsz (n := g + 1) hgs (wpAny_pyNext_genexpQ (P := fun _ _ s1 => ∃ σ' H', Inv Y gp σ' H' s1 ∧ Q (.bl true) H') hh hl hd hg e1 hgo (fun v s1 gs' hb hv hz => ?_) (fun s1 hp h' hk hz => ?_)))
    · obtain ⟨i, m, y, σ', H', hm, ry, I, ⟨b, rfl, hq⟩, kap⟩ := hv
      obtain rfl : v = .bool b := ry
      refine wpAny_bind (wpAny_holding (wpAny_truthy_bool ?_))
      refine wpAny_bind (wpAny_letGo ?_)
      cases b with
      | false =>
        simp only [Bool.false_eq_true, if_false]
        refine wpAny_bind (wpAny_rule (wpAny_pure ?_))
        exact hno σ' H' _ (slept I (set_sl I.bare hb)) (by simpa using hq)
      | true =>
        obtain ⟨m', hm', hw⟩ : ∃ m', m' < m ∧ Wn (i + 1) m' H' := by simpa using hq
        simp only [if_true]
        have hz1 : g < s1.gens.size := by
          have hz : g + 1 ≤ (s1.setGen g gs').gens.size := hz
          rw [setGen_size] at hz
          exact hz
        refine wpAny_pure ⟨plainId_quiet F.plain_all_loop _, ih _ (by rw [setGen_size]; exact hz1) (hgen _ _ _ (slept I (set_sl I.bare hb))) I.nolimit ⟨gs', setGen_at hz1, ?_⟩⟩
        exact kap _ m' (wake_sl I.bare hb) hm' hw
    · obtain ⟨σ', H', I, q⟩ := hp
      refine wpAny_bind (wpAny_rule (wpAny_pure ?_))
      exact hyes σ' H' _ (slept I ⟨rfl, allBare_setGen I.bare rfl, hk⟩) q
end
end Gx
namespace Gx
open PySem PySem.Spec PyProof.Rows L2 GxR GenW
/-! ### the expression -/
theorem wipe_get (σ : L2.St) (i : Nat) : ∀ vs : List Nat, (wipe σ vs)[i]? = if i ∈ vs then (σ[i]?).map (fun _ => none) else σ[i]?
  | [] => by rw [if_neg (by simp)]; rfl
  | v :: vs => by
    unfold wipe
    rw [List.getElem?_set, wipe_get σ i vs]
    by_cases e : v = i
    · subst e
      rw [if_pos rfl, if_pos List.mem_cons_self, wipe_length]
      by_cases h : v < σ.length
      · rw [if_pos h, List.getElem?_eq_getElem h]
        rfl
      · rw [if_neg h, List.getElem?_eq_none (by omega)]
        rfl
    · rw [if_neg e]
      by_cases m : i ∈ vs
      · rw [if_pos m, if_pos (List.mem_cons_of_mem _ m)]
      · rw [if_neg m, if_neg (by simp only [List.mem_cons, not_or]; exact ⟨fun z => e z.symm, m⟩)]
theorem wipe_wipe (σ : L2.St) (vs : List Nat) : wipe (wipe σ vs) vs = wipe σ vs := by
  refine List.ext_getElem? fun i => ?_
  rw [wipe_get, wipe_get]
  by_cases m : i ∈ vs
  · rw [if_pos m, if_pos m]
    cases σ[i]? <;> rfl
  · rw [if_neg m, if_neg m]
theorem room_gen {k : Nat} {A : Around} (r : Room (k + 1) A) {G : Expr} {it acc : Value} {genv : Env} (hG : ∃ elt gens sc ps, G = .GeneratorExp elt gens sc ps) : Room k (A.in1.in1.over (.compLoop G 0 it acc genv) []) := by
  obtain ⟨elt, gens, sc, ps, rfl⟩ := hG
  refine ⟨r.hd, ?_, ?_⟩
  · have := r.dp
    show A.depth + 0 + 1 + 3 * k + 5 < _
    omega
  · have := r.un
    show A.units + 1 + 1 + 0 + 3 + 16 * k + 200 < _
    omega
theorem frames_gen {A : Around} {l : List Env} (h : A.frames = some l) {elt : Expr} {gens : List Comprehension} {sc : Scope} {ps : Pos} {it acc : Value} {genv : Env} : (A.in1.in1.over (.compLoop (.GeneratorExp elt gens sc ps) 0 it acc genv) []).frames = some (genv :: l) := by
  show pushEnvs [genv] (pushEnvs [] A.frames) = _
  rw [h]
  rfl
/-! a made generator a, of number g, ready to go on; Y: its frame's context -/
structure Made (X : Cx) (pins : List (Addr × Obj)) (σ : L2.St) (tg : Expr) (J : It) (gt : TG) (te : TE) (vs : List Nat) (H2 : Hp) (a : Addr) (g : Nat) (Y : Cx) (gp : List (Addr × Obj)) (s5 : Shared) : Prop where
  prog : Y.prog = X.prog
  w : Y.w = X.w
  inv : Inv Y gp (wipe σ vs) H2 s5
  isGen : ∀ σ' H' s', Inv Y gp σ' H' s' → s'.heap.IsGen a g
  size : g < s5.gens.size
  back : ∀ σ' H' s', Inv Y gp σ' H' s' → Inv X pins σ H' s'
  goes : ∀ (Wn : Nat → Nat → Hp → Prop) (Ps : Nat → Nat → V → Hp → Prop) (Dn : Hp → Prop), (∀ i m H, Wn i m H → (J.stop i H ∧ Dn H) ∨ (J.go i H ∧ ∃ Px : V → Hp → Prop, (∀ y H4, Px y H4 → Ps i m y H4) ∧ ∀ x H', J.yld i H x H' → gt x (wipe σ vs) H' fun σ2 H3 => wipe σ2 vs = wipe σ vs ∧ te σ2 H3 Px)) →
    ∀ n m, m < n → Wn 0 m H2 → ∃ gs, s5.gens[g]? = some gs ∧ gs.Goes (model Y.prog Y.w) X.A.in1.in1 (REnd Y gp Dn) (YItem Y gp Wn Ps) n (.send .none) (s5.setGen g .running)
section
variable {X : Cx} {pins : List (Addr × Obj)} {σ : L2.St} {H : Hp} {s : Shared}
theorem gen_make {k : Nat} {c P : Addr} {elt tg iter : Expr} {scope : Scope} {gpos : Pos} {own : List (Str × Nat)} {wi : TI} {gt : TG} {te : TE} {Rr : It → Hp → Prop} {Q' : Value → Shared → Prop}
    (hr : Room (k + 1) X.A) (TB : TabB X.base X.mg c P) (hcode : X.env.code = .ref c) (ok : BlkOk X.N X.env.scope scope own) (hco : scope.isCoroutine = false) (hcell : ∀ y ∈ scope.names, y.2 ≠ .cell) (hdot : scope.names.lookup (".0" : Str) = some NameKind.local) (hN : X.N.Nodup)
    (hi : PI X tg iter wi) (hg : ∀ (A' : Around) (s : Shared) (H : Hp) (C : Addr) (cl : List (Str × Addr)) (code : Value) (fp : List Addr), Room k A' → PG (gcx X A' s H (genEnv scope cl C code builtinsNs X.env) fp) tg gt)
    (he : ∀ (A' : Around) (s : Shared) (H : Hp) (C : Addr) (cl : List (Str × Addr)) (code : Value) (fp : List Addr), Room k A' → PE (gcx X A' s H (genEnv scope cl C code builtinsNs X.env) fp) elt te)
    (hs : ∀ v, genFold iter X.env v = pure v) (I : Inv X pins σ H s) (h : wi σ H fun J H1 => TabG H1 P ∧ ∀ H2, Tabbed P H1 H2 → Rr J H2)
    (hQ : ∀ (J : It) (H2 : Hp) (a : Addr) (g : Nat) (Y : Cx) (gp : List (Addr × Obj)) (s5 : Shared), Rr J H2 → Made X pins σ tg J gt te (own.map (·.2)) H2 a g Y gp s5 → Q' (.ref a) s5) :
    wpAny (model X.prog X.w) X.A (eval (.GeneratorExp elt [⟨tg, iter, [], 0⟩] scope gpos) X.env) Q' X.xe s := by
  have hfree : ∀ y ∈ scope.names, y.2 = .free → ∃ c, X.env.cells.lookup y.1 = some c := fun y hy e => (ok.free y hy e).elim (fun k => I.ok.has _ (.inl k)) (fun k => I.ok.has _ (.inr k))
  refine wpAny_GeneratorExp_make hco (closure_ok hfree) hcell hdot ok.kind (by have := hr.dp; omega) (thn (hi.run pins s σ H _ I h) fun xv s1 hx => thn hx fun itv s2 h2 => ?_) hs
  obtain ⟨it, fp, tn, J, H1, rfl, I2, T, st2, f2, ⟨ps, hP, ht⟩, hR⟩ := h2
  have hPs : s2.heap.get? P = some { cls := .none, data := .fields ps } := I2.hok P _ hP
  have cd : PySem.W.CodeHd s2.heap c P := TB.code.keeps I2.bk
  refine ⟨I2.nolimit, ?_⟩
  have cont : ∀ (code : Value) (h3 : Heap) (tk : Nat) (more : Array Value), Heap.ExtBut P s2.heap h3 → h3.get? P = some { cls := .none, data := .fields (ps ++ more) } → TriplesOk (ps ++ more).toList →
      wpAny (model X.prog X.w) X.A (builtinsFor X.env.globals X.env.builtins) (fun bi s4 => ∀ h', h'.Ns s4.heap.objs.size (fun y => if y = ".0" then some (.ref it) else none) → Heap.SameBut s4.heap.objs.size (s4.heap.push { cls := .type "frame", data := .dict #[] }) h' →
          Q' (.ref h'.objs.size) { s4 with gens := s4.gens.push (.fresh (.compStart (.GeneratorExp elt [⟨tg, iter, [], 0⟩] scope gpos) 0 (.ref it) .none (genEnv scope (cloFrom X.env.cells scope.names []) s4.heap.objs.size code bi X.env))), toks := s4.toks + 1 + 1 + 1, heap := h'.push { cls := .type "generator", data := .fields #[.int s4.gens.size 0, .str "<genexpr>" (s4.toks + 1), .str (X.env.qual ++ "<genexpr>") (s4.toks + 1 + 1)] } }) X.xe { s2 with heap := h3, toks := tk } := by
    intro code h3 tk more hxb hP3 ht3
    have keep3 : ∀ b u, b ≠ P → s2.heap.get? b = some u → h3.get? b = some u := fun b u hb e => hxb b u hb e
    have I3 : Inv X pins σ (upd H1 P (.tbl (ps ++ more))) { s2 with heap := h3, toks := tk } := inv_tab (g' := s2.gens) (d' := s2.drawn) I2 hP keep3 hP3 I2.bare
    have nP : ∀ b ∈ fp, b ≠ P := fun b hb z => by
      have e := (f2 b hb).1
      rw [z, hP] at e
      cases e
    have st3 : tn 0 h3 := T.keep _ _ _ st2 fun b hb o e => keep3 b o (nP b hb) e
    have hR2 := hR _ ⟨⟨_, upd_same, ht3⟩, fun b hb => upd_ne hb⟩
    have f3 : ∀ b ∈ fp, FpOk X pins (upd H1 P (.tbl (ps ++ more))) b := fun b hb => ⟨by rw [upd_ne (nP b hb)]; exact (f2 b hb).1, (f2 b hb).2⟩
    generalize upd H1 P (.tbl (ps ++ more)) = H2 at I3 hR2 f3
    obtain ⟨bm, ob, e1, e2, e3, e4, e5, e6, e7, e8⟩ := TB.bm
    refine wpAny_builtinsFor (m := X.mg) (by rw [I3.ok.glob]; exact I3.mod.glob.keeps I3.bk) e1 e2 (I3.bk _ _ e5) e6 e7 e8 ?_
    intro h' hn' hs'
    generalize hs4 : ({ s2 with heap := h3, toks := tk } : Shared) = s4 at I3 hn' hs' ⊢
    have st4 : tn 0 s4.heap := by rw [← hs4]; exact st3
    have kp' : ∀ b o, s4.heap.get? b = some o → h'.get? b = some o := fun b o e => hs'.extBut b o (Nat.ne_of_lt (Heap.lt_size e)) (Heap.get?_push_of_some _ e)
    have szh : h'.objs.size = s4.heap.objs.size + 1 := by rw [hs'.1, Heap.size_push]
    have szf : ∀ b ∈ fp, b < s4.heap.objs.size := fun b hb => by
      obtain ⟨o, e, _⟩ := T.obj _ _ st4 b hb
      exact Heap.lt_size e
    have main : ∀ (go : Obj) (nm qn : Value) (tk2 : Nat), go.cls = .type "generator" → go.data = .fields #[.int s4.gens.size 0, nm, qn] → go.slots = #[] → (h'.push go).get? h'.objs.size = some go →
        Q' (.ref h'.objs.size) { s4 with gens := s4.gens.push (.fresh (.compStart (.GeneratorExp elt [⟨tg, iter, [], 0⟩] scope gpos) 0 (.ref it) .none (genEnv scope (cloFrom X.env.cells scope.names []) s4.heap.objs.size code builtinsNs X.env))), toks := tk2, heap := h'.push go } := by
      intro go nm qn tk2 hgc hgd hgs hgp
      generalize hG : Expr.GeneratorExp elt [⟨tg, iter, [], 0⟩] scope gpos = G
      generalize hE : genEnv scope (cloFrom X.env.cells scope.names []) s4.heap.objs.size code builtinsNs X.env = genv
      have rm : Room k (X.A.in1.in1.over (.compLoop G 0 (.ref it) .none genv) []) := room_gen hr ⟨_, _, _, _, hG.symm⟩
      have fr : (X.A.in1.in1.over (.compLoop G 0 (.ref it) .none genv) []).frames = some (genv :: X.stack) := by rw [← hG]; exact frames_gen I3.ok.frames
      have kp5 : ∀ b o, s4.heap.get? b = some o → (h'.push go).get? b = some o := fun b o e => Heap.get?_push_of_some _ (kp' b o e)
      have I5 : Inv (gcx X (X.A.in1.in1.over (.compLoop G 0 (.ref it) .none genv) []) s4 H2 genv fp) [] (wipe σ (own.map (·.2))) H2 { s4 with gens := s4.gens.push (.fresh (.compStart G 0 (.ref it) .none genv)), toks := tk2, heap := h'.push go } := by
        rw [← hE]
        exact gen_start (it := .ref it) I3 ok hcell hN (fun b hb => ⟨f3 b hb, szf b hb⟩) rm.hd (by rw [hE]; exact fr) (hn'.push go) kp5 (AllBare.push I3.bare rfl)
      have young : ∀ b, s4.heap.objs.size < b → H2 b = none ∧ b ∉ frs X.stack := fun b hb => by
        refine ⟨I3.hok.fresh (Nat.le_of_lt hb), fun z => ?_⟩
        rcases List.mem_cons.mp (I3.stkSub b z) with q | q
        · rw [q] at hb
          exact absurd (Nat.lt_trans hb I3.lt) (Nat.lt_irrefl _)
        · exact I3.nofs (Nat.le_of_lt hb) q
      have J5 : Inv (gcx X (X.A.in1.in1.over (.compLoop G 0 (.ref it) .none genv) []) s4 H2 genv fp) [(h'.objs.size, go)] (wipe σ (own.map (·.2))) H2 { s4 with gens := s4.gens.push (.fresh (.compStart G 0 (.ref it) .none genv)), toks := tk2, heap := h'.push go } := by
        refine I5.pins_of fun p hp => ?_
        rw [List.mem_singleton.mp hp]
        obtain ⟨y1, y2⟩ := young h'.objs.size (by rw [szh]; exact Nat.lt_succ_self _)
        refine ⟨hgp, y1, ?_, y2, fun v z => ?_⟩
        · show h'.objs.size ≠ genv.locals
          rw [← hE, szh]
          exact Nat.succ_ne_self _
        · have z : go.data = .cell v := z
          rw [hgd] at z
          cases z
      refine hQ J H2 h'.objs.size s4.gens.size (gcx X (X.A.in1.in1.over (.compLoop G 0 (.ref it) .none genv) []) s4 H2 genv fp) [(h'.objs.size, go)] _ hR2 ⟨rfl, rfl, J5, fun σ' H' s' K => ?_, ?_, fun σ' H' s' K => ?_, fun Wn Ps Dn turn n m hm hW => ⟨.fresh (.compStart G 0 (.ref it) .none genv), Array.getElem?_push_size .., rfl, ?_⟩⟩
      · exact ⟨go, nm, qn, (K.pin (h'.objs.size, go) (List.mem_append_right _ (List.mem_singleton.mpr rfl))).1, hgc, hgd, hgs⟩
      · show s4.gens.size < (s4.gens.push _).size
        rw [Array.size_push]
        exact Nat.lt_succ_self _
      · exact I3.call' (ch := fp) K.os K.base K.hok K.bare fun b hb => ⟨(f3 b hb).2.2.2.1, (f3 b hb).2.1, (f3 b hb).2.2.2.2.1, (f3 b hb).2.2.2.2.2⟩
      · have Z : Sl { s4 with gens := s4.gens.push (.fresh (.compStart G 0 (.ref it) .none genv)), toks := tk2, heap := h'.push go } (({ s4 with gens := s4.gens.push (.fresh (.compStart G 0 (.ref it) .none genv)), toks := tk2, heap := h'.push go } : Shared).setGen s4.gens.size .running) := ⟨rfl, allBare_setGen J5.bare rfl, fun _ _ e => e⟩
        have st5 : tn 0 (h'.push go) := T.keep _ _ _ st4 fun b _ o e => kp5 b o e
        rw [← hG] at *
        refine seg_first (Y := gcx X (X.A.in1.in1.over (.compLoop (.GeneratorExp elt [⟨tg, iter, [], 0⟩] scope gpos) 0 (.ref it) .none genv) []) s4 H2 genv fp) (i := 0) T st5 ?_
        refine seg_turns (Y := gcx X (X.A.in1.in1.over (.compLoop (.GeneratorExp elt [⟨tg, iter, [], 0⟩] scope gpos) 0 (.ref it) .none genv) []) s4 H2 genv fp) rfl rfl rfl (by rw [← hE]; exact hco) T ?_ ?_ (fun H' hn b hb => ?_) turn n 0 m _ _ _ H2 hm (slept J5 Z) (wipe_wipe _ _) st5 (fun b hb => (f3 b hb).1) hW
        · rw [← hE] at rm ⊢
          exact hg _ _ _ _ _ _ _ rm
        · rw [← hE] at rm ⊢
          exact he _ _ _ _ _ _ _ rm
        · refine ⟨hn b hb, ?_, fun z => ?_, .inl hb, fun y c e z => ?_, fun p hp z => ?_⟩
          · show b ≠ genv.locals
            rw [← hE]
            exact Nat.ne_of_lt (szf b hb)
          · rcases List.mem_cons.mp (I3.stkSub b z) with q | q
            · exact (f3 b hb).2.1 q
            · exact (f3 b hb).2.2.1 q
          · exact (J5.ok.exf b hb).2 y c e z
          · have hp : p ∈ [(h'.objs.size, go)] := hp
            rw [List.mem_singleton.mp hp] at z
            have z : h'.objs.size = b := z
            have q := szf b hb
            rw [← z, szh] at q
            exact absurd q (Nat.not_lt.mpr (Nat.le_succ _))
    exact main _ _ _ _ rfl rfl rfl (Heap.get?_push_size _ rfl)
  cases hf : codeAmong gpos ps.toList with
  | none =>
    refine wpAny_genexprCodeX hcode (cd.code hPs ht) (cd.tab hPs) hf fun c' h' tk hx hge hlt hco' _ htab' _ => ?_
    obtain ⟨o1, us, f1, tf, fl, tg1, inF, tx, tt, op, _, _, _, _, _, _, _, _, _, htr, _⟩ := hco'
    exact cont _ h' tk _ hx htab'.2 htr
  | some cv =>
    refine wpAny_genexprCode_hit hcode (cd.code hPs ht) hf ?_
    exact cont cv s2.heap s2.toks #[] (Heap.ExtBut.refl _ _) (by rw [Array.append_empty]; exact hPs) (by rw [Array.append_empty]; exact ht)
end
end Gx
namespace Gx
open PySem PySem.Spec PyProof.Rows L2 GxR GenW
/-! what is wanted, told by name, so that it is found again -/
def Wish (Q : VK) (v : V) (H : Hp) : Prop := Q v H
/-! st: what ends it (any: True, all: False) -/
def tGx (P : Addr) (st : Bool) (wi : TI) (gt : TG) (te : TE) (vs : List Nat) : TE := fun σ H Q => wi σ H fun J H1 => TabG H1 P ∧ ∀ H2, Tabbed P H1 H2 → ∃ W : Nat → Nat → Hp → Prop, (∃ m, W 0 m H2) ∧ ∀ i m H, W i m H →
  (J.stop i H ∧ Wish Q (.bl (!st)) H) ∨ (J.go i H ∧ ∃ Nx : Hp → Prop, (∀ H', Nx H' → ∃ m', m' < m ∧ W (i + 1) m' H') ∧ ∀ x H', J.yld i H x H' → gt x (wipe σ vs) H' fun σ2 H3 => wipe σ2 vs = wipe σ vs ∧ te σ2 H3 fun y H4 => ∃ b, y = .bl b ∧ if b = st then Wish Q (.bl st) H4 else Nx H4)
theorem turnB {J : It} {gt : TG} {te : TE} {vs : List Nat} {σ : L2.St} {st : Bool} {W : Nat → Nat → Hp → Prop} {Q : VK} {Dn : Hp → Prop}
    (h : ∀ i m H, W i m H → (J.stop i H ∧ Dn H) ∨ (J.go i H ∧ ∃ Nx : Hp → Prop, (∀ H', Nx H' → ∃ m', m' < m ∧ W (i + 1) m' H') ∧ ∀ x H', J.yld i H x H' → gt x (wipe σ vs) H' fun σ2 H3 => wipe σ2 vs = wipe σ vs ∧ te σ2 H3 fun y H4 => ∃ b, y = .bl b ∧ if b = st then Q (.bl st) H4 else Nx H4)) :
    ∀ i m H, W i m H → (J.stop i H ∧ Dn H) ∨ (J.go i H ∧ ∃ Px : V → Hp → Prop, (∀ y H4, Px y H4 → PsB st W Q i m y H4) ∧ ∀ x H', J.yld i H x H' → gt x (wipe σ vs) H' fun σ2 H3 => wipe σ2 vs = wipe σ vs ∧ te σ2 H3 Px) := fun i m H hW => by
  rcases h i m H hW with a | ⟨go, Nx, hN, hy⟩
  · exact .inl a
  · refine .inr ⟨go, _, fun y H4 ⟨b, e, hb⟩ => ⟨b, e, ?_⟩, hy⟩
    by_cases hc : b = st
    · rw [if_pos hc] at hb ⊢
      exact hb
    · rw [if_neg hc] at hb ⊢
      exact hN _ hb
/-! over a walk of n turns -/
theorem gx_it {J : It} {n : Nat} {G : Hp → Prop} {Yw : Nat → Hp → V → Hp → Prop} (w : Walk J n G Yw) {gt : TG} {te : TE} {vs : List Nat} {σ : L2.St} {st : Bool} {Q : VK} {H2 : Hp} (Pv : Nat → Hp → Prop) (h0 : Pv 0 H2) (hG : ∀ i H, i ≤ n → Pv i H → G H)
    (hs : ∀ i x H H', i < n → Pv i H → Yw i H x H' → gt x (wipe σ vs) H' fun σ2 H3 => wipe σ2 vs = wipe σ vs ∧ te σ2 H3 fun y H4 => ∃ b, y = .bl b ∧ if b = st then Wish Q (.bl st) H4 else Pv (i + 1) H4) (hd : ∀ H, Pv n H → Wish Q (.bl (!st)) H) :
    ∃ W : Nat → Nat → Hp → Prop, (∃ m, W 0 m H2) ∧ ∀ i m H, W i m H → (J.stop i H ∧ Wish Q (.bl (!st)) H) ∨ (J.go i H ∧ ∃ Nx : Hp → Prop, (∀ H', Nx H' → ∃ m', m' < m ∧ W (i + 1) m' H') ∧ ∀ x H', J.yld i H x H' → gt x (wipe σ vs) H' fun σ2 H3 => wipe σ2 vs = wipe σ vs ∧ te σ2 H3 fun y H4 => ∃ b, y = .bl b ∧ if b = st then Wish Q (.bl st) H4 else Nx H4) := by
  refine ⟨fun i m H => m = n - i ∧ i ≤ n ∧ Pv i H, ⟨n, by simp, Nat.zero_le _, h0⟩, ?_⟩
  rintro i m H ⟨rfl, hi, p⟩
  have q := hG i H hi p
  by_cases hlt : i < n
  · exact .inr ⟨w.goes i H hlt q, Pv (i + 1), fun H' p' => ⟨n - (i + 1), by omega, rfl, hlt, p'⟩, fun x H' y => hs i x H H' hlt p (w.yields i H x H' hlt q y)⟩
  · obtain rfl : i = n := by omega
    exact .inl ⟨w.stops H q, hd H p⟩
section
variable {X : Cx}
theorem call_anyG {J : It} {tg : Expr} {gt : TG} {te : TE} {vs : List Nat} {H2 : Hp} {a : Addr} {g : Nat} {Y : Cx} {gp pins : List (Addr × Obj)} {σ : L2.St} {s5 : Shared} {Q : VK} {k : Nat} (hr : Room k X.A) (M : Made X pins σ tg J gt te vs H2 a g Y gp s5)
    (h : ∃ W : Nat → Nat → Hp → Prop, (∃ m, W 0 m H2) ∧ ∀ i m H, W i m H → (J.stop i H ∧ Q (.bl false) H) ∨ (J.go i H ∧ ∃ Nx : Hp → Prop, (∀ H', Nx H' → ∃ m', m' < m ∧ W (i + 1) m' H') ∧ ∀ x H', J.yld i H x H' → gt x (wipe σ vs) H' fun σ2 H3 => wipe σ2 vs = wipe σ vs ∧ te σ2 H3 fun y H4 => ∃ b, y = .bl b ∧ if b = true then Q (.bl true) H4 else Nx H4)) :
    wpAny (model X.prog X.w) X.A (call (.builtin "any") [.ref a]) (EP X pins σ Q) X.xe s5 := by
  obtain ⟨W, ⟨m, hW⟩, turn⟩ := h
  refine call_function_tree F.kind_any F.plain_any F.entry_any (F.args_any1 _) ?_
  unfold Builtin.«any»
  refine wpAny_bind (m := oneArg "any" _) (wpAny_pure ?_)
  refine wpAny_bind (wpAny_pyIter_gen (M.isGen _ _ _ M.inv) ?_)
  refine wpAny_pure ⟨plainId_quiet F.plain_any_loop _, ?_⟩
  have q := any_loop (Y := Y) (gp := gp) (A := X.A) (a := a) (g := g) (Wn := W) (Q := Q) (R := fun r s' => match r with | .ok (.ret v) => EP X pins σ Q v s' | .ok _ => False | .error e => X.xe e s') hr.hd (by have := hr.dp; omega) M.isGen
    (fun σ' H' s' I q => ⟨.bl true, H', M.back _ _ _ I, rfl, q⟩) (fun σ' H' s' I q => ⟨.bl false, H', M.back _ _ _ I, rfl, q⟩) (m + 1) s5 M.size (M.isGen _ _ _ M.inv) M.inv.nolimit (M.goes W _ _ (turnB turn) (m + 1) m (Nat.lt_succ_self _) hW)
  rw [M.prog, M.w] at q
  exact q
theorem call_allG {J : It} {tg : Expr} {gt : TG} {te : TE} {vs : List Nat} {H2 : Hp} {a : Addr} {g : Nat} {Y : Cx} {gp pins : List (Addr × Obj)} {σ : L2.St} {s5 : Shared} {Q : VK} {k : Nat} (hr : Room k X.A) (M : Made X pins σ tg J gt te vs H2 a g Y gp s5)
    (h : ∃ W : Nat → Nat → Hp → Prop, (∃ m, W 0 m H2) ∧ ∀ i m H, W i m H → (J.stop i H ∧ Q (.bl true) H) ∨ (J.go i H ∧ ∃ Nx : Hp → Prop, (∀ H', Nx H' → ∃ m', m' < m ∧ W (i + 1) m' H') ∧ ∀ x H', J.yld i H x H' → gt x (wipe σ vs) H' fun σ2 H3 => wipe σ2 vs = wipe σ vs ∧ te σ2 H3 fun y H4 => ∃ b, y = .bl b ∧ if b = false then Q (.bl false) H4 else Nx H4)) :
    wpAny (model X.prog X.w) X.A (call (.builtin "all") [.ref a]) (EP X pins σ Q) X.xe s5 := by
  obtain ⟨W, ⟨m, hW⟩, turn⟩ := h
  refine call_function_tree F.kind_all F.plain_all F.entry_all (F.args_all1 _) ?_
  unfold Builtin.«all»
  refine wpAny_bind (m := oneArg "all" _) (wpAny_pure ?_)
  refine wpAny_bind (wpAny_pyIter_gen (M.isGen _ _ _ M.inv) ?_)
  refine wpAny_pure ⟨plainId_quiet F.plain_all_loop _, ?_⟩
  have q := all_loop (Y := Y) (gp := gp) (A := X.A) (a := a) (g := g) (Wn := W) (Q := Q) (R := fun r s' => match r with | .ok (.ret v) => EP X pins σ Q v s' | .ok _ => False | .error e => X.xe e s') hr.hd (by have := hr.dp; omega) M.isGen
    (fun σ' H' s' I q => ⟨.bl true, H', M.back _ _ _ I, rfl, q⟩) (fun σ' H' s' I q => ⟨.bl false, H', M.back _ _ _ I, rfl, q⟩) (m + 1) s5 M.size (M.isGen _ _ _ M.inv) M.inv.nolimit (M.goes W _ _ (turnB turn) (m + 1) m (Nat.lt_succ_self _) hW)
  rw [M.prog, M.w] at q
  exact q
theorem pe_any {k : Nat} {c P : Addr} {elt tg iter : Expr} {scope : Scope} {gpos p pos : Pos} {own : List (Str × Nat)} {wi : TI} {gt : TG} {te : TE}
    (hr : Room (k + 1) X.A) (hgl : Gl X "any") (hm : X.mg "any" = none) (TB : TabB X.base X.mg c P) (hcode : X.env.code = .ref c) (hN : X.N.Nodup) (hi : PI X tg iter wi) (ok : BlkOk X.N X.env.scope scope own)
    (hg : ∀ (A' : Around) (s : Shared) (H : Hp) (C : Addr) (cl : List (Str × Addr)) (code : Value) (fp : List Addr), Room k A' → PG (gcx X A' s H (genEnv scope cl C code builtinsNs X.env) fp) tg gt)
    (he : ∀ (A' : Around) (s : Shared) (H : Hp) (C : Addr) (cl : List (Str × Addr)) (code : Value) (fp : List Addr), Room k A' → PE (gcx X A' s H (genEnv scope cl C code builtinsNs X.env) fp) elt te)
    (hco : scope.isCoroutine = false := by rfl) (hcell : ∀ y ∈ scope.names, y.2 ≠ .cell := by decide +kernel) (hdot : scope.names.lookup (".0" : Str) = some NameKind.local := by rfl) (hs : ∀ v, genFold iter X.env v = pure v := by intro _; rfl)
    (hst : starEach [.GeneratorExp elt [⟨tg, iter, [], 0⟩] scope gpos] X.env = (false, eval (.GeneratorExp elt [⟨tg, iter, [], 0⟩] scope gpos) X.env) :: starEach [] X.env := by rfl) :
    PE X (.Call (.Name "any" p) [.GeneratorExp elt [⟨tg, iter, [], 0⟩] scope gpos] [] pos) (tGx P true wi gt te (own.map (·.2))) := by
  refine ⟨fun pins s σ H Q I h => ?_⟩
  refine wpAny_Call_Name_kw (ld_blt I hgl hm boot_any ?_)
  refine PyProof.Rows.callWith_builtin1 ?_ hst (by rfl)
  rw [hst]
  show wpAny _ _ (spliced ((false, eval (.GeneratorExp elt [⟨tg, iter, [], 0⟩] scope gpos) X.env) :: backTo pos (starEach [] X.env))) _ _ s
  refine Calls.spliced_cons (gen_make hr TB hcode ok hco hcell hdot hN hi hg he hs I h fun J H2 a g Y gp s5 hR M => ?_)
  exact Calls.spliced_nil (call_anyG hr M hR)
theorem pe_all {k : Nat} {c P : Addr} {elt tg iter : Expr} {scope : Scope} {gpos p pos : Pos} {own : List (Str × Nat)} {wi : TI} {gt : TG} {te : TE}
    (hr : Room (k + 1) X.A) (hgl : Gl X "all") (hm : X.mg "all" = none) (TB : TabB X.base X.mg c P) (hcode : X.env.code = .ref c) (hN : X.N.Nodup) (hi : PI X tg iter wi) (ok : BlkOk X.N X.env.scope scope own)
    (hg : ∀ (A' : Around) (s : Shared) (H : Hp) (C : Addr) (cl : List (Str × Addr)) (code : Value) (fp : List Addr), Room k A' → PG (gcx X A' s H (genEnv scope cl C code builtinsNs X.env) fp) tg gt)
    (he : ∀ (A' : Around) (s : Shared) (H : Hp) (C : Addr) (cl : List (Str × Addr)) (code : Value) (fp : List Addr), Room k A' → PE (gcx X A' s H (genEnv scope cl C code builtinsNs X.env) fp) elt te)
    (hco : scope.isCoroutine = false := by rfl) (hcell : ∀ y ∈ scope.names, y.2 ≠ .cell := by decide +kernel) (hdot : scope.names.lookup (".0" : Str) = some NameKind.local := by rfl) (hs : ∀ v, genFold iter X.env v = pure v := by intro _; rfl)
    (hst : starEach [.GeneratorExp elt [⟨tg, iter, [], 0⟩] scope gpos] X.env = (false, eval (.GeneratorExp elt [⟨tg, iter, [], 0⟩] scope gpos) X.env) :: starEach [] X.env := by rfl) :
    PE X (.Call (.Name "all" p) [.GeneratorExp elt [⟨tg, iter, [], 0⟩] scope gpos] [] pos) (tGx P false wi gt te (own.map (·.2))) := by
  refine ⟨fun pins s σ H Q I h => ?_⟩
  refine wpAny_Call_Name_kw (ld_blt I hgl hm (show bootBuiltins "all" = some (.builtin "all") by decide +kernel) ?_)
  refine PyProof.Rows.callWith_builtin1 ?_ hst (by rfl)
  rw [hst]
  show wpAny _ _ (spliced ((false, eval (.GeneratorExp elt [⟨tg, iter, [], 0⟩] scope gpos) X.env) :: backTo pos (starEach [] X.env))) _ _ s
  refine Calls.spliced_cons (gen_make hr TB hcode ok hco hcell hdot hN hi hg he hs I h fun J H2 a g Y gp s5 hR M => ?_)
  exact Calls.spliced_nil (call_allG hr M hR)
end
end Gx
/-! ### defs with a table of their own; the end with the tables of such defs -/
namespace Gx
open PySem PySem.Spec PyProof.Rows L2 GxR
section
variable {P : Program} {w : World} {K : PySem.W.Frag} {mg : Str → Option Value} {base : Heap}
theorem okC {x qual : Str} {st : Stmt} {f c : Addr} {fd : FuncData} {N ps : List Str} {k : Nat} {sp : Sp} (F : Fun K x qual st f fd) (hc : fd.code = .ref c) (S : FnScope N ps (defScope st)) (len : ∀ vs H Q E, sp vs H Q E → vs.length = ps.length)
    (body : ∀ (A : Around) (outer : List Env) (s : Shared) (H : Hp) (vs : List V) (Q : VK) (E : XK), Room k (A.deeper (envOfC qual (defScope st) s.heap.objs.size f (.ref c))) → sp vs H Q E →
      ∃ t, PSs (cxOf CX0 P w K mg base N qual (defScope st) f (.ref c) A outer s H E).nox (defBody st) t ∧ t { nx := fun _ H' => Q .non H', rt := Q } (start N vs) H) : FnOk P w K mg base CX0 (k + 1) f fd ps sp := by
  obtain ⟨oc, od, kV, doc, pm, an, cv, ct, osl, rfl, lk, hcd⟩ := F.ex
  obtain rfl : cv = .ref c := hc
  refine fn_of lk hcd S len fun A outer s H vs Q E hr hsp => ?_
  obtain ⟨t, h, q⟩ := body A outer s H vs Q E hr hsp
  exact ⟨t, h.nox, q⟩
theorem okCX {x qual : Str} {st : Stmt} {f c : Addr} {fd : FuncData} {N ps : List Str} {k : Nat} {sp : Sp} (F : Fun K x qual st f fd) (hc : fd.code = .ref c) (S : FnScope N ps (defScope st)) (len : ∀ vs H Q E, sp vs H Q E → vs.length = ps.length)
    (body : ∀ (A : Around) (outer : List Env) (s : Shared) (H : Hp) (vs : List V) (Q : VK) (E : XK), Room k (A.deeper (envOfC qual (defScope st) s.heap.objs.size f (.ref c))) → sp vs H Q E →
      ∃ t, PSs (cxOf (L2.CX P w) P w K mg base N qual (defScope st) f (.ref c) A outer s H E) (defBody st) t ∧ t { nx := fun _ H' => Q .non H', rt := Q } (start N vs) H) : FnOk P w K mg base (L2.CX P w) (k + 1) f fd ps sp := by
  obtain ⟨oc, od, kV, doc, pm, an, cv, ct, osl, rfl, lk, hcd⟩ := F.ex
  obtain rfl : cv = .ref c := hc
  exact fn_of lk hcd S len fun A outer s H vs Q E hr hsp => body A outer s H vs Q E hr hsp
end
/-! what the top's heap tells of the tables of its defs -/
def TopTab (q : Program) (K : PySem.W.Frag) (h : Heap) : Prop := ∀ (y : Str) (dd : DefRec) (c P : Addr), (recsOf q).find? (fun e => e.name == y) = some dd → PySem.W.tabIn K y = some (c, P) → PySem.W.CodeHd h c P ∧ h.get? P = some (PySem.W.tabObj #[])
theorem walk_tab {l : PySem.W.OpenLaw} {n k : Nat} {q : Program} {loose : List Str} {XP : (Str → Option Value) → Heap → Prop} {YP : World → Heap → Prop} {d : DefRec} {K : Params → PySem.W.Frag} {CX : World → CXT} {x : Str}
    (hn : l.most = some n) (hn2 : n ≤ sizeLine) (hdf : d.params.defaults = []) (hr : Room k callerA) (hY : ∀ (w : World) (h : Heap), YP w h → (K w.params).In h)
    (F : ∀ (w : World) (mg : Str → Option Value) (fa : Addr) (h : Heap), YP w h → (K w.params).In h → h.Ns mainGlobals mg → mg d.name = some (.ref fa) → TopTab q (K w.params) h → LamX.LawAtS l w (K w.params) (CX w) k n x mg fa h)
    (hCX : ∀ (w : World) (H : Hp) (s : Shared) (e : Value) (s' : Shared), CX w [] H s (fun _ _ _ => False) e s' → False) :
    PySem.W.WalkO q loose XP YP l.row.toRowW d [] (fun f vs => PySem.call f vs) := by
  refine Att.attach_callB hn hdf fun w s₀ s₁ mg mb fa o pm cd doc a vs ns G Y ho hd hcd hmg hobj hints hlen hbits hg => ?_
  have KX := hY w _ Y
  obtain ⟨fd, cs, sp, hT, nT, C, hb, hsp, hF⟩ := F w mg fa _ Y KX G.T.g hmg (fun y dd c P e1 e2 => PySem.W.tab_of G.T KX e1 e2)
  exact LamX.law_callTs KX G.T.g G.T.b G.T.builtins G.T.nolimit hg hT nT C G.T.bmain hobj hints (Nat.le_trans hlen hn2) hr hF hb (fun H hH hS => hsp H a ns hlen hbits hH hS) fun H e s' => hCX w H s₁ e s'
end Gx
/-! ### sorted of tuples of texts and whole numbers, the first a text; any two alike, or of unlike first texts -/
namespace Fl
open PySem PySem.W PyProof.Rows
inductive FV : PyData → Value → Prop
  | int (i : Int) (t : Tok) : FV (.int i) (.int i t)
  | str (x : Str) (t : Tok) : FV (.str x) (.str x t)
inductive FVs : List PyData → List Value → Prop
  | nil : FVs [] []
  | cons {d : PyData} {u : Value} {ds : List PyData} {us : List Value} : FV d u → FVs ds us → FVs (d :: ds) (u :: us)
theorem FVs.len : ∀ {ds : List PyData} {us : List Value}, FVs ds us → ds.length = us.length
  | _, _, .nil => rfl
  | _, _, .cons _ r => by rw [List.length_cons, List.length_cons, r.len]
section
variable {prog : Program} {w : World} {A : Around} {E : Value → Shared → Prop} {s : Shared}
theorem flat_lex {b fin : Bool} {Q : Bool → Shared → Prop} : ∀ (xs ys : List PyData) (i : Nat) (us ws : List Value), FVs xs us → FVs ys ws → alikeAll xs ys = true → fin = decide (xs.length < ys.length) →
    Q (lexLt itemOrd (keyToksAll xs) (keyToksAll ys)) s → KatLex prog w A b fin Q (us.zip ws) i s
  | [], [], i, _, _, .nil, .nil, _, hf, hq => by
    have e : fin = false := by rw [hf]; rfl
    subst e
    rw [lex_irrefl] at hq
    exact kat_nil hq
  | [], y :: ys, i, _, _, .nil, _, _, hf, hq => by
    have e : fin = true := by rw [hf]; exact decide_eq_true (Nat.succ_pos _)
    subst e
    rw [toks_all_cons] at hq
    simp only [keyToksAll] at hq
    rw [lex_diff (O := itemOrd) (by simp)] at hq
    rw [List.zip_nil_left]
    exact kat_nil (by simpa [itemLt] using hq)
  | x :: xs, [], i, _, _, _, .nil, _, hf, hq => by
    have e : fin = false := by rw [hf]; exact decide_eq_false (Nat.not_lt_zero _)
    subst e
    rw [toks_all_cons] at hq
    simp only [keyToksAll] at hq
    rw [lex_diff (O := itemOrd) (by simp)] at hq
    rw [List.zip_nil_right]
    exact kat_nil (by simpa [itemLt] using hq)
  | x :: xs, y :: ys, i, _, _, .cons f fs, .cons g gs, h, hf, hq => by
    obtain ⟨h1, h2⟩ := alike_all_cons h
    have hf' : fin = decide (xs.length < ys.length) := by
      rw [hf]
      simp only [List.length_cons, Nat.add_lt_add_iff_right]
    rw [List.zip_cons_cons]
    cases f with
    | int a t =>
      cases g with
      | int c u =>
        refine kat_cons (SeqAt.EqAt.int_int a t c u prog w _ _ ?_)
        cases hx : PyData.eqv (.int a) (.int c) with
        | true =>
          rw [dataLt_all_yes h1 hx] at hq
          have e1 : (a == c) = true := by simpa [PyData.eqv] using hx
          rw [e1]
          exact kat_yes (flat_lex xs ys (i + 1) _ _ fs gs h2 hf' hq)
        | false =>
          rw [dataLt_all_no h1 hx, dataLt_int] at hq
          have e1 : (a == c) = false := by simpa [PyData.eqv] using hx
          rw [e1]
          exact kat_no (oneLt_any_int hq)
      | str c u => exact absurd h1 (by simp [alike])
    | str a t =>
      cases g with
      | int c u => exact absurd h1 (by simp [alike])
      | str c u =>
        refine kat_cons (SeqAt.EqAt.str_str a t c u prog w _ _ ?_)
        cases hx : PyData.eqv (.str a) (.str c) with
        | true =>
          rw [dataLt_all_yes h1 hx] at hq
          have e1 : (a == c) = true := by simpa [PyData.eqv] using hx
          rw [e1]
          exact kat_yes (flat_lex xs ys (i + 1) _ _ fs gs h2 hf' hq)
        | false =>
          rw [dataLt_all_no h1 hx, dataLt_str] at hq
          have e1 : (a == c) = false := by simpa [PyData.eqv] using hx
          rw [e1]
          exact kat_no (oneLt_any_str hq)
def ltD (x y : List PyData) : Bool := lexLt itemOrd (keyToksAll x) (keyToksAll y)
theorem swo_ltD {A : Type} (k : A → List PyData) : SrtO.Swo fun v u => ltD (k v) (k u) := by
  refine ⟨fun x y h => ?_, fun x y z h1 h2 => ?_⟩
  · cases e : ltD (k y) (k x) with
    | false => rfl
    | true =>
      have := lex_trans _ _ _ h e
      rw [lex_irrefl] at this
      cases this
  · cases e : ltD (k z) (k x) with
    | false => rfl
    | true =>
      rcases lex_negTrans _ (keyToksAll (k y)) _ e with q | q
      · exact absurd (h2.symm.trans q) (by decide)
      · exact absurd (h1.symm.trans q) (by decide)
/-! what two such tuples must be to one another -/
def Can (x y : List PyData) : Prop := ∃ a r c t, x = .str a :: r ∧ y = .str c :: t ∧ (a = c → alikeAll r t = true)
def IsFl (h : Heap) (v : Value) (ds : List PyData) : Prop := ∃ a o its n, v = .ref a ∧ h.get? a = some o ∧ o.cls = .type "tuple" ∧ o.data = .seq its n ∧ FVs ds its.toList
theorem IsFl.keeps {h h' : Heap} {v : Value} {ds : List PyData} (p : IsFl h v ds) (k : ∀ b o, h.get? b = some o → o.cls = .type "tuple" → h'.get? b = some o) : IsFl h' v ds := by
  obtain ⟨a, o, its, n, e, ho, hc, r⟩ := p
  exact ⟨a, o, its, n, e, k a o ho hc, hc, r⟩
theorem flat_cmp {vs : List Value} {k : Value → List PyData} (hp : ∀ v ∈ vs, IsFl s.heap v (k v)) (hc : ∀ v ∈ vs, ∀ u ∈ vs, Can (k v) (k u)) : SrtO.Cmp prog w A s (tuples' true) (fun p => p.1 ∈ vs) (SrtO.lt2 fun v u => ltD (k v) (k u)) := by
  intro p q hm hm'
  obtain ⟨a, o, its, n, e, ho, _, hd, f⟩ := hp _ hm
  obtain ⟨a', o', its', n', e', ho', _, hd', f'⟩ := hp _ hm'
  show wpAny (model prog w) A (keyLt' (tuples' true) p.1 q.1) (fun r s' => s' = s ∧ r = ltD (k p.1) (k q.1)) (fun _ _ => False) s
  obtain ⟨x, r, y, t, e1, e2, hal⟩ := hc _ hm _ hm'
  generalize k p.1 = kp at *
  generalize k q.1 = kq at *
  rw [e, e']
  refine kat_lt ho hd ho' hd' ?_
  have z1 : its.size = kp.length := by rw [← Array.length_toList]; exact f.len.symm
  have z2 : its'.size = kq.length := by rw [← Array.length_toList]; exact f'.len.symm
  rw [z1, z2]
  subst e1
  subst e2
  generalize its.toList = us at *
  generalize its'.toList = ws at *
  by_cases hxy : x = y
  · subst hxy
    refine flat_lex _ _ 0 us ws f f' ?_ rfl ⟨rfl, rfl⟩
    show (alike (.str x) (.str x) && alikeAll r t) = true
    rw [hal rfl]
    rfl
  · cases f with
    | cons f1 fs =>
      cases f' with
      | cons g1 gs =>
        cases f1 with
        | str _ tx =>
          cases g1 with
          | str _ ty =>
            rw [List.zip_cons_cons]
            refine kat_cons (SeqAt.EqAt.str_str x tx y ty prog w _ _ ?_)
            have e3 : (x == y) = false := by simpa using hxy
            rw [e3]
            refine kat_no (oneLt_any_str ⟨rfl, ?_⟩)
            have e4 : PyData.eqv (.str x) (.str y) = false := by simpa [PyData.eqv] using hxy
            unfold ltD
            rw [dataLt_all_no (by rfl) e4, dataLt_str]
theorem firsts_fl {h : Heap} {k : Value → List PyData} : ∀ {vs : List Value}, (∀ v ∈ vs, IsFl h v (k v) ∧ ∃ a r, k v = .str a :: r) → ∃ fs : List Value, KatTups h vs fs ∧ fs.length = vs.length ∧ ∀ f ∈ fs, ∃ x t, f = Value.str x t
  | [], _ => ⟨[], KatTups.nil, rfl, fun _ hm => by simp at hm⟩
  | v :: vs, hp => by
    obtain ⟨fs, h1, h2, h3⟩ := firsts_fl (vs := vs) fun v' hm => hp v' (List.mem_cons_of_mem _ hm)
    obtain ⟨⟨a, o, its, n, e, ho, hc, hd, f⟩, x, r, ek⟩ := hp v (List.mem_cons_self ..)
    subst e
    rw [ek] at f
    cases ei : its.toList with
    | nil =>
      rw [ei] at f
      cases f
    | cons u us =>
      rw [ei] at f
      cases f with
      | cons g _ =>
        cases g with
        | str _ t =>
          refine ⟨.str x t :: fs, KatTups.cons ho hc hd ?_ h1, by rw [List.length_cons, List.length_cons, h2], fun f hm => ?_⟩
          · rw [← Array.getElem?_toList, ei]
            rfl
          · rcases List.mem_cons.mp hm with rfl | hm
            · exact ⟨x, t, rfl⟩
            · exact h3 f hm
theorem sorted_fl {l : Addr} {vs : List Value} {k : Value → List PyData} {Q : Value → Shared → Prop} (hl : s.heap.IsList l vs.toArray) (hz : vs.length ≤ sizeLine) (hp : ∀ v ∈ vs, IsFl s.heap v (k v)) (hc : ∀ v ∈ vs, ∀ u ∈ vs, Can (k v) (k u))
    (h : ∀ (h' : Heap) (d : Addr) (out : List Value), SrtO.Srtd (fun v u => ltD (k v) (k u)) out → SrtO.Stb (fun v u => ltD (k v) (k u)) out vs → (∀ b o, s.heap.get? b = some o → h'.get? b = some o) → s.heap.objs.size ≤ d → (∃ n, h'.get? d = some (seqObj "list" out.toArray n)) → Q (.ref d) { s with heap := h' }) :
    wpAny (model prog w) A (call (.builtin "sorted") [.ref l]) Q E s := by
  refine SrtO.sorted_ord (swo_ltD k) hl hz (fun h2 h1 a ha kk => ?_) fun out hs hb => ?_
  · intro h' keep
    have hne : ∀ o, h1.get? a = some o → o.cls ≠ .type "tuple" := fun o e => by
      have e' : some o = some (seqObj "list" vs.toArray 0) := e.symm.trans ha
      cases e'
      intro c
      exact absurd (Value.type.inj c) (by decide)
    have hp' : ∀ v ∈ vs, IsFl h' v (k v) := fun v hm => (hp v hm).keeps fun b o e c => keep b o (fun z => by subst z; exact hne o (kk b o e).2 c) (kk b o e).2
    obtain ⟨fs, f1, f2, f3⟩ := firsts_fl (vs := vs) (k := k) fun v hm => ⟨hp' v hm, by
      obtain ⟨x, r, _, _, e, _⟩ := hc v hm v hm
      exact ⟨x, r, e⟩⟩
    refine ⟨tuples' true, fun Q E hq => ?_, flat_cmp hp' hc⟩
    refine kat_kind (T := .type "str") f1 (by omega) (fun f hm => ?_) (by rfl) ?_
    · obtain ⟨x, t, rfl⟩ := f3 f hm
      exact Looks.now
    · have e : (Value.type "str" != Value.type "tuple") = true := by first | decide +kernel | rfl | decide
      rw [e]
      exact hq
  · exact h _ _ out hs hb (fun b o e => sortedAll_old e) (Nat.le_succ _) (sortedAll_at s.heap vs out.toArray)
end
def dV : PyData → V
  | .int i => .int i
  | .str x => .str x
  | _ => .non
def flatD : PyData → Bool
  | .int _ => true
  | .str _ => true
  | _ => false
theorem fvs_of : ∀ {ds : List PyData} {us : List Value}, ds.all flatD = true → Vals (ds.map dV) us → FVs ds us
  | [], _, _, .nil => .nil
  | d :: ds, _ :: us, h, .cons r rs => by
    rw [List.all_cons, Bool.and_eq_true] at h
    refine .cons ?_ (fvs_of h.2 rs)
    cases d with
    | int i =>
      obtain ⟨t, rfl⟩ := r
      exact .int i t
    | str x =>
      obtain ⟨t, rfl⟩ := r
      exact .str x t
    | _ => exact absurd h.1 (by simp [flatD])
def rSortedFl (K : PySem.W.Frag) : List V → Hp → VK → Prop := fun vs H Q => ∃ (a : Addr) (xs : List V) (k : V → List PyData), vs = [V.ref a] ∧ SqL K H a xs ∧ (∀ x ∈ xs, ∃ t, x = V.ref t ∧ (k x).all flatD = true ∧ H t = some (.tup ((k x).map dV))) ∧ (∀ x ∈ xs, ∀ y ∈ xs, Can (k x) (k y)) ∧
  ∀ ys p, SrtO.Srtd (fun x y => ltD (k x) (k y)) ys → SrtO.Stb (fun x y => ltD (k x) (k y)) ys xs → H p = none → Q (.ref p) (upd H p (.lst ys))
theorem cr_sortedFl {X : Cx} : CallR X (.builtin "sorted") (rSortedFl X.K) := by
  intro pins s σ H vs us Q I r h
  obtain ⟨a, xs, k, rfl, hs, hx, hcan, q⟩ := h
  obtain ⟨its, rv, hl, hz⟩ := I.list hs
  obtain ⟨u, rfl, ru⟩ := vals1 r
  obtain rfl : u = Value.ref a := ru
  obtain ⟨e1, e2⟩ := refs_back rv fun x m => by
    obtain ⟨t, e, _⟩ := hx x m
    exact ⟨t, e⟩
  refine sorted_fl (k := fun u => k (backV u)) hl.isList (by rw [← rv.length]; exact hz) (fun v hv => ?_) (fun v hv u hu => ?_) fun h' d out h1 h2 kp hd hn => ?_
  · obtain ⟨t, rfl⟩ := e2 v hv
    have hm : V.ref t ∈ xs := by rw [e1]; exact List.mem_map.mpr ⟨_, hv, rfl⟩
    obtain ⟨t', e, hf, ht⟩ := hx _ hm
    cases e
    obtain ⟨_, its2, r2, o, ho, hc, n, hd⟩ := I.hok _ _ ht
    exact ⟨t, o, its2.toArray, n, rfl, ho, hc, hd, by rw [List.toList_toArray]; exact fvs_of hf r2⟩
  · exact hcan _ (by rw [e1]; exact List.mem_map.mpr ⟨_, hv, rfl⟩) _ (by rw [e1]; exact List.mem_map.mpr ⟨_, hu, rfl⟩)
  · have h3 : ∀ u ∈ out, ∃ a, u = Value.ref a := fun u hu => e2 u (h2.perm.mem_iff.mp hu)
    obtain ⟨n, hn⟩ := hn
    have hb : SrtO.Stb (fun x y => ltD (k x) (k y)) (out.map backV) xs := by
      rw [e1]
      exact SrtO.Stb.map (swo_ltD k) backV h2
    refine ⟨.ref d, upd H d (.lst (out.map backV)), I.laid (t' := s.toks) kp hd ⟨?_, out, n, vals_back h3, hn⟩, rfl, q _ d (SrtO.srtd_map h1) hb (I.hok.fresh hd)⟩
    rw [hb.len]
    exact hz
end Fl
/-! ### for a, b in zip(text, tuple) -/
namespace Zs
open PySem PySem.Spec PyProof.Rows L2
def Itzs (K : PySem.W.Frag) (x : Str) (b : Addr) : It :=
  ⟨fun i H => ∃ (ys : List V) (c : Nat) (y : V), SqT K H b ys ∧ x.cps[i]? = some c ∧ ys[i]? = some y,
    fun i H v H' => ∃ T c y, v = .ref T ∧ H T = none ∧ H' = upd H T (.tup [.str ⟨#[c]⟩, y]) ∧ x.cps[i]? = some c ∧ ∀ ys, SqT K H b ys → ys[i]? = some y,
    fun i H => ∃ ys : List V, SqT K H b ys ∧ i ≤ x.cps.size ∧ i ≤ ys.length ∧ (i = x.cps.size ∨ i = ys.length)⟩
theorem turn_zs {P : Program} {w : World} {K : PySem.W.Frag} {elts : List Expr} {kk : Nat} {tpos : Pos} {x : Str} {t : Tok} {b z TI TO i1 i2 : Addr} (D : ZipSep2 z TI TO i1 i2 [i1] [i2, b]) (hne : b ≠ i2) :
    Turn P w K (.Tuple elts kk tpos) (Itzs K x b) [z, TI, TO, i1, i2] z (fun i h => IsZip h z TI TO .none ∧ IsTupOf2 h TI (.ref i1) (.ref i2) ∧ (∃ a1 a2, IsTupOf2 h TO a1 a2) ∧ h.IsStrIter i1 (strIterType x) x t i ∧ h.IsTupleIter i2 b i) where
  mem := List.mem_cons_self ..
  obj := fun i h st c hc => by
    obtain ⟨hz, hTI, ⟨a1, a2, hTO⟩, ⟨o1, e1, _, d1⟩, ⟨o2, e2, _, d2⟩⟩ := st
    have hc' : c = z ∨ c = TI ∨ c = TO ∨ c = i1 ∨ c = i2 := by simpa using hc
    rcases hc' with rfl | rfl | rfl | rfl | rfl
    · exact ⟨_, hz, fun v q => nomatch q⟩
    · exact ⟨_, hTI, fun v q => nomatch q⟩
    · exact ⟨_, hTO, fun v q => nomatch q⟩
    · exact ⟨o1, e1, fun v q => by rw [d1] at q; cases q⟩
    · exact ⟨o2, e2, fun v q => by rw [d2] at q; cases q⟩
  keep := fun i h h' st k => by
    obtain ⟨hz, hTI, ⟨a1, a2, hTO⟩, ⟨o1, e1, r1⟩, ⟨o2, e2, r2⟩⟩ := st
    exact ⟨k z (by simp) _ hz, k TI (by simp) _ hTI, ⟨a1, a2, k TO (by simp) _ hTO⟩, ⟨o1, k i1 (by simp) _ e1, r1⟩, ⟨o2, k i2 (by simp) _ e2, r2⟩⟩
  item := by
    intro X hP hw hK hc i pins s σ H E I hf st hg
    subst hP hw hK
    obtain ⟨hz, hTI, ⟨a1, a2, hTO⟩, h1, h2⟩ := st
    obtain ⟨ys, c0, y, hq, hx, hy⟩ := hg
    obtain ⟨its, rv, p, _⟩ := I.tuple hq
    have hi1 : i < x.cps.size := (Array.getElem?_eq_some_iff.mp hx).1
    have hi2 : i < its.toArray.size := by
      have := (List.getElem?_eq_some_iff.mp hy).1
      rw [rv.length] at this
      simpa using this
    have hzl : z < s.heap.objs.size := Heap.lt_size hz
    have D1 := Draws.text (prog := X.prog) (w := X.w) (A := X.A.in1) (I.ok.hd hc) i1 x t
    have D2 := Draws.tuple (prog := X.prog) (w := X.w) (A := X.A.in1) (I.ok.hd hc) i2 b hne its.toArray
    refine wpAny_pyNext_zipD2_item (A := X.A) D D1 D2 hz hTI hTO h1 ⟨h2, p⟩ hi1 hi2 fun x1 x2 h' tk hp1 hp2 z' TO' s1' s2' hT hsz hk => ?_
    obtain ⟨c1, u1, ec, rfl⟩ := hp1
    obtain rfl : c0 = c1 := Option.some.inj (hx.symm.trans ec)
    refine ⟨_, rfl, wpAny_letOwnedTupleGo_zip (s := { s with heap := h', toks := tk }) z' fun h'' z'' sb => ?_⟩
    have hT2 : h''.get? s.heap.objs.size = some { cls := .type "tuple", data := .seq #[.str ⟨#[c0]⟩ u1, x2] } := (sb.2 _ (Nat.ne_of_gt hzl)).trans hT
    obtain ⟨u2, hu2, ru2⟩ := rv.get hy
    have ex2 : x2 = u2 := by
      have e1 : its.toArray[i]? = some u2 := by simpa using hu2
      exact Option.some.inj (hp2.symm.trans e1)
    subst ex2
    have new : ObjOk X.prog X.w (upd H s.heap.objs.size (.tup [.str ⟨#[c0]⟩, y])) h'' s.heap.objs.size (.tup [.str ⟨#[c0]⟩, y]) :=
      ⟨by show 2 ≤ sizeLine; decide, [.str ⟨#[c0]⟩ u1, x2], .cons ⟨u1, rfl⟩ (.cons ru2 .nil), ⟨_, hT2, rfl, _, rfl⟩⟩
    have J : Inv X pins σ (upd H s.heap.objs.size (.tup [.str ⟨#[c0]⟩, y])) { s with heap := h'', toks := tk } :=
      I.turnedNew (t' := tk) (ch := [z, TI, TO, i1, i2]) (fun c o hb q => (sb.2 c (fun e => hb (by simp [e]))).trans (hk c o (fun e => hb (by simp [e])) (fun e => hb (by simp [e])) (fun e => hb (by simp [e])) (fun e => hb (by simp [e])) q)) hf (Nat.le_refl _) new
    refine ⟨.ref s.heap.objs.size, _, J, rfl, ⟨_, c0, y, rfl, I.hok.fresh (Nat.le_refl _), rfl, hx, fun l hl => by rw [I.tuple_inj hl hq]; exact hy⟩, ⟨z'', ?_, ⟨_, _, (sb.2 _ D.TOz).trans TO'⟩, ?_, ?_⟩, fun c hcm => ?_⟩
    · exact (sb.2 _ D.TIz).trans (hk _ _ D.TIz D.TITO D.TIi1 D.TIi2 hTI)
    · obtain ⟨o, e, r⟩ := s1'
      exact ⟨o, (sb.2 _ (fun q => D.zi1 q.symm)).trans e, r⟩
    · obtain ⟨⟨o, e, r⟩, _⟩ := s2'
      exact ⟨o, (sb.2 _ (fun q => D.zi2 q.symm)).trans e, r⟩
    · have hlt : c < s.heap.objs.size := by
        have hc' : c = z ∨ c = TI ∨ c = TO ∨ c = i1 ∨ c = i2 := by simpa using hcm
        rcases hc' with rfl | rfl | rfl | rfl | rfl
        · exact hzl
        · exact Heap.lt_size hTI
        · exact Heap.lt_size hTO
        · obtain ⟨_, e1, _⟩ := h1; exact Heap.lt_size e1
        · obtain ⟨_, e2, _⟩ := h2; exact Heap.lt_size e2
      rw [upd_ne (Nat.ne_of_lt hlt)]
      exact (hf c hcm).1
  done := by
    intro X hP hw hK hc i pins s σ H E I hf st hg
    subst hP hw hK
    obtain ⟨hz, hTI, ⟨a1, a2, hTO⟩, h1, h2⟩ := st
    obtain ⟨ys, hq, l1, l2, he⟩ := hg
    obtain ⟨its, rv, p, _⟩ := I.tuple hq
    have hl : its.toArray.size = ys.length := by rw [rv.length]; simp
    have D1 := Draws.text (prog := X.prog) (w := X.w) (A := X.A.in1) (I.ok.hd hc) i1 x t
    have D2 := Draws.tuple (prog := X.prog) (w := X.w) (A := X.A.in1) (I.ok.hd hc) i2 b hne its.toArray
    refine wpAny_pyNext_zipD2_end (A := X.A) D D1 D2 hz hTI hTO h1 ⟨h2, p⟩ l1 (by omega) (by omega) fun h' tk hk => ⟨rfl, ?_⟩
    exact I.turnedL (t' := tk) (ch := [z, TI, TO, i1, i2]) (fun c o hb q => hk c o (fun e => hb (by simp [e])) (fun e => hb (by simp [e])) (fun e => hb (by simp [e])) (fun e => hb (by simp [e])) q) hf
  self := fun A i s Q E st h => wpAny_pyIter_zip st.1 h
def iZs (K : PySem.W.Frag) (ta : TA) : TI := fun σ H R => ta σ H fun vs H1 => ∃ x b ys, vs = [.str x, .ref b] ∧ SqT K H1 b ys ∧ R (Itzs K x b) H1
theorem pi_zs {X : Cx} {e e2 : Expr} {ta : TA} {p pos tpos : Pos} {elts : List Expr} {kk : Nat} (hg : Gl X "zip") (hm : X.mg "zip" = none) (ha : PA X [e, e2] ta)
    (hs : starEach [e, e2] X.env = (false, eval e X.env) :: starEach [e2] X.env := by rfl) (hpl : (backTo pos (starEach [e2] X.env)).any (·.1) = false := by rfl) :
    PI X (.Tuple elts kk tpos) (.Call (.Name "zip" p) [e, e2] [] pos) (iZs X.K ta) := by
  refine ⟨fun pins s σ H R I h => ?_⟩
  refine Call_ (ld_blt I hg hm PyProof.Rows.boot_zip (PyProof.Rows.callWith_type1 (thn (ha.run pos pins s σ H _ I h) fun us s1 hh => ?_) hs hpl))
  obtain ⟨vs, H1, J, r1, x, b, ys, ex, hq, q⟩ := hh
  subst ex
  cases r1 with
  | cons r rr =>
    cases rr with
    | cons r' rr =>
      cases rr
      obtain ⟨t, rfl⟩ := r
      cases r'
      obtain ⟨its, rv, p1, _⟩ := J.tuple hq
      obtain ⟨ob, hob, _⟩ := id p1
      have hb : b < s1.heap.objs.size := Heap.lt_size hob
      refine zip_begins2 (begins_text x t) (begins_tuple b its.toArray) trivial (show s1.heap.IsTuple b its.toArray from p1) fun h' hz hTI hTO h1 h2 hsz hk => wpAny_pyIter_zip hz ?_
      have J2 : Inv X pins σ H1 { s1 with heap := h' } := J.kept (t' := s1.toks) hk
      refine ⟨s1.heap.objs.size + 4, [s1.heap.objs.size + 4, s1.heap.objs.size + 2, s1.heap.objs.size + 3, s1.heap.objs.size, s1.heap.objs.size + 1], _, _, H1, rfl, J2, turn_zs (t := t) (zip_sep2 (N := s1.heap.objs.size) (fp1 := []) (fp2 := [b]) (fun _ m => nomatch m) (fun c m => by rw [List.mem_singleton.mp m]; exact hb)) (Nat.ne_of_lt (Nat.lt_succ_of_lt hb)), ⟨hz, hTI, ⟨_, _, hTO⟩, ⟨_, h1, rfl, rfl⟩, ⟨_, h2, rfl, rfl⟩⟩, fun c hcm => ?_, q⟩
      have hle : s1.heap.objs.size ≤ c := by
        have hc' : c = s1.heap.objs.size + 4 ∨ c = s1.heap.objs.size + 2 ∨ c = s1.heap.objs.size + 3 ∨ c = s1.heap.objs.size ∨ c = s1.heap.objs.size + 1 := by simpa using hcm
        rcases hc' with rfl | rfl | rfl | rfl | rfl
        · exact Nat.le_add_right _ _
        · exact Nat.le_add_right _ _
        · exact Nat.le_add_right _ _
        · exact Nat.le_refl _
        · exact Nat.le_add_right _ _
      exact J.fpOk hle (J.hok.fresh hle)
theorem walk_zs {K : PySem.W.Frag} {x : Str} {b : Addr} {ys : List V} (hl : x.cps.size = ys.length) : Walk (Itzs K x b) ys.length (fun H => SqT K H b ys) (fun i H v H' => ∃ T c y, v = .ref T ∧ H T = none ∧ H' = upd H T (.tup [.str ⟨#[c]⟩, y]) ∧ x.cps[i]? = some c ∧ ys[i]? = some y) := by
  refine ⟨fun i H hi q => ?_, fun H q => ⟨ys, q, by omega, Nat.le_refl _, .inr rfl⟩, fun i H v H' hi q y => ?_⟩
  · exact ⟨ys, x.cps[i], ys[i], q, by simp [hl, hi], by simp [hi]⟩
  · obtain ⟨T, c, z, h1, h2, h3, h4, h5⟩ := y
    exact ⟨T, c, z, h1, h2, h3, h4, h5 ys q⟩
end Zs
/-! ### several clauses, each with a name -/
namespace Xc
open PySem PySem.Spec PyProof.Rows L2
theorem exm_two {K : PySem.W.Frag} {S C : Addr} {b : Bool} (h1 : PySem.W.subIn K (.ref S) (.type "BaseException") = some true) (h2 : PySem.W.isClsIn K S = true) (h3 : PySem.W.typeIn K (.ref S) = some (.type "type")) (h4 : PySem.W.subIn K (.ref C) (.ref S) = some b) : PySem.W.exmOne K (.ref C) (.ref S) = some b := by
  have a1 : (PySem.W.subIn K (.ref S) (.type "BaseException") == some true) = true := by rw [h1] <;> rfl
  have a2 : ((PySem.W.clsIn K S).isSome && PySem.W.typeIn K (.ref S) == some (.type "type")) = true := by
    have h2' : (PySem.W.clsIn K S).isSome = true := h2
    rw [h2', h3] <;> rfl
  show (if (PySem.W.subIn K (.ref S) (.type "BaseException") == some true) = true then (if ((PySem.W.clsIn K S).isSome && PySem.W.typeIn K (.ref S) == some (.type "type")) = true then PySem.W.subIn K (.ref C) (.ref S) else none) else none) = some b
  rw [if_pos a1, if_pos a2, h4]
/-! behind a suite its name is gone -/
def gone (D : Ends) (i : Nat) : Ends := { nx := fun σ' H' => D.nx (σ'.set i none) H', rt := D.rt, bk := fun σ' H' => D.bk (σ'.set i none) H', ct := fun σ' H' => D.ct (σ'.set i none) H' }
def wEach (K : PySem.W.Frag) (Wout : WX) (D : Ends) (i : Nat) : List (Value × (Addr → Value → Option Addr → TS)) → WX
  | [] => Wout
  | (c, ts) :: r => fun cls d σ H => ∃ b, PySem.W.exmOne K cls c = some b ∧ (b = true → ∀ a, H a = none → ts a cls d (gone D i) (σ.set i (some (.ref a))) H) ∧ (b = false → wEach K Wout D i r cls d σ H)
inductive EachOk (X : Cx) (n : Str) : List ExceptHandler → List (Value × (Addr → Value → Option Addr → TS)) → Prop
  | nil : EachOk X n [] []
  | cons {x : Str} {c : Value} {ts : Addr → Value → Option Addr → TS} {b0 : Stmt} {suite : List Stmt} {np p2 : Pos} {hds : List ExceptHandler} {l : List (Value × (Addr → Value → Option Addr → TS))} (hc : Names X x c)
      (hsu : ∀ (a : Addr) (oe : Obj) (cls : Value) (d : Option Addr) (pn : List (Addr × Obj)), Zc cls d oe → (∃ vs, oe.data = .fields vs) → PSs (X.suite a ((a, oe) :: pn)) (b0 :: suite) (ts a cls d)) (r : EachOk X n hds l) :
      EachOk X n (.ExceptHandler (some (.Name x np)) (some n) (b0 :: suite) p2 :: hds) ((c, ts) :: l)
theorem ps_try_each {X : Cx} {n : Str} {i : Nat} {body : List Stmt} {h0 : ExceptHandler} {hds : List ExceptHandler} {l : List (Value × (Addr → Value → Option Addr → TS))} {pos : Pos} {tb : WX → TS} {Wout : WX}
    (hs : X.stack = X.env :: X.outer) (hf : X.env.frame = some X.env.locals) (hN : X.N.Nodup) (hi : X.N[i]? = some n) (hln : X.env.kindOf n = some .local) (tk : Takes X Wout)
    (hb : ∀ (W : WX) (pn : List (Addr × Obj)) (xe : Value → Shared → Prop), Takes (X.tr pn xe) W → PassesOwn (model X.prog X.w) X.A X.env xe → PSs (X.tr pn xe) body (tb W))
    (hh : EachOk X n (h0 :: hds) l) : PS X (.Try body (h0 :: hds) [] [] pos) (fun D σ H => tb (wEach X.K Wout D i l) D σ H) := by
  refine ⟨fun pins s σ H D I h => wpAny_Try_except (wpAny_mono ((hb _ (X.pn ++ pins) _ (fun u s1 xx => ?caught) PassesOwn.looking).run [] s σ H D (I.toTry _) h) (fun f s1 q => ?fine) (fun e s1 he => he))⟩
  case fine =>
    have ok := I.ok
    match f, q with
    | .next, ⟨σ1, H1, J, q1⟩ => exact wpAny_execs_nil ⟨σ1, H1, J.ofTry ok, q1⟩
    | .brk, ⟨σ1, H1, J, q1⟩ => exact ⟨σ1, H1, J.ofTry ok, q1⟩
    | .cont, ⟨σ1, H1, J, q1⟩ => exact ⟨σ1, H1, J.ofTry ok, q1⟩
    | .ret u, ⟨v, σ1, H1, J, rv, q1⟩ => exact ⟨v, σ1, H1, J.ofTry ok, rv, q1⟩
  case caught =>
    have ok := I.ok
    have frm : X.A.frames = some (X.env :: X.outer) := ok.frames.trans (congrArg some hs)
    obtain ⟨a, B, sI, ps1, σ1, H1, cls, d, rfl, J0, nb, up, sky, na, os, ag, w⟩ := xx
    have J : Inv X pins σ1 H1 sI := J0.ofTry ok
    rw [show (X.tr (X.pn ++ pins) _).stack = X.env :: X.outer from hs] at sky
    refine Sky.land Zc.steady frm hf sky fun h3 fl up3 => ?_
    have J3 : Inv X pins σ1 H1 { s1 with heap := h3 } := J.landed nb fl.1 (up.trans up3) os ag
    obtain ⟨oe, fv, he, hz, hd⟩ := fl.there
    have nfr : a ∉ frs (X.env :: X.outer) := fun hm => by
      obtain ⟨_, o2, e2, k2⟩ := fl.2.2.1.mem hm
      rw [he] at e2
      obtain rfl := Option.some.inj e2
      exact k2 _ hd
    have nL : a ≠ X.env.locals := fun z => nfr (List.mem_filterMap.mpr ⟨X.env, List.mem_cons_self, by rw [hf, z]⟩)
    have nF : a ∉ X.fs := fun hm => let ⟨e, me, q⟩ := List.mem_filterMap.mp hm; nfr (List.mem_filterMap.mpr ⟨e, List.mem_cons_of_mem _ me, q⟩)
    have S3 := J3.suite he hd na nL nF
    have go : ∀ (hs2 : List ExceptHandler) (l2 : List (Value × (Addr → Value → Option Addr → TS))), EachOk X n hs2 l2 → wEach X.K Wout D i l2 cls d σ1 H1 → wpAny (model X.prog X.w) X.A (handleBy (.ref a) X.env hs2) (SP X pins D) X.xe { s1 with heap := h3 } := by
      intro hs2 l2 hk
      induction hk with
      | nil =>
        intro w
        refine wpAny_handleBy_nil ?_
        obtain ⟨_, _, _, oe1, vs1, T1, oT, ts1, he1, hz1, hd1, hx1, hr1⟩ := id fl
        unfold PySem.passOn
        refine wpAny_bind (wpAny_field he1 hd1 hx1 ?_)
        rw [if_neg (show ¬ ((Value.ref T1 == Value.none) = true) from by simp)]
        have out : wpAny (model X.prog X.w) X.A (setFlight (.ref a) X.env.frame) (fun _ s4 => wpAny (model X.prog X.w) X.A (throw (.ref a) : Sem Flow) (SP X pins D) X.xe s4) X.xe { s1 with heap := h3 } := by
          rw [hf]
          refine HandSPX.setFlight_upZ fl fun h4 hh4 up4 => wpAny_throw (tk _ _ ⟨a, B, sI, pins, σ1, H1, cls, d, rfl, J, nb, (up.trans up3).trans up4, .inr (.inr (by rw [hs]; exact hh4)), na, os, ag, w⟩)
        first
          | exact wpAny_bind (wpAny_pure (wpAny_bind out))
          | exact wpAny_bind out
      | @cons x c ts b0 suite np p2 hs3 l3 hc hsu r ih =>
        rintro ⟨b, hb1, yes, no⟩
        refine wpAny_handleBy_cons (codeAny_handlers_test ?_) (by intro q; cases q)
        have ty : PySem.W.Looks (model X.prog X.w) h3 (typeOf (.ref a)) cls := fun A Q E s k q => wpAny_typeOf_ref (k _ _ he) (by rw [hz.1]; exact q)
        have met := PySem.W.exm_one (M := model X.prog X.w) J3.kIn ty hb1
        have named : ∀ {Q : Value → Shared → Prop} {E : Value → Shared → Prop}, Q c { s1 with heap := h3 } → wpAny (model X.prog X.w) (X.A.mark (some (.ref a))) (eval (.Name x np) X.env) Q E { s1 with heap := h3 } := fun {Q E} q => by
          obtain ⟨hg, hdbg, hm | ⟨hm, hv, hnn⟩⟩ := hc
          · exact ld_glob (X := X.suite a ((a, oe) :: (X.pn ++ pins))) S3 hg hm q hdbg
          · exact ld_blt (X := X.suite a ((a, oe) :: (X.pn ++ pins))) S3 hg hm hv q hnn hdbg
        refine named (met.here ?_)
        match b, yes, no with
        | false, _, no =>
          show wpAny _ X.A (handleBy (.ref a) X.env hs3) _ _ _
          exact ih (no rfl)
        | true, yes, _ =>
          refine codeAny_handlers_suite_as (HandSPX.lands_againZ fl fun h4 fl4 up4 => ?_)
          have J4 : Inv X pins σ1 H1 { s1 with heap := h4 } := J.landed nb fl4.1 ((up.trans up3).trans up4) os ag
          obtain ⟨oe4, vs4, he4, hz4, hd4⟩ := fl4.there
          have S4 := J4.suite he4 hd4 na nL nF
          refine store_ok (X := X.suite a ((a, oe4) :: (X.pn ++ pins))) (v := .ref a) S4 hN hi (.inl hln) rfl (fun s5 S5 => ?_) (.inr hln)
          refine wpAny_mono ((hsu a oe4 cls d (X.pn ++ pins) hz4 ⟨_, hd4⟩).run [] s5 _ H1 _ S5 (yes rfl a na)) (fun f s6 q => ?_) (fun _ _ z => z.elim)
          have leave : ∀ {σ6 : L2.St} {H6 : Hp} {Q : Shared → Prop}, Inv (X.suite a ((a, oe4) :: (X.pn ++ pins))) [] σ6 H6 s6 → (∀ s7, Inv X pins (σ6.set i none) H6 s7 → Q s7) →
              wpAny (model X.prog X.w) X.A (do bindName X.env n .none; unbindBehindTheSuite X.env n p2) (fun _ s7 => Q s7) X.xe s6 := fun {σ6 H6 Q} S6 hq => gone_ok (S6.unsuite ok) hN hi hln hq
          match f, q with
          | .next, ⟨σ6, H6, S6, q6⟩ => exact leave S6 fun s7 J7 => ⟨_, _, J7, q6⟩
          | .brk, ⟨σ6, H6, S6, q6⟩ => exact leave S6 fun s7 J7 => ⟨_, _, J7, q6⟩
          | .cont, ⟨σ6, H6, S6, q6⟩ => exact leave S6 fun s7 J7 => ⟨_, _, J7, q6⟩
          | .ret u, ⟨v6, σ6, H6, S6, r6, q6⟩ => exact leave S6 fun s7 J7 => ⟨_, _, _, J7, r6, q6⟩
    exact go _ _ hh w
end Xc
section
variable {P : Program} {w : World} {K : PySem.W.Frag} {mg : Str → Option Value} {base : Heap} {af : Nat → Addr} {fd : Nat → FuncData}
/-! ### spread -/
def sp_l_spread : Sp := fun vs H Q _ => ∃ (c a : Int), vs = [.int c, .int a] ∧ 0 ≤ a ∧ ∀ r : Int, 0 ≤ r → Q (.int r) H
theorem ok_l_spread (T : Txt K mg af fd) : FnOk P w K mg base CX0 1 (af 39) (fd 39) ["cell", "at"] sp_l_spread := by
  refine T.F_l_spread.ok sc_l_spread (fun vs H Q E h => ?_) (fun cdv A outer s H vs Q E hr h => ?_)
  · obtain ⟨c, a, rfl, _⟩ := h
    rfl
  · obtain ⟨c, a, rfl, ha, q⟩ := h
    refine ⟨_, (pss_cons (ps_if (pt_cmpR op_ge (pv 0) (pe_op op_pow pe_int pe_int) (nomark _)) (pss_one (ps_ret (pv 0))) pss_nil)
        (pss_cons (ps_set (i := 2) sc_l_spread.nd rfl (by first | exact Or.inl rfl | exact Or.inr rfl) (pe_op op_mod (pe_op op_add (pe_op op_add (pe_op op_mul (pe_op op_mod (pv 0) pe_int) pe_int) (pe_op op_mul (pv 1) pe_int)) pe_int) pe_int))
        (pss_cons (ps_set (i := 3) sc_l_spread.nd rfl (by first | exact Or.inl rfl | exact Or.inr rfl) (pe_op op_mod (pe_op op_add (pe_op op_add (pe_op op_mul (pv 2) (pv 2)) (pe_op op_mul (pv 1) pe_int)) (pe_op op_mod (pv 0) pe_int)) pe_int))
        (pss_cons (ps_set (i := 4) sc_l_spread.nd rfl (by first | exact Or.inl rfl | exact Or.inr rfl) (pe_op op_mod (pe_op op_add (pe_op op_add (pe_op op_mul (pv 3) (pv 3)) (pe_op op_mul (pv 2) pe_int)) pe_int) pe_int))
        (pss_one (ps_ret (pe_op op_add (pe_op op_mul (pe_op op_add (pe_op op_mul (pv 2) pe_int) (pv 3)) pe_int) (pv 4)))))))), ?_⟩
    refine ⟨_, rfl, 10, 18, rfl, rfl, ⟨by decide, by decide, by decide⟩, _, _, rfl, rfl, _, rfl, ite2 (fun e => ?_) (fun e => ?_)⟩
    · refine ⟨_, rfl, q c ?_⟩
      have e1 := of_decide_eq_true e
      exact Int.le_trans (by decide) e1
    · refine ⟨_, rfl, _, _, rfl, rfl, (by show (0 : Int) < 1000000007; decide), _, _, rfl, rfl, .inr ⟨by decide, by decide⟩, _, rfl, _, _, rfl, rfl, .inr ⟨by decide, by decide⟩, _, _, rfl, rfl, _, _, rfl, rfl, _, _, rfl, rfl, (by show (0 : Int) < 2147483629; decide), ?_⟩
      have b1 : ∀ x : Int, 0 ≤ x % 2147483629 ∧ x % 2147483629 < 2147483629 := fun x => ⟨Int.emod_nonneg _ (by decide), Int.emod_lt_of_pos _ (by decide)⟩
      generalize hx : (c % 1000000007 * 69069 + a * 40503 + 977) % 2147483629 = one
      have o1 : 0 ≤ one ∧ one < 2147483629 := by rw [← hx]; exact b1 _
      refine ⟨_, rfl, _, rfl, _, _, rfl, rfl, .inl ⟨by omega, by omega⟩, _, rfl, _, _, rfl, rfl, .inr ⟨by decide, by decide⟩, _, _, rfl, rfl, _, rfl, _, _, rfl, rfl, (by show (0 : Int) < 65537; decide), _, _, rfl, rfl, _, _, rfl, rfl, (by show (0 : Int) < 2147483587; decide), ?_⟩
      have b2 : ∀ x : Int, 0 ≤ x % 2147483587 ∧ x % 2147483587 < 2147483587 := fun x => ⟨Int.emod_nonneg _ (by decide), Int.emod_lt_of_pos _ (by decide)⟩
      generalize hy : (one * one + a * 7919 + c % 65537) % 2147483587 = two
      have o2 : 0 ≤ two ∧ two < 2147483587 := by rw [← hy]; exact b2 _
      refine ⟨_, rfl, _, rfl, _, _, rfl, rfl, .inl ⟨by omega, by omega⟩, _, rfl, _, _, rfl, rfl, .inr ⟨by decide, by decide⟩, _, _, rfl, rfl, _, _, rfl, rfl, _, _, rfl, rfl, (by show (0 : Int) < 2147483563; decide), ?_⟩
      have b3 : ∀ x : Int, 0 ≤ x % 2147483563 := fun x => Int.emod_nonneg _ (by decide)
      generalize hz : (two * two + one * 31 + 5) % 2147483563 = three
      have o3 : 0 ≤ three := by rw [← hz]; exact b3 _
      refine ⟨_, rfl, _, _, rfl, rfl, .inr ⟨by decide, by decide⟩, _, rfl, _, _, rfl, rfl, _, _, rfl, rfl, .inr ⟨by decide, by decide⟩, _, rfl, _, _, rfl, rfl, q _ ?_⟩
      omega
/-! ### take -/
def sp_l_take : Sp := fun vs H Q _ => ∃ (p c : Addr) (many : Int), vs = [.ref p, .int many] ∧ Pen H p c ∧ 0 < many ∧ many.natAbs < 2 ^ 100 ∧ ∀ (r : Int) (H' : Hp), 0 ≤ r → r < many → Stp p c H H' → Q (.int r) H'
theorem ok_l_take (T : Txt K mg af fd) : FnOk P w K mg base CX0 2 (af 41) (fd 41) ["pen", "many"] sp_l_take := by
  refine T.F_l_take.ok sc_l_take (fun vs H Q E h => ?_) (fun cdv A outer s H vs Q E hr h => ?_)
  · obtain ⟨p, c, many, rfl, _⟩ := h
    rfl
  · obtain ⟨p, c, many, rfl, hP, m0, m1, q⟩ := h
    have hpc := hP.ne
    obtain ⟨cs, n, st, h1, h2, h3, h4⟩ := hP
    refine ⟨_, (C8.pss_cut (ps_if (pt_cmpR op_lt (pe_ix ix_list (pv 0) pe_int (fun _ _ => rfl)) (pv 1) (nomark _)) (pss_cons (ps_set (i := 2) sc_l_take.nd rfl (by first | exact Or.inl rfl | exact Or.inr rfl) (pe_ix ix_list (pv 0) pe_int (fun _ _ => rfl)))
        (pss_cons (ps_set (i := 3) sc_l_take.nd rfl (by first | exact Or.inl rfl | exact Or.inr rfl) pe_int)
        (C8.pss_cut (ps_if (pt_cmpR op_lt (pv 2) (pe_callB call_len_seq (by rfl) T.m_len (by decide +kernel) (pa_cons (pe_ix ix_list (pv 0) pe_int (fun _ _ => rfl)) pa_nil)) (nomark _)) (pss_one (ps_set (i := 3) sc_l_take.nd rfl (by first | exact Or.inl rfl | exact Or.inr rfl) (pe_ix ix_list (pe_ix ix_list (pv 0) pe_int (fun _ _ => rfl)) (pv 2) (fun _ _ => rfl)))) (pss_one (ps_if (pt_cmpR op_gt (pe_callB call_len_seq (by rfl) T.m_len (by decide +kernel) (pa_cons (pe_ix ix_list (pv 0) pe_int (fun _ _ => rfl)) pa_nil)) pe_int (nomark _)) (pss_one (ps_set (i := 3) sc_l_take.nd rfl (by first | exact Or.inl rfl | exact Or.inr rfl) (pe_op op_mod (pe_ix ix_list (pe_ix ix_list (pv 0) pe_int (fun _ _ => rfl)) (pe_op op_mod (pe_op op_add (pe_op op_mul (pv 2) pe_int) pe_int) (pe_callB call_len_seq (by rfl) T.m_len (by decide +kernel) (pa_cons (pe_ix ix_list (pv 0) pe_int (fun _ _ => rfl)) pa_nil))) (fun _ _ => rfl)) (pe_op op_add (pe_op op_pow pe_int pe_int) (pv 2))))) pss_nil)))
        (pss_cons (ps_asg (pe_op op_add (pv 2) pe_int) (pg_sub (pv 0) pe_int set_list))
        (pss_one (ps_asg (pe_call (ok_l_spread T) (hr.mono (by first | decide | omega)) (by rfl) T.g_l_spread T.F_l_spread.kp T.b_l_spread .nil pass0 (pa_cons (pv 3) (pa_cons (pv 2) pa_nil))) (pg_sub (pv 0) pe_int set_list))))))) pss_nil)
        (pss_cons (ps_set (i := 4) sc_l_take.nd rfl (by first | exact Or.inl rfl | exact Or.inr rfl) (pe_op op_mod (pe_ix ix_list (pv 0) pe_int (fun _ _ => rfl)) (pv 1)))
        (pss_cons (ps_asg (pe_op op_fdivW (pe_ix ix_list (pv 0) pe_int (fun _ _ => rfl)) (pv 1)) (pg_sub (pv 0) pe_int set_list))
        (pss_one (ps_ret (pv 4)))))), ?_⟩
    refine ⟨fun σ' H' => ∃ (n' st' : Int) (v1 v2 : Option V), 0 ≤ n' ∧ 0 ≤ st' ∧ σ' = [some (.ref p), some (.int many), v1, v2, none] ∧ H' = upd H p (.lst [.ref c, .int n', .int st']), ?_, ?_⟩
    · refine ⟨_, rfl, p, _, 2, _, rfl, rfl, SqL.of h1, rfl, _, rfl, _, _, rfl, rfl, _, rfl, ite2 (fun e => ?_) (fun e => ?_)⟩
      · refine ⟨_, rfl, p, _, 1, _, rfl, rfl, SqL.of h1, rfl, ?_⟩
        refine ⟨fun σ' H' => ∃ (x : Int), σ' = [some (.ref p), some (.int many), some (.int n), some (.int x), none] ∧ H' = H, ?_, ?_⟩
        · refine ⟨_, rfl, _, rfl, p, _, 0, _, rfl, rfl, SqL.of h1, rfl, c, _, rfl, .inl (SqL.of h2), _, _, rfl, rfl, _, rfl, ite2 (fun e2 => ?_) (fun e2 => ?_)⟩
          · have e3 := of_decide_eq_true e2
            rw [List.length_map] at e3
            have hlt : n.toNat < cs.length := by omega
            refine ⟨_, rfl, p, _, 0, _, rfl, rfl, SqL.of h1, rfl, _, rfl, c, _, n, .int cs[n.toNat], rfl, rfl, SqL.of h2, at_of (j := n.toNat) (by omega) ?_, ⟨_, rfl, rfl⟩⟩
            rw [List.getElem?_map, List.getElem?_eq_getElem hlt]
            rfl
          · refine ⟨_, rfl, p, _, 0, _, rfl, rfl, SqL.of h1, rfl, c, _, rfl, .inl (SqL.of h2), _, _, rfl, rfl, _, rfl, ite2 (fun e3 => ?_) (fun e3 => ?_)⟩
            · have e4 := of_decide_eq_true e3
              have hl : (0 : Int) < (cs.map V.int).length := e4
              have hr0 := Int.emod_nonneg (n * 5 + 3) (show ((cs.map V.int).length : Int) ≠ 0 by omega)
              have hr1 := Int.emod_lt_of_pos (n * 5 + 3) hl
              have hlt : ((n * 5 + 3) % ((cs.map V.int).length : Int)).toNat < cs.length := by
                rw [List.length_map] at hr1 hr0 ⊢
                omega
              refine ⟨_, rfl, p, _, 0, _, rfl, rfl, SqL.of h1, rfl, _, rfl, _, _, rfl, rfl, .inr ⟨by decide, by decide⟩, _, _, rfl, rfl, _, rfl, p, _, 0, _, rfl, rfl, SqL.of h1, rfl, c, _, rfl, .inl (SqL.of h2), _, _, rfl, rfl, hl, c, _, _, .int cs[((n * 5 + 3) % ((cs.map V.int).length : Int)).toNat], rfl, rfl, SqL.of h2, at_of (j := ((n * 5 + 3) % ((cs.map V.int).length : Int)).toNat) (by omega) ?_, 10, 17, rfl, rfl, ⟨by decide, by decide, by decide⟩, _, rfl, _, _, rfl, rfl, _, _, rfl, rfl, ?_, ⟨_, rfl, rfl⟩⟩
              · rw [List.getElem?_map, List.getElem?_eq_getElem hlt]
                rfl
              · show (0 : Int) < 10 ^ (17 : Int).toNat + n
                have : (0 : Int) < 10 ^ (17 : Int).toNat := by decide
                omega
            · exact ⟨_, rfl, rfl⟩
        · rintro σ' H' ⟨x, rfl, rfl⟩
          refine ⟨_, rfl, _, _, rfl, rfl, _, rfl, p, _, 1, 1, rfl, rfl, h1, rfl, ?_⟩
          refine ⟨_, rfl, _, rfl, x, n, rfl, h3, fun r hr => ?_⟩
          refine ⟨_, rfl, p, _, 2, 2, rfl, rfl, upd_same, rfl, ?_⟩
          refine ⟨n + 1, r, _, _, by omega, hr, rfl, ?_⟩
          rw [upd_upd]
          rfl
      · refine ⟨n, st, none, none, h3, h4, rfl, ?_⟩
        funext b
        by_cases hb : b = p
        · subst hb
          rw [upd_same]
          exact h1
        · rw [upd_ne hb]
    · rintro σ' H' ⟨n', st', v1, v2, hn, hs, rfl, rfl⟩
      refine ⟨_, rfl, p, _, 2, _, rfl, rfl, SqL.of upd_same, rfl, _, rfl, _, _, rfl, rfl, m0, ?_⟩
      refine ⟨_, rfl, p, _, 2, _, rfl, rfl, SqL.of upd_same, rfl, _, rfl, _, _, rfl, rfl, wide_div m0 m1 (by decide) (by decide), _, rfl, p, _, 2, 2, rfl, rfl, upd_same, rfl, ?_⟩
      refine ⟨_, rfl, q _ _ (Int.emod_nonneg _ (by omega)) (Int.emod_lt_of_pos _ m0) ⟨⟨cs, n', st' / many, ?_, ?_, hn, Int.ediv_nonneg hs (by omega)⟩, fun b o hb e => ?_⟩⟩
      · rw [upd_same]
        rfl
      · rw [upd_ne hpc, upd_ne hpc]
        exact h2
      · rw [upd_ne hb, upd_ne hb]
        exact e
/-! ### open -/
def sp_l_open (K : PySem.W.Frag) : Sp := fun vs H Q _ => ∃ (a : Addr) (ns : List Int), vs = [.ref a] ∧ SqL K H a (ns.map V.int) ∧ ns.length ≤ 63 ∧ ∀ (p c : Addr) (H' : Hp), Same H H' → H p = none → H c = none → Pen H' p c → Q (.ref p) H'
theorem ok_l_open (T : Txt K mg af fd) : FnOk P w K mg base CX0 1 (af 40) (fd 40) ["script"] (sp_l_open K) := by
  refine T.F_l_open.ok sc_l_open (fun vs H Q E h => ?_) (fun cdv A outer s H vs Q E hr h => ?_)
  · obtain ⟨a, ns, rfl, _⟩ := h
    rfl
  · obtain ⟨a, ns, rfl, hS, hlen, q⟩ := h
    refine ⟨_, (pss_cons (ps_set (i := 1) sc_l_open.nd rfl (by first | exact Or.inl rfl | exact Or.inr rfl) (pe_callTy call_list_of (by rfl) T.m_list (by decide +kernel) (pa_cons (pe_slice sl_list (pv 0) po_none (po_some pe_int)) pa_nil)))
        (pss_cons (ps_for PassesOwn.never rfl (pi_enum (by rfl) T.m_enumerate (pa_cons (pe_slice sl_list (pv 0) (po_some pe_int) (po_some pe_int)) pa_nil)) (pg_tup rfl (pgs_cons (pg_name (i := 2) sc_l_open.nd rfl (by first | exact Or.inl rfl | exact Or.inr rfl)) (pgs_cons (pg_name (i := 3) sc_l_open.nd rfl (by first | exact Or.inl rfl | exact Or.inr rfl)) pgs_nil))) (pss_one (ps_asg (pe_op op_add (pe_ix ix_list (pv 1) (pe_op op_mod (pv 2) pe_int) (fun _ _ => rfl)) (pv 3)) (pg_sub (pv 1) (pe_op op_mod (pv 2) pe_int) set_list))))
        (pss_one (ps_ret (pe_lst (pa_cons (pv 1) (pa_cons pe_int (pa_cons pe_int pa_nil)))))))), ?_⟩
    refine ⟨_, rfl, 12, rfl, a, _, rfl, hS, fun x nx => ⟨x, _, rfl, .inl (SqL.of upd_same), fun l nl => ?_⟩⟩
    have s1 : Same H (upd H x (.lst (cutV (ns.map V.int) none (some 12)))) := same_upd nx
    have nl0 : H l = none := s1.free nl
    have s2 : Same H (upd (upd H x (.lst (cutV (ns.map V.int) none (some 12)))) l (.lst (cutV (ns.map V.int) none (some 12)))) := same_mut s1 nl0
    refine ⟨_, rfl, 12, rfl, 63, rfl, a, _, rfl, s2.seq hS, fun d nd => ⟨d, _, rfl, SqL.of upd_same, ?_⟩⟩
    have nd0 : H d = none := s2.free nd
    have hld : l ≠ d := fun e => by
      rw [← e, upd_same] at nd
      cases nd
    have it : cutV (ns.map V.int) (some 12) (some 63) = ((ns.drop 12)).map V.int := by
      have e := cut_mid (ns.map V.int) 12 63
      rw [show ((12 : Nat) : Int) = 12 from rfl, show ((63 : Nat) : Int) = 63 from rfl] at e
      rw [e, List.length_map]
      by_cases h12 : 12 ≤ ns.length
      · rw [Nat.min_eq_left h12, Nat.min_eq_right (by omega), List.take_of_length_le, List.map_drop]
        rw [List.length_drop, List.length_map]
        omega
      · rw [Nat.min_eq_right (by omega), List.drop_of_length_le (l := ns) (by omega), List.drop_of_length_le (by rw [List.length_map]; omega)]
        exact List.take_nil
    have ic : cutV (ns.map V.int) none (some 12) = (ns.take 12).map V.int := by
      have e := cut_to (ns.map V.int) 12
      rw [show ((12 : Nat) : Int) = 12 from rfl] at e
      rw [e, List.map_take]
    rw [it, ic]
    refine for_it (walk_enum (K := K) (a := d) (xs := (ns.drop 12).map V.int)) (fun i σ H' => ∃ (cs : List Int) (v2 v3 : Option V), σ = [some (.ref a), some (.ref l), v2, v3] ∧ H' l = some (.lst (cs.map V.int)) ∧ cs.length = min 12 ns.length ∧ H' d = some (.lst ((ns.drop 12).map V.int)) ∧ Same H H')
      ⟨ns.take 12, none, none, rfl, ?_, ?_, upd_same, same_mut ?_ nd0⟩ (fun i σ H' _ ⟨_, _, _, _, _, _, hd, _⟩ => SqL.of hd) ?_ ?_
    · rw [upd_ne hld, upd_same]
    · rw [List.length_take]
    · rw [← ic]
      exact s2
    · rintro i v σ H' H'' hi ⟨cs, v2, v3, rfl, hl, hc, hd, sm⟩ ⟨t, x1, x2, rfl, nt, rfl, e1, e2⟩
      obtain rfl : V.int (i : Nat) = x1 := Option.some.inj e1
      have e3 : ((ns.drop 12).map V.int)[i]? = some x2 := e2
      rw [List.getElem?_map] at e3
      obtain ⟨z, hz, rfl⟩ := Option.map_eq_some_iff.mp e3
      have h12 : 12 ≤ ns.length := by
        rw [List.length_map, List.length_drop] at hi
        omega
      have hm0 : 0 ≤ (i : Int) % 12 := Int.emod_nonneg _ (by decide)
      have hm1 : (i : Int) % 12 < 12 := Int.emod_lt_of_pos _ (by decide)
      have hj : ((i : Int) % 12).toNat < cs.length := by omega
      have hl' : (upd H' t (.tup [.int (i : Nat), .int z])) l = some (.lst (cs.map V.int)) := by
        rw [upd_ne (ne_of_none hl nt)]
        exact hl
      refine ⟨t, [.int (i : Nat), .int z], rfl, SqT.of upd_same, rfl, _, _, rfl, _, _, rfl, rfl, ?_⟩
      refine ⟨_, rfl, _, rfl, _, _, rfl, rfl, (by show (0 : Int) < 12; decide), l, _, _, .int cs[((i : Int) % 12).toNat], rfl, rfl, SqL.of hl', at_of (j := ((i : Int) % 12).toNat) (by omega) ?_, _, rfl, _, _, rfl, rfl, _, rfl, _, rfl, _, _, rfl, rfl, (by show (0 : Int) < 12; decide), l, _, _, ((i : Int) % 12).toNat, rfl, rfl, hl', ?_, ?_⟩
      · rw [List.getElem?_map, List.getElem?_eq_getElem hj]
        rfl
      · unfold ixN
        rw [if_pos hm0, if_pos (by rw [List.length_map]; omega)]
      · refine ⟨cs.set ((i : Int) % 12).toNat (cs[((i : Int) % 12).toNat] + z), _, _, rfl, ?_, ?_, ?_, ?_⟩
        · rw [upd_same, ← List.map_set]
        · rw [List.length_set]
          exact hc
        · rw [upd_ne (Ne.symm hld), upd_ne (ne_of_none hd nt)]
          exact hd
        · exact same_mut (same_mut sm (sm.free nt)) nl0
    · rintro σ H' ⟨cs, v2, v3, rfl, hl, hc, hd, sm⟩
      refine ⟨_, rfl, (by show 3 ≤ sizeLine; decide), fun p np => q p l _ (same_mut sm (sm.free np)) (sm.free np) nl0 ⟨cs, 0, 0, upd_same, ?_, by decide, by decide⟩⟩
      rw [upd_ne (ne_of_none hl np)]
      exact hl
theorem iteFd {c A B : Prop} [Decidable c] (hc : ¬ c) (h : B) : if decide c = true then A else B := by
  rw [decide_eq_false hc]
  exact iteF h
theorem iteTd {c A B : Prop} [Decidable c] (hc : c) (h : A) : if decide c = true then A else B := by
  rw [decide_eq_true hc]
  exact iteT h
/-! ### names -/
def House (z : List Nat) : Prop := 1 ≤ z.length ∧ z.length ≤ 8 ∧ ∀ c ∈ z, 97 ≤ c ∧ c ≤ 122
def nameL (base : List Nat) (way turn size k : Nat) : List Nat :=
  (base.take ((size + k * (way % 2)) % 8)).take (if way = 0 then 0 else if way = 1 then (base.take ((size + k * (way % 2)) % 8)).length else (base.take ((size + k * (way % 2)) % 8)).length / 2) ++ [97 + (turn + 3 * k) % 26] ++
  (base.take ((size + k * (way % 2)) % 8)).drop (if way = 0 then 0 else if way = 1 then (base.take ((size + k * (way % 2)) % 8)).length else (base.take ((size + k * (way % 2)) % 8)).length / 2)
theorem nameL_len {base : List Nat} {way turn size k : Nat} (hb : base.length = 7) : (nameL base way turn size k).length = (size + k * (way % 2)) % 8 + 1 := by
  unfold nameL
  rw [List.length_append, List.length_append, List.length_take, List.length_drop, List.length_take]
  have : (size + k * (way % 2)) % 8 < 8 := Nat.mod_lt _ (by decide)
  simp only [List.length_cons, List.length_nil]
  omega
theorem nameL_house {base : List Nat} {way turn size k : Nat} (hb : base.length = 7) (hl : ∀ c ∈ base, 97 ≤ c ∧ c ≤ 122) : House (nameL base way turn size k) := by
  have e := nameL_len (way := way) (turn := turn) (size := size) (k := k) hb
  have : (size + k * (way % 2)) % 8 < 8 := Nat.mod_lt _ (by decide)
  refine ⟨by omega, by omega, fun c hc => ?_⟩
  unfold nameL at hc
  rcases List.mem_append.mp hc with h | h
  · rcases List.mem_append.mp h with h | h
    · exact hl c (List.mem_of_mem_take (List.mem_of_mem_take h))
    · have h := List.mem_singleton.mp h
      omega
  · exact hl c (List.mem_of_mem_take (List.mem_of_mem_drop h))
theorem nameL_inj {base : List Nat} {way turn size i j : Nat} (hb : base.length = 7) (hw : way < 3) (hi : i < 8) (hj : j < 8) (e : nameL base way turn size i = nameL base way turn size j) : i = j := by
  by_cases h1 : way = 1
  · subst h1
    have e1 := congrArg List.length e
    rw [nameL_len hb, nameL_len hb] at e1
    omega
  · have h2 : way % 2 = 0 := by omega
    unfold nameL at e
    rw [h2, Nat.mul_zero, Nat.mul_zero] at e
    have e1 := List.append_cancel_right e
    have e2 := List.append_cancel_left e1
    have e3 := (List.cons.inj e2).1
    omega
theorem joinL_ones : ∀ cs : List Nat, TL.joinL [] (cs.map fun c => [c]) = cs
  | [] => rfl
  | [_] => rfl
  | a :: b :: r => by
    show [a] ++ ([] ++ TL.joinL [] ((b :: r).map fun c => [c])) = a :: b :: r
    rw [joinL_ones (b :: r)]
    rfl
theorem abc_at : ∀ i : Nat, i < 26 → (Str.ofString "abcdefghijklmnopqrstuvwxyz").cps.toList[i]? = some (97 + i) := by
  have h : ∀ i : Fin 26, (Str.ofString "abcdefghijklmnopqrstuvwxyz").cps.toList[i.1]? = some (97 + i.1) := by decide +kernel
  exact fun i hi => h ⟨i, hi⟩
theorem abc_len : (Str.ofString "abcdefghijklmnopqrstuvwxyz").length ≤ sizeLine := by decide +kernel
def sp_l_names : Sp := fun vs H Q _ => ∃ (p c : Addr) (many : Int), vs = [.ref p, .int many] ∧ Pen H p c ∧ 0 ≤ many ∧ many ≤ 7 ∧
  ∀ (f : Addr) (zs : List (List Nat)) (H' : Hp), Stp p c H H' → H f = none → H' f = some (.lst (zs.map fun z => V.str (SX.S z))) → (zs.length : Int) = many → zs.Nodup → (∀ z ∈ zs, House z) → Q (.ref f) H'
theorem ok_l_names (T : Txt K mg af fd) : FnOk P w K mg base CX0 3 (af 42) (fd 42) ["pen", "many"] sp_l_names := by
  refine T.F_l_names.ok sc_l_names (fun vs H Q E h => ?_) (fun cdv A outer s H vs Q E hr h => ?_)
  · obtain ⟨p, c, many, rfl, _⟩ := h
    rfl
  · obtain ⟨p, c, many, rfl, hP, m0, m1, q⟩ := h
    refine ⟨_, (pss_cons (ps_set (i := 2) sc_l_names.nd rfl (by first | exact Or.inl rfl | exact Or.inr rfl) pe_str)
        (pss_cons (ps_set (i := 3) sc_l_names.nd rfl (by first | exact Or.inl rfl | exact Or.inr rfl) (pe_join pe_str (pe_lc (own := [("k", 4)]) (g := gName 4) (by rfl) sc_l_names.nd (pi_range1 (by rfl) T.m_range (pa_cons pe_int pa_nil)) (blkOk_by (own := [("k", 4)]) (N := ["pen", "many", "letters", "base", "k", "way", "turn", "size", "found", "sign", "part", "at"]) (sc := defScope s_l_names) (by decide +kernel)) (fun _ _ _ _ _ => pg_name (i := 4) sc_l_names.nd rfl (Or.inl rfl)) (fun _ _ _ _ _ => pts_nil) (fun _ _ _ _ _ => (pe_ix ix_str (pv 2) (pe_call (ok_l_take T) (hr.mono (by first | decide | omega)) (by rfl) T.g_l_take T.F_l_take.kp T.b_l_take .nil pass0 (pa_cons (pv 0) (pa_cons pe_int pa_nil))) (fun _ _ => rfl))))))
        (pss_cons (ps_set (i := 5) sc_l_names.nd rfl (by first | exact Or.inl rfl | exact Or.inr rfl) (pe_call (ok_l_take T) (hr.mono (by first | decide | omega)) (by rfl) T.g_l_take T.F_l_take.kp T.b_l_take .nil pass0 (pa_cons (pv 0) (pa_cons pe_int pa_nil))))
        (pss_cons (ps_set (i := 6) sc_l_names.nd rfl (by first | exact Or.inl rfl | exact Or.inr rfl) (pe_call (ok_l_take T) (hr.mono (by first | decide | omega)) (by rfl) T.g_l_take T.F_l_take.kp T.b_l_take .nil pass0 (pa_cons (pv 0) (pa_cons pe_int pa_nil))))
        (pss_cons (ps_set (i := 7) sc_l_names.nd rfl (by first | exact Or.inl rfl | exact Or.inr rfl) (pe_call (ok_l_take T) (hr.mono (by first | decide | omega)) (by rfl) T.g_l_take T.F_l_take.kp T.b_l_take .nil pass0 (pa_cons (pv 0) (pa_cons pe_int pa_nil))))
        (pss_cons (ps_set (i := 8) sc_l_names.nd rfl (by first | exact Or.inl rfl | exact Or.inr rfl) (pe_lst pa_nil))
        (pss_cons (ps_for PassesOwn.never rfl (pi_range1 (by rfl) T.m_range (pa_cons (pv 1) pa_nil)) (pg_name (i := 4) sc_l_names.nd rfl (by first | exact Or.inl rfl | exact Or.inr rfl)) (pss_cons (ps_set (i := 9) sc_l_names.nd rfl (by first | exact Or.inl rfl | exact Or.inr rfl) (pe_ix ix_str (pv 2) (pe_op op_mod (pe_op op_add (pv 6) (pe_op op_mul pe_int (pv 4))) pe_int) (fun _ _ => rfl)))
        (pss_cons (ps_set (i := 10) sc_l_names.nd rfl (by first | exact Or.inl rfl | exact Or.inr rfl) (pe_slice sl_str (pv 3) po_none (po_some (pe_op op_mod (pe_op op_add (pv 7) (pe_op op_mul (pv 4) (pe_op op_mod (pv 5) pe_int))) pe_int))))
        (pss_cons (ps_set (i := 11) sc_l_names.nd rfl (by first | exact Or.inl rfl | exact Or.inr rfl) (pe_ix ix_list (pe_lst (pa_cons pe_int (pa_cons (pe_callB call_len_str (by rfl) T.m_len (by decide +kernel) (pa_cons (pv 10) pa_nil)) (pa_cons (pe_op op_fdiv (pe_callB call_len_str (by rfl) T.m_len (by decide +kernel) (pa_cons (pv 10) pa_nil)) pe_int) pa_nil)))) (pv 5) (fun _ _ => rfl)))
        (pss_one (ps_expr (pe_bm PySem.F.plainAttrs_list PySem.F.slot_list_append PySem.F.type_list_append mt_append (pv 8) (pa_cons (pe_op op_add_str (pe_op op_add_str (pe_slice sl_str (pv 10) po_none (po_some (pv 11))) (pv 9)) (pe_slice sl_str (pv 10) (po_some (pv 11)) po_none)) pa_nil))))))))
        (pss_one (ps_ret (pv 8)))))))))), ?_⟩
    -- base = ''.join([..])
    refine ⟨⟨_, rfl⟩, 7, rfl, by decide, by decide, fun D nD => lc_range (lo := 0) (n := 7) (fun i H' => Stp p c H H' ∧ ∃ cs : List Nat, H' D = some (.lst (cs.map fun c => V.str (SX.S [c]))) ∧ cs.length = i ∧ ∀ c ∈ cs, 97 ≤ c ∧ c ≤ 122)
      ⟨(Stp.refl hP).new hP nD, [], upd_same, rfl, fun _ h => nomatch h⟩ ?_ ?_⟩
    · rintro i H1 hi ⟨s1, cs, hD, hl, hc⟩
      refine ⟨rfl, yes_if ?_⟩
      refine ⟨_, rfl, _, rfl, p, c, 26, rfl, s1.1, by decide, by decide, fun r H2 r0 r1 s2 => ?_⟩
      have hD2 : H2 D = some (.lst (cs.map fun c => V.str (SX.S [c]))) := s2.2 D _ (fun e => hP.neP nD e.symm) hD
      refine ⟨_, r, 97 + r.toNat, rfl, rfl, abc_len, at_any (z := r) (j := r.toNat) (by omega) (abc_at r.toNat (by omega)), _, hD2, ?_, (s1.trans s2).mut hP nD, cs ++ [97 + r.toNat], ?_, ?_, ?_⟩
      · rw [List.length_map]
        exact small1000 (by omega)
      · rw [upd_same, List.map_append]
        rfl
      · rw [List.length_append, hl]
        rfl
      · intro x hx
        rcases List.mem_append.mp hx with h | h
        · exact hc x h
        · have h := List.mem_singleton.mp h
          omega
    · rintro H1 ⟨s1, bs, hD, hl, hc⟩
      have hD' : H1 D = some (.lst ((bs.map fun c => SX.S [c]).map V.str)) := by rw [hD, List.map_map]; rfl
      refine ⟨_, D, (bs.map fun c => SX.S [c]), rfl, rfl, .inl (SqL.of hD'), ?_, ?_⟩
      · have e1 : ((bs.map fun c => SX.S [c]).map (·.length)).sum = bs.length := by
          rw [List.map_map]
          have : ((fun z : Str => z.length) ∘ fun c => SX.S [c]) = fun _ => 1 := funext fun c => SX.S_len [c]
          rw [this, List.map_const', List.sum_replicate_nat]
          omega
        rw [e1, List.length_map, hl]
        decide
      have ej : Txt.join (Str.ofString "") (bs.map fun c => SX.S [c]) = SX.S bs := by
        have e2 := SX.join_S [] (bs.map fun c => [c])
        rw [List.map_map, joinL_ones] at e2
        exact e2
      rw [ej]
      refine ⟨_, rfl, p, c, 3, rfl, s1.1, by decide, by decide, fun way H2 w0 w1 s2 => ?_⟩
      refine ⟨_, rfl, p, c, 26, rfl, s2.1, by decide, by decide, fun turn H3 t0 t1 s3 => ?_⟩
      refine ⟨_, rfl, p, c, 8, rfl, s3.1, by decide, by decide, fun size H4 z0 z1 s4 => ?_⟩
      have sA : Stp p c H H4 := ((s1.trans s2).trans s3).trans s4
      refine ⟨Nat.zero_le _, fun f nf => ?_⟩
      have nf0 : H f = none := sA.back hP nf
      refine ⟨_, rfl, many, rfl, by omega, by omega, for_range (lo := 0) (n := many.toNat) (fun i σ H' => ∃ v9 v10 v11 v12 : Option V, σ = [some (.ref p), some (.int many), some (.str (Str.ofString "abcdefghijklmnopqrstuvwxyz")), some (.str (SX.S bs)), v12, some (.int way), some (.int turn), some (.int size), some (.ref f), v9, v10, v11] ∧ Stp p c H H' ∧ H' f = some (.lst (((List.range i).map (nameL bs way.toNat turn.toNat size.toNat)).map fun z => V.str (SX.S z))))
        ⟨none, none, none, none, rfl, sA.mut hP nf0, upd_same⟩ ?_ ?_⟩
      · rintro i σ H5 hi ⟨v9, v10, v11, v12, rfl, s5, hf⟩
        have hi7 : i < 7 := by omega
        have wt : (way.toNat : Int) = way := by omega
        have tt : (turn.toNat : Int) = turn := by omega
        have zt : (size.toNat : Int) = size := by omega
        have ew : way % 2 = ((way.toNat % 2 : Nat) : Int) := by omega
        have w20 : 0 ≤ way % 2 := by omega
        have w21 : way % 2 < 2 := by omega
        have es : (turn + 3 * (0 + (i : Int))) % 26 = (((turn.toNat + 3 * i) % 26 : Nat) : Int) := by omega
        refine ⟨_, rfl, _, rfl, _, rfl, _, _, rfl, rfl, .inl ⟨by decide, by decide⟩, _, _, rfl, rfl, _, _, rfl, rfl, (by show (0 : Int) < 26; decide), _, _, 97 + (turn.toNat + 3 * i) % 26, rfl, rfl, abc_len, at_any es (abc_at _ (Nat.mod_lt _ (by decide))), ?_⟩
        refine ⟨_, rfl, _, rfl, _, rfl, _, rfl, _, _, rfl, rfl, (by show (0 : Int) < 2; decide), _, _, rfl, rfl, .inr ⟨by omega, by omega⟩, _, _, rfl, rfl, _, _, rfl, rfl, (by show (0 : Int) < 8; decide), _, rfl, SX.S bs, rfl, ?_, ?_⟩
        · rw [SX.S_len, hl]
          decide
        have ep : (size + (0 + (i : Int)) * (way % 2)) % 8 = (((size.toNat + i * (way.toNat % 2)) % 8 : Nat) : Int) := by
          rw [ew, Int.zero_add, ← zt, ← Int.natCast_mul, ← Int.natCast_add]
          rfl
        have ecut : cutS (SX.S bs) none (some ((size + (0 + (i : Int)) * (way % 2)) % 8)) = SX.S (bs.take ((size.toNat + i * (way.toNat % 2)) % 8)) := by
          rw [C8.cutS_slice, SX.slice_to (by rw [ep]; exact Int.natCast_nonneg _), ep, Int.toNat_natCast]
        rw [ecut]
        have hpl : (SX.S (bs.take ((size.toNat + i * (way.toNat % 2)) % 8))).length ≤ 7 := by
          rw [SX.S_len, List.length_take, hl]
          omega
        generalize hpart : bs.take ((size.toNat + i * (way.toNat % 2)) % 8) = part at hpl ⊢
        have hps : (SX.S part).length ≤ sizeLine := Nat.le_trans hpl (by decide)
        refine ⟨_, rfl, _, rfl, hps, _, rfl, _, rfl, hps, _, _, rfl, rfl, ⟨by decide, by decide⟩, (by show 3 ≤ sizeLine; decide), fun l nl => ?_⟩
        have hlf : f ≠ l := ne_of_none hf nl
        obtain ⟨a, ha, ea⟩ : ∃ a : Nat, atI [V.int 0, V.int ((SX.S part).length : Int), V.int (((SX.S part).length : Int) / 2)] way = some (.int (a : Int)) ∧ a = (if way.toNat = 0 then 0 else if way.toNat = 1 then part.length else part.length / 2) := by
          rw [SX.S_len]
          have hw3 : way = 0 ∨ way = 1 ∨ way = 2 := by omega
          rcases hw3 with e | e | e
          · subst e
            exact ⟨0, rfl, rfl⟩
          · subst e
            exact ⟨part.length, rfl, rfl⟩
          · subst e
            exact ⟨part.length / 2, rfl, rfl⟩
        refine ⟨_, rfl, l, _, way, _, rfl, rfl, SqL.of upd_same, ha, ?_⟩
        have hf5 : (upd H5 l (.lst [V.int 0, V.int ((SX.S part).length : Int), V.int (((SX.S part).length : Int) / 2)])) f = some (.lst (((List.range i).map (nameL bs way.toNat turn.toNat size.toNat)).map fun z => V.str (SX.S z))) := by
          rw [upd_ne hlf]
          exact hf
        have hp7 : part.length ≤ 7 := by
          rw [SX.S_len] at hpl
          exact hpl
        have e1 : cutS (SX.S part) none (some (a : Int)) = SX.S (part.take a) := by
          rw [C8.cutS_slice, SX.slice_to (Int.natCast_nonneg _), Int.toNat_natCast]
        have e2 : cutS (SX.S part) (some (a : Int)) none = SX.S (part.drop a) := by
          rw [C8.cutS_slice, SX.slice_from (Int.natCast_nonneg _), Int.toNat_natCast]
        refine ⟨_, rfl, .inl ⟨rfl, _, SqL.of hf5⟩, _, rfl, _, rfl, _, rfl, _, rfl, hps, _, rfl, _, _, rfl, rfl, ?_, _, rfl, _, rfl, _, rfl, _, rfl, hps, _, _, rfl, rfl, ?_, f, _, _, rfl, rfl, hf5, ?_, ?_⟩
        · rw [e1]
          show (SX.S (part.take a)).length + (SX.S [97 + (turn.toNat + 3 * i) % 26]).length ≤ sizeLine
          rw [SX.S_len, SX.S_len, List.length_take]
          exact Nat.le_trans (show _ ≤ 8 by simp only [List.length_cons, List.length_nil]; omega) (by decide)
        · rw [e1, e2]
          show (SX.S (part.take a) ++ SX.S [97 + (turn.toNat + 3 * i) % 26]).length + (SX.S (part.drop a)).length ≤ sizeLine
          rw [SX.S_cat, SX.S_len, SX.S_len, List.length_append, List.length_take, List.length_drop]
          exact Nat.le_trans (show _ ≤ 8 by simp only [List.length_cons, List.length_nil]; omega) (by decide)
        · rw [List.length_map, List.length_map, List.length_range]
          exact small1000 (by omega)
        · refine ⟨_, _, _, _, rfl, (s5.new hP nl).mut hP nf0, ?_⟩
          rw [upd_same, e1, e2, List.range_succ, List.map_append, List.map_append]
          have e3 : SX.S (part.take a) ++ SX.S [97 + (turn.toNat + 3 * i) % 26] ++ SX.S (part.drop a) = SX.S (nameL bs way.toNat turn.toNat size.toNat i) := by
            rw [SX.S_cat, SX.S_cat]
            unfold nameL
            rw [hpart, ← ea]
          show some (HO.lst (_ ++ [V.str (SX.S (part.take a) ++ SX.S [97 + (turn.toNat + 3 * i) % 26] ++ SX.S (part.drop a))])) = _
          rw [e3]
          rfl
      · rintro σ H5 ⟨v9, v10, v11, v12, rfl, s5, hf⟩
        refine ⟨_, rfl, q f ((List.range many.toNat).map (nameL bs way.toNat turn.toNat size.toNat)) H5 s5 nf0 hf ?_ ?_ ?_⟩
        · rw [List.length_map, List.length_range]
          omega
        · refine List.pairwise_map.mpr (List.Pairwise.imp_of_mem ?_ (List.nodup_range (n := many.toNat)))
          intro a b ha hb ne e
          have ha := List.mem_range.mp ha
          have hb := List.mem_range.mp hb
          exact ne (nameL_inj hl (by omega) (by omega) (by omega) e)
        · intro z hz
          obtain ⟨k, _, rfl⟩ := List.mem_map.mp hz
          exact nameL_house hl hc
/-! ### town -/
def HouseS (h : Str) : Prop := House h.cps.toList
theorem HouseS.ok {z : Str} (h : HouseS z) : PyData.strOk z = true := by
  obtain ⟨h1, h2, h3⟩ := h
  unfold PyData.strOk
  rw [← Array.all_toList, List.all_eq_true]
  intro c hc
  have := h3 c hc
  exact decide_eq_true (by omega)
theorem canLay_strs : ∀ {hs : List Str}, (∀ h ∈ hs, PyData.strOk h = true) → PyData.canLayAll0 (hs.map PyData.str) = true
  | [], _ => rfl
  | h :: r, a => by
    show (PyData.strOk h && PyData.canLayAll0 (r.map PyData.str)) = true
    rw [a h List.mem_cons_self, canLay_strs fun x hx => a x (List.mem_cons_of_mem _ hx)]
    rfl
theorem depth_strs : ∀ {hs : List Str}, PyData.depthAll (hs.map PyData.str) = 0
  | [] => rfl
  | h :: r => by
    show max 0 (PyData.depthAll (r.map PyData.str)) = 0
    rw [depth_strs]
    rfl
theorem shaped_strs {hs : List Str} (a : ∀ h ∈ hs, PyData.strOk h = true) : SeqAt.shaped (.list (hs.map PyData.str)) = true := by
  unfold SeqAt.shaped
  rw [Bool.and_eq_true, decide_eq_true_eq]
  refine ⟨canLay_strs a, ?_⟩
  show PyData.depthAll (hs.map PyData.str) + 1 ≤ 64
  rw [depth_strs]
  decide
theorem dp_strs {H : Hp} : ∀ hs : List Str, DpAll K H (hs.map V.str) (hs.map PyData.str)
  | [] => .nil
  | h :: r => .cons (.str h) (dp_strs r)
def TownAt (H : Hp) (t : Addr) (hs gs : List Str) : Prop := ∃ a b : Addr, H t = some (.tup [.ref a, .ref b]) ∧ H a = some (.tup (hs.map V.str)) ∧ H b = some (.tup (gs.map V.str))
theorem Stp.town {p c t : Addr} {H H' : Hp} {hs gs : List Str} (s : Stp p c H H') (h : Pen H p c) (ht : TownAt H t hs gs) : TownAt H' t hs gs := by
  obtain ⟨a, b, h1, h2, h3⟩ := ht
  exact ⟨a, b, s.tup h h1, s.tup h h2, s.tup h h3⟩
structure Good (hs gs : List Str) (most : Nat) : Prop where
  one : 1 ≤ hs.length
  few : hs.length ≤ most
  nd : hs.Nodup
  up : sortedS hs = true
  hou : ∀ h ∈ hs, HouseS h
  sub : gs.Sublist hs
def sp_l_town : Sp := fun vs H Q _ => ∃ (p c : Addr) (most : Nat), vs = [.ref p, .int most] ∧ Pen H p c ∧ 1 ≤ most ∧ most ≤ 6 ∧
  ∀ (t : Addr) (hs gs : List Str) (H' : Hp), Stp p c H H' → TownAt H' t hs gs → Good hs gs most → Q (.ref t) H'
theorem ok_l_town (T : Txt K mg af fd) : FnOk P w K mg base CX0 4 (af 43) (fd 43) ["pen", "most"] sp_l_town := by
  refine T.F_l_town.ok sc_l_town (fun vs H Q E h => ?_) (fun cdv A outer s H vs Q E hr h => ?_)
  · obtain ⟨p, c, most, rfl, _⟩ := h
    rfl
  · obtain ⟨p, c, most, rfl, hP, m1, m6, q⟩ := h
    refine ⟨_, (pss_cons (ps_set (i := 2) sc_l_town.nd rfl (by first | exact Or.inl rfl | exact Or.inr rfl) (pe_callB cr_sortedS (by rfl) T.m_sorted (by decide +kernel) (pa_cons (pe_call (ok_l_names T) (hr.mono (by first | decide | omega)) (by rfl) T.g_l_names T.F_l_names.kp T.b_l_names .nil pass0 (pa_cons (pv 0) (pa_cons (pe_op op_add pe_int (pe_call (ok_l_take T) (hr.mono (by first | decide | omega)) (by rfl) T.g_l_take T.F_l_take.kp T.b_l_take .nil pass0 (pa_cons (pv 0) (pa_cons (pv 1) pa_nil)))) pa_nil))) pa_nil)))
        (pss_cons (ps_setLc (i := 3) (own := [("house", 4)]) (g := gName 4) (by rfl) sc_l_town.nd rfl rfl (sw_true rfl rfl rfl (by decide +kernel)) (pi_list (pv 2)) (blkOk_by (own := [("house", 4)]) (N := ["pen", "most", "houses", "gates", "house"]) (sc := defScope s_l_town) (by decide +kernel)) (fun _ _ _ _ _ => pg_name (i := 4) sc_l_town.nd rfl (Or.inl rfl)) (fun _ _ _ _ _ => (pts_one (pt_cmpR op_gt (pe_call (ok_l_take T) (hr.mono (by first | decide | omega)) (by rfl) T.g_l_take T.F_l_take.kp T.b_l_take .nil pass0 (pa_cons (pv 0) (pa_cons pe_int pa_nil))) pe_int (nomark _)))) (fun _ _ _ _ _ => (pv 4)))
        (C8.pss_cut (ps_if (PW.pt (pw_and (pt_cmpR (op_eqD hr.units) (pv 3) (pe_lst pa_nil) (nomark _)) (pw_and1 (pt_cmpR op_gt (pe_call (ok_l_take T) (hr.mono (by first | decide | omega)) (by rfl) T.g_l_take T.F_l_take.kp T.b_l_take .nil pass0 (pa_cons (pv 0) (pa_cons pe_int pa_nil))) pe_int (nomark _))))) (pss_one (ps_set (i := 3) sc_l_town.nd rfl (by first | exact Or.inl rfl | exact Or.inr rfl) (pe_slice sl_list (pv 2) po_none (po_some pe_int)))) pss_nil)
        (pss_one (ps_ret (pe_tup (pa_cons (pe_callTy call_tuple_of (by rfl) T.m_tuple (by decide +kernel) (pa_cons (pv 2) pa_nil)) (pa_cons (pe_callTy call_tuple_of (by rfl) T.m_tuple (by decide +kernel) (pa_cons (pv 3) pa_nil)) pa_nil)))))))), ?_⟩
    refine ⟨_, rfl, _, rfl, _, rfl, p, c, most, rfl, hP, by omega, Nat.lt_of_le_of_lt (show _ ≤ 6 by omega) (by decide), fun r H1 r0 r1 s1 => ?_⟩
    refine ⟨_, _, rfl, rfl, p, c, _, rfl, s1.1, by omega, by omega, fun f zs H2 s2 nf hf hl nd hh => ?_⟩
    have s12 := s1.trans s2
    have hf' : H2 f = some (.lst ((zs.map SX.S).map V.str)) := by rw [hf, List.map_map]; rfl
    refine ⟨f, zs.map SX.S, rfl, SqL.of hf', by rw [List.length_map]; omega, fun hs d pm up nd1 => ?_⟩
    have hlen : hs.length = zs.length := by rw [pm.length_eq, List.length_map]
    have hnd : hs.Nodup := pm.nodup_iff.mpr (List.pairwise_map.mpr (nd.imp fun ne e => ne (SX.S_inj e)))
    have hho : ∀ h ∈ hs, HouseS h := fun h m => by
      obtain ⟨z, mz, rfl⟩ := List.mem_map.mp (pm.mem_iff.mp m)
      exact hh z mz
    have nd0 : H d = none := s12.back hP nd1
    have s3 : Stp p c H (upd H2 d (.lst (hs.map V.str))) := s12.mut hP nd0
    -- gates
    refine ⟨_, rfl, d, rfl, ⟨_, SqL.of upd_same⟩, fun D nD => ?_⟩
    have nD0 : H D = none := s3.back hP nD
    have hdD : d ≠ D := fun e => by
      rw [← e, upd_same] at nD
      cases nD
    refine lc_list (K := K) (a := d) (xs := hs.map V.str) (fun i H' => Stp p c H H' ∧ H' d = some (.lst (hs.map V.str)) ∧ ∃ gs : List Str, H' D = some (.lst (gs.map V.str)) ∧ gs.Sublist (hs.take i))
      ⟨s3.mut hP nD0, by rw [upd_ne hdD, upd_same], [], upd_same, List.nil_sublist _⟩ (fun i H' _ h => SqL.of h.2.1) ?_ ?_
    · rintro i x H3 hx ⟨s4, hd, gs, hD, hg⟩
      rw [List.getElem?_map] at hx
      obtain ⟨h, hh, rfl⟩ := Option.map_eq_some_iff.mp hx
      have etake : hs.take (i + 1) = hs.take i ++ [h] := by rw [List.take_add_one, hh]; rfl
      refine ⟨rfl, _, rfl, p, c, 3, rfl, s4.1, by decide, by decide, fun r H4 r0 r1 s5 => ?_⟩
      have hd4 : H4 d = some (.lst (hs.map V.str)) := s5.2 d _ (fun e => hP.neP nd0 e.symm) hd
      have hD4 : H4 D = some (.lst (gs.map V.str)) := s5.2 D _ (fun e => hP.neP nD0 e.symm) hD
      refine ⟨_, _, rfl, rfl, _, rfl, ite2 (fun e => ?_) (fun e => ?_)⟩
      · refine ⟨_, rfl, _, hD4, ?_, (s4.trans s5).mut hP nD0, by rw [upd_ne hdD]; exact hd4, gs ++ [h], ?_, ?_⟩
        · rw [List.length_map]
          exact small1000 (Nat.le_trans (hg.length_le) (by rw [List.length_take]; omega))
        · rw [upd_same, List.map_append]
          rfl
        · rw [etake]
          exact hg.append (List.Sublist.refl _)
      · refine ⟨s4.trans s5, hd4, gs, hD4, ?_⟩
        rw [etake]
        exact hg.trans (List.sublist_append_left _ _)
    · rintro H3 ⟨s4, hd, gs, hD, hg⟩
      rw [List.length_map, List.take_length] at hg
      have hgo : ∀ h ∈ gs, PyData.strOk h = true := fun h m => (hho h (hg.subset m)).ok
      refine ⟨fun σ' H' => ∃ (g : Addr) (gs : List Str), σ' = [some (.ref p), some (.int most), some (.ref d), some (.ref g), none] ∧ Stp p c H H' ∧ H' d = some (.lst (hs.map V.str)) ∧ H' g = some (.lst (gs.map V.str)) ∧ gs.Sublist hs, ?_, ?_⟩
      · refine ⟨_, rfl, Nat.zero_le _, fun e ne => ?_⟩
        have s5 : Stp p c H (upd H3 e (.lst [])) := s4.new hP ne
        have hd5 : (upd H3 e (.lst [])) d = some (.lst (hs.map V.str)) := by rw [upd_ne (ne_of_none hd ne)]; exact hd
        have hD5 : (upd H3 e (.lst [])) D = some (.lst (gs.map V.str)) := by rw [upd_ne (ne_of_none hD ne)]; exact hD
        refine ⟨.list (gs.map PyData.str), .list [], Dp.lst (SqL.of hD5) (dp_strs gs), Dp.lst (SqL.of upd_same) .nil, shaped_strs hgo, rfl, _, rfl, ite2 (fun e => ?_) (fun e => ?_)⟩
        · refine ⟨_, rfl, p, c, 4, rfl, s5.1, by decide, by decide, fun r H4 r0 r1 s6 => ?_⟩
          have hd6 : H4 d = some (.lst (hs.map V.str)) := s6.2 d _ (fun e => hP.neP nd0 e.symm) hd5
          have hD6 : H4 D = some (.lst (gs.map V.str)) := s6.2 D _ (fun e => hP.neP nD0 e.symm) hD5
          refine ⟨_, _, rfl, rfl, _, rfl, ite2 (fun e => ?_) (fun e => ?_)⟩
          · refine ⟨_, rfl, 1, rfl, d, _, rfl, SqL.of hd6, fun g ng => ⟨g, hs.take 1, rfl, (s5.trans s6).new hP ng, ?_, ?_, List.take_sublist _ _⟩⟩
            · rw [upd_ne (ne_of_none hd6 ng)]
              exact hd6
            · rw [upd_same]
              have e := cut_to (hs.map V.str) 1
              rw [show ((1 : Nat) : Int) = 1 from rfl] at e
              rw [e, List.map_take]
          · exact ⟨D, gs, rfl, s5.trans s6, hd6, hD6, hg⟩
        · exact ⟨D, gs, rfl, s5, hd5, hD5, hg⟩
      · rintro σ' H' ⟨g, gs, rfl, s5, hd, hg, hsub⟩
        refine ⟨_, rfl, d, _, rfl, .inl ⟨SqL.of hd, fun a na => ?_⟩⟩
        have hg1 : (upd H' a (.tup (hs.map V.str))) g = some (.lst (gs.map V.str)) := by rw [upd_ne (ne_of_none hg na)]; exact hg
        refine ⟨_, rfl, g, _, rfl, .inl ⟨SqL.of hg1, fun b nb => ?_⟩⟩
        have s6 : Stp p c H (upd H' a (.tup (hs.map V.str))) := s5.new hP na
        have s7 := s6.new (o := .tup (gs.map V.str)) hP nb
        have hab : a ≠ b := fun e => by
          rw [← e, upd_same] at nb
          cases nb
        refine ⟨(by show 2 ≤ sizeLine; decide), fun t nt => ?_⟩
        have hta : a ≠ t := fun e => by
          rw [← e, upd_ne hab, upd_same] at nt
          cases nt
        have htb : b ≠ t := fun e => by
          rw [← e, upd_same] at nt
          cases nt
        refine q t hs gs _ (s7.new hP nt) ⟨a, b, upd_same, ?_, ?_⟩ ⟨?_, ?_, hnd, up, hho, hsub⟩
        · rw [upd_ne hta, upd_ne hab, upd_same]
        · rw [upd_ne htb, upd_same]
        · omega
        · omega
theorem pick_house {hs : List Str} {r : Int} (h0 : 0 ≤ r) (h1 : r < (hs.map V.str).length) : ∃ h, h ∈ hs ∧ atI (hs.map V.str) r = some (.str h) := by
  rw [List.length_map] at h1
  have hlt : r.toNat < hs.length := by omega
  refine ⟨hs[r.toNat], List.getElem_mem hlt, at_any (j := r.toNat) (by omega) ?_⟩
  rw [List.getElem?_map, List.getElem?_eq_getElem hlt]
  rfl
theorem TownAt.same' {t : Addr} {H H' : Hp} {hs gs : List Str} (h : TownAt H t hs gs) (s : Same H H') : TownAt H' t hs gs := by
  obtain ⟨a, b, h1, h2, h3⟩ := h
  exact ⟨a, b, s _ _ h1, s _ _ h2, s _ _ h3⟩
def TimeI (a : Int) : Prop := -1000000000000 ≤ a ∧ a ≤ 1000000000000
inductive RowV (hs : List Str) : List V → Prop
  | ask (h g : Str) (k n o b : Int) : h ∈ hs → g ∈ hs → 0 ≤ k → k ≤ 14 → 0 ≤ n → n ≤ 14 → TimeI o → TimeI b → o ≤ b → RowV hs [.str "ask", .str h, .int k, .int n, .str g, .int o, .int b]
  | job (h : Str) (k o b : Int) : h ∈ hs → 0 ≤ k → k ≤ 14 → TimeI o → TimeI b → o ≤ b → RowV hs [.str "job", .str h, .int k, .int o, .int b]
  | all (h : Str) (a j : Int) : h ∈ hs → 0 ≤ a → a ≤ 15 → 0 ≤ j → j ≤ 15 → RowV hs [.str "all", .str h, .int a, .int j]
/-! ### data of any kind: what reads as d at v, its lists outside Ex -/
mutual
inductive Dq (Ex : Addr → Prop) (H : Hp) : V → PyData → Prop
  | non : Dq Ex H .non .none
  | bl (b : Bool) : Dq Ex H (.bl b) (.bool b)
  | int (i : Int) : Dq Ex H (.int i) (.int i)
  | str (x : Str) : Dq Ex H (.str x) (.str x)
  | lst {a : Addr} {xs : List V} {ds : List PyData} : ¬ Ex a → H a = some (.lst xs) → Dqs Ex H xs ds → Dq Ex H (.ref a) (.list ds)
  | tup {a : Addr} {xs : List V} {ds : List PyData} : H a = some (.tup xs) → Dqs Ex H xs ds → Dq Ex H (.ref a) (.tuple ds)
inductive Dqs (Ex : Addr → Prop) (H : Hp) : List V → List PyData → Prop
  | nil : Dqs Ex H [] []
  | cons {v : V} {vs : List V} {d : PyData} {ds : List PyData} : Dq Ex H v d → Dqs Ex H vs ds → Dqs Ex H (v :: vs) (d :: ds)
end
mutual
theorem Dq.go {Ex Ey : Addr → Prop} {H H' : Hp} (he : ∀ a, Ey a → ¬ Ex a → H a = none) (hl : ∀ a xs, ¬ Ex a → H a = some (.lst xs) → H' a = some (.lst xs)) (ht : ∀ a xs, H a = some (.tup xs) → H' a = some (.tup xs)) : ∀ {v : V} {d : PyData}, Dq Ex H v d → Dq Ey H' v d
  | _, _, .non => .non
  | _, _, .bl b => .bl b
  | _, _, .int i => .int i
  | _, _, .str x => .str x
  | _, _, .lst n h r => .lst (fun z => by rw [he _ z n] at h; cases h) (hl _ _ n h) (Dqs.go he hl ht r)
  | _, _, .tup h r => .tup (ht _ _ h) (Dqs.go he hl ht r)
theorem Dqs.go {Ex Ey : Addr → Prop} {H H' : Hp} (he : ∀ a, Ey a → ¬ Ex a → H a = none) (hl : ∀ a xs, ¬ Ex a → H a = some (.lst xs) → H' a = some (.lst xs)) (ht : ∀ a xs, H a = some (.tup xs) → H' a = some (.tup xs)) : ∀ {vs : List V} {ds : List PyData}, Dqs Ex H vs ds → Dqs Ey H' vs ds
  | _, _, .nil => .nil
  | _, _, .cons h r => .cons (Dq.go he hl ht h) (Dqs.go he hl ht r)
end
mutual
theorem Dq.dp {K : PySem.W.Frag} {Ex : Addr → Prop} {H : Hp} : ∀ {v : V} {d : PyData}, Dq Ex H v d → Dp K H v d
  | _, _, .non => .non
  | _, _, .bl b => .bl b
  | _, _, .int i => .int i
  | _, _, .str x => .str x
  | _, _, .lst _ h r => .lst (SqL.of h) (Dqs.dp r)
  | _, _, .tup h r => .tup (SqT.of h) (Dqs.dp r)
theorem Dqs.dp {K : PySem.W.Frag} {Ex : Addr → Prop} {H : Hp} : ∀ {vs : List V} {ds : List PyData}, Dqs Ex H vs ds → DpAll K H vs ds
  | _, _, .nil => .nil
  | _, _, .cons h r => .cons (Dq.dp h) (Dqs.dp r)
end
theorem Dqs.len {Ex : Addr → Prop} {H : Hp} : ∀ {vs : List V} {ds : List PyData}, Dqs Ex H vs ds → vs.length = ds.length
  | _, _, .nil => rfl
  | _, _, .cons _ r => by rw [List.length_cons, List.length_cons, r.len]
theorem Dqs.get {Ex : Addr → Prop} {H : Hp} : ∀ {vs : List V} {ds : List PyData} {i : Nat} {d : PyData}, Dqs Ex H vs ds → ds[i]? = some d → ∃ v, vs[i]? = some v ∧ Dq Ex H v d
  | _, _, 0, _, .cons h _, e => ⟨_, rfl, by obtain rfl := Option.some.inj e; exact h⟩
  | _, _, _ + 1, _, .cons _ r, e => r.get e
theorem Dqs.take {Ex : Addr → Prop} {H : Hp} : ∀ {vs : List V} {ds : List PyData} (n : Nat), Dqs Ex H vs ds → Dqs Ex H (vs.take n) (ds.take n)
  | _, _, 0, _ => .nil
  | _, _, _ + 1, .nil => .nil
  | _, _, n + 1, .cons h r => .cons h (r.take n)
theorem Dqs.drop {Ex : Addr → Prop} {H : Hp} : ∀ {vs : List V} {ds : List PyData} (n : Nat), Dqs Ex H vs ds → Dqs Ex H (vs.drop n) (ds.drop n)
  | _, _, 0, r => r
  | _, _, _ + 1, .nil => .nil
  | _, _, n + 1, .cons _ r => r.drop n
theorem Dqs.app {Ex : Addr → Prop} {H : Hp} : ∀ {vs us : List V} {ds es : List PyData}, Dqs Ex H vs ds → Dqs Ex H us es → Dqs Ex H (vs ++ us) (ds ++ es)
  | _, _, _, _, .nil, r => r
  | _, _, _, _, .cons h r, q => .cons h (r.app q)
/-! the type's name -/
def tyN : PyData → String
  | .none => "NoneType"
  | .bool _ => "bool"
  | .int _ => "int"
  | .str _ => "str"
  | .list _ => "list"
  | .tuple _ => "tuple"
  | .dict _ => "dict"
theorem Dq.ty {K : PySem.W.Frag} {Ex : Addr → Prop} {H : Hp} {v : V} {d : PyData} (h : Dq Ex H v d) : TyX K H v (.type (tyN d)) := by
  cases h with
  | non => exact .base .non
  | bl b => exact .base (.bl b)
  | int i => exact .base (.int i)
  | str x => exact .base (.str x)
  | lst _ h _ => exact .base (.lst h)
  | tup h _ => exact .base (.tup h)
/-! isinstance(d, a built-in) -/
def isB (d : PyData) (n : String) : Bool := match d, n with
  | .bool _, "bool" => true
  | .bool _, "int" => true
  | .int _, "int" => true
  | .str _, "str" => true
  | .list _, "list" => true
  | .tuple _, "tuple" => true
  | _, _ => false
theorem isi_kit {K : PySem.W.Frag} {Ex : Addr → Prop} {H : Hp} {v : V} {d : PyData} {n : String} (h : Dq Ex H v d) (hn : n = "bool" ∨ n = "int" ∨ n = "str" ∨ n = "list" ∨ n = "tuple") : PySem.W.kitOne K (.type (tyN d)) (.type n) = some (isB d n) := by
  refine kit_ty ?_
  have key : ∀ e : PyData, (∀ kvs, e ≠ .dict kvs) → kitB (tyN e) n = some (isB e n) := by
    intro e he
    rcases hn with rfl | rfl | rfl | rfl | rfl <;> cases e <;> first | exact absurd rfl (he _) | rfl
  refine key d fun kvs e => ?_
  subst e
  cases h
theorem n_bool : "bool" = "bool" ∨ "bool" = "int" ∨ "bool" = "str" ∨ "bool" = "list" ∨ "bool" = "tuple" := .inl rfl
theorem n_int : "int" = "bool" ∨ "int" = "int" ∨ "int" = "str" ∨ "int" = "list" ∨ "int" = "tuple" := .inr (.inl rfl)
theorem n_str : "str" = "bool" ∨ "str" = "int" ∨ "str" = "str" ∨ "str" = "list" ∨ "str" = "tuple" := .inr (.inr (.inl rfl))
theorem n_list : "list" = "bool" ∨ "list" = "int" ∨ "list" = "str" ∨ "list" = "list" ∨ "list" = "tuple" := .inr (.inr (.inr (.inl rfl)))
theorem n_tuple : "tuple" = "bool" ∨ "tuple" = "int" ∨ "tuple" = "str" ∨ "tuple" = "list" ∨ "tuple" = "tuple" := .inr (.inr (.inr (.inr rfl)))
/-! x in t, x not in t, of any data -/
def rInTD (K : PySem.W.Frag) : R2 := fun x y H Q => ∃ d ds, Dp K H x d ∧ Dp K H y (.tuple ds) ∧ SeqAt.shaped d = true ∧ SeqAt.shaped (.tuple ds) = true ∧ Q (.bl (ds.any fun z => PyData.eqv z d)) H
def rNotInTD (K : PySem.W.Frag) : R2 := fun x y H Q => ∃ d ds, Dp K H x d ∧ Dp K H y (.tuple ds) ∧ SeqAt.shaped d = true ∧ SeqAt.shaped (.tuple ds) = true ∧ Q (.bl (!ds.any fun z => PyData.eqv z d)) H
theorem op_inTD {X : Cx} (hu : X.A.units + 65 < cLine) : OpR X (compareOp .In) (rInTD X.K) := by
  intro pins s σ H x y v u Q I rx ry h
  obtain ⟨d, ds, hd, he, sd, se, q⟩ := h
  obtain ⟨as, r1⟩ := Dp.reads I d x v hd rx
  obtain ⟨bs, r2⟩ := Dp.reads I (.tuple ds) y u he ry
  exact SeqAt.in_tuple_reads r2 r1 (SeqAt.canLay_of_shaped se) (SeqAt.canLay_of_shaped sd) (room_in_shaped sd hu) ⟨.bl _, H, I, rfl, q⟩
theorem op_notInTD {X : Cx} (hu : X.A.units + 65 < cLine) : OpR X (compareOp .NotIn) (rNotInTD X.K) := by
  intro pins s σ H x y v u Q I rx ry h
  obtain ⟨d, ds, hd, he, sd, se, q⟩ := h
  obtain ⟨as, r1⟩ := Dp.reads I d x v hd rx
  obtain ⟨bs, r2⟩ := Dp.reads I (.tuple ds) y u he ry
  exact SeqAt.notIn_tuple_reads r2 r1 (SeqAt.canLay_of_shaped se) (SeqAt.canLay_of_shaped sd) (room_in_shaped sd hu) ⟨.bl _, H, I, rfl, q⟩
theorem eqv_str {d : PyData} {x : Str} : PyData.eqv d (.str x) = true ↔ d = .str x := by
  cases d <;> simp [PyData.eqv]
theorem eqv_str' {d : PyData} {x : Str} : PyData.eqv (.str x) d = true ↔ d = .str x := by
  cases d <;> simp [PyData.eqv]
  exact ⟨fun e => e.symm, fun e => e.symm⟩
theorem any_strs {hs : List Str} {d : PyData} : ((hs.map PyData.str).any fun z => PyData.eqv z d) = true ↔ ∃ h ∈ hs, d = .str h := by
  rw [List.any_map, List.any_eq_true]
  constructor
  · rintro ⟨h, m, e⟩
    exact ⟨h, m, eqv_str'.mp e⟩
  · rintro ⟨h, m, e⟩
    exact ⟨h, m, eqv_str'.mpr e⟩
/-! data that may be laid, and not too deep -/
def Sh (d : PyData) : Prop := d.canLay0 = true ∧ d.depth ≤ 60
theorem Sh.shaped {d : PyData} (h : Sh d) : SeqAt.shaped d = true := by
  unfold SeqAt.shaped
  rw [h.1, Bool.true_and]
  exact decide_eq_true (Nat.le_trans h.2 (by decide))
theorem sh_all : ∀ {ds : List PyData}, PyData.canLayAll0 ds = true → PyData.depthAll ds ≤ 59 → ∀ d ∈ ds, Sh d
  | x :: xs, h1, h2, d, hd => by
    have h1' : (x.canLay0 && PyData.canLayAll0 xs) = true := h1
    rw [Bool.and_eq_true] at h1'
    have h2' : max x.depth (PyData.depthAll xs) ≤ 59 := h2
    rcases List.mem_cons.mp hd with e | m
    · subst e
      exact ⟨h1'.1, by omega⟩
    · exact sh_all h1'.2 (by omega) d m
theorem Sh.items {ds : List PyData} (h : Sh (.tuple ds)) : ∀ d ∈ ds, Sh d := sh_all h.1 (Nat.le_of_succ_le_succ h.2)
theorem Dq.same {Ex : Addr → Prop} {H H' : Hp} {v : V} {d : PyData} (h : Dq Ex H v d) (s : Same H H') : Dq Ex H' v d := h.go (fun _ a b => absurd a b) (fun _ _ _ e => s _ _ e) (fun _ _ e => s _ _ e)
theorem Dqs.same {Ex : Addr → Prop} {H H' : Hp} {v : List V} {d : List PyData} (h : Dqs Ex H v d) (s : Same H H') : Dqs Ex H' v d := h.go (fun _ a b => absurd a b) (fun _ _ _ e => s _ _ e) (fun _ _ e => s _ _ e)
/-! ### rows as data, and which clash (point 6) -/
inductive Row where
  | ask (h g : Str) (k n o b : Int)
  | job (h : Str) (k o b : Int)
  | all (h : Str) (a j : Int)
  deriving DecidableEq
def Row.data : Row → List PyData
  | .ask h g k n o b => [.str "ask", .str h, .int k, .int n, .str g, .int o, .int b]
  | .job h k o b => [.str "job", .str h, .int k, .int o, .int b]
  | .all h a j => [.str "all", .str h, .int a, .int j]
def Row.vals (r : Row) : List V := r.data.map Fl.dV
def Row.h : Row → Str
  | .ask h _ _ _ _ _ => h
  | .job h _ _ _ => h
  | .all h _ _ => h
def Row.word : Row → Str
  | .ask _ _ _ _ _ _ => "ask"
  | .job _ _ _ _ => "job"
  | .all _ _ _ => "all"
def NumI (k : Int) : Prop := 0 ≤ k ∧ k ≤ 14
def CntI (k : Int) : Prop := 0 ≤ k ∧ k ≤ 15
def Row.Wf : Row → Prop
  | .ask h g k n o b => PyData.strOk h = true ∧ PyData.strOk g = true ∧ NumI k ∧ NumI n ∧ TimeI o ∧ TimeI b ∧ o ≤ b
  | .job h k o b => PyData.strOk h = true ∧ NumI k ∧ TimeI o ∧ TimeI b ∧ o ≤ b
  | .all h a j => PyData.strOk h = true ∧ CntI a ∧ CntI j
def Row.In (hs : List Str) : Row → Prop
  | .ask h g _ _ _ _ => h ∈ hs ∧ g ∈ hs
  | .job h _ _ _ => h ∈ hs
  | .all h _ _ => h ∈ hs
theorem RowV.row {hs : List Str} {xs : List V} (hh : ∀ h ∈ hs, HouseS h) (x : RowV hs xs) : ∃ r : Row, xs = r.vals ∧ r.Wf ∧ r.In hs := by
  cases x with
  | ask h g k n o b mh mg k0 k1 n0 n1 to tb ob => exact ⟨.ask h g k n o b, rfl, ⟨(hh h mh).ok, (hh g mg).ok, ⟨k0, k1⟩, ⟨n0, n1⟩, to, tb, ob⟩, mh, mg⟩
  | job h k o b mh k0 k1 to tb ob => exact ⟨.job h k o b, rfl, ⟨(hh h mh).ok, ⟨k0, k1⟩, to, tb, ob⟩, mh⟩
  | all h a j mh a0 a1 j0 j1 => exact ⟨.all h a j, rfl, ⟨(hh h mh).ok, ⟨a0, a1⟩, ⟨j0, j1⟩⟩, mh⟩
def RowAt (H : Hp) (a : Addr) (r : Row) : Prop := H a = some (.tup r.vals)
theorem RowAt.t {H : Hp} {a : Addr} {r : Row} (h : RowAt H a r) : SqT K H a r.vals := SqT.of h
theorem at0 (r : Row) : atI r.vals 0 = some (.str r.word) := by cases r <;> rfl
theorem at1 (r : Row) : atI r.vals 1 = some (.str r.h) := by cases r <;> rfl
theorem dp_row {H : Hp} (r : Row) : DpAll K H r.vals r.data := by
  cases r with
  | ask h g k n o b => exact .cons (.str _) (.cons (.str _) (.cons (.int _) (.cons (.int _) (.cons (.str _) (.cons (.int _) (.cons (.int _) .nil))))))
  | job h k o b => exact .cons (.str _) (.cons (.str _) (.cons (.int _) (.cons (.int _) (.cons (.int _) .nil))))
  | all h a j => exact .cons (.str _) (.cons (.str _) (.cons (.int _) (.cons (.int _) .nil)))
theorem RowAt.dp {H : Hp} {a : Addr} {r : Row} (h : RowAt H a r) : Dp K H (.ref a) (.tuple r.data) := Dp.tup h.t (dp_row r)
theorem Row.Wf.sh {r : Row} (h : r.Wf) : SeqAt.shaped (.tuple r.data) = true := by
  unfold SeqAt.shaped
  rw [Bool.and_eq_true]
  cases r with
  | ask h' g k n o b =>
    refine ⟨?_, rfl⟩
    show (PyData.strOk "ask" && (PyData.strOk h' && (true && (true && (PyData.strOk g && (true && (true && true))))))) = true
    rw [h.1, h.2.1]
    decide +kernel
  | job h' k o b =>
    refine ⟨?_, rfl⟩
    show (PyData.strOk "job" && (PyData.strOk h' && (true && (true && (true && true))))) = true
    rw [h.1]
    decide +kernel
  | all h' a j =>
    refine ⟨?_, rfl⟩
    show (PyData.strOk "all" && (PyData.strOk h' && (true && (true && true)))) = true
    rw [h.1]
    decide +kernel
theorem row_eqv (x y : Row) : PyData.eqv (.tuple x.data) (.tuple y.data) = decide (x = y) := by
  have n1 : ((("ask" : Str)) == ("job" : Str)) = false := by decide +kernel
  have n2 : ((("ask" : Str)) == ("all" : Str)) = false := by decide +kernel
  have n3 : ((("job" : Str)) == ("ask" : Str)) = false := by decide +kernel
  have n4 : ((("job" : Str)) == ("all" : Str)) = false := by decide +kernel
  have n5 : ((("all" : Str)) == ("ask" : Str)) = false := by decide +kernel
  have n6 : ((("all" : Str)) == ("job" : Str)) = false := by decide +kernel
  have bdS : ∀ a b : Str, (a == b) = decide (a = b) := fun a b => by by_cases h : a = b <;> simp [h]
  have bdI : ∀ a b : Int, (a == b) = decide (a = b) := fun a b => by by_cases h : a = b <;> simp [h]
  cases x <;> cases y <;> simp [Row.data, PyData.eqv, PyData.eqvAll, n1, n2, n3, n4, n5, n6, bdS, bdI]
  rename_i h g k n o b h' g' k' n' o' b'
  generalize decide (h = h') = c1
  generalize decide (g = g') = c2
  generalize decide (k = k') = c3
  generalize decide (n = n') = c4
  cases c1 <;> cases c2 <;> cases c3 <;> cases c4 <;> rfl
theorem ff {p : Prop} (h : ¬ p) : (false = true ↔ p) := ⟨fun z => Bool.noConfusion z, fun z => absurd z h⟩
theorem tt {p : Prop} (h : p) : (true = true ↔ p) := ⟨fun _ => h, fun _ => rfl⟩
theorem w_aj : ("ask" : Str) ≠ ("job" : Str) := by decide +kernel
theorem w_aa : ("ask" : Str) ≠ ("all" : Str) := by decide +kernel
theorem w_ja : ("job" : Str) ≠ ("all" : Str) := by decide +kernel
theorem dstr {a b : Str} (h : a ≠ b) : decide (V.str a = V.str b) = false := decide_eq_false fun e => h (V.str.inj e)
theorem dstrT (a : Str) : decide (V.str a = V.str a) = true := decide_eq_true rfl
theorem word_len (r : Row) : r.word.length ≤ 3 := by
  cases r
  · exact (by decide +kernel : (Str.ofString "ask").length ≤ 3)
  · exact (by decide +kernel : (Str.ofString "job").length ≤ 3)
  · exact (by decide +kernel : (Str.ofString "all").length ≤ 3)
theorem row_flat (r : Row) : r.data.all Fl.flatD = true := by cases r <;> rfl
def ClashP : Row → Row → Prop
  | .ask h g k n o b, .ask h' g' k' n' o' b' => h = h' ∧ ¬ (Row.ask h g k n o b = .ask h' g' k' n' o' b') ∧ (k = k' ∨ (k < k' ∧ o' < o) ∨ (k' < k ∧ o < o'))
  | .job h k o b, .job h' k' o' b' => h = h' ∧ ¬ (Row.job h k o b = .job h' k' o' b') ∧ (k = k' ∨ (k < k' ∧ o' < o) ∨ (k' < k ∧ o < o'))
  | .all h a j, .all h' a' j' => h = h' ∧ ¬ (Row.all h a j = .all h' a' j')
  | .job h k o b, .ask h' _ _ n o' b' => h = h' ∧ ((k ≤ n ∧ o' ≤ o) ∨ (k = n ∧ b ≤ b'))
  | .ask h' _ _ n o' b', .job h k o b => h = h' ∧ ((k ≤ n ∧ o' ≤ o) ∨ (k = n ∧ b ≤ b'))
  | .all h a j, .ask h' _ k n _ _ => h = h' ∧ (a ≤ k ∨ j ≤ n)
  | .ask h' _ k n _ _, .all h a j => h = h' ∧ (a ≤ k ∨ j ≤ n)
  | .all h _ j, .job h' k _ _ => h = h' ∧ j ≤ k
  | .job h' k _ _, .all h _ j => h = h' ∧ j ≤ k
/-! ### the program's defs -/
def sp_is_out_of_order : Sp := fun vs H Q _ => ∃ (a t b u : Int), vs = [.int a, .int t, .int b, .int u] ∧ ∀ r : Bool, (r = true ↔ ((a < b ∧ u < t) ∨ (¬ a < b ∧ t < u))) → Q (.bl r) H
theorem ok_is_out_of_order (T : Txt K mg af fd) : FnOk P w K mg base CX0 1 (af 9) (fd 9) ["number", "time", "other_number", "other_time"] sp_is_out_of_order := by
  refine T.F_is_out_of_order.ok sc_is_out_of_order (fun vs H Q E h => ?_) (fun cdv A outer s H vs Q E hr h => ?_)
  · obtain ⟨a, t, b, u, rfl, _⟩ := h
    rfl
  · obtain ⟨a, t, b, u, rfl, q⟩ := h
    refine ⟨_, (pss_cons (ps_if (pt_cmpR op_lt (pv 0) (pv 2) (nomark _)) (pss_one (ps_ret (pe_cmpR op_gt (pv 1) (pv 3) (nomark _)))) pss_nil)
        (pss_one (ps_ret (pe_cmpR op_lt (pv 1) (pv 3) (nomark _))))), ?_⟩
    refine ⟨_, rfl, _, rfl, _, _, rfl, rfl, _, rfl, ite2 (fun e => ?_) (fun e => ?_)⟩
    · refine ⟨_, rfl, _, rfl, _, _, rfl, rfl, q _ ?_⟩
      have e1 := of_decide_eq_true e
      rw [decide_eq_true_eq]
      omega
    · refine ⟨_, rfl, _, rfl, _, _, rfl, rfl, q _ ?_⟩
      have e1 : ¬ a < b := fun h => e (decide_eq_true h)
      rw [decide_eq_true_eq]
      omega
def sp_do_asks_clash : Sp := fun vs H Q _ => ∃ (x y : Addr) (h g : Str) (k n o b : Int) (h' g' : Str) (k' n' o' b' : Int), vs = [.ref x, .ref y] ∧ RowAt H x (.ask h g k n o b) ∧ RowAt H y (.ask h' g' k' n' o' b') ∧ ∀ r : Bool, (r = true ↔ (k = k' ∨ (k < k' ∧ o' < o) ∨ (k' < k ∧ o < o'))) → Q (.bl r) H
theorem ok_do_asks_clash (T : Txt K mg af fd) : FnOk P w K mg base CX0 2 (af 10) (fd 10) ["one", "other"] sp_do_asks_clash := by
  refine T.F_do_asks_clash.ok sc_do_asks_clash (fun vs H Q E h => ?_) (fun cdv A outer s H vs Q E hr h => ?_)
  · obtain ⟨x, y, h, g, k, n, o, b, h', g', k', n', o', b', rfl, _⟩ := h
    rfl
  · obtain ⟨x, y, h, g, k, n, o, b, h', g', k', n', o', b', rfl, hx, hy, q⟩ := h
    refine ⟨_, (pss_cons (ps_par (i := 2) (j := 3) (by rfl) sc_do_asks_clash.nd rfl rfl (by decide) rfl rfl (pa_cons (pe_ix ix_tup (pv 0) pe_int (fun _ _ => rfl)) (pa_cons (pe_ix ix_tup (pv 0) pe_int (fun _ _ => rfl)) pa_nil)) (by rfl))
        (pss_cons (ps_par (i := 4) (j := 5) (by rfl) sc_do_asks_clash.nd rfl rfl (by decide) rfl rfl (pa_cons (pe_ix ix_tup (pv 1) pe_int (fun _ _ => rfl)) (pa_cons (pe_ix ix_tup (pv 1) pe_int (fun _ _ => rfl)) pa_nil)) (by rfl))
        (pss_one (ps_ret (pe_or (pe_cmpR op_eq (pv 2) (pv 4) (nomark _)) (pe_one (pe_call (ok_is_out_of_order T) (hr.mono (by first | decide | omega)) (by rfl) T.g_is_out_of_order T.F_is_out_of_order.kp T.b_is_out_of_order .nil pass0 (pa_cons (pv 2) (pa_cons (pv 3) (pa_cons (pv 4) (pa_cons (pv 5) pa_nil))))))))))), ?_⟩
    refine ⟨_, rfl, x, _, 2, _, rfl, rfl, hx.t, rfl, _, rfl, x, _, 5, _, rfl, rfl, hx.t, rfl, _, _, rfl, ?_⟩
    refine ⟨_, rfl, y, _, 2, _, rfl, rfl, hy.t, rfl, _, rfl, y, _, 5, _, rfl, rfl, hy.t, rfl, _, _, rfl, ?_⟩
    refine ⟨_, rfl, _, rfl, rfl, _, rfl, ite2 (fun e => ?_) (fun e => ?_)⟩
    · have e1 := V.int.inj (of_decide_eq_true e)
      exact q true ⟨fun _ => .inl e1, fun _ => rfl⟩
    · have e1 : ¬ k = k' := fun z => e (decide_eq_true (congrArg V.int z))
      refine ⟨_, rfl, _, rfl, _, rfl, _, rfl, k, o, k', o', rfl, fun r hr => q r ?_⟩
      rw [hr]
      omega
def sp_do_jobs_clash : Sp := fun vs H Q _ => ∃ (x y : Addr) (h : Str) (k o b : Int) (h' : Str) (k' o' b' : Int), vs = [.ref x, .ref y] ∧ RowAt H x (.job h k o b) ∧ RowAt H y (.job h' k' o' b') ∧ ∀ r : Bool, (r = true ↔ (k = k' ∨ (k < k' ∧ o' < o) ∨ (k' < k ∧ o < o'))) → Q (.bl r) H
theorem ok_do_jobs_clash (T : Txt K mg af fd) : FnOk P w K mg base CX0 2 (af 11) (fd 11) ["one", "other"] sp_do_jobs_clash := by
  refine T.F_do_jobs_clash.ok sc_do_jobs_clash (fun vs H Q E h => ?_) (fun cdv A outer s H vs Q E hr h => ?_)
  · obtain ⟨x, y, h, k, o, b, h', k', o', b', rfl, _⟩ := h
    rfl
  · obtain ⟨x, y, h, k, o, b, h', k', o', b', rfl, hx, hy, q⟩ := h
    refine ⟨_, (pss_cons (ps_par (i := 2) (j := 3) (by rfl) sc_do_jobs_clash.nd rfl rfl (by decide) rfl rfl (pa_cons (pe_ix ix_tup (pv 0) pe_int (fun _ _ => rfl)) (pa_cons (pe_ix ix_tup (pv 0) pe_int (fun _ _ => rfl)) pa_nil)) (by rfl))
        (pss_cons (ps_par (i := 4) (j := 5) (by rfl) sc_do_jobs_clash.nd rfl rfl (by decide) rfl rfl (pa_cons (pe_ix ix_tup (pv 1) pe_int (fun _ _ => rfl)) (pa_cons (pe_ix ix_tup (pv 1) pe_int (fun _ _ => rfl)) pa_nil)) (by rfl))
        (pss_one (ps_ret (pe_or (pe_cmpR op_eq (pv 2) (pv 4) (nomark _)) (pe_one (pe_call (ok_is_out_of_order T) (hr.mono (by first | decide | omega)) (by rfl) T.g_is_out_of_order T.F_is_out_of_order.kp T.b_is_out_of_order .nil pass0 (pa_cons (pv 2) (pa_cons (pv 3) (pa_cons (pv 4) (pa_cons (pv 5) pa_nil))))))))))), ?_⟩
    refine ⟨_, rfl, x, _, 2, _, rfl, rfl, hx.t, rfl, _, rfl, x, _, 3, _, rfl, rfl, hx.t, rfl, _, _, rfl, ?_⟩
    refine ⟨_, rfl, y, _, 2, _, rfl, rfl, hy.t, rfl, _, rfl, y, _, 3, _, rfl, rfl, hy.t, rfl, _, _, rfl, ?_⟩
    refine ⟨_, rfl, _, rfl, rfl, _, rfl, ite2 (fun e => ?_) (fun e => ?_)⟩
    · have e1 := V.int.inj (of_decide_eq_true e)
      exact q true ⟨fun _ => .inl e1, fun _ => rfl⟩
    · have e1 : ¬ k = k' := fun z => e (decide_eq_true (congrArg V.int z))
      refine ⟨_, rfl, _, rfl, _, rfl, _, rfl, k, o, k', o', rfl, fun r hr => q r ?_⟩
      rw [hr]
      omega
def sp_do_job_and_ask_clash : Sp := fun vs H Q _ => ∃ (x y : Addr) (h : Str) (k o b : Int) (h' g' : Str) (k' n' o' b' : Int), vs = [.ref x, .ref y] ∧ RowAt H x (.job h k o b) ∧ RowAt H y (.ask h' g' k' n' o' b') ∧ ∀ r : Bool, (r = true ↔ ((k ≤ n' ∧ o' ≤ o) ∨ (k = n' ∧ b ≤ b'))) → Q (.bl r) H
theorem ok_do_job_and_ask_clash (T : Txt K mg af fd) : FnOk P w K mg base CX0 1 (af 12) (fd 12) ["job", "ask"] sp_do_job_and_ask_clash := by
  refine T.F_do_job_and_ask_clash.ok sc_do_job_and_ask_clash (fun vs H Q E h => ?_) (fun cdv A outer s H vs Q E hr h => ?_)
  · obtain ⟨x, y, h, k, o, b, h', g', k', n', o', b', rfl, _⟩ := h
    rfl
  · obtain ⟨x, y, h, k, o, b, h', g', k', n', o', b', rfl, hx, hy, q⟩ := h
    refine ⟨_, (pss_cons (ps_par3 (i := 2) (j := 3) (l := 4) (by rfl) sc_do_job_and_ask_clash.nd rfl rfl rfl (by decide) (by decide) (by decide) rfl rfl rfl (pa_cons (pe_ix ix_tup (pv 0) pe_int (fun _ _ => rfl)) (pa_cons (pe_ix ix_tup (pv 0) pe_int (fun _ _ => rfl)) (pa_cons (pe_ix ix_tup (pv 0) pe_int (fun _ _ => rfl)) pa_nil))) (by rfl))
        (pss_cons (ps_par3 (i := 5) (j := 6) (l := 7) (by rfl) sc_do_job_and_ask_clash.nd rfl rfl rfl (by decide) (by decide) (by decide) rfl rfl rfl (pa_cons (pe_ix ix_tup (pv 1) pe_int (fun _ _ => rfl)) (pa_cons (pe_ix ix_tup (pv 1) pe_int (fun _ _ => rfl)) (pa_cons (pe_ix ix_tup (pv 1) pe_int (fun _ _ => rfl)) pa_nil))) (by rfl))
        (pss_cons (ps_if (PW.pt (pw_and (pt_cmpR op_le (pv 2) (pv 5) (nomark _)) (pw_and1 (pt_cmpR op_ge (pv 3) (pv 6) (nomark _))))) (pss_one (ps_ret pe_bl)) pss_nil)
        (pss_one (ps_ret (pe_and (pe_cmpR op_eq (pv 2) (pv 5) (nomark _)) (pe_one (pe_cmpR op_le (pv 4) (pv 7) (nomark _))))))))), ?_⟩
    refine ⟨_, rfl, x, _, 2, _, rfl, rfl, hx.t, rfl, _, rfl, x, _, 3, _, rfl, rfl, hx.t, rfl, _, rfl, x, _, 4, _, rfl, rfl, hx.t, rfl, _, _, _, rfl, ?_⟩
    refine ⟨_, rfl, y, _, 3, _, rfl, rfl, hy.t, rfl, _, rfl, y, _, 5, _, rfl, rfl, hy.t, rfl, _, rfl, y, _, 6, _, rfl, rfl, hy.t, rfl, _, _, _, rfl, ?_⟩
    refine ⟨_, rfl, _, rfl, _, _, rfl, rfl, _, rfl, ite2 (fun e => ?_) (fun e => ?_)⟩
    · have e1 := of_decide_eq_true e
      refine ⟨_, rfl, _, rfl, _, _, rfl, rfl, _, rfl, ite2 (fun e2 => ?_) (fun e2 => ?_)⟩
      · have e3 := of_decide_eq_true e2
        exact q true ⟨fun _ => .inl ⟨e1, e3⟩, fun _ => rfl⟩
      · have e3 : ¬ o' ≤ o := fun z => e2 (decide_eq_true z)
        refine ⟨_, rfl, _, rfl, rfl, _, rfl, ite2 (fun e4 => ?_) (fun e4 => ?_)⟩
        · have e5 := V.int.inj (of_decide_eq_true e4)
          refine ⟨_, rfl, _, rfl, _, _, rfl, rfl, q _ ?_⟩
          rw [decide_eq_true_eq]
          omega
        · have e5 : ¬ k = n' := fun z => e4 (decide_eq_true (congrArg V.int z))
          exact q false (ff (by omega))
    · have e1 : ¬ k ≤ n' := fun z => e (decide_eq_true z)
      refine iteF ?_
      refine ⟨_, rfl, _, rfl, rfl, _, rfl, ite2 (fun e4 => ?_) (fun e4 => ?_)⟩
      · have e5 := V.int.inj (of_decide_eq_true e4)
        omega
      · have e5 : ¬ k = n' := fun z => e4 (decide_eq_true (congrArg V.int z))
        exact q false (ff (by omega))
/-! an all row against an ask or a job -/
def AllP (a j : Int) : Row → Prop
  | .ask _ _ k n _ _ => a ≤ k ∨ j ≤ n
  | .job _ k _ _ => j ≤ k
  | .all _ _ _ => False
def sp_does_all_row_clash : Sp := fun vs H Q _ => ∃ (x y : Addr) (h : Str) (a j : Int) (r : Row), vs = [.ref x, .ref y] ∧ RowAt H x (.all h a j) ∧ RowAt H y r ∧ r.word ≠ "all" ∧ ∀ b : Bool, (b = true ↔ AllP a j r) → Q (.bl b) H
theorem ok_does_all_row_clash (T : Txt K mg af fd) : FnOk P w K mg base CX0 1 (af 13) (fd 13) ["all_row", "other"] sp_does_all_row_clash := by
  refine T.F_does_all_row_clash.ok sc_does_all_row_clash (fun vs H Q E h => ?_) (fun cdv A outer s H vs Q E hr h => ?_)
  · obtain ⟨x, y, h, a, j, r, rfl, _⟩ := h
    rfl
  · obtain ⟨x, y, h, a, j, r, rfl, hx, hy, hw, q⟩ := h
    refine ⟨_, (pss_cons (ps_par (i := 2) (j := 3) (by rfl) sc_does_all_row_clash.nd rfl rfl (by decide) rfl rfl (pa_cons (pe_ix ix_tup (pv 0) pe_int (fun _ _ => rfl)) (pa_cons (pe_ix ix_tup (pv 0) pe_int (fun _ _ => rfl)) pa_nil)) (by rfl))
        (pss_cons (ps_if (pt_cmpR op_eq (pe_ix ix_tup (pv 1) pe_int (fun _ _ => rfl)) pe_str (nomark _)) (pss_one (ps_ret (pe_or (pe_cmpR op_ge (pe_ix ix_tup (pv 1) pe_int (fun _ _ => rfl)) (pv 2) (nomark _)) (pe_one (pe_cmpR op_ge (pe_ix ix_tup (pv 1) pe_int (fun _ _ => rfl)) (pv 3) (nomark _)))))) pss_nil)
        (pss_one (ps_ret (pe_cmpR op_ge (pe_ix ix_tup (pv 1) pe_int (fun _ _ => rfl)) (pv 3) (nomark _)))))), ?_⟩
    refine ⟨_, rfl, x, _, 2, _, rfl, rfl, hx.t, rfl, _, rfl, x, _, 3, _, rfl, rfl, hx.t, rfl, _, _, rfl, ?_⟩
    refine ⟨_, rfl, y, _, 0, _, rfl, rfl, hy.t, at0 r, rfl, _, rfl, ?_⟩
    cases r with
    | ask h' g k n o b =>
      refine ite2 (fun e => ?_) (fun e => absurd (dstrT "ask") e)
      refine ⟨_, rfl, y, _, 2, _, rfl, rfl, hy.t, rfl, _, rfl, _, _, rfl, rfl, _, rfl, ite2 (fun e1 => ?_) (fun e1 => ?_)⟩
      · have e2 := of_decide_eq_true e1
        exact q true (tt (.inl e2))
      · have e2 : ¬ a ≤ k := fun z => e1 (decide_eq_true z)
        refine ⟨_, rfl, y, _, 3, _, rfl, rfl, hy.t, rfl, _, rfl, _, _, rfl, rfl, q _ ?_⟩
        rw [decide_eq_true_eq]
        exact ⟨fun z => .inr z, fun z => z.resolve_left e2⟩
    | job h' k o b =>
      refine ite2 (fun e => ?_) (fun e => ?_)
      · exact absurd (e.symm.trans (dstr (fun z => w_aj z.symm))) (by decide)
      · refine ⟨_, rfl, y, _, 2, _, rfl, rfl, hy.t, rfl, _, rfl, _, _, rfl, rfl, q _ ?_⟩
        rw [decide_eq_true_eq]
        exact Iff.rfl
    | all h' a' j' => exact absurd rfl hw
def sp_clash (P2 : Row → Row → Prop) (ok : Row → Row → Prop) : Sp := fun vs H Q _ => ∃ (x y : Addr) (r t : Row), vs = [.ref x, .ref y] ∧ RowAt H x r ∧ RowAt H y t ∧ r.Wf ∧ t.Wf ∧ ok r t ∧ ∀ b : Bool, (b = true ↔ P2 r t) → Q (.bl b) H
def AlikeOk (r t : Row) : Prop := r.word = t.word ∧ r.h = t.h ∧ r ≠ t
theorem ok_do_alike_sorts_clash (T : Txt K mg af fd) : FnOk P w K mg base CX0 3 (af 14) (fd 14) ["one", "other"] (sp_clash ClashP AlikeOk) := by
  refine T.F_do_alike_sorts_clash.ok sc_do_alike_sorts_clash (fun vs H Q E h => ?_) (fun cdv A outer s H vs Q E hr h => ?_)
  · obtain ⟨x, y, r, t, rfl, _⟩ := h
    rfl
  · obtain ⟨x, y, r, t, rfl, hx, hy, _, _, ⟨hw, hh, hne⟩, q⟩ := h
    refine ⟨_, (pss_cons (ps_if (pt_cmpR op_eq (pe_ix ix_tup (pv 0) pe_int (fun _ _ => rfl)) pe_str (nomark _)) (pss_one (ps_ret (pe_call (ok_do_asks_clash T) (hr.mono (by first | decide | omega)) (by rfl) T.g_do_asks_clash T.F_do_asks_clash.kp T.b_do_asks_clash .nil pass0 (pa_cons (pv 0) (pa_cons (pv 1) pa_nil))))) pss_nil)
        (pss_cons (ps_if (pt_cmpR op_eq (pe_ix ix_tup (pv 0) pe_int (fun _ _ => rfl)) pe_str (nomark _)) (pss_one (ps_ret (pe_call (ok_do_jobs_clash T) (hr.mono (by first | decide | omega)) (by rfl) T.g_do_jobs_clash T.F_do_jobs_clash.kp T.b_do_jobs_clash .nil pass0 (pa_cons (pv 0) (pa_cons (pv 1) pa_nil))))) pss_nil)
        (pss_one (ps_ret pe_bl)))), ?_⟩
    refine ⟨_, rfl, x, _, 0, _, rfl, rfl, hx.t, at0 r, rfl, _, rfl, ?_⟩
    cases r with
    | ask h g k n o b =>
      refine ite2 (fun e => ?_) (fun e => absurd (dstrT "ask") e)
      cases t with
      | ask h' g' k' n' o' b' =>
        refine ⟨_, rfl, _, rfl, x, y, h, g, k, n, o, b, h', g', k', n', o', b', rfl, hx, hy, fun r hr => q r ?_⟩
        rw [hr]
        exact ⟨fun z => ⟨hh, hne, z⟩, fun z => z.2.2⟩
      | job h' k' o' b' => exact absurd hw w_aj
      | all h' a' j' => exact absurd hw w_aa
    | job h k o b =>
      refine ite2 (fun e => absurd (e.symm.trans (dstr (fun z => w_aj z.symm))) (by decide)) (fun e => ?_)
      refine ⟨_, rfl, x, _, 0, _, rfl, rfl, hx.t, at0 _, rfl, _, rfl, ite2 (fun e => ?_) (fun e => absurd (dstrT "job") e)⟩
      cases t with
      | ask h' g' k' n' o' b' => exact absurd hw.symm w_aj
      | job h' k' o' b' =>
        refine ⟨_, rfl, _, rfl, x, y, h, k, o, b, h', k', o', b', rfl, hx, hy, fun r hr => q r ?_⟩
        rw [hr]
        exact ⟨fun z => ⟨hh, hne, z⟩, fun z => z.2.2⟩
      | all h' a' j' => exact absurd hw w_ja
    | all h a j =>
      refine ite2 (fun e => absurd (e.symm.trans (dstr (fun z => w_aa z.symm))) (by decide)) (fun e => ?_)
      refine ⟨_, rfl, x, _, 0, _, rfl, rfl, hx.t, at0 _, rfl, _, rfl, ite2 (fun e => absurd (e.symm.trans (dstr (fun z => w_ja z.symm))) (by decide)) (fun e => ?_)⟩
      cases t with
      | ask h' g' k' n' o' b' => exact absurd hw.symm w_aa
      | job h' k' o' b' => exact absurd hw.symm w_ja
      | all h' a' j' => exact q true (tt ⟨hh, hne⟩)
theorem ok_do_clash (T : Txt K mg af fd) : FnOk P w K mg base CX0 4 (af 15) (fd 15) ["one", "other"] (sp_clash ClashP (fun _ _ => True)) := by
  refine T.F_do_clash.ok sc_do_clash (fun vs H Q E h => ?_) (fun cdv A outer s H vs Q E hr h => ?_)
  · obtain ⟨x, y, r, t, rfl, _⟩ := h
    rfl
  · obtain ⟨x, y, r, t, rfl, hx, hy, wr, wt, _, q⟩ := h
    refine ⟨_, (pss_cons (ps_if (PW.pt (pw_or (pt_cmpR op_ne (pe_ix ix_tup (pv 0) pe_int (fun _ _ => rfl)) (pe_ix ix_tup (pv 1) pe_int (fun _ _ => rfl)) (nomark _)) (pw_or1 (pt_cmpR (op_eqD hr.units) (pv 0) (pv 1) (nomark _))))) (pss_one (ps_ret pe_bl)) pss_nil)
        (pss_cons (ps_if (pt_cmpR op_eq (pe_ix ix_tup (pv 0) pe_int (fun _ _ => rfl)) (pe_ix ix_tup (pv 1) pe_int (fun _ _ => rfl)) (nomark _)) (pss_one (ps_ret (pe_call (ok_do_alike_sorts_clash T) (hr.mono (by first | decide | omega)) (by rfl) T.g_do_alike_sorts_clash T.F_do_alike_sorts_clash.kp T.b_do_alike_sorts_clash .nil pass0 (pa_cons (pv 0) (pa_cons (pv 1) pa_nil))))) pss_nil)
        (pss_cons (ps_if (pt_cmpR op_eq (pe_ix ix_tup (pv 0) pe_int (fun _ _ => rfl)) pe_str (nomark _)) (pss_one (ps_ret (pe_call (ok_does_all_row_clash T) (hr.mono (by first | decide | omega)) (by rfl) T.g_does_all_row_clash T.F_does_all_row_clash.kp T.b_does_all_row_clash .nil pass0 (pa_cons (pv 0) (pa_cons (pv 1) pa_nil))))) pss_nil)
        (pss_cons (ps_if (pt_cmpR op_eq (pe_ix ix_tup (pv 1) pe_int (fun _ _ => rfl)) pe_str (nomark _)) (pss_one (ps_ret (pe_call (ok_does_all_row_clash T) (hr.mono (by first | decide | omega)) (by rfl) T.g_does_all_row_clash T.F_does_all_row_clash.kp T.b_does_all_row_clash .nil pass0 (pa_cons (pv 1) (pa_cons (pv 0) pa_nil))))) pss_nil)
        (pss_cons (ps_if (pt_cmpR op_eq (pe_ix ix_tup (pv 0) pe_int (fun _ _ => rfl)) pe_str (nomark _)) (pss_one (ps_ret (pe_call (ok_do_job_and_ask_clash T) (hr.mono (by first | decide | omega)) (by rfl) T.g_do_job_and_ask_clash T.F_do_job_and_ask_clash.kp T.b_do_job_and_ask_clash .nil pass0 (pa_cons (pv 0) (pa_cons (pv 1) pa_nil))))) pss_nil)
        (pss_one (ps_ret (pe_call (ok_do_job_and_ask_clash T) (hr.mono (by first | decide | omega)) (by rfl) T.g_do_job_and_ask_clash T.F_do_job_and_ask_clash.kp T.b_do_job_and_ask_clash .nil pass0 (pa_cons (pv 1) (pa_cons (pv 0) pa_nil)))))))))), ?_⟩
    refine ⟨_, rfl, x, _, 1, _, rfl, rfl, hx.t, at1 r, _, rfl, y, _, 1, _, rfl, rfl, hy.t, at1 t, rfl, _, rfl, ite2 (fun e => iteT ?_) (fun e => ?_)⟩
    · have hh : r.h ≠ t.h := fun z => by
        rw [z, dstrT] at e
        cases e
      refine q false (ff fun z => hh ?_)
      cases r <;> cases t <;> first | exact z.1 | exact z.1.symm
    have hh : r.h = t.h := by
      refine Decidable.byContradiction fun z => e ?_
      rw [dstr z]
      rfl
    refine ⟨_, rfl, _, rfl, _, _, hx.dp, hy.dp, wr.sh, wt.sh, _, rfl, ?_⟩
    rw [row_eqv]
    refine ite2 (fun e2 => ?_) (fun e2 => ?_)
    · have e3 := of_decide_eq_true e2
      subst e3
      refine q false (ff fun z => ?_)
      cases r <;> first | exact z.2.1 rfl | exact z.2 rfl
    have hne : r ≠ t := fun z => e2 (decide_eq_true z)
    -- if one[0] == other[0]
    refine ⟨_, rfl, x, _, 0, _, rfl, rfl, hx.t, at0 r, _, rfl, y, _, 0, _, rfl, rfl, hy.t, at0 t, rfl, _, rfl, ite2 (fun e3 => ?_) (fun e3 => ?_)⟩
    · have e4 := V.str.inj (of_decide_eq_true e3)
      exact ⟨_, rfl, _, rfl, x, y, r, t, rfl, hx, hy, wr, wt, ⟨e4, hh, hne⟩, q⟩
    have hw : r.word ≠ t.word := fun z => e3 (decide_eq_true (congrArg V.str z))
    -- if one[0] == "all"
    refine ⟨_, rfl, x, _, 0, _, rfl, rfl, hx.t, at0 r, rfl, _, rfl, ite2 (fun e5 => ?_) (fun e5 => ?_)⟩
    · have e6 := V.str.inj (of_decide_eq_true e5)
      cases r with
      | ask h g k n o b => exact absurd e6 w_aa
      | job h k o b => exact absurd e6 w_ja
      | all h a j =>
        refine ⟨_, rfl, _, rfl, x, y, h, a, j, t, rfl, hx, hy, fun z => hw z.symm, fun b hb => q b ?_⟩
        rw [hb]
        cases t with
        | ask h' g' k' n' o' b' => exact ⟨fun z => ⟨hh, z⟩, fun z => z.2⟩
        | job h' k' o' b' => exact ⟨fun z => ⟨hh, z⟩, fun z => z.2⟩
        | all h' a' j' => exact absurd rfl hw
    refine ⟨_, rfl, y, _, 0, _, rfl, rfl, hy.t, at0 t, rfl, _, rfl, ite2 (fun e7 => ?_) (fun e7 => ?_)⟩
    · have e6 := V.str.inj (of_decide_eq_true e7)
      cases t with
      | ask h g k n o b => exact absurd e6 w_aa
      | job h k o b => exact absurd e6 w_ja
      | all h a j =>
        refine ⟨_, rfl, _, rfl, y, x, h, a, j, r, rfl, hy, hx, fun z => hw z, fun b hb => q b ?_⟩
        rw [hb]
        cases r with
        | ask h' g' k' n' o' b' => exact ⟨fun z => ⟨hh.symm, z⟩, fun z => z.2⟩
        | job h' k' o' b' => exact ⟨fun z => ⟨hh.symm, z⟩, fun z => z.2⟩
        | all h' a' j' => exact absurd rfl hw
    refine ⟨_, rfl, x, _, 0, _, rfl, rfl, hx.t, at0 r, rfl, _, rfl, ite2 (fun e8 => ?_) (fun e8 => ?_)⟩
    · have e6 := V.str.inj (of_decide_eq_true e8)
      cases r with
      | ask h g k n o b => exact absurd e6 w_aj
      | all h a j => exact absurd e6.symm w_ja
      | job h k o b =>
        cases t with
        | job h' k' o' b' => exact absurd rfl hw
        | all h' a' j' => exact absurd (dstrT "all") e7
        | ask h' g' k' n' o' b' =>
          refine ⟨_, rfl, _, rfl, x, y, h, k, o, b, h', g', k', n', o', b', rfl, hx, hy, fun r hr => q r ?_⟩
          rw [hr]
          exact ⟨fun z => ⟨hh, z⟩, fun z => z.2⟩
    · cases r with
      | job h k o b => exact absurd (dstrT "job") e8
      | all h a j => exact absurd (dstrT "all") e5
      | ask h' g' k' n' o' b' =>
        cases t with
        | ask h2 g2 k2 n2 o2 b2 => exact absurd rfl hw
        | all h2 a2 j2 => exact absurd (dstrT "all") e7
        | job h k o b =>
          refine ⟨_, rfl, _, rfl, y, x, h, k, o, b, h', g', k', n', o', b', rfl, hy, hx, fun r hr => q r ?_⟩
          rw [hr]
          exact ⟨fun z => ⟨hh.symm, z⟩, fun z => z.2⟩
theorem clash_comm (r t : Row) : ClashP r t ↔ ClashP t r := by
  cases r <;> cases t <;> simp only [ClashP] <;> constructor <;> intro z
  all_goals first
    | exact z
    | exact ⟨z.1.symm, fun e => z.2.1 e.symm, by omega⟩
    | exact ⟨z.1.symm, fun e => z.2 e.symm⟩
/-! ### the program's look at rows -/
theorem shaped_tup_strs {hs : List Str} (a : ∀ h ∈ hs, PyData.strOk h = true) : SeqAt.shaped (.tuple (hs.map PyData.str)) = true := by
  unfold SeqAt.shaped
  rw [Bool.and_eq_true, decide_eq_true_eq]
  refine ⟨canLay_strs a, ?_⟩
  show PyData.depthAll (hs.map PyData.str) + 1 ≤ 64
  rw [depth_strs]
  decide
theorem hu65 {A : Around} {k : Nat} (hr : Room k A) : A.units + 65 < cLine := by have := hr.un; omega
theorem sh_word {w : Str} (h : PyData.strOk w = true) : SeqAt.shaped (.str w) = true := by
  unfold SeqAt.shaped
  rw [Bool.and_eq_true]
  exact ⟨h, rfl⟩
theorem dp_tup_strs {H : Hp} {th : Addr} {hs : List Str} (h : H th = some (.tup (hs.map V.str))) : Dp K H (.ref th) (.tuple (hs.map PyData.str)) := .tup (SqT.of h) (dp_strs hs)
theorem len_ne {n m : Nat} (h : ¬ (!decide (V.int (n : Int) = V.int (m : Int))) = true) : n = m := by
  have h2 : decide (V.int (n : Int) = V.int (m : Int)) = true := by
    cases e : decide (V.int (n : Int) = V.int (m : Int)) with
    | true => rfl
    | false => exact absurd (by rw [e]; rfl) h
  have h3 := V.int.inj (of_decide_eq_true h2)
  omega
theorem len_ne' {n m : Nat} (h : (!decide (V.int (n : Int) = V.int (m : Int))) = true) : n ≠ m := fun e => by
  rw [e, decide_eq_true rfl] at h
  cases h
theorem some_int {d : PyData} (h1 : isB d "bool" = false) (h2 : isB d "int" = true) : ∃ i, d = .int i := by
  cases d with
  | int i => exact ⟨i, rfl⟩
  | bool b => exact absurd h1 (by simp [isB])
  | _ => exact absurd h2 (by simp [isB])
def InI (lo hi : Int) (d : PyData) : Prop := ∃ i, d = .int i ∧ lo ≤ i ∧ i ≤ hi
def sp_is_whole_from : Sp := fun vs H Q _ => ∃ (Ex : Addr → Prop) (v : V) (d : PyData) (lo hi : Int), vs = [v, .int lo, .int hi] ∧ Dq Ex H v d ∧ ∀ r : Bool, (r = true ↔ InI lo hi d) → Q (.bl r) H
theorem ok_is_whole_from (T : Txt K mg af fd) : FnOk P w K mg base CX0 1 (af 0) (fd 0) ["thing", "low", "high"] sp_is_whole_from := by
  refine T.F_is_whole_from.ok sc_is_whole_from (fun vs H Q E h => ?_) (fun cdv A outer s H vs Q E hr h => ?_)
  · obtain ⟨Ex, v, d, lo, hi, rfl, _⟩ := h
    rfl
  · obtain ⟨Ex, v, d, lo, hi, rfl, hd, q⟩ := h
    refine ⟨_, (pss_cons (ps_if (PW.pt (pw_or (pt_val (pe_callB call_isi (by rfl) T.m_isinstance (by decide +kernel) (pa_cons (pv 0) (pa_cons (pe_bltn (v := .ty "bool") (by rfl) T.m_bool (by decide +kernel) rfl) pa_nil)))) (pw_or1 (pt_not (pt_val (pe_callB call_isi (by rfl) T.m_isinstance (by decide +kernel) (pa_cons (pv 0) (pa_cons (pe_bltn (v := .ty "int") (by rfl) T.m_int (by decide +kernel) rfl) pa_nil)))))))) (pss_one (ps_ret pe_bl)) pss_nil)
        (pss_one (ps_ret (pe_chain op_le op_le (pv 1) (pv 0) (pv 2))))), ?_⟩
    refine ⟨_, rfl, _, _, _, _, _, rfl, .ty "bool", hd.ty, isi_kit hd n_bool, _, rfl, ?_⟩
    cases e1 : isB d "bool" with
    | true =>
      refine iteT (iteT ?_)
      refine q false (ff fun ⟨i, e, _⟩ => ?_)
      subst e
      exact absurd e1 (by simp [isB])
    | false =>
      refine iteF ⟨_, rfl, _, _, _, _, _, rfl, .ty "int", hd.ty, isi_kit hd n_int, _, rfl, ?_⟩
      cases e2 : isB d "int" with
      | false =>
        refine iteT ?_
        refine q false (ff fun ⟨i, e, _⟩ => ?_)
        subst e
        exact absurd e2 (by simp [isB])
      | true =>
        refine iteF ?_
        obtain ⟨i, rfl⟩ := some_int e1 e2
        cases hd
        refine ⟨_, rfl, _, rfl, _, _, rfl, rfl, _, rfl, ite2 (fun z => ?_) (fun z => ?_)⟩
        · have z1 := of_decide_eq_true z
          refine ⟨_, rfl, _, _, rfl, rfl, q _ ?_⟩
          rw [decide_eq_true_eq]
          exact ⟨fun h => ⟨i, rfl, z1, h⟩, fun ⟨j, e, _, h⟩ => by obtain rfl := PyData.int.inj e; exact h⟩
        · exact q false (ff fun ⟨j, e, h, _⟩ => z (decide_eq_true (by obtain rfl := PyData.int.inj e; exact h)))
def sp_in (lo hi : Int) : Sp := fun vs H Q _ => ∃ (Ex : Addr → Prop) (v : V) (d : PyData), vs = [v] ∧ Dq Ex H v d ∧ ∀ r : Bool, (r = true ↔ InI lo hi d) → Q (.bl r) H
theorem ok_is_time (T : Txt K mg af fd) : FnOk P w K mg base CX0 2 (af 1) (fd 1) ["thing"] (sp_in (-1000000000000) 1000000000000) := by
  refine T.F_is_time.ok sc_is_time (fun vs H Q E h => ?_) (fun cdv A outer s H vs Q E hr h => ?_)
  · obtain ⟨Ex, v, d, rfl, _⟩ := h
    rfl
  · obtain ⟨Ex, v, d, rfl, hd, q⟩ := h
    refine ⟨_, (pss_one (ps_ret (pe_call (ok_is_whole_from T) (hr.mono (by first | decide | omega)) (by rfl) T.g_is_whole_from T.F_is_whole_from.kp T.b_is_whole_from .nil pass0 (pa_cons (pv 0) (pa_cons (pe_un un_neg (pe_glob (v := .int (1000000000000)) rfl T.c_MOST_TIME.choose_spec ⟨_, rfl⟩)) (pa_cons (pe_glob (v := .int (1000000000000)) rfl T.c_MOST_TIME.choose_spec ⟨_, rfl⟩) pa_nil)))))), ?_⟩
    exact ⟨_, rfl, _, rfl, Ex, v, d, _, _, rfl, hd, q⟩
theorem ok_is_number (T : Txt K mg af fd) : FnOk P w K mg base CX0 2 (af 2) (fd 2) ["thing"] (sp_in 0 14) := by
  refine T.F_is_number.ok sc_is_number (fun vs H Q E h => ?_) (fun cdv A outer s H vs Q E hr h => ?_)
  · obtain ⟨Ex, v, d, rfl, _⟩ := h
    rfl
  · obtain ⟨Ex, v, d, rfl, hd, q⟩ := h
    refine ⟨_, (pss_one (ps_ret (pe_call (ok_is_whole_from T) (hr.mono (by first | decide | omega)) (by rfl) T.g_is_whole_from T.F_is_whole_from.kp T.b_is_whole_from .nil pass0 (pa_cons (pv 0) (pa_cons pe_int (pa_cons (pe_glob (v := .int (14)) rfl T.c_MOST_NUMBER.choose_spec ⟨_, rfl⟩) pa_nil)))))), ?_⟩
    exact ⟨_, rfl, Ex, v, d, _, _, rfl, hd, q⟩
theorem ok_is_count (T : Txt K mg af fd) : FnOk P w K mg base CX0 2 (af 3) (fd 3) ["thing"] (sp_in 0 15) := by
  refine T.F_is_count.ok sc_is_count (fun vs H Q E h => ?_) (fun cdv A outer s H vs Q E hr h => ?_)
  · obtain ⟨Ex, v, d, rfl, _⟩ := h
    rfl
  · obtain ⟨Ex, v, d, rfl, hd, q⟩ := h
    refine ⟨_, (pss_one (ps_ret (pe_call (ok_is_whole_from T) (hr.mono (by first | decide | omega)) (by rfl) T.g_is_whole_from T.F_is_whole_from.kp T.b_is_whole_from .nil pass0 (pa_cons (pv 0) (pa_cons pe_int (pa_cons (pe_glob (v := .int (15)) rfl T.c_MOST_COUNT.choose_spec ⟨_, rfl⟩) pa_nil)))))), ?_⟩
    exact ⟨_, rfl, Ex, v, d, _, _, rfl, hd, q⟩
def SpanD (d e : PyData) : Prop := ∃ i j, d = .int i ∧ e = .int j ∧ TimeI i ∧ TimeI j ∧ i ≤ j
def sp_is_span : Sp := fun vs H Q _ => ∃ (Ex : Addr → Prop) (v u : V) (d e : PyData), vs = [v, u] ∧ Dq Ex H v d ∧ Dq Ex H u e ∧ ∀ r : Bool, (r = true ↔ SpanD d e) → Q (.bl r) H
theorem ok_is_span (T : Txt K mg af fd) : FnOk P w K mg base CX0 3 (af 4) (fd 4) ["low", "high"] sp_is_span := by
  refine T.F_is_span.ok sc_is_span (fun vs H Q E h => ?_) (fun cdv A outer s H vs Q E hr h => ?_)
  · obtain ⟨Ex, v, u, d, e, rfl, _⟩ := h
    rfl
  · obtain ⟨Ex, v, u, d, e, rfl, hd, he, q⟩ := h
    refine ⟨_, (pss_one (ps_ret (pe_and (pe_call (ok_is_time T) (hr.mono (by first | decide | omega)) (by rfl) T.g_is_time T.F_is_time.kp T.b_is_time .nil pass0 (pa_cons (pv 0) pa_nil)) (pe_and (pe_call (ok_is_time T) (hr.mono (by first | decide | omega)) (by rfl) T.g_is_time T.F_is_time.kp T.b_is_time .nil pass0 (pa_cons (pv 1) pa_nil)) (pe_one (pe_cmpR op_le (pv 0) (pv 1) (nomark _))))))), ?_⟩
    refine ⟨_, rfl, Ex, v, d, rfl, hd, fun r hr1 => ⟨r, rfl, ite2 (fun z => ?_) (fun z => ?_)⟩⟩
    · obtain ⟨i, rfl, i0, i1⟩ := hr1.mp z
      refine ⟨_, rfl, Ex, u, e, rfl, he, fun r2 hr2 => ⟨r2, rfl, ite2 (fun z2 => ?_) (fun z2 => ?_)⟩⟩
      · obtain ⟨j, rfl, j0, j1⟩ := hr2.mp z2
        cases hd
        cases he
        refine ⟨_, rfl, _, rfl, _, _, rfl, rfl, q _ ?_⟩
        rw [decide_eq_true_eq]
        exact ⟨fun h => ⟨i, j, rfl, rfl, ⟨i0, i1⟩, ⟨j0, j1⟩, h⟩, fun ⟨a, b, e1, e2, _, _, h⟩ => by obtain rfl := PyData.int.inj e1; obtain rfl := PyData.int.inj e2; exact h⟩
      · exact q false (ff fun ⟨a, b, e1, e2, _, h, _⟩ => z2 (hr2.mpr ⟨b, e2, h.1, h.2⟩))
    · exact q false (ff fun ⟨a, b, e1, e2, h, _, _⟩ => z (hr1.mpr ⟨a, e1, h.1, h.2⟩))
/-! rows by their data -/
def Row.Bd : Row → Prop
  | .ask _ _ k n o b => NumI k ∧ NumI n ∧ TimeI o ∧ TimeI b ∧ o ≤ b
  | .job _ k o b => NumI k ∧ TimeI o ∧ TimeI b ∧ o ≤ b
  | .all _ a j => CntI a ∧ CntI j
def IsRowD (hs : List Str) (d : PyData) : Prop := ∃ r : Row, d = .tuple r.data ∧ r.In hs ∧ r.Bd
def sp_kind (w : Str) : Sp := fun vs H Q _ => ∃ (Ex : Addr → Prop) (th a : Addr) (hs : List Str) (xs : List V) (ds : List PyData), vs = [.ref th, .ref a] ∧ H th = some (.tup (hs.map V.str)) ∧ (∀ h ∈ hs, PyData.strOk h = true) ∧ H a = some (.tup xs) ∧ Dqs Ex H xs ds ∧ (∀ d ∈ ds, Sh d) ∧
  ∀ r : Bool, (r = true ↔ ∃ x : Row, x.word = w ∧ ds = x.data ∧ x.In hs ∧ x.Bd) → Q (.bl r) H
theorem ok_is_ask_row (T : Txt K mg af fd) : FnOk P w K mg base CX0 4 (af 5) (fd 5) ["houses", "thing"] (sp_kind "ask") := by
  refine T.F_is_ask_row.ok sc_is_ask_row (fun vs H Q E h => ?_) (fun cdv A outer s H vs Q E hr h => ?_)
  · obtain ⟨Ex, th, a, hs, xs, ds, rfl, _⟩ := h
    rfl
  · obtain ⟨Ex, th, a, hs, xs, ds, rfl, hth, hok, ha, hds, hsh, q⟩ := h
    refine ⟨_, (pss_cons (ps_if (pt_cmpR op_ne (pe_callB call_len_seq (by rfl) T.m_len (by decide +kernel) (pa_cons (pv 1) pa_nil)) pe_int (nomark _)) (pss_one (ps_ret pe_bl)) pss_nil)
        (pss_cons (ps_asg (pv 1) (pg_tup rfl (pgs_cons (pg_name (i := 2) sc_is_ask_row.nd rfl (by first | exact Or.inl rfl | exact Or.inr rfl)) (pgs_cons (pg_name (i := 3) sc_is_ask_row.nd rfl (by first | exact Or.inl rfl | exact Or.inr rfl)) (pgs_cons (pg_name (i := 4) sc_is_ask_row.nd rfl (by first | exact Or.inl rfl | exact Or.inr rfl)) (pgs_cons (pg_name (i := 5) sc_is_ask_row.nd rfl (by first | exact Or.inl rfl | exact Or.inr rfl)) (pgs_cons (pg_name (i := 6) sc_is_ask_row.nd rfl (by first | exact Or.inl rfl | exact Or.inr rfl)) (pgs_cons (pg_name (i := 7) sc_is_ask_row.nd rfl (by first | exact Or.inl rfl | exact Or.inr rfl)) (pgs_cons (pg_name (i := 8) sc_is_ask_row.nd rfl (by first | exact Or.inl rfl | exact Or.inr rfl)) pgs_nil)))))))))
        (pss_cons (ps_if (PW.pt (pw_or (pt_cmpR (op_neD hr.units) (pv 2) pe_str (nomark _)) (pw_or (pt_cmpR (op_notInTD (hu65 hr)) (pv 3) (pv 0) (by rfl)) (pw_or1 (pt_cmpR (op_notInTD (hu65 hr)) (pv 6) (pv 0) (by rfl)))))) (pss_one (ps_ret pe_bl)) pss_nil)
        (pss_one (ps_ret (pe_and (pe_call (ok_is_number T) (hr.mono (by first | decide | omega)) (by rfl) T.g_is_number T.F_is_number.kp T.b_is_number .nil pass0 (pa_cons (pv 4) pa_nil)) (pe_and (pe_call (ok_is_number T) (hr.mono (by first | decide | omega)) (by rfl) T.g_is_number T.F_is_number.kp T.b_is_number .nil pass0 (pa_cons (pv 5) pa_nil)) (pe_one (pe_call (ok_is_span T) (hr.mono (by first | decide | omega)) (by rfl) T.g_is_span T.F_is_span.kp T.b_is_span .nil pass0 (pa_cons (pv 7) (pa_cons (pv 8) pa_nil))))))))))), ?_⟩
    refine ⟨_, rfl, a, _, rfl, .inr (SqT.of ha), rfl, _, rfl, ite2 (fun z => ?_) (fun z => ?_)⟩
    · refine q false (ff fun ⟨x, e, e2, _⟩ => len_ne' (m := 7) z ?_)
      rw [hds.len, e2]
      cases x with
      | ask => rfl
      | job => exact absurd e.symm w_aj
      | all => exact absurd e.symm w_aa
    have hl := len_ne (m := 7) z
    have hl2 := hds.len.symm.trans hl
    match xs, ds, hds, hl with
    | [v0, v1, v2, v3, v4, v5, v6], [d0, d1, d2, d3, d4, d5, d6], .cons q0 (.cons q1 (.cons q2 (.cons q3 (.cons q4 (.cons q5 (.cons q6 .nil)))))), _ =>
      refine ⟨_, rfl, a, _, rfl, SqT.of ha, rfl, _, _, rfl, _, _, rfl, _, _, rfl, _, _, rfl, _, _, rfl, _, _, rfl, _, _, rfl, rfl, ?_⟩
      refine ⟨_, rfl, d0, .str "ask", q0.dp, .str _, (hsh d0 (by simp)).shaped, sh_word (by decide +kernel), _, rfl, ite2 (fun z0 => iteT ?_) (fun z0 => ?_)⟩
      · refine q false (ff fun ⟨x, e, e2, _⟩ => ?_)
        have e3 : d0 = .str "ask" := by
          cases x with
          | ask => exact (List.cons.inj e2).1
          | job => exact absurd e.symm w_aj
          | all => exact absurd e.symm w_aa
        rw [eqv_str.mpr e3] at z0
        cases z0
      have e0 : d0 = .str "ask" := eqv_str.mp (by
        cases e : PyData.eqv d0 (.str "ask") with
        | true => rfl
        | false => exact absurd (by rw [e]; rfl) z0)
      subst e0
      refine ⟨_, rfl, _, rfl, d1, _, q1.dp, dp_tup_strs hth, (hsh d1 (by simp)).shaped, shaped_tup_strs hok, _, rfl, ite2 (fun z1 => iteT ?_) (fun z1 => ?_)⟩
      · refine q false (ff fun ⟨x, e, e2, hin, _⟩ => ?_)
        cases x with
        | ask h g k n o b =>
          have e3 := (List.cons.inj (List.cons.inj e2).2).1
          rw [any_strs.mpr ⟨h, hin.1, e3⟩] at z1
          cases z1
        | job => exact absurd e.symm w_aj
        | all => exact absurd e.symm w_aa
      obtain ⟨h, mh, rfl⟩ : ∃ h ∈ hs, d1 = .str h := any_strs.mp (by
        cases e : ((hs.map PyData.str).any fun z => PyData.eqv z d1) with
        | true => rfl
        | false => exact absurd (by rw [e]; rfl) z1)
      refine ⟨_, rfl, _, rfl, d4, _, q4.dp, dp_tup_strs hth, (hsh d4 (by simp)).shaped, shaped_tup_strs hok, _, rfl, ite2 (fun z4 => ?_) (fun z4 => ?_)⟩
      · refine q false (ff fun ⟨x, e, e2, hin, _⟩ => ?_)
        cases x with
        | ask h g k n o b =>
          simp only [Row.data, List.cons.injEq] at e2
          rw [any_strs.mpr ⟨g, hin.2, e2.2.2.2.2.1⟩] at z4
          cases z4
        | job => exact absurd e.symm w_aj
        | all => exact absurd e.symm w_aa
      obtain ⟨g, mg4, rfl⟩ : ∃ h ∈ hs, d4 = .str h := any_strs.mp (by
        cases e : ((hs.map PyData.str).any fun z => PyData.eqv z d4) with
        | true => rfl
        | false => exact absurd (by rw [e]; rfl) z4)
      refine ⟨_, rfl, Ex, v2, d2, rfl, q2, fun r2 h2 => ⟨r2, rfl, ite2 (fun z2 => ?_) (fun z2 => ?_)⟩⟩
      · obtain ⟨k, rfl, k0, k1⟩ := h2.mp z2
        refine ⟨_, rfl, Ex, v3, d3, rfl, q3, fun r3 h3 => ⟨r3, rfl, ite2 (fun z3 => ?_) (fun z3 => ?_)⟩⟩
        · obtain ⟨n, rfl, n0, n1⟩ := h3.mp z3
          refine ⟨_, rfl, _, rfl, Ex, v5, v6, d5, d6, rfl, q5, q6, fun r hr6 => q r ?_⟩
          rw [hr6]
          constructor
          · rintro ⟨i, j, rfl, rfl, ti, tj, ij⟩
            exact ⟨.ask h g k n i j, rfl, rfl, ⟨mh, mg4⟩, ⟨k0, k1⟩, ⟨n0, n1⟩, ti, tj, ij⟩
          · rintro ⟨x, e, e2, hin, hb⟩
            cases x with
            | ask h' g' k' n' o' b' =>
              simp only [Row.data, List.cons.injEq] at e2
              exact ⟨o', b', e2.2.2.2.2.2.1, e2.2.2.2.2.2.2.1, hb.2.2.1, hb.2.2.2.1, hb.2.2.2.2⟩
            | job => exact absurd e.symm w_aj
            | all => exact absurd e.symm w_aa
        · refine q false (ff fun ⟨x, e, e2, hin, hb⟩ => z3 (h3.mpr ?_))
          cases x with
          | ask h' g' k' n' o' b' =>
            simp only [Row.data, List.cons.injEq] at e2
            exact ⟨n', e2.2.2.2.1, hb.2.1.1, hb.2.1.2⟩
          | job => exact absurd e.symm w_aj
          | all => exact absurd e.symm w_aa
      · refine q false (ff fun ⟨x, e, e2, hin, hb⟩ => z2 (h2.mpr ?_))
        cases x with
        | ask h' g' k' n' o' b' =>
          simp only [Row.data, List.cons.injEq] at e2
          exact ⟨k', e2.2.2.1, hb.1.1, hb.1.2⟩
        | job => exact absurd e.symm w_aj
        | all => exact absurd e.symm w_aa
theorem ok_is_job_row (T : Txt K mg af fd) : FnOk P w K mg base CX0 4 (af 6) (fd 6) ["houses", "thing"] (sp_kind "job") := by
  refine T.F_is_job_row.ok sc_is_job_row (fun vs H Q E h => ?_) (fun cdv A outer s H vs Q E hr h => ?_)
  · obtain ⟨Ex, th, a, hs, xs, ds, rfl, _⟩ := h
    rfl
  · obtain ⟨Ex, th, a, hs, xs, ds, rfl, hth, hok, ha, hds, hsh, q⟩ := h
    refine ⟨_, (pss_cons (ps_if (pt_cmpR op_ne (pe_callB call_len_seq (by rfl) T.m_len (by decide +kernel) (pa_cons (pv 1) pa_nil)) pe_int (nomark _)) (pss_one (ps_ret pe_bl)) pss_nil)
        (pss_cons (ps_asg (pv 1) (pg_tup rfl (pgs_cons (pg_name (i := 2) sc_is_job_row.nd rfl (by first | exact Or.inl rfl | exact Or.inr rfl)) (pgs_cons (pg_name (i := 3) sc_is_job_row.nd rfl (by first | exact Or.inl rfl | exact Or.inr rfl)) (pgs_cons (pg_name (i := 4) sc_is_job_row.nd rfl (by first | exact Or.inl rfl | exact Or.inr rfl)) (pgs_cons (pg_name (i := 5) sc_is_job_row.nd rfl (by first | exact Or.inl rfl | exact Or.inr rfl)) (pgs_cons (pg_name (i := 6) sc_is_job_row.nd rfl (by first | exact Or.inl rfl | exact Or.inr rfl)) pgs_nil)))))))
        (pss_cons (ps_if (PW.pt (pw_or (pt_cmpR (op_neD hr.units) (pv 2) pe_str (nomark _)) (pw_or1 (pt_cmpR (op_notInTD (hu65 hr)) (pv 3) (pv 0) (by rfl))))) (pss_one (ps_ret pe_bl)) pss_nil)
        (pss_one (ps_ret (pe_and (pe_call (ok_is_number T) (hr.mono (by first | decide | omega)) (by rfl) T.g_is_number T.F_is_number.kp T.b_is_number .nil pass0 (pa_cons (pv 4) pa_nil)) (pe_one (pe_call (ok_is_span T) (hr.mono (by first | decide | omega)) (by rfl) T.g_is_span T.F_is_span.kp T.b_is_span .nil pass0 (pa_cons (pv 5) (pa_cons (pv 6) pa_nil)))))))))), ?_⟩
    refine ⟨_, rfl, a, _, rfl, .inr (SqT.of ha), rfl, _, rfl, ite2 (fun z => ?_) (fun z => ?_)⟩
    · refine q false (ff fun ⟨x, e, e2, _⟩ => len_ne' (m := 5) z ?_)
      rw [hds.len, e2]
      cases x with
      | job => rfl
      | ask => exact absurd e w_aj
      | all => exact absurd e.symm w_ja
    have hl := len_ne (m := 5) z
    match xs, ds, hds, hl with
    | [v0, v1, v2, v3, v4], [d0, d1, d2, d3, d4], .cons q0 (.cons q1 (.cons q2 (.cons q3 (.cons q4 .nil)))), _ =>
      refine ⟨_, rfl, a, _, rfl, SqT.of ha, rfl, _, _, rfl, _, _, rfl, _, _, rfl, _, _, rfl, _, _, rfl, rfl, ?_⟩
      refine ⟨_, rfl, d0, .str "job", q0.dp, .str _, (hsh d0 (by simp)).shaped, sh_word (by decide +kernel), _, rfl, ite2 (fun z0 => iteT ?_) (fun z0 => ?_)⟩
      · refine q false (ff fun ⟨x, e, e2, _⟩ => ?_)
        have e3 : d0 = .str "job" := by
          cases x with
          | job => exact (List.cons.inj e2).1
          | ask => exact absurd e w_aj
          | all => exact absurd e.symm w_ja
        rw [eqv_str.mpr e3] at z0
        cases z0
      have e0 : d0 = .str "job" := eqv_str.mp (by
        cases e : PyData.eqv d0 (.str "job") with
        | true => rfl
        | false => exact absurd (by rw [e]; rfl) z0)
      subst e0
      refine ⟨_, rfl, _, rfl, d1, _, q1.dp, dp_tup_strs hth, (hsh d1 (by simp)).shaped, shaped_tup_strs hok, _, rfl, ite2 (fun z1 => ?_) (fun z1 => ?_)⟩
      · refine q false (ff fun ⟨x, e, e2, hin, _⟩ => ?_)
        cases x with
        | job h k o b =>
          have e3 := (List.cons.inj (List.cons.inj e2).2).1
          rw [any_strs.mpr ⟨h, hin, e3⟩] at z1
          cases z1
        | ask => exact absurd e w_aj
        | all => exact absurd e.symm w_ja
      obtain ⟨h, mh, rfl⟩ : ∃ h ∈ hs, d1 = .str h := any_strs.mp (by
        cases e : ((hs.map PyData.str).any fun z => PyData.eqv z d1) with
        | true => rfl
        | false => exact absurd (by rw [e]; rfl) z1)
      refine ⟨_, rfl, Ex, v2, d2, rfl, q2, fun r2 h2 => ⟨r2, rfl, ite2 (fun z2 => ?_) (fun z2 => ?_)⟩⟩
      · obtain ⟨k, rfl, k0, k1⟩ := h2.mp z2
        refine ⟨_, rfl, _, rfl, Ex, v3, v4, d3, d4, rfl, q3, q4, fun r hr6 => q r ?_⟩
        rw [hr6]
        constructor
        · rintro ⟨i, j, rfl, rfl, ti, tj, ij⟩
          exact ⟨.job h k i j, rfl, rfl, mh, ⟨k0, k1⟩, ti, tj, ij⟩
        · rintro ⟨x, e, e2, hin, hb⟩
          cases x with
          | job h' k' o' b' =>
            simp only [Row.data, List.cons.injEq] at e2
            exact ⟨o', b', e2.2.2.2.1, e2.2.2.2.2.1, hb.2.1, hb.2.2.1, hb.2.2.2⟩
          | ask => exact absurd e w_aj
          | all => exact absurd e.symm w_ja
      · refine q false (ff fun ⟨x, e, e2, hin, hb⟩ => z2 (h2.mpr ?_))
        cases x with
        | job h' k' o' b' =>
          simp only [Row.data, List.cons.injEq] at e2
          exact ⟨k', e2.2.2.1, hb.1.1, hb.1.2⟩
        | ask => exact absurd e w_aj
        | all => exact absurd e.symm w_ja
theorem ok_is_all_row (T : Txt K mg af fd) : FnOk P w K mg base CX0 3 (af 7) (fd 7) ["houses", "thing"] (sp_kind "all") := by
  refine T.F_is_all_row.ok sc_is_all_row (fun vs H Q E h => ?_) (fun cdv A outer s H vs Q E hr h => ?_)
  · obtain ⟨Ex, th, a, hs, xs, ds, rfl, _⟩ := h
    rfl
  · obtain ⟨Ex, th, a, hs, xs, ds, rfl, hth, hok, ha, hds, hsh, q⟩ := h
    refine ⟨_, (pss_cons (ps_if (pt_cmpR op_ne (pe_callB call_len_seq (by rfl) T.m_len (by decide +kernel) (pa_cons (pv 1) pa_nil)) pe_int (nomark _)) (pss_one (ps_ret pe_bl)) pss_nil)
        (pss_cons (ps_asg (pv 1) (pg_tup rfl (pgs_cons (pg_name (i := 2) sc_is_all_row.nd rfl (by first | exact Or.inl rfl | exact Or.inr rfl)) (pgs_cons (pg_name (i := 3) sc_is_all_row.nd rfl (by first | exact Or.inl rfl | exact Or.inr rfl)) (pgs_cons (pg_name (i := 4) sc_is_all_row.nd rfl (by first | exact Or.inl rfl | exact Or.inr rfl)) (pgs_cons (pg_name (i := 5) sc_is_all_row.nd rfl (by first | exact Or.inl rfl | exact Or.inr rfl)) pgs_nil))))))
        (pss_cons (ps_if (PW.pt (pw_or (pt_cmpR (op_neD hr.units) (pv 2) pe_str (nomark _)) (pw_or1 (pt_cmpR (op_notInTD (hu65 hr)) (pv 3) (pv 0) (by rfl))))) (pss_one (ps_ret pe_bl)) pss_nil)
        (pss_one (ps_ret (pe_and (pe_call (ok_is_count T) (hr.mono (by first | decide | omega)) (by rfl) T.g_is_count T.F_is_count.kp T.b_is_count .nil pass0 (pa_cons (pv 4) pa_nil)) (pe_one (pe_call (ok_is_count T) (hr.mono (by first | decide | omega)) (by rfl) T.g_is_count T.F_is_count.kp T.b_is_count .nil pass0 (pa_cons (pv 5) pa_nil))))))))), ?_⟩
    refine ⟨_, rfl, a, _, rfl, .inr (SqT.of ha), rfl, _, rfl, ite2 (fun z => ?_) (fun z => ?_)⟩
    · refine q false (ff fun ⟨x, e, e2, _⟩ => len_ne' (m := 4) z ?_)
      rw [hds.len, e2]
      cases x with
      | all => rfl
      | ask => exact absurd e w_aa
      | job => exact absurd e w_ja
    have hl := len_ne (m := 4) z
    match xs, ds, hds, hl with
    | [v0, v1, v2, v3], [d0, d1, d2, d3], .cons q0 (.cons q1 (.cons q2 (.cons q3 .nil))), _ =>
      refine ⟨_, rfl, a, _, rfl, SqT.of ha, rfl, _, _, rfl, _, _, rfl, _, _, rfl, _, _, rfl, rfl, ?_⟩
      refine ⟨_, rfl, d0, .str "all", q0.dp, .str _, (hsh d0 (by simp)).shaped, sh_word (by decide +kernel), _, rfl, ite2 (fun z0 => iteT ?_) (fun z0 => ?_)⟩
      · refine q false (ff fun ⟨x, e, e2, _⟩ => ?_)
        have e3 : d0 = .str "all" := by
          cases x with
          | all => exact (List.cons.inj e2).1
          | ask => exact absurd e w_aa
          | job => exact absurd e w_ja
        rw [eqv_str.mpr e3] at z0
        cases z0
      have e0 : d0 = .str "all" := eqv_str.mp (by
        cases e : PyData.eqv d0 (.str "all") with
        | true => rfl
        | false => exact absurd (by rw [e]; rfl) z0)
      subst e0
      refine ⟨_, rfl, _, rfl, d1, _, q1.dp, dp_tup_strs hth, (hsh d1 (by simp)).shaped, shaped_tup_strs hok, _, rfl, ite2 (fun z1 => ?_) (fun z1 => ?_)⟩
      · refine q false (ff fun ⟨x, e, e2, hin, _⟩ => ?_)
        cases x with
        | all h a j =>
          have e3 := (List.cons.inj (List.cons.inj e2).2).1
          rw [any_strs.mpr ⟨h, hin, e3⟩] at z1
          cases z1
        | ask => exact absurd e w_aa
        | job => exact absurd e w_ja
      obtain ⟨h, mh, rfl⟩ : ∃ h ∈ hs, d1 = .str h := any_strs.mp (by
        cases e : ((hs.map PyData.str).any fun z => PyData.eqv z d1) with
        | true => rfl
        | false => exact absurd (by rw [e]; rfl) z1)
      refine ⟨_, rfl, Ex, v2, d2, rfl, q2, fun r2 h2 => ⟨r2, rfl, ite2 (fun z2 => ?_) (fun z2 => ?_)⟩⟩
      · obtain ⟨k, rfl, k0, k1⟩ := h2.mp z2
        refine ⟨_, rfl, Ex, v3, d3, rfl, q3, fun r hr6 => q r ?_⟩
        rw [hr6]
        constructor
        · rintro ⟨i, rfl, i0, i1⟩
          exact ⟨.all h k i, rfl, rfl, mh, ⟨k0, k1⟩, ⟨i0, i1⟩⟩
        · rintro ⟨x, e, e2, hin, hb⟩
          cases x with
          | all h' a' j' =>
            simp only [Row.data, List.cons.injEq] at e2
            exact ⟨j', e2.2.2.2.1, hb.2.1, hb.2.2⟩
          | ask => exact absurd e w_aa
          | job => exact absurd e w_ja
      · refine q false (ff fun ⟨x, e, e2, hin, hb⟩ => z2 (h2.mpr ?_))
        cases x with
        | all h' a' j' =>
          simp only [Row.data, List.cons.injEq] at e2
          exact ⟨a', e2.2.2.1, hb.1.1, hb.1.2⟩
        | ask => exact absurd e w_aa
        | job => exact absurd e w_ja
def sp_is_row : Sp := fun vs H Q _ => ∃ (Ex : Addr → Prop) (t : Addr) (v : V) (d : PyData) (hs gs : List Str), vs = [.ref t, v] ∧ TownAt H t hs gs ∧ (∀ h ∈ hs, PyData.strOk h = true) ∧ Dq Ex H v d ∧ Sh d ∧ ∀ r : Bool, (r = true ↔ IsRowD hs d) → Q (.bl r) H
theorem ok_is_row (T : Txt K mg af fd) : FnOk P w K mg base CX0 5 (af 8) (fd 8) ["town", "thing"] sp_is_row := by
  refine T.F_is_row.ok sc_is_row (fun vs H Q E h => ?_) (fun cdv A outer s H vs Q E hr h => ?_)
  · obtain ⟨Ex, t, v, d, hs, gs, rfl, _⟩ := h
    rfl
  · obtain ⟨Ex, t, v, d, hs, gs, rfl, ⟨th, tg, t1, t2, t3⟩, hok, hd, hsh, q⟩ := h
    refine ⟨_, (pss_cons (ps_if (pt_not (pt_val (pe_callB call_isi (by rfl) T.m_isinstance (by decide +kernel) (pa_cons (pv 1) (pa_cons (pe_bltn (v := .ty "tuple") (by rfl) T.m_tuple (by decide +kernel) rfl) pa_nil))))) (pss_one (ps_ret pe_bl)) pss_nil)
        (pss_cons (ps_set (i := 2) sc_is_row.nd rfl (by first | exact Or.inl rfl | exact Or.inr rfl) (pe_ix ix_tup (pv 0) pe_int (fun _ _ => rfl)))
        (pss_one (ps_ret (pe_or (pe_call (ok_is_ask_row T) (hr.mono (by first | decide | omega)) (by rfl) T.g_is_ask_row T.F_is_ask_row.kp T.b_is_ask_row .nil pass0 (pa_cons (pv 2) (pa_cons (pv 1) pa_nil))) (pe_or (pe_call (ok_is_job_row T) (hr.mono (by first | decide | omega)) (by rfl) T.g_is_job_row T.F_is_job_row.kp T.b_is_job_row .nil pass0 (pa_cons (pv 2) (pa_cons (pv 1) pa_nil))) (pe_one (pe_call (ok_is_all_row T) (hr.mono (by first | decide | omega)) (by rfl) T.g_is_all_row T.F_is_all_row.kp T.b_is_all_row .nil pass0 (pa_cons (pv 2) (pa_cons (pv 1) pa_nil)))))))))), ?_⟩
    refine ⟨_, rfl, _, _, _, _, _, rfl, .ty "tuple", hd.ty, isi_kit hd n_tuple, _, rfl, ?_⟩
    cases hd with
    | @tup a xs ds ha hds =>
      refine iteF ?_
      refine ⟨_, rfl, t, _, 0, _, rfl, rfl, SqT.of t1, rfl, ?_⟩
      have sub := hsh.items
      refine ⟨_, rfl, _, rfl, Ex, th, a, hs, xs, ds, rfl, t2, hok, ha, hds, sub, fun r1 h1 => ⟨r1, rfl, ite2 (fun z => ?_) (fun z => ?_)⟩⟩
      · refine q true (tt ?_)
        obtain ⟨x, _, e, hin, hb⟩ := h1.mp z
        exact ⟨x, by rw [e], hin, hb⟩
      refine ⟨_, rfl, _, rfl, Ex, th, a, hs, xs, ds, rfl, t2, hok, ha, hds, sub, fun r2 h2 => ⟨r2, rfl, ite2 (fun z2 => ?_) (fun z2 => ?_)⟩⟩
      · refine q true (tt ?_)
        obtain ⟨x, _, e, hin, hb⟩ := h2.mp z2
        exact ⟨x, by rw [e], hin, hb⟩
      refine ⟨_, rfl, _, rfl, Ex, th, a, hs, xs, ds, rfl, t2, hok, ha, hds, sub, fun r3 h3 => q r3 ?_⟩
      rw [h3]
      constructor
      · rintro ⟨x, _, e, hin, hb⟩
        exact ⟨x, by rw [e], hin, hb⟩
      · rintro ⟨x, e, hin, hb⟩
        have e1 : ds = x.data := PyData.tuple.inj e
        cases x with
        | ask h g k n o b => exact absurd (h1.mpr ⟨_, rfl, e1, hin, hb⟩) z
        | job h k o b => exact absurd (h2.mpr ⟨_, rfl, e1, hin, hb⟩) z2
        | all h a j => exact ⟨_, rfl, e1, hin, hb⟩
    | _ =>
      refine iteT (q false (ff fun ⟨x, e, _⟩ => nomatch e))
/-! ### how long data is when it is written -/
mutual
def szD : PyData → Nat
  | .none => 4
  | .bool _ => 5
  | .int i => (Str.ofString (toString i)).length
  | .str x => (reprText x).length
  | .list xs => 4 + szDs xs
  | .tuple xs => 4 + szDs xs
  | .dict _ => 0
def szDs : List PyData → Nat
  | [] => 0
  | x :: xs => szD x + 2 + szDs xs
end
structure Th (k n : Nat) (d : PyData) : Prop where
  lay : d.canLay0 = true
  dep : d.depth ≤ k
  shw : d.showable = true
  sz : szD d ≤ n
theorem Th.sh {k n : Nat} {d : PyData} (h : Th k n d) (hk : k ≤ 60) : Sh d := ⟨h.lay, Nat.le_trans h.dep hk⟩
theorem Th.mono {k n k' n' : Nat} {d : PyData} (h : Th k n d) (hk : k ≤ k') (hn : n ≤ n') : Th k' n' d := ⟨h.lay, Nat.le_trans h.dep hk, h.shw, Nat.le_trans h.sz hn⟩
theorem th_all {k n : Nat} : ∀ {ds : List PyData}, (∀ d ∈ ds, Th k n d) → PyData.canLayAll0 ds = true ∧ PyData.depthAll ds ≤ k ∧ PyData.showableAll ds = true ∧ szDs ds ≤ ds.length * (n + 2)
  | [], _ => ⟨rfl, Nat.zero_le _, rfl, Nat.zero_le _⟩
  | x :: xs, h => by
    obtain ⟨h1, h2, h3, h4⟩ := th_all (ds := xs) fun d m => h d (List.mem_cons_of_mem _ m)
    have hx := h x List.mem_cons_self
    refine ⟨?_, ?_, ?_, ?_⟩
    · show (x.canLay0 && PyData.canLayAll0 xs) = true
      rw [hx.lay, h1]; rfl
    · show max x.depth (PyData.depthAll xs) ≤ k
      exact Nat.max_le.mpr ⟨hx.dep, h2⟩
    · show (x.showable && PyData.showableAll xs) = true
      rw [hx.shw, h3]; rfl
    · show szD x + 2 + szDs xs ≤ (xs.length + 1) * (n + 2)
      have := hx.sz
      rw [Nat.add_mul, Nat.one_mul]
      omega
theorem th_tup {k n m : Nat} {ds : List PyData} (h : ∀ d ∈ ds, Th k n d) (hm : ds.length ≤ m) : Th (k + 1) (4 + m * (n + 2)) (.tuple ds) := by
  obtain ⟨h1, h2, h3, h4⟩ := th_all h
  refine ⟨h1, Nat.succ_le_succ h2, h3, ?_⟩
  show 4 + szDs ds ≤ _
  exact Nat.add_le_add_left (Nat.le_trans h4 (Nat.mul_le_mul_right _ hm)) _
theorem th_lst {k n m : Nat} {ds : List PyData} (h : ∀ d ∈ ds, Th k n d) (hm : ds.length ≤ m) : Th (k + 1) (4 + m * (n + 2)) (.list ds) := by
  obtain ⟨h1, h2, h3, h4⟩ := th_all h
  refine ⟨h1, Nat.succ_le_succ h2, h3, ?_⟩
  show 4 + szDs ds ≤ _
  exact Nat.add_le_add_left (Nat.le_trans h4 (Nat.mul_le_mul_right _ hm)) _
theorem th_int {i : Int} (h : i.natAbs < 10 ^ 20) : Th 0 100 (.int i) := by
  refine ⟨rfl, Nat.le_refl _, ?_, ?_⟩
  · refine decide_eq_true ?_
    have h2 : i.natAbs < 2 ^ 1900 := Nat.lt_trans h (by decide +kernel)
    exact Nat.lt_of_lt_of_le (PySem.Flt.log2_lt_of (by decide) h2) (by decide)
  · have e := int_text_length_le10 (a := i) (k := 20) (by decide) h
    show (Str.ofString (toString i)).length ≤ 100
    rw [PySem.ofString_length]
    omega
theorem th_str {x : Str} (h : PyData.strOk x = true) (hl : x.length ≤ 9) : Th 0 100 (.str x) := by
  refine ⟨h, Nat.le_refl _, rfl, ?_⟩
  have e := StrLaws.reprText_len x fun c hc => by
    unfold PyData.strOk at h
    rw [← Array.all_toList, List.all_eq_true] at h
    have := of_decide_eq_true (h c hc)
    exact Nat.lt_trans this (by decide)
  show (reprText x).length ≤ 100
  omega
theorem th_non : Th 0 100 .none := ⟨rfl, Nat.le_refl _, rfl, by show 4 ≤ 100; decide⟩
theorem th_bl (b : Bool) : Th 0 100 (.bool b) := ⟨rfl, Nat.le_refl _, rfl, by show 5 ≤ 100; decide⟩
theorem HouseS.len {h : Str} (x : HouseS h) : h.length ≤ 8 := by
  have e : h.length = h.cps.toList.length := by simp [Str.length]
  rw [e]
  exact x.2.1
theorem row_th {hs : List Str} (hh : ∀ h ∈ hs, HouseS h) {r : Row} (w : r.Wf) (i : r.In hs) : ∀ d ∈ r.data, Th 0 100 d := by
  have num : ∀ k : Int, NumI k → Th 0 100 (.int k) := fun k h => th_int (Nat.lt_of_le_of_lt (show k.natAbs ≤ 14 by have := h.1; have := h.2; omega) (by decide))
  have cnt : ∀ k : Int, CntI k → Th 0 100 (.int k) := fun k h => th_int (Nat.lt_of_le_of_lt (show k.natAbs ≤ 15 by have := h.1; have := h.2; omega) (by decide))
  have tim : ∀ k : Int, TimeI k → Th 0 100 (.int k) := fun k h => th_int (Nat.lt_of_le_of_lt (show k.natAbs ≤ 1000000000000 by have := h.1; have := h.2; omega) (by decide))
  have hou : ∀ h : Str, h ∈ hs → Th 0 100 (.str h) := fun h m => th_str (hh h m).ok (Nat.le_succ_of_le (hh h m).len)
  intro d hd
  cases r with
  | ask h g k n o b =>
    simp only [Row.data, List.mem_cons, List.not_mem_nil, or_false] at hd
    rcases hd with rfl | rfl | rfl | rfl | rfl | rfl | rfl
    · exact th_str (by decide +kernel) (by decide +kernel)
    · exact hou h i.1
    · exact num k w.2.2.1
    · exact num n w.2.2.2.1
    · exact hou g i.2
    · exact tim o w.2.2.2.2.1
    · exact tim b w.2.2.2.2.2.1
  | job h k o b =>
    simp only [Row.data, List.mem_cons, List.not_mem_nil, or_false] at hd
    rcases hd with rfl | rfl | rfl | rfl | rfl
    · exact th_str (by decide +kernel) (by decide +kernel)
    · exact hou h i
    · exact num k w.2.1
    · exact tim o w.2.2.1
    · exact tim b w.2.2.2.1
  | all h a j =>
    simp only [Row.data, List.mem_cons, List.not_mem_nil, or_false] at hd
    rcases hd with rfl | rfl | rfl | rfl
    · exact th_str (by decide +kernel) (by decide +kernel)
    · exact hou h i
    · exact cnt a w.2.1
    · exact cnt j w.2.2
theorem word_ok (r : Row) : PyData.strOk r.word = true := by
  cases r
  · exact (by decide +kernel : PyData.strOk (Str.ofString "ask") = true)
  · exact (by decide +kernel : PyData.strOk (Str.ofString "job") = true)
  · exact (by decide +kernel : PyData.strOk (Str.ofString "all") = true)
theorem dqs_row {Ex : Addr → Prop} {H : Hp} (r : Row) : Dqs Ex H r.vals r.data := by
  cases r with
  | ask h g k n o b => exact .cons (.str _) (.cons (.str _) (.cons (.int _) (.cons (.int _) (.cons (.str _) (.cons (.int _) (.cons (.int _) .nil))))))
  | job h k o b => exact .cons (.str _) (.cons (.str _) (.cons (.int _) (.cons (.int _) (.cons (.int _) .nil))))
  | all h a j => exact .cons (.str _) (.cons (.str _) (.cons (.int _) (.cons (.int _) .nil)))
theorem row_len7 (r : Row) : 4 ≤ r.data.length ∧ r.data.length ≤ 7 := by
  cases r
  · exact ⟨(by decide : 4 ≤ 7), (by decide : 7 ≤ 7)⟩
  · exact ⟨(by decide : 4 ≤ 5), (by decide : 5 ≤ 7)⟩
  · exact ⟨(by decide : 4 ≤ 4), (by decide : 4 ≤ 7)⟩
theorem vals_len (r : Row) : r.vals.length = r.data.length := by unfold Row.vals; rw [List.length_map]
theorem Dq.stp {Ex : Addr → Prop} {p c : Addr} {H H' : Hp} {v : V} {d : PyData} (h : Dq Ex H v d) (hp : Ex p) (hP : Pen H p c) (s : Stp p c H H') : Dq Ex H' v d :=
  h.go (fun _ a b => absurd a b) (fun a xs n e => s.2 a _ (fun z => n (z ▸ hp)) e) (fun a xs e => s.tup hP e)
theorem Dqs.stp {Ex : Addr → Prop} {p c : Addr} {H H' : Hp} {v : List V} {d : List PyData} (h : Dqs Ex H v d) (hp : Ex p) (hP : Pen H p c) (s : Stp p c H H') : Dqs Ex H' v d :=
  h.go (fun _ a b => absurd a b) (fun a xs n e => s.2 a _ (fun z => n (z ▸ hp)) e) (fun a xs e => s.tup hP e)
theorem cut_from (xs : List V) (n : Nat) : cutV xs (some (n : Int)) none = xs.drop n := by
  unfold cutV
  rw [HT.sIx_nat, HT.sIx_none]
  by_cases h : n ≤ xs.length
  · rw [Nat.min_eq_left h, List.take_of_length_le (by rw [List.length_drop]; omega)]
  · rw [Nat.min_eq_right (by omega), List.drop_length, List.drop_of_length_le (by omega), List.take_nil]
theorem cut_but2 (xs : List V) (h : 2 ≤ xs.length) : cutV xs none (some (-2)) = xs.take (xs.length - 2) := by
  unfold cutV
  rw [HT.sIx_none, List.drop_zero, Nat.sub_zero]
  have e : HT.sIx xs.length xs.length (some (-2)) = xs.length - 2 := by
    show (if (-2 : Int) < 0 then ((-2 : Int) + (xs.length : Int)).toNat else min (-2 : Int).toNat xs.length) = xs.length - 2
    rw [if_pos (by decide)]
    omega
  rw [e]
theorem cut_whole {xs : List V} {lo hi : Option Int} (h : HT.sIx xs.length 0 lo = 0 ∧ HT.sIx xs.length xs.length hi = xs.length) : cutV xs lo hi = xs := by
  unfold cutV
  rw [h.1, h.2, List.drop_zero, Nat.sub_zero, List.take_length]
/-! a slice, a sum of tuples, told alike whether they are new or not -/
theorem slA_of {K : PySem.W.Frag} {p c a : Addr} {H0 H : Hp} {xs : List V} {lo hi : Option Int} {Q : VK} (hP : Pen H0 p c) (s : Stp p c H0 H) (ha : H a = some (.tup xs)) (q : ∀ b H', Stp p c H0 H' → Stp p c H H' → H' b = some (.tup (cutV xs lo hi)) → Q (.ref b) H') : rSlA K (.ref a) lo hi H Q := by
  refine ⟨a, xs, rfl, SqT.of ha, fun h => q a H s (Stp.refl s.1) (by rw [cut_whole h]; exact ha), fun _ b nb => q b _ (s.new hP nb) ((Stp.refl s.1).new s.1 nb) upd_same⟩
theorem catA_of {K : PySem.W.Frag} {p c a b : Addr} {H0 H : Hp} {xs ys : List V} {Q : VK} (hP : Pen H0 p c) (s : Stp p c H0 H) (ha : H a = some (.tup xs)) (hb : H b = some (.tup ys)) (hl : xs.length + ys.length ≤ 1000) (q : ∀ e H', Stp p c H0 H' → Stp p c H H' → H' e = some (.tup (xs ++ ys)) → Q (.ref e) H') : rCatA K (.ref a) (.ref b) H Q := by
  refine ⟨a, b, xs, ys, rfl, rfl, SqT.of ha, SqT.of hb, Nat.le_trans hl (by decide), fun h => q b H s (Stp.refl s.1) (by rw [h]; exact hb), fun _ h => q a H s (Stp.refl s.1) (by rw [h, List.append_nil]; exact ha), fun _ _ e ne => q e _ (s.new hP ne) ((Stp.refl s.1).new s.1 ne) upd_same⟩
/-! ### the law's list -/
theorem Dqs.put {Ex : Addr → Prop} {H : Hp} {l : Addr} {o : HO} {xs vs : List V} {ds : List PyData} (h : Dqs Ex H vs ds) (hl : Ex l) (hH : H l = some (.lst xs)) : Dqs Ex (upd H l o) vs ds :=
  h.go (fun _ a b => absurd a b) (fun a ys n e => by rw [upd_ne (fun (z : a = l) => n (by rw [z]; exact hl))]; exact e) (fun a ys e => by rw [upd_ne (ne_of e hH (fun z => nomatch z))]; exact e)
theorem Dqs.ins {Ex : Addr → Prop} {H : Hp} {xs : List V} {ds : List PyData} {v : V} {d : PyData} (h : Dqs Ex H xs ds) (hv : Dq Ex H v d) (n : Nat) : Dqs Ex H (xs.take n ++ [v] ++ xs.drop n) (ds.take n ++ [d] ++ ds.drop n) :=
  ((h.take n).app (.cons hv .nil)).app (h.drop n)
theorem ins_mem {ds : List PyData} {d x : PyData} {n : Nat} (h : x ∈ ds.take n ++ [d] ++ ds.drop n) : x ∈ ds ∨ x = d := by
  rcases List.mem_append.mp h with m | m
  · rcases List.mem_append.mp m with m | m
    · exact .inl (List.mem_of_mem_take m)
    · exact .inr (List.mem_singleton.mp m)
  · exact .inl (List.mem_of_mem_drop m)
theorem ins_len {ds : List PyData} {d : PyData} {n : Nat} : (ds.take n ++ [d] ++ ds.drop n).length = ds.length + 1 := by
  rw [List.length_append, List.length_append, List.length_take, List.length_drop, List.length_singleton]
  omega
def Ths (ds : List PyData) : Prop := ∀ d ∈ ds, Th 3 3000 d
def AtL (p l : Addr) : Addr → Prop := fun a => a = p ∨ a = l
def Lst (p c l : Addr) (H : Hp) (R : PyData → Prop) (n : Nat) (H' : Hp) : Prop := Stp p c H H' ∧ ∃ xs ds, H' l = some (.lst xs) ∧ Dqs (AtL p l) H' xs ds ∧ Ths ds ∧ (∀ d ∈ ds, R d) ∧ ds.length ≤ n
theorem lst_ins {p c l : Addr} {H G : Hp} {R : PyData → Prop} {n : Nat} {xs : List V} {ds : List PyData} {v : V} {d : PyData} (hP : Pen H p c) (nl : H l = none) (s : Stp p c H G) (hl : G l = some (.lst xs)) (hd : Dqs (AtL p l) G xs ds) (th : Ths ds) (hR : ∀ d ∈ ds, R d) (hn : ds.length ≤ n)
    (dv : Dq (AtL p l) G v d) (thd : Th 3 3000 d) (Rd : R d) (k : Nat) : Lst p c l H R (n + 1) (upd G l (.lst (xs.take k ++ [v] ++ xs.drop k))) := by
  refine ⟨s.mut hP nl, _, _, upd_same, (hd.ins dv k).put (.inr rfl) hl, fun x m => ?_, fun x m => ?_, ?_⟩
  · rcases ins_mem m with m | e
    · exact th x m
    · rw [e]
      exact thd
  · rcases ins_mem m with m | e
    · exact hR x m
    · rw [e]
      exact Rd
  · rw [ins_len]
    omega
theorem lst_app {p c l : Addr} {H G : Hp} {R : PyData → Prop} {n : Nat} {xs : List V} {ds : List PyData} {v : V} {d : PyData} (hP : Pen H p c) (nl : H l = none) (s : Stp p c H G) (hl : G l = some (.lst xs)) (hd : Dqs (AtL p l) G xs ds) (th : Ths ds) (hR : ∀ d ∈ ds, R d) (hn : ds.length ≤ n)
    (dv : Dq (AtL p l) G v d) (thd : Th 3 3000 d) (Rd : R d) : Lst p c l H R (n + 1) (upd G l (.lst (xs ++ [v]))) := by
  have h := lst_ins hP nl s hl hd th hR hn dv thd Rd xs.length
  rw [List.take_length, List.drop_length, List.append_nil] at h
  exact h
theorem Stp.sm {p c : Addr} {H H1 H2 : Hp} (s : Stp p c H H1) (g : Same H1 H2) : Stp p c H H2 := by
  obtain ⟨cs, n, st, h1, h2, h3, h4⟩ := s.1
  exact ⟨⟨cs, n, st, g _ _ h1, g _ _ h2, h3, h4⟩, fun b o nb e => g _ _ (s.2 b o nb e)⟩
theorem ths_lst {ds : List PyData} (h : Ths ds) (hn : ds.length ≤ 1000) : SeqAt.shaped (.list ds) = true := ((th_lst h hn).sh (by decide)).shaped
def RowW (d : PyData) : Prop := ∃ r : Row, d = .tuple r.data ∧ r.Wf
/-! ### the refusals are made -/
def sp_init1 (C : Addr) (f : Str) : Sp := fun vs H Q _ => ∃ (a : Addr) (v : V), vs = [.ref a, v] ∧ H a = some (exo a C none) ∧ ∀ dx, H dx = none → dx ≠ a → Q .non (upd (upd H dx (exd dx [(f, v)])) a (exo a C (some dx)))
def sp_init2 (C : Addr) (f g : Str) : Sp := fun vs H Q _ => ∃ (a : Addr) (v u : V), vs = [.ref a, v, u] ∧ H a = some (exo a C none) ∧ ∀ dx, H dx = none → dx ≠ a → Q .non (upd (upd (upd H dx (exd dx [(f, v)])) a (exo a C (some dx))) dx (exd dx [(g, u), (f, v)]))
theorem ok_init_NoRow (T : Txt K mg af fd) : FnOk P w K mg base CX0 1 (af 66) (fd 66) ["self", "number"] (sp_init1 (af 65) "number") := by
  refine T.e_NoRow.F.ok sc_init_NoRow (fun vs H Q E h => ?_) (fun cdv A outer s H vs Q E hr h => ?_)
  · obtain ⟨a, v, rfl, _⟩ := h
    rfl
  · obtain ⟨a, v, rfl, ha, q⟩ := h
    refine ⟨_, (pss_one (ps_ost (pv 0) (pv 1))), ?_⟩
    exact ⟨_, rfl, _, rfl, a, _, rfl, T.e_NoRow.T, T.e_NoRow.no _ List.mem_cons_self, .inl ⟨ha, q⟩⟩
theorem ok_init_Clash (T : Txt K mg af fd) : FnOk P w K mg base CX0 1 (af 68) (fd 68) ["self", "first", "second"] (sp_init2 (af 67) "first" "second") := by
  refine T.e_Clash.F.ok sc_init_Clash (fun vs H Q E h => ?_) (fun cdv A outer s H vs Q E hr h => ?_)
  · obtain ⟨a, v, u, rfl, _⟩ := h
    rfl
  · obtain ⟨a, v, u, rfl, ha, q⟩ := h
    refine ⟨_, (pss_cons (ps_ost (pv 0) (pv 1))
        (pss_one (ps_ost (pv 0) (pv 2)))), ?_⟩
    refine ⟨_, rfl, _, rfl, a, _, rfl, T.e_Clash.T, T.e_Clash.no _ List.mem_cons_self, .inl ⟨ha, fun dx nd ne => ?_⟩⟩
    refine ⟨_, rfl, _, rfl, a, _, rfl, T.e_Clash.T, T.e_Clash.no _ (List.mem_cons_of_mem _ List.mem_cons_self), .inr ⟨dx, _, upd_same, ?_, (by show 1 ≤ 900; decide), q dx nd ne⟩⟩
    rw [upd_ne ne, upd_same]
/-! the heap behind a raise: all that stood stands, the fields at d -/
theorem raised1 {H : Hp} {a d : Addr} {o1 o2 o3 : HO} {fs : List (Str × V)} (na : H a = none) (nd : (upd H a o1) d = none) : Same H (upd (del (upd (upd (upd H a o1) d o2) a o3) a) d (.xd fs)) := fun b o e => by
  have nd0 : H d = none := (same_upd na).free nd
  rw [upd_ne (ne_of_none e nd0), del_ne (ne_of_none e na), upd_ne (ne_of_none e na), upd_ne (ne_of_none e nd0), upd_ne (ne_of_none e na)]
  exact e
theorem raised2 {H : Hp} {a d : Addr} {o1 o2 o3 o4 : HO} {fs : List (Str × V)} (na : H a = none) (nd : (upd H a o1) d = none) : Same H (upd (del (upd (upd (upd (upd H a o1) d o2) a o3) d o4) a) d (.xd fs)) := fun b o e => by
  have nd0 : H d = none := (same_upd na).free nd
  rw [upd_ne (ne_of_none e nd0), del_ne (ne_of_none e na), upd_ne (ne_of_none e nd0), upd_ne (ne_of_none e na), upd_ne (ne_of_none e nd0), upd_ne (ne_of_none e na)]
  exact e
/-! ### rows, or the first that is none -/
def RowsD (hs : List Str) (ds : List PyData) (n : Nat) : Prop := ∀ (j : Nat) (d : PyData), j < n → ds[j]? = some d → IsRowD hs d
def Thing (Ex : Addr → Prop) (H : Hp) (vs : List V) (ds : List PyData) : Prop := Dqs Ex H vs ds ∧ ∀ d ∈ ds, Sh d
def sp_need_rows (C : Addr) : Sp := fun vs H Q E => ∃ (Ex : Addr → Prop) (t l : Addr) (hs gs : List Str) (xs : List V) (ds : List PyData), vs = [.ref t, .ref l] ∧ TownAt H t hs gs ∧ (∀ h ∈ hs, PyData.strOk h = true) ∧ H l = some (.lst xs) ∧ Thing Ex H xs ds ∧
  (∀ H', Same H H' → RowsD hs ds ds.length → Q .non H') ∧
  ∀ (i : Nat) (dv : PyData) (d : Addr) (H' : Hp), RowsD hs ds i → ds[i]? = some dv → ¬ IsRowD hs dv → Same H H' → H' d = some (.xd [("number", .int (i : Nat))]) → E (.ref C) (some d) H'
theorem ok_need_rows (T : Txt K mg af fd) : FnOk P w K mg base (L2.CX P w) 6 (af 16) (fd 16) ["town", "rows"] (sp_need_rows (af 65)) := by
  refine T.F_need_rows.okX sc_need_rows (fun vs H Q E h => ?_) (fun cdv A outer s H vs Q E hr h => ?_)
  · obtain ⟨Ex, t, l, hs, gs, xs, ds, rfl, _⟩ := h
    rfl
  · obtain ⟨Ex, t, l, hs, gs, xs, ds, rfl, ht, hok, hl, ⟨hds, hsh⟩, qQ, qE⟩ := h
    refine ⟨_, (pss_one (ps_for (passes_of rfl) rfl (pi_enum (by rfl) T.m_enumerate (pa_cons (pv 1) pa_nil)) (pg_tup rfl (pgs_cons (pg_name (i := 2) sc_need_rows.nd rfl (by first | exact Or.inl rfl | exact Or.inr rfl)) (pgs_cons (pg_name (i := 3) sc_need_rows.nd rfl (by first | exact Or.inl rfl | exact Or.inr rfl)) pgs_nil))) (pss_one (ps_if (pt_not (pt_val (pe_call (ok_is_row T) (hr.mono (by first | decide | omega)) (by rfl) T.g_is_row T.F_is_row.kp T.b_is_row .nil pass0 (pa_cons (pv 0) (pa_cons (pv 3) pa_nil))))) (pss_one (ps_raise rfl (takes_of rfl rfl rfl rfl) (pmk_oex T.e_NoRow.T T.e_NoRow.iC T.e_NoRow.tI (ok_init_NoRow T) (hr.mono (by decide)) T.e_NoRow.b .nil pass0 (by rfl) T.e_NoRow.g (pa_cons (pv 2) pa_nil)))) pss_nil)))), ?_⟩
    refine ⟨_, rfl, l, _, rfl, SqL.of hl, for_it (walk_enum (K := K) (a := l) (xs := xs)) (fun i σ H' => (∃ v2 v3 : Option V, σ = [some (.ref t), some (.ref l), v2, v3]) ∧ Same H H' ∧ RowsD hs ds i)
      ⟨⟨none, none, rfl⟩, Same.refl _, fun j d hj => absurd hj (Nat.not_lt_zero j)⟩ (fun i σ H' _ h => SqL.of (h.2.1 _ _ hl)) ?_ ?_⟩
    · rintro i pv σ H1 H2 hi ⟨⟨v2, v3, rfl⟩, s1, hrows⟩ ⟨Tp, x1, x2, rfl, nT, rfl, e1, e2⟩
      obtain rfl : V.int (i : Nat) = x1 := Option.some.inj e1
      have e2 : xs[i]? = some x2 := e2
      have hid : i < ds.length := by rw [← hds.len]; exact hi
      obtain ⟨x2', hx2, dq⟩ := hds.get (List.getElem?_eq_getElem hid)
      obtain rfl : x2' = x2 := Option.some.inj (hx2.symm.trans e2)
      have hdi : ds[i]? = some ds[i] := List.getElem?_eq_getElem hid
      generalize ds[i] = dv at dq hdi
      have s2 : Same H (upd H1 Tp (.tup [.int (i : Nat), x2'])) := same_mut s1 (s1.free nT)
      refine ⟨Tp, _, rfl, SqT.of upd_same, rfl, _, _, rfl, _, _, rfl, rfl, ?_⟩
      generalize upd H1 Tp (.tup [.int (i : Nat), x2']) = H2 at s2 ⊢
      refine ⟨_, rfl, _, rfl, Ex, t, x2', dv, hs, gs, rfl, ht.same' s2, hok, dq.same s2, hsh dv (List.mem_of_getElem? hdi), fun r hr1 => ⟨r, rfl, ?_⟩⟩
      cases r with
      | true =>
        refine iteF ⟨⟨_, _, rfl⟩, s2, fun j d hj hd => ?_⟩
        by_cases e : j = i
        · subst e
          obtain rfl : dv = d := Option.some.inj (hdi.symm.trans hd)
          exact hr1.mp rfl
        · exact hrows j d (by omega) hd
      | false =>
        refine iteT ⟨_, rfl, (by show 1 ≤ 1000; decide), fun a na => ⟨a, _, rfl, upd_same, fun dx nd ne => ⟨rfl, dx, [("number", .int (i : Nat))], upd_same, ?_, ?_, ?_⟩⟩⟩
        · rw [upd_ne ne, upd_same]
        · exact (same_upd na).free nd
        · refine qE i dv dx _ hrows hdi (fun z => Bool.noConfusion (hr1.mpr z)) (s2.trans ?_) upd_same
          exact raised1 na nd
    · rintro σ H1 ⟨⟨v2, v3, rfl⟩, s1, hrows⟩
      exact qQ H1 s1 (by rw [hds.len] at hrows; exact hrows)
/-! ### clashes in a list -/
theorem dqs_flat {Ex : Addr → Prop} {H : Hp} {xs : List V} {r : Row} (h : Dqs Ex H xs r.data) : xs = r.vals := by
  have key : ∀ {xs : List V} {ds : List PyData}, ds.all Fl.flatD = true → Dqs Ex H xs ds → xs = ds.map Fl.dV := by
    intro xs ds
    induction ds generalizing xs with
    | nil =>
      intro _ h
      cases h
      rfl
    | cons d ds ih =>
      intro hf h
      rw [List.all_cons, Bool.and_eq_true] at hf
      cases h with
      | cons h1 h2 =>
        rw [ih hf.2 h2]
        cases h1 with
        | int i => rfl
        | str x => rfl
        | _ => exact absurd hf.1 (by simp [Fl.flatD])
  exact key (row_flat r) h
theorem row_at {Ex : Addr → Prop} {H : Hp} {v : V} {r : Row} (h : Dq Ex H v (.tuple r.data)) : ∃ a, v = .ref a ∧ RowAt H a r := by
  cases h with
  | @tup a xs _ h1 h2 => exact ⟨a, rfl, by rw [dqs_flat h2] at h1; exact h1⟩
theorem isRow_wf {hs : List Str} (hok : ∀ h ∈ hs, PyData.strOk h = true) {d : PyData} (h : IsRowD hs d) : ∃ r : Row, d = .tuple r.data ∧ r.Wf ∧ r.In hs := by
  obtain ⟨r, e, hin, hb⟩ := h
  refine ⟨r, e, ?_, hin⟩
  cases r with
  | ask h g k n o b => exact ⟨hok h hin.1, hok g hin.2, hb.1, hb.2.1, hb.2.2.1, hb.2.2.2.1, hb.2.2.2.2⟩
  | job h k o b => exact ⟨hok h hin, hb.1, hb.2.1, hb.2.2.1, hb.2.2.2⟩
  | all h a j => exact ⟨hok h hin, hb.1, hb.2⟩
def ClashAt (ds : List PyData) (i j : Nat) : Prop := ∃ r t : Row, ds[i]? = some (.tuple r.data) ∧ ds[j]? = some (.tuple t.data) ∧ ClashP r t
def NoClash (ds : List PyData) (n : Nat) : Prop := ∀ s, s < n → ∀ f, f < s → ¬ ClashAt ds f s
structure FirstClash (ds : List PyData) (f s : Nat) : Prop where
  lt : f < s
  len : s < ds.length
  at_ : ClashAt ds f s
  no : NoClash ds s
  low : ∀ g, g < f → ¬ ClashAt ds g s
theorem data_inj {r t : Row} (h : r.data = t.data) : r = t := by
  have e := row_eqv r t
  have e1 : PyData.eqv (.tuple r.data) (.tuple t.data) = true := by
    rw [h, row_eqv]
    exact decide_eq_true rfl
  rw [e1] at e
  exact of_decide_eq_true e.symm
theorem clashAt_iff {ds : List PyData} {i j : Nat} {r t : Row} (hi : ds[i]? = some (.tuple r.data)) (hj : ds[j]? = some (.tuple t.data)) : ClashAt ds i j ↔ ClashP r t := by
  constructor
  · rintro ⟨r2, t2, e1, e2, h⟩
    obtain rfl := data_inj (PyData.tuple.inj (Option.some.inj (hi.symm.trans e1)))
    obtain rfl := data_inj (PyData.tuple.inj (Option.some.inj (hj.symm.trans e2)))
    exact h
  · exact fun h => ⟨r, t, hi, hj, h⟩
def sp_need_book (CN CC : Addr) : Sp := fun vs H Q E => ∃ (Ex : Addr → Prop) (t l : Addr) (hs gs : List Str) (xs : List V) (ds : List PyData), vs = [.ref t, .ref l] ∧ TownAt H t hs gs ∧ (∀ h ∈ hs, PyData.strOk h = true) ∧ H l = some (.lst xs) ∧ Thing Ex H xs ds ∧ ds.length ≤ 1000 ∧
  (∀ H', Same H H' → RowsD hs ds ds.length → NoClash ds ds.length → Q .non H') ∧
  (∀ (i : Nat) (dv : PyData) (d : Addr) (H' : Hp), RowsD hs ds i → ds[i]? = some dv → ¬ IsRowD hs dv → Same H H' → H' d = some (.xd [("number", .int (i : Nat))]) → E (.ref CN) (some d) H') ∧
  ∀ (f s : Nat) (d : Addr) (H' : Hp), RowsD hs ds ds.length → FirstClash ds f s → Same H H' → H' d = some (.xd [("second", .int (s : Nat)), ("first", .int (f : Nat))]) → E (.ref CC) (some d) H'
theorem ok_need_book (T : Txt K mg af fd) : FnOk P w K mg base (L2.CX P w) 7 (af 17) (fd 17) ["town", "rows"] (sp_need_book (af 65) (af 67)) := by
  refine T.F_need_book.okX sc_need_book (fun vs H Q E h => ?_) (fun cdv A outer s H vs Q E hr h => ?_)
  · obtain ⟨Ex, t, l, hs, gs, xs, ds, rfl, _⟩ := h
    rfl
  · obtain ⟨Ex, t, l, hs, gs, xs, ds, rfl, ht, hok, hl, hth, hlen, qQ, qN, qC⟩ := h
    refine ⟨_, (pss_cons (ps_expr (pe_call (ok_need_rows T) (hr.mono (by first | decide | omega)) (by rfl) T.g_need_rows T.F_need_rows.kp T.b_need_rows .nil (passes_call (takes_of rfl rfl rfl rfl) (fun _ _ _ _ h => h)) (pa_cons (pv 0) (pa_cons (pv 1) pa_nil))))
        (pss_one (ps_for (passes_of rfl) rfl (pi_range1 (by rfl) T.m_range (pa_cons (pe_callB call_len_seq (by rfl) T.m_len (by decide +kernel) (pa_cons (pv 1) pa_nil)) pa_nil)) (pg_name (i := 2) sc_need_book.nd rfl (by first | exact Or.inl rfl | exact Or.inr rfl)) (pss_one (ps_for (passes_of rfl) rfl (pi_range1 (by rfl) T.m_range (pa_cons (pv 2) pa_nil)) (pg_name (i := 3) sc_need_book.nd rfl (by first | exact Or.inl rfl | exact Or.inr rfl)) (pss_one (ps_if (pt_val (pe_call (ok_do_clash T) (hr.mono (by first | decide | omega)) (by rfl) T.g_do_clash T.F_do_clash.kp T.b_do_clash .nil pass0 (pa_cons (pe_ix ix_list (pv 1) (pv 3) (fun _ _ => rfl)) (pa_cons (pe_ix ix_list (pv 1) (pv 2) (fun _ _ => rfl)) pa_nil)))) (pss_one (ps_raise rfl (takes_of rfl rfl rfl rfl) (pmk_oex T.e_Clash.T T.e_Clash.iC T.e_Clash.tI (ok_init_Clash T) (hr.mono (by decide)) T.e_Clash.b .nil pass0 (by rfl) T.e_Clash.g (pa_cons (pv 3) (pa_cons (pv 2) pa_nil))))) pss_nil))))))), ?_⟩
    refine ⟨_, rfl, _, rfl, Ex, t, l, hs, gs, xs, ds, rfl, ht, hok, hl, hth, fun H1 s1 hrows => ?_, qN⟩
    obtain ⟨hds, hsh⟩ := hth
    have hl1 := s1 _ _ hl
    have hxl := hds.len
    refine ⟨_, rfl, l, _, rfl, .inl (SqL.of hl1), _, rfl, by omega, by omega, for_range (lo := 0) (n := ((xs.length : Int)).toNat) (fun i σ H' => (∃ v2 v3 : Option V, σ = [some (.ref t), some (.ref l), v2, v3]) ∧ H' = H1 ∧ NoClash ds i)
      ⟨⟨none, none, rfl⟩, rfl, fun s hs => absurd hs (Nat.not_lt_zero s)⟩ ?_ ?_⟩
    · rintro s2 σ H2 hs2 ⟨⟨v2, v3, rfl⟩, rfl, hno⟩
      rw [Int.toNat_natCast] at hs2
      have hs2d : s2 < ds.length := by omega
      obtain ⟨t2, et2, wt2, _⟩ := isRow_wf hok (hrows s2 _ hs2d (List.getElem?_eq_getElem hs2d))
      have hd2 : ds[s2]? = some (.tuple t2.data) := by rw [List.getElem?_eq_getElem hs2d, et2]
      obtain ⟨y, hy, dy⟩ := hds.get hd2
      obtain ⟨b, rfl, hb⟩ := row_at (dy.same s1)
      refine ⟨_, rfl, _, rfl, by omega, by omega, for_range (lo := 0) (n := ((0 : Int) + (s2 : Nat)).toNat) (fun i σ H' => (∃ v3 : Option V, σ = [some (.ref t), some (.ref l), some (.int (0 + (s2 : Nat))), v3]) ∧ H' = H2 ∧ ∀ g, g < i → ¬ ClashAt ds g s2)
        ⟨⟨_, rfl⟩, rfl, fun g hg => absurd hg (Nat.not_lt_zero g)⟩ ?_ ?_⟩
      · rintro f2 σ H3 hf2 ⟨⟨v3, rfl⟩, rfl, hlow⟩
        have hf2s : f2 < s2 := by omega
        have hf2d : f2 < ds.length := by omega
        obtain ⟨r2, er2, wr2, _⟩ := isRow_wf hok (hrows f2 _ hf2d (List.getElem?_eq_getElem hf2d))
        have hd1 : ds[f2]? = some (.tuple r2.data) := by rw [List.getElem?_eq_getElem hf2d, er2]
        obtain ⟨x, hx, dx⟩ := hds.get hd1
        obtain ⟨a, rfl, ha⟩ := row_at (dx.same s1)
        have hiff := clashAt_iff hd1 hd2
        refine ⟨_, rfl, _, rfl, l, _, _, .ref a, rfl, rfl, SqL.of hl1, at_any (j := f2) (by omega) hx, _, rfl, _, rfl, l, _, _, .ref b, rfl, rfl, SqL.of hl1, at_any (j := s2) (by omega) hy, a, b, r2, t2, rfl, ha, hb, wr2, wt2, trivial, fun bb hbb => ⟨bb, rfl, ?_⟩⟩
        cases bb with
        | false =>
          refine iteF ⟨⟨_, rfl⟩, rfl, fun g hg => ?_⟩
          by_cases e : g = f2
          · subst e
            exact fun z => Bool.noConfusion (hbb.mpr (hiff.mp z))
          · exact hlow g (by omega)
        | true =>
          refine iteT ⟨_, rfl, _, rfl, (by show 2 ≤ 1000; decide), fun a3 na => ⟨a3, _, _, rfl, upd_same, fun dx3 nd ne => ⟨rfl, dx3, [("second", .int (0 + (s2 : Nat))), ("first", .int (0 + (f2 : Nat)))], ?_, upd_same, ?_, ?_⟩⟩⟩
          · rw [upd_ne (Ne.symm ne), upd_same]
          · exact (same_upd na).free nd
          · rw [Int.zero_add, Int.zero_add]
            refine qC f2 s2 dx3 _ hrows ⟨hf2s, hs2d, hiff.mpr (hbb.mp rfl), hno, hlow⟩ (s1.trans ?_) upd_same
            exact raised2 na nd
      · rintro σ H3 ⟨⟨v3, rfl⟩, rfl, hlow⟩
        refine ⟨⟨_, _, rfl⟩, rfl, fun s3 hs3 g hg => ?_⟩
        by_cases e : s3 = s2
        · subst e
          exact hlow g (by omega)
        · exact hno s3 (by omega) g hg
    · rintro σ H2 ⟨⟨v2, v3, rfl⟩, rfl, hno⟩
      refine qQ H2 s1 hrows ?_
      rw [Int.toNat_natCast, hxl] at hno
      exact hno
/-! ### sorted(d), d of keys (text, int) -/
namespace Gr
open PySem.W
abbrev HK := Str × Int
def keyOf (p : HK) : List Key := [.inr p.1, .inl p.2]
def datOf (p : HK) : List PyData := [.str p.1, .int p.2]
def vD : V → PyData
  | .int i => .int i
  | .str x => .str x
  | _ => .none
def hkOf : List PyData → HK
  | [.str h, .int n] => (h, n)
  | _ => ("", 0)
def datAt (H : Hp) : Value → List PyData
  | .ref b => match H b with
    | some (.tup us) => us.map vD
    | _ => []
  | _ => []
theorem datAt_key {H : Hp} {b : Addr} {p : HK} (h : H b = some (.tup ((keyOf p).map kV))) : datAt H (.ref b) = datOf p := by
  show (match H b with
    | some (.tup us) => us.map vD
    | _ => []) = datOf p
  rw [h]
  rfl
theorem hk_dat (p : HK) : hkOf (datOf p) = p := rfl
theorem can_dat (p q : HK) : Fl.Can (datOf p) (datOf q) := ⟨p.1, [.int p.2], q.1, [.int q.2], rfl, rfl, fun _ => rfl⟩
theorem fl_sortable {prog : Program} {w : World} {A : Around} {s : Shared} {a : Addr} {vs : List Value} {k : Value → List PyData} (h2 : 2 ≤ vs.length) (hp : ∀ v ∈ vs, Fl.IsFl s.heap v (k v)) (hc : ∀ v ∈ vs, ∀ u ∈ vs, Fl.Can (k v) (k u)) (ha : s.heap.get? a = some (seqObj "list" vs.toArray 0)) :
    SrtO.SortableO prog w A s a vs (fun v u => Fl.ltD (k v) (k u)) := by
  intro h' keep
  have hne : ∀ o, s.heap.get? a = some o → o.cls ≠ .type "tuple" := fun o e => by
    have e' : some o = some (seqObj "list" vs.toArray 0) := e.symm.trans ha
    cases e'
    intro c
    exact absurd (Value.type.inj c) (by decide)
  have hp' : ∀ v ∈ vs, Fl.IsFl h' v (k v) := fun v hm => (hp v hm).keeps fun b o e c => keep b o (fun z => by subst z; exact hne o e c) e
  obtain ⟨fs, f1, f2, f3⟩ := Fl.firsts_fl (vs := vs) (k := k) fun v hm => ⟨hp' v hm, by
    obtain ⟨x, r, _, _, e, _⟩ := hc v hm v hm
    exact ⟨x, r, e⟩⟩
  refine ⟨tuples' true, fun Q E hq => ?_, Fl.flat_cmp hp' hc⟩
  refine kat_kind (T := .type "str") f1 (by omega) (fun f hm => ?_) (by rfl) ?_
  · obtain ⟨x, t, rfl⟩ := f3 f hm
    exact Looks.now
  · have e : (Value.type "str" != Value.type "tuple") = true := by first | decide +kernel | rfl | decide
    rw [e]
    exact hq
def rSortedDT : List V → Hp → VK → Prop := fun vs H Q => ∃ (a : Addr) (kvs : List (List Key × V)) (ks : List HK), vs = [V.ref a] ∧ Rd H a (.dT kvs) ∧ kvs.map (·.1) = ks.map keyOf ∧
  ∀ (ys : List (Addr × HK)) (p : Addr), (ys.map (·.2)).Perm ks → (ys.map (·.2)).Pairwise (fun x y => Fl.ltD (datOf y) (datOf x) = false) → (∀ y ∈ ys, H y.1 = some (.tup ((keyOf y.2).map kV))) → H p = none → Q (.ref p) (upd H p (.lst (ys.map fun y => V.ref y.1)))
theorem kt_at {H : Hp} : ∀ {kvs : List (List Key × V)} {xs : List (List Key × Addr × Value)} {ks : List HK}, KT H kvs xs → kvs.map (·.1) = ks.map keyOf → (xs.map fun x => Value.ref x.2.1).map (fun v => hkOf (datAt H v)) = ks ∧ ∀ v ∈ xs.map (fun x => Value.ref x.2.1), ∃ b p, v = .ref b ∧ H b = some (.tup ((keyOf p).map kV))
  | [], _, [], .nil, _ => ⟨rfl, fun _ m => nomatch m⟩
  | [], _, _ :: _, _, h => nomatch h
  | _ :: _, _, [], _, h => nomatch h
  | kv :: kvs, x :: xs, k :: ks, .cons h t, e => by
    injection e with e1 e2
    obtain ⟨i1, i2⟩ := kt_at t e2
    have hb : H x.2.1 = some (.tup ((keyOf k).map kV)) := by
      have e1 : kv.1 = keyOf k := e1
      rw [← e1]
      exact h.2.1
    refine ⟨?_, fun v m => ?_⟩
    · rw [List.map_cons, List.map_cons, i1, datAt_key hb, hk_dat]
    · rcases List.mem_cons.mp m with rfl | m
      · exact ⟨_, k, rfl, hb⟩
      · exact i2 v m
theorem cr_sortedDT {X : Cx} (hc : X.calm = true) : CallR X (.builtin "sorted") rSortedDT := by
  intro pins s σ H vs us Q I r h
  obtain ⟨a, kvs, ks, rfl, hd, hks, q⟩ := h
  obtain ⟨u, rfl, ru⟩ := vals1 r
  obtain rfl : u = Value.ref a := ru
  obtain ⟨z, hs, xs, pr, o, es, ep, ho, hx, hdt, he, hn⟩ := (show ObjOk X.prog X.w H s.heap a (.dT kvs) from hd.ok I.hok)
  have l1 : es.size = xs.length := size_of_entries he
  have l2 : kvs.length = xs.length := Paired.length pr
  refine Calls.call_function_entry PyProof.Rows.kind_sorted PyProof.Rows.plain_sorted PyProof.Rows.entry_sorted (PyProof.Rows.args_sorted1 _) ?_
  unfold Builtin.«sorted»
  refine wpAny_bind (m := checkCount "sorted" 1 1 _) (wpAny_pure ?_)
  refine wpAny_bind (PySem.W.kdu_collect (A := X.A.in1) (kdl_raw hs hx hdt) (I.ok.hd hc) ho (by omega) fun g tk acc hk hacc => ?_)
  have ea : acc.toList = xs.map fun x => Value.ref x.2.1 := by
    have hl : acc.toList.length = xs.length := by rw [Array.length_toList, hacc.1]; exact l1
    apply List.ext_getElem?
    intro j
    rw [List.getElem?_map]
    cases hj : acc.toList[j]? with
    | none =>
      have h1 := List.getElem?_eq_none_iff.mp hj
      rw [List.getElem?_eq_none (by omega)]
      all_goals rfl
    | some v =>
      obtain ⟨en, hen, hv⟩ := hacc.2 j v (by rw [← Array.getElem?_toList]; exact hj)
      have qe := entry_at he j
      rw [hen] at qe
      cases hb : xs[j]? with
      | none =>
        rw [hb] at qe
        exact nomatch (show some en = none from qe)
      | some b =>
        rw [hb] at qe
        have e2 : en = entryOfKey (tupleKind (mixKind X.prog X.w)) b := Option.some.inj qe
        rw [hv, e2]
        all_goals rfl
  obtain ⟨k1, k2⟩ := kt_at pr hks
  have I1 : Inv X pins σ H { s with heap := g, toks := tk } := I.kept hk
  rw [ea]
  generalize xs.map (fun x => Value.ref x.2.1) = vs at k1 k2 ea ⊢
  have hvl : vs.length = kvs.length := by rw [← ea, Array.length_toList, hacc.1]; omega
  have hz : vs.length ≤ sizeLine := by omega
  refine wpAny_bind (wpAny_newList ?_ hz)
  have hoL : (g.push (seqObj "list" vs.toArray 0)).get? g.objs.size = some (seqObj "list" vs.toArray 0) := Heap.get?_push_size _ rfl
  show wpAny _ _ _ _ _ { s with heap := g.push (seqObj "list" vs.toArray 0), toks := tk }
  have hfl : ∀ v ∈ vs, Fl.IsFl (g.push (seqObj "list" vs.toArray 0)) v (datAt H v) := fun v hv => by
    obtain ⟨b, p, rfl, hb⟩ := k2 v hv
    obtain ⟨_, its2, r2, o2, ho2, hc2, n2, hd2⟩ := I1.hok _ _ hb
    refine ⟨b, o2, its2.toArray, n2, rfl, Heap.get?_push_of_some _ ho2, hc2, hd2, ?_⟩
    rw [List.toList_toArray, datAt_key hb]
    exact Fl.fvs_of (ds := datOf p) rfl r2
  have hcn : ∀ v ∈ vs, ∀ u ∈ vs, Fl.Can (datAt H v) (datAt H u) := fun v hv u hu => by
    obtain ⟨b, p, rfl, hb⟩ := k2 v hv
    obtain ⟨c, t, rfl, hc'⟩ := k2 u hu
    rw [datAt_key hb, datAt_key hc']
    exact can_dat p t
  refine wpAny_bind (wpAny_holding (wpAny_call_entry PyProof.Rows.slot_list_sort ⟨_, hoL, rfl⟩ PyProof.Rows.entry_list_sort
    (SrtO.list_sort_ord (s := { s with heap := g.push (seqObj "list" vs.toArray 0), toks := tk }) (Fl.swo_ltD (datAt H)) hoL hz (fun h2 => fl_sortable (s := { s with heap := g.push (seqObj "list" vs.toArray 0), toks := tk }) h2 hfl hcn hoL) fun out o1 o2 => ⟨_, rfl, ?_⟩) (PyProof.Rows.args_list_sort _)))
  obtain ⟨e', he'⟩ := PyProof.Rows.sortedHeap_at (vs := vs) (out := out.toArray) hoL
  have hm : ∀ v ∈ out, ∃ b p, v = .ref b ∧ H b = some (.tup ((keyOf p).map kV)) := fun v m => k2 v (o2.perm.mem_iff.mp m)
  let back : Value → Addr := fun v => match v with
    | .ref b => b
    | _ => 0
  have ev : (out.map fun v => ((back v, hkOf (datAt H v)) : Addr × HK)).map (fun y => V.ref y.1) = out.map fun v => V.ref (back v) := by rw [List.map_map]; rfl
  have rv : ∀ l : List Value, (∀ v ∈ l, ∃ b p, v = .ref b ∧ H b = some (.tup ((keyOf p).map kV))) → Vals (l.map fun v => V.ref (back v)) l := by
    intro l
    induction l with
    | nil => intro _; exact .nil
    | cons v l ih =>
      intro hv
      obtain ⟨b, p, rfl, hb⟩ := hv v List.mem_cons_self
      exact .cons rfl (ih fun u m => hv u (List.mem_cons_of_mem _ m))
  have hlen : (out.map fun v => V.ref (back v)).length ≤ sizeLine := by rw [List.length_map, o2.len]; exact hz
  refine wpAny_pure ⟨_, rfl, .ref g.objs.size, upd H g.objs.size (.lst (out.map fun v => V.ref (back v))), I1.laid (t' := tk) (fun b u e => ?_) (Nat.le_refl _)
    (show ObjOk X.prog X.w _ _ _ (.lst (out.map fun v => V.ref (back v))) from ⟨hlen, out, e', rv out hm, he'⟩), rfl, ?_⟩
  · have hb : b < g.objs.size := Heap.lt_size e
    rw [PyProof.Rows.sortedHeap_old (Nat.ne_of_lt hb) (by rw [size_push']; exact Nat.lt_succ_of_lt hb)]
    exact Heap.get?_push_of_some _ e
  · have := q (out.map fun v => (back v, hkOf (datAt H v))) g.objs.size ?_ ?_ ?_ (I1.hok.fresh (Nat.le_refl _))
    · rw [ev] at this
      exact this
    · rw [List.map_map]
      show (out.map fun v => hkOf (datAt H v)).Perm ks
      rw [← k1]
      exact o2.perm.map _
    · rw [List.map_map]
      show (out.map fun v => hkOf (datAt H v)).Pairwise _
      rw [List.pairwise_map]
      refine List.Pairwise.imp_of_mem (fun {x y} mx my hxy => ?_) o1
      obtain ⟨b, p, rfl, hb⟩ := hm x mx
      obtain ⟨c, t, rfl, hc'⟩ := hm y my
      have hxy : Fl.ltD (datAt H (.ref c)) (datAt H (.ref b)) = false := hxy
      rw [datAt_key hb, datAt_key hc'] at hxy
      rw [datAt_key hb, datAt_key hc', hk_dat, hk_dat]
      exact hxy
    · intro y my
      obtain ⟨v, mv, rfl⟩ := List.mem_map.mp my
      obtain ⟨b, p, rfl, hb⟩ := hm v mv
      show H b = some (.tup ((keyOf (hkOf (datAt H (.ref b)))).map kV))
      rw [datAt_key hb, hk_dat]
      exact hb
/-! ### a call of one of several defs, picked by a subscript -/
structure HeldX (X : Cx) (CX : CXT) (k : Nat) (f : Addr) (sp : Sp) : Prop where
  ex : ∃ (fd : FuncData) (ps : List Str), FnOk X.prog X.w X.K X.mg X.base CX k f fd ps sp ∧ PySem.W.keepIn X.K (.ref f) = true ∧ Binds X.K fd ps []
def tCallE (S : Addr → Prop) (sp : Sp) (E : XK) (tf : TE) (t : TA) : TE := fun σ H Q => tf σ H fun v H1 => ∃ f, v = .ref f ∧ S f ∧ t σ H1 fun vs H2 => sp vs H2 Q E
theorem pe_callE {X : Cx} {CX : CXT} {k : Nat} {S : Addr → Prop} {sp : Sp} {E : XK} {o i e : Expr} {es : List Expr} {p pos : Pos} {tf : TE} {t : TA} (A : ∀ f, S f → HeldX X CX k f sp) (hr : Room k X.A) (hx : Passes CX X E) (hf : PE X (.Subscript o i p) tf) (ha : PA X (e :: es) t)
    (he : starEach (e :: es) X.env = (false, eval e X.env) :: starEach es X.env := by rfl) (hpl : (backTo pos (starEach es X.env)).any (·.1) = false := by rfl) : PE X (.Call (.Subscript o i p) (e :: es) [] pos) (tCallE S sp E tf t) := by
  refine ⟨fun pins s σ H Q I h => ?_⟩
  show wpAny _ _ (do callWith pos (← eval (.Subscript o i p) X.env) [] (backTo pos (starEach (e :: es) X.env)) (backToKw pos (keywordEach [] X.env))) _ _ s
  refine wpAny_bind (thn (hf.run pins s σ H _ I h) fun u s1 ⟨v, H1, I1, r1, f, ev, hS, q1⟩ => ?_)
  subst ev
  obtain rfl : u = Value.ref f := r1
  obtain ⟨fd, ps, F, hk, hb⟩ := (A f hS).ex
  refine PySem.W.callWith_K (h₀ := X.base) I.ok.mod.kin hk (thn (ha.run pos pins s1 σ _ _ I1 q1) fun us s2 ⟨vs, H2, I2, r, q⟩ => ⟨I2.kIn, ?_⟩) he hpl
  exact run_fn F hr hb .nil hx I2 r (by rw [List.append_nil]; exact q)
end Gr
/-! ### the rows of a book, one by one -/
def Row.k : Row → Int
  | .ask _ _ k _ _ _ => k
  | .job _ k _ _ => k
  | .all _ a _ => a
theorem at2 (r : Row) : atI r.vals 2 = some (.int r.k) := by cases r <;> rfl
def Row.key (r : Row) : Gr.HK := (r.h, r.k)
def Rws (H : Hp) (xs : List V) (rs : List Row) : Prop := xs.length = rs.length ∧ ∀ (i : Nat) (r : Row), rs[i]? = some r → ∃ a, xs[i]? = some (.ref a) ∧ RowAt H a r
theorem Rws.same {H H' : Hp} {xs : List V} {rs : List Row} (h : Rws H xs rs) (s : Same H H') : Rws H' xs rs := ⟨h.1, fun i r e => let ⟨a, e1, e2⟩ := h.2 i r e; ⟨a, e1, s _ _ e2⟩⟩
/-! a dict of rows by some key of theirs -/
structure DRow {κ : Type} (key : Row → κ) (H : Hp) (P : Row → Prop) (kvs : List (κ × V)) : Prop where
  own : ∀ kv ∈ kvs, ∃ a r, kv.2 = .ref a ∧ RowAt H a r ∧ P r ∧ kv.1 = key r
  all : ∀ r, P r → ∃ v, (key r, v) ∈ kvs
  nd : (kvs.map (·.1)).Nodup
theorem DRow.same {κ : Type} {key : Row → κ} {H H' : Hp} {P : Row → Prop} {kvs : List (κ × V)} (h : DRow key H P kvs) (s : ∀ a r, RowAt H a r → RowAt H' a r) : DRow key H' P kvs :=
  ⟨fun kv m => let ⟨a, r, e1, e2, e3, e4⟩ := h.own kv m; ⟨a, r, e1, s _ _ e2, e3, e4⟩, h.all, h.nd⟩
section
variable {κ : Type} [DecidableEq κ]
theorem put_mem {kvs : List (κ × V)} {k : κ} {v : V} {x : κ × V} (h : x ∈ putK kvs k v) : (x ∈ kvs ∧ x.1 ≠ k) ∨ x = (k, v) := by
  unfold putK at h
  split at h
  · obtain ⟨y, my, rfl⟩ := List.mem_map.mp h
    by_cases e : y.1 = k
    · rw [if_pos e]
      exact .inr (by rw [← e])
    · rw [if_neg e]
      exact .inl ⟨my, e⟩
  · rename_i hn
    rcases List.mem_append.mp h with m | m
    · refine .inl ⟨m, fun e => hn ?_⟩
      exact List.any_eq_true.mpr ⟨x, m, decide_eq_true e⟩
    · exact .inr (List.mem_singleton.mp m)
theorem put_keys (kvs : List (κ × V)) (k : κ) (v : V) : (putK kvs k v).map (·.1) = kvs.map (·.1) ++ (if k ∈ kvs.map (·.1) then [] else [k]) := by
  unfold putK
  by_cases h : (kvs.any fun kv => decide (kv.1 = k)) = true
  · rw [if_pos h]
    obtain ⟨y, my, ey⟩ := List.any_eq_true.mp h
    have ey := of_decide_eq_true ey
    rw [if_pos (List.mem_map.mpr ⟨y, my, ey⟩), List.append_nil, List.map_map]
    refine List.map_congr_left fun z _ => ?_
    show (if z.1 = k then (z.1, v) else z).1 = z.1
    split <;> rfl
  · rw [if_neg h, if_neg, List.map_append]
    · rfl
    · intro m
      obtain ⟨y, my, ey⟩ := List.mem_map.mp m
      exact h (List.any_eq_true.mpr ⟨y, my, decide_eq_true ey⟩)
theorem put_nd {kvs : List (κ × V)} {k : κ} {v : V} (h : (kvs.map (·.1)).Nodup) : ((putK kvs k v).map (·.1)).Nodup := by
  rw [put_keys]
  split
  · rw [List.append_nil]
    exact h
  · rename_i hn
    rw [List.nodup_append]
    refine ⟨h, (by simp), fun a ma b mb e => hn ?_⟩
    rw [← List.mem_singleton.mp mb, ← e]
    exact ma
theorem put_self (kvs : List (κ × V)) (k : κ) (v : V) : (k, v) ∈ putK kvs k v := by
  have h : k ∈ (putK kvs k v).map (·.1) := by
    rw [put_keys]
    split
    · rename_i h
      rw [List.append_nil]
      exact h
    · exact List.mem_append_right _ (List.mem_singleton.mpr rfl)
  obtain ⟨x, mx, ex⟩ := List.mem_map.mp h
  rcases put_mem mx with ⟨_, n⟩ | e
  · exact absurd ex n
  · rw [← e]
    exact mx
theorem put_keep {kvs : List (κ × V)} {k j : κ} {v u : V} (h : (j, u) ∈ kvs) : ∃ z, (j, z) ∈ putK kvs k v := by
  have h2 : j ∈ (putK kvs k v).map (·.1) := by
    rw [put_keys]
    exact List.mem_append_left _ (List.mem_map.mpr ⟨_, h, rfl⟩)
  obtain ⟨x, mx, ex⟩ := List.mem_map.mp h2
  exact ⟨x.2, by rw [← ex]; exact mx⟩
theorem DRow.put {key : Row → κ} {H : Hp} {P : Row → Prop} {kvs : List (κ × V)} {a : Addr} {r : Row} (h : DRow key H P kvs) (ha : RowAt H a r) : DRow key H (fun x => P x ∨ x = r) (putK kvs (key r) (.ref a)) where
  own := fun kv m => by
    rcases put_mem m with ⟨m, _⟩ | e
    · obtain ⟨b, t, e1, e2, e3, e4⟩ := h.own kv m
      exact ⟨b, t, e1, e2, .inl e3, e4⟩
    · exact ⟨a, r, by rw [e], ha, .inr rfl, by rw [e]⟩
  all := fun x hx => by
    rcases hx with hx | rfl
    · obtain ⟨v, m⟩ := h.all x hx
      exact put_keep m
    · exact ⟨_, put_self _ _ _⟩
  nd := put_nd h.nd
theorem val_mem {kvs : List (κ × V)} {k : κ} {v : V} (h : valV kvs k = some v) : (k, v) ∈ kvs := by
  induction kvs with
  | nil => exact nomatch h
  | cons p r ih =>
    by_cases e : p.1 = k
    · rw [valV_pos e] at h
      obtain rfl := Option.some.inj h
      rw [← e]
      exact List.mem_cons_self
    · rw [valV_neg e] at h
      exact List.mem_cons_of_mem _ (ih h)
theorem val_none {kvs : List (κ × V)} {k : κ} (h : valV kvs k = none) : ∀ v, (k, v) ∉ kvs := by
  induction kvs with
  | nil => exact fun _ m => nomatch m
  | cons p r ih =>
    by_cases e : p.1 = k
    · rw [valV_pos e] at h
      cases h
    · rw [valV_neg e] at h
      intro v m
      rcases List.mem_cons.mp m with z | m
      · exact e (by rw [← z])
      · exact ih h v m
end
theorem DRow.iff {κ : Type} {key : Row → κ} {H : Hp} {P P' : Row → Prop} {kvs : List (κ × V)} (h : DRow key H P kvs) (e : ∀ r, P r ↔ P' r) : DRow key H P' kvs := by
  have : P = P' := funext fun r => propext (e r)
  subst this
  exact h
theorem DRow.nil {κ : Type} {key : Row → κ} {H : Hp} {P : Row → Prop} (h : ∀ r, ¬ P r) : DRow key H P [] := ⟨fun _ m => (nomatch m), fun r p => absurd p (h r), List.nodup_nil⟩
def key2 (r : Row) : List Key := Gr.keyOf r.key
theorem put_len {κ : Type} [DecidableEq κ] {kvs : List (κ × V)} {k : κ} {v : V} {n : Nat} (h : kvs.length ≤ n) : (putK kvs k v).length ≤ n + 1 := Nat.le_trans (length_putK kvs k v) (Nat.succ_le_succ h)
theorem small_line {n : Nat} (h : n ≤ 5000) : n < sizeLine := Nat.lt_of_le_of_lt h (by decide)
theorem of_take {rs : List Row} {i : Nat} {r : Row} (e : rs[i]? = some r) (x : Row) : x ∈ rs.take (i + 1) ↔ x ∈ rs.take i ∨ x = r := by
  rw [List.take_add_one, e, Option.toList_some, List.mem_append, List.mem_singleton]
/-! ### rows by their numbers -/
def sp_by_number : Sp := fun vs H Q _ => ∃ (l : Addr) (wd : Str) (xs : List V) (rs : List Row), vs = [.ref l, .str wd] ∧ H l = some (.lst xs) ∧ Rws H xs rs ∧ rs.length ≤ 1000 ∧
  ∀ (D : Addr) (kvs : List (List Key × V)) (H' : Hp), Same H H' → H D = none → H' D = some (.dT kvs) → DRow key2 H' (fun r => r ∈ rs ∧ r.word = wd) kvs → kvs.length ≤ 1000 → Q (.ref D) H'
theorem ok_rows_by_number (T : Txt K mg af fd) : FnOk P w K mg base CX0 1 (af 19) (fd 19) ["rows", "word"] sp_by_number := by
  refine T.F_rows_by_number.ok sc_rows_by_number (fun vs H Q E h => ?_) (fun cdv A outer s H vs Q E hr h => ?_)
  · obtain ⟨l, wd, xs, rs, rfl, _⟩ := h
    rfl
  · obtain ⟨l, wd, xs, rs, rfl, hl, hrs, hlen, q⟩ := h
    refine ⟨_, (pss_one (ps_ret (Gr.pe_dcd true (own := [("row", 2)]) (g := gName 2) (hu_of hr) (by rfl) sc_rows_by_number.nd (pi_list (pv 0)) (blkOk_by (own := [("row", 2)]) (N := ["rows", "word", "row"]) (sc := defScope s_rows_by_number) (by decide +kernel)) (fun _ _ _ _ _ => pg_name (i := 2) sc_rows_by_number.nd rfl (Or.inl rfl)) (fun _ _ _ _ _ => (pts_one (pt_cmpR op_eq (pe_ix (show IxR _ (rIxT K) from ix_tup) (pv 2) pe_int (fun _ _ => rfl)) (pv 1) (nomark _)))) (fun _ _ _ _ _ => (pe_tup (pa_cons (pe_ix (show IxR _ (rIxT K) from ix_tup) (pv 2) pe_int (fun _ _ => rfl)) (pa_cons (pe_ix (show IxR _ (rIxT K) from ix_tup) (pv 2) pe_int (fun _ _ => rfl)) pa_nil)))) (fun _ _ _ _ _ => (pv 2))))), ?_⟩
    refine ⟨_, rfl, l, rfl, ⟨_, SqL.of hl⟩, fun D nD => ?_⟩
    refine Gr.dcd_it (walk_list (K := K) (a := l) (xs := xs)) (fun i H' => Same H H' ∧ ∃ kvs : List (List Key × V), H' D = some (.dT kvs) ∧ DRow key2 H' (fun r => r ∈ rs.take i ∧ r.word = wd) kvs ∧ kvs.length ≤ i)
      ⟨same_upd nD, [], upd_same, .nil (fun r h => by rw [List.take_zero] at h; exact nomatch h.1), Nat.le_refl _⟩ (fun i H' _ h => SqL.of (h.1 _ _ hl)) ?_ ?_
    · rintro i v H1 H2 hi ⟨g1, kvs, hD, dr, hk⟩ ⟨rfl, hv⟩
      have hir : i < rs.length := by rw [← hrs.1]; exact hi
      have er : rs[i]? = some rs[i] := List.getElem?_eq_getElem hir
      generalize rs[i] = r at er
      obtain ⟨a, ea, ha⟩ := hrs.2 i r er
      obtain rfl : V.ref a = v := Option.some.inj (ea.symm.trans hv)
      have ha1 := g1 _ _ ha
      refine ⟨rfl, _, rfl, a, _, 0, _, rfl, rfl, SqT.of ha1, at0 r, _, rfl, rfl, _, rfl, ?_⟩
      refine ite2 (fun ew => ?_) (fun ew => ?_)
      · have ew : r.word = wd := by simpa using ew
        refine ⟨_, rfl, a, _, 1, _, rfl, rfl, SqT.of ha1, at1 r, _, rfl, a, _, 2, _, rfl, rfl, SqT.of ha1, at2 r, (by show 2 ≤ sizeLine; decide), fun b nb => ⟨_, rfl, ?_⟩⟩
        have hDb : (upd H2 b (.tup [.str r.h, .int r.k])) D = some (.dT kvs) := by rw [upd_ne (ne_of_none hD nb)]; exact hD
        refine ⟨_, DPut.t (k := key2 r) hDb (by rw [upd_same]; rfl) (small_line (by omega)), ?_⟩
        have g3 : Same H2 (upd (upd H2 b (.tup [.str r.h, .int r.k])) D (.dT (putK kvs (key2 r) (.ref a)))) → True := fun _ => trivial
        have rows : ∀ c x, RowAt H2 c x → RowAt (upd (upd H2 b (.tup [.str r.h, .int r.k])) D (.dT (putK kvs (key2 r) (.ref a)))) c x := fun c x hc => by
          show (upd (upd H2 b _) D _) c = _
          rw [upd_ne (ne_of hc hD (fun z => nomatch z)), upd_ne (ne_of_none hc nb)]
          exact hc
        refine ⟨same_mut (same_mut g1 (g1.free nb)) nD, _, upd_same, ?_, put_len hk⟩
        refine ((dr.put (a := a) (r := r) ha1).same rows).iff fun x => ?_
        rw [of_take er]
        constructor
        · rintro (⟨h1, h2⟩ | rfl)
          · exact ⟨.inl h1, h2⟩
          · exact ⟨.inr rfl, ew⟩
        · rintro ⟨h1 | rfl, h2⟩
          · exact .inl ⟨h1, h2⟩
          · exact .inr rfl
      · have ew : r.word ≠ wd := by simpa using ew
        refine ⟨g1, kvs, hD, dr.iff fun x => ?_, Nat.le_succ_of_le hk⟩
        rw [of_take er]
        constructor
        · exact fun h => ⟨.inl h.1, h.2⟩
        · rintro ⟨h1 | rfl, h2⟩
          · exact ⟨h1, h2⟩
          · exact absurd h2 ew
    · rintro H1 ⟨g1, kvs, hD, dr, hk⟩
      rw [hrs.1, List.take_length] at dr
      exact q D kvs H1 g1 nD hD dr (by rw [hrs.1] at hk; omega)
/-! ### the rows of a house -/
def Uniq (P : Row → Prop) : Prop := ∀ r t, P r → P t → r.key = t.key → r = t
structure FldT (C : Addr) (H : Hp) (g : Addr) (f : Str) (P : Row → Prop) : Prop where
  ex : ∃ (dx d : Addr) (fs : List (Str × V)) (kvs : List (List Key × V)), H g = some (.ins C dx fs) ∧ fs.lookup f = some (.ref d) ∧ H d = some (.dT kvs) ∧ DRow key2 H P kvs ∧ kvs.length ≤ 1000
  un : Uniq P
theorem Same.rows {H H' : Hp} (s : Same H H') : ∀ a r, RowAt H a r → RowAt H' a r := fun _ _ h => s _ _ h
theorem FldT.same {C : Addr} {H H' : Hp} {g : Addr} {f : Str} {P : Row → Prop} (h : FldT C H g f P) (s : Same H H') : FldT C H' g f P := by
  obtain ⟨dx, d, fs, kvs, h1, h2, h3, h4, h5⟩ := h.ex
  exact ⟨⟨dx, d, fs, kvs, s _ _ h1, h2, s _ _ h3, h4.same (Same.rows s), h5⟩, h.un⟩
structure Sel (H : Hp) (vs : List V) (S : Row → Prop) : Prop where
  own : ∀ v ∈ vs, ∃ a r, v = .ref a ∧ RowAt H a r ∧ S r
  all : ∀ r, S r → ∃ a, V.ref a ∈ vs ∧ RowAt H a r
  len : vs.length ≤ 1000
theorem Sel.same {H H' : Hp} {vs : List V} {S : Row → Prop} (h : Sel H vs S) (s : Same H H') : Sel H' vs S :=
  ⟨fun v m => let ⟨a, r, e1, e2, e3⟩ := h.own v m; ⟨a, r, e1, s _ _ e2, e3⟩, fun r x => let ⟨a, e1, e2⟩ := h.all r x; ⟨a, e1, s _ _ e2⟩, h.len⟩
theorem key2_inj {r t : Row} (h : key2 r = key2 t) : r.key = t.key := by
  unfold key2 Gr.keyOf at h
  injection h with h1 h2
  injection h2 with h3 h4
  injection h1 with h1
  injection h3 with h3
  exact Prod.ext h1 h3
theorem row_inj {H : Hp} {a : Addr} {r t : Row} (h : RowAt H a r) (h2 : RowAt H a t) : r = t := by
  have e : r.vals = t.vals := HO.tup.inj (Option.some.inj (h.symm.trans h2))
  cases r <;> cases t <;> simp [Row.vals, Row.data, Fl.dV] at e <;> first | (obtain ⟨_, _⟩ := e; simp_all) | simp_all | exact absurd e (by decide +kernel)
def sp_of_house (C : Addr) (f : Str) : Sp := fun vs H Q _ => ∃ (g : Addr) (h : Str) (P : Row → Prop), vs = [.ref g, .str h] ∧ FldT C H g f P ∧
  ∀ (D : Addr) (us : List V) (H' : Hp), Same H H' → H D = none → H' D = some (.lst us) → Sel H' us (fun r => P r ∧ r.h = h) → Q (.ref D) H'
theorem ok_asks_of_house (T : Txt K mg af fd) : FnOk P w K mg base CX0 1 (af 21) (fd 21) ["gaps", "house"] (sp_of_house (af 69) "ask_rows") := by
  refine T.F_asks_of_house.ok sc_asks_of_house (fun vs H Q E h => ?_) (fun cdv A outer s H vs Q E hr h => ?_)
  · obtain ⟨g, h, P, rfl, _⟩ := h
    rfl
  · obtain ⟨g, hh, P, rfl, ⟨⟨dx, d, fs, kvs, h1, h2, h3, h4, h5⟩, un⟩, q⟩ := h
    refine ⟨_, (pss_one (ps_ret (pe_lock (pe_lc (own := [("row", 2)]) (g := gName 2) (by rfl) sc_asks_of_house.nd (Gr.pi_valuesT (pe_fld (pv 0) rfl)) (blkOk_by (own := [("row", 2)]) (N := ["gaps", "house", "row"]) (sc := defScope s_asks_of_house) (by decide +kernel)) (fun _ _ _ _ _ => pg_name (i := 2) sc_asks_of_house.nd rfl (Or.inl rfl)) (fun _ _ _ _ _ => (pts_one (pt_cmpR op_eq (pe_ix (show IxR _ (rIxT K) from ix_tup) (pv 2) pe_int (fun _ _ => rfl)) (pv 1) (nomark _)))) (fun _ _ _ _ _ => (pv 2)))))), ?_⟩
    have ngd : g ≠ d := ne_of h1 h3 (fun z => nomatch z)
    refine ⟨d, _, h3, trivial, fun od => ?_⟩
    refine ⟨_, rfl, g, _, dx, fs, _, rfl, (by rw [upd_ne ngd]; exact h1), T.o_Gaps.c, T.o_Gaps.no _ (by simp), h2, d, od, kvs, rfl, upd_same, fun D nD => ?_⟩
    have nDd : D ≠ d := fun e => by rw [e, upd_same] at nD; cases nD
    have nD0 : H D = none := by rw [upd_ne nDd] at nD; exact nD
    refine lc_it (Gr.walk_valuesT (d := d) (o := od) (kvs := kvs)) (fun i H' => (∀ b o, b ≠ d → H b = some o → H' b = some o) ∧ H' d = some (.frz od (.dT kvs)) ∧ ∃ us : List V, H' D = some (.lst us) ∧ (∀ v ∈ us, ∃ a r, v = .ref a ∧ RowAt H a r ∧ P r ∧ r.h = hh) ∧ (∀ j kv, j < i → kvs[j]? = some kv → ∀ a r, kv.2 = .ref a → RowAt H a r → r.h = hh → kv.2 ∈ us) ∧ us.length ≤ i)
      ⟨fun b o nb e => ?_, ?_, [], upd_same, fun _ m => (nomatch m), fun j _ hj => absurd hj (Nat.not_lt_zero j), Nat.le_refl _⟩ (fun i H' _ h => h.2.1) ?_ ?_
    · rw [upd_ne (ne_of_none e nD0), upd_ne nb]
      exact e
    · rw [upd_ne (Ne.symm nDd), upd_same]
    · rintro i v H1 H2 hi ⟨fr, hd, us, hD, own, all, len⟩ ⟨rfl, k, hk⟩
      obtain ⟨a, r, ev, ha, hP, ek⟩ := h4.own _ (List.mem_of_getElem? hk)
      have ev : v = .ref a := ev
      subst ev
      have ha1 : RowAt H2 a r := fr _ _ (ne_of ha h3 (fun z => nomatch z)) ha
      refine ⟨rfl, _, rfl, a, _, 1, _, rfl, rfl, SqT.of ha1, at1 r, _, rfl, rfl, _, rfl, ite2 (fun ew => ?_) (fun ew => ?_)⟩
      · have ew : r.h = hh := by simpa using ew
        refine ⟨_, rfl, us, hD, small_line (by omega), fun b o nb e => ?_, ?_, _, upd_same, fun v m => ?_, fun j kv hj ej c t e1 e2 e3 => ?_, ?_⟩
        · rw [upd_ne (ne_of_none e nD0)]
          exact fr b o nb e
        · rw [upd_ne (Ne.symm nDd)]
          exact hd
        · rcases List.mem_append.mp m with m | m
          · exact own v m
          · rw [List.mem_singleton.mp m]
            exact ⟨a, r, rfl, ha, hP, ew⟩
        · by_cases e : j = i
          · subst e
            obtain rfl := Option.some.inj (hk.symm.trans ej)
            exact List.mem_append_right _ (List.mem_singleton.mpr rfl)
          · exact List.mem_append_left _ (all j kv (by omega) ej c t e1 e2 e3)
        · rw [List.length_append, List.length_singleton]
          omega
      · have ew : r.h ≠ hh := by simpa using ew
        refine ⟨fr, hd, us, hD, own, fun j kv hj ej c t e1 e2 e3 => ?_, Nat.le_succ_of_le len⟩
        by_cases e : j = i
        · subst e
          obtain rfl := Option.some.inj (hk.symm.trans ej)
          obtain rfl : a = c := V.ref.inj e1
          exact absurd e3 (by rw [← row_inj ha e2]; exact ew)
        · exact all j kv (by omega) ej c t e1 e2 e3
    · rintro H1 ⟨fr, hd, us, hD, own, all, len⟩
      refine ⟨hd, ?_⟩
      have sm : Same H (upd H1 d (.dT kvs)) := fun b o e => by
        by_cases nb : b = d
        · subst nb
          rw [upd_same, ← h3]
          exact e
        · rw [upd_ne nb]
          exact fr b o nb e
      refine q D us _ sm nD0 (by rw [upd_ne nDd]; exact hD) ⟨fun v m => ?_, fun r hr => ?_, by omega⟩
      · obtain ⟨a, r, e1, e2, e3, e4⟩ := own v m
        exact ⟨a, r, e1, sm _ _ e2, e3, e4⟩
      · obtain ⟨v, m⟩ := h4.all r hr.1
        obtain ⟨a, t, e1, e2, e3, e4⟩ := h4.own _ m
        have e1 : v = .ref a := e1
        obtain rfl := un r t hr.1 e3 (key2_inj e4)
        obtain ⟨j, hj⟩ := List.getElem?_of_mem m
        have := all j _ (List.getElem?_eq_some_iff.mp hj).1 hj a r e1 e2 hr.2
        exact ⟨a, by rw [← e1]; exact this, sm _ _ e2⟩
theorem ok_jobs_of_house (T : Txt K mg af fd) : FnOk P w K mg base CX0 1 (af 22) (fd 22) ["gaps", "house"] (sp_of_house (af 69) "job_rows") := by
  refine T.F_jobs_of_house.ok sc_jobs_of_house (fun vs H Q E h => ?_) (fun cdv A outer s H vs Q E hr h => ?_)
  · obtain ⟨g, h, P, rfl, _⟩ := h
    rfl
  · obtain ⟨g, hh, P, rfl, ⟨⟨dx, d, fs, kvs, h1, h2, h3, h4, h5⟩, un⟩, q⟩ := h
    refine ⟨_, (pss_one (ps_ret (pe_lock (pe_lc (own := [("row", 2)]) (g := gName 2) (by rfl) sc_jobs_of_house.nd (Gr.pi_valuesT (pe_fld (pv 0) rfl)) (blkOk_by (own := [("row", 2)]) (N := ["gaps", "house", "row"]) (sc := defScope s_jobs_of_house) (by decide +kernel)) (fun _ _ _ _ _ => pg_name (i := 2) sc_jobs_of_house.nd rfl (Or.inl rfl)) (fun _ _ _ _ _ => (pts_one (pt_cmpR op_eq (pe_ix (show IxR _ (rIxT K) from ix_tup) (pv 2) pe_int (fun _ _ => rfl)) (pv 1) (nomark _)))) (fun _ _ _ _ _ => (pv 2)))))), ?_⟩
    have ngd : g ≠ d := ne_of h1 h3 (fun z => nomatch z)
    refine ⟨d, _, h3, trivial, fun od => ?_⟩
    refine ⟨_, rfl, g, _, dx, fs, _, rfl, (by rw [upd_ne ngd]; exact h1), T.o_Gaps.c, T.o_Gaps.no _ (by simp), h2, d, od, kvs, rfl, upd_same, fun D nD => ?_⟩
    have nDd : D ≠ d := fun e => by rw [e, upd_same] at nD; cases nD
    have nD0 : H D = none := by rw [upd_ne nDd] at nD; exact nD
    refine lc_it (Gr.walk_valuesT (d := d) (o := od) (kvs := kvs)) (fun i H' => (∀ b o, b ≠ d → H b = some o → H' b = some o) ∧ H' d = some (.frz od (.dT kvs)) ∧ ∃ us : List V, H' D = some (.lst us) ∧ (∀ v ∈ us, ∃ a r, v = .ref a ∧ RowAt H a r ∧ P r ∧ r.h = hh) ∧ (∀ j kv, j < i → kvs[j]? = some kv → ∀ a r, kv.2 = .ref a → RowAt H a r → r.h = hh → kv.2 ∈ us) ∧ us.length ≤ i)
      ⟨fun b o nb e => ?_, ?_, [], upd_same, fun _ m => (nomatch m), fun j _ hj => absurd hj (Nat.not_lt_zero j), Nat.le_refl _⟩ (fun i H' _ h => h.2.1) ?_ ?_
    · rw [upd_ne (ne_of_none e nD0), upd_ne nb]
      exact e
    · rw [upd_ne (Ne.symm nDd), upd_same]
    · rintro i v H1 H2 hi ⟨fr, hd, us, hD, own, all, len⟩ ⟨rfl, k, hk⟩
      obtain ⟨a, r, ev, ha, hP, ek⟩ := h4.own _ (List.mem_of_getElem? hk)
      have ev : v = .ref a := ev
      subst ev
      have ha1 : RowAt H2 a r := fr _ _ (ne_of ha h3 (fun z => nomatch z)) ha
      refine ⟨rfl, _, rfl, a, _, 1, _, rfl, rfl, SqT.of ha1, at1 r, _, rfl, rfl, _, rfl, ite2 (fun ew => ?_) (fun ew => ?_)⟩
      · have ew : r.h = hh := by simpa using ew
        refine ⟨_, rfl, us, hD, small_line (by omega), fun b o nb e => ?_, ?_, _, upd_same, fun v m => ?_, fun j kv hj ej c t e1 e2 e3 => ?_, ?_⟩
        · rw [upd_ne (ne_of_none e nD0)]
          exact fr b o nb e
        · rw [upd_ne (Ne.symm nDd)]
          exact hd
        · rcases List.mem_append.mp m with m | m
          · exact own v m
          · rw [List.mem_singleton.mp m]
            exact ⟨a, r, rfl, ha, hP, ew⟩
        · by_cases e : j = i
          · subst e
            obtain rfl := Option.some.inj (hk.symm.trans ej)
            exact List.mem_append_right _ (List.mem_singleton.mpr rfl)
          · exact List.mem_append_left _ (all j kv (by omega) ej c t e1 e2 e3)
        · rw [List.length_append, List.length_singleton]
          omega
      · have ew : r.h ≠ hh := by simpa using ew
        refine ⟨fr, hd, us, hD, own, fun j kv hj ej c t e1 e2 e3 => ?_, Nat.le_succ_of_le len⟩
        by_cases e : j = i
        · subst e
          obtain rfl := Option.some.inj (hk.symm.trans ej)
          obtain rfl : a = c := V.ref.inj e1
          exact absurd e3 (by rw [← row_inj ha e2]; exact ew)
        · exact all j kv (by omega) ej c t e1 e2 e3
    · rintro H1 ⟨fr, hd, us, hD, own, all, len⟩
      refine ⟨hd, ?_⟩
      have sm : Same H (upd H1 d (.dT kvs)) := fun b o e => by
        by_cases nb : b = d
        · subst nb
          rw [upd_same, ← h3]
          exact e
        · rw [upd_ne nb]
          exact fr b o nb e
      refine q D us _ sm nD0 (by rw [upd_ne nDd]; exact hD) ⟨fun v m => ?_, fun r hr => ?_, by omega⟩
      · obtain ⟨a, r, e1, e2, e3, e4⟩ := own v m
        exact ⟨a, r, e1, sm _ _ e2, e3, e4⟩
      · obtain ⟨v, m⟩ := h4.all r hr.1
        obtain ⟨a, t, e1, e2, e3, e4⟩ := h4.own _ m
        have e1 : v = .ref a := e1
        obtain rfl := un r t hr.1 e3 (key2_inj e4)
        obtain ⟨j, hj⟩ := List.getElem?_of_mem m
        have := all j _ (List.getElem?_eq_some_iff.mp hj).1 hj a r e1 e2 hr.2
        exact ⟨a, by rw [← e1]; exact this, sm _ _ e2⟩
/-! ### two walks, one within the other -/
namespace Gr
theorem lc2_it {J : It} {n : Nat} {G : Hp → Prop} {Y : Nat → Hp → V → Hp → Prop} (w : Walk J n G Y) {g g1 : TG} {tt tt1 : TT} {wi1 : TI} {te : TE} {own vs1 : List Nat} {σ : L2.St} {H1 : Hp} {D : Addr} {Qd : Hp → Prop} (Pv : Nat → Hp → Prop) (h0 : Pv 0 (upd H1 D (.lst []))) (hG : ∀ i H, i ≤ n → Pv i H → G H)
    (hs : ∀ i x H H', i < n → Pv i H → Y i H x H' → g x (wipe σ own) H' fun σ2 H2 => wipe σ2 own = wipe σ own ∧ tt σ2 H2 fun b H3 =>
      if b = true then wi1 σ2 H3 fun J1 H4 => ∃ W1 : Nat → Nat → Hp → Prop, (∃ m, W1 0 m H4) ∧ ∀ j k H, W1 j k H →
        (J1.stop j H ∧ Pv (i + 1) H) ∨ (J1.go j H ∧ ∃ Nx1 : Hp → Prop, (∀ H', Nx1 H' → ∃ k', k' < k ∧ W1 (j + 1) k' H') ∧ ∀ x H', J1.yld j H x H' → g1 x (wipe σ2 vs1) H' fun σ3 H5 => wipe σ3 vs1 = wipe σ2 vs1 ∧ tt1 σ3 H5 fun b H6 =>
          if b = true then te σ3 H6 fun y H7 => ∃ acc, H7 D = some (.lst acc) ∧ acc.length < sizeLine ∧ Nx1 (upd H7 D (.lst (acc ++ [y]))) else Nx1 H6)
      else Pv (i + 1) H3) (hd : ∀ H, Pv n H → Qd H) :
    ∃ W : Nat → Nat → Hp → Prop, (∃ m, W 0 m (upd H1 D (.lst []))) ∧ ∀ i m H, W i m H →
      (J.stop i H ∧ Qd H) ∨ (J.go i H ∧ ∃ Nx : Hp → Prop, (∀ H', Nx H' → ∃ m', m' < m ∧ W (i + 1) m' H') ∧ ∀ x H', J.yld i H x H' → g x (wipe σ own) H' fun σ2 H2 => wipe σ2 own = wipe σ own ∧ tt σ2 H2 fun b H3 =>
        if b = true then wi1 σ2 H3 fun J1 H4 => ∃ W1 : Nat → Nat → Hp → Prop, (∃ m, W1 0 m H4) ∧ ∀ j k H, W1 j k H →
          (J1.stop j H ∧ Nx H) ∨ (J1.go j H ∧ ∃ Nx1 : Hp → Prop, (∀ H', Nx1 H' → ∃ k', k' < k ∧ W1 (j + 1) k' H') ∧ ∀ x H', J1.yld j H x H' → g1 x (wipe σ2 vs1) H' fun σ3 H5 => wipe σ3 vs1 = wipe σ2 vs1 ∧ tt1 σ3 H5 fun b H6 =>
            if b = true then te σ3 H6 fun y H7 => ∃ acc, H7 D = some (.lst acc) ∧ acc.length < sizeLine ∧ Nx1 (upd H7 D (.lst (acc ++ [y]))) else Nx1 H6)
        else Nx H3) := by
  refine ⟨fun i m H => m = n - i ∧ i ≤ n ∧ Pv i H, ⟨n, by simp, Nat.zero_le _, h0⟩, ?_⟩
  rintro i m G1 ⟨rfl, hi, p⟩
  have gg := hG i G1 hi p
  by_cases hlt : i < n
  · exact .inr ⟨w.goes i G1 hlt gg, Pv (i + 1), fun G2 p2 => ⟨n - (i + 1), by omega, rfl, hlt, p2⟩, fun x G2 y => hs i x G1 G2 hlt p (w.yields i G1 x G2 hlt gg y)⟩
  · have e : i = n := by omega
    subst e
    exact .inl ⟨w.stops G1 gg, hd G1 p⟩
theorem in_it {J : It} {n : Nat} {G : Hp → Prop} {Y : Nat → Hp → V → Hp → Prop} (w : Walk J n G Y) {g : TG} {tt : TT} {te : TE} {own : List Nat} {σ : L2.St} {H0 : Hp} {D : Addr} {Qd : Hp → Prop} (Pv : Nat → Hp → Prop) (h0 : Pv 0 H0) (hG : ∀ i H, i ≤ n → Pv i H → G H)
    (hs : ∀ i x H H', i < n → Pv i H → Y i H x H' → g x (wipe σ own) H' fun σ3 H5 => wipe σ3 own = wipe σ own ∧ tt σ3 H5 fun b H6 =>
      if b = true then te σ3 H6 fun y H7 => ∃ acc, H7 D = some (.lst acc) ∧ acc.length < sizeLine ∧ Pv (i + 1) (upd H7 D (.lst (acc ++ [y]))) else Pv (i + 1) H6) (hd : ∀ H, Pv n H → Qd H) :
    ∃ W1 : Nat → Nat → Hp → Prop, (∃ m, W1 0 m H0) ∧ ∀ j k H, W1 j k H →
      (J.stop j H ∧ Qd H) ∨ (J.go j H ∧ ∃ Nx1 : Hp → Prop, (∀ H', Nx1 H' → ∃ k', k' < k ∧ W1 (j + 1) k' H') ∧ ∀ x H', J.yld j H x H' → g x (wipe σ own) H' fun σ3 H5 => wipe σ3 own = wipe σ own ∧ tt σ3 H5 fun b H6 =>
        if b = true then te σ3 H6 fun y H7 => ∃ acc, H7 D = some (.lst acc) ∧ acc.length < sizeLine ∧ Nx1 (upd H7 D (.lst (acc ++ [y]))) else Nx1 H6) := by
  refine ⟨fun i m H => m = n - i ∧ i ≤ n ∧ Pv i H, ⟨n, by simp, Nat.zero_le _, h0⟩, ?_⟩
  rintro i m G1 ⟨rfl, hi, p⟩
  have gg := hG i G1 hi p
  by_cases hlt : i < n
  · exact .inr ⟨w.goes i G1 hlt gg, Pv (i + 1), fun G2 p2 => ⟨n - (i + 1), by omega, rfl, hlt, p2⟩, fun x G2 y => hs i x G1 G2 hlt p (w.yields i G1 x G2 hlt gg y)⟩
  · have e : i = n := by omega
    subst e
    exact .inl ⟨w.stops G1 gg, hd G1 p⟩
end Gr
/-! ### (house, number) by tuples -/
inductive HKs (H : Hp) : List V → List Gr.HK → Prop
  | nil : HKs H [] []
  | cons {b : Addr} {k : Gr.HK} {us : List V} {ks : List Gr.HK} : H b = some (.tup ((Gr.keyOf k).map kV)) → HKs H us ks → HKs H (.ref b :: us) (k :: ks)
theorem HKs.len {H : Hp} : ∀ {us : List V} {ks : List Gr.HK}, HKs H us ks → us.length = ks.length
  | _, _, .nil => rfl
  | _, _, .cons _ r => by rw [List.length_cons, List.length_cons, r.len]
theorem HKs.go {H H' : Hp} (s : ∀ b xs, H b = some (.tup xs) → H' b = some (.tup xs)) : ∀ {us : List V} {ks : List Gr.HK}, HKs H us ks → HKs H' us ks
  | _, _, .nil => .nil
  | _, _, .cons h r => .cons (s _ _ h) (r.go s)
theorem HKs.snoc {H : Hp} {b : Addr} {k : Gr.HK} (hb : H b = some (.tup ((Gr.keyOf k).map kV))) : ∀ {us : List V} {ks : List Gr.HK}, HKs H us ks → HKs H (us ++ [.ref b]) (ks ++ [k])
  | _, _, .nil => .cons hb .nil
  | _, _, .cons h r => .cons h (r.snoc hb)
theorem HKs.at {H : Hp} : ∀ {us : List V} {ks : List Gr.HK} {i : Nat} {k : Gr.HK}, HKs H us ks → ks[i]? = some k → ∃ b, us[i]? = some (.ref b) ∧ H b = some (.tup ((Gr.keyOf k).map kV))
  | _, _, 0, _, .cons h _, e => ⟨_, rfl, by obtain rfl := Option.some.inj e; exact h⟩
  | _, _, _ + 1, _, .cons _ r, e => r.at e
def below (hs : List Str) (cnt : Str → Nat) : List Gr.HK := hs.flatMap fun h => (List.range (cnt h)).map fun n : Nat => ((h, (n : Int)) : Gr.HK)
theorem mem_below {hs : List Str} {cnt : Str → Nat} {k : Gr.HK} : k ∈ below hs cnt ↔ k.1 ∈ hs ∧ 0 ≤ k.2 ∧ k.2 < (cnt k.1 : Int) := by
  unfold below
  rw [List.mem_flatMap]
  constructor
  · rintro ⟨h, mh, m⟩
    obtain ⟨n, mn, rfl⟩ := List.mem_map.mp m
    have := List.mem_range.mp mn
    exact ⟨mh, Int.natCast_nonneg n, Int.ofNat_lt.mpr this⟩
  · rintro ⟨h1, h2, h3⟩
    refine ⟨k.1, h1, List.mem_map.mpr ⟨k.2.toNat, List.mem_range.mpr (by omega), Prod.ext rfl ?_⟩⟩
    show (k.2.toNat : Int) = k.2
    omega
theorem below_snoc (hs : List Str) (h : Str) (cnt : Str → Nat) : below (hs ++ [h]) cnt = below hs cnt ++ (List.range (cnt h)).map fun n : Nat => ((h, (n : Int)) : Gr.HK) := by
  unfold below
  rw [List.flatMap_append]
  simp
theorem below_len (cnt : Str → Nat) : ∀ hs : List Str, (∀ h ∈ hs, cnt h ≤ 100) → (below hs cnt).length ≤ hs.length * 100
  | [], _ => Nat.le_refl _
  | h :: hs, b => by
    have ih := below_len cnt hs fun x m => b x (List.mem_cons_of_mem _ m)
    have b1 := b h List.mem_cons_self
    have e : (below (h :: hs) cnt).length = cnt h + (below hs cnt).length := by
      unfold below
      rw [List.flatMap_cons, List.length_append, List.length_map, List.length_range]
    rw [e, List.length_cons]
    omega
def sp_below : Sp := fun vs H Q _ => ∃ (t d : Addr) (hs gs : List Str) (kvs : List (Key × V)) (cnt : Str → Nat), vs = [.ref t, .ref d] ∧ TownAt H t hs gs ∧ H d = some (.dK kvs) ∧ hs.length ≤ 6 ∧ (∀ h ∈ hs, valV kvs (.inr h) = some (.int (cnt h : Nat)) ∧ cnt h ≤ 100) ∧
  ∀ (D : Addr) (us : List V) (H' : Hp), Same H H' → H D = none → H' D = some (.lst us) → HKs H' us (below hs cnt) → Q (.ref D) H'
theorem ok_numbers_below (T : Txt K mg af fd) : FnOk P w K mg base CX0 1 (af 20) (fd 20) ["town", "counts"] sp_below := by
  refine T.F_numbers_below.ok sc_numbers_below (fun vs H Q E h => ?_) (fun cdv A outer s H vs Q E hr h => ?_)
  · obtain ⟨t, d, hs, gs, kvs, cnt, rfl, _⟩ := h
    rfl
  · obtain ⟨t, d, hs, gs, kvs, cnt, rfl, ⟨ta, tb, t1, t2, t3⟩, hd, h6, hv, q⟩ := h
    refine ⟨_, (pss_one (ps_ret (pe_lc2 (own := [("house", 2), ("number", 3)]) (vs1 := [3]) (g := gName 2) (g1 := gName 3) (by rfl) sc_numbers_below.nd (pi_tup (pe_ix ix_tup (pv 0) pe_int (fun _ _ => rfl))) (blkOk_by (own := [("house", 2), ("number", 3)]) (N := ["town", "counts", "house", "number"]) (sc := defScope s_numbers_below) (by decide +kernel)) (by decide) (fun _ _ _ _ _ => pg_name (i := 2) sc_numbers_below.nd rfl (Or.inl rfl)) (fun _ _ _ _ _ => pts_nil) (fun _ _ _ _ _ => (pi_range1 (by rfl) T.m_range (pa_cons (pe_dget (hu_of hr) (pv 1) (pv 2) (fun _ _ => rfl)) pa_nil))) (fun _ _ _ _ _ => pg_name (i := 3) sc_numbers_below.nd rfl (Or.inl rfl)) (fun _ _ _ _ _ => pts_nil) (fun _ _ _ _ _ => (pe_tup (pa_cons (pv 2) (pa_cons (pv 3) pa_nil))))))), ?_⟩
    refine ⟨_, rfl, t, _, 0, _, rfl, rfl, SqT.of t1, rfl, ta, rfl, ⟨_, SqT.of t2⟩, fun D nD => ?_⟩
    refine Gr.lc2_it (walk_tup (K := K) (a := ta) (xs := hs.map V.str)) (fun i H' => Same H H' ∧ ∃ us, H' D = some (.lst us) ∧ HKs H' us (below (hs.take i) cnt))
      ⟨same_upd nD, [], upd_same, by rw [List.take_zero]; exact .nil⟩ (fun i H' _ h => SqT.of (h.1 _ _ t2)) ?_ ?_
    · rintro i v H1 H2 hi ⟨g1, us, hD, hk⟩ ⟨rfl, ev⟩
      rw [List.length_map] at hi
      have eh : hs[i]? = some hs[i] := List.getElem?_eq_getElem hi
      have mh : hs[i] ∈ hs := List.getElem_mem hi
      generalize hs[i] = h at eh mh
      rw [List.getElem?_map, eh] at ev
      obtain rfl : V.str h = v := Option.some.inj ev
      obtain ⟨hv1, hv2⟩ := hv h mh
      have hd2 := g1 _ _ hd
      have blen : (below (hs.take i) cnt).length ≤ 600 := by
        have := below_len cnt (hs.take i) fun x m => (hv x (List.mem_of_mem_take m)).2
        have l2 : (hs.take i).length ≤ 6 := Nat.le_trans (List.length_take_le ..) (by omega)
        omega
      refine ⟨rfl, yes_if ?_⟩
      refine ⟨_, rfl, _, rfl, d, _, rfl, (by rw [← hv1]; exact DGet.k (k := Sum.inr h) hd2), _, rfl, by omega, by omega, ?_⟩
      refine Gr.in_it (walk_range (lo := 0) (n := ((cnt h : Nat) : Int).toNat)) (fun j H' => Same H H' ∧ ∃ us, H' D = some (.lst us) ∧ HKs H' us (below (hs.take i) cnt ++ (List.range j).map fun n : Nat => ((h, (n : Int)) : Gr.HK)))
        ⟨g1, us, hD, by rw [List.range_zero, List.map_nil, List.append_nil]; exact hk⟩ (fun _ _ _ _ => trivial) ?_ ?_
      · rintro j w H3 H4 hj ⟨g3, us3, hD3, hk3⟩ ⟨rfl, rfl⟩
        rw [Int.toNat_natCast] at hj
        refine ⟨rfl, yes_if ⟨_, rfl, _, rfl, (by show 2 ≤ sizeLine; decide), fun b nb => ?_⟩⟩
        have hDb : (upd H4 b (.tup [.str h, .int (0 + (j : Nat))])) D = some (.lst us3) := by rw [upd_ne (ne_of_none hD3 nb)]; exact hD3
        have l3 := hk3.len
        rw [List.length_append, List.length_map, List.length_range] at l3
        refine ⟨us3, hDb, small_line (by omega), same_mut (same_mut g3 (g3.free nb)) nD, _, upd_same, ?_⟩
        rw [List.range_succ, List.map_append, ← List.append_assoc]
        have tup : ∀ c xs, H4 c = some (.tup xs) → (upd (upd H4 b (.tup [.str h, .int (0 + (j : Nat))])) D (.lst (us3 ++ [.ref b]))) c = some (.tup xs) := fun c xs e => by
          rw [upd_ne (ne_of e hD3 (fun z => nomatch z)), upd_ne (ne_of_none e nb)]
          exact e
        refine (hk3.go tup).snoc (k := (h, (j : Int))) ?_
        rw [upd_ne (fun z => by rw [z] at nb; rw [nb] at hD3; cases hD3), upd_same, Int.zero_add]
        rfl
      · rintro H3 ⟨g3, us3, hD3, hk3⟩
        rw [Int.toNat_natCast] at hk3
        refine ⟨g3, us3, hD3, ?_⟩
        rw [List.take_add_one, eh, Option.toList_some, below_snoc]
        exact hk3
    · rintro H1 ⟨g1, us, hD, hk⟩
      rw [List.length_map, List.take_length] at hk
      exact q D us H1 g1 nD hD hk
/-! ### the earliest, the latest -/
def sp_best (le : Int → Int → Prop) : Sp := fun vs H Q _ => ∃ (l : Addr) (ns : List Int), vs = [.ref l] ∧ H l = some (.lst (ns.map V.int)) ∧ ∀ v, Gr.Best le ns .non v → Q v H
theorem ok_earliest (T : Txt K mg af fd) : FnOk P w K mg base CX0 1 (af 25) (fd 25) ["times"] (sp_best fun y m => m ≤ y) := by
  refine T.F_earliest.ok sc_earliest (fun vs H Q E h => ?_) (fun cdv A outer s H vs Q E hr h => ?_)
  · obtain ⟨l, ns, rfl, _⟩ := h
    rfl
  · obtain ⟨l, ns, rfl, hl, q⟩ := h
    refine ⟨_, (pss_one (ps_ret (pe_callBK (Gr.cr_minDf rfl (hu_of hr)) (by rfl) T.m_min (by decide +kernel) (pa_cons (pv 0) pa_nil) (pk_cons pe_non pk_nil)))), ?_⟩
    exact ⟨_, rfl, l, ns, _, rfl, rfl, SqL.of hl, q⟩
theorem ok_latest (T : Txt K mg af fd) : FnOk P w K mg base CX0 1 (af 26) (fd 26) ["times"] (sp_best fun y m => y ≤ m) := by
  refine T.F_latest.ok sc_latest (fun vs H Q E h => ?_) (fun cdv A outer s H vs Q E hr h => ?_)
  · obtain ⟨l, ns, rfl, _⟩ := h
    rfl
  · obtain ⟨l, ns, rfl, hl, q⟩ := h
    refine ⟨_, (pss_one (ps_ret (pe_callBK (Gr.cr_maxDf rfl (hu_of hr)) (by rfl) T.m_max (by decide +kernel) (pa_cons (pv 0) pa_nil) (pk_cons pe_non pk_nil)))), ?_⟩
    exact ⟨_, rfl, l, ns, _, rfl, rfl, SqL.of hl, q⟩
/-! ### what stands in a row, by its place -/
def Row.x3 : Row → Int
  | .ask _ _ _ n _ _ => n
  | .job _ _ o _ => o
  | .all _ _ j => j
def Row.x5 : Row → Int
  | .ask _ _ _ _ o _ => o
  | _ => 0
def Row.x6 : Row → Int
  | .ask _ _ _ _ _ b => b
  | _ => 0
theorem at3 (r : Row) : atI r.vals 3 = some (.int r.x3) := by cases r <;> rfl
theorem w_ja' : ("job" : Str) ≠ ("ask" : Str) := fun e => w_aj e.symm
theorem w_la : ("all" : Str) ≠ ("ask" : Str) := fun e => w_aa e.symm
theorem at5 {r : Row} (h : r.word = "ask") : atI r.vals 5 = some (.int r.x5) := by
  cases r with
  | ask _ _ _ _ _ _ => rfl
  | job _ _ _ _ => exact absurd h w_ja'
  | all _ _ _ => exact absurd h w_la
theorem at6 {r : Row} (h : r.word = "ask") : atI r.vals 6 = some (.int r.x6) := by
  cases r with
  | ask _ _ _ _ _ _ => rfl
  | job _ _ _ _ => exact absurd h w_ja'
  | all _ _ _ => exact absurd h w_la
theorem wipe_one (σ : L2.St) (i : Nat) (v : V) : wipe ((wipe σ [i]).set i (some v)) [i] = wipe σ [i] := by
  show ((σ.set i none).set i (some v)).set i none = σ.set i none
  rw [List.set_set, List.set_set]
/-! a list of ints made of selected rows -/
theorem sel_map {l D : Addr} {us : List V} {S : Row → Prop} {σ : L2.St} {i : Nat} {tt : TT} {te : TE} {H1 : Hp} {Qd : Hp → Prop} (c : Row → Bool) (f : Row → Int) (hl : H1 l = some (.lst us)) (hS : Sel H1 us S) (nD : H1 D = none)
    (htt : ∀ a r H2 (Kt : Bool → Hp → Prop), S r → RowAt H2 a r → Kt (c r) H2 → tt ((wipe σ [i]).set i (some (.ref a))) H2 Kt)
    (hte : ∀ a r H2 (Ke : V → Hp → Prop), S r → c r = true → RowAt H2 a r → Ke (.int (f r)) H2 → te ((wipe σ [i]).set i (some (.ref a))) H2 Ke)
    (hd : ∀ (ns : List Int) (H' : Hp), Same H1 H' → H' D = some (.lst (ns.map V.int)) → (∀ n, n ∈ ns ↔ ∃ r, S r ∧ c r = true ∧ f r = n) → ns.length ≤ 1000 → Qd H') :
    ∃ W : Nat → Nat → Hp → Prop, (∃ m, W 0 m (upd H1 D (.lst []))) ∧ ∀ k m H, W k m H →
      ((Itl K l).stop k H ∧ Qd H) ∨ ((Itl K l).go k H ∧ ∃ Nx : Hp → Prop, (∀ H', Nx H' → ∃ m', m' < m ∧ W (k + 1) m' H') ∧ ∀ x H', (Itl K l).yld k H x H' → gName i x (wipe σ [i]) H' fun σ2 H2 => wipe σ2 [i] = wipe σ [i] ∧ tt σ2 H2 fun b H3 =>
        if b = true then te σ2 H3 fun y H4 => ∃ acc, H4 D = some (.lst acc) ∧ acc.length < sizeLine ∧ Nx (upd H4 D (.lst (acc ++ [y]))) else Nx H3) := by
  refine lc_it (walk_list (K := K) (a := l) (xs := us)) (g := gName i) (fun k H' => Same H1 H' ∧ ∃ ns : List Int, H' D = some (.lst (ns.map V.int)) ∧ (∀ n ∈ ns, ∃ r, S r ∧ c r = true ∧ f r = n) ∧ (∀ j a r, j < k → us[j]? = some (.ref a) → RowAt H1 a r → c r = true → f r ∈ ns) ∧ ns.length ≤ k)
    ⟨same_upd nD, [], upd_same, fun _ m => (nomatch m), fun j _ _ hj => absurd hj (Nat.not_lt_zero j), Nat.le_refl _⟩ (fun k H' _ h => SqL.of (h.1 _ _ hl)) ?_ ?_
  · rintro k v G1 G2 hk ⟨g1, ns, hD, own, all, len⟩ ⟨rfl, ev⟩
    obtain ⟨a, r, rfl, ha, hs⟩ := hS.own v (List.mem_of_getElem? ev)
    refine ⟨wipe_one σ i _, htt a r G2 _ hs (g1 _ _ ha) ?_⟩
    have hlen := hS.len
    cases hc : c r with
    | true =>
      refine iteT (hte a r G2 _ hs hc (g1 _ _ ha) ⟨_, hD, small_line (by rw [List.length_map]; omega), same_mut g1 nD, ns ++ [f r], ?_, fun n m => ?_, fun j b t hj eb hb ht => ?_, ?_⟩)
      · rw [upd_same, List.map_append]
        rfl
      · rcases List.mem_append.mp m with m | m
        · exact own n m
        · exact ⟨r, hs, hc, (List.mem_singleton.mp m).symm⟩
      · by_cases e : j = k
        · subst e
          obtain rfl : a = b := V.ref.inj (Option.some.inj (ev.symm.trans eb))
          obtain rfl := row_inj ha hb
          exact List.mem_append_right _ (List.mem_singleton.mpr rfl)
        · exact List.mem_append_left _ (all j b t (by omega) eb hb ht)
      · rw [List.length_append, List.length_singleton]
        omega
    | false =>
      refine iteF ⟨g1, ns, hD, own, fun j b t hj eb hb ht => ?_, Nat.le_succ_of_le len⟩
      by_cases e : j = k
      · subst e
        obtain rfl : a = b := V.ref.inj (Option.some.inj (ev.symm.trans eb))
        obtain rfl := row_inj ha hb
        rw [hc] at ht
        cases ht
      · exact all j b t (by omega) eb hb ht
  · rintro G1 ⟨g1, ns, hD, own, all, len⟩
    refine hd ns G1 g1 hD (fun n => ⟨own n, ?_⟩) (Nat.le_trans len hS.len)
    rintro ⟨r, hs, hc, rfl⟩
    obtain ⟨a, m, ha⟩ := hS.all r hs
    obtain ⟨j, hj⟩ := List.getElem?_of_mem m
    exact all j a r (List.getElem?_eq_some_iff.mp hj).1 hj ha hc
/-! the best of a set of ints -/
def BestS (le : Int → Int → Prop) (S : Int → Prop) (d v : V) : Prop := ((∀ n, ¬ S n) ∧ v = d) ∨ ∃ m, S m ∧ (∀ y, S y → le y m) ∧ v = .int m
theorem best_of {le : Int → Int → Prop} {S : Int → Prop} {ns : List Int} {d v : V} (h : Gr.Best le ns d v) (e : ∀ n, n ∈ ns ↔ S n) : BestS le S d v := by
  rcases h with ⟨rfl, rfl⟩ | ⟨m, h1, h2, rfl⟩
  · exact .inl ⟨fun n s => (nomatch (e n).mpr s), rfl⟩
  · exact .inr ⟨m, (e m).mp h1, fun y s => h2 y ((e y).mpr s), rfl⟩
abbrev geS := BestS fun y m => y ≤ m
abbrev leS := BestS fun y m => m ≤ y
/-! ### the rows of a book by their word -/
def Bk (rs : List Row) (wd : Str) (r : Row) : Prop := r ∈ rs ∧ r.word = wd
def keyH (r : Row) : Key := .inr r.h
structure FldK (C : Addr) (H : Hp) (g : Addr) (f : Str) (P : Row → Prop) : Prop where
  ex : ∃ (dx d : Addr) (fs : List (Str × V)) (kvs : List (Key × V)), H g = some (.ins C dx fs) ∧ fs.lookup f = some (.ref d) ∧ H d = some (.dK kvs) ∧ DRow keyH H P kvs ∧ kvs.length ≤ 1000
  un : ∀ r t, P r → P t → r.h = t.h → r = t
theorem FldK.same {C : Addr} {H H' : Hp} {g : Addr} {f : Str} {P : Row → Prop} (h : FldK C H g f P) (s : Same H H') : FldK C H' g f P := by
  obtain ⟨dx, d, fs, kvs, h1, h2, h3, h4, h5⟩ := h.ex
  exact ⟨⟨dx, d, fs, kvs, s _ _ h1, h2, s _ _ h3, h4.same (Same.rows s), h5⟩, h.un⟩
/-! the three dicts of rows -/
structure Low (C : Addr) (H : Hp) (g : Addr) (rs : List Row) : Prop where
  a : FldT C H g "ask_rows" (Bk rs "ask")
  j : FldT C H g "job_rows" (Bk rs "job")
  l : FldK C H g "all_rows" (Bk rs "all")
  wf : ∀ r ∈ rs, r.Wf
theorem Low.same {C : Addr} {H H' : Hp} {g : Addr} {rs : List Row} (h : Low C H g rs) (s : Same H H') : Low C H' g rs := ⟨h.a.same s, h.j.same s, h.l.same s, h.wf⟩
def AskOf (rs : List Row) (h : Str) (r : Row) : Prop := Bk rs "ask" r ∧ r.h = h
def JobOf (rs : List Row) (h : Str) (r : Row) : Prop := Bk rs "job" r ∧ r.h = h
def AllOf (rs : List Row) (h : Str) (r : Row) : Prop := Bk rs "all" r ∧ r.h = h
/-! how many asks, how many jobs there were -/
def CntA (rs : List Row) (h : Str) (n : Int) : Prop := (∃ r, AllOf rs h r ∧ n = r.k) ∨ ((∀ r, ¬ AllOf rs h r) ∧ ∃ m, geS (fun x => ∃ r, AskOf rs h r ∧ r.k = x) (.int (-1)) (.int m) ∧ n = 1 + m)
def CntJ (rs : List Row) (h : Str) (n : Int) : Prop := (∃ r, AllOf rs h r ∧ n = r.x3) ∨ ((∀ r, ¬ AllOf rs h r) ∧ ∃ m, geS (fun x => (∃ r, JobOf rs h r ∧ r.k = x) ∨ ∃ r, AskOf rs h r ∧ r.x3 = x) (.int (-1)) (.int m) ∧ n = 1 + m)
theorem best_int {le : Int → Int → Prop} {ns : List Int} {d : Int} {v : V} (h : Gr.Best le ns (.int d) v) : ∃ m, v = .int m ∧ (m = d ∨ m ∈ ns) := by
  rcases h with ⟨_, rfl⟩ | ⟨m, h1, _, rfl⟩
  · exact ⟨d, rfl, .inl rfl⟩
  · exact ⟨m, rfl, .inr h1⟩
theorem wf_k {r : Row} (h : r.Wf) : 0 ≤ r.k ∧ r.k ≤ 15 := by
  cases r with
  | ask h g k n o b =>
    have := h.2.2.1
    exact ⟨this.1, by have := this.2; show k ≤ 15; omega⟩
  | job h k o b =>
    have := h.2.1
    exact ⟨this.1, by have := this.2; show k ≤ 15; omega⟩
  | all h a j => exact h.2.1
theorem wf_x3 {r : Row} (h : r.Wf) (hw : r.word ≠ "job") : 0 ≤ r.x3 ∧ r.x3 ≤ 15 := by
  cases r with
  | ask h g k n o b =>
    have := h.2.2.2.1
    exact ⟨this.1, by have := this.2; show n ≤ 15; omega⟩
  | job h k o b => exact absurd rfl hw
  | all h a j => exact h.2.2
def sp_count (C : Addr) (R : List Row → Str → Int → Prop) : Sp := fun vs H Q _ => ∃ (g : Addr) (h : Str) (rs : List Row), vs = [.ref g, .str h] ∧ Low C H g rs ∧ ∀ (n : Nat) (H' : Hp), Same H H' → n ≤ 16 → R rs h (n : Nat) → Q (.int (n : Nat)) H'
theorem val_row {κ : Type} [DecidableEq κ] {key : Row → κ} {H : Hp} {P : Row → Prop} {kvs : List (κ × V)} (d : DRow key H P kvs) (k : κ) : (∃ a r, valV kvs k = some (.ref a) ∧ RowAt H a r ∧ P r ∧ k = key r) ∨ (valV kvs k = none ∧ ∀ r, P r → key r ≠ k) := by
  cases e : valV kvs k with
  | some v =>
    obtain ⟨a, r, e1, e2, e3, e4⟩ := d.own _ (val_mem e)
    exact .inl ⟨a, r, by rw [← e1], e2, e3, e4⟩
  | none =>
    refine .inr ⟨rfl, fun r hr ek => ?_⟩
    obtain ⟨v, m⟩ := d.all r hr
    rw [ek] at m
    exact val_none e v m
theorem ok_count_asks (T : Txt K mg af fd) : FnOk P w K mg base CX0 2 (af 23) (fd 23) ["gaps", "house"] (sp_count (af 69) CntA) := by
  refine T.F_count_asks.ok sc_count_asks (fun vs H Q E h => ?_) (fun cdv A outer s H vs Q E hr h => ?_)
  · obtain ⟨g, h, rs, rfl, _⟩ := h
    rfl
  · obtain ⟨g, hh, rs, rfl, L, q⟩ := h
    refine ⟨_, (pss_cons (ps_if (pt_cmp (pc_din (hu_of hr) (pv 1) (pe_fld (pv 0) rfl))) (pss_one (ps_ret (pe_ix ix_tup (pe_dget (hu_of hr) (pe_fld (pv 0) rfl) (pv 1) (fun _ _ => rfl)) pe_int (fun _ _ => rfl)))) pss_nil)
        (pss_one (ps_ret (pe_op op_add pe_int (pe_callBK (Gr.cr_maxDf rfl (hu_of hr)) (by rfl) T.m_max (by decide +kernel) (pa_cons (pe_lc (own := [("row", 2)]) (g := gName 2) (by rfl) sc_count_asks.nd (pi_list (pe_call (ok_asks_of_house T) (hr.mono (by first | decide | omega)) (by rfl) T.g_asks_of_house T.F_asks_of_house.kp T.b_asks_of_house .nil pass0 (pa_cons (pv 0) (pa_cons (pv 1) pa_nil)))) (blkOk_by (own := [("row", 2)]) (N := ["gaps", "house", "row"]) (sc := defScope s_count_asks) (by decide +kernel)) (fun _ _ _ _ _ => pg_name (i := 2) sc_count_asks.nd rfl (Or.inl rfl)) (fun _ _ _ _ _ => pts_nil) (fun _ _ _ _ _ => (pe_ix (show IxR _ (rIxT K) from ix_tup) (pv 2) pe_int (fun _ _ => rfl)))) pa_nil) (pk_cons (pe_un un_neg pe_int) pk_nil)))))), ?_⟩
    obtain ⟨dx, d, fs, kvs, l1, l2, l3, l4, l5⟩ := L.l.ex
    refine ⟨_, rfl, _, rfl, g, _, dx, fs, _, rfl, l1, T.o_Gaps.c, T.o_Gaps.no _ (by simp), l2, d, _, rfl, DGet.k (k := Sum.inr hh) l3, _, rfl, ?_⟩
    rcases val_row l4 (Sum.inr hh : Key) with ⟨a, r, e1, e2, e3, e4⟩ | ⟨e1, e2⟩
    · have eh : r.h = hh := (Sum.inr.inj e4).symm
      rw [e1]
      refine iteT ⟨_, rfl, g, _, dx, fs, _, rfl, l1, T.o_Gaps.c, T.o_Gaps.no _ (by simp), l2, _, rfl, d, _, rfl, (by rw [← e1]; exact DGet.k (k := Sum.inr hh) l3), a, _, 2, _, rfl, rfl, SqT.of e2, at2 r, ?_⟩
      obtain ⟨b1, b2⟩ := wf_k (L.wf r e3.1)
      have := q r.k.toNat H (Same.refl _) (by omega) (.inl ⟨r, ⟨e3, eh⟩, by omega⟩)
      rw [show ((r.k.toNat : Nat) : Int) = r.k by omega] at this
      exact this
    · rw [e1]
      refine iteF ?_
      refine ⟨_, rfl, _, rfl, g, hh, _, rfl, L.a, fun D us H1 s1 nD hD hS => ?_⟩
      refine ⟨D, rfl, ⟨_, SqL.of hD⟩, fun D2 nD2 => ?_⟩
      refine sel_map (fun _ => true) Row.k hD hS nD2 (fun a r H2 Kt hs ha hk => hk) (fun a r H2 Ke hs hc ha hk => ⟨_, rfl, a, _, 2, _, rfl, rfl, SqT.of ha, at2 r, hk⟩) (fun ns H2 s2 hD2 hns hlen => ?_)
      refine ⟨_, rfl, D2, ns, _, rfl, rfl, SqL.of hD2, fun v hv => ?_⟩
      obtain ⟨m, rfl, hm⟩ := best_int hv
      refine ⟨_, _, rfl, rfl, ?_⟩
      have hb : -1 ≤ m ∧ m ≤ 15 := by
        rcases hm with rfl | hm
        · exact ⟨by decide, by decide⟩
        · obtain ⟨r, hs, _, rfl⟩ := (hns m).mp hm
          have := wf_k (L.wf r hs.1.1)
          omega
      have := q (1 + m).toNat H2 (s1.trans s2) (by omega) (.inr ⟨fun r hr => e2 r hr.1 (congrArg Sum.inr hr.2), m, best_of hv fun n => ?_, by omega⟩)
      · rw [show (((1 + m).toNat : Nat) : Int) = 1 + m by omega] at this
        exact this
      · rw [hns]
        constructor
        · rintro ⟨r, h1, _, h2⟩
          exact ⟨r, h1, h2⟩
        · rintro ⟨r, h1, h2⟩
          exact ⟨r, h1, rfl, h2⟩
theorem and_ex {S c : Row → Prop} [DecidablePred c] {f : Row → Int} {ns : List Int} (h : ∀ n, n ∈ ns ↔ ∃ r, S r ∧ (decide (c r)) = true ∧ f r = n) (n : Int) : n ∈ ns ↔ ∃ r, S r ∧ c r ∧ f r = n := by
  rw [h]
  constructor
  · rintro ⟨r, h1, h2, h3⟩
    exact ⟨r, h1, of_decide_eq_true h2, h3⟩
  · rintro ⟨r, h1, h2, h3⟩
    exact ⟨r, h1, decide_eq_true h2, h3⟩
theorem all_ex {S : Row → Prop} {f : Row → Int} {ns : List Int} (h : ∀ n, n ∈ ns ↔ ∃ r, S r ∧ (fun _ : Row => true) r = true ∧ f r = n) (n : Int) : n ∈ ns ↔ ∃ r, S r ∧ f r = n := by
  rw [h]
  constructor
  · rintro ⟨r, h1, _, h3⟩
    exact ⟨r, h1, h3⟩
  · rintro ⟨r, h1, h3⟩
    exact ⟨r, h1, rfl, h3⟩
theorem ok_count_jobs (T : Txt K mg af fd) : FnOk P w K mg base CX0 2 (af 24) (fd 24) ["gaps", "house"] (sp_count (af 69) CntJ) := by
  refine T.F_count_jobs.ok sc_count_jobs (fun vs H Q E h => ?_) (fun cdv A outer s H vs Q E hr h => ?_)
  · obtain ⟨g, h, rs, rfl, _⟩ := h
    rfl
  · obtain ⟨g, hh, rs, rfl, L, q⟩ := h
    refine ⟨_, (pss_cons (ps_if (pt_cmp (pc_din (hu_of hr) (pv 1) (pe_fld (pv 0) rfl))) (pss_one (ps_ret (pe_ix ix_tup (pe_dget (hu_of hr) (pe_fld (pv 0) rfl) (pv 1) (fun _ _ => rfl)) pe_int (fun _ _ => rfl)))) pss_nil)
        (pss_cons (ps_setLc (i := 2) (own := [("row", 3)]) (g := gName 3) (by rfl) sc_count_jobs.nd rfl rfl (sw_true rfl rfl rfl (by decide +kernel)) (pi_list (pe_call (ok_jobs_of_house T) (hr.mono (by first | decide | omega)) (by rfl) T.g_jobs_of_house T.F_jobs_of_house.kp T.b_jobs_of_house .nil pass0 (pa_cons (pv 0) (pa_cons (pv 1) pa_nil)))) (blkOk_by (own := [("row", 3)]) (N := ["gaps", "house", "done", "row", "asked_in"]) (sc := defScope s_count_jobs) (by decide +kernel)) (fun _ _ _ _ _ => pg_name (i := 3) sc_count_jobs.nd rfl (Or.inl rfl)) (fun _ _ _ _ _ => pts_nil) (fun _ _ _ _ _ => (pe_ix (show IxR _ (rIxT K) from ix_tup) (pv 3) pe_int (fun _ _ => rfl))))
        (pss_cons (ps_setLc (i := 4) (own := [("row", 3)]) (g := gName 3) (by rfl) sc_count_jobs.nd rfl rfl (sw_true rfl rfl rfl (by decide +kernel)) (pi_list (pe_call (ok_asks_of_house T) (hr.mono (by first | decide | omega)) (by rfl) T.g_asks_of_house T.F_asks_of_house.kp T.b_asks_of_house .nil pass0 (pa_cons (pv 0) (pa_cons (pv 1) pa_nil)))) (blkOk_by (own := [("row", 3)]) (N := ["gaps", "house", "done", "row", "asked_in"]) (sc := defScope s_count_jobs) (by decide +kernel)) (fun _ _ _ _ _ => pg_name (i := 3) sc_count_jobs.nd rfl (Or.inl rfl)) (fun _ _ _ _ _ => pts_nil) (fun _ _ _ _ _ => (pe_ix (show IxR _ (rIxT K) from ix_tup) (pv 3) pe_int (fun _ _ => rfl))))
        (pss_one (ps_ret (pe_op op_add pe_int (pe_callBK (Gr.cr_maxDf rfl (hu_of hr)) (by rfl) T.m_max (by decide +kernel) (pa_cons (pe_op op_cat (pv 2) (pv 4)) pa_nil) (pk_cons (pe_un un_neg pe_int) pk_nil)))))))), ?_⟩
    obtain ⟨dx, d, fs, kvs, l1, l2, l3, l4, l5⟩ := L.l.ex
    refine ⟨_, rfl, _, rfl, g, _, dx, fs, _, rfl, l1, T.o_Gaps.c, T.o_Gaps.no _ (by simp), l2, d, _, rfl, DGet.k (k := Sum.inr hh) l3, _, rfl, ?_⟩
    rcases val_row l4 (Sum.inr hh : Key) with ⟨a, r, e1, e2, e3, e4⟩ | ⟨e1, e2⟩
    · have eh : r.h = hh := (Sum.inr.inj e4).symm
      rw [e1]
      refine iteT ⟨_, rfl, g, _, dx, fs, _, rfl, l1, T.o_Gaps.c, T.o_Gaps.no _ (by simp), l2, _, rfl, d, _, rfl, (by rw [← e1]; exact DGet.k (k := Sum.inr hh) l3), a, _, 3, _, rfl, rfl, SqT.of e2, at3 r, ?_⟩
      obtain ⟨b1, b2⟩ := wf_x3 (L.wf r e3.1) (by rw [e3.2]; exact fun z => w_ja z.symm)
      have := q r.x3.toNat H (Same.refl _) (by omega) (.inl ⟨r, ⟨e3, eh⟩, by omega⟩)
      rw [show ((r.x3.toNat : Nat) : Int) = r.x3 by omega] at this
      exact this
    · rw [e1]
      refine iteF ?_
      refine ⟨_, rfl, _, rfl, g, hh, _, rfl, L.j, fun D us H1 s1 nD hD hS => ?_⟩
      refine ⟨D, rfl, ⟨_, SqL.of hD⟩, fun D2 nD2 => ?_⟩
      refine sel_map (fun _ => true) Row.k hD hS nD2 (fun a r H2 Kt hs ha hk => hk) (fun a r H2 Ke hs hc ha hk => ⟨_, rfl, a, _, 2, _, rfl, rfl, SqT.of ha, at2 r, hk⟩) (fun ns H2 s2 hD2 hns hlen => ?_)
      have s12 := s1.trans s2
      refine ⟨_, rfl, _, rfl, g, hh, _, rfl, L.a.same s12, fun D3 us3 H3 s3 nD3 hD3 hS3 => ?_⟩
      refine ⟨D3, rfl, ⟨_, SqL.of hD3⟩, fun D4 nD4 => ?_⟩
      refine sel_map (fun _ => true) Row.x3 hD3 hS3 nD4 (fun a r H2 Kt hs ha hk => hk) (fun a r H2 Ke hs hc ha hk => ⟨_, rfl, a, _, 3, _, rfl, rfl, SqT.of ha, at3 r, hk⟩) (fun ns4 H4 s4 hD4 hns4 hlen4 => ?_)
      have s34 := s3.trans s4
      refine ⟨_, rfl, _, rfl, D2, D4, _, _, rfl, rfl, s34 _ _ hD2, hD4, (by rw [List.length_map, List.length_map]; exact Nat.le_of_lt (small_line (by omega))), fun D5 nD5 => ?_⟩
      refine ⟨_, rfl, D5, ns ++ ns4, _, rfl, rfl, SqL.of (by rw [upd_same, List.map_append]), fun v hv => ?_⟩
      obtain ⟨m, rfl, hm⟩ := best_int hv
      refine ⟨_, _, rfl, rfl, ?_⟩
      have hb : -1 ≤ m ∧ m ≤ 15 := by
        rcases hm with rfl | hm
        · exact ⟨by decide, by decide⟩
        · rcases List.mem_append.mp hm with hm | hm
          · obtain ⟨r, hs, _, rfl⟩ := (hns m).mp hm
            have := wf_k (L.wf r hs.1.1)
            omega
          · obtain ⟨r, hs, _, rfl⟩ := (hns4 m).mp hm
            have := wf_x3 (L.wf r hs.1.1) (by rw [hs.1.2]; exact w_aj)
            omega
      have := q (1 + m).toNat _ ((s12.trans s34).trans (same_upd (o := .lst (ns.map V.int ++ ns4.map V.int)) nD5)) (by omega) (.inr ⟨fun r hr => e2 r hr.1 (congrArg Sum.inr hr.2), m, best_of hv fun n => ?_, by omega⟩)
      · rw [show (((1 + m).toNat : Nat) : Int) = 1 + m by omega] at this
        exact this
      · rw [List.mem_append, all_ex hns, all_ex hns4]
        exact Iff.rfl
/-! ### from when to when -/
def SpA (rs : List Row) (k : Gr.HK) (low high : V) : Prop := geS (fun x => ∃ r, AskOf rs k.1 r ∧ r.k < k.2 ∧ r.x5 = x) .non low ∧ leS (fun x => ∃ r, AskOf rs k.1 r ∧ k.2 < r.k ∧ r.x5 = x) .non high
def SpJ (rs : List Row) (k : Gr.HK) (low high last : V) : Prop := geS (fun x => ∃ r, JobOf rs k.1 r ∧ r.k < k.2 ∧ r.x3 = x) .non low ∧
  leS (fun x => (∃ r, JobOf rs k.1 r ∧ k.2 < r.k ∧ r.x3 = x) ∨ ∃ r, AskOf rs k.1 r ∧ k.2 ≤ r.x3 ∧ r.x5 - 1 = x) .non high ∧ geS (fun x => ∃ r, AskOf rs k.1 r ∧ r.x3 = k.2 ∧ r.x6 = x) .non last
def Mr (rs : List Row) (h : Str) (ta tj : V) : Prop := geS (fun x => ∃ r, AskOf rs h r ∧ r.x5 = x) .non ta ∧ geS (fun x => ∃ r, JobOf rs h r ∧ r.x3 = x) .non tj
def sp_span_of_ask (C : Addr) : Sp := fun vs H Q _ => ∃ (g b : Addr) (k : Gr.HK) (rs : List Row), vs = [.ref g, .ref b] ∧ H b = some (.tup ((Gr.keyOf k).map kV)) ∧ Low C H g rs ∧ ∀ (p : Addr) (low high : V) (H' : Hp), Same H H' → H p = none → H' p = some (.tup [low, high]) → SpA rs k low high → Q (.ref p) H'
theorem ok_span_of_ask (T : Txt K mg af fd) : FnOk P w K mg base CX0 2 (af 27) (fd 27) ["gaps", "ask"] (sp_span_of_ask (af 69)) := by
  refine T.F_span_of_ask.ok sc_span_of_ask (fun vs H Q E h => ?_) (fun cdv A outer s H vs Q E hr h => ?_)
  · obtain ⟨g, b, k, rs, rfl, _⟩ := h
    rfl
  · obtain ⟨g, b, k, rs, rfl, hb, L, q⟩ := h
    refine ⟨_, (pss_cons (ps_asg (pv 1) (pg_tup rfl (pgs_cons (pg_name (i := 2) sc_span_of_ask.nd rfl (by first | exact Or.inl rfl | exact Or.inr rfl)) (pgs_cons (pg_name (i := 3) sc_span_of_ask.nd rfl (by first | exact Or.inl rfl | exact Or.inr rfl)) pgs_nil))))
        (pss_cons (ps_set (i := 4) sc_span_of_ask.nd rfl (by first | exact Or.inl rfl | exact Or.inr rfl) (pe_call (ok_asks_of_house T) (hr.mono (by first | decide | omega)) (by rfl) T.g_asks_of_house T.F_asks_of_house.kp T.b_asks_of_house .nil pass0 (pa_cons (pv 0) (pa_cons (pv 2) pa_nil))))
        (pss_cons (ps_set (i := 5) sc_span_of_ask.nd rfl (by first | exact Or.inl rfl | exact Or.inr rfl) (pe_call (ok_latest T) (hr.mono (by first | decide | omega)) (by rfl) T.g_latest T.F_latest.kp T.b_latest .nil pass0 (pa_cons (pe_lc (own := [("row", 6)]) (g := gName 6) (by rfl) sc_span_of_ask.nd (pi_list (pv 4)) (blkOk_by (own := [("row", 6)]) (N := ["gaps", "ask", "house", "number", "asks", "low", "row", "high"]) (sc := defScope s_span_of_ask) (by decide +kernel)) (fun _ _ _ _ _ => pg_name (i := 6) sc_span_of_ask.nd rfl (Or.inl rfl)) (fun _ _ _ _ _ => (pts_one (pt_cmpR op_lt (pe_ix (show IxR _ (rIxT K) from ix_tup) (pv 6) pe_int (fun _ _ => rfl)) (pv 3) (nomark _)))) (fun _ _ _ _ _ => (pe_ix (show IxR _ (rIxT K) from ix_tup) (pv 6) pe_int (fun _ _ => rfl)))) pa_nil)))
        (pss_cons (ps_set (i := 7) sc_span_of_ask.nd rfl (by first | exact Or.inl rfl | exact Or.inr rfl) (pe_call (ok_earliest T) (hr.mono (by first | decide | omega)) (by rfl) T.g_earliest T.F_earliest.kp T.b_earliest .nil pass0 (pa_cons (pe_lc (own := [("row", 6)]) (g := gName 6) (by rfl) sc_span_of_ask.nd (pi_list (pv 4)) (blkOk_by (own := [("row", 6)]) (N := ["gaps", "ask", "house", "number", "asks", "low", "row", "high"]) (sc := defScope s_span_of_ask) (by decide +kernel)) (fun _ _ _ _ _ => pg_name (i := 6) sc_span_of_ask.nd rfl (Or.inl rfl)) (fun _ _ _ _ _ => (pts_one (pt_cmpR op_gt (pe_ix (show IxR _ (rIxT K) from ix_tup) (pv 6) pe_int (fun _ _ => rfl)) (pv 3) (nomark _)))) (fun _ _ _ _ _ => (pe_ix (show IxR _ (rIxT K) from ix_tup) (pv 6) pe_int (fun _ _ => rfl)))) pa_nil)))
        (pss_one (ps_ret (pe_tup (pa_cons (pv 5) (pa_cons (pv 7) pa_nil))))))))), ?_⟩
    refine ⟨_, rfl, b, _, rfl, SqT.of hb, rfl, _, _, rfl, _, _, rfl, rfl, ?_⟩
    refine ⟨_, rfl, _, rfl, g, k.1, _, rfl, L.a, fun D us H1 s1 nD hD hS => ?_⟩
    refine ⟨_, rfl, D, rfl, ⟨_, SqL.of hD⟩, fun D2 nD2 => ?_⟩
    refine sel_map (fun r => decide (r.k < k.2)) Row.x5 hD hS nD2 (fun a r H2 Kt hs ha hk => ⟨_, rfl, a, _, 2, _, rfl, rfl, SqT.of ha, at2 r, _, rfl, _, _, rfl, rfl, _, rfl, hk⟩) (fun a r H2 Ke hs hc ha hk => ⟨_, rfl, a, _, 5, _, rfl, rfl, SqT.of ha, at5 hs.1.2, hk⟩) (fun ns H2 s2 hD2 hns hlen => ?_)
    refine ⟨D2, ns, rfl, hD2, fun low hlow => ?_⟩
    have hD' := s2 _ _ hD
    refine ⟨_, rfl, D, rfl, ⟨_, SqL.of hD'⟩, fun D3 nD3 => ?_⟩
    refine sel_map (fun r => decide (r.k > k.2)) Row.x5 hD' (hS.same s2) nD3 (fun a r H2 Kt hs ha hk => ⟨_, rfl, a, _, 2, _, rfl, rfl, SqT.of ha, at2 r, _, rfl, _, _, rfl, rfl, _, rfl, hk⟩) (fun a r H2 Ke hs hc ha hk => ⟨_, rfl, a, _, 5, _, rfl, rfl, SqT.of ha, at5 hs.1.2, hk⟩) (fun ns3 H3 s3 hD3 hns3 hlen3 => ?_)
    refine ⟨D3, ns3, rfl, hD3, fun high hhigh => ?_⟩
    refine ⟨_, rfl, _, rfl, (by show 2 ≤ sizeLine; decide), fun p np => ?_⟩
    have g3 := (s1.trans s2).trans s3
    exact q p low high _ (same_mut g3 (g3.free np)) (g3.free np) upd_same ⟨best_of hlow (and_ex hns), best_of hhigh (and_ex hns3)⟩
def sp_span_of_job (C : Addr) : Sp := fun vs H Q _ => ∃ (g b : Addr) (k : Gr.HK) (rs : List Row), vs = [.ref g, .ref b] ∧ H b = some (.tup ((Gr.keyOf k).map kV)) ∧ Low C H g rs ∧ ∀ (p : Addr) (low high last : V) (H' : Hp), Same H H' → H p = none → H' p = some (.tup [low, high, last]) → SpJ rs k low high last → Q (.ref p) H'
theorem ok_span_of_job (T : Txt K mg af fd) : FnOk P w K mg base CX0 2 (af 28) (fd 28) ["gaps", "job"] (sp_span_of_job (af 69)) := by
  refine T.F_span_of_job.ok sc_span_of_job (fun vs H Q E h => ?_) (fun cdv A outer s H vs Q E hr h => ?_)
  · obtain ⟨g, b, k, rs, rfl, _⟩ := h
    rfl
  · obtain ⟨g, b, k, rs, rfl, hb, L, q⟩ := h
    refine ⟨_, (pss_cons (ps_asg (pv 1) (pg_tup rfl (pgs_cons (pg_name (i := 2) sc_span_of_job.nd rfl (by first | exact Or.inl rfl | exact Or.inr rfl)) (pgs_cons (pg_name (i := 3) sc_span_of_job.nd rfl (by first | exact Or.inl rfl | exact Or.inr rfl)) pgs_nil))))
        (pss_cons (ps_set (i := 4) sc_span_of_job.nd rfl (by first | exact Or.inl rfl | exact Or.inr rfl) (pe_call (ok_asks_of_house T) (hr.mono (by first | decide | omega)) (by rfl) T.g_asks_of_house T.F_asks_of_house.kp T.b_asks_of_house .nil pass0 (pa_cons (pv 0) (pa_cons (pv 2) pa_nil))))
        (pss_cons (ps_set (i := 5) sc_span_of_job.nd rfl (by first | exact Or.inl rfl | exact Or.inr rfl) (pe_call (ok_jobs_of_house T) (hr.mono (by first | decide | omega)) (by rfl) T.g_jobs_of_house T.F_jobs_of_house.kp T.b_jobs_of_house .nil pass0 (pa_cons (pv 0) (pa_cons (pv 2) pa_nil))))
        (pss_cons (ps_set (i := 6) sc_span_of_job.nd rfl (by first | exact Or.inl rfl | exact Or.inr rfl) (pe_call (ok_latest T) (hr.mono (by first | decide | omega)) (by rfl) T.g_latest T.F_latest.kp T.b_latest .nil pass0 (pa_cons (pe_lc (own := [("row", 7)]) (g := gName 7) (by rfl) sc_span_of_job.nd (pi_list (pv 5)) (blkOk_by (own := [("row", 7)]) (N := ["gaps", "job", "house", "number", "asks", "jobs", "low", "row", "begins", "ahead_of_asks", "last"]) (sc := defScope s_span_of_job) (by decide +kernel)) (fun _ _ _ _ _ => pg_name (i := 7) sc_span_of_job.nd rfl (Or.inl rfl)) (fun _ _ _ _ _ => (pts_one (pt_cmpR op_lt (pe_ix (show IxR _ (rIxT K) from ix_tup) (pv 7) pe_int (fun _ _ => rfl)) (pv 3) (nomark _)))) (fun _ _ _ _ _ => (pe_ix (show IxR _ (rIxT K) from ix_tup) (pv 7) pe_int (fun _ _ => rfl)))) pa_nil)))
        (pss_cons (ps_setLc (i := 8) (own := [("row", 7)]) (g := gName 7) (by rfl) sc_span_of_job.nd rfl rfl (sw_true rfl rfl rfl (by decide +kernel)) (pi_list (pv 5)) (blkOk_by (own := [("row", 7)]) (N := ["gaps", "job", "house", "number", "asks", "jobs", "low", "row", "begins", "ahead_of_asks", "last"]) (sc := defScope s_span_of_job) (by decide +kernel)) (fun _ _ _ _ _ => pg_name (i := 7) sc_span_of_job.nd rfl (Or.inl rfl)) (fun _ _ _ _ _ => (pts_one (pt_cmpR op_gt (pe_ix (show IxR _ (rIxT K) from ix_tup) (pv 7) pe_int (fun _ _ => rfl)) (pv 3) (nomark _)))) (fun _ _ _ _ _ => (pe_ix (show IxR _ (rIxT K) from ix_tup) (pv 7) pe_int (fun _ _ => rfl))))
        (pss_cons (ps_setLc (i := 9) (own := [("row", 7)]) (g := gName 7) (by rfl) sc_span_of_job.nd rfl rfl (sw_true rfl rfl rfl (by decide +kernel)) (pi_list (pv 4)) (blkOk_by (own := [("row", 7)]) (N := ["gaps", "job", "house", "number", "asks", "jobs", "low", "row", "begins", "ahead_of_asks", "last"]) (sc := defScope s_span_of_job) (by decide +kernel)) (fun _ _ _ _ _ => pg_name (i := 7) sc_span_of_job.nd rfl (Or.inl rfl)) (fun _ _ _ _ _ => (pts_one (pt_cmpR op_ge (pe_ix (show IxR _ (rIxT K) from ix_tup) (pv 7) pe_int (fun _ _ => rfl)) (pv 3) (nomark _)))) (fun _ _ _ _ _ => (pe_op op_sub (pe_ix (show IxR _ (rIxT K) from ix_tup) (pv 7) pe_int (fun _ _ => rfl)) pe_int)))
        (pss_cons (ps_set (i := 10) sc_span_of_job.nd rfl (by first | exact Or.inl rfl | exact Or.inr rfl) (pe_call (ok_latest T) (hr.mono (by first | decide | omega)) (by rfl) T.g_latest T.F_latest.kp T.b_latest .nil pass0 (pa_cons (pe_lc (own := [("row", 7)]) (g := gName 7) (by rfl) sc_span_of_job.nd (pi_list (pv 4)) (blkOk_by (own := [("row", 7)]) (N := ["gaps", "job", "house", "number", "asks", "jobs", "low", "row", "begins", "ahead_of_asks", "last"]) (sc := defScope s_span_of_job) (by decide +kernel)) (fun _ _ _ _ _ => pg_name (i := 7) sc_span_of_job.nd rfl (Or.inl rfl)) (fun _ _ _ _ _ => (pts_one (pt_cmpR op_eq (pe_ix (show IxR _ (rIxT K) from ix_tup) (pv 7) pe_int (fun _ _ => rfl)) (pv 3) (nomark _)))) (fun _ _ _ _ _ => (pe_ix (show IxR _ (rIxT K) from ix_tup) (pv 7) pe_int (fun _ _ => rfl)))) pa_nil)))
        (pss_one (ps_ret (pe_tup (pa_cons (pv 6) (pa_cons (pe_call (ok_earliest T) (hr.mono (by first | decide | omega)) (by rfl) T.g_earliest T.F_earliest.kp T.b_earliest .nil pass0 (pa_cons (pe_op op_cat (pv 8) (pv 9)) pa_nil)) (pa_cons (pv 10) pa_nil))))))))))))), ?_⟩
    refine ⟨_, rfl, b, _, rfl, SqT.of hb, rfl, _, _, rfl, _, _, rfl, rfl, ?_⟩
    refine ⟨_, rfl, _, rfl, g, k.1, _, rfl, L.a, fun DA us H1 s1 nDA hDA hSA => ?_⟩
    refine ⟨_, rfl, _, rfl, g, k.1, _, rfl, L.j.same s1, fun DJ uj H2 s2 nDJ hDJ hSJ => ?_⟩
    have hDA2 := s2 _ _ hDA
    have hSA2 := hSA.same s2
    refine ⟨_, rfl, DJ, rfl, ⟨_, SqL.of hDJ⟩, fun D3 nD3 => ?_⟩
    refine sel_map (fun r => decide (r.k < k.2)) Row.x3 hDJ hSJ nD3 (fun a r H2 Kt hs ha hk => ⟨_, rfl, a, _, 2, _, rfl, rfl, SqT.of ha, at2 r, _, rfl, _, _, rfl, rfl, _, rfl, hk⟩) (fun a r H2 Ke hs hc ha hk => ⟨_, rfl, a, _, 3, _, rfl, rfl, SqT.of ha, at3 r, hk⟩) (fun n3 H3 s3 hD3 hn3 hl3 => ?_)
    refine ⟨D3, n3, rfl, hD3, fun low hlow => ?_⟩
    have hDJ3 := s3 _ _ hDJ
    refine ⟨_, rfl, DJ, rfl, ⟨_, SqL.of hDJ3⟩, fun D4 nD4 => ?_⟩
    refine sel_map (fun r => decide (r.k > k.2)) Row.x3 hDJ3 (hSJ.same s3) nD4 (fun a r H2 Kt hs ha hk => ⟨_, rfl, a, _, 2, _, rfl, rfl, SqT.of ha, at2 r, _, rfl, _, _, rfl, rfl, _, rfl, hk⟩) (fun a r H2 Ke hs hc ha hk => ⟨_, rfl, a, _, 3, _, rfl, rfl, SqT.of ha, at3 r, hk⟩) (fun n4 H4 s4 hD4 hn4 hl4 => ?_)
    have s34 := s3.trans s4
    have hDA4 := s34 _ _ hDA2
    refine ⟨_, rfl, DA, rfl, ⟨_, SqL.of hDA4⟩, fun D5 nD5 => ?_⟩
    refine sel_map (fun r => decide (r.x3 ≥ k.2)) (fun r => r.x5 - 1) hDA4 (hSA2.same s34) nD5 (fun a r H2 Kt hs ha hk => ⟨_, rfl, a, _, 3, _, rfl, rfl, SqT.of ha, at3 r, _, rfl, _, _, rfl, rfl, _, rfl, hk⟩) (fun a r H2 Ke hs hc ha hk => ⟨_, rfl, a, _, 5, _, rfl, rfl, SqT.of ha, at5 hs.1.2, _, _, rfl, rfl, hk⟩) (fun n5 H5 s5 hD5 hn5 hl5 => ?_)
    have s35 := s34.trans s5
    have hDA5 := s35 _ _ hDA2
    refine ⟨_, rfl, DA, rfl, ⟨_, SqL.of hDA5⟩, fun D6 nD6 => ?_⟩
    refine sel_map (fun r => decide (r.x3 = k.2)) Row.x6 hDA5 (hSA2.same s35) nD6 (fun a r H2 Kt hs ha hk => ⟨_, rfl, a, _, 3, _, rfl, rfl, SqT.of ha, at3 r, _, rfl, rfl, _, rfl, (by rw [show decide (V.int r.x3 = kV (Sum.inl k.2)) = decide (r.x3 = k.2) from decide_eq_decide.mpr ⟨fun e => V.int.inj e, fun e => congrArg V.int e⟩]; exact hk)⟩) (fun a r H2 Ke hs hc ha hk => ⟨_, rfl, a, _, 6, _, rfl, rfl, SqT.of ha, at6 hs.1.2, hk⟩) (fun n6 H6 s6 hD6 hn6 hl6 => ?_)
    refine ⟨D6, n6, rfl, hD6, fun last hlast => ?_⟩
    have s56 := s5.trans s6
    refine ⟨_, rfl, _, rfl, _, rfl, D4, D5, _, _, rfl, rfl, s56 _ _ hD4, s6 _ _ hD5, (by rw [List.length_map, List.length_map]; exact Nat.le_of_lt (small_line (by omega))), fun D7 nD7 => ?_⟩
    refine ⟨D7, n4 ++ n5, rfl, (by rw [upd_same, List.map_append]), fun high hhigh => ?_⟩
    refine ⟨_, rfl, (by show 3 ≤ sizeLine; decide), fun p np => ?_⟩
    have g7 := ((((s1.trans s2).trans s34).trans s56)).trans (same_upd (o := .lst (n4.map V.int ++ n5.map V.int)) nD7)
    refine q p low high last _ (same_mut g7 (g7.free np)) (g7.free np) upd_same ⟨best_of hlow (and_ex hn3), best_of hhigh fun n => ?_, best_of hlast (and_ex hn6)⟩
    rw [List.mem_append, and_ex hn4, and_ex hn5]
    exact Iff.rfl
def sp_more_of (C : Addr) : Sp := fun vs H Q _ => ∃ (g : Addr) (h : Str) (rs : List Row), vs = [.ref g, .str h] ∧ Low C H g rs ∧ ∀ (p : Addr) (ta tj : V) (H' : Hp), Same H H' → H p = none → H' p = some (.tup [ta, tj]) → Mr rs h ta tj → Q (.ref p) H'
theorem ok_more_of (T : Txt K mg af fd) : FnOk P w K mg base CX0 2 (af 29) (fd 29) ["gaps", "house"] (sp_more_of (af 69)) := by
  refine T.F_more_of.ok sc_more_of (fun vs H Q E h => ?_) (fun cdv A outer s H vs Q E hr h => ?_)
  · obtain ⟨g, h, rs, rfl, _⟩ := h
    rfl
  · obtain ⟨g, hh, rs, rfl, L, q⟩ := h
    refine ⟨_, (pss_cons (ps_setLc (i := 2) (own := [("row", 3)]) (g := gName 3) (by rfl) sc_more_of.nd rfl rfl (sw_true rfl rfl rfl (by decide +kernel)) (pi_list (pe_call (ok_asks_of_house T) (hr.mono (by first | decide | omega)) (by rfl) T.g_asks_of_house T.F_asks_of_house.kp T.b_asks_of_house .nil pass0 (pa_cons (pv 0) (pa_cons (pv 1) pa_nil)))) (blkOk_by (own := [("row", 3)]) (N := ["gaps", "house", "outs", "row", "begins"]) (sc := defScope s_more_of) (by decide +kernel)) (fun _ _ _ _ _ => pg_name (i := 3) sc_more_of.nd rfl (Or.inl rfl)) (fun _ _ _ _ _ => pts_nil) (fun _ _ _ _ _ => (pe_ix (show IxR _ (rIxT K) from ix_tup) (pv 3) pe_int (fun _ _ => rfl))))
        (pss_cons (ps_setLc (i := 4) (own := [("row", 3)]) (g := gName 3) (by rfl) sc_more_of.nd rfl rfl (sw_true rfl rfl rfl (by decide +kernel)) (pi_list (pe_call (ok_jobs_of_house T) (hr.mono (by first | decide | omega)) (by rfl) T.g_jobs_of_house T.F_jobs_of_house.kp T.b_jobs_of_house .nil pass0 (pa_cons (pv 0) (pa_cons (pv 1) pa_nil)))) (blkOk_by (own := [("row", 3)]) (N := ["gaps", "house", "outs", "row", "begins"]) (sc := defScope s_more_of) (by decide +kernel)) (fun _ _ _ _ _ => pg_name (i := 3) sc_more_of.nd rfl (Or.inl rfl)) (fun _ _ _ _ _ => pts_nil) (fun _ _ _ _ _ => (pe_ix (show IxR _ (rIxT K) from ix_tup) (pv 3) pe_int (fun _ _ => rfl))))
        (pss_one (ps_ret (pe_tup (pa_cons (pe_call (ok_latest T) (hr.mono (by first | decide | omega)) (by rfl) T.g_latest T.F_latest.kp T.b_latest .nil pass0 (pa_cons (pv 2) pa_nil)) (pa_cons (pe_call (ok_latest T) (hr.mono (by first | decide | omega)) (by rfl) T.g_latest T.F_latest.kp T.b_latest .nil pass0 (pa_cons (pv 4) pa_nil)) pa_nil))))))), ?_⟩
    refine ⟨_, rfl, _, rfl, g, hh, _, rfl, L.a, fun D us H1 s1 nD hD hS => ?_⟩
    refine ⟨D, rfl, ⟨_, SqL.of hD⟩, fun D2 nD2 => ?_⟩
    refine sel_map (fun _ => true) Row.x5 hD hS nD2 (fun a r H2 Kt hs ha hk => hk) (fun a r H2 Ke hs hc ha hk => ⟨_, rfl, a, _, 5, _, rfl, rfl, SqT.of ha, at5 hs.1.2, hk⟩) (fun ns H2 s2 hD2 hns hlen => ?_)
    have s12 := s1.trans s2
    refine ⟨_, rfl, _, rfl, g, hh, _, rfl, L.j.same s12, fun D3 us3 H3 s3 nD3 hD3 hS3 => ?_⟩
    refine ⟨D3, rfl, ⟨_, SqL.of hD3⟩, fun D4 nD4 => ?_⟩
    refine sel_map (fun _ => true) Row.x3 hD3 hS3 nD4 (fun a r H2 Kt hs ha hk => hk) (fun a r H2 Ke hs hc ha hk => ⟨_, rfl, a, _, 3, _, rfl, rfl, SqT.of ha, at3 r, hk⟩) (fun ns4 H4 s4 hD4 hns4 hlen4 => ?_)
    have s34 := s3.trans s4
    refine ⟨_, rfl, D2, ns, rfl, s34 _ _ hD2, fun ta hta => ?_⟩
    refine ⟨_, rfl, D4, ns4, rfl, hD4, fun tj htj => ?_⟩
    refine ⟨(by show 2 ≤ sizeLine; decide), fun p np => ?_⟩
    have g4 := s12.trans s34
    exact q p ta tj _ (same_mut g4 (g4.free np)) (g4.free np) upd_same ⟨best_of hta (all_ex hns), best_of htj (all_ex hns4)⟩
/-! ### books -/
structure Book (hs : List Str) (rs : List Row) : Prop where
  wf : ∀ r ∈ rs, r.Wf
  inn : ∀ r ∈ rs, r.In hs
  nc : ∀ r ∈ rs, ∀ t ∈ rs, ¬ ClashP r t
def rowD (r : Row) : PyData := .tuple r.data
theorem rows_of {P : Row → Prop} : ∀ {ds : List PyData}, (∀ d ∈ ds, ∃ r, d = rowD r ∧ P r) → ∃ rs : List Row, ds = rs.map rowD ∧ ∀ r ∈ rs, P r
  | [], _ => ⟨[], rfl, fun _ m => (nomatch m)⟩
  | d :: ds, h => by
    obtain ⟨rs, e, hp⟩ := rows_of (P := P) (ds := ds) fun x m => h x (List.mem_cons_of_mem _ m)
    obtain ⟨r, rfl, hr⟩ := h d List.mem_cons_self
    refine ⟨r :: rs, by rw [List.map_cons, ← e], fun x m => ?_⟩
    rcases List.mem_cons.mp m with rfl | m
    · exact hr
    · exact hp x m
theorem book_of {Ex : Addr → Prop} {H : Hp} {hs : List Str} {xs : List V} {ds : List PyData} (hok : ∀ h ∈ hs, PyData.strOk h = true) (hd : Dqs Ex H xs ds) (hr : RowsD hs ds ds.length) (hn : NoClash ds ds.length) : ∃ rs : List Row, ds = rs.map rowD ∧ Rws H xs rs ∧ Book hs rs := by
  obtain ⟨rs, rfl, hp⟩ := rows_of (P := fun r => r.Wf ∧ r.In hs) (ds := ds) fun d m => by
    obtain ⟨j, hj⟩ := List.getElem?_of_mem m
    obtain ⟨r, e, w, i⟩ := isRow_wf hok (hr j d (List.getElem?_eq_some_iff.mp hj).1 hj)
    exact ⟨r, e, w, i⟩
  have hat : ∀ {i : Nat} {r : Row}, rs[i]? = some r → (rs.map rowD)[i]? = some (.tuple r.data) := fun e => by rw [List.getElem?_map, e]; rfl
  refine ⟨rs, rfl, ⟨by rw [hd.len, List.length_map], fun i r e => ?_⟩, fun r m => (hp r m).1, fun r m => (hp r m).2, fun r mr t mt hc => ?_⟩
  · obtain ⟨v, hv, dv⟩ := hd.get (hat e)
    obtain ⟨a, rfl, ha⟩ := row_at dv
    exact ⟨a, hv, ha⟩
  · obtain ⟨i, hi⟩ := List.getElem?_of_mem mr
    obtain ⟨j, hj⟩ := List.getElem?_of_mem mt
    have li : i < (rs.map rowD).length := by rw [List.length_map]; exact (List.getElem?_eq_some_iff.mp hi).1
    have lj : j < (rs.map rowD).length := by rw [List.length_map]; exact (List.getElem?_eq_some_iff.mp hj).1
    rcases Nat.lt_trichotomy i j with h | h | h
    · exact hn j lj i h ⟨r, t, hat hi, hat hj, hc⟩
    · subst h
      obtain rfl := Option.some.inj (hi.symm.trans hj)
      cases r <;> simp [ClashP] at hc
    · exact hn i li j h ⟨t, r, hat hj, hat hi, (clash_comm r t).mp hc⟩
theorem Book.uniq {hs : List Str} {rs : List Row} (B : Book hs rs) {wd : Str} (hw : wd = "ask" ∨ wd = "job") : Uniq (Bk rs wd) := fun r t hr ht e => by
  refine Decidable.byContradiction fun ne => B.nc r hr.1 t ht.1 ?_
  have e1 : r.h = t.h := congrArg Prod.fst e
  have e2 : r.k = t.k := congrArg Prod.snd e
  have ew : r.word = t.word := hr.2.trans ht.2.symm
  cases r with
  | ask h g k n o b =>
    cases t with
    | ask h' g' k' n' o' b' => exact ⟨e1, ne, .inl e2⟩
    | job h' k' o' b' => exact absurd ew w_aj
    | all h' a' j' => exact absurd ew w_aa
  | job h k o b =>
    cases t with
    | ask h' g' k' n' o' b' => exact absurd ew.symm w_aj
    | job h' k' o' b' => exact ⟨e1, ne, .inl e2⟩
    | all h' a' j' => exact absurd ew w_ja
  | all h a j =>
    rcases hw with rfl | rfl
    · exact absurd hr.2 w_la
    · exact absurd hr.2 (fun z => w_ja z.symm)
theorem Book.uniqH {hs : List Str} {rs : List Row} (B : Book hs rs) (r t : Row) (hr : Bk rs "all" r) (ht : Bk rs "all" t) (e1 : r.h = t.h) : r = t := by
  refine Decidable.byContradiction fun ne => B.nc r hr.1 t ht.1 ?_
  cases r with
  | ask h g k n o b => exact absurd hr.2 w_aa
  | job h k o b => exact absurd hr.2 w_ja
  | all h a j =>
    cases t with
    | ask h' g' k' n' o' b' => exact absurd ht.2 w_aa
    | job h' k' o' b' => exact absurd ht.2 w_ja
    | all h' a' j' => exact ⟨e1, ne⟩
/-! all but the object at g stands -/
def Frm (g : Addr) (H H' : Hp) : Prop := ∀ b o, b ≠ g → H b = some o → H' b = some o
theorem Frm.trans {g : Addr} {H H1 H2 : Hp} (a : Frm g H H1) (b : Frm g H1 H2) : Frm g H H2 := fun x o n e => b x o n (a x o n e)
theorem Same.frm {g : Addr} {H H' : Hp} (s : Same H H') : Frm g H H' := fun b o _ e => s b o e
theorem frm_upd {g : Addr} {H : Hp} {o : HO} : Frm g H (upd H g o) := fun b u n e => by rw [upd_ne n]; exact e
theorem Frm.row {g : Addr} {H H' : Hp} {C dx : Addr} {fs : List (Str × V)} (f : Frm g H H') (hg : H g = some (.ins C dx fs)) : ∀ a r, RowAt H a r → RowAt H' a r := fun a r h => f _ _ (ne_of h hg (fun z => nomatch z)) h
theorem FldT.go {C g dx dx' : Addr} {H H' : Hp} {f : Str} {P : Row → Prop} {fs fs' : List (Str × V)} (h : FldT C H g f P) (fr : Frm g H H') (hg : H g = some (.ins C dx fs)) (hg' : H' g = some (.ins C dx' fs')) (e : fs'.lookup f = fs.lookup f) : FldT C H' g f P := by
  obtain ⟨dy, d, fy, kvs, h1, h2, h3, h4, h5⟩ := h.ex
  cases hg.symm.trans h1
  exact ⟨⟨dx', d, fs', kvs, hg', by rw [e]; exact h2, fr _ _ (ne_of h3 hg (fun z => nomatch z)) h3, h4.same (fr.row hg), h5⟩, h.un⟩
theorem FldK.go {C g dx dx' : Addr} {H H' : Hp} {f : Str} {P : Row → Prop} {fs fs' : List (Str × V)} (h : FldK C H g f P) (fr : Frm g H H') (hg : H g = some (.ins C dx fs)) (hg' : H' g = some (.ins C dx' fs')) (e : fs'.lookup f = fs.lookup f) : FldK C H' g f P := by
  obtain ⟨dy, d, fy, kvs, h1, h2, h3, h4, h5⟩ := h.ex
  cases hg.symm.trans h1
  exact ⟨⟨dx', d, fs', kvs, hg', by rw [e]; exact h2, fr _ _ (ne_of h3 hg (fun z => nomatch z)) h3, h4.same (fr.row hg), h5⟩, h.un⟩
theorem put_other {f f' : Str} {v : V} {fs : List (Str × V)} (h : f ≠ f') : (putF f' v fs).lookup f = fs.lookup f := by rw [lookup_putF, if_neg h]
theorem put_own {f : Str} {v : V} {fs : List (Str × V)} : (putF f v fs).lookup f = some v := by rw [lookup_putF, if_pos rfl]
theorem Low.go {C g dx : Addr} {H : Hp} {rs : List Row} {fs : List (Str × V)} {f : Str} {v : V} (h : Low C H g rs) (hg : H g = some (.ins C dx fs)) (n1 : "ask_rows" ≠ f) (n2 : "job_rows" ≠ f) (n3 : "all_rows" ≠ f) : Low C (upd H g (.ins C dx (putF f v fs))) g rs :=
  ⟨h.a.go frm_upd hg upd_same (put_other n1), h.j.go frm_upd hg upd_same (put_other n2), h.l.go frm_upd hg upd_same (put_other n3), h.wf⟩
/-! ### the spans, by their keys -/
structure SpD (H : Hp) (R : Gr.HK → List V → Prop) (ks : List Gr.HK) (kvs : List (List Key × V)) : Prop where
  keys : kvs.map (·.1) = ks.map Gr.keyOf
  val : ∀ kv ∈ kvs, ∃ k p us, kv.1 = Gr.keyOf k ∧ kv.2 = .ref p ∧ H p = some (.tup us) ∧ R k us
structure MoD (H : Hp) (R : Str → List V → Prop) (os : List Str) (kvs : List (Key × V)) : Prop where
  keys : kvs.map (·.1) = os.map Sum.inr
  val : ∀ kv ∈ kvs, ∃ h p us, kv.1 = Sum.inr h ∧ kv.2 = .ref p ∧ H p = some (.tup us) ∧ R h us
theorem SpD.go {H H' : Hp} {R : Gr.HK → List V → Prop} {ks : List Gr.HK} {kvs : List (List Key × V)} (h : SpD H R ks kvs) (t : ∀ b us, H b = some (.tup us) → H' b = some (.tup us)) : SpD H' R ks kvs :=
  ⟨h.keys, fun kv m => let ⟨k, p, us, e1, e2, e3, e4⟩ := h.val kv m; ⟨k, p, us, e1, e2, t _ _ e3, e4⟩⟩
theorem MoD.go {H H' : Hp} {R : Str → List V → Prop} {ks : List Str} {kvs : List (Key × V)} (h : MoD H R ks kvs) (t : ∀ b us, H b = some (.tup us) → H' b = some (.tup us)) : MoD H' R ks kvs :=
  ⟨h.keys, fun kv m => let ⟨k, p, us, e1, e2, e3, e4⟩ := h.val kv m; ⟨k, p, us, e1, e2, t _ _ e3, e4⟩⟩
theorem keyOf_inj {a b : Gr.HK} (h : Gr.keyOf a = Gr.keyOf b) : a = b := by
  unfold Gr.keyOf at h
  injection h with h1 h2
  injection h2 with h3 h4
  injection h1 with h1
  injection h3 with h3
  exact Prod.ext h1 h3
theorem SpD.put {H : Hp} {R : Gr.HK → List V → Prop} {ks : List Gr.HK} {kvs : List (List Key × V)} {k : Gr.HK} {p : Addr} {us : List V} (h : SpD H R ks kvs) (n : k ∉ ks) (hp : H p = some (.tup us)) (hR : R k us) : SpD H R (ks ++ [k]) (putK kvs (Gr.keyOf k) (.ref p)) := by
  refine ⟨?_, fun kv m => ?_⟩
  · rw [put_keys, h.keys, if_neg, List.map_append]
    · rfl
    · intro m
      obtain ⟨x, mx, ex⟩ := List.mem_map.mp m
      exact n (by rw [← keyOf_inj ex]; exact mx)
  · rcases put_mem m with ⟨m, _⟩ | rfl
    · exact h.val kv m
    · exact ⟨k, p, us, rfl, rfl, hp, hR⟩
theorem MoD.put {H : Hp} {R : Str → List V → Prop} {ks : List Str} {kvs : List (Key × V)} {k : Str} {p : Addr} {us : List V} (h : MoD H R ks kvs) (n : k ∉ ks) (hp : H p = some (.tup us)) (hR : R k us) : MoD H R (ks ++ [k]) (putK kvs (Sum.inr k) (.ref p)) := by
  refine ⟨?_, fun kv m => ?_⟩
  · rw [put_keys, h.keys, if_neg, List.map_append]
    · rfl
    · intro m
      obtain ⟨x, mx, ex⟩ := List.mem_map.mp m
      exact n (by rw [← Sum.inr.inj ex]; exact mx)
  · rcases put_mem m with ⟨m, _⟩ | rfl
    · exact h.val kv m
    · exact ⟨k, p, us, rfl, rfl, hp, hR⟩
noncomputable def lostOf (rs : List Row) (wd : Str) (ks : List Gr.HK) : List Gr.HK := open Classical in ks.filter fun k => decide (¬ ∃ r, Bk rs wd r ∧ r.key = k)
noncomputable def openOf (rs : List Row) (hs : List Str) : List Str := open Classical in hs.filter fun h => decide (¬ ∃ r, AllOf rs h r)
/-! ### what a book tells, read off once -/
structure GapsAt (C : Addr) (H : Hp) (g : Addr) (hs : List Str) (rs : List Row) : Prop where
  low : Low C H g rs
  more : ∃ (dx d1 d2 d3 : Addr) (fs : List (Str × V)) (k1 k2 : List (List Key × V)) (k3 : List (Key × V)) (cA cJ : Str → Nat), H g = some (.ins C dx fs) ∧
    (∀ h ∈ hs, CntA rs h (cA h : Nat) ∧ cA h ≤ 16) ∧ (∀ h ∈ hs, CntJ rs h (cJ h : Nat) ∧ cJ h ≤ 16) ∧
    fs.lookup ("ask_spans" : Str) = some (.ref d1) ∧ H d1 = some (.dT k1) ∧ SpD H (fun k us => ∃ a b, us = [a, b] ∧ SpA rs k a b) (lostOf rs "ask" (below hs cA)) k1 ∧
    fs.lookup ("job_spans" : Str) = some (.ref d2) ∧ H d2 = some (.dT k2) ∧ SpD H (fun k us => ∃ a b c, us = [a, b, c] ∧ SpJ rs k a b c) (lostOf rs "job" (below hs cJ)) k2 ∧
    fs.lookup ("more_times" : Str) = some (.ref d3) ∧ H d3 = some (.dK k3) ∧ MoD H (fun h us => ∃ a b, us = [a, b] ∧ Mr rs h a b) (openOf rs hs) k3
structure GapsFull (C : Addr) (H : Hp) (g t : Addr) (hs gs : List Str) (rs : List Row) : Prop where
  ex : ∃ (dx dA dJ : Addr) (fs : List (Str × V)) (uA uJ : List V) (cA cJ : Str → Nat), H g = some (.ins C dx fs) ∧ (∀ h ∈ hs, CntA rs h (cA h : Nat) ∧ cA h ≤ 16) ∧ (∀ h ∈ hs, CntJ rs h (cJ h : Nat) ∧ cJ h ≤ 16) ∧
    fs.lookup ("town" : Str) = some (.ref t) ∧ TownAt H t hs gs ∧ fs.lookup ("asks" : Str) = some (.ref dA) ∧ H dA = some (.lst uA) ∧ HKs H uA (below hs cA) ∧ fs.lookup ("jobs" : Str) = some (.ref dJ) ∧ H dJ = some (.lst uJ) ∧ HKs H uJ (below hs cJ)
def sp_init_Gaps (C : Addr) : Sp := fun vs H Q _ => ∃ (g dx t l : Addr) (hs gs : List Str) (xs : List V) (rs : List Row), vs = [.ref g, .ref t, .ref l] ∧ H g = some (.ins C dx []) ∧ TownAt H t hs gs ∧ H l = some (.lst xs) ∧ Rws H xs rs ∧ rs.length ≤ 1000 ∧ Book hs rs ∧ hs.length ≤ 6 ∧ hs.Nodup ∧
  ∀ (H' : Hp), Frm g H H' → GapsAt C H' g hs rs → GapsFull C H' g t hs gs rs → Q .non H'
theorem TownAt.frm {g t C dx : Addr} {H H' : Hp} {hs gs : List Str} {fs : List (Str × V)} (h : TownAt H t hs gs) (f : Frm g H H') (hg : H g = some (.ins C dx fs)) : TownAt H' t hs gs := by
  obtain ⟨a, b, h1, h2, h3⟩ := h
  exact ⟨a, b, f _ _ (ne_of h1 hg (fun z => nomatch z)) h1, f _ _ (ne_of h2 hg (fun z => nomatch z)) h2, f _ _ (ne_of h3 hg (fun z => nomatch z)) h3⟩
theorem Rws.frm {g C dx : Addr} {H H' : Hp} {xs : List V} {rs : List Row} {fs : List (Str × V)} (h : Rws H xs rs) (f : Frm g H H') (hg : H g = some (.ins C dx fs)) : Rws H' xs rs :=
  ⟨h.1, fun i r e => let ⟨a, e1, e2⟩ := h.2 i r e; ⟨a, e1, f.row hg a r e2⟩⟩
theorem take_snoc {A : Type} {xs : List A} {i : Nat} {x : A} (e : xs[i]? = some x) : xs.take (i + 1) = xs.take i ++ [x] := by
  rw [List.take_add_one, e]
  rfl
theorem filter_snoc {A : Type} (p : A → Bool) (xs : List A) (x : A) : (xs ++ [x]).filter p = xs.filter p ++ (if p x = true then [x] else []) := by
  rw [List.filter_append]
  congr 1
  rw [List.filter_cons]
  rfl
/-! counts of the houses, by a dict -/
def CntD (R : Str → Int → Prop) (hs : List Str) (kvs : List (Key × V)) : Prop := ∀ h ∈ hs, ∃ n : Nat, n ≤ 16 ∧ R h (n : Nat) ∧ valV kvs (.inr h) = some (.int (n : Nat))
def cntOf (kvs : List (Key × V)) (h : Str) : Nat := match valV kvs (.inr h) with
  | some (.int n) => n.toNat
  | _ => 0
theorem CntD.of {R : Str → Int → Prop} {hs : List Str} {kvs : List (Key × V)} (h : CntD R hs kvs) {x : Str} (m : x ∈ hs) : valV kvs (.inr x) = some (.int (cntOf kvs x : Nat)) ∧ R x (cntOf kvs x : Nat) ∧ cntOf kvs x ≤ 16 := by
  obtain ⟨n, h1, h2, h3⟩ := h x m
  have e : cntOf kvs x = n := by
    unfold cntOf
    rw [h3]
    rfl
  rw [e]
  exact ⟨h3, h2, h1⟩
theorem CntD.put {R : Str → Int → Prop} {hs : List Str} {kvs : List (Key × V)} {x : Str} {n : Nat} (h : CntD R hs kvs) (h1 : n ≤ 16) (h2 : R x (n : Nat)) : CntD R (hs ++ [x]) (putK kvs (.inr x) (.int (n : Nat))) := fun y m => by
  by_cases e : y = x
  · subst e
    exact ⟨n, h1, h2, by rw [valV_put, if_pos rfl]⟩
  · rcases List.mem_append.mp m with m | m
    · obtain ⟨k, k1, k2, k3⟩ := h y m
      exact ⟨k, k1, k2, by rw [valV_put, if_neg (fun z => e (Sum.inr.inj z))]; exact k3⟩
    · exact absurd (List.mem_singleton.mp m) e
theorem nd_below {hs : List Str} {cnt : Str → Nat} (h : hs.Nodup) : (below hs cnt).Nodup := by
  unfold below
  rw [List.nodup_iff_pairwise_ne, List.pairwise_flatMap]
  refine ⟨fun x _ => ?_, h.imp fun {x y} ne a ha b hb e => ?_⟩
  · rw [List.pairwise_map]
    exact List.nodup_range.imp fun ne e => ne (Int.ofNat.inj (congrArg Prod.snd e))
  · obtain ⟨n, _, rfl⟩ := List.mem_map.mp ha
    obtain ⟨k, _, rfl⟩ := List.mem_map.mp hb
    exact ne (congrArg Prod.fst e)
theorem not_mem_take {A : Type} {xs : List A} {i : Nat} {x : A} (h : xs.Nodup) (e : xs[i]? = some x) : x ∉ xs.take i := by
  intro m
  have h2 : (xs.take (i + 1)).Nodup := h.sublist (List.take_sublist _ _)
  rw [take_snoc e, List.nodup_append] at h2
  exact h2.2.2 x m x (List.mem_singleton.mpr rfl) rfl
theorem key_mem {rs : List Row} {wd : Str} {H : Hp} {kvs : List (List Key × V)} (d : DRow key2 H (Bk rs wd) kvs) (k : Gr.HK) : (∃ v, valV kvs (Gr.keyOf k) = some v ∧ ∃ r, Bk rs wd r ∧ r.key = k) ∨ (valV kvs (Gr.keyOf k) = none ∧ ¬ ∃ r, Bk rs wd r ∧ r.key = k) := by
  rcases val_row d (Gr.keyOf k) with ⟨a, r, e1, e2, e3, e4⟩ | ⟨e1, e2⟩
  · exact .inl ⟨_, e1, r, e3, (keyOf_inj e4).symm⟩
  · exact .inr ⟨e1, fun ⟨r, hr, e⟩ => e2 r hr (by show Gr.keyOf r.key = _; rw [e])⟩
set_option maxHeartbeats 16000000 in
theorem ok_init_Gaps (T : Txt K mg af fd) : FnOk P w K mg base CX0 3 (af 70) (fd 70) ["self", "town", "rows"] (sp_init_Gaps (af 69)) := by
  refine T.o_Gaps.F.ok sc_init_Gaps (fun vs H Q E h => ?_) (fun cdv A outer s H vs Q E hr h => ?_)
  · obtain ⟨g, dx, t, l, hs, gs, xs, rs, rfl, _⟩ := h
    rfl
  · obtain ⟨g, dx, t, l, hs, gs, xs, rs, rfl, hg, ht, hl, hrw, hrl, B, h6, hnd, qQ⟩ := h
    refine ⟨_, (pss_cons (ps_fld (pv 0) (pv 1) rfl)
        (pss_cons (ps_fld (pv 0) (pe_call (ok_rows_by_number T) (hr.mono (by first | decide | omega)) (by rfl) T.g_rows_by_number T.F_rows_by_number.kp T.b_rows_by_number .nil pass0 (pa_cons (pv 2) (pa_cons pe_str pa_nil))) rfl)
        (pss_cons (ps_fld (pv 0) (pe_call (ok_rows_by_number T) (hr.mono (by first | decide | omega)) (by rfl) T.g_rows_by_number T.F_rows_by_number.kp T.b_rows_by_number .nil pass0 (pa_cons (pv 2) (pa_cons pe_str pa_nil))) rfl)
        (pss_cons (ps_fld (pv 0) (Gr.pe_dcd false (own := [("row", 3)]) (g := gName 3) (hu_of hr) (by rfl) sc_init_Gaps.nd (pi_list (pv 2)) (blkOk_by (own := [("row", 3)]) (N := ["self", "town", "rows", "row", "house", "ask", "job"]) (sc := defScope s_i_Gaps) (by decide +kernel)) (fun _ _ _ _ _ => pg_name (i := 3) sc_init_Gaps.nd rfl (Or.inl rfl)) (fun _ _ _ _ _ => (pts_one (pt_cmpR op_eq (pe_ix (show IxR _ (rIxT K) from ix_tup) (pv 3) pe_int (fun _ _ => rfl)) pe_str (nomark _)))) (fun _ _ _ _ _ => (pe_ix (show IxR _ (rIxT K) from ix_tup) (pv 3) pe_int (fun _ _ => rfl))) (fun _ _ _ _ _ => (pv 3))) rfl)
        (pss_cons (ps_fld (pv 0) (pe_call (ok_numbers_below T) (hr.mono (by first | decide | omega)) (by rfl) T.g_numbers_below T.F_numbers_below.kp T.b_numbers_below .nil pass0 (pa_cons (pv 1) (pa_cons (Gr.pe_dcd false (own := [("house", 4)]) (g := gName 4) (hu_of hr) (by rfl) sc_init_Gaps.nd (pi_tup (pe_ix ix_tup (pv 1) pe_int (fun _ _ => rfl))) (blkOk_by (own := [("house", 4)]) (N := ["self", "town", "rows", "row", "house", "ask", "job"]) (sc := defScope s_i_Gaps) (by decide +kernel)) (fun _ _ _ _ _ => pg_name (i := 4) sc_init_Gaps.nd rfl (Or.inl rfl)) (fun _ _ _ _ _ => pts_nil) (fun _ _ _ _ _ => (pv 4)) (fun _ _ _ _ _ => (pe_call (ok_count_asks T) (hr.mono (by first | decide | omega)) (by rfl) T.g_count_asks T.F_count_asks.kp T.b_count_asks .nil pass0 (pa_cons (pv 0) (pa_cons (pv 4) pa_nil))))) pa_nil))) rfl)
        (pss_cons (ps_fld (pv 0) (pe_call (ok_numbers_below T) (hr.mono (by first | decide | omega)) (by rfl) T.g_numbers_below T.F_numbers_below.kp T.b_numbers_below .nil pass0 (pa_cons (pv 1) (pa_cons (Gr.pe_dcd false (own := [("house", 4)]) (g := gName 4) (hu_of hr) (by rfl) sc_init_Gaps.nd (pi_tup (pe_ix ix_tup (pv 1) pe_int (fun _ _ => rfl))) (blkOk_by (own := [("house", 4)]) (N := ["self", "town", "rows", "row", "house", "ask", "job"]) (sc := defScope s_i_Gaps) (by decide +kernel)) (fun _ _ _ _ _ => pg_name (i := 4) sc_init_Gaps.nd rfl (Or.inl rfl)) (fun _ _ _ _ _ => pts_nil) (fun _ _ _ _ _ => (pv 4)) (fun _ _ _ _ _ => (pe_call (ok_count_jobs T) (hr.mono (by first | decide | omega)) (by rfl) T.g_count_jobs T.F_count_jobs.kp T.b_count_jobs .nil pass0 (pa_cons (pv 0) (pa_cons (pv 4) pa_nil))))) pa_nil))) rfl)
        (pss_cons (ps_fld (pv 0) (Gr.pe_dcd true (own := [("ask", 5)]) (g := gName 5) (hu_of hr) (by rfl) sc_init_Gaps.nd (pi_list (pe_fld (pv 0) rfl)) (blkOk_by (own := [("ask", 5)]) (N := ["self", "town", "rows", "row", "house", "ask", "job"]) (sc := defScope s_i_Gaps) (by decide +kernel)) (fun _ _ _ _ _ => pg_name (i := 5) sc_init_Gaps.nd rfl (Or.inl rfl)) (fun _ _ _ _ _ => (pts_one (pt_cmp (pc_dnotin (hu_of hr) (pv 5) (show PE _ _ (tFld K (tVar 0) "ask_rows") from pe_fld (pv 0) rfl))))) (fun _ _ _ _ _ => (pv 5)) (fun _ _ _ _ _ => (pe_call (ok_span_of_ask T) (hr.mono (by first | decide | omega)) (by rfl) T.g_span_of_ask T.F_span_of_ask.kp T.b_span_of_ask .nil pass0 (pa_cons (pv 0) (pa_cons (pv 5) pa_nil))))) rfl)
        (pss_cons (ps_fld (pv 0) (Gr.pe_dcd true (own := [("job", 6)]) (g := gName 6) (hu_of hr) (by rfl) sc_init_Gaps.nd (pi_list (pe_fld (pv 0) rfl)) (blkOk_by (own := [("job", 6)]) (N := ["self", "town", "rows", "row", "house", "ask", "job"]) (sc := defScope s_i_Gaps) (by decide +kernel)) (fun _ _ _ _ _ => pg_name (i := 6) sc_init_Gaps.nd rfl (Or.inl rfl)) (fun _ _ _ _ _ => (pts_one (pt_cmp (pc_dnotin (hu_of hr) (pv 6) (show PE _ _ (tFld K (tVar 0) "job_rows") from pe_fld (pv 0) rfl))))) (fun _ _ _ _ _ => (pv 6)) (fun _ _ _ _ _ => (pe_call (ok_span_of_job T) (hr.mono (by first | decide | omega)) (by rfl) T.g_span_of_job T.F_span_of_job.kp T.b_span_of_job .nil pass0 (pa_cons (pv 0) (pa_cons (pv 6) pa_nil))))) rfl)
        (pss_one (ps_fld (pv 0) (Gr.pe_dcd false (own := [("house", 4)]) (g := gName 4) (hu_of hr) (by rfl) sc_init_Gaps.nd (pi_tup (pe_ix ix_tup (pv 1) pe_int (fun _ _ => rfl))) (blkOk_by (own := [("house", 4)]) (N := ["self", "town", "rows", "row", "house", "ask", "job"]) (sc := defScope s_i_Gaps) (by decide +kernel)) (fun _ _ _ _ _ => pg_name (i := 4) sc_init_Gaps.nd rfl (Or.inl rfl)) (fun _ _ _ _ _ => (pts_one (pt_cmp (pc_dnotin (hu_of hr) (pv 4) (show PE _ _ (tFld K (tVar 0) "all_rows") from pe_fld (pv 0) rfl))))) (fun _ _ _ _ _ => (pv 4)) (fun _ _ _ _ _ => (pe_call (ok_more_of T) (hr.mono (by first | decide | omega)) (by rfl) T.g_more_of T.F_more_of.kp T.b_more_of .nil pass0 (pa_cons (pv 0) (pa_cons (pv 4) pa_nil))))) rfl)))))))))), ?_⟩
    have cls := T.o_Gaps.c
    have no : ∀ f ∈ (["town", "ask_rows", "job_rows", "all_rows", "asks", "jobs", "ask_spans", "job_spans", "more_times"] : List Str), NoAttr K (af 69) f := T.o_Gaps.no
    -- self.town
    refine ⟨_, rfl, _, rfl, g, _, dx, [], rfl, hg, cls, no _ (by simp), (by show 0 < 1000; decide), ?_⟩
    have f2 : Frm g H (upd H g (.ins (af 69) dx (putF "town" (.ref t) []))) := frm_upd
    have hg2 : (upd H g (.ins (af 69) dx (putF "town" (.ref t) []))) g = _ := upd_same
    generalize upd H g (.ins (af 69) dx (putF "town" (.ref t) [])) = H2 at f2 hg2 ⊢
    have len2 : (putF ("town" : Str) (.ref t) []).length ≤ 1 := Nat.le_refl _
    have w2 : (putF ("town" : Str) (.ref t) []).lookup ("town" : Str) = some (.ref t) := put_own
    generalize putF ("town" : Str) (.ref t) [] = fs2 at hg2 len2 w2 ⊢
    have hl2 : H2 l = some (.lst xs) := f2 _ _ (ne_of hl hg (fun z => nomatch z)) hl
    have ht2 := ht.frm f2 hg
    have hrw2 : Rws H2 xs rs := hrw.frm f2 hg
    -- self.ask_rows
    refine ⟨_, rfl, l, "ask", xs, rs, rfl, hl2, hrw2, hrl, fun D3 kA H3 s3 nD3 hD3 dr3 kl3 => ?_⟩
    have hg3 := s3 _ _ hg2
    refine ⟨_, rfl, g, _, dx, fs2, rfl, hg3, cls, no _ (by simp), (by omega), ?_⟩
    have u4 : Frm g H3 (upd H3 g (.ins (af 69) dx (putF "ask_rows" (.ref D3) fs2))) := frm_upd
    have hg4 : (upd H3 g (.ins (af 69) dx (putF "ask_rows" (.ref D3) fs2))) g = _ := upd_same
    generalize upd H3 g (.ins (af 69) dx (putF "ask_rows" (.ref D3) fs2)) = H4 at u4 hg4 ⊢
    have e4 : (putF ("ask_rows" : Str) (.ref D3) fs2).lookup ("ask_rows" : Str) = some (.ref D3) := put_own
    have len4 : (putF ("ask_rows" : Str) (.ref D3) fs2).length ≤ 2 := Nat.le_trans (length_putF _ _ _) (by omega)
    have w4 : (putF ("ask_rows" : Str) (.ref D3) fs2).lookup ("town" : Str) = some (.ref t) := (put_other (by decide +kernel)).trans w2
    generalize putF ("ask_rows" : Str) (.ref D3) fs2 = fs4 at hg4 e4 len4 w4 ⊢
    have A4 : FldT (af 69) H4 g "ask_rows" (Bk rs "ask") := ⟨⟨dx, D3, fs4, kA, hg4, e4, u4 _ _ (ne_of hD3 hg3 (fun z => nomatch z)) hD3, dr3.same (u4.row hg3), kl3⟩, B.uniq (.inl rfl)⟩
    have v4 : Frm g H2 H4 := Frm.trans (fun b o _ e => s3 b o e) u4
    have hl4 : H4 l = some (.lst xs) := v4 _ _ (ne_of hl2 hg2 (fun z => nomatch z)) hl2
    have ht4 := ht2.frm v4 hg2
    have hrw4 := hrw2.frm v4 hg2
    have f4 := f2.trans v4
    -- self.job_rows
    refine ⟨_, rfl, l, "job", xs, rs, rfl, hl4, hrw4, hrl, fun D5 kJ H5 s5 nD5 hD5 dr5 kl5 => ?_⟩
    have hg5 := s5 _ _ hg4
    refine ⟨_, rfl, g, _, dx, fs4, rfl, hg5, cls, no _ (by simp), (by omega), ?_⟩
    have u6 : Frm g H5 (upd H5 g (.ins (af 69) dx (putF "job_rows" (.ref D5) fs4))) := frm_upd
    have hg6 : (upd H5 g (.ins (af 69) dx (putF "job_rows" (.ref D5) fs4))) g = _ := upd_same
    generalize upd H5 g (.ins (af 69) dx (putF "job_rows" (.ref D5) fs4)) = H6 at u6 hg6 ⊢
    have e6 : (putF ("job_rows" : Str) (.ref D5) fs4).lookup ("job_rows" : Str) = some (.ref D5) := put_own
    have o6 : (putF ("job_rows" : Str) (.ref D5) fs4).lookup ("ask_rows" : Str) = fs4.lookup ("ask_rows" : Str) := put_other (by decide +kernel)
    have len6 : (putF ("job_rows" : Str) (.ref D5) fs4).length ≤ 3 := Nat.le_trans (length_putF _ _ _) (by omega)
    have w6 : (putF ("job_rows" : Str) (.ref D5) fs4).lookup ("town" : Str) = some (.ref t) := (put_other (by decide +kernel)).trans w4
    generalize putF ("job_rows" : Str) (.ref D5) fs4 = fs6 at hg6 e6 o6 len6 w6 ⊢
    have J6 : FldT (af 69) H6 g "job_rows" (Bk rs "job") := ⟨⟨dx, D5, fs6, kJ, hg6, e6, u6 _ _ (ne_of hD5 hg5 (fun z => nomatch z)) hD5, dr5.same (u6.row hg5), kl5⟩, B.uniq (.inr rfl)⟩
    have v6 : Frm g H4 H6 := Frm.trans (fun b o _ e => s5 b o e) u6
    have A6 := A4.go v6 hg4 hg6 o6
    have hl6 : H6 l = some (.lst xs) := v6 _ _ (ne_of hl4 hg4 (fun z => nomatch z)) hl4
    have ht6 := ht4.frm v6 hg4
    have hrw6 := hrw4.frm v6 hg4
    have f6 := f4.trans v6
    -- self.all_rows
    refine ⟨_, rfl, l, rfl, ⟨_, SqL.of hl6⟩, fun D7 nD7 => ?_⟩
    refine Gr.dcd_it (walk_list (K := K) (a := l) (xs := xs)) (fun i H' => Same H6 H' ∧ ∃ kvs : List (Key × V), H' D7 = some (.dK kvs) ∧ DRow keyH H' (fun r => r ∈ rs.take i ∧ r.word = "all") kvs ∧ kvs.length ≤ i)
      ⟨same_upd nD7, [], upd_same, .nil (fun r h => by rw [List.take_zero] at h; exact nomatch h.1), Nat.le_refl _⟩ (fun i H' _ h => SqL.of (h.1 _ _ hl6)) ?_ ?_
    · rintro i v G1 G2 hi ⟨g1, kvs, hD, dr, hk⟩ ⟨rfl, hv⟩
      have hir : i < rs.length := by rw [← hrw6.1]; exact hi
      have er : rs[i]? = some rs[i] := List.getElem?_eq_getElem hir
      generalize rs[i] = r at er
      obtain ⟨a, ea, ha⟩ := hrw6.2 i r er
      obtain rfl : V.ref a = v := Option.some.inj (ea.symm.trans hv)
      have ha1 := g1 _ _ ha
      refine ⟨rfl, _, rfl, a, _, 0, _, rfl, rfl, SqT.of ha1, at0 r, rfl, _, rfl, ?_⟩
      refine ite2 (fun ew => ?_) (fun ew => ?_)
      · have ew : r.word = "all" := by simpa using ew
        refine ⟨_, rfl, a, _, 1, _, rfl, rfl, SqT.of ha1, at1 r, _, rfl, ?_⟩
        refine ⟨_, DPut.k (k := keyH r) hD (small_line (by omega)), same_mut g1 nD7, _, upd_same, ?_, put_len hk⟩
        have rows : ∀ c x, RowAt G2 c x → RowAt (upd G2 D7 (.dK (putK kvs (keyH r) (.ref a)))) c x := fun c x hc => by
          show (upd G2 D7 _) c = _
          rw [upd_ne (ne_of hc hD (fun z => nomatch z))]
          exact hc
        refine ((dr.put (a := a) (r := r) ha1).same rows).iff fun x => ?_
        rw [of_take er]
        constructor
        · rintro (⟨h1, h2⟩ | rfl)
          · exact ⟨.inl h1, h2⟩
          · exact ⟨.inr rfl, ew⟩
        · rintro ⟨h1 | rfl, h2⟩
          · exact .inl ⟨h1, h2⟩
          · exact .inr rfl
      · have ew : r.word ≠ "all" := by simpa using ew
        refine ⟨g1, kvs, hD, dr.iff fun x => ?_, Nat.le_succ_of_le hk⟩
        rw [of_take er]
        constructor
        · exact fun h => ⟨.inl h.1, h.2⟩
        · rintro ⟨h1 | rfl, h2⟩
          · exact ⟨h1, h2⟩
          · exact absurd h2 ew
    rintro H7 ⟨s7, kL, hD7, dr7, kl7⟩
    rw [hrw6.1, List.take_length] at dr7
    rw [hrw6.1] at kl7
    have hg7 := s7 _ _ hg6
    refine ⟨_, rfl, g, _, dx, fs6, rfl, hg7, cls, no _ (by simp), (by omega), ?_⟩
    have u8 : Frm g H7 (upd H7 g (.ins (af 69) dx (putF "all_rows" (.ref D7) fs6))) := frm_upd
    have hg8 : (upd H7 g (.ins (af 69) dx (putF "all_rows" (.ref D7) fs6))) g = _ := upd_same
    generalize upd H7 g (.ins (af 69) dx (putF "all_rows" (.ref D7) fs6)) = H8 at u8 hg8 ⊢
    have e8 : (putF ("all_rows" : Str) (.ref D7) fs6).lookup ("all_rows" : Str) = some (.ref D7) := put_own
    have o8 : (putF ("all_rows" : Str) (.ref D7) fs6).lookup ("ask_rows" : Str) = fs6.lookup ("ask_rows" : Str) := put_other (by decide +kernel)
    have p8 : (putF ("all_rows" : Str) (.ref D7) fs6).lookup ("job_rows" : Str) = fs6.lookup ("job_rows" : Str) := put_other (by decide +kernel)
    have len8 : (putF ("all_rows" : Str) (.ref D7) fs6).length ≤ 4 := Nat.le_trans (length_putF _ _ _) (by omega)
    have w8 : (putF ("all_rows" : Str) (.ref D7) fs6).lookup ("town" : Str) = some (.ref t) := (put_other (by decide +kernel)).trans w6
    generalize putF ("all_rows" : Str) (.ref D7) fs6 = fs8 at hg8 e8 o8 p8 len8 w8 ⊢
    have v8 : Frm g H6 H8 := Frm.trans (fun b o _ e => s7 b o e) u8
    have L8 : Low (af 69) H8 g rs := ⟨A6.go v8 hg6 hg8 o8, J6.go v8 hg6 hg8 p8, ⟨⟨dx, D7, fs8, kL, hg8, e8, u8 _ _ (ne_of hD7 hg7 (fun z => nomatch z)) hD7, dr7.same (u8.row hg7), by omega⟩, B.uniqH⟩, B.wf⟩
    have ht8 := ht6.frm v8 hg6
    have f8 := f6.trans v8
    -- self.asks
    obtain ⟨ta9, tb9, t19, t29, t39⟩ := id ht8
    refine ⟨_, rfl, _, rfl, t, _, 0, _, rfl, rfl, SqT.of t19, rfl, ta9, rfl, ⟨_, SqT.of t29⟩, fun C9 nC9 => ?_⟩
    refine Gr.dcd_it (walk_tup (K := K) (a := ta9) (xs := hs.map V.str)) (fun j H' => Same H8 H' ∧ ∃ kvs : List (Key × V), H' C9 = some (.dK kvs) ∧ CntD (CntA rs) (hs.take j) kvs ∧ kvs.length ≤ j)
      ⟨same_upd nC9, [], upd_same, (fun h m => by rw [List.take_zero] at m; exact nomatch m), Nat.le_refl _⟩ (fun j H' _ h => SqT.of (h.1 _ _ t29)) ?_ ?_
    · rintro j v G1 G2 hj ⟨g1, kvs, hD, cd, hk⟩ ⟨rfl, ev⟩
      rw [List.length_map] at hj
      have eh : hs[j]? = some hs[j] := List.getElem?_eq_getElem hj
      generalize hs[j] = h at eh
      rw [List.getElem?_map, eh] at ev
      obtain rfl : V.str h = v := Option.some.inj ev
      refine ⟨rfl, yes_if ⟨_, rfl, _, rfl, _, rfl, g, h, rs, rfl, L8.same g1, fun n G3 g3 hn hR => ?_⟩⟩
      have g13 := g1.trans g3
      refine ⟨_, DPut.k (k := Sum.inr h) (g3 _ _ hD) (small_line (by omega)), same_mut g13 nC9, _, upd_same, ?_, put_len hk⟩
      rw [take_snoc eh]
      exact cd.put hn hR
    rintro G9 ⟨sg9, kc9, hC9, cd9, kcl9⟩
    rw [List.length_map, List.take_length] at cd9
    refine ⟨t, C9, hs, gs, kc9, cntOf kc9, rfl, ht8.same' sg9, hC9, h6, fun h m => ⟨(cd9.of m).1, Nat.le_trans (cd9.of m).2.2 (by decide)⟩, fun D9 us9 M9 sm9 nD9 hD9 hk9 => ?_⟩
    have ss9 := sg9.trans sm9
    have hgm9 := ss9 _ _ hg8
    refine ⟨_, rfl, g, _, dx, fs8, rfl, hgm9, cls, no _ (by simp), (by omega), ?_⟩
    have L9 : Low (af 69) (upd M9 g (.ins (af 69) dx (putF "asks" (.ref D9) fs8))) g rs := (L8.same ss9).go hgm9 (by decide +kernel) (by decide +kernel) (by decide +kernel)
    have u9 : Frm g M9 (upd M9 g (.ins (af 69) dx (putF "asks" (.ref D9) fs8))) := frm_upd
    have hg9 : (upd M9 g (.ins (af 69) dx (putF "asks" (.ref D9) fs8))) g = _ := upd_same
    generalize upd M9 g (.ins (af 69) dx (putF "asks" (.ref D9) fs8)) = H9 at L9 u9 hg9 ⊢
    have e9 : (putF ("asks" : Str) (.ref D9) fs8).lookup ("asks" : Str) = some (.ref D9) := put_own
    
    have len9 : (putF ("asks" : Str) (.ref D9) fs8).length ≤ 4+1 := Nat.le_trans (length_putF _ _ _) (by omega)
    have w9 : (putF ("asks" : Str) (.ref D9) fs8).lookup ("town" : Str) = some (.ref t) := (put_other (by decide +kernel)).trans w8
    generalize putF ("asks" : Str) (.ref D9) fs8 = fs9 at hg9 e9 len9  w9 ⊢
    have v9 : Frm g H8 H9 := Frm.trans (fun b o _ e => ss9 b o e) u9
    have ht9 := ht8.frm v9 hg8
    have f9 := f8.trans v9
    have hDd9 : H9 D9 = some (.lst us9) := u9 _ _ (ne_of hD9 hgm9 (fun z => nomatch z)) hD9
    have hks9 : HKs H9 us9 (below hs (cntOf kc9)) := hk9.go fun b ys e => u9 _ _ (ne_of e hgm9 (fun z => nomatch z)) e
    -- self.jobs
    obtain ⟨ta10, tb10, t110, t210, t310⟩ := id ht9
    refine ⟨_, rfl, _, rfl, t, _, 0, _, rfl, rfl, SqT.of t110, rfl, ta10, rfl, ⟨_, SqT.of t210⟩, fun C10 nC10 => ?_⟩
    refine Gr.dcd_it (walk_tup (K := K) (a := ta10) (xs := hs.map V.str)) (fun j H' => Same H9 H' ∧ ∃ kvs : List (Key × V), H' C10 = some (.dK kvs) ∧ CntD (CntJ rs) (hs.take j) kvs ∧ kvs.length ≤ j)
      ⟨same_upd nC10, [], upd_same, (fun h m => by rw [List.take_zero] at m; exact nomatch m), Nat.le_refl _⟩ (fun j H' _ h => SqT.of (h.1 _ _ t210)) ?_ ?_
    · rintro j v G1 G2 hj ⟨g1, kvs, hD, cd, hk⟩ ⟨rfl, ev⟩
      rw [List.length_map] at hj
      have eh : hs[j]? = some hs[j] := List.getElem?_eq_getElem hj
      generalize hs[j] = h at eh
      rw [List.getElem?_map, eh] at ev
      obtain rfl : V.str h = v := Option.some.inj ev
      refine ⟨rfl, yes_if ⟨_, rfl, _, rfl, _, rfl, g, h, rs, rfl, L9.same g1, fun n G3 g3 hn hR => ?_⟩⟩
      have g13 := g1.trans g3
      refine ⟨_, DPut.k (k := Sum.inr h) (g3 _ _ hD) (small_line (by omega)), same_mut g13 nC10, _, upd_same, ?_, put_len hk⟩
      rw [take_snoc eh]
      exact cd.put hn hR
    rintro G10 ⟨sg10, kc10, hC10, cd10, kcl10⟩
    rw [List.length_map, List.take_length] at cd10
    refine ⟨t, C10, hs, gs, kc10, cntOf kc10, rfl, ht9.same' sg10, hC10, h6, fun h m => ⟨(cd10.of m).1, Nat.le_trans (cd10.of m).2.2 (by decide)⟩, fun D10 us10 M10 sm10 nD10 hD10 hk10 => ?_⟩
    have ss10 := sg10.trans sm10
    have hgm10 := ss10 _ _ hg9
    refine ⟨_, rfl, g, _, dx, fs9, rfl, hgm10, cls, no _ (by simp), (by omega), ?_⟩
    have L10 : Low (af 69) (upd M10 g (.ins (af 69) dx (putF "jobs" (.ref D10) fs9))) g rs := (L9.same ss10).go hgm10 (by decide +kernel) (by decide +kernel) (by decide +kernel)
    have u10 : Frm g M10 (upd M10 g (.ins (af 69) dx (putF "jobs" (.ref D10) fs9))) := frm_upd
    have hg10 : (upd M10 g (.ins (af 69) dx (putF "jobs" (.ref D10) fs9))) g = _ := upd_same
    generalize upd M10 g (.ins (af 69) dx (putF "jobs" (.ref D10) fs9)) = H10 at L10 u10 hg10 ⊢
    have e10 : (putF ("jobs" : Str) (.ref D10) fs9).lookup ("jobs" : Str) = some (.ref D10) := put_own
    have x10 : (putF ("jobs" : Str) (.ref D10) fs9).lookup ("asks" : Str) = some (.ref D9) := (put_other (by decide +kernel)).trans e9
    have len10 : (putF ("jobs" : Str) (.ref D10) fs9).length ≤ 5+1 := Nat.le_trans (length_putF _ _ _) (by omega)
    have w10 : (putF ("jobs" : Str) (.ref D10) fs9).lookup ("town" : Str) = some (.ref t) := (put_other (by decide +kernel)).trans w9
    generalize putF ("jobs" : Str) (.ref D10) fs9 = fs10 at hg10 e10 len10 x10 w10 ⊢
    have v10 : Frm g H9 H10 := Frm.trans (fun b o _ e => ss10 b o e) u10
    have ht10 := ht9.frm v10 hg9
    have f10 := f9.trans v10
    have hDd10 : H10 D10 = some (.lst us10) := u10 _ _ (ne_of hD10 hgm10 (fun z => nomatch z)) hD10
    have hks10 : HKs H10 us10 (below hs (cntOf kc10)) := hk10.go fun b ys e => u10 _ _ (ne_of e hgm10 (fun z => nomatch z)) e
    have hDa10 : H10 D9 = some (.lst us9) := v10 _ _ (ne_of hDd9 hg9 (fun z => nomatch z)) hDd9
    have hka10 : HKs H10 us9 (below hs (cntOf kc9)) := hks9.go fun b ys e => v10 _ _ (ne_of e hg9 (fun z => nomatch z)) e
    have cd11x : ∀ h ∈ hs, cntOf kc9 h ≤ 16 := fun h m => (cd9.of m).2.2
    have cd12x : ∀ h ∈ hs, cntOf kc10 h ≤ 16 := fun h m => (cd10.of m).2.2
    -- self.ask_spans
    refine ⟨_, rfl, g, _, dx, fs10, _, rfl, hg10, cls, no _ (by simp), x10, D9, rfl, ⟨_, SqL.of hDa10⟩, fun E11 nE11 => ?_⟩
    have nb11 := nd_below (cnt := cntOf kc9) hnd
    refine Gr.dcd_it (walk_list (K := K) (a := D9) (xs := us9)) (fun j H' => Same H10 H' ∧ ∃ kvs : List (List Key × V), H' E11 = some (.dT kvs) ∧ SpD H' (fun k us => ∃ a b, us = [a, b] ∧ SpA rs k a b) (lostOf rs "ask" ((below hs (cntOf kc9)).take j)) kvs ∧ kvs.length ≤ j)
      ⟨same_upd nE11, [], upd_same, ⟨by rw [List.take_zero]; rfl, fun _ m => (nomatch m)⟩, Nat.le_refl _⟩ (fun j H' _ h => SqL.of (h.1 _ _ hDa10)) ?_ ?_
    · rintro j v G1 G2 hj ⟨g1, kvs, hDk, sd, hk⟩ ⟨rfl, ev⟩
      have hjb : j < (below hs (cntOf kc9)).length := by rw [← hka10.len]; exact hj
      have eb : (below hs (cntOf kc9))[j]? = some (below hs (cntOf kc9))[j] := List.getElem?_eq_getElem hjb
      generalize (below hs (cntOf kc9))[j] = k at eb
      obtain ⟨b, ebv, hb⟩ := hka10.at eb
      obtain rfl : V.ref b = v := Option.some.inj (ebv.symm.trans ev)
      have hb1 := g1 _ _ hb
      obtain ⟨dy, d, fy, kv, h1, h2, h3, h4, h5⟩ := (L10.same g1).a.ex
      refine ⟨rfl, _, rfl, _, rfl, g, _, dy, fy, _, rfl, h1, cls, no _ (by simp), h2, d, _, rfl, DGet.t (k := Gr.keyOf k) h3 hb1, _, rfl, ?_⟩
      have bl : (below hs (cntOf kc9)).length ≤ 600 := Nat.le_trans (below_len _ hs fun h m => Nat.le_trans (cd11x h m) (by decide)) (by omega)
      rcases key_mem h4 k with ⟨v0, e1, e2⟩ | ⟨e1, e2⟩
      · rw [e1]
        refine iteF ⟨g1, kvs, hDk, ?_, Nat.le_succ_of_le hk⟩
        rw [take_snoc eb]
        unfold lostOf at sd ⊢
        rw [filter_snoc, if_neg (by simpa using e2), List.append_nil]
        exact sd
      · rw [e1]
        refine iteT ⟨_, rfl, _, rfl, _, rfl, g, b, k, rs, rfl, hb1, L10.same g1, fun p low high G3 g3 np hp hsp => ?_⟩
        have g13 := g1.trans g3
        have hDk3 := g3 _ _ hDk
        refine ⟨_, DPut.t (k := Gr.keyOf k) hDk3 (g3 _ _ hb1) (small_line (by omega)), same_mut g13 nE11, _, upd_same, ?_, put_len hk⟩
        rw [take_snoc eb]
        unfold lostOf at sd ⊢
        rw [filter_snoc, if_pos (by simpa using e2)]
        refine ((sd.go fun c ys e => g3 _ _ e).put (us := [low, high]) (fun m => not_mem_take nb11 eb (List.mem_filter.mp m).1) hp ⟨low, high, rfl, hsp⟩).go fun c ys e => ?_
        rw [upd_ne (ne_of e hDk3 (fun z => nomatch z))]
        exact e
    rintro M11 ⟨sm11, ks11, hE11, sd11, kl11⟩
    rw [hka10.len, List.take_length] at sd11
    have hgm11 := sm11 _ _ hg10
    refine ⟨_, rfl, g, _, dx, fs10, rfl, hgm11, cls, no _ (by simp), (by omega), ?_⟩
    have L11 : Low (af 69) (upd M11 g (.ins (af 69) dx (putF "ask_spans" (.ref E11) fs10))) g rs := (L10.same sm11).go hgm11 (by decide +kernel) (by decide +kernel) (by decide +kernel)
    have u11 : Frm g M11 (upd M11 g (.ins (af 69) dx (putF "ask_spans" (.ref E11) fs10))) := frm_upd
    have hg11 : (upd M11 g (.ins (af 69) dx (putF "ask_spans" (.ref E11) fs10))) g = _ := upd_same
    generalize upd M11 g (.ins (af 69) dx (putF "ask_spans" (.ref E11) fs10)) = H11 at L11 u11 hg11 ⊢
    have e11 : (putF ("ask_spans" : Str) (.ref E11) fs10).lookup ("ask_spans" : Str) = some (.ref E11) := put_own
    have x11 : (putF ("ask_spans" : Str) (.ref E11) fs10).lookup ("jobs" : Str) = some (.ref D10) := (put_other (by decide +kernel)).trans e10
    have len11 : (putF ("ask_spans" : Str) (.ref E11) fs10).length ≤ 6+1 := Nat.le_trans (length_putF _ _ _) (by omega)
    have w11 : (putF ("ask_spans" : Str) (.ref E11) fs10).lookup ("town" : Str) = some (.ref t) := (put_other (by decide +kernel)).trans w10
    have y11 : (putF ("ask_spans" : Str) (.ref E11) fs10).lookup ("asks" : Str) = some (.ref D9) := (put_other (by decide +kernel)).trans x10
    generalize putF ("ask_spans" : Str) (.ref E11) fs10 = fs11 at hg11 e11 len11 x11 w11 y11 ⊢
    have v11 : Frm g H10 H11 := Frm.trans (fun b o _ e => sm11 b o e) u11
    have f11 := f10.trans v11
    have hEd11 : H11 E11 = some (.dT ks11) := u11 _ _ (ne_of hE11 hgm11 (fun z => nomatch z)) hE11
    have sdd11 := sd11.go fun b ys (e : M11 b = some (.tup ys)) => u11 _ _ (ne_of e hgm11 (fun z => nomatch z)) e
    have hDj11 : H11 D10 = some (.lst us10) := v11 _ _ (ne_of hDd10 hg10 (fun z => nomatch z)) hDd10
    have hkj11 : HKs H11 us10 (below hs (cntOf kc10)) := hks10.go fun b ys e => v11 _ _ (ne_of e hg10 (fun z => nomatch z)) e
    have ht11 := ht10.frm v11 hg10
    have hAl11 : H11 D9 = some (.lst us9) := v11 _ _ (ne_of hDa10 hg10 (fun z => nomatch z)) hDa10
    have hAk11 : HKs H11 us9 (below hs (cntOf kc9)) := hka10.go fun b ys e => v11 _ _ (ne_of e hg10 (fun z => nomatch z)) e
    -- self.job_spans
    refine ⟨_, rfl, g, _, dx, fs11, _, rfl, hg11, cls, no _ (by simp), x11, D10, rfl, ⟨_, SqL.of hDj11⟩, fun E12 nE12 => ?_⟩
    have nb12 := nd_below (cnt := cntOf kc10) hnd
    refine Gr.dcd_it (walk_list (K := K) (a := D10) (xs := us10)) (fun j H' => Same H11 H' ∧ ∃ kvs : List (List Key × V), H' E12 = some (.dT kvs) ∧ SpD H' (fun k us => ∃ a b c, us = [a, b, c] ∧ SpJ rs k a b c) (lostOf rs "job" ((below hs (cntOf kc10)).take j)) kvs ∧ kvs.length ≤ j)
      ⟨same_upd nE12, [], upd_same, ⟨by rw [List.take_zero]; rfl, fun _ m => (nomatch m)⟩, Nat.le_refl _⟩ (fun j H' _ h => SqL.of (h.1 _ _ hDj11)) ?_ ?_
    · rintro j v G1 G2 hj ⟨g1, kvs, hDk, sd, hk⟩ ⟨rfl, ev⟩
      have hjb : j < (below hs (cntOf kc10)).length := by rw [← hkj11.len]; exact hj
      have eb : (below hs (cntOf kc10))[j]? = some (below hs (cntOf kc10))[j] := List.getElem?_eq_getElem hjb
      generalize (below hs (cntOf kc10))[j] = k at eb
      obtain ⟨b, ebv, hb⟩ := hkj11.at eb
      obtain rfl : V.ref b = v := Option.some.inj (ebv.symm.trans ev)
      have hb1 := g1 _ _ hb
      obtain ⟨dy, d, fy, kv, h1, h2, h3, h4, h5⟩ := (L11.same g1).j.ex
      refine ⟨rfl, _, rfl, _, rfl, g, _, dy, fy, _, rfl, h1, cls, no _ (by simp), h2, d, _, rfl, DGet.t (k := Gr.keyOf k) h3 hb1, _, rfl, ?_⟩
      have bl : (below hs (cntOf kc10)).length ≤ 600 := Nat.le_trans (below_len _ hs fun h m => Nat.le_trans (cd12x h m) (by decide)) (by omega)
      rcases key_mem h4 k with ⟨v0, e1, e2⟩ | ⟨e1, e2⟩
      · rw [e1]
        refine iteF ⟨g1, kvs, hDk, ?_, Nat.le_succ_of_le hk⟩
        rw [take_snoc eb]
        unfold lostOf at sd ⊢
        rw [filter_snoc, if_neg (by simpa using e2), List.append_nil]
        exact sd
      · rw [e1]
        refine iteT ⟨_, rfl, _, rfl, _, rfl, g, b, k, rs, rfl, hb1, L11.same g1, fun p low high last G3 g3 np hp hsp => ?_⟩
        have g13 := g1.trans g3
        have hDk3 := g3 _ _ hDk
        refine ⟨_, DPut.t (k := Gr.keyOf k) hDk3 (g3 _ _ hb1) (small_line (by omega)), same_mut g13 nE12, _, upd_same, ?_, put_len hk⟩
        rw [take_snoc eb]
        unfold lostOf at sd ⊢
        rw [filter_snoc, if_pos (by simpa using e2)]
        refine ((sd.go fun c ys e => g3 _ _ e).put (us := [low, high, last]) (fun m => not_mem_take nb12 eb (List.mem_filter.mp m).1) hp ⟨low, high, last, rfl, hsp⟩).go fun c ys e => ?_
        rw [upd_ne (ne_of e hDk3 (fun z => nomatch z))]
        exact e
    rintro M12 ⟨sm12, ks12, hE12, sd12, kl12⟩
    rw [hkj11.len, List.take_length] at sd12
    have hgm12 := sm12 _ _ hg11
    refine ⟨_, rfl, g, _, dx, fs11, rfl, hgm12, cls, no _ (by simp), (by omega), ?_⟩
    have L12 : Low (af 69) (upd M12 g (.ins (af 69) dx (putF "job_spans" (.ref E12) fs11))) g rs := (L11.same sm12).go hgm12 (by decide +kernel) (by decide +kernel) (by decide +kernel)
    have u12 : Frm g M12 (upd M12 g (.ins (af 69) dx (putF "job_spans" (.ref E12) fs11))) := frm_upd
    have hg12 : (upd M12 g (.ins (af 69) dx (putF "job_spans" (.ref E12) fs11))) g = _ := upd_same
    generalize upd M12 g (.ins (af 69) dx (putF "job_spans" (.ref E12) fs11)) = H12 at L12 u12 hg12 ⊢
    have e12 : (putF ("job_spans" : Str) (.ref E12) fs11).lookup ("job_spans" : Str) = some (.ref E12) := put_own
    have x12 : (putF ("job_spans" : Str) (.ref E12) fs11).lookup ("ask_spans" : Str) = some (.ref E11) := (put_other (by decide +kernel)).trans e11
    have len12 : (putF ("job_spans" : Str) (.ref E12) fs11).length ≤ 7+1 := Nat.le_trans (length_putF _ _ _) (by omega)
    have w12 : (putF ("job_spans" : Str) (.ref E12) fs11).lookup ("town" : Str) = some (.ref t) := (put_other (by decide +kernel)).trans w11
    have y12 : (putF ("job_spans" : Str) (.ref E12) fs11).lookup ("asks" : Str) = some (.ref D9) := (put_other (by decide +kernel)).trans y11
    have z12 : (putF ("job_spans" : Str) (.ref E12) fs11).lookup ("jobs" : Str) = some (.ref D10) := (put_other (by decide +kernel)).trans x11
    generalize putF ("job_spans" : Str) (.ref E12) fs11 = fs12 at hg12 e12 len12 x12 w12 y12 z12 ⊢
    have v12 : Frm g H11 H12 := Frm.trans (fun b o _ e => sm12 b o e) u12
    have f12 := f11.trans v12
    have hEd12 : H12 E12 = some (.dT ks12) := u12 _ _ (ne_of hE12 hgm12 (fun z => nomatch z)) hE12
    have sdd12 := sd12.go fun b ys (e : M12 b = some (.tup ys)) => u12 _ _ (ne_of e hgm12 (fun z => nomatch z)) e
    have hEd12a : H12 E11 = some (.dT ks11) := v12 _ _ (ne_of hEd11 hg11 (fun z => nomatch z)) hEd11
    have sdd12a := sdd11.go fun b ys (e : H11 b = some (.tup ys)) => v12 _ _ (ne_of e hg11 (fun z => nomatch z)) e
    have ht12 := ht11.frm v12 hg11
    have hAl12 : H12 D9 = some (.lst us9) := v12 _ _ (ne_of hAl11 hg11 (fun z => nomatch z)) hAl11
    have hAk12 : HKs H12 us9 (below hs (cntOf kc9)) := hAk11.go fun b ys e => v12 _ _ (ne_of e hg11 (fun z => nomatch z)) e
    have hJl12 : H12 D10 = some (.lst us10) := v12 _ _ (ne_of hDj11 hg11 (fun z => nomatch z)) hDj11
    have hJk12 : HKs H12 us10 (below hs (cntOf kc10)) := hkj11.go fun b ys e => v12 _ _ (ne_of e hg11 (fun z => nomatch z)) e
    -- self.more_times
    obtain ⟨ta, tb, t1, t2, t3⟩ := id ht12
    refine ⟨_, rfl, t, _, 0, _, rfl, rfl, SqT.of t1, rfl, ta, rfl, ⟨_, SqT.of t2⟩, fun E13 nE13 => ?_⟩
    refine Gr.dcd_it (walk_tup (K := K) (a := ta) (xs := hs.map V.str)) (fun j H' => Same H12 H' ∧ ∃ kvs : List (Key × V), H' E13 = some (.dK kvs) ∧ MoD H' (fun h us => ∃ a b, us = [a, b] ∧ Mr rs h a b) (openOf rs (hs.take j)) kvs ∧ kvs.length ≤ j)
      ⟨same_upd nE13, [], upd_same, ⟨by rw [List.take_zero]; rfl, fun _ m => (nomatch m)⟩, Nat.le_refl _⟩ (fun j H' _ h => SqT.of (h.1 _ _ t2)) ?_ ?_
    · rintro j v G1 G2 hj ⟨g1, kvs, hDk, sd, hk⟩ ⟨rfl, ev⟩
      rw [List.length_map] at hj
      have eh : hs[j]? = some hs[j] := List.getElem?_eq_getElem hj
      generalize hs[j] = h at eh
      rw [List.getElem?_map, eh] at ev
      obtain rfl : V.str h = v := Option.some.inj ev
      obtain ⟨dy, d, fy, kv, h1, h2, h3, h4, h5⟩ := (L12.same g1).l.ex
      refine ⟨rfl, _, rfl, _, rfl, g, _, dy, fy, _, rfl, h1, cls, no _ (by simp), h2, d, _, rfl, DGet.k (k := Sum.inr h) h3, _, rfl, ?_⟩
      rcases val_row h4 (Sum.inr h : Key) with ⟨a, r, e1, e2, e3, e4⟩ | ⟨e1, e2⟩
      · have ex : ∃ r, AllOf rs h r := ⟨r, e3, (Sum.inr.inj e4).symm⟩
        rw [e1]
        refine iteF ⟨g1, kvs, hDk, ?_, Nat.le_succ_of_le hk⟩
        rw [take_snoc eh]
        unfold openOf at sd ⊢
        rw [filter_snoc, if_neg (by simpa using ex), List.append_nil]
        exact sd
      · have ex : ¬ ∃ r, AllOf rs h r := fun ⟨r, hr, eh⟩ => e2 r hr (congrArg Sum.inr eh)
        rw [e1]
        refine iteT ⟨_, rfl, _, rfl, _, rfl, g, h, rs, rfl, L12.same g1, fun p ta' tj G3 g3 np hp hsp => ?_⟩
        have g13 := g1.trans g3
        have hDk3 := g3 _ _ hDk
        refine ⟨_, DPut.k (k := Sum.inr h) hDk3 (small_line (by omega)), same_mut g13 nE13, _, upd_same, ?_, put_len hk⟩
        rw [take_snoc eh]
        unfold openOf at sd ⊢
        rw [filter_snoc, if_pos (by simpa using ex)]
        refine ((sd.go fun c ys e => g3 _ _ e).put (us := [ta', tj]) (fun m => not_mem_take hnd eh (List.mem_filter.mp m).1) hp ⟨ta', tj, rfl, hsp⟩).go fun c ys e => ?_
        rw [upd_ne (ne_of e hDk3 (fun z => nomatch z))]
        exact e
    rintro M13 ⟨sm13, ks13, hE13, sd13, kl13⟩
    rw [List.length_map, List.take_length] at sd13
    have hgm13 := sm13 _ _ hg12
    refine ⟨_, rfl, g, _, dx, fs12, rfl, hgm13, cls, no _ (by simp), (by omega), ?_⟩
    have L13 : Low (af 69) (upd M13 g (.ins (af 69) dx (putF "more_times" (.ref E13) fs12))) g rs := (L12.same sm13).go hgm13 (by decide +kernel) (by decide +kernel) (by decide +kernel)
    have u13 : Frm g M13 (upd M13 g (.ins (af 69) dx (putF "more_times" (.ref E13) fs12))) := frm_upd
    have hg13 : (upd M13 g (.ins (af 69) dx (putF "more_times" (.ref E13) fs12))) g = _ := upd_same
    generalize upd M13 g (.ins (af 69) dx (putF "more_times" (.ref E13) fs12)) = H13 at L13 u13 hg13 ⊢
    have v13 : Frm g H12 H13 := Frm.trans (fun b o _ e => sm13 b o e) u13
    have tup13 : ∀ b ys, H12 b = some (.tup ys) → H13 b = some (.tup ys) := fun b ys e => v13 _ _ (ne_of e hg12 (fun z => nomatch z)) e
    refine qQ H13 (f12.trans v13) ⟨L13, dx, E11, E12, E13, _, ks11, ks12, ks13, cntOf kc9, cntOf kc10, hg13, fun h m => (cd9.of m).2, fun h m => (cd10.of m).2, ?_, ?_, ?_, ?_, ?_, ?_, put_own, ?_, ?_⟩ ⟨dx, D9, D10, _, us9, us10, cntOf kc9, cntOf kc10, hg13, fun h m => (cd9.of m).2, fun h m => (cd10.of m).2, (put_other (by decide +kernel)).trans w12, ht12.frm v13 hg12, (put_other (by decide +kernel)).trans y12, v13 _ _ (ne_of hAl12 hg12 (fun z => nomatch z)) hAl12, hAk12.go tup13, (put_other (by decide +kernel)).trans z12, v13 _ _ (ne_of hJl12 hg12 (fun z => nomatch z)) hJl12, hJk12.go tup13⟩
    · exact (put_other (by decide +kernel)).trans x12
    · exact v13 _ _ (ne_of hEd12a hg12 (fun z => nomatch z)) hEd12a
    · exact sdd12a.go tup13
    · exact (put_other (by decide +kernel)).trans e12
    · exact v13 _ _ (ne_of hEd12 hg12 (fun z => nomatch z)) hEd12
    · exact sdd12.go tup13
    · exact u13 _ _ (ne_of hE13 hgm13 (fun z => nomatch z)) hE13
    · exact sd13.go fun b ys e => u13 _ _ (ne_of e hgm13 (fun z => nomatch z)) e
/-! ### the lists that are told -/
def hkInv : List Key → Gr.HK
  | [.inr h, .inl n] => (h, n)
  | _ => ("", 0)
theorem hkInv_keyOf (k : Gr.HK) : hkInv (Gr.keyOf k) = k := rfl
theorem keys_back {kvs : List (List Key × V)} (h : ∀ kv ∈ kvs, ∃ k, kv.1 = Gr.keyOf k) : kvs.map (·.1) = (kvs.map fun kv => hkInv kv.1).map Gr.keyOf := by
  rw [List.map_map]
  refine List.map_congr_left fun kv m => ?_
  obtain ⟨k, e⟩ := h kv m
  show kv.1 = Gr.keyOf (hkInv kv.1)
  rw [e, hkInv_keyOf]
theorem hks_of {H : Hp} : ∀ {ys : List (Addr × Gr.HK)}, (∀ y ∈ ys, H y.1 = some (.tup ((Gr.keyOf y.2).map kV))) → HKs H (ys.map fun y => V.ref y.1) (ys.map (·.2))
  | [], _ => .nil
  | y :: ys, h => .cons (h y List.mem_cons_self) (hks_of fun z m => h z (List.mem_cons_of_mem _ m))
def SrtK (ks : List Gr.HK) : Prop := ks.Pairwise fun x y => Fl.ltD (Gr.datOf y) (Gr.datOf x) = false
/-! a town and a list, and what refuses it -/
structure Ask (Ex : Addr → Prop) (H : Hp) (t l : Addr) (hs gs : List Str) (xs : List V) (ds : List PyData) : Prop where
  town : TownAt H t hs gs
  ok : ∀ h ∈ hs, PyData.strOk h = true
  lst : H l = some (.lst xs)
  thing : Thing Ex H xs ds
  len : ds.length ≤ 1000
  h6 : hs.length ≤ 6
  nd : hs.Nodup
def Refuse (CN CC : Addr) (H : Hp) (hs : List Str) (ds : List PyData) (E : XK) : Prop :=
  (∀ (i : Nat) (dv : PyData) (d : Addr) (H' : Hp), RowsD hs ds i → ds[i]? = some dv → ¬ IsRowD hs dv → Same H H' → H' d = some (.xd [("number", .int (i : Nat))]) → E (.ref CN) (some d) H') ∧
  ∀ (f s : Nat) (d : Addr) (H' : Hp), RowsD hs ds ds.length → FirstClash ds f s → Same H H' → H' d = some (.xd [("second", .int (s : Nat)), ("first", .int (f : Nat))]) → E (.ref CC) (some d) H'
theorem same_two {H : Hp} {x dx : Addr} {o1 o2 : HO} (nx : H x = none) (nd : H dx = none) : Same H (upd (upd H dx o1) x o2) := fun b o e => by
  rw [upd_ne (ne_of_none e nx), upd_ne (ne_of_none e nd)]
  exact e
/-! gaps_of(town, rows) -/
def sp_gaps_of (C CN CC : Addr) : Sp := fun vs H Q E => ∃ (Ex : Addr → Prop) (t l : Addr) (hs gs : List Str) (xs : List V) (ds : List PyData), vs = [.ref t, .ref l] ∧ Ask Ex H t l hs gs xs ds ∧
  (∀ (rs : List Row) (x : Addr) (H' : Hp), Same H H' → RowsD hs ds ds.length → NoClash ds ds.length → Book hs rs → ds = rs.map rowD → GapsAt C H' x hs rs → GapsFull C H' x t hs gs rs → Q (.ref x) H') ∧ Refuse CN CC H hs ds E
theorem ok_gaps_of (T : Txt K mg af fd) : FnOk P w K mg base (L2.CX P w) 8 (af 18) (fd 18) ["town", "rows"] (sp_gaps_of (af 69) (af 65) (af 67)) := by
  refine T.F_gaps_of.okX sc_gaps_of (fun vs H Q E h => ?_) (fun cdv A outer s H vs Q E hr h => ?_)
  · obtain ⟨Ex, t, l, hs, gs, xs, ds, rfl, _⟩ := h
    rfl
  · obtain ⟨Ex, t, l, hs, gs, xs, ds, rfl, a, q, r⟩ := h
    refine ⟨_, (pss_cons (ps_expr (pe_call (ok_need_book T) (hr.mono (by first | decide | omega)) (by rfl) T.g_need_book T.F_need_book.kp T.b_need_book .nil (passes_call (takes_of rfl rfl rfl rfl) (fun _ _ _ _ h => h)) (pa_cons (pv 0) (pa_cons (pv 1) pa_nil))))
        (pss_one (ps_ret (pe_make T.o_Gaps.M (ok_init_Gaps T) (hr.mono (by first | decide | omega)) (by rfl) T.o_Gaps.g T.o_Gaps.b .nil pass0 (pa_cons (pv 0) (pa_cons (pv 1) pa_nil)))))), ?_⟩
    refine ⟨_, rfl, _, rfl, Ex, t, l, hs, gs, xs, ds, rfl, a.town, a.ok, a.lst, a.thing, a.len, fun H1 s1 hrows hno => ?_, r.1, r.2⟩
    obtain ⟨rs, hds, hrw, B⟩ := book_of a.ok (a.thing.1.same s1) hrows hno
    have hrl : rs.length ≤ 1000 := by have h := a.len; rw [hds, List.length_map] at h; exact h
    refine ⟨_, rfl, _, rfl, fun x dx nx nd ne => ?_⟩
    have s0 : Same H1 (upd (upd H1 dx (.own x)) x (.ins (af 69) dx [])) := same_two nx nd
    refine ⟨x, dx, t, l, hs, gs, xs, rs, rfl, upd_same, (a.town.same' s1).same' s0, s0 _ _ (s1 _ _ a.lst), hrw.same s0, hrl, B, a.h6, a.nd, fun H' fr G GF => ⟨rfl, ?_⟩⟩
    exact q rs x H' (s1.trans fun b o e => fr b o (ne_of_none e nx) (s0 b o e)) hrows hno B hds G GF
def sp_list (CN CC : Addr) (R : List Str → List Row → List Gr.HK → Prop) : Sp := fun vs H Q E => ∃ (Ex : Addr → Prop) (t l : Addr) (hs gs : List Str) (xs : List V) (ds : List PyData), vs = [.ref t, .ref l] ∧ Ask Ex H t l hs gs xs ds ∧
  (∀ (rs : List Row) (p : Addr) (us : List V) (ks : List Gr.HK) (H' : Hp), Same H H' → RowsD hs ds ds.length → NoClash ds ds.length → Book hs rs → ds = rs.map rowD → H p = none → H' p = some (.lst us) → HKs H' us ks → SrtK ks → R hs rs ks → Q (.ref p) H') ∧ Refuse CN CC H hs ds E
def KnownR (wd : Str) (hs : List Str) (rs : List Row) (ks : List Gr.HK) : Prop := ks.Nodup ∧ ∀ k, k ∈ ks ↔ ∃ r, Bk rs wd r ∧ r.key = k
def LostR (C : List Row → Str → Int → Prop) (wd : Str) (hs : List Str) (rs : List Row) (ks : List Gr.HK) : Prop := ∃ cnt : Str → Nat, (∀ h ∈ hs, C rs h (cnt h : Nat) ∧ cnt h ≤ 16) ∧ ks.Perm (lostOf rs wd (below hs cnt))
theorem known_keys {H : Hp} {rs : List Row} {wd : Str} {kvs : List (List Key × V)} {ks : List Gr.HK} (d : DRow key2 H (Bk rs wd) kvs) (pm : ks.Perm (kvs.map fun kv => hkInv kv.1)) : KnownR wd [] rs ks := by
  have hk : ∀ kv ∈ kvs, ∃ k, kv.1 = Gr.keyOf k := fun kv m => let ⟨a, r, _, _, _, e⟩ := d.own kv m; ⟨r.key, e⟩
  have e := keys_back hk
  refine ⟨pm.nodup_iff.mpr ?_, fun k => ?_⟩
  · have nd := d.nd
    rw [e, List.nodup_iff_pairwise_ne, List.pairwise_map] at nd
    exact List.nodup_iff_pairwise_ne.mpr (nd.imp fun ne z => ne (congrArg Gr.keyOf z))
  · rw [pm.mem_iff]
    constructor
    · intro m
      obtain ⟨kv, mkv, rfl⟩ := List.mem_map.mp m
      obtain ⟨a, r, _, _, h1, h2⟩ := d.own kv mkv
      exact ⟨r, h1, by rw [h2]; rfl⟩
    · rintro ⟨r, hr, rfl⟩
      obtain ⟨v, m⟩ := d.all r hr
      exact List.mem_map.mpr ⟨_, m, rfl⟩
/-! ### from H to H': all that stood stands, tables of code objects may have grown -/
structure Sm (H H' : Hp) : Prop where
  keep : ∀ b o, H b = some o → (∀ ps, o ≠ .tbl ps) → H' b = some o
  tab : ∀ b ps, H b = some (.tbl ps) → ∃ ps', H' b = some (.tbl ps') ∧ (TriplesOk ps.toList → TriplesOk ps'.toList)
theorem Sm.refl (H : Hp) : Sm H H := ⟨fun _ _ e _ => e, fun _ ps e => ⟨ps, e, id⟩⟩
theorem Sm.trans {H H1 H2 : Hp} (a : Sm H H1) (b : Sm H1 H2) : Sm H H2 := ⟨fun x o e n => b.keep x o (a.keep x o e n) n, fun x ps e => by
  obtain ⟨p1, e1, t1⟩ := a.tab x ps e
  obtain ⟨p2, e2, t2⟩ := b.tab x p1 e1
  exact ⟨p2, e2, fun t => t2 (t1 t)⟩⟩
theorem Sm.of {H H' : Hp} (s : Same H H') : Sm H H' := ⟨fun b o e _ => s b o e, fun b ps e => ⟨ps, s b _ e, id⟩⟩
theorem Sm.tabbed {P : Addr} {H H' : Hp} (h : GxR.TabG H P) (t : GxR.Tabbed P H H') : Sm H H' := by
  obtain ⟨ps0, e0, t0⟩ := h
  obtain ⟨⟨ps1, e1, t1⟩, rest⟩ := t
  refine ⟨fun b o e n => ?_, fun b ps e => ?_⟩
  · by_cases hb : b = P
    · subst hb
      exact absurd (Option.some.inj (e.symm.trans e0)) (n ps0)
    · rw [rest b hb]
      exact e
  · by_cases hb : b = P
    · subst hb
      exact ⟨ps1, e1, fun _ => t1⟩
    · exact ⟨ps, by rw [rest b hb]; exact e, id⟩
theorem Sm.free {H H' : Hp} (s : Sm H H') {b : Addr} (h : H' b = none) : H b = none := by
  cases e : H b with
  | none => rfl
  | some o =>
    by_cases n : ∃ ps, o = .tbl ps
    · obtain ⟨ps, rfl⟩ := n
      obtain ⟨p1, e1, _⟩ := s.tab b ps e
      rw [h] at e1
      cases e1
    · rw [s.keep b o e fun ps z => n ⟨ps, z⟩] at h
      cases h
theorem Sm.mut {H H1 : Hp} {p : Addr} {o : HO} (s : Sm H H1) (h : H p = none) : Sm H (upd H1 p o) :=
  ⟨fun b x e n => by rw [upd_ne (ne_of_none e h)]; exact s.keep b x e n, fun b ps e => by rw [upd_ne (ne_of_none e h)]; exact s.tab b ps e⟩
theorem Sm.tup {H H' : Hp} (s : Sm H H') {b : Addr} {xs : List V} (e : H b = some (.tup xs)) : H' b = some (.tup xs) := s.keep b _ e (fun _ z => nomatch z)
theorem Sm.lst {H H' : Hp} (s : Sm H H') {b : Addr} {xs : List V} (e : H b = some (.lst xs)) : H' b = some (.lst xs) := s.keep b _ e (fun _ z => nomatch z)
theorem Sm.dK {H H' : Hp} (s : Sm H H') {b : Addr} {kvs : List (Key × V)} (e : H b = some (.dK kvs)) : H' b = some (.dK kvs) := s.keep b _ e (fun _ z => nomatch z)
theorem Sm.dT {H H' : Hp} (s : Sm H H') {b : Addr} {kvs : List (List Key × V)} (e : H b = some (.dT kvs)) : H' b = some (.dT kvs) := s.keep b _ e (fun _ z => nomatch z)
theorem Sm.ins {H H' : Hp} (s : Sm H H') {b C dx : Addr} {fs : List (Str × V)} (e : H b = some (.ins C dx fs)) : H' b = some (.ins C dx fs) := s.keep b _ e (fun _ z => nomatch z)
theorem Dq.sm {Ex : Addr → Prop} {H H' : Hp} {v : V} {d : PyData} (h : Dq Ex H v d) (s : Sm H H') : Dq Ex H' v d := h.go (fun _ a b => absurd a b) (fun _ _ _ e => s.lst e) (fun _ _ e => s.tup e)
theorem Dqs.sm {Ex : Addr → Prop} {H H' : Hp} {v : List V} {d : List PyData} (h : Dqs Ex H v d) (s : Sm H H') : Dqs Ex H' v d := h.go (fun _ a b => absurd a b) (fun _ _ _ e => s.lst e) (fun _ _ e => s.tup e)
theorem TownAt.sm {t : Addr} {H H' : Hp} {hs gs : List Str} (h : TownAt H t hs gs) (s : Sm H H') : TownAt H' t hs gs := by
  obtain ⟨a, b, h1, h2, h3⟩ := h
  exact ⟨a, b, s.tup h1, s.tup h2, s.tup h3⟩
theorem Pen.smm {p c : Addr} {H H' : Hp} (h : Pen H p c) (s : Sm H H') : Pen H' p c := by
  obtain ⟨cs, n, st, h1, h2, h3, h4⟩ := h
  exact ⟨cs, n, st, s.lst h1, s.lst h2, h3, h4⟩
/-! the tables of the defs that hold generator expressions -/
def Tbs (af : Nat → Addr) (H : Hp) : Prop := ∀ i ∈ tabIx, GxR.TabG H (af i)
theorem Tbs.sm {af : Nat → Addr} {H H' : Hp} (t : Tbs af H) (s : Sm H H') : Tbs af H' := fun i hi => by
  obtain ⟨ps, e, tr⟩ := t i hi
  obtain ⟨p1, e1, t1⟩ := s.tab _ ps e
  exact ⟨p1, e1, t1 tr⟩
theorem Tbs.same {af : Nat → Addr} {H H' : Hp} (t : Tbs af H) (s : Same H H') : Tbs af H' := t.sm (.of s)
theorem Tbs.stp {af : Nat → Addr} {p c : Addr} {H H' : Hp} (t : Tbs af H) (s : Stp p c H H') (hP : Pen H p c) : Tbs af H' := fun i hi => by
  obtain ⟨ps, e, tr⟩ := t i hi
  obtain ⟨_, _, _, h1, _⟩ := hP
  exact ⟨ps, s.2 _ _ (ne_of e h1 (fun z => nomatch z)) e, tr⟩
/-! ### worlds: jobs and asks as the law lays them -/
structure WJ where
  h : Str
  b : Int
  e : Int
structure WA where
  pl : Nat
  g : Str
  o : Int
  k : Int
  ch : Nat
def WJ.v (j : WJ) : List V := [.str j.h, .int j.b, .int j.e]
def WA.v (x : WA) : List V := [.int (x.pl : Nat), .str x.g, .int x.o, .int x.k, .int (x.ch : Nat)]
def Cells {A : Type} (f : A → List V) (H : Hp) (rs : List Addr) (xs : List A) : Prop := rs.length = xs.length ∧ ∀ (i : Nat) (r : Addr) (x : A), rs[i]? = some r → xs[i]? = some x → H r = some (.lst (f x))
structure WorldAt (H : Hp) (w lj la : Addr) (rs qs : List Addr) (js : List WJ) (as : List WA) (most : Int) : Prop where
  w : H w = some (.lst [.ref lj, .ref la, .int most])
  j : H lj = some (.lst (rs.map V.ref))
  a : H la = some (.lst (qs.map V.ref))
  cj : Cells WJ.v H rs js
  ca : Cells WA.v H qs as
  pl : ∀ x ∈ as, x.pl < js.length
theorem Cells.same {A : Type} {f : A → List V} {H H' : Hp} {rs : List Addr} {xs : List A} (h : Cells f H rs xs) (s : Same H H') : Cells f H' rs xs := ⟨h.1, fun i r x e1 e2 => s _ _ (h.2 i r x e1 e2)⟩
theorem WorldAt.same {H H' : Hp} {w lj la : Addr} {rs qs : List Addr} {js : List WJ} {as : List WA} {most : Int} (h : WorldAt H w lj la rs qs js as most) (s : Same H H') : WorldAt H' w lj la rs qs js as most := ⟨s _ _ h.w, s _ _ h.j, s _ _ h.a, h.cj.same s, h.ca.same s, h.pl⟩
theorem Cells.at {A : Type} {f : A → List V} {H : Hp} {rs : List Addr} {xs : List A} {i : Nat} {x : A} (h : Cells f H rs xs) (e : xs[i]? = some x) : ∃ r, rs[i]? = some r ∧ H r = some (.lst (f x)) := by
  have hi : i < rs.length := by rw [h.1]; exact (List.getElem?_eq_some_iff.mp e).1
  exact ⟨rs[i], List.getElem?_eq_getElem hi, h.2 i _ x (List.getElem?_eq_getElem hi) e⟩
theorem map_ref {rs : List Addr} {i : Nat} {r : Addr} (e : rs[i]? = some r) : (rs.map V.ref)[i]? = some (.ref r) := by
  rw [List.getElem?_map, e]
  rfl
/-! whose an ask is, and how many there are of a house -/
def WA.of (js : List WJ) (x : WA) (h : Str) : Bool := match js[x.pl]? with
  | some j => decide (j.h = h)
  | none => false
def nA (js : List WJ) (as : List WA) (h : Str) : Nat := (as.filter fun x => x.of js h).length
def nJ (js : List WJ) (h : Str) : Nat := (js.filter fun j => decide (j.h = h)).length
def sp_room : Sp := fun vs H Q _ => ∃ (w lj la : Addr) (rs qs : List Addr) (js : List WJ) (as : List WA) (most : Int) (h g : Str), vs = [.ref w, .str h, .str g] ∧ WorldAt H w lj la rs qs js as most ∧ js.length ≤ 500 ∧ as.length ≤ 500 ∧
  ∀ (b : Bool) (H' : Hp), Same H H' → (b = true ↔ nA js as h < 15 ∧ nJ js g < 15 ∧ (js.length : Int) < most) → Q (.bl b) H'
theorem take_succ_filter {A : Type} (f : A → Bool) (xs : List A) {i : Nat} {x : A} (e : xs[i]? = some x) : (xs.take (i + 1)).filter f = (xs.take i).filter f ++ (if f x = true then [x] else []) := by
  rw [List.take_add_one, e, Option.toList_some, List.filter_append]
  congr 1
  rw [List.filter_cons]
  rfl
theorem ok_l_room (T : Txt K mg af fd) : FnOk P w K mg base CX0 1 (af 44) (fd 44) ["world", "house", "goal"] sp_room := by
  refine T.F_l_room.ok sc_l_room (fun vs H Q E h => ?_) (fun cdv A outer s H vs Q E hr h => ?_)
  · obtain ⟨w, lj, la, rs, qs, js, as, most, hh, g, rfl, _⟩ := h
    rfl
  · obtain ⟨w, lj, la, rs, qs, js, as, most, hh, g, rfl, W, lenj, lena, q⟩ := h
    refine ⟨_, (pss_cons (ps_setLc (i := 3) (own := [("ask", 4)]) (g := gName 4) (by rfl) sc_l_room.nd rfl rfl (sw_true rfl rfl rfl (by decide +kernel)) (pi_list (pe_ix ix_list (pv 0) pe_int (fun _ _ => rfl))) (blkOk_by (own := [("ask", 4)]) (N := ["world", "house", "goal", "asks", "ask", "jobs", "job"]) (sc := defScope s_l_room) (by decide +kernel)) (fun _ _ _ _ _ => pg_name (i := 4) sc_l_room.nd rfl (Or.inl rfl)) (fun _ _ _ _ _ => (pts_one (pt_cmpR op_eq (pe_ix (show IxR _ (rIxL K) from ix_list) (pe_ix (show IxR _ (rIxL K) from ix_list) (pe_ix (show IxR _ (rIxL K) from ix_list) (pv 0) pe_int (fun _ _ => rfl)) (pe_ix (show IxR _ (rIxL K) from ix_list) (pv 4) pe_int (fun _ _ => rfl)) (fun _ _ => rfl)) pe_int (fun _ _ => rfl)) (pv 1) (nomark _)))) (fun _ _ _ _ _ => (pv 4)))
        (pss_cons (ps_setLc (i := 5) (own := [("job", 6)]) (g := gName 6) (by rfl) sc_l_room.nd rfl rfl (sw_true rfl rfl rfl (by decide +kernel)) (pi_list (pe_ix (show IxR _ (rIxL K) from ix_list) (pv 0) pe_int (fun _ _ => rfl))) (blkOk_by (own := [("job", 6)]) (N := ["world", "house", "goal", "asks", "ask", "jobs", "job"]) (sc := defScope s_l_room) (by decide +kernel)) (fun _ _ _ _ _ => pg_name (i := 6) sc_l_room.nd rfl (Or.inl rfl)) (fun _ _ _ _ _ => (pts_one (pt_cmpR op_eq (pe_ix (show IxR _ (rIxL K) from ix_list) (pv 6) pe_int (fun _ _ => rfl)) (pv 2) (nomark _)))) (fun _ _ _ _ _ => (pv 6)))
        (pss_one (ps_ret (pe_and (pe_cmpR op_lt (pe_callB call_len_seq (by rfl) T.m_len (by decide +kernel) (pa_cons (pv 3) pa_nil)) pe_int (nomark _)) (pe_and (pe_cmpR op_lt (pe_callB call_len_seq (by rfl) T.m_len (by decide +kernel) (pa_cons (pv 5) pa_nil)) pe_int (nomark _)) (pe_one (pe_cmpR op_lt (pe_callB call_len_seq (by rfl) T.m_len (by decide +kernel) (pa_cons (pe_ix (show IxR _ (rIxL K) from ix_list) (pv 0) pe_int (fun _ _ => rfl)) pa_nil)) (pe_ix ix_list (pv 0) pe_int (fun _ _ => rfl)) (nomark _))))))))), ?_⟩
    refine ⟨_, rfl, w, _, 1, _, rfl, rfl, SqL.of W.w, rfl, la, rfl, ⟨_, SqL.of W.a⟩, fun D nD => ?_⟩
    refine lc_list (K := K) (a := la) (xs := qs.map V.ref) (fun i H' => Same H H' ∧ ∃ vs : List V, H' D = some (.lst vs) ∧ vs.length = ((as.take i).filter fun x => x.of js hh).length)
      ⟨same_upd nD, [], upd_same, rfl⟩ (fun i H' _ h => SqL.of (h.1 _ _ W.a)) ?_ ?_
    · rintro i v H2 hv ⟨g2, vs, hD, hl⟩
      rw [List.getElem?_map] at hv
      obtain ⟨r, hr1, rfl⟩ := Option.map_eq_some_iff.mp hv
      have hi : i < as.length := by rw [← W.ca.1]; exact (List.getElem?_eq_some_iff.mp hr1).1
      have hx : as[i]? = some as[i] := List.getElem?_eq_getElem hi
      generalize as[i] = x at hx
      have W2 := W.same g2
      have hr2 := W2.ca.2 i r x hr1 hx
      have hpl := W.pl x (List.mem_of_getElem? hx)
      have hj : js[x.pl]? = some js[x.pl] := List.getElem?_eq_getElem hpl
      have eof : x.of js hh = decide (js[x.pl].h = hh) := by
        unfold WA.of
        rw [hj]
      generalize js[x.pl] = j at hj eof
      obtain ⟨rj, erj, hrj⟩ := W2.cj.at hj
      refine ⟨rfl, _, rfl, w, _, 0, _, rfl, rfl, SqL.of W2.w, rfl, _, rfl, r, _, 0, _, rfl, rfl, SqL.of hr2, rfl, lj, _, _, _, rfl, rfl, SqL.of W2.j, atI_nat (map_ref erj), rj, _, 0, _, rfl, rfl, SqL.of hrj, rfl, _, rfl, rfl, _, rfl, ?_⟩
      rw [take_succ_filter _ as hx, eof]
      by_cases e : j.h = hh
      · rw [decide_eq_true e]
        refine iteTd (congrArg V.str e) ⟨_, rfl, vs, hD, small1000 ?_, same_mut g2 nD, vs ++ [.ref r], upd_same, ?_⟩
        · rw [hl]
          exact Nat.le_trans (List.length_filter_le _ _) (by rw [List.length_take]; omega)
        · rw [List.length_append, List.length_append, hl, if_pos rfl]
          rfl
      · rw [decide_eq_false e]
        refine iteFd (fun z => e (V.str.inj z)) ⟨g2, vs, hD, ?_⟩
        rw [List.length_append, hl, if_neg (fun z => Bool.noConfusion z)]
        rfl
    · rintro H2 ⟨g2, vs, hD, hl⟩
      rw [List.length_map, W.ca.1, List.take_length] at hl
      have W2 := W.same g2
      refine ⟨_, rfl, w, _, 0, _, rfl, rfl, SqL.of W2.w, rfl, lj, rfl, ⟨_, SqL.of W2.j⟩, fun D2 nD2 => ?_⟩
      refine lc_list (K := K) (a := lj) (xs := rs.map V.ref) (fun i H' => Same H2 H' ∧ ∃ us : List V, H' D2 = some (.lst us) ∧ us.length = ((js.take i).filter fun j => decide (j.h = g)).length)
        ⟨same_upd nD2, [], upd_same, rfl⟩ (fun i H' _ h => SqL.of (h.1 _ _ W2.j)) ?_ ?_
      · rintro i v H3 hv ⟨g3, us, hD3, hl3⟩
        rw [List.getElem?_map] at hv
        obtain ⟨r, hr1, rfl⟩ := Option.map_eq_some_iff.mp hv
        have hi : i < js.length := by rw [← W.cj.1]; exact (List.getElem?_eq_some_iff.mp hr1).1
        have hx : js[i]? = some js[i] := List.getElem?_eq_getElem hi
        generalize js[i] = j at hx
        have hr3 := (W2.same g3).cj.2 i r j hr1 hx
        refine ⟨rfl, _, rfl, r, _, 0, _, rfl, rfl, SqL.of hr3, rfl, _, rfl, rfl, _, rfl, ?_⟩
        rw [take_succ_filter _ js hx]
        by_cases e : j.h = g
        · rw [decide_eq_true e]
          refine iteTd (congrArg V.str e) ⟨_, rfl, us, hD3, small1000 ?_, same_mut g3 nD2, us ++ [.ref r], upd_same, ?_⟩
          · rw [hl3]
            exact Nat.le_trans (List.length_filter_le _ _) (by rw [List.length_take]; omega)
          · rw [List.length_append, List.length_append, hl3, if_pos rfl]
            rfl
        · rw [decide_eq_false e]
          refine iteFd (fun z => e (V.str.inj z)) ⟨g3, us, hD3, ?_⟩
          rw [List.length_append, hl3, if_neg (fun z => Bool.noConfusion z)]
          rfl
      · rintro H3 ⟨g3, us, hD3, hl3⟩
        rw [List.length_map, W.cj.1, List.take_length] at hl3
        have W3 := W2.same g3
        have g13 := g2.trans g3
        refine ⟨_, rfl, D, _, rfl, .inl (SqL.of (g3 _ _ hD)), _, _, rfl, rfl, _, rfl, ?_⟩
        have na : vs.length = nA js as hh := hl
        have nj : us.length = nJ js g := hl3
        refine ite2 (fun e1 => ?_) (fun e1 => ?_)
        · have e1 := of_decide_eq_true e1
          refine ⟨_, rfl, D2, _, rfl, .inl (SqL.of hD3), _, _, rfl, rfl, _, rfl, ite2 (fun e2 => ?_) (fun e2 => ?_)⟩
          · have e2 := of_decide_eq_true e2
            refine ⟨_, rfl, w, _, 0, _, rfl, rfl, SqL.of W3.w, rfl, lj, _, rfl, .inl (SqL.of W3.j), _, rfl, w, _, 2, _, rfl, rfl, SqL.of W3.w, rfl, _, _, rfl, rfl, ?_⟩
            refine q _ _ g13 ?_
            rw [decide_eq_true_iff, List.length_map, W.cj.1]
            exact ⟨fun z => ⟨by omega, by omega, z⟩, fun z => z.2.2⟩
          · have e2 := fun z => e2 (decide_eq_true z)
            exact q _ _ g13 ⟨fun z => Bool.noConfusion z, fun z => absurd (show (us.length : Int) < 15 by have := z.2.1; omega) e2⟩
        · have e1 := fun z => e1 (decide_eq_true z)
          exact q _ _ g13 ⟨fun z => Bool.noConfusion z, fun z => absurd (show (vs.length : Int) < 15 by have := z.1; omega) e1⟩
/-! ### what a job with its asks brings -/
def Dn : Nat → Int
  | 0 => 5
  | n + 1 => 3 * Dn n + 17
theorem nJ_eq (js : List WJ) (h : Str) : nJ js h = (js.map WJ.h).countP fun z => decide (z = h) := by
  unfold nJ
  rw [List.countP_map, List.countP_eq_length_filter]
  rfl
theorem of_eq (js : List WJ) (x : WA) (h : Str) : x.of js h = decide ((js.map WJ.h)[x.pl]? = some h) := by
  unfold WA.of
  rw [List.getElem?_map]
  cases js[x.pl]? with
  | none => simp
  | some j => simp
theorem nA_congr {js js2 : List WJ} (as : List WA) (h : Str) (e : ∀ x ∈ as, (js.map WJ.h)[x.pl]? = (js2.map WJ.h)[x.pl]?) : nA js as h = nA js2 as h := by
  unfold nA
  congr 1
  refine List.filter_congr fun x hx => ?_
  rw [of_eq, of_eq, e x hx]
theorem nJ_snoc (js : List WJ) (j : WJ) (h : Str) : nJ (js ++ [j]) h = nJ js h + (if j.h = h then 1 else 0) := by
  unfold nJ
  rw [List.filter_append, List.length_append]
  congr 1
  by_cases e : j.h = h <;> simp [e]
theorem nA_snoc (js : List WJ) (as : List WA) (x : WA) (h : Str) : nA js (as ++ [x]) h = nA js as h + (if x.of js h = true then 1 else 0) := by
  unfold nA
  rw [List.filter_append, List.length_append]
  congr 1
  by_cases e : x.of js h = true <;> simp [e]
/-! the part of an ask that speaks of the job it led to -/
def ChildOk (n0 : Nat) (nj : List WJ) (x : WA) : Prop := n0 < x.ch ∧ x.pl < x.ch ∧ ∃ j, nj[x.ch - n0]? = some j ∧ j.h = x.g ∧ x.o ≤ j.b ∧ j.e ≤ x.k
structure AskOk (hs : List Str) (n0 : Nat) (nj : List WJ) (x : WA) : Prop where
  g : x.g ∈ hs
  lo : n0 ≤ x.pl
  par : ∃ j, nj[x.pl - n0]? = some j ∧ j.b < x.o ∧ x.o ≤ x.k ∧ x.k < j.e
  ch : ChildOk n0 nj x
structure JobPost (hs : List Str) (n0 : Nat) (start D : Int) (house : Str) (nj : List WJ) (na : List WA) (res : Int) : Prop where
  hd : ∃ j0 rest, nj = j0 :: rest ∧ j0.h = house ∧ j0.e = res
  jb : ∀ j ∈ nj, j.h ∈ hs ∧ start ≤ j.b ∧ j.b ≤ j.e ∧ j.e ≤ res
  rb : res ≤ start + D
  ab : ∀ x ∈ na, AskOk hs n0 nj x
  inc : (na.map WA.ch).Pairwise (· < ·)
  cnt : na.length + 1 = nj.length
theorem ChildOk.app {n0 : Nat} {nj : List WJ} {x : WA} (h : ChildOk n0 nj x) (more : List WJ) : ChildOk n0 (nj ++ more) x := by
  obtain ⟨h1, h2, j, e, r⟩ := h
  exact ⟨h1, h2, j, by rw [List.getElem?_append_left (List.getElem?_eq_some_iff.mp e).1]; exact e, r⟩
theorem AskOk.app {hs : List Str} {n0 : Nat} {nj : List WJ} {x : WA} (h : AskOk hs n0 nj x) (more : List WJ) : AskOk hs n0 (nj ++ more) x := by
  obtain ⟨h1, h2, ⟨j, e, r⟩, h4⟩ := h
  exact ⟨h1, h2, ⟨j, by rw [List.getElem?_append_left (List.getElem?_eq_some_iff.mp e).1]; exact e, r⟩, h4.app more⟩
theorem get_shift {A : Type} {n0 i : Nat} {xs ys : List A} {y : A} (hi : n0 + xs.length ≤ i) (e : ys[i - (n0 + xs.length)]? = some y) : (xs ++ ys)[i - n0]? = some y := by
  rw [List.getElem?_append_right (by omega), show i - n0 - xs.length = i - (n0 + xs.length) by omega]
  exact e
theorem AskOk.shift {hs : List Str} {n0 : Nat} {nj more : List WJ} {x : WA} (h : AskOk hs (n0 + nj.length) more x) : AskOk hs n0 (nj ++ more) x := by
  obtain ⟨h1, h2, ⟨j, e, r⟩, ⟨c1, c2, j', e', r'⟩⟩ := h
  exact ⟨h1, by omega, ⟨j, get_shift h2 e, r⟩, ⟨by omega, c2, j', get_shift (by omega) e', r'⟩⟩
/-! in the making: the asks of the job itself, those of the jobs under it -/
structure Half (hs : List Str) (n0 : Nat) (begin last now lim : Int) (house : Str) (nj : List WJ) (na : List WA) : Prop where
  hd : ∃ rest, nj = ⟨house, begin, begin⟩ :: rest ∧ ∀ j ∈ rest, j.h ∈ hs ∧ begin ≤ j.b ∧ j.b ≤ j.e ∧ j.e ≤ last
  nb : begin ≤ now
  nl : now ≤ last
  ll : last ≤ lim
  ab : ∀ x ∈ na, (x.pl = n0 ∧ x.g ∈ hs ∧ begin < x.o ∧ x.o ≤ x.k ∧ x.k ≤ last ∧ ChildOk n0 nj x) ∨ (n0 < x.pl ∧ AskOk hs n0 nj x)
  inc : (na.map WA.ch).Pairwise (· < ·)
  top : ∀ x ∈ na, x.ch < n0 + nj.length
  cnt : na.length + 1 = nj.length
theorem half_new {hs : List Str} {n0 : Nat} {begin : Int} {house : Str} : Half hs n0 begin begin begin begin house [⟨house, begin, begin⟩] [] :=
  ⟨⟨[], rfl, fun _ m => nomatch m⟩, Int.le_refl _, Int.le_refl _, Int.le_refl _, (fun _ m => nomatch m), List.Pairwise.nil, (fun _ m => nomatch m), rfl⟩
/-! one ask more, with what it led to -/
theorem Half.more {hs : List Str} {n0 : Nat} {begin last now lim out d t : Int} {house g : Str} {nj nj2 : List WJ} {na na2 : List WA} {res : Int} (h : Half hs n0 begin last now lim house nj na) (hg : g ∈ hs) (ho1 : now < out) (ho2 : out ≤ now + 2)
    (J : JobPost hs (n0 + nj.length) out d g nj2 na2 res) (t0 : 0 ≤ t) (t2 : t ≤ 2) (hd : 0 ≤ d) {now' : Int} (hn : now' = out ∨ now' = res + t) :
    Half hs n0 begin (max last (res + t)) now' (lim + d + 4) house (nj ++ nj2) (na ++ ⟨n0, g, out, res + t, n0 + nj.length⟩ :: na2) := by
  obtain ⟨⟨rest, rfl, hrest⟩, nb, nl, ll, ab, inc, top, cnt⟩ := h
  obtain ⟨⟨j0, r2, rfl, hj0, rfl⟩, jb, rb, ab2, inc2, cnt2⟩ := J
  have b0 := jb j0 List.mem_cons_self
  have ch2 : ∀ x ∈ na2, n0 + (⟨house, begin, begin⟩ :: rest : List WJ).length < x.ch := fun x m => (ab2 x m).ch.1
  refine ⟨⟨rest ++ j0 :: r2, rfl, fun j m => ?_⟩, ?_, ?_, ?_, fun x m => ?_, ?_, fun x m => ?_, ?_⟩
  · rcases List.mem_append.mp m with m | m
    · have := hrest j m
      exact ⟨this.1, this.2.1, this.2.2.1, by omega⟩
    · have := jb j m
      exact ⟨this.1, by omega, this.2.2.1, by omega⟩
  · omega
  · omega
  · omega
  · rcases List.mem_append.mp m with m | m
    · rcases ab x m with ⟨e, g1, o1, o2, o3, c1⟩ | ⟨e, a1⟩
      · exact .inl ⟨e, g1, o1, o2, by omega, c1.app _⟩
      · exact .inr ⟨e, a1.app _⟩
    · rcases List.mem_cons.mp m with e | m
      · subst e
        refine .inl ⟨rfl, hg, by show begin < out; omega, by show out ≤ j0.e + t; omega, by show j0.e + t ≤ max last (j0.e + t); omega, ?_, ?_, j0, ?_, hj0, b0.2.1, by show j0.e ≤ j0.e + t; omega⟩
        · show n0 < n0 + (rest.length + 1)
          omega
        · show n0 < n0 + (rest.length + 1)
          omega
        · exact get_shift (Nat.le_refl _) (by rw [Nat.sub_self]; rfl)
      · have a1 := ab2 x m
        have := a1.lo
        rw [List.length_cons] at this
        exact .inr ⟨by omega, a1.shift⟩
  · rw [List.map_append, List.map_cons]
    refine List.pairwise_append.mpr ⟨inc, List.pairwise_cons.mpr ⟨fun z m => ?_, inc2⟩, fun z m y m2 => ?_⟩
    · obtain ⟨x, mx, rfl⟩ := List.mem_map.mp m
      exact ch2 x mx
    · obtain ⟨x, mx, rfl⟩ := List.mem_map.mp m
      have h1 := top x mx
      rcases List.mem_cons.mp m2 with e | m2
      · subst e
        exact h1
      · obtain ⟨x2, mx2, rfl⟩ := List.mem_map.mp m2
        exact Nat.lt_trans h1 (ch2 x2 mx2)
  · rw [List.length_append]
    rcases List.mem_append.mp m with m | m
    · have := top x m
      omega
    · rcases List.mem_cons.mp m with e | m
      · subst e
        show n0 + (rest.length + 1) < n0 + ((rest.length + 1) + (r2.length + 1))
        omega
      · obtain ⟨c1, c2, j', e', _⟩ := (ab2 x m).ch
        have := (List.getElem?_eq_some_iff.mp e').1
        omega
  · rw [List.length_append, List.length_append, List.length_cons]
    omega
/-! the job ends -/
theorem Half.done {hs : List Str} {n0 : Nat} {begin last now lim start t D : Int} {house : Str} {nj : List WJ} {na : List WA} (h : Half hs n0 begin last now lim house nj na) (hh : house ∈ hs) (sb : start ≤ begin) (t0 : 0 ≤ t) (hD : lim + 1 + t ≤ start + D) :
    ∃ rest, nj = ⟨house, begin, begin⟩ :: rest ∧ JobPost hs n0 start D house (⟨house, begin, last + (if last > begin then 1 else 0) + t⟩ :: rest) na (last + (if last > begin then 1 else 0) + t) := by
  obtain ⟨⟨rest, rfl, hrest⟩, nb, nl, ll, ab, inc, top, cnt⟩ := h
  have he : last ≤ last + (if last > begin then 1 else 0) + t := by split <;> omega
  have hu : last + (if last > begin then 1 else 0) + t ≤ lim + 1 + t := by split <;> omega
  have chO : ∀ x : WA, ChildOk n0 (⟨house, begin, begin⟩ :: rest) x → ChildOk n0 (⟨house, begin, last + (if last > begin then 1 else 0) + t⟩ :: rest) x := by
    rintro x ⟨c1, c2, j, e, r⟩
    refine ⟨c1, c2, j, ?_, r⟩
    obtain ⟨k, hk⟩ : ∃ k, x.ch - n0 = k + 1 := ⟨x.ch - n0 - 1, by omega⟩
    rw [hk] at e ⊢
    exact e
  refine ⟨rest, rfl, ⟨_, rest, rfl, rfl, rfl⟩, fun j m => ?_, by omega, fun x m => ?_, inc, cnt⟩
  · rcases List.mem_cons.mp m with e | m
    · subst e
      exact ⟨hh, sb, by show begin ≤ last + (if last > begin then 1 else 0) + t; omega, Int.le_refl _⟩
    · have := hrest j m
      exact ⟨this.1, by omega, this.2.2.1, by omega⟩
  · rcases ab x m with ⟨e, g1, o1, o2, o3, c1⟩ | ⟨e, ⟨g1, lo, ⟨j, ej, r⟩, c1⟩⟩
    · refine ⟨g1, by omega, ⟨⟨house, begin, last + (if last > begin then 1 else 0) + t⟩, ?_, o1, o2, ?_⟩, chO x c1⟩
      · rw [e, Nat.sub_self]
        rfl
      · show x.k < last + (if last > begin then 1 else 0) + t
        rw [if_pos (by omega)]
        omega
    · refine ⟨g1, lo, ⟨j, ?_, r⟩, chO x c1⟩
      obtain ⟨k, hk⟩ : ∃ k, x.pl - n0 = k + 1 := ⟨x.pl - n0 - 1, by omega⟩
      rw [hk] at ej ⊢
      exact ej
/-! ### worlds on the heap -/
def Fr (p lj la : Addr) (H H' : Hp) : Prop := ∀ b o, b ≠ p → b ≠ lj → b ≠ la → H b = some o → H' b = some o
structure Apart (p c lj la : Addr) (rs qs : List Addr) : Prop where
  jl : lj ≠ la
  cj : c ≠ lj
  ca : c ≠ la
  pj : p ≠ lj
  pa : p ≠ la
  rn : rs.Nodup
  qn : qs.Nodup
theorem Fr.refl {p lj la : Addr} {H : Hp} : Fr p lj la H H := fun _ _ _ _ _ e => e
theorem Fr.trans {p lj la : Addr} {H H1 H2 : Hp} (a : Fr p lj la H H1) (b : Fr p lj la H1 H2) : Fr p lj la H H2 := fun x o h1 h2 h3 e => b x o h1 h2 h3 (a x o h1 h2 h3 e)
theorem Fr.stp {p c lj la : Addr} {H H1 : Hp} (s : Stp p c H H1) : Fr p lj la H H1 := fun x o h1 _ _ e => s.2 x o h1 e
theorem Fr.same {p lj la : Addr} {H H1 : Hp} (s : Same H H1) : Fr p lj la H H1 := fun x o _ _ _ e => s x o e
theorem cell_ne {H : Hp} {a b : Addr} {xs ys : List V} (ha : H a = some (.lst xs)) (hb : H b = some (.lst ys)) (h : xs ≠ ys) : a ≠ b := ne_of ha hb fun z => h (HO.lst.inj z)
theorem jv_ne {j : WJ} {v : V} {vs : List V} (h : ∀ x, v ≠ .str x) : j.v ≠ v :: vs := fun z => h _ (List.cons.inj z).1.symm
theorem av_ne {x : WA} {v : V} {vs : List V} (h : ∀ i, v ≠ .int i) : x.v ≠ v :: vs := fun z => h _ (List.cons.inj z).1.symm
theorem jv_av {j : WJ} {x : WA} : j.v ≠ x.v := fun z => by cases (List.cons.inj z).1
theorem refs_jv {rs : List Addr} {j : WJ} : rs.map V.ref ≠ j.v := by
  cases rs with
  | nil => exact fun z => nomatch z
  | cons r rs => exact fun z => by cases (List.cons.inj z).1
theorem refs_av {rs : List Addr} {x : WA} : rs.map V.ref ≠ x.v := by
  cases rs with
  | nil => exact fun z => nomatch z
  | cons r rs => exact fun z => by cases (List.cons.inj z).1
theorem refs_w {rs : List Addr} {a b : Addr} {m : Int} : rs.map V.ref ≠ [.ref a, .ref b, .int m] := by
  match rs with
  | [] => exact fun z => nomatch z
  | [r] => exact fun z => nomatch (List.cons.inj z).2
  | [r, s] => exact fun z => nomatch (List.cons.inj (List.cons.inj z).2).2
  | r :: s :: u :: v => exact fun z => by cases (List.cons.inj (List.cons.inj (List.cons.inj z).2).2).1
/-! any step that keeps all but p, when p is the pen -/
theorem Cells.keep {A : Type} {f : A → List V} {H H' : Hp} {rs : List Addr} {xs : List A} (h : Cells f H rs xs) (k : ∀ (i : Nat) (r : Addr) (x : A), rs[i]? = some r → xs[i]? = some x → H r = some (.lst (f x)) → H' r = some (.lst (f x))) : Cells f H' rs xs := ⟨h.1, fun i r x e1 e2 => k i r x e1 e2 (h.2 i r x e1 e2)⟩
theorem Cells.snoc {A : Type} {f : A → List V} {H : Hp} {rs : List Addr} {xs : List A} {r : Addr} {x : A} (h : Cells f H rs xs) (hr : H r = some (.lst (f x))) : Cells f H (rs ++ [r]) (xs ++ [x]) := by
  refine ⟨by rw [List.length_append, List.length_append, h.1]; rfl, fun i r' x' e1 e2 => ?_⟩
  by_cases hi : i < rs.length
  · rw [List.getElem?_append_left hi] at e1
    rw [List.getElem?_append_left (by rw [← h.1]; exact hi)] at e2
    exact h.2 i r' x' e1 e2
  · rw [List.getElem?_append_right (by omega)] at e1
    rw [List.getElem?_append_right (by rw [← h.1]; omega), ← h.1] at e2
    cases hk : i - rs.length with
    | zero =>
      rw [hk] at e1 e2
      obtain rfl := Option.some.inj e1
      obtain rfl := Option.some.inj e2
      exact hr
    | succ k =>
      rw [hk] at e1
      cases e1
theorem WorldAt.stp {p c w lj la : Addr} {H H' : Hp} {rs qs : List Addr} {js : List WJ} {as : List WA} {most : Int} (h : WorldAt H w lj la rs qs js as most) (hP : Pen H p c) (s : Stp p c H H') (ap : Apart p c lj la rs qs) : WorldAt H' w lj la rs qs js as most := by
  obtain ⟨cs, n, st, h1, _⟩ := hP
  refine ⟨s.2 _ _ (cell_ne h.w h1 fun z => by cases (List.cons.inj (List.cons.inj z).2).1) h.w, s.2 _ _ (Ne.symm ap.pj) h.j, s.2 _ _ (Ne.symm ap.pa) h.a, h.cj.keep fun i r x _ _ e => s.2 _ _ (cell_ne e h1 (jv_ne fun x z => by cases z)) e, h.ca.keep fun i r x _ _ e => s.2 _ _ (cell_ne e h1 (av_ne fun x z => by cases z)) e, h.pl⟩
theorem WorldAt.addJ {w lj la r : Addr} {H : Hp} {rs qs : List Addr} {js : List WJ} {as : List WA} {most : Int} {j : WJ} (h : WorldAt H w lj la rs qs js as most) (hjl : lj ≠ la) (nr : H r = none) : WorldAt (upd (upd H r (.lst j.v)) lj (.lst (rs.map V.ref ++ [.ref r]))) w lj la (rs ++ [r]) qs (js ++ [j]) as most := by
  have s := same_upd (o := .lst j.v) nr
  have rl : r ≠ lj := fun e => ne_of_none h.j nr e.symm
  refine ⟨?_, ?_, ?_, ?_, ?_, fun x m => ?_⟩
  · rw [upd_ne (cell_ne h.w h.j fun z => refs_w z.symm)]
    exact s _ _ h.w
  · rw [upd_same, List.map_append]
    rfl
  · rw [upd_ne (Ne.symm hjl)]
    exact s _ _ h.a
  · refine Cells.snoc (h.cj.keep fun i r' x _ _ e => ?_) ?_
    · rw [upd_ne (cell_ne e h.j fun z => refs_jv z.symm)]
      exact s _ _ e
    · rw [upd_ne rl, upd_same]
  · refine h.ca.keep fun i r' x _ _ e => ?_
    rw [upd_ne (cell_ne e h.j fun z => refs_av z.symm)]
    exact s _ _ e
  · rw [List.length_append]
    exact Nat.lt_of_lt_of_le (h.pl x m) (Nat.le_add_right _ _)
theorem WorldAt.addA {w lj la r : Addr} {H : Hp} {rs qs : List Addr} {js : List WJ} {as : List WA} {most : Int} {x : WA} (h : WorldAt H w lj la rs qs js as most) (hjl : lj ≠ la) (hr : H r = some (.lst x.v)) (hp : x.pl < js.length) : WorldAt (upd H la (.lst (qs.map V.ref ++ [.ref r]))) w lj la rs (qs ++ [r]) js (as ++ [x]) most := by
  refine ⟨?_, ?_, ?_, ?_, ?_, fun y m => ?_⟩
  · rw [upd_ne (cell_ne h.w h.a fun z => refs_w z.symm)]
    exact h.w
  · rw [upd_ne hjl]
    exact h.j
  · rw [upd_same, List.map_append]
    rfl
  · refine h.cj.keep fun i r' x _ _ e => ?_
    rw [upd_ne (cell_ne e h.a fun z => refs_jv z.symm)]
    exact e
  · refine Cells.snoc (h.ca.keep fun i r' x _ _ e => ?_) ?_
    · rw [upd_ne (cell_ne e h.a fun z => refs_av z.symm)]
      exact e
    · rw [upd_ne (cell_ne hr h.a fun z => refs_av z.symm)]
      exact hr
  · rcases List.mem_append.mp m with m | m
    · exact h.pl y m
    · rw [List.mem_singleton.mp m]
      exact hp
theorem Cells.put {A : Type} {f : A → List V} {H : Hp} {rs : List Addr} {xs : List A} {r : Addr} {x : A} {k : Nat} (h : Cells f H rs xs) (nd : rs.Nodup) (hr : rs[k]? = some r) : Cells f (upd H r (.lst (f x))) rs (xs.set k x) := by
  refine ⟨by rw [List.length_set]; exact h.1, fun i r' x' e1 e2 => ?_⟩
  by_cases hi : i = k
  · subst hi
    obtain rfl : r = r' := Option.some.inj (hr.symm.trans e1)
    have hk : i < xs.length := by rw [← h.1]; exact (List.getElem?_eq_some_iff.mp e1).1
    rw [List.getElem?_set_self hk] at e2
    rw [upd_same, Option.some.inj e2]
  · rw [List.getElem?_set_ne (Ne.symm hi)] at e2
    have hne : r' ≠ r := fun z => by
      subst z
      obtain ⟨a1, a2⟩ := List.getElem?_eq_some_iff.mp e1
      obtain ⟨b1, b2⟩ := List.getElem?_eq_some_iff.mp hr
      exact hi ((List.getElem_inj nd).mp (a2.trans b2.symm))
    rw [upd_ne hne]
    exact h.2 i r' x' e1 e2
theorem WorldAt.setJ {w lj la r : Addr} {H : Hp} {rs qs : List Addr} {js : List WJ} {as : List WA} {most : Int} {j j0 : WJ} {k : Nat} (h : WorldAt H w lj la rs qs js as most) (nd : rs.Nodup) (hr : rs[k]? = some r) (hj : js[k]? = some j0) : WorldAt (upd H r (.lst j.v)) w lj la rs qs (js.set k j) as most := by
  have hH := h.cj.2 k r j0 hr hj
  refine ⟨?_, ?_, ?_, h.cj.put nd hr, ?_, fun x m => ?_⟩
  · rw [upd_ne (cell_ne h.w hH fun z => jv_ne (fun x z => by cases z) z.symm)]
    exact h.w
  · rw [upd_ne (cell_ne h.j hH refs_jv)]
    exact h.j
  · rw [upd_ne (cell_ne h.a hH refs_jv)]
    exact h.a
  · refine h.ca.keep fun i r' x _ _ e => ?_
    rw [upd_ne (cell_ne e hH fun z => jv_av z.symm)]
    exact e
  · rw [List.length_set]
    exact h.pl x m
theorem WorldAt.setA {w lj la r : Addr} {H : Hp} {rs qs : List Addr} {js : List WJ} {as : List WA} {most : Int} {x x0 : WA} {k : Nat} (h : WorldAt H w lj la rs qs js as most) (nd : qs.Nodup) (hr : qs[k]? = some r) (hx : as[k]? = some x0) (hp : x.pl = x0.pl) : WorldAt (upd H r (.lst x.v)) w lj la rs qs js (as.set k x) most := by
  have hH := h.ca.2 k r x0 hr hx
  refine ⟨?_, ?_, ?_, ?_, h.ca.put nd hr, fun y m => ?_⟩
  · rw [upd_ne (cell_ne h.w hH fun z => av_ne (fun x z => by cases z) z.symm)]
    exact h.w
  · rw [upd_ne (cell_ne h.j hH refs_av)]
    exact h.j
  · rw [upd_ne (cell_ne h.a hH refs_av)]
    exact h.a
  · refine h.cj.keep fun i r' y _ _ e => ?_
    rw [upd_ne (cell_ne e hH jv_av)]
    exact e
  · rcases List.mem_or_eq_of_mem_set m with m | e
    · exact h.pl y m
    · rw [e, hp]
      exact h.pl x0 (List.mem_of_getElem? hx)
theorem Pen.put {p c l : Addr} {H : Hp} {o : HO} (h : Pen H p c) (hp : p ≠ l) (hc : c ≠ l) : Pen (upd H l o) p c := by
  obtain ⟨cs, n, st, h1, h2, h3, h4⟩ := h
  exact ⟨cs, n, st, by rw [upd_ne hp]; exact h1, by rw [upd_ne hc]; exact h2, h3, h4⟩
theorem Cells.nin {A : Type} {f : A → List V} {H : Hp} {rs : List Addr} {xs : List A} {r : Addr} (h : Cells f H rs xs) (nr : H r = none) : r ∉ rs := fun m => by
  obtain ⟨i, hi, e⟩ := List.getElem_of_mem m
  have hi' : i < xs.length := by rw [← h.1]; exact hi
  have := h.2 i r xs[i] (by rw [List.getElem?_eq_getElem hi, e]) (List.getElem?_eq_getElem hi')
  rw [nr] at this
  cases this
theorem nodup_snoc {rs : List Addr} {r : Addr} (nd : rs.Nodup) (h : r ∉ rs) : (rs ++ [r]).Nodup := List.nodup_append.mpr ⟨nd, List.pairwise_singleton _ _, fun a ha b hb e => h (by rw [List.mem_singleton.mp hb] at e; rw [← e]; exact ha)⟩
theorem nA_more (js more : List WJ) (as : List WA) (h : Str) (hp : ∀ x ∈ as, x.pl < js.length) : nA (js ++ more) as h = nA js as h := nA_congr as h fun x m => by rw [List.map_append, List.getElem?_append_left (by rw [List.length_map]; exact hp x m)]
theorem Pen.cellJ {p c r : Addr} {H : Hp} {j : WJ} {o : HO} (h : Pen H p c) (hr : H r = some (.lst j.v)) : Pen (upd H r o) p c := by
  have h' := h
  obtain ⟨cs, n, st, h1, h2, _⟩ := h'
  refine h.put (Ne.symm (cell_ne hr h1 (jv_ne fun x z => by cases z))) (Ne.symm (cell_ne hr h2 ?_))
  cases cs with
  | nil => exact fun z => nomatch z
  | cons x xs => exact fun z => by cases (List.cons.inj z).1
theorem Pen.cellA {p c r : Addr} {H : Hp} {x : WA} {o : HO} (h : Pen H p c) (hr : H r = some (.lst x.v)) : Pen (upd H r o) p c := by
  have h' := h
  obtain ⟨cs, n, st, h1, h2, _⟩ := h'
  refine h.put (Ne.symm (cell_ne hr h1 (av_ne fun x z => by cases z))) (Ne.symm (cell_ne hr h2 ?_))
  match cs with
  | [] => exact fun z => nomatch z
  | [y] => exact fun z => nomatch (List.cons.inj z).2
  | y :: z :: ys => exact fun z => by cases (List.cons.inj (List.cons.inj z).2).1
theorem set_at {A : Type} (xs ys : List A) (y z : A) : (xs ++ y :: ys).set xs.length z = xs ++ z :: ys := by
  rw [List.set_append_right _ _ (Nat.le_refl _), Nat.sub_self]
  rfl
theorem get_at {A : Type} (xs ys : List A) (y : A) : (xs ++ y :: ys)[xs.length]? = some y := by
  rw [List.getElem?_append_right (Nat.le_refl _), Nat.sub_self]
  rfl
def Fresh (H : Hp) (l : List Addr) : Prop := ∀ r ∈ l, H r = none
theorem Fresh.back {p c lj la : Addr} {H H1 : Hp} {l : List Addr} {xs ys : List V} (f : Fresh H1 l) (fr : Fr p lj la H H1) (hP : Pen H1 p c) (hj : H1 lj = some (.lst xs)) (ha : H1 la = some (.lst ys)) : Fresh H l := fun r m => by
  have n1 := f r m
  cases e : H r with
  | none => rfl
  | some o =>
    have k1 : r ≠ p := fun z => hP.neP n1 z.symm
    have k2 : r ≠ lj := fun z => ne_of_none hj n1 z.symm
    have k3 : r ≠ la := fun z => ne_of_none ha n1 z.symm
    rw [fr r o k1 k2 k3 e] at n1
    cases n1
theorem Fr.town {p c lj la t : Addr} {H H1 : Hp} {hs gs : List Str} {xs ys : List V} (fr : Fr p lj la H H1) (hP : Pen H p c) (hj : H lj = some (.lst xs)) (ha : H la = some (.lst ys)) (ht : TownAt H t hs gs) : TownAt H1 t hs gs := by
  have key : ∀ (b : Addr) (zs : List V), H b = some (.tup zs) → H1 b = some (.tup zs) := fun b zs e => fr b _ (hP.tup e) (ne_of e hj fun z => nomatch z) (ne_of e ha fun z => nomatch z) e
  obtain ⟨ta, tb, t1, t2, t3⟩ := ht
  exact ⟨ta, tb, key _ _ t1, key _ _ t2, key _ _ t3⟩
theorem Half.up {hs : List Str} {n0 : Nat} {begin last now lim lim' : Int} {house : Str} {nj : List WJ} {na : List WA} (h : Half hs n0 begin last now lim house nj na) (l : lim ≤ lim') : Half hs n0 begin last now lim' house nj na := ⟨h.hd, h.nb, h.nl, Int.le_trans h.ll l, h.ab, h.inc, h.top, h.cnt⟩
theorem Pen.sm {p c : Addr} {H H' : Hp} (h : Pen H p c) (s : Same H H') : Pen H' p c := by
  obtain ⟨cs, n, st, h1, h2, h3, h4⟩ := h
  exact ⟨cs, n, st, s _ _ h1, s _ _ h2, h3, h4⟩
theorem nA_swap (js : List WJ) (as1 as2 : List WA) {x x' : WA} (h : Str) (e : x.pl = x'.pl) : nA js (as1 ++ x :: as2) h = nA js (as1 ++ x' :: as2) h := by
  have eo : x.of js h = x'.of js h := by
    unfold WA.of
    rw [e]
  unfold nA
  rw [List.filter_append, List.filter_append, List.length_append, List.length_append, List.filter_cons, List.filter_cons, eo]
  split <;> rfl
/-! ### a job -/
def Cnt (js : List WJ) (as : List WA) : Prop := ∀ h, nJ js h ≤ 15 ∧ nA js as h ≤ 15
def sp_job (n : Nat) : Sp := fun vs H Q _ => ∃ (p c w lj la t : Addr) (hs gs : List Str) (rs qs : List Addr) (js : List WJ) (as : List WA) (most : Int) (house : Str) (start : Int) (deep : Nat), vs = [.ref p, .ref w, .ref t, .str house, .int start, .int (deep : Nat)] ∧ deep < n ∧
  Pen H p c ∧ TownAt H t hs gs ∧ 1 ≤ hs.length ∧ hs.length ≤ 6 ∧ WorldAt H w lj la rs qs js as most ∧ Apart p c lj la rs qs ∧ house ∈ hs ∧ (js.length : Int) < most ∧ most ≤ 100 ∧ as.length ≤ js.length ∧ Cnt js as ∧ nJ js house < 15 ∧
  ∀ (nr nq : List Addr) (nj : List WJ) (na : List WA) (res : Int) (H' : Hp), Fr p lj la H H' → Fresh H (nr ++ nq) → Pen H' p c → WorldAt H' w lj la (rs ++ nr) (qs ++ nq) (js ++ nj) (as ++ na) most → Apart p c lj la (rs ++ nr) (qs ++ nq) → JobPost hs js.length start (Dn deep) house nj na res → Cnt (js ++ nj) (as ++ na) → ((js ++ nj).length : Int) ≤ most → Q (.int res) H'
theorem ok_job_n (T : Txt K mg af fd) : ∀ n : Nat, FnOk P w K mg base CX0 (n + 3) (af 45) (fd 45) ["pen", "world", "town", "house", "start", "deep"] (sp_job n) := by
  intro n
  induction n with
  | zero => exact ⟨fun vs H Q E ⟨_, _, _, _, _, _, _, _, _, _, _, _, _, _, _, _, _, h, _⟩ => absurd h (Nat.not_lt_zero _), fun A outer s H args us vs Q E hr he hb hv ⟨_, _, _, _, _, _, _, _, _, _, _, _, _, _, _, _, _, h, _⟩ => absurd h (Nat.not_lt_zero _)⟩
  | succ n ih =>
    refine T.F_l_job.ok sc_l_job (fun vs H Q E h => ?_) (fun cdv A outer s H vs Q E hr h => ?_)
    · obtain ⟨p, c, w, lj, la, t, hs, gs, rs, qs, js, as, most, house, start, deep, rfl, _⟩ := h
      rfl
    · obtain ⟨p, c, w, lj, la, t, hs, gs, rs, qs, js, as, most, house, start, deep, rfl, hdn, hP, ht, l1, l6, W, ap, hh, hm, hm100, hal, hC, hJ, q⟩ := h
      refine ⟨_, (pss_cons (ps_set (i := 6) sc_l_job.nd rfl (by first | exact Or.inl rfl | exact Or.inr rfl) (pe_callB call_len_seq (by rfl) T.m_len (by decide +kernel) (pa_cons (pe_ix ix_list (pv 1) pe_int (fun _ _ => rfl)) pa_nil)))
        (pss_cons (ps_set (i := 7) sc_l_job.nd rfl (by first | exact Or.inl rfl | exact Or.inr rfl) (pe_op op_add (pv 4) (pe_call (ok_l_take T) (hr.mono (by first | decide | omega)) (by rfl) T.g_l_take T.F_l_take.kp T.b_l_take .nil pass0 (pa_cons (pv 0) (pa_cons pe_int pa_nil)))))
        (pss_cons (ps_set (i := 8) sc_l_job.nd rfl (by first | exact Or.inl rfl | exact Or.inr rfl) (pv 7))
        (pss_cons (ps_set (i := 9) sc_l_job.nd rfl (by first | exact Or.inl rfl | exact Or.inr rfl) (pv 7))
        (pss_cons (ps_expr (pe_bm PySem.F.plainAttrs_list PySem.F.slot_list_append PySem.F.type_list_append mt_append (pe_ix ix_list (pv 1) pe_int (fun _ _ => rfl)) (pa_cons (pe_lst (pa_cons (pv 3) (pa_cons (pv 7) (pa_cons (pv 7) pa_nil)))) pa_nil)))
        (pss_cons (ps_for PassesOwn.never rfl (pi_range1 (by rfl) T.m_range (pa_cons (pe_op op_mul (pe_call (ok_l_take T) (hr.mono (by first | decide | omega)) (by rfl) T.g_l_take T.F_l_take.kp T.b_l_take .nil pass0 (pa_cons (pv 0) (pa_cons pe_int pa_nil))) (pe_callTy call_int1 (by rfl) T.m_int (by decide +kernel) (pa_cons (pe_cmpR op_gt (pv 5) pe_int (nomark _)) pa_nil))) pa_nil)) (pg_name (i := 10) sc_l_job.nd rfl (by first | exact Or.inl rfl | exact Or.inr rfl)) (pss_cons (ps_set (i := 11) sc_l_job.nd rfl (by first | exact Or.inl rfl | exact Or.inr rfl) (pe_ix ix_tup (pe_ix ix_tup (pv 2) pe_int (fun _ _ => rfl)) (pe_call (ok_l_take T) (hr.mono (by first | decide | omega)) (by rfl) T.g_l_take T.F_l_take.kp T.b_l_take .nil pass0 (pa_cons (pv 0) (pa_cons (pe_callB call_len_seq (by rfl) T.m_len (by decide +kernel) (pa_cons (pe_ix ix_tup (pv 2) pe_int (fun _ _ => rfl)) pa_nil)) pa_nil))) (fun _ _ => rfl)))
        (pss_one (ps_if (pt_val (pe_call (ok_l_room T) (hr.mono (by first | decide | omega)) (by rfl) T.g_l_room T.F_l_room.kp T.b_l_room .nil pass0 (pa_cons (pv 1) (pa_cons (pv 3) (pa_cons (pv 11) pa_nil))))) (pss_cons (ps_set (i := 12) sc_l_job.nd rfl (by first | exact Or.inl rfl | exact Or.inr rfl) (pe_op op_add (pe_op op_add (pv 9) pe_int) (pe_call (ok_l_take T) (hr.mono (by first | decide | omega)) (by rfl) T.g_l_take T.F_l_take.kp T.b_l_take .nil pass0 (pa_cons (pv 0) (pa_cons pe_int pa_nil)))))
        (pss_cons (ps_set (i := 13) sc_l_job.nd rfl (by first | exact Or.inl rfl | exact Or.inr rfl) (pe_lst (pa_cons (pv 6) (pa_cons (pv 11) (pa_cons (pv 12) (pa_cons (pv 12) (pa_cons (pe_callB call_len_seq (by rfl) T.m_len (by decide +kernel) (pa_cons (pe_ix ix_list (pv 1) pe_int (fun _ _ => rfl)) pa_nil)) pa_nil)))))))
        (pss_cons (ps_expr (pe_bm PySem.F.plainAttrs_list PySem.F.slot_list_append PySem.F.type_list_append mt_append (pe_ix ix_list (pv 1) pe_int (fun _ _ => rfl)) (pa_cons (pv 13) pa_nil)))
        (pss_cons (ps_asg (pe_op op_add (pe_call ih (hr.mono (by omega)) (by rfl) T.g_l_job T.F_l_job.kp T.b_l_job .nil pass0 (pa_cons (pv 0) (pa_cons (pv 1) (pa_cons (pv 2) (pa_cons (pv 11) (pa_cons (pv 12) (pa_cons (pe_op op_sub (pv 5) pe_int) pa_nil))))))) (pe_call (ok_l_take T) (hr.mono (by first | decide | omega)) (by rfl) T.g_l_take T.F_l_take.kp T.b_l_take .nil pass0 (pa_cons (pv 0) (pa_cons pe_int pa_nil)))) (pg_sub (pv 13) pe_int set_list))
        (pss_cons (ps_set (i := 8) sc_l_job.nd rfl (by first | exact Or.inl rfl | exact Or.inr rfl) (pe_callB (call_max2 rfl) (by rfl) T.m_max (by decide +kernel) (pa_cons (pv 8) (pa_cons (pe_ix ix_list (pv 13) pe_int (fun _ _ => rfl)) pa_nil))))
        (pss_one (ps_set (i := 9) sc_l_job.nd rfl (by first | exact Or.inl rfl | exact Or.inr rfl) (pe_ix ix_list (pe_lst (pa_cons (pv 12) (pa_cons (pe_ix ix_list (pv 13) pe_int (fun _ _ => rfl)) pa_nil))) (pe_call (ok_l_take T) (hr.mono (by first | decide | omega)) (by rfl) T.g_l_take T.F_l_take.kp T.b_l_take .nil pass0 (pa_cons (pv 0) (pa_cons pe_int pa_nil))) (fun _ _ => rfl))))))))) pss_nil))))
        (pss_cons (ps_asg (pe_op op_add (pe_op op_add (pv 8) (pe_callTy call_int1 (by rfl) T.m_int (by decide +kernel) (pa_cons (pe_cmpR op_gt (pv 8) (pv 7) (nomark _)) pa_nil))) (pe_call (ok_l_take T) (hr.mono (by first | decide | omega)) (by rfl) T.g_l_take T.F_l_take.kp T.b_l_take .nil pass0 (pa_cons (pv 0) (pa_cons pe_int pa_nil)))) (pg_sub (pe_ix ix_list (pe_ix ix_list (pv 1) pe_int (fun _ _ => rfl)) (pv 6) (fun _ _ => rfl)) pe_int set_list))
        (pss_one (ps_ret (pe_ix ix_list (pe_ix ix_list (pe_ix ix_list (pv 1) pe_int (fun _ _ => rfl)) (pv 6) (fun _ _ => rfl)) pe_int (fun _ _ => rfl))))))))))), ?_⟩
      have hlr : (rs.map V.ref).length = js.length := by rw [List.length_map]; exact W.cj.1
      refine ⟨_, rfl, w, _, 0, _, rfl, rfl, SqL.of W.w, rfl, lj, _, rfl, .inl (SqL.of W.j), ?_⟩
      rw [hlr]
      refine ⟨_, rfl, _, rfl, p, c, 3, rfl, hP, by decide, by decide, fun r1 H1 r10 r11 s1 => ⟨_, _, rfl, rfl, ?_⟩⟩
      have W1 := W.stp hP s1 ap
      refine ⟨_, rfl, _, rfl, ?_⟩
      refine ⟨_, rfl, w, _, 0, _, rfl, rfl, SqL.of W1.w, rfl, .inl ⟨rfl, _, SqL.of W1.j⟩, _, rfl, _, rfl, _, rfl, (by show 3 ≤ sizeLine; decide), fun r nr => ⟨lj, _, _, rfl, rfl, same_upd nr _ _ W1.j, small1000 (by omega), ?_⟩⟩
      have W2 := W1.addJ (j := ⟨house, start + r1, start + r1⟩) ap.jl nr
      have hP2 : Pen (upd (upd H1 r (.lst (WJ.v ⟨house, start + r1, start + r1⟩))) lj (.lst (rs.map V.ref ++ [.ref r]))) p c := ((s1.1).put (s1.1.neP nr) (s1.1.neC nr)).put ap.pj ap.cj
      have fr2 : Fr p lj la H (upd (upd H1 r (.lst (WJ.v ⟨house, start + r1, start + r1⟩))) lj (.lst (rs.map V.ref ++ [.ref r]))) := fun b o hbp hbj hba e => by
        rw [upd_ne hbj]
        exact same_upd nr _ _ (s1.2 b o hbp e)
      have ap2 : Apart p c lj la (rs ++ [r]) qs := ⟨ap.jl, ap.cj, ap.ca, ap.pj, ap.pa, nodup_snoc ap.rn (W1.cj.nin nr), ap.qn⟩
      show tSeq _ _ _ _ (upd (upd H1 r (.lst (WJ.v ⟨house, start + r1, start + r1⟩))) lj (.lst (rs.map V.ref ++ [.ref r])))
      generalize upd (upd H1 r (.lst (WJ.v ⟨house, start + r1, start + r1⟩))) lj (.lst (rs.map V.ref ++ [.ref r])) = H2 at W2 hP2 fr2 ⊢
      refine ⟨_, rfl, p, c, 4, rfl, hP2, by decide, by decide, fun m H3 m0 m1 s3 => ?_⟩
      refine ⟨_, rfl, _, _, rfl, rfl, .inr ⟨_, rfl, _, _, rfl, rfl, .inl ⟨by omega, by omega⟩, ?_⟩⟩
      have ht3 : TownAt H3 t hs gs := by
        obtain ⟨ta, tb, t1, t2, t3⟩ := s1.town hP ht
        have key : ∀ (b : Addr) (xs : List V), H b = some (.tup xs) → H3 b = some (.tup xs) := fun b xs e => s3.tup hP2 (fr2 b _ (hP.tup e) (ne_of e W.j fun z => nomatch z) (ne_of e W.a fun z => nomatch z) e)
        obtain ⟨ta, tb, t1, t2, t3⟩ := ht
        exact ⟨ta, tb, key _ _ t1, key _ _ t2, key _ _ t3⟩
      have W3 := W2.stp hP2 s3 ap2
      have cnt0 : Cnt (js ++ [⟨house, start + r1, start + r1⟩]) as := fun h => ⟨by
        rw [nJ_snoc]
        by_cases e : house = h
        · subst e
          rw [if_pos rfl]
          omega
        · rw [if_neg e]
          exact (hC h).1, by
        rw [nA_more _ _ _ _ W.pl]
        exact (hC h).2⟩
      have nar : ∀ deep' : Nat, (Dn deep' : Int) ≥ 4 := fun d => by
        induction d with
        | zero => exact (by decide : (5 : Int) ≥ 4)
        | succ d ihd => show 3 * Dn d + 17 ≥ 4; omega
      refine ⟨_, rfl, ?_, ?_, for_range (lo := 0) (n := (m * (if decide ((0 : Int) < (deep : Nat)) = true then 1 else 0)).toNat) (fun i σ H' => ∃ (last now : Int), (∃ v10 v11 v12 v13 : Option V, σ = [some (.ref p), some (.ref w), some (.ref t), some (.str house), some (.int start), some (.int (deep : Nat)), some (.int (js.length : Nat)), some (.int (start + r1)), some (.int last), some (.int now), v10, v11, v12, v13]) ∧
          ∃ nr nq nj na, Fr p lj la H H' ∧ Fresh H (nr ++ nq) ∧ Pen H' p c ∧ WorldAt H' w lj la (rs ++ nr) (qs ++ nq) (js ++ nj) (as ++ na) most ∧ Apart p c lj la (rs ++ nr) (qs ++ nq) ∧ Half hs js.length (start + r1) last now (start + r1 + (i : Nat) * (Dn (deep - 1) + 4)) house nj na ∧ Cnt (js ++ nj) (as ++ na) ∧ ((js ++ nj).length : Int) ≤ most)
        ⟨start + r1, start + r1, ⟨none, none, none, none, rfl⟩, [r], [], [_], [], fr2.trans (Fr.stp s3), (fun z mz => by rw [List.append_nil] at mz; rw [List.mem_singleton.mp mz]; exact s1.back hP nr), s3.1, by rw [List.append_nil, List.append_nil]; exact W3, by rw [List.append_nil]; exact ap2, ?_, by rw [List.append_nil]; exact cnt0, ?_⟩ ?_ ?_⟩
      · split <;> omega
      · split <;> omega
      · have h := half_new (hs := hs) (n0 := js.length) (begin := start + r1) (house := house)
        rw [show start + r1 + ((0 : Nat) : Int) * (Dn (deep - 1) + 4) = start + r1 by omega]
        exact h
      · rw [List.length_append]
        show ((js.length + 1 : Nat) : Int) ≤ most
        omega
      · rintro i σ G hi ⟨last, now, ⟨v10, v11, v12, v13, rfl⟩, nr', nq, nj, na, fr, frs, hPG, WG, apG, hH, cG, lG⟩
        have hdp : 0 < deep := by
          rcases Nat.eq_zero_or_pos deep with e | e
          · subst e
            simp at hi
          · exact e
        have D4 := nar (deep - 1)
        have estep : start + r1 + ((i + 1 : Nat) : Int) * (Dn (deep - 1) + 4) = start + r1 + (i : Nat) * (Dn (deep - 1) + 4) + Dn (deep - 1) + 4 := by
          rw [Int.natCast_add, Int.add_mul]
          show start + r1 + (_ + 1 * (Dn (deep - 1) + 4)) = _
          omega
        obtain ⟨ta, tb, t1, t2, t3⟩ := fr.town hP W.j W.a ht
        have lb : 0 < ((hs.map V.str).length : Int) := by rw [List.length_map]; omega
        have lc : ((hs.map V.str).length : Int).natAbs < 2 ^ 100 := by
          rw [List.length_map]
          exact Nat.lt_of_le_of_lt (show _ ≤ 6 by omega) (by decide)
        have hcnt := hH.cnt
        have lJ : (js ++ nj).length = js.length + nj.length := List.length_append
        have lA : (as ++ na).length = as.length + na.length := List.length_append
        refine ⟨_, rfl, t, _, 0, _, rfl, rfl, SqT.of t1, rfl, _, rfl, _, rfl, t, _, 0, _, rfl, rfl, SqT.of t1, rfl, ta, _, rfl, .inr (SqT.of t2), p, c, _, rfl, hPG, lb, lc, fun z G1 z0 z1 s5 => ?_⟩
        obtain ⟨g, mg2, eg⟩ := pick_house z0 z1
        refine ⟨ta, _, z, _, rfl, rfl, SqT.of (s5.tup hPG t2), eg, ?_⟩
        have W5 := WG.stp hPG s5 apG
        refine ⟨_, rfl, _, rfl, _, rfl, w, lj, la, _, _, _, _, most, house, g, rfl, W5, by omega, by omega, fun b G2 g2 hb => ⟨b, rfl, ?_⟩⟩
        have W6 := W5.same g2
        have hP6 := s5.1.sm g2
        have fr6 := (fr.trans (Fr.stp s5)).trans (Fr.same g2)
        cases b with
        | false => exact iteF ⟨last, now, ⟨_, _, _, _, rfl⟩, nr', nq, nj, na, fr6, frs, hP6, W6, apG, hH.up (by omega), cG, lG⟩
        | true =>
          obtain ⟨ra, rj, rm⟩ := hb.mp rfl
          refine iteT ⟨_, rfl, _, _, rfl, rfl, _, rfl, p, c, 2, rfl, hP6, by decide, by decide, fun o2 G3 o20 o21 s6 => ⟨_, _, rfl, rfl, ?_⟩⟩
          have W7 := W6.stp hP6 s6 apG
          have fr7 := fr6.trans (Fr.stp s6)
          refine ⟨_, rfl, _, rfl, _, rfl, _, rfl, _, rfl, w, _, 0, _, rfl, rfl, SqL.of W7.w, rfl, lj, _, rfl, .inl (SqL.of W7.j), (by show 5 ≤ sizeLine; decide), fun qa nqa => ?_⟩
          have eln : ((rs ++ nr').map V.ref).length = (js ++ nj).length := by rw [List.length_map]; exact WG.cj.1
          rw [eln]
          obtain ⟨x, ex⟩ : ∃ x : WA, x = ⟨js.length, g, now + 1 + o2, now + 1 + o2, (js ++ nj).length⟩ := ⟨_, rfl⟩
          obtain ⟨G4, eG4, g4, hqa⟩ : ∃ G4, upd G3 qa (.lst x.v) = G4 ∧ Same G3 G4 ∧ G4 qa = some (.lst x.v) := ⟨_, rfl, same_upd nqa, upd_same⟩
          have eG4' : upd G3 qa (.lst [.int (js.length : Nat), .str g, .int (now + 1 + o2), .int (now + 1 + o2), .int ((js ++ nj).length : Nat)]) = G4 := by rw [← eG4, ex]; rfl
          dsimp only
          rw [eG4']
          have W8 := W7.same g4
          refine ⟨_, rfl, w, _, 1, _, rfl, rfl, SqL.of W8.w, rfl, .inl ⟨rfl, _, SqL.of W8.a⟩, _, rfl, la, _, _, rfl, rfl, W8.a, small1000 (by rw [List.length_map, WG.ca.1]; omega), ?_⟩
          have W9 := W8.addA apG.jl hqa (by rw [ex]; show js.length < (js ++ nj).length; omega)
          have hqn : qa ∉ qs ++ nq := W7.ca.nin nqa
          have ap9 : Apart p c lj la (rs ++ nr') (qs ++ nq ++ [qa]) := ⟨apG.jl, apG.cj, apG.ca, apG.pj, apG.pa, apG.rn, nodup_snoc apG.qn hqn⟩
          have hP9 : Pen (upd G4 la (.lst ((qs ++ nq).map V.ref ++ [.ref qa]))) p c := (s6.1.sm g4).put apG.pa apG.ca
          have fr9 : Fr p lj la H (upd G4 la (.lst ((qs ++ nq).map V.ref ++ [.ref qa]))) := fun b o h1 h2 h3 e => by
            rw [upd_ne h3]
            exact g4 _ _ (fr7 b o h1 h2 h3 e)
          have qaH : H qa = none := by
            have := Fresh.back (l := [qa]) (fun r m => by rw [List.mem_singleton.mp m]; exact nqa) fr7 s6.1 W7.j W7.a
            exact this qa List.mem_cons_self
          have hq9 : (upd G4 la (.lst ((qs ++ nq).map V.ref ++ [.ref qa]))) qa = some (.lst x.v) := by
            rw [upd_ne (cell_ne hqa W8.a fun z => refs_av z.symm)]
            exact hqa
          generalize upd G4 la (.lst ((qs ++ nq).map V.ref ++ [.ref qa])) = G5 at W9 hP9 fr9 hq9 ⊢
          have cnt9 : Cnt (js ++ nj) (as ++ na ++ [x]) := fun h => ⟨(cG h).1, by
            rw [nA_snoc]
            by_cases e : x.of (js ++ nj) h = true
            · rw [if_pos e]
              have eh : h = house := by
                rw [of_eq, decide_eq_true_eq, ex] at e
                obtain ⟨rest, rfl, _⟩ := hH.hd
                rw [List.getElem?_map, get_at] at e
                exact (Option.some.inj e).symm
              rw [eh]
              exact ra
            · rw [if_neg e]
              exact (cG h).2⟩
          refine ⟨_, rfl, _, rfl, _, rfl, _, rfl, _, rfl, _, rfl, _, _, rfl, rfl, p, c, w, lj, la, t, hs, gs, rs ++ nr', qs ++ nq ++ [qa], js ++ nj, as ++ na ++ [x], most, g, now + 1 + o2, deep - 1, ?_, by omega, hP9, fr9.town hP W.j W.a ht, l1, l6, W9, ap9, mg2, rm, hm100, ?_, cnt9, rj, fun nr2 nq2 nj2 na2 res G6 fr10 frs10 hP10 W10 ap10 JP c10 l10 => ?_⟩
          · show [V.ref p, .ref w, .ref t, .str g, .int (now + 1 + o2), .int ((deep : Nat) - 1)] = _
            rw [show ((deep : Nat) : Int) - 1 = ((deep - 1 : Nat) : Int) by omega]
          · rw [List.length_append, List.length_singleton]
            omega
          refine ⟨_, rfl, p, c, 3, rfl, hP10, by decide, by decide, fun t4 G7 t40 t41 s7 => ⟨_, _, rfl, rfl, ?_⟩⟩
          have W11 := W10.stp hP10 s7 ap10
          have eq1 : qs ++ nq ++ [qa] ++ nq2 = (qs ++ nq) ++ qa :: nq2 := by rw [List.append_assoc (qs ++ nq)]; rfl
          have eq2 : as ++ na ++ [x] ++ na2 = (as ++ na) ++ x :: na2 := by rw [List.append_assoc (as ++ na)]; rfl
          rw [eq1, eq2] at W11
          rw [eq1] at ap10
          rw [eq2] at c10
          subst ex
          have eqa : ((qs ++ nq) ++ qa :: nq2)[(as ++ na).length]? = some qa := by rw [← WG.ca.1]; exact get_at _ _ _
          have eax := get_at (as ++ na) na2 ⟨js.length, g, now + 1 + o2, now + 1 + o2, (js ++ nj).length⟩
          have hq11 := W11.ca.2 _ _ _ eqa eax
          refine ⟨_, rfl, qa, _, 3, 3, rfl, rfl, hq11, rfl, ?_⟩
          have W12 := W11.setA (x := ⟨js.length, g, now + 1 + o2, res + t4, (js ++ nj).length⟩) ap10.qn eqa eax rfl
          rw [set_at] at W12
          have hP12 := s7.1.cellA (o := .lst (WA.v ⟨js.length, g, now + 1 + o2, res + t4, (js ++ nj).length⟩)) hq11
          have fr12 : Fr p lj la H (upd G7 qa (.lst (WA.v ⟨js.length, g, now + 1 + o2, res + t4, (js ++ nj).length⟩))) := fun b o h1 h2 h3 e => by
            rw [upd_ne (ne_of_none e qaH)]
            exact s7.2 b o h1 ((fr9.trans fr10) b o h1 h2 h3 e)
          have hq12 : (upd G7 qa (.lst (WA.v ⟨js.length, g, now + 1 + o2, res + t4, (js ++ nj).length⟩))) qa = some (.lst (WA.v ⟨js.length, g, now + 1 + o2, res + t4, (js ++ nj).length⟩)) := upd_same
          show tSeq _ _ _ _ (upd G7 qa (.lst (WA.v ⟨js.length, g, now + 1 + o2, res + t4, (js ++ nj).length⟩)))
          generalize upd G7 qa (.lst (WA.v ⟨js.length, g, now + 1 + o2, res + t4, (js ++ nj).length⟩)) = G8 at W12 hP12 fr12 hq12 ⊢
          refine ⟨_, rfl, _, rfl, qa, _, 3, _, rfl, rfl, SqL.of hq12, rfl, _, _, rfl, ?_⟩
          refine ⟨_, rfl, _, rfl, qa, _, 3, _, rfl, rfl, SqL.of hq12, rfl, (by show 2 ≤ sizeLine; decide), fun ln nln => ?_⟩
          obtain ⟨G9, eG9, g9, hln⟩ : ∃ G9, upd G8 ln (.lst [.int (now + 1 + o2), .int (res + t4)]) = G9 ∧ Same G8 G9 ∧ G9 ln = some (.lst [.int (now + 1 + o2), .int (res + t4)]) := ⟨_, rfl, same_upd nln, upd_same⟩
          rw [eG9]
          have hP13 := hP12.sm g9
          have W13 := W12.same g9
          have lnp : ln ≠ p := fun e => hP12.neP nln e.symm
          refine ⟨_, rfl, p, c, 2, rfl, hP13, by decide, by decide, fun z2 Ga z20 z21 s8 => ?_⟩
          obtain ⟨nw, enw, hnw⟩ : ∃ nw : Int, atI [V.int (now + 1 + o2), .int (res + t4)] z2 = some (.int nw) ∧ (nw = now + 1 + o2 ∨ nw = res + t4) := by
            have hz : z2 = 0 ∨ z2 = 1 := by omega
            rcases hz with rfl | rfl
            · exact ⟨_, rfl, .inl rfl⟩
            · exact ⟨_, rfl, .inr rfl⟩
          have W14 := W13.stp hP13 s8 ap10
          rw [lJ] at JP
          have hH2 := hH.more mg2 (by omega) (by omega) JP t40 (by omega) (by omega) hnw
          rw [← lJ, show max last (res + t4) = if res + t4 > last then res + t4 else last by split <;> omega] at hH2
          rw [List.append_assoc rs, List.append_assoc qs, List.append_assoc js, List.append_assoc as] at W14
          rw [List.append_assoc rs, List.append_assoc qs] at ap10
          have fb := Fresh.back frs10 fr9 hP9 W9.j W9.a
          refine ⟨ln, _, z2, _, rfl, rfl, SqL.of (s8.2 ln _ lnp hln), enw, _, nw, ⟨_, _, _, _, rfl⟩, nr' ++ nr2, nq ++ qa :: nq2, nj ++ nj2, na ++ ⟨js.length, g, now + 1 + o2, res + t4, (js ++ nj).length⟩ :: na2, (fr12.trans (Fr.same g9)).trans (Fr.stp s8), fun r' m' => ?_, s8.1, W14, ap10, ?_, fun h => ⟨?_, ?_⟩, ?_⟩
          · rcases List.mem_append.mp m' with m' | m'
            · rcases List.mem_append.mp m' with m' | m'
              · exact frs _ (List.mem_append_left _ m')
              · exact fb _ (List.mem_append_left _ m')
            · rcases List.mem_append.mp m' with m' | m'
              · exact frs _ (List.mem_append_right _ m')
              · rcases List.mem_cons.mp m' with e | m'
                · rw [e]
                  exact qaH
                · exact fb _ (List.mem_append_right _ m')
          · rw [estep]
            exact hH2
          · rw [← List.append_assoc]
            exact (c10 h).1
          · rw [← List.append_assoc, ← List.append_assoc, nA_swap (x := ⟨js.length, g, now + 1 + o2, res + t4, (js ++ nj).length⟩) (x' := ⟨js.length, g, now + 1 + o2, now + 1 + o2, (js ++ nj).length⟩) _ _ _ _ rfl]
            exact (c10 h).2
          · rw [← List.append_assoc]
            exact l10
      · rintro σ G ⟨last, now, ⟨v10, v11, v12, v13, rfl⟩, nr', nq, nj, na, fr, frs, hPG, WG, apG, hH, cG, lG⟩
        obtain ⟨rest, rfl, _⟩ := hH.hd
        have ej := get_at js rest ⟨house, start + r1, start + r1⟩
        obtain ⟨r0, er0, hr0⟩ := WG.cj.at ej
        refine ⟨_, rfl, _, rfl, _, rfl, _, _, rfl, rfl, .inr ⟨_, rfl, _, _, rfl, rfl, _, rfl, p, c, 3, rfl, hPG, by decide, by decide, fun t3 G1 t30 t31 s4 => ⟨_, _, rfl, rfl, ?_⟩⟩⟩
        have W4 := WG.stp hPG s4 apG
        have hr4 := W4.cj.2 _ _ _ er0 ej
        refine ⟨_, rfl, w, _, 0, _, rfl, rfl, SqL.of W4.w, rfl, _, rfl, lj, _, _, .ref r0, rfl, rfl, SqL.of W4.j, atI_nat (map_ref er0), r0, _, 2, 2, rfl, rfl, hr4, rfl, ?_⟩
        have W5 := W4.setJ (j := ⟨house, start + r1, last + (if decide (start + r1 < last) = true then 1 else 0) + t3⟩) apG.rn er0 ej
        rw [set_at] at W5
        have r0n : H r0 = none := by
          refine frs r0 (List.mem_append_left _ ?_)
          rw [List.getElem?_append_right (by rw [W.cj.1]; exact Nat.le_refl _)] at er0
          exact List.mem_of_getElem? er0
        have ev : last + (if decide (start + r1 < last) = true then 1 else 0) + t3 = last + (if last > start + r1 then 1 else 0) + t3 := by simp only [decide_eq_true_eq, gt_iff_lt]
        obtain ⟨rest', er, JP⟩ := hH.done (start := start) (t := t3) (D := Dn deep) hh (by omega) t30 (by
          cases deep with
          | zero =>
            have : (m * (if decide ((0 : Int) < ((0 : Nat) : Int)) = true then 1 else 0)).toNat = 0 := by simp
            rw [this]
            show start + r1 + ((0 : Nat) : Int) * _ + 1 + t3 ≤ start + 5
            omega
          | succ d =>
            have hm3 : (m * (if decide ((0 : Int) < ((d + 1 : Nat) : Int)) = true then 1 else 0)).toNat ≤ 3 := by
              split <;> omega
            show start + r1 + _ * (Dn d + 4) + 1 + t3 ≤ start + (3 * Dn d + 17)
            have h4 := nar d
            have : (((m * (if decide ((0 : Int) < ((d + 1 : Nat) : Int)) = true then 1 else 0)).toNat : Nat) : Int) * (Dn d + 4) ≤ 3 * (Dn d + 4) := Int.mul_le_mul_of_nonneg_right (by omega) (by omega)
            omega)
        obtain rfl := (List.cons.inj er).2
        rw [← ev] at JP
        refine ⟨_, rfl, w, _, 0, _, rfl, rfl, SqL.of W5.w, rfl, _, rfl, lj, _, _, .ref r0, rfl, rfl, SqL.of W5.j, atI_nat (map_ref er0), r0, _, 2, _, rfl, rfl, SqL.of upd_same, rfl, ?_⟩
        have emap : (js ++ ⟨house, start + r1, start + r1⟩ :: rest).map WJ.h = (js ++ ⟨house, start + r1, last + (if decide (start + r1 < last) = true then 1 else 0) + t3⟩ :: rest).map WJ.h := by
          rw [List.map_append, List.map_append]
          rfl
        refine q nr' nq _ na _ _ (fun b o h1 h2 h3 e => ?_) frs (s4.1.cellJ hr4) W5 apG JP (fun h => ⟨?_, ?_⟩) ?_
        · rw [upd_ne (ne_of_none e r0n)]
          exact s4.2 b o h1 (fr b o h1 h2 h3 e)
        · rw [nJ_eq, ← emap, ← nJ_eq]
          exact (cG h).1
        · rw [← nA_congr (as ++ na) h fun x _ => by rw [emap]]
          exact (cG h).2
        · rw [List.length_append] at lG ⊢
          exact lG
theorem ok_l_job (T : Txt K mg af fd) : FnOk P w K mg base CX0 7 (af 45) (fd 45) ["pen", "world", "town", "house", "start", "deep"] (sp_job 4) := ok_job_n T 4
/-! ### a world -/
structure WOk (hs : List Str) (js : List WJ) (as : List WA) : Prop where
  jb : ∀ j ∈ js, j.h ∈ hs ∧ 0 ≤ j.b ∧ j.b ≤ j.e ∧ j.e ≤ 400
  ab : ∀ x ∈ as, AskOk hs 0 js x
  inc : (as.map WA.ch).Pairwise (· < ·)
  cnt : Cnt js as
  len : as.length ≤ js.length
theorem WOk.more {hs : List Str} {js nj : List WJ} {as na : List WA} {start res : Int} {house : Str} (h : WOk hs js as) (J : JobPost hs js.length start (Dn 3) house nj na res) (s0 : 0 ≤ start) (s1 : start ≤ 11) (c : Cnt (js ++ nj) (as ++ na)) : WOk hs (js ++ nj) (as ++ na) := by
  have d3 : Dn 3 = 356 := by decide
  have rb := J.rb
  have c2 := J.cnt
  refine ⟨fun j m => ?_, fun x m => ?_, ?_, c, ?_⟩
  · rcases List.mem_append.mp m with m | m
    · exact h.jb j m
    · have := J.jb j m
      exact ⟨this.1, by omega, this.2.2.1, by omega⟩
  · rcases List.mem_append.mp m with m | m
    · exact (h.ab x m).app nj
    · have a := J.ab x m
      exact AskOk.shift (n0 := 0) (by rw [Nat.zero_add]; exact a)
  · rw [List.map_append]
    refine List.pairwise_append.mpr ⟨h.inc, J.inc, fun z m y m2 => ?_⟩
    obtain ⟨x, mx, rfl⟩ := List.mem_map.mp m
    obtain ⟨x2, mx2, rfl⟩ := List.mem_map.mp m2
    obtain ⟨_, _, j, e, _⟩ := (h.ab x mx).ch
    have h1 := (List.getElem?_eq_some_iff.mp e).1
    have h2 := (J.ab x2 mx2).ch.1
    omega
  · rw [List.length_append, List.length_append]
    have := h.len
    omega
def sp_world : Sp := fun vs H Q _ => ∃ (p c t : Addr) (hs gs : List Str) (tops most stray : Int), vs = [.ref p, .ref t, .int tops, .int 3, .int most, .int stray] ∧ Pen H p c ∧ TownAt H t hs gs ∧ 1 ≤ hs.length ∧ hs.length ≤ 6 ∧ gs.Sublist hs ∧ (∀ h ∈ hs, HouseS h) ∧ 0 < tops ∧ tops ≤ 10 ∧ 0 ≤ most ∧ most ≤ 100 ∧
  ∀ (w lj la : Addr) (rs qs : List Addr) (js : List WJ) (as : List WA) (H' : Hp), Stp p c H H' → H w = none → WorldAt H' w lj la rs qs js as most → Apart p c lj la rs qs → WOk hs js as → (js.length : Int) ≤ most → Q (.ref w) H'
theorem ok_l_world (T : Txt K mg af fd) : FnOk P w K mg base CX0 8 (af 46) (fd 46) ["pen", "town", "tops", "deep", "most", "stray"] sp_world := by
  refine T.F_l_world.ok sc_l_world (fun vs H Q E h => ?_) (fun cdv A outer s H vs Q E hr h => ?_)
  · obtain ⟨p, c, t, hs, gs, tops, most, stray, rfl, _⟩ := h
    rfl
  · obtain ⟨p, c, t, hs, gs, tops, most, stray, rfl, hP, ht, l1, l6, hsub, hou, to0, to1, mo0, mo1, q⟩ := h
    refine ⟨_, (pss_cons (ps_set (i := 6) sc_l_world.nd rfl (by first | exact Or.inl rfl | exact Or.inr rfl) (pe_lst (pa_cons (pe_lst pa_nil) (pa_cons (pe_lst pa_nil) (pa_cons (pv 4) pa_nil)))))
        (pss_cons (ps_for PassesOwn.never rfl (pi_range1 (by rfl) T.m_range (pa_cons (pe_op op_add pe_int (pe_call (ok_l_take T) (hr.mono (by first | decide | omega)) (by rfl) T.g_l_take T.F_l_take.kp T.b_l_take .nil pass0 (pa_cons (pv 0) (pa_cons (pv 2) pa_nil)))) pa_nil)) (pg_name (i := 7) sc_l_world.nd rfl (by first | exact Or.inl rfl | exact Or.inr rfl)) (pss_cons (ps_set (i := 8) sc_l_world.nd rfl (by first | exact Or.inl rfl | exact Or.inr rfl) (pe_ix ix_tup (pv 1) pe_int (fun _ _ => rfl)))
        (C8.pss_cut (ps_if (PW.pt (pw_or (pt_cmpR (op_eqD hr.units) (pv 8) (pe_tup pa_nil) (nomark _)) (pw_or1 (pt_cmpR op_lt (pe_call (ok_l_take T) (hr.mono (by first | decide | omega)) (by rfl) T.g_l_take T.F_l_take.kp T.b_l_take .nil pass0 (pa_cons (pv 0) (pa_cons pe_int pa_nil))) (pv 5) (nomark _))))) (pss_one (ps_set (i := 8) sc_l_world.nd rfl (by first | exact Or.inl rfl | exact Or.inr rfl) (pe_ix ix_tup (pv 1) pe_int (fun _ _ => rfl)))) pss_nil)
        (pss_cons (ps_set (i := 9) sc_l_world.nd rfl (by first | exact Or.inl rfl | exact Or.inr rfl) (pe_ix ix_tup (pv 8) (pe_call (ok_l_take T) (hr.mono (by first | decide | omega)) (by rfl) T.g_l_take T.F_l_take.kp T.b_l_take .nil pass0 (pa_cons (pv 0) (pa_cons (pe_callB call_len_seq (by rfl) T.m_len (by decide +kernel) (pa_cons (pv 8) pa_nil)) pa_nil))) (fun _ _ => rfl)))
        (pss_one (ps_if (pt_val (pe_call (ok_l_room T) (hr.mono (by first | decide | omega)) (by rfl) T.g_l_room T.F_l_room.kp T.b_l_room .nil pass0 (pa_cons (pv 6) (pa_cons pe_str (pa_cons (pv 9) pa_nil))))) (pss_one (ps_expr (pe_call (ok_l_job T) (hr.mono (by first | decide | omega)) (by rfl) T.g_l_job T.F_l_job.kp T.b_l_job .nil pass0 (pa_cons (pv 0) (pa_cons (pv 6) (pa_cons (pv 1) (pa_cons (pv 9) (pa_cons (pe_call (ok_l_take T) (hr.mono (by first | decide | omega)) (by rfl) T.g_l_take T.F_l_take.kp T.b_l_take .nil pass0 (pa_cons (pv 0) (pa_cons pe_int pa_nil))) (pa_cons (pv 3) pa_nil))))))))) pss_nil))))))
        (pss_one (ps_ret (pv 6))))), ?_⟩
    refine ⟨Nat.zero_le _, fun lj nlj => ⟨Nat.zero_le _, fun la nla => ⟨_, rfl, (by show 3 ≤ sizeLine; decide), fun w nw => ?_⟩⟩⟩
    obtain ⟨H0, e0, s0, w0, j0, a0⟩ : ∃ H0, upd (upd (upd H lj (.lst [])) la (.lst [])) w (.lst [.ref lj, .ref la, .int most]) = H0 ∧ Same H H0 ∧ H0 w = some (.lst [.ref lj, .ref la, .int most]) ∧ H0 lj = some (.lst []) ∧ H0 la = some (.lst []) :=
      ⟨_, rfl, ((same_upd nlj).trans (same_upd nla)).trans (same_upd nw), upd_same, same_upd nw _ _ (same_upd nla _ _ upd_same), same_upd nw _ _ upd_same⟩
    rw [e0]
    have hjl : lj ≠ la := ne_of_none upd_same nla
    have nlaH : H la = none := (same_upd nlj).free nla
    have nwH : H w = none := ((same_upd nlj).trans (same_upd nla)).free nw
    have hP0 := hP.sm s0
    have W0 : WorldAt H0 w lj la [] [] [] [] most := ⟨w0, j0, a0, ⟨rfl, fun i r x e => by cases e⟩, ⟨rfl, fun i r x e => by cases e⟩, fun x m => nomatch m⟩
    have ap0 : Apart p c lj la [] [] := ⟨hjl, hP.neC nlj, hP.neC nlaH, hP.neP nlj, hP.neP nlaH, List.Pairwise.nil, List.Pairwise.nil⟩
    have wok0 : WOk hs [] [] := ⟨fun j m => (nomatch m), fun x m => (nomatch m), List.Pairwise.nil, fun h => ⟨Nat.zero_le _, Nat.zero_le _⟩, Nat.le_refl _⟩
    refine ⟨_, rfl, _, rfl, p, c, tops, rfl, hP0, to0, Nat.lt_of_le_of_lt (show tops.natAbs ≤ 10 by omega) (by decide), fun k H1 k0 k1 s1 => ⟨_, _, rfl, rfl, ?_⟩⟩
    refine ⟨_, rfl, by omega, by omega, for_range (lo := 0) (n := (1 + k).toNat) (fun i σ H' => (∃ v7 v8 v9 : Option V, σ = [some (.ref p), some (.ref t), some (.int tops), some (.int 3), some (.int most), some (.int stray), some (.ref w), v7, v8, v9]) ∧
      ∃ rs qs js as, Fr p lj la H0 H' ∧ Pen H' p c ∧ WorldAt H' w lj la rs qs js as most ∧ Apart p c lj la rs qs ∧ WOk hs js as ∧ (js.length : Int) ≤ most)
      ⟨⟨none, none, none, rfl⟩, [], [], [], [], Fr.stp s1, s1.1, W0.stp hP0 s1 ap0, ap0, wok0, mo0⟩ ?_ ?_⟩
    · rintro i σ G hi ⟨⟨v7, v8, v9, rfl⟩, rs, qs, js, as, fr, hPG, WG, apG, wok, lG⟩
      obtain ⟨ta, tb, t1, t2, t3⟩ := fr.town hP0 j0 a0 (show TownAt H0 t hs gs from let ⟨a, b, h1, h2, h3⟩ := ht; ⟨a, b, s0 _ _ h1, s0 _ _ h2, s0 _ _ h3⟩)
      have gok : ∀ h ∈ gs, PyData.strOk h = true := fun h m => (hou h (hsub.subset m)).ok
      refine ⟨_, rfl, t, _, 1, _, rfl, rfl, SqT.of t1, rfl, ?_⟩
      refine ⟨fun σ' H' => ∃ (dr : Addr) (ds : List Str), (∃ v7 v9 : Option V, σ' = [some (.ref p), some (.ref t), some (.int tops), some (.int 3), some (.int most), some (.int stray), some (.ref w), v7, some (.ref dr), v9]) ∧ Stp p c G H' ∧ H' dr = some (.tup (ds.map V.str)) ∧ 1 ≤ ds.length ∧ ds.length ≤ 6 ∧ ∀ h ∈ ds, h ∈ hs, ?_, ?_⟩
      · refine ⟨_, rfl, Nat.zero_le _, fun e ne => ?_⟩
        have s2 := (Stp.refl hPG).new (o := .tup []) hPG ne
        have u2 := s2.tup hPG t2
        have u3 := s2.tup hPG t3
        have u1 := s2.tup hPG t1
        have ue : (upd G e (.tup [])) e = some (.tup []) := upd_same
        generalize upd G e (.tup []) = G1 at s2 u1 u2 u3 ue ⊢
        refine ⟨.tuple (gs.map PyData.str), .tuple [], Dp.tup (SqT.of u3) (dp_strs gs), Dp.tup (SqT.of ue) .nil, ?_, rfl, _, rfl, ite2 (fun e1 => iteT ?_) (fun e1 => ?_)⟩
        · unfold SeqAt.shaped
          rw [Bool.and_eq_true, decide_eq_true_eq]
          refine ⟨canLay_strs gok, ?_⟩
          show PyData.depthAll (gs.map PyData.str) + 1 ≤ 64
          rw [depth_strs]
          decide
        · exact ⟨_, rfl, t, _, 0, _, rfl, rfl, SqT.of u1, rfl, ta, hs, ⟨_, _, rfl⟩, s2, u2, l1, l6, fun h m => m⟩
        · have gne : gs ≠ [] := fun z => by
            subst z
            exact e1 rfl
          refine ⟨_, rfl, p, c, 8, rfl, s2.1, by decide, by decide, fun r G2 r0 r1 s3 => ?_⟩
          have s23 := s2.trans s3
          refine ⟨_, rfl, _, _, rfl, rfl, _, rfl, ite2 (fun e2 => ?_) (fun e2 => ?_)⟩
          · exact ⟨_, rfl, t, _, 0, _, rfl, rfl, SqT.of (s3.tup s2.1 u1), rfl, ta, hs, ⟨_, _, rfl⟩, s23, s3.tup s2.1 u2, l1, l6, fun h m => m⟩
          · exact ⟨tb, gs, ⟨_, _, rfl⟩, s23, s3.tup s2.1 u3, List.length_pos_iff.mpr gne, Nat.le_trans hsub.length_le l6, fun h m => hsub.subset m⟩
      · rintro σ' G1 ⟨dr, ds, ⟨v7', v9', rfl⟩, s2, hdr, d1, d6, hds⟩
        have lb : 0 < ((ds.map V.str).length : Int) := by rw [List.length_map]; omega
        have lc : ((ds.map V.str).length : Int).natAbs < 2 ^ 100 := by
          rw [List.length_map]
          exact Nat.lt_of_le_of_lt (show _ ≤ 6 by omega) (by decide)
        refine ⟨_, rfl, _, rfl, _, rfl, dr, _, rfl, .inr (SqT.of hdr), p, c, _, rfl, s2.1, lb, lc, fun z G2 z0 z1 s3 => ?_⟩
        obtain ⟨h, mh, eh⟩ := pick_house z0 z1
        have s23 := s2.trans s3
        refine ⟨dr, _, z, _, rfl, rfl, SqT.of (s3.tup s2.1 hdr), eh, ?_⟩
        have W3 := WG.stp hPG s23 apG
        have fr3 := fr.trans (Fr.stp s23)
        refine ⟨_, rfl, _, rfl, w, lj, la, _, _, _, _, most, "", h, rfl, W3, by omega, by have := wok.len; omega, fun b G3 g3 hb => ⟨b, rfl, ?_⟩⟩
        have W4 := W3.same g3
        have hP4 := s3.1.sm g3
        have fr4 := fr3.trans (Fr.same g3)
        cases b with
        | false => exact iteF ⟨⟨_, _, _, rfl⟩, rs, qs, js, as, fr4, hP4, W4, apG, wok, lG⟩
        | true =>
          obtain ⟨ra, rj, rm⟩ := hb.mp rfl
          refine iteT ⟨_, rfl, _, rfl, _, rfl, _, rfl, _, rfl, p, c, 12, rfl, hP4, by decide, by decide, fun st G4 st0 st1 s5 => ?_⟩
          have W5 := W4.stp hP4 s5 apG
          have fr5 := fr4.trans (Fr.stp s5)
          have ht5 : TownAt G4 t hs gs := fr5.town hP0 j0 a0 (let ⟨a, b, h1, h2, h3⟩ := ht; ⟨a, b, s0 _ _ h1, s0 _ _ h2, s0 _ _ h3⟩)
          refine ⟨_, rfl, p, c, w, lj, la, t, hs, gs, rs, qs, js, as, most, h, st, 3, rfl, by decide, s5.1, ht5, l1, l6, W5, apG, hds h mh, rm, mo1, wok.len, wok.cnt, rj, fun nr nq nj na res G5 fr6 frs6 hP6 W6 ap6 JP c6 l6' => ?_⟩
          exact ⟨⟨_, _, _, rfl⟩, rs ++ nr, qs ++ nq, js ++ nj, as ++ na, fr5.trans fr6, hP6, W6, ap6, wok.more JP st0 (by omega) c6, l6'⟩
    · rintro σ G ⟨⟨v7, v8, v9, rfl⟩, rs, qs, js, as, fr, hPG, WG, apG, wok, lG⟩
      refine ⟨_, rfl, q w lj la rs qs js as G ⟨hPG, fun b o hb e => ?_⟩ nwH WG apG wok lG⟩
      exact fr b o hb (ne_of_none e nlj) (ne_of_none e nlaH) (s0 _ _ e)
/-! ### what is left of the rows -/
def sp_left : Sp := fun vs H Q _ => ∃ (p c lr : Addr) (fewer : Int) (xs : List V) (ds : List PyData), vs = [.ref p, .ref lr, .int fewer] ∧ Pen H p c ∧ lr ≠ p ∧ H lr = some (.lst xs) ∧ Dqs (fun _ => True) H xs ds ∧ Ths ds ∧ (∀ d ∈ ds, RowW d) ∧ 0 ≤ fewer ∧ fewer ≤ 100 ∧ ds.length ≤ 200 ∧
  ∀ (l : Addr) (ys : List V) (es : List PyData) (H' : Hp), Stp p c H H' → H l = none → H' l = some (.lst ys) → Dqs (AtL p l) H' ys es → (∀ d ∈ es, d ∈ ds) → es.length ≤ ds.length + 2 → Q (.ref l) H'
theorem Dqs.any {Ex : Addr → Prop} {H : Hp} {vs : List V} {ds : List PyData} (h : Dqs (fun _ => True) H vs ds) : Dqs Ex H vs ds := h.go (fun _ _ n => absurd trivial n) (fun _ _ n _ => absurd trivial n) (fun _ _ e => e)
theorem Dq.any {Ex : Addr → Prop} {H : Hp} {v : V} {d : PyData} (h : Dq (fun _ => True) H v d) : Dq Ex H v d := h.go (fun _ _ n => absurd trivial n) (fun _ _ n _ => absurd trivial n) (fun _ _ e => e)
theorem ok_l_left (T : Txt K mg af fd) : FnOk P w K mg base CX0 3 (af 50) (fd 50) ["pen", "rows", "fewer"] sp_left := by
  refine T.F_l_left.ok sc_l_left (fun vs H Q E h => ?_) (fun cdv A outer s H vs Q E hr h => ?_)
  · obtain ⟨p, c, lr, fewer, xs, ds, rfl, _⟩ := h
    rfl
  · obtain ⟨p, c, lr, fewer, xs, ds, rfl, hP, lrp, hlr, hds, hth, hrw, f0, f1, hlen, q⟩ := h
    refine ⟨_, (pss_cons (ps_set (i := 3) sc_l_left.nd rfl (by first | exact Or.inl rfl | exact Or.inr rfl) (pe_lst (pa_cons (pe_call (ok_l_take T) (hr.mono (by first | decide | omega)) (by rfl) T.g_l_take T.F_l_take.kp T.b_l_take .nil pass0 (pa_cons (pv 0) (pa_cons (pe_op op_add (pv 2) pe_int) pa_nil))) (pa_cons (pe_ix ix_list (pe_lst (pa_cons pe_int (pa_cons pe_int (pa_cons pe_int (pa_cons pe_int pa_nil))))) (pe_call (ok_l_take T) (hr.mono (by first | decide | omega)) (by rfl) T.g_l_take T.F_l_take.kp T.b_l_take .nil pass0 (pa_cons (pv 0) (pa_cons pe_int pa_nil))) (fun _ _ => rfl)) pa_nil))))
        (pss_cons (ps_set (i := 4) sc_l_left.nd rfl (by first | exact Or.inl rfl | exact Or.inr rfl) (pe_lst pa_nil))
        (pss_cons (ps_for PassesOwn.never rfl (pi_list (pv 1)) (pg_name (i := 5) sc_l_left.nd rfl (by first | exact Or.inl rfl | exact Or.inr rfl)) (pss_one (ps_if (pt_cmpR op_ge (pe_call (ok_l_take T) (hr.mono (by first | decide | omega)) (by rfl) T.g_l_take T.F_l_take.kp T.b_l_take .nil pass0 (pa_cons (pv 0) (pa_cons pe_int pa_nil))) (pe_ix ix_list (pv 3) (pe_callTy call_int1 (by rfl) T.m_int (by decide +kernel) (pa_cons (pe_cmpR op_eq (pe_ix ix_tup (pv 5) pe_int (fun _ _ => rfl)) pe_str (nomark _)) pa_nil)) (fun _ _ => rfl)) (nomark _)) (pss_one (ps_expr (pe_bm PySem.F.plainAttrs_list PySem.F.slot_list_insert PySem.F.type_list_insert mt_insert (pv 4) (pa_cons (pe_call (ok_l_take T) (hr.mono (by first | decide | omega)) (by rfl) T.g_l_take T.F_l_take.kp T.b_l_take .nil pass0 (pa_cons (pv 0) (pa_cons (pe_op op_add (pe_callB call_len_seq (by rfl) T.m_len (by decide +kernel) (pa_cons (pv 4) pa_nil)) pe_int) pa_nil))) (pa_cons (pv 5) pa_nil))))) pss_nil)))
        (pss_cons (ps_for PassesOwn.never rfl (pi_range1 (by rfl) T.m_range (pa_cons (pe_op op_mul (pe_call (ok_l_take T) (hr.mono (by first | decide | omega)) (by rfl) T.g_l_take T.F_l_take.kp T.b_l_take .nil pass0 (pa_cons (pv 0) (pa_cons pe_int pa_nil))) (pe_callTy call_int1 (by rfl) T.m_int (by decide +kernel) (pa_cons (pe_cmpR (op_neD hr.units) (pv 4) (pe_lst pa_nil) (nomark _)) pa_nil))) pa_nil)) (pg_name (i := 6) sc_l_left.nd rfl (by first | exact Or.inl rfl | exact Or.inr rfl)) (pss_one (ps_expr (pe_bm PySem.F.plainAttrs_list PySem.F.slot_list_insert PySem.F.type_list_insert mt_insert (pv 4) (pa_cons (pe_call (ok_l_take T) (hr.mono (by first | decide | omega)) (by rfl) T.g_l_take T.F_l_take.kp T.b_l_take .nil pass0 (pa_cons (pv 0) (pa_cons (pe_op op_add (pe_callB call_len_seq (by rfl) T.m_len (by decide +kernel) (pa_cons (pv 4) pa_nil)) pe_int) pa_nil))) (pa_cons (pe_ix ix_list (pv 4) (pe_call (ok_l_take T) (hr.mono (by first | decide | omega)) (by rfl) T.g_l_take T.F_l_take.kp T.b_l_take .nil pass0 (pa_cons (pv 0) (pa_cons (pe_callB call_len_seq (by rfl) T.m_len (by decide +kernel) (pa_cons (pv 4) pa_nil)) pa_nil))) (fun _ _ => rfl)) pa_nil))))))
        (pss_one (ps_ret (pv 4))))))), ?_⟩
    refine ⟨_, rfl, _, rfl, _, _, rfl, rfl, p, c, _, rfl, hP, by omega, Nat.lt_of_le_of_lt (show _ ≤ 101 by omega) (by decide), fun r1 H1 r10 r11 s1 => ?_⟩
    refine ⟨(by show 4 ≤ sizeLine; decide), fun lb nlb => ?_⟩
    have s2 := s1.new (o := .lst [.int 0, .int 2, .int 4, .int 6]) hP nlb
    refine ⟨_, rfl, p, c, 4, rfl, s2.1, by decide, by decide, fun r2 H2 r20 r21 s3 => ?_⟩
    have hlb : H2 lb = some (.lst [.int 0, .int 2, .int 4, .int 6]) := s3.2 lb _ (fun e => s1.1.neP nlb e.symm) upd_same
    obtain ⟨v2, e2⟩ : ∃ v : Int, atI [V.int 0, .int 2, .int 4, .int 6] r2 = some (.int v) := by
      have hz : r2 = 0 ∨ r2 = 1 ∨ r2 = 2 ∨ r2 = 3 := by omega
      rcases hz with rfl | rfl | rfl | rfl <;> exact ⟨_, rfl⟩
    refine ⟨lb, _, r2, _, rfl, rfl, SqL.of hlb, e2, (by show 2 ≤ sizeLine; decide), fun ls nls => ?_⟩
    have s23 := s2.trans s3
    have s4 := s23.new (o := .lst [.int r1, .int v2]) hP nls
    have nlsH := s23.back hP nls
    have lsp : ls ≠ p := fun e => hP.neP nlsH e.symm
    have hls : (upd H2 ls (.lst [.int r1, .int v2])) ls = some (.lst [.int r1, .int v2]) := upd_same
    generalize upd H2 ls (.lst [.int r1, .int v2]) = H3 at s4 hls ⊢
    refine ⟨Nat.zero_le _, fun l nl => ?_⟩
    have nlH := s4.back hP nl
    have lp : l ≠ p := fun e => hP.neP nlH e.symm
    have s5 := s4.new (o := .lst []) hP nl
    have hls5 : (upd H3 l (.lst [])) ls = some (.lst [.int r1, .int v2]) := same_upd nl _ _ hls
    have hl5 : (upd H3 l (.lst [])) l = some (.lst []) := upd_same
    generalize upd H3 l (.lst []) = H4 at s5 hls5 hl5 ⊢
    have hlr4 := s5.2 lr _ lrp hlr
    have lsl : ls ≠ l := cell_ne hls5 hl5 (fun z => nomatch z)
    have lrl : lr ≠ l := ne_of_none hlr nlH
    refine ⟨_, rfl, lr, rfl, ⟨_, SqL.of hlr4⟩, for_list (K := K) (a := lr) (xs := xs) (fun i σ H' => (∃ v5 v6 : Option V, σ = [some (.ref p), some (.ref lr), some (.int fewer), some (.ref ls), some (.ref l), v5, v6]) ∧ H' lr = some (.lst xs) ∧ H' ls = some (.lst [.int r1, .int v2]) ∧ Lst p c l H (fun d => d ∈ ds) i H')
      ⟨⟨none, none, rfl⟩, hlr4, hls5, s5, [], [], hl5, .nil, (fun _ m => nomatch m), (fun _ m => nomatch m), Nat.le_refl _⟩ (fun i σ H' _ h => SqL.of h.2.1) ?_ ?_⟩
    · rintro i v σ G hv ⟨⟨v5, v6, rfl⟩, hlrG, hlsG, sG, ys, es, hlG, hdG, thG, hRG, lenG⟩
      have hil : i < ds.length := by rw [← hds.len]; exact (List.getElem?_eq_some_iff.mp hv).1
      have hdi : ds[i]? = some ds[i] := List.getElem?_eq_getElem hil
      generalize ds[i] = d at hdi
      have md := List.mem_of_getElem? hdi
      obtain ⟨v', hv', dv⟩ := hds.get hdi
      obtain rfl : v' = v := Option.some.inj (hv'.symm.trans hv)
      obtain ⟨r, rfl, wr⟩ := hrw d md
      cases dv with
      | @tup a zs _ ha hzs =>
        have hw : r.data[0]? = some (.str r.word) := by cases r <;> rfl
        obtain ⟨z, hz, dz⟩ := hzs.get hw
        obtain rfl : z = .str r.word := by cases dz; rfl
        refine ⟨_, rfl, p, c, 6, rfl, sG.1, by decide, by decide, fun r6 G1 r60 r61 s6 => ?_⟩
        have sG1 := sG.trans s6
        have haG := sG1.tup hP ha
        obtain ⟨vv, evv⟩ : ∃ vv : Int, atI [V.int r1, .int v2] (if decide (V.str r.word = V.str "all") = true then 1 else 0) = some (.int vv) := by split <;> exact ⟨_, rfl⟩
        have hlG1 := s6.2 l _ lp hlG
        have hdG1 := hdG.stp (.inl rfl) sG.1 s6
        have hlr1 := s6.2 lr _ lrp hlrG
        have hls1 := s6.2 ls _ lsp hlsG
        refine ⟨_, rfl, _, rfl, a, _, 0, _, rfl, rfl, SqT.of haG, atI_nat hz, rfl, .inr ⟨_, rfl, ls, _, _, _, rfl, rfl, SqL.of hls1, evv, _, _, rfl, rfl, _, rfl, ite2 (fun e => ?_) (fun e => ?_)⟩⟩
        · have hyl := hdG1.len
          refine ⟨_, rfl, .inl ⟨rfl, _, SqL.of hlG1⟩, _, rfl, _, rfl, l, _, rfl, .inl (SqL.of hlG1), _, _, rfl, rfl, p, c, _, rfl, s6.1, by omega, Nat.lt_of_le_of_lt (show _ ≤ 1000 by omega) (by decide), fun a1 G2 a10 a11 s7 => ?_⟩
          have hlG2 := s7.2 l _ lp hlG1
          have hdG2 := hdG1.stp (.inl rfl) s6.1 s7
          have sG2 := sG1.trans s7
          refine ⟨_, rfl, l, _, a1, _, rfl, rfl, hlG2, Nat.lt_of_lt_of_le (show ys.length < 1000 by omega) (by decide), a10, by omega, ⟨_, _, rfl⟩, ?_, ?_, ?_⟩
          · rw [upd_ne lrl]
            exact s7.2 lr _ lrp hlr1
          · rw [upd_ne lsl]
            exact s7.2 ls _ lsp hls1
          · exact lst_ins hP nlH sG2 hlG2 hdG2 thG hRG lenG (.tup (sG2.tup hP ha) (hzs.go (fun _ _ n => absurd trivial n) (fun _ _ n _ => absurd trivial n) (fun _ _ e => sG2.tup hP e))) (hth _ md) md _
        · exact ⟨⟨_, _, rfl⟩, hlr1, hls1, sG1, ys, es, hlG1, hdG1, thG, hRG, Nat.le_succ_of_le lenG⟩
    · rintro σ G ⟨⟨v5, v6, rfl⟩, hlrG, hlsG, sG, ys, es, hlG, hdG, thG, hRG, lenG⟩
      rw [hds.len] at lenG
      refine ⟨_, rfl, p, c, 3, rfl, sG.1, by decide, by decide, fun m G1 m0 m1 s6 => ?_⟩
      refine ⟨_, rfl, Nat.zero_le _, fun b nb => ?_⟩
      have sG1 := sG.trans s6
      have s7 := (Stp.refl s6.1).new (o := .lst []) s6.1 nb
      have hb7 : (upd G1 b (.lst [])) b = some (.lst []) := upd_same
      generalize upd G1 b (.lst []) = G2 at s7 hb7 ⊢
      have s67 := s6.trans s7
      have hlG2 := s67.2 l _ lp hlG
      have hdG2 := hdG.stp (.inl rfl) sG.1 s67
      refine ⟨.list es, .list [], Dp.lst (SqL.of hlG2) hdG2.dp, Dp.lst (SqL.of hb7) .nil, ths_lst thG (by omega), rfl, .inr ⟨_, rfl, _, _, rfl, rfl, .inl ⟨by omega, by omega⟩, ?_⟩⟩
      have sG2 := sG.trans s67
      refine ⟨_, rfl, ?_, ?_, for_range (lo := 0) (n := (m * (if (!PyData.eqv (.list es) (.list [])) = true then 1 else 0)).toNat) (fun i σ H' => (∃ v5 v6 : Option V, σ = [some (.ref p), some (.ref lr), some (.int fewer), some (.ref ls), some (.ref l), v5, v6]) ∧ Lst p c l H (fun d => d ∈ ds) (ds.length + i) H' ∧ ∀ us, H' l = some (.lst us) → es.length ≤ us.length)
        ⟨⟨_, _, rfl⟩, ⟨sG2, ys, es, hlG2, hdG2, thG, hRG, lenG⟩, fun us e => by rw [hlG2] at e; rw [← HO.lst.inj (Option.some.inj e), hdG2.len]; exact Nat.le_refl _⟩ ?_ ?_⟩
      · split <;> omega
      · split <;> omega
      · rintro i σ F hi ⟨⟨v5, v6, rfl⟩, ⟨sF, us, fs, hlF, hdF, thF, hRF, lenF⟩, hlow⟩
        have hes : 0 < es.length := by
          cases es with
          | nil => exact absurd hi (by simp [PyData.eqv, PyData.eqvAll])
          | cons x y => exact Nat.succ_pos _
        have hus := hlow us hlF
        have hul := hdF.len
        have him : i < 2 := by
          have : (m * (if (!PyData.eqv (.list es) (.list [])) = true then 1 else 0)).toNat ≤ 2 := by split <;> omega
          omega
        refine ⟨_, rfl, .inl ⟨rfl, _, SqL.of hlF⟩, _, rfl, _, rfl, l, _, rfl, .inl (SqL.of hlF), _, _, rfl, rfl, p, c, _, rfl, sF.1, by omega, Nat.lt_of_le_of_lt (show _ ≤ 1000 by omega) (by decide), fun a1 F1 a10 a11 u1 => ?_⟩
        have hlF1 := u1.2 l _ lp hlF
        have hdF1 := hdF.stp (.inl rfl) sF.1 u1
        refine ⟨_, rfl, _, rfl, _, rfl, l, _, rfl, .inl (SqL.of hlF1), p, c, _, rfl, u1.1, by omega, Nat.lt_of_le_of_lt (show _ ≤ 1000 by omega) (by decide), fun a2 F2 a20 a21 u2 => ?_⟩
        have hlF2 := u2.2 l _ lp hlF1
        have hdF2 := hdF1.stp (.inl rfl) u1.1 u2
        have hlt : a2.toNat < fs.length := by omega
        obtain ⟨v, hv, dv⟩ := hdF2.get (List.getElem?_eq_getElem hlt)
        refine ⟨l, _, a2, v, rfl, rfl, SqL.of hlF2, at_any (j := a2.toNat) (by omega) hv, ?_⟩
        refine ⟨l, _, a1, v, rfl, rfl, hlF2, Nat.lt_of_lt_of_le (show us.length < 1000 by omega) (by decide), a10, by omega, ⟨_, _, rfl⟩, ?_, fun ws e => ?_⟩
        · exact lst_ins hP nlH ((sF.trans u1).trans u2) hlF2 hdF2 thF hRF lenF dv (thF _ (List.getElem_mem hlt)) (hRF _ (List.getElem_mem hlt)) _
        · rw [upd_same] at e
          rw [← HO.lst.inj (Option.some.inj e), List.length_append, List.length_append, List.length_take, List.length_drop, List.length_singleton]
          omega
      · rintro σ F ⟨⟨v5, v6, rfl⟩, ⟨sF, us, fs, hlF, hdF, thF, hRF, lenF⟩, hlow⟩
        have him : (m * (if (!PyData.eqv (.list es) (.list [])) = true then 1 else 0)).toNat ≤ 2 := by split <;> omega
        exact ⟨_, rfl, q l us fs F sF nlH hlF hdF hRF (by omega)⟩
/-! ### numbers by order: among the things of one house, by time, then by place -/
def lx (ti : Nat → Int) (i j : Nat) : Bool := decide (ti i < ti j ∨ (ti i = ti j ∧ i < j))
def rk (N : Nat) (ho : Nat → Str) (ti : Nat → Int) (a : Nat) : Nat := ((List.range N).filter fun j => decide (ho j = ho a) && lx ti j a).length
def itemsOf (N : Nat) (ho : Nat → Str) (h : Str) : List Nat := (List.range N).filter fun j => decide (ho j = h)
theorem mem_items {N : Nat} {ho : Nat → Str} {h : Str} {j : Nat} : j ∈ itemsOf N ho h ↔ j < N ∧ ho j = h := by
  unfold itemsOf
  rw [List.mem_filter, List.mem_range, decide_eq_true_eq]
theorem rk_eq {N : Nat} {ho : Nat → Str} {ti : Nat → Int} {a : Nat} : rk N ho ti a = ((itemsOf N ho (ho a)).filter fun j => lx ti j a).length := by
  unfold rk itemsOf
  rw [List.filter_filter]
  congr 1
  refine List.filter_congr fun j _ => ?_
  rw [Bool.and_comm]
theorem rk_lt {N : Nat} {ho : Nat → Str} {ti : Nat → Int} {a : Nat} (ha : a < N) : rk N ho ti a < (itemsOf N ho (ho a)).length := by
  rw [rk_eq]
  refine Nat.lt_of_le_of_ne (List.length_filter_le _ _) fun e => ?_
  have := List.length_filter_eq_length_iff.mp e a (mem_items.mpr ⟨ha, rfl⟩)
  unfold lx at this
  have := of_decide_eq_true this
  omega
theorem filter_le {A : Type} (p q : A → Bool) (h : ∀ x, p x = true → q x = true) : ∀ l : List A, (l.filter p).length ≤ (l.filter q).length
  | [] => Nat.le_refl _
  | x :: l => by
    have ih := filter_le p q h l
    rw [List.filter_cons, List.filter_cons]
    by_cases hp : p x = true
    · rw [if_pos hp, if_pos (h x hp), List.length_cons, List.length_cons]
      omega
    · rw [if_neg hp]
      split
      · rw [List.length_cons]
        omega
      · exact ih
theorem filter_lt {A : Type} (p q : A → Bool) (h : ∀ x, p x = true → q x = true) {y : A} (hy : p y = false) (hq : q y = true) : ∀ {l : List A}, y ∈ l → (l.filter p).length < (l.filter q).length
  | x :: l, m => by
    have ih := filter_le p q h l
    rw [List.filter_cons, List.filter_cons]
    rcases List.mem_cons.mp m with rfl | m
    · rw [hy, hq, if_neg (by decide), if_pos rfl, List.length_cons]
      omega
    · have i2 := filter_lt p q h hy hq m
      by_cases hp : p x = true
      · rw [if_pos hp, if_pos (h x hp), List.length_cons, List.length_cons]
        omega
      · rw [if_neg hp]
        split
        · rw [List.length_cons]
          omega
        · exact i2
theorem lx_trans {ti : Nat → Int} {i j k : Nat} (h1 : lx ti i j = true) (h2 : lx ti j k = true) : lx ti i k = true := by
  unfold lx at *
  have h1 := of_decide_eq_true h1
  have h2 := of_decide_eq_true h2
  exact decide_eq_true (by omega)
theorem lx_irrefl {ti : Nat → Int} {i : Nat} : lx ti i i = false := by
  unfold lx
  exact decide_eq_false (by omega)
theorem lx_total {ti : Nat → Int} {i j : Nat} (h : i ≠ j) : lx ti i j = true ∨ lx ti j i = true := by
  unfold lx
  rw [decide_eq_true_eq, decide_eq_true_eq]
  omega
theorem rk_mono {N : Nat} {ho : Nat → Str} {ti : Nat → Int} {a b : Nat} (ha : a < N) (e : ho a = ho b) (h : lx ti a b = true) : rk N ho ti a < rk N ho ti b := by
  rw [rk_eq, rk_eq, e]
  exact filter_lt (fun j => lx ti j a) (fun j => lx ti j b) (fun x hx => lx_trans hx h) (y := a) lx_irrefl h (mem_items.mpr ⟨ha, e⟩)
theorem rk_inj {N : Nat} {ho : Nat → Str} {ti : Nat → Int} {a b : Nat} (ha : a < N) (hb : b < N) (e : ho a = ho b) (h : rk N ho ti a = rk N ho ti b) : a = b := by
  refine Decidable.byContradiction fun ne => ?_
  rcases lx_total (ti := ti) ne with l | l
  · have := rk_mono ha e l
    omega
  · have := rk_mono hb e.symm l
    omega
theorem rk_time {N : Nat} {ho : Nat → Str} {ti : Nat → Int} {a b : Nat} (ha : a < N) (hb : b < N) (e : ho a = ho b) (h : rk N ho ti a ≤ rk N ho ti b) : ti a ≤ ti b := by
  by_cases ne : a = b
  · rw [ne]
    exact Int.le_refl _
  · rcases lx_total (ti := ti) ne with l | l
    · unfold lx at l
      have := of_decide_eq_true l
      omega
    · have := rk_mono hb e.symm l
      omega
/-! the things of a house, sorted: each stands at its number -/
theorem sorted_rank {N : Nat} {ho : Nat → Str} {ti : Nat → Int} {h : Str} {S : List Nat} (pm : S.Perm (itemsOf N ho h)) (srt : S.Pairwise fun x y => lx ti y x = false) {i a : Nat} (e : S[i]? = some a) : a < N ∧ ho a = h ∧ rk N ho ti a = i := by
  have ma := mem_items.mp (pm.mem_iff.mp (List.mem_of_getElem? e))
  refine ⟨ma.1, ma.2, ?_⟩
  have nd : S.Nodup := pm.nodup_iff.mpr (List.nodup_range.sublist List.filter_sublist)
  have hi := (List.getElem?_eq_some_iff.mp e).1
  rw [rk_eq, ma.2, ← (pm.filter fun j => lx ti j a).length_eq]
  have es : S = S.take i ++ a :: S.drop (i + 1) := by
    have e2 : S.drop i = a :: S.drop (i + 1) := by rw [List.drop_eq_getElem_cons hi, (List.getElem?_eq_some_iff.mp e).2]
    rw [← e2, List.take_append_drop]
  rw [es] at srt nd
  rw [es, List.filter_append, List.length_append]
  have h1 : ((S.take i).filter fun j => lx ti j a) = S.take i := by
    rw [List.filter_eq_self]
    intro x mx
    have ne : x ≠ a := fun z => by
      rw [List.nodup_append] at nd
      exact nd.2.2 x mx a List.mem_cons_self z
    rcases lx_total (ti := ti) ne with l | l
    · exact l
    · have := (List.pairwise_append.mp srt).2.2 x mx a List.mem_cons_self
      rw [l] at this
      cases this
  have h2 : ((a :: S.drop (i + 1)).filter fun j => lx ti j a) = [] := by
    rw [List.filter_eq_nil_iff]
    intro x mx
    rcases List.mem_cons.mp mx with rfl | mx
    · rw [lx_irrefl]
      decide
    · have := (List.pairwise_cons.mp (List.pairwise_append.mp srt).2.1).1 x mx
      rw [this]
      decide
  rw [h1, h2, List.length_take]
  simp
  omega
theorem sorted_has {N : Nat} {ho : Nat → Str} {ti : Nat → Int} {h : Str} {S : List Nat} (pm : S.Perm (itemsOf N ho h)) (srt : S.Pairwise fun x y => lx ti y x = false) {a : Nat} (ha : a < N) (e : ho a = h) : S[rk N ho ti a]? = some a := by
  obtain ⟨i, hi⟩ := List.getElem?_of_mem (pm.mem_iff.mpr (mem_items.mpr ⟨ha, e⟩))
  rw [(sorted_rank pm srt hi).2.2]
  exact hi
/-! ### pairs of a time and a place -/
inductive Prs (H : Hp) : List V → List (Int × Nat) → Prop
  | nil : Prs H [] []
  | cons {t : Addr} {q : Int × Nat} {us : List V} {qs : List (Int × Nat)} : H t = some (.tup [.int q.1, .int (q.2 : Nat)]) → Prs H us qs → Prs H (.ref t :: us) (q :: qs)
theorem Prs.go {H H' : Hp} (s : ∀ b xs, H b = some (.tup xs) → H' b = some (.tup xs)) : ∀ {us : List V} {ks : List (Int × Nat)}, Prs H us ks → Prs H' us ks
  | _, _, .nil => .nil
  | _, _, .cons h r => .cons (s _ _ h) (r.go s)
theorem Prs.snoc {H : Hp} {b : Addr} {k : Int × Nat} (hb : H b = some (.tup [.int k.1, .int (k.2 : Nat)])) : ∀ {us : List V} {ks : List (Int × Nat)}, Prs H us ks → Prs H (us ++ [.ref b]) (ks ++ [k])
  | _, _, .nil => .cons hb .nil
  | _, _, .cons h r => .cons h (r.snoc hb)
theorem Prs.len {H : Hp} : ∀ {us : List V} {ks : List (Int × Nat)}, Prs H us ks → us.length = ks.length
  | _, _, .nil => rfl
  | _, _, .cons _ r => by rw [List.length_cons, List.length_cons, r.len]
def kp (H : Hp) : V → Int × Int
  | .ref t => match H t with
    | some (.tup [.int a, .int b]) => (a, b)
    | _ => (0, 0)
  | _ => (0, 0)
theorem kp_at {H : Hp} {t : Addr} {a b : Int} (h : H t = some (.tup [.int a, .int b])) : kp H (.ref t) = (a, b) := by
  show (match H t with
    | some (.tup [.int a, .int b]) => (a, b)
    | _ => ((0, 0) : Int × Int)) = (a, b)
  rw [h]
def q2 (q : Int × Int) : Int × Nat := (q.1, q.2.toNat)
theorem Prs.each {H : Hp} : ∀ {us : List V} {ks : List (Int × Nat)}, Prs H us ks → (∀ x ∈ us, ∃ t, x = .ref t ∧ H t = some (.tup [.int (kp H x).1, .int (kp H x).2])) ∧ us.map (fun x => q2 (kp H x)) = ks ∧ ∀ x ∈ us, 0 ≤ (kp H x).2
  | _, _, .nil => ⟨fun _ m => (nomatch m), rfl, fun _ m => (nomatch m)⟩
  | _, _, .cons (t := t) (q := q) h r => by
    obtain ⟨r1, r2, r3⟩ := r.each
    have e := kp_at h
    refine ⟨fun x m => ?_, ?_, fun x m => ?_⟩
    · rcases List.mem_cons.mp m with rfl | m
      · exact ⟨t, rfl, by rw [e]; exact h⟩
      · exact r1 x m
    · rw [List.map_cons, r2, e]
      rfl
    · rcases List.mem_cons.mp m with rfl | m
      · rw [e]
        exact Int.natCast_nonneg _
      · exact r3 x m
theorem prs_of {H : Hp} : ∀ {us : List V}, (∀ x ∈ us, ∃ t, x = .ref t ∧ H t = some (.tup [.int (kp H x).1, .int (kp H x).2]) ∧ 0 ≤ (kp H x).2) → Prs H us (us.map fun x => q2 (kp H x))
  | [], _ => .nil
  | x :: us, h => by
    obtain ⟨t, rfl, ht, h0⟩ := h x List.mem_cons_self
    refine .cons ?_ (prs_of fun y m => h y (List.mem_cons_of_mem _ m))
    show H t = some (.tup [.int (kp H (.ref t)).1, .int (((kp H (.ref t)).2.toNat : Nat) : Int)])
    rw [Int.toNat_of_nonneg h0]
    exact ht
/-! the sorted pairs of a house's things stand by their numbers -/
theorem prs_sorted {H : Hp} {N : Nat} {ho : Nat → Str} {ti : Nat → Int} {h : Str} {us ys : List V} (p : Prs H us ((itemsOf N ho h).map fun j => (ti j, j))) (srt : SrtO.Srtd (L2.ltP (kp H)) ys) (stb : SrtO.Stb (L2.ltP (kp H)) ys us) :
    ∃ S : List Nat, Prs H ys (S.map fun j => (ti j, j)) ∧ S.Perm (itemsOf N ho h) ∧ S.Pairwise fun x y => lx ti y x = false := by
  obtain ⟨p1, p2, p3⟩ := p.each
  have hm : ∀ x ∈ ys, x ∈ us := fun x m => stb.perm.mem_iff.mp m
  have py := prs_of (H := H) (us := ys) fun x m => let ⟨t, e1, e2⟩ := p1 x (hm x m); ⟨t, e1, e2, p3 x (hm x m)⟩
  have pe : (ys.map fun x => q2 (kp H x)).Perm ((itemsOf N ho h).map fun j => (ti j, j)) := by
    rw [← p2]
    exact stb.perm.map _
  have each : ∀ q ∈ ys.map fun x => q2 (kp H x), q = (ti q.2, q.2) := fun q m => by
    obtain ⟨j, _, rfl⟩ := List.mem_map.mp (pe.mem_iff.mp m)
    rfl
  refine ⟨(ys.map fun x => q2 (kp H x)).map (·.2), ?_, ?_, ?_⟩
  · have e : ((ys.map fun x => q2 (kp H x)).map (·.2)).map (fun j => (ti j, j)) = ys.map fun x => q2 (kp H x) := by
      rw [List.map_map]
      conv => rhs; rw [← List.map_id (ys.map fun x => q2 (kp H x))]
      exact List.map_congr_left fun q m => (each q m).symm
    rw [e]
    exact py
  · have := pe.map (·.2)
    rw [List.map_map (l := itemsOf N ho h)] at this
    have e : (itemsOf N ho h).map ((fun x : Int × Nat => x.2) ∘ fun j => (ti j, j)) = itemsOf N ho h := by
      conv => rhs; rw [← List.map_id (itemsOf N ho h)]
      rfl
    rw [e] at this
    exact this
  · rw [List.map_map, List.pairwise_map]
    refine List.Pairwise.imp_of_mem (fun {x y} mx my hxy => ?_) srt
    have ex := each _ (List.mem_map.mpr ⟨x, mx, rfl⟩)
    have ey := each _ (List.mem_map.mpr ⟨y, my, rfl⟩)
    have x0 := p3 x (hm x mx)
    have y0 := p3 y (hm y my)
    show lx ti (q2 (kp H y)).2 (q2 (kp H x)).2 = false
    have hx : ti (q2 (kp H x)).2 = (kp H x).1 := (congrArg Prod.fst ex).symm
    have hy : ti (q2 (kp H y)).2 = (kp H y).1 := (congrArg Prod.fst ey).symm
    unfold lx
    rw [hx, hy]
    refine decide_eq_false fun z => ?_
    have hl : ¬ (SrtO.lexB (kp H y) (kp H x) = true) := by
      have : SrtO.lexB (kp H y) (kp H x) = false := hxy
      rw [this]
      decide
    refine hl (SrtO.lexB_iff.mpr ?_)
    rcases z with z | ⟨z1, z2⟩
    · exact .inl z
    · refine .inr ⟨z1, ?_⟩
      have z2 : (kp H y).2.toNat < (kp H x).2.toNat := z2
      omega
theorem nodup_len {A : Type} [DecidableEq A] : ∀ {xs ys : List A}, xs.Nodup → (∀ x ∈ xs, x ∈ ys) → xs.length ≤ ys.length
  | [], _, _, _ => Nat.zero_le _
  | x :: xs, ys, nd, h => by
    have hx := h x List.mem_cons_self
    have nd2 := List.nodup_cons.mp nd
    have ih := nodup_len (ys := ys.erase x) nd2.2 fun y m => (List.mem_erase_of_ne (fun z => nd2.1 (by rw [← z]; exact m))).mpr (h y (List.mem_cons_of_mem _ m))
    rw [List.length_erase_of_mem hx] at ih
    have := List.length_pos_of_mem hx
    rw [List.length_cons]
    omega
/-! ### dicts from places to numbers -/
structure NumD (H : Hp) (N : Nat) (ho : Nat → Str) (ti : Nat → Int) (done : Nat → Prop) (kvs : List (Key × V)) : Prop where
  own : ∀ kv ∈ kvs, ∃ (a : Nat) (b : Addr), kv.1 = .inl (a : Int) ∧ a < N ∧ done a ∧ kv.2 = .ref b ∧ H b = some (.tup [.str (ho a), .int (rk N ho ti a : Nat)])
  all : ∀ a, a < N → done a → ∃ v, ((.inl (a : Int) : Key), v) ∈ kvs
  nd : (kvs.map (·.1)).Nodup
theorem NumD.go {H H' : Hp} {N : Nat} {ho : Nat → Str} {ti : Nat → Int} {done : Nat → Prop} {kvs : List (Key × V)} (h : NumD H N ho ti done kvs) (s : ∀ b xs, H b = some (.tup xs) → H' b = some (.tup xs)) : NumD H' N ho ti done kvs :=
  ⟨fun kv m => let ⟨a, b, e1, e2, e3, e4, e5⟩ := h.own kv m; ⟨a, b, e1, e2, e3, e4, s _ _ e5⟩, h.all, h.nd⟩
theorem NumD.iff {H : Hp} {N : Nat} {ho : Nat → Str} {ti : Nat → Int} {done done' : Nat → Prop} {kvs : List (Key × V)} (h : NumD H N ho ti done kvs) (e : ∀ a, a < N → (done a ↔ done' a)) : NumD H N ho ti done' kvs :=
  ⟨fun kv m => let ⟨a, b, e1, e2, e3, e4, e5⟩ := h.own kv m; ⟨a, b, e1, e2, (e a e2).mp e3, e4, e5⟩, fun a ha hd => h.all a ha ((e a ha).mpr hd), h.nd⟩
theorem NumD.put {H : Hp} {N : Nat} {ho : Nat → Str} {ti : Nat → Int} {done : Nat → Prop} {kvs : List (Key × V)} {a : Nat} {b : Addr} (h : NumD H N ho ti done kvs) (ha : a < N) (hb : H b = some (.tup [.str (ho a), .int (rk N ho ti a : Nat)])) : NumD H N ho ti (fun x => done x ∨ x = a) (putK kvs (.inl (a : Int)) (.ref b)) where
  own := fun kv m => by
    rcases put_mem m with ⟨m, _⟩ | rfl
    · obtain ⟨x, c, e1, e2, e3, e4, e5⟩ := h.own kv m
      exact ⟨x, c, e1, e2, .inl e3, e4, e5⟩
    · exact ⟨a, b, rfl, ha, .inr rfl, rfl, hb⟩
  all := fun x hx hd => by
    rcases hd with hd | rfl
    · obtain ⟨v, m⟩ := h.all x hx hd
      exact put_keep m
    · exact ⟨_, put_self _ _ _⟩
  nd := put_nd h.nd
theorem NumD.len {H : Hp} {N : Nat} {ho : Nat → Str} {ti : Nat → Int} {done : Nat → Prop} {kvs : List (Key × V)} (h : NumD H N ho ti done kvs) : kvs.length ≤ N := by
  have hs : ∀ k ∈ kvs.map (·.1), k ∈ (List.range N).map fun a : Nat => (Sum.inl (a : Int) : Key) := fun k m => by
    obtain ⟨kv, mk, rfl⟩ := List.mem_map.mp m
    obtain ⟨a, b, e1, e2, _⟩ := h.own kv mk
    rw [e1]
    exact List.mem_map.mpr ⟨a, List.mem_range.mpr e2, rfl⟩
  have := nodup_len h.nd hs
  rw [List.length_map, List.length_map, List.length_range] at this
  exact this
theorem NumD.at {H : Hp} {N : Nat} {ho : Nat → Str} {ti : Nat → Int} {done : Nat → Prop} {kvs : List (Key × V)} (h : NumD H N ho ti done kvs) {a : Nat} (ha : a < N) (hd : done a) : ∃ b, valV kvs (.inl (a : Int)) = some (.ref b) ∧ H b = some (.tup [.str (ho a), .int (rk N ho ti a : Nat)]) := by
  cases e : valV kvs (.inl (a : Int)) with
  | none =>
    obtain ⟨v, m⟩ := h.all a ha hd
    exact absurd m (val_none e v)
  | some v =>
    obtain ⟨x, b, e1, e2, e3, e4, e5⟩ := h.own _ (val_mem e)
    have e1 : (a : Int) = (x : Int) := Sum.inl.inj e1
    obtain rfl : a = x := Int.ofNat.inj e1
    exact ⟨b, by rw [← e4], e5⟩
def hoJ (js : List WJ) (i : Nat) : Str := match js[i]? with
  | some j => j.h
  | none => ""
def tiJ (js : List WJ) (i : Nat) : Int := match js[i]? with
  | some j => j.b
  | none => 0
def hoA (js : List WJ) (as : List WA) (i : Nat) : Str := match as[i]? with
  | some x => hoJ js x.pl
  | none => ""
def tiA (as : List WA) (i : Nat) : Int := match as[i]? with
  | some x => x.o
  | none => 0
def sp_called : Sp := fun vs H Q _ => ∃ (t w lj la : Addr) (hs gs : List Str) (rs qs : List Addr) (js : List WJ) (as : List WA) (most : Int), vs = [.ref t, .ref w] ∧ TownAt H t hs gs ∧ WorldAt H w lj la rs qs js as most ∧ js.length ≤ 500 ∧ as.length ≤ 500 ∧
  ∀ (p dA dJ : Addr) (kA kJ : List (Key × V)) (H' : Hp), Same H H' → H' p = some (.tup [.ref dA, .ref dJ]) → H' dA = some (.dK kA) → H' dJ = some (.dK kJ) → H dA = none → H dJ = none → NumD H' as.length (hoA js as) (tiA as) (fun a => hoA js as a ∈ hs) kA → NumD H' js.length (hoJ js) (tiJ js) (fun a => hoJ js a ∈ hs) kJ → Q (.ref p) H'
theorem items_succ (k : Nat) (ho : Nat → Str) (h : Str) : itemsOf (k + 1) ho h = itemsOf k ho h ++ (if ho k = h then [k] else []) := by
  unfold itemsOf
  rw [List.range_succ, filter_snoc]
  congr 1
  by_cases e : ho k = h <;> simp [e]
theorem items_len (k : Nat) (ho : Nat → Str) (h : Str) : (itemsOf k ho h).length ≤ k := by
  unfold itemsOf
  exact Nat.le_trans (List.length_filter_le _ _) (by rw [List.length_range]; exact Nat.le_refl _)
theorem Prs.at {H : Hp} : ∀ {us : List V} {ks : List (Int × Nat)} {i : Nat} {k : Int × Nat}, Prs H us ks → ks[i]? = some k → ∃ t, us[i]? = some (.ref t) ∧ H t = some (.tup [.int k.1, .int (k.2 : Nat)])
  | _, _, 0, _, .cons h _, e => ⟨_, rfl, by obtain rfl := Option.some.inj e; exact h⟩
  | _, _, _ + 1, _, .cons _ r, e => r.at e
def Kp (d : Addr) (H H' : Hp) : Prop := ∀ b o, b ≠ d → H b = some o → H' b = some o
set_option maxHeartbeats 16000000 in
theorem ok_l_called (T : Txt K mg af fd) : FnOk P w K mg base CX0 1 (af 47) (fd 47) ["town", "world"] sp_called := by
  refine T.F_l_called.ok sc_l_called (fun vs H Q E h => ?_) (fun cdv A outer s H vs Q E hr h => ?_)
  · obtain ⟨t, w, lj, la, hs, gs, rs, qs, js, as, most, rfl, _⟩ := h
    rfl
  · obtain ⟨t, w, lj, la, hs, gs, rs, qs, js, as, most, rfl, ⟨ta, tb, t1, t2, t3⟩, W, lenj, lena, q⟩ := h
    refine ⟨_, (pss_cons (ps_set (i := 2) sc_l_called.nd rfl (by first | exact Or.inl rfl | exact Or.inr rfl) pe_dnewK)
        (pss_cons (ps_set (i := 3) sc_l_called.nd rfl (by first | exact Or.inl rfl | exact Or.inr rfl) pe_dnewK)
        (pss_cons (ps_for PassesOwn.never rfl (pi_tup (pe_ix ix_tup (pv 0) pe_int (fun _ _ => rfl))) (pg_name (i := 4) sc_l_called.nd rfl (by first | exact Or.inl rfl | exact Or.inr rfl)) (pss_cons (ps_set (i := 5) sc_l_called.nd rfl (by first | exact Or.inl rfl | exact Or.inr rfl) (pe_callB cr_sortedPO (by rfl) T.m_sorted (by decide +kernel) (pa_cons (pe_lc (own := [("at", 6), ("ask", 7)]) (g := gTup K 2 (gCons (gName 6) (gCons (gName 7) gNil))) (by rfl) sc_l_called.nd (pi_enum (by rfl) T.m_enumerate (pa_cons (pe_ix ix_list (pv 1) pe_int (fun _ _ => rfl)) pa_nil)) (blkOk_by (own := [("at", 6), ("ask", 7)]) (N := ["town", "world", "asks", "jobs", "house", "outs", "at", "ask", "begins", "place", "job", "number"]) (sc := defScope s_l_called) (by decide +kernel)) (fun _ _ _ _ _ => pg_tup rfl (pgs_cons (pg_name (i := 6) sc_l_called.nd rfl (Or.inl rfl)) (pgs_cons (pg_name (i := 7) sc_l_called.nd rfl (Or.inl rfl)) pgs_nil))) (fun _ _ _ _ _ => (pts_one (pt_cmpR op_eq (pe_ix (show IxR _ (rIxL K) from ix_list) (pe_ix (show IxR _ (rIxL K) from ix_list) (pe_ix (show IxR _ (rIxL K) from ix_list) (pv 1) pe_int (fun _ _ => rfl)) (pe_ix (show IxR _ (rIxL K) from ix_list) (pv 7) pe_int (fun _ _ => rfl)) (fun _ _ => rfl)) pe_int (fun _ _ => rfl)) (pv 4) (nomark _)))) (fun _ _ _ _ _ => (pe_tup (pa_cons (pe_ix (show IxR _ (rIxL K) from ix_list) (pv 7) pe_int (fun _ _ => rfl)) (pa_cons (pv 6) pa_nil))))) pa_nil)))
        (pss_cons (ps_set (i := 8) sc_l_called.nd rfl (by first | exact Or.inl rfl | exact Or.inr rfl) (pe_callB cr_sortedPO (by rfl) T.m_sorted (by decide +kernel) (pa_cons (pe_lc (own := [("place", 9), ("job", 10)]) (g := gTup K 2 (gCons (gName 9) (gCons (gName 10) gNil))) (by rfl) sc_l_called.nd (pi_enum (by rfl) T.m_enumerate (pa_cons (pe_ix (show IxR _ (rIxL K) from ix_list) (pv 1) pe_int (fun _ _ => rfl)) pa_nil)) (blkOk_by (own := [("place", 9), ("job", 10)]) (N := ["town", "world", "asks", "jobs", "house", "outs", "at", "ask", "begins", "place", "job", "number"]) (sc := defScope s_l_called) (by decide +kernel)) (fun _ _ _ _ _ => pg_tup rfl (pgs_cons (pg_name (i := 9) sc_l_called.nd rfl (Or.inl rfl)) (pgs_cons (pg_name (i := 10) sc_l_called.nd rfl (Or.inl rfl)) pgs_nil))) (fun _ _ _ _ _ => (pts_one (pt_cmpR op_eq (pe_ix (show IxR _ (rIxL K) from ix_list) (pv 10) pe_int (fun _ _ => rfl)) (pv 4) (nomark _)))) (fun _ _ _ _ _ => (pe_tup (pa_cons (pe_ix (show IxR _ (rIxL K) from ix_list) (pv 10) pe_int (fun _ _ => rfl)) (pa_cons (pv 9) pa_nil))))) pa_nil)))
        (pss_cons (ps_for PassesOwn.never rfl (pi_range1 (by rfl) T.m_range (pa_cons (pe_callB call_len_seq (by rfl) T.m_len (by decide +kernel) (pa_cons (pv 5) pa_nil)) pa_nil)) (pg_name (i := 11) sc_l_called.nd rfl (by first | exact Or.inl rfl | exact Or.inr rfl)) (pss_one (ps_dput (hu_of hr) (pv 2) (pe_ix ix_tup (pe_ix ix_list (pv 5) (pv 11) (fun _ _ => rfl)) pe_int (fun _ _ => rfl)) (pe_tup (pa_cons (pv 4) (pa_cons (pv 11) pa_nil))) rfl)))
        (pss_one (ps_for PassesOwn.never rfl (pi_range1 (by rfl) T.m_range (pa_cons (pe_callB call_len_seq (by rfl) T.m_len (by decide +kernel) (pa_cons (pv 8) pa_nil)) pa_nil)) (pg_name (i := 11) sc_l_called.nd rfl (by first | exact Or.inl rfl | exact Or.inr rfl)) (pss_one (ps_dput (hu_of hr) (pv 3) (pe_ix ix_tup (pe_ix ix_list (pv 8) (pv 11) (fun _ _ => rfl)) pe_int (fun _ _ => rfl)) (pe_tup (pa_cons (pv 4) (pa_cons (pv 11) pa_nil))) rfl))))))))
        (pss_one (ps_ret (pe_tup (pa_cons (pv 2) (pa_cons (pv 3) pa_nil)))))))), ?_⟩
    intro dA ndA dJ ndJ
    have ndJ0 : H dJ = none := (same_upd ndA).free ndJ
    have neAJ : dA ≠ dJ := ne_of_none upd_same ndJ
    have s0 : Same H (upd (upd H dA (.dK [])) dJ (.dK [])) := (same_upd ndA).trans (same_upd ndJ)
    have hA0 : (upd (upd H dA (.dK [])) dJ (.dK [])) dA = some (.dK []) := by rw [upd_ne neAJ, upd_same]
    have hJ0 : (upd (upd H dA (.dK [])) dJ (.dK [])) dJ = some (.dK []) := upd_same
    generalize upd (upd H dA (.dK [])) dJ (.dK []) = H0 at s0 hA0 hJ0 ⊢
    refine ⟨_, rfl, t, _, 0, _, rfl, rfl, SqT.of (s0 _ _ t1), rfl, ta, rfl, ⟨_, SqT.of (s0 _ _ t2)⟩, ?_⟩
    refine for_it (walk_tup (K := K) (a := ta) (xs := hs.map V.str)) (fun i σ H' => (∃ v4 v5 v6 v7 v8 v9 v10 v11 : Option V, σ = [some (.ref t), some (.ref w), some (.ref dA), some (.ref dJ), v4, v5, v6, v7, v8, v9, v10, v11]) ∧ Same H H' ∧ ∃ kA kJ, H' dA = some (.dK kA) ∧ H' dJ = some (.dK kJ) ∧ NumD H' as.length (hoA js as) (tiA as) (fun a => hoA js as a ∈ hs.take i) kA ∧ NumD H' js.length (hoJ js) (tiJ js) (fun a => hoJ js a ∈ hs.take i) kJ)
      ⟨⟨none, none, none, none, none, none, none, none, rfl⟩, s0, [], [], hA0, hJ0, ⟨fun _ m => (nomatch m), (fun a _ h => by rw [List.take_zero] at h; exact nomatch h), List.nodup_nil⟩, ⟨fun _ m => (nomatch m), (fun a _ h => by rw [List.take_zero] at h; exact nomatch h), List.nodup_nil⟩⟩ (fun i σ H' _ h => SqT.of (h.2.1 _ _ t2)) ?_ ?_
    · rintro i v σ H1 H2 hi ⟨⟨v4, v5, v6, v7, v8, v9, v10, v11, rfl⟩, s1, kA, kJ, hA, hJ, nA, nJ⟩ ⟨rfl, ev⟩
      rw [List.length_map] at hi
      have eh : hs[i]? = some hs[i] := List.getElem?_eq_getElem hi
      generalize hs[i] = h at eh
      rw [List.getElem?_map, eh] at ev
      obtain rfl : V.str h = v := Option.some.inj ev
      have W1 := W.same s1
      -- outs
      refine ⟨_, rfl, w, _, 1, _, rfl, rfl, SqL.of W1.w, rfl, la, qs.map V.ref, rfl, SqL.of W1.a, fun D nD => ?_⟩
      refine lc_it (walk_enum (K := K) (a := la) (xs := qs.map V.ref)) (fun k H' => Same H2 H' ∧ ∃ us, H' D = some (.lst us) ∧ Prs H' us ((itemsOf k (hoA js as) h).map fun j => (tiA as j, j)))
        ⟨same_upd nD, [], upd_same, .nil⟩ (fun k H' _ h => SqL.of (h.1 _ _ W1.a)) ?_ ?_
      · rintro k v G1 G2 hk ⟨g1, us, hD, pr⟩ ⟨Tp, x1, x2, rfl, nT, rfl, e1, e2⟩
        obtain rfl : V.int (k : Nat) = x1 := Option.some.inj e1
        have e2 : (qs.map V.ref)[k]? = some x2 := e2
        rw [List.getElem?_map] at e2
        obtain ⟨r, hr1, rfl⟩ := Option.map_eq_some_iff.mp e2
        have hka : k < as.length := by rw [← W.ca.1]; exact (List.getElem?_eq_some_iff.mp hr1).1
        have hx : as[k]? = some as[k] := List.getElem?_eq_getElem hka
        generalize as[k] = x at hx
        have g2 : Same H2 (upd G1 Tp (.tup [.int (k : Nat), .ref r])) := same_mut g1 (g1.free nT)
        have hDT : (upd G1 Tp (.tup [.int (k : Nat), .ref r])) D = some (.lst us) := by rw [upd_ne (ne_of_none hD nT)]; exact hD
        have prT := pr.go (H' := upd G1 Tp (.tup [.int (k : Nat), .ref r])) fun b ys e => (same_upd nT) _ _ e
        refine ⟨Tp, _, rfl, SqT.of upd_same, rfl, _, _, rfl, _, _, rfl, rfl, rfl, ?_⟩
        generalize upd G1 Tp (.tup [.int (k : Nat), .ref r]) = G3 at g2 hDT prT ⊢
        have W2 := W1.same g2
        have hr2 := W2.ca.2 k r x hr1 hx
        have hpl := W.pl x (List.mem_of_getElem? hx)
        have hj : js[x.pl]? = some js[x.pl] := List.getElem?_eq_getElem hpl
        generalize js[x.pl] = j at hj
        obtain ⟨rj, erj, hrj⟩ := W2.cj.at hj
        have eho : hoA js as k = j.h := by unfold hoA hoJ; rw [hx]; show (match js[x.pl]? with | some j => j.h | none => "") = _; rw [hj]
        have eti : tiA as k = x.o := by unfold tiA; rw [hx]
        have l1 := prT.len
        rw [List.length_map] at l1
        have l2 := items_len k (hoA js as) h
        refine ⟨_, rfl, w, _, 0, _, rfl, rfl, SqL.of W2.w, rfl, _, rfl, r, _, 0, _, rfl, rfl, SqL.of hr2, rfl, lj, _, _, _, rfl, rfl, SqL.of W2.j, atI_nat (map_ref erj), rj, _, 0, _, rfl, rfl, SqL.of hrj, rfl, _, rfl, rfl, _, rfl, ?_⟩
        by_cases e : j.h = h
        · refine iteTd (congrArg V.str e) ⟨_, rfl, r, _, 2, _, rfl, rfl, SqL.of hr2, rfl, _, rfl, (by show 2 ≤ sizeLine; decide), fun b nb => ?_⟩
          have hDb : (upd G3 b (.tup [.int x.o, .int (k : Nat)])) D = some (.lst us) := by rw [upd_ne (ne_of_none hDT nb)]; exact hDT
          refine ⟨us, hDb, small_line (by omega), same_mut (same_mut g2 (g2.free nb)) nD, _, upd_same, ?_⟩
          rw [items_succ, if_pos (eho.trans e), List.map_append]
          refine (prT.go fun c ys ec => ?_).snoc (k := (tiA as k, k)) ?_
          · rw [upd_ne (ne_of ec hDT (fun z => nomatch z)), upd_ne (ne_of_none ec nb)]
            exact ec
          · rw [upd_ne (fun z => by rw [z] at nb; rw [nb] at hDT; cases hDT), upd_same, eti]
        · refine iteFd (fun z => e (V.str.inj z)) ⟨g2, us, hDT, ?_⟩
          rw [items_succ, if_neg (fun z => e (eho.symm.trans z)), List.append_nil]
          exact prT
      rintro G1 ⟨g1, us, hD, pr⟩
      rw [List.length_map, W.ca.1] at pr
      obtain ⟨pe1, _, _⟩ := pr.each
      refine ⟨D, us, kp G1, rfl, SqL.of hD, pe1, fun ys pO srt stb npO => ?_⟩
      obtain ⟨SA, pA, pmA, srA⟩ := prs_sorted pr srt stb
      have g2 := g1.trans (same_upd (o := .lst ys) npO)
      have hO : (upd G1 pO (.lst ys)) pO = some (.lst ys) := upd_same
      have pA := pA.go (H' := upd G1 pO (.lst ys)) fun b zs e => (same_upd npO) _ _ e
      generalize upd G1 pO (.lst ys) = G2 at g2 hO pA ⊢
      have W2 := W1.same g2
      -- begins
      refine ⟨_, rfl, w, _, 0, _, rfl, rfl, SqL.of W2.w, rfl, lj, rs.map V.ref, rfl, SqL.of W2.j, fun D nD => ?_⟩
      refine lc_it (walk_enum (K := K) (a := lj) (xs := rs.map V.ref)) (fun k H' => Same G2 H' ∧ ∃ us, H' D = some (.lst us) ∧ Prs H' us ((itemsOf k (hoJ js) h).map fun j => (tiJ js j, j)))
        ⟨same_upd nD, [], upd_same, .nil⟩ (fun k H' _ h => SqL.of (h.1 _ _ W2.j)) ?_ ?_
      · rintro k v F1 F2 hk ⟨f1, us, hD, pr⟩ ⟨Tp, x1, x2, rfl, nT, rfl, e1, e2⟩
        obtain rfl : V.int (k : Nat) = x1 := Option.some.inj e1
        have e2 : (rs.map V.ref)[k]? = some x2 := e2
        rw [List.getElem?_map] at e2
        obtain ⟨r, hr1, rfl⟩ := Option.map_eq_some_iff.mp e2
        have hkj : k < js.length := by rw [← W.cj.1]; exact (List.getElem?_eq_some_iff.mp hr1).1
        have hx : js[k]? = some js[k] := List.getElem?_eq_getElem hkj
        generalize js[k] = j at hx
        have f2 : Same G2 (upd F1 Tp (.tup [.int (k : Nat), .ref r])) := same_mut f1 (f1.free nT)
        have hDT : (upd F1 Tp (.tup [.int (k : Nat), .ref r])) D = some (.lst us) := by rw [upd_ne (ne_of_none hD nT)]; exact hD
        have prT := pr.go (H' := upd F1 Tp (.tup [.int (k : Nat), .ref r])) fun b ys e => (same_upd nT) _ _ e
        refine ⟨Tp, _, rfl, SqT.of upd_same, rfl, _, _, rfl, _, _, rfl, rfl, rfl, ?_⟩
        generalize upd F1 Tp (.tup [.int (k : Nat), .ref r]) = F3 at f2 hDT prT ⊢
        have hr2 := (W2.same f2).cj.2 k r j hr1 hx
        have eho : hoJ js k = j.h := by unfold hoJ; rw [hx]
        have eti : tiJ js k = j.b := by unfold tiJ; rw [hx]
        have l1 := prT.len
        rw [List.length_map] at l1
        have l2 := items_len k (hoJ js) h
        refine ⟨_, rfl, r, _, 0, _, rfl, rfl, SqL.of hr2, rfl, _, rfl, rfl, _, rfl, ?_⟩
        by_cases e : j.h = h
        · refine iteTd (congrArg V.str e) ⟨_, rfl, r, _, 1, _, rfl, rfl, SqL.of hr2, rfl, _, rfl, (by show 2 ≤ sizeLine; decide), fun b nb => ?_⟩
          have hDb : (upd F3 b (.tup [.int j.b, .int (k : Nat)])) D = some (.lst us) := by rw [upd_ne (ne_of_none hDT nb)]; exact hDT
          refine ⟨us, hDb, small_line (by omega), same_mut (same_mut f2 (f2.free nb)) nD, _, upd_same, ?_⟩
          rw [items_succ, if_pos (eho.trans e), List.map_append]
          refine (prT.go fun c ys ec => ?_).snoc (k := (tiJ js k, k)) ?_
          · rw [upd_ne (ne_of ec hDT (fun z => nomatch z)), upd_ne (ne_of_none ec nb)]
            exact ec
          · rw [upd_ne (fun z => by rw [z] at nb; rw [nb] at hDT; cases hDT), upd_same, eti]
        · refine iteFd (fun z => e (V.str.inj z)) ⟨f2, us, hDT, ?_⟩
          rw [items_succ, if_neg (fun z => e (eho.symm.trans z)), List.append_nil]
          exact prT
      rintro F1 ⟨f1, us, hD, pr⟩
      rw [List.length_map, W.cj.1] at pr
      obtain ⟨pe1, _, _⟩ := pr.each
      refine ⟨D, us, kp F1, rfl, SqL.of hD, pe1, fun zs pB srt stb npB => ?_⟩
      obtain ⟨SJ, pJ, pmJ, srJ⟩ := prs_sorted pr srt stb
      have f2 := f1.trans (same_upd (o := .lst zs) npB)
      have hB : (upd F1 pB (.lst zs)) pB = some (.lst zs) := upd_same
      have pJ := pJ.go (H' := upd F1 pB (.lst zs)) fun b ys e => (same_upd npB) _ _ e
      generalize upd F1 pB (.lst zs) = F2 at f2 hB pJ ⊢
      have gF := g2.trans f2
      have hO := f2 _ _ hO
      have pA := pA.go (H' := F2) fun b xs e => f2 _ _ e
      have hA := gF _ _ hA
      have hJ := gF _ _ hJ
      have nA := nA.go (H' := F2) fun b xs e => gF _ _ e
      have nJ := nJ.go (H' := F2) fun b xs e => gF _ _ e
      have sF := s1.trans gF
      have lA := pA.len
      rw [List.length_map] at lA
      have lA2 : SA.length ≤ 500 := by rw [pmA.length_eq]; exact Nat.le_trans (items_len _ _ _) lena
      have lJ := pJ.len
      rw [List.length_map] at lJ
      have lJ2 : SJ.length ≤ 500 := by rw [pmJ.length_eq]; exact Nat.le_trans (items_len _ _ _) lenj
      clear hD pr pe1 srt stb npB f1
      -- the asks
      refine ⟨_, rfl, pO, _, rfl, .inl (SqL.of hO), _, rfl, by omega, by omega, for_range (lo := 0) (n := ((ys.length : Int)).toNat) (fun n σ H' => (∃ v6 v7 v9 v10 v11 : Option V, σ = [some (.ref t), some (.ref w), some (.ref dA), some (.ref dJ), some (.str h), some (.ref pO), v6, v7, some (.ref pB), v9, v10, v11]) ∧ Kp dA F2 H' ∧ ∃ kA, H' dA = some (.dK kA) ∧ NumD H' as.length (hoA js as) (tiA as) (fun a => hoA js as a ∈ hs.take i ∨ (hoA js as a = h ∧ rk as.length (hoA js as) (tiA as) a < n)) kA)
        ⟨⟨_, _, _, _, _, rfl⟩, fun b o _ e => e, kA, hA, nA.iff fun a _ => ⟨fun z => .inl z, fun z => z.elim (fun z => z) fun z => absurd z.2 (Nat.not_lt_zero _)⟩⟩ ?_ ?_⟩
      · rintro n σ G hn ⟨⟨v6, v7, v9, v10, v11, rfl⟩, kG, kA2, hA2, nA2⟩
        rw [Int.toNat_natCast] at hn
        have hnS : n < SA.length := by omega
        have eS : SA[n]? = some SA[n] := List.getElem?_eq_getElem hnS
        generalize SA[n] = a at eS
        obtain ⟨a1, a2, a3⟩ := sorted_rank pmA srA eS
        obtain ⟨tq, etq, htq⟩ := pA.at (i := n) (k := (tiA as a, a)) (by rw [List.getElem?_map, eS]; rfl)
        have hOG : G pO = some (.lst ys) := kG _ _ (ne_of hO hA (fun z => nomatch z)) hO
        have htG := kG _ _ (ne_of htq hA (fun z => nomatch z)) htq
        refine ⟨_, rfl, _, rfl, (by show 2 ≤ sizeLine; decide), fun b nb => ?_⟩
        have sb : Same G (upd G b (.tup [.str h, .int (0 + (n : Nat))])) := same_upd nb
        have hbb : (upd G b (.tup [.str h, .int (0 + (n : Nat))])) b = some (.tup [.str (hoA js as a), .int (rk as.length (hoA js as) (tiA as) a : Nat)]) := by rw [upd_same, a2, a3, Int.zero_add]
        generalize upd G b (.tup [.str h, .int (0 + (n : Nat))]) = G2 at sb hbb ⊢
        have hk2 := nA2.len
        refine ⟨_, rfl, _, rfl, _, rfl, pO, _, _, .ref tq, rfl, rfl, SqL.of (sb _ _ hOG), at_any (j := n) (by omega) etq, tq, _, 1, _, rfl, rfl, SqT.of (sb _ _ htG), rfl, dA, _, rfl, DPut.k (k := Sum.inl (a : Int)) (sb _ _ hA2) (small_line (by omega)), ?_⟩
        have tup : ∀ c xs, G2 c = some (.tup xs) → (upd G2 dA (.dK (putK kA2 (Sum.inl (a : Int)) (.ref b)))) c = some (.tup xs) := fun c xs e => by
          rw [upd_ne (ne_of e (sb _ _ hA2) (fun z => nomatch z))]
          exact e
        refine ⟨⟨_, _, _, _, _, rfl⟩, fun c o nc e => by rw [upd_ne nc]; exact sb _ _ (kG c o nc e), _, upd_same, ?_⟩
        refine ((((nA2.go fun c xs e => sb _ _ e).put a1 hbb).go tup).iff fun x hx => ?_)
        constructor
        · rintro ((h1 | ⟨h1, h2⟩) | rfl)
          · exact .inl h1
          · exact .inr ⟨h1, by omega⟩
          · exact .inr ⟨a2, by omega⟩
        · rintro (h1 | ⟨h1, h2⟩)
          · exact .inl (.inl h1)
          · by_cases e : rk as.length (hoA js as) (tiA as) x = n
            · exact .inr (rk_inj hx a1 (h1.trans a2.symm) (e.trans a3.symm))
            · exact .inl (.inr ⟨h1, by omega⟩)
      rintro σ G ⟨⟨v6, v7, v9, v10, v11, rfl⟩, kG, kA2, hA2, nA2⟩
      rw [Int.toNat_natCast, lA] at nA2
      have nA3 : NumD G as.length (hoA js as) (tiA as) (fun a => hoA js as a ∈ hs.take (i + 1)) kA2 := nA2.iff fun a ha => by
        rw [take_snoc eh, List.mem_append, List.mem_singleton]
        constructor
        · exact fun z => z.elim .inl fun z => .inr z.1
        · refine fun z => z.elim .inl fun z => .inr ⟨z, ?_⟩
          rw [pmA.length_eq, ← z]
          exact rk_lt ha
      have hBG : G pB = some (.lst zs) := kG _ _ (ne_of hB hA (fun z => nomatch z)) hB
      have hJG : G dJ = some (.dK kJ) := kG _ _ (Ne.symm neAJ) hJ
      have nJG := nJ.go (H' := G) fun b xs e => kG _ _ (ne_of e hA (fun z => nomatch z)) e
      have pJG := pJ.go (H' := G) fun b xs e => kG _ _ (ne_of e hA (fun z => nomatch z)) e
      have sG : Same H G := fun b o e => kG b o (ne_of_none e ndA) (sF b o e)
      -- the jobs
      refine ⟨_, rfl, pB, _, rfl, .inl (SqL.of hBG), _, rfl, by omega, by omega, for_range (lo := 0) (n := ((zs.length : Int)).toNat) (fun n σ H' => (∃ v6 v7 v9 v10 v11 : Option V, σ = [some (.ref t), some (.ref w), some (.ref dA), some (.ref dJ), some (.str h), some (.ref pO), v6, v7, some (.ref pB), v9, v10, v11]) ∧ Kp dJ G H' ∧ ∃ kJ, H' dJ = some (.dK kJ) ∧ NumD H' js.length (hoJ js) (tiJ js) (fun a => hoJ js a ∈ hs.take i ∨ (hoJ js a = h ∧ rk js.length (hoJ js) (tiJ js) a < n)) kJ)
        ⟨⟨_, _, _, _, _, rfl⟩, fun b o _ e => e, kJ, hJG, nJG.iff fun a _ => ⟨fun z => .inl z, fun z => z.elim (fun z => z) fun z => absurd z.2 (Nat.not_lt_zero _)⟩⟩ ?_ ?_⟩
      · rintro n σ M hn ⟨⟨v6, v7, v9, v10, v11, rfl⟩, kM, kJ2, hJ2, nJ2⟩
        rw [Int.toNat_natCast] at hn
        have hnS : n < SJ.length := by omega
        have eS : SJ[n]? = some SJ[n] := List.getElem?_eq_getElem hnS
        generalize SJ[n] = a at eS
        obtain ⟨a1, a2, a3⟩ := sorted_rank pmJ srJ eS
        obtain ⟨tq, etq, htq⟩ := pJG.at (i := n) (k := (tiJ js a, a)) (by rw [List.getElem?_map, eS]; rfl)
        have hBM : M pB = some (.lst zs) := kM _ _ (ne_of hBG hJG (fun z => nomatch z)) hBG
        have htM := kM _ _ (ne_of htq hJG (fun z => nomatch z)) htq
        refine ⟨_, rfl, _, rfl, (by show 2 ≤ sizeLine; decide), fun b nb => ?_⟩
        have sb : Same M (upd M b (.tup [.str h, .int (0 + (n : Nat))])) := same_upd nb
        have hbb : (upd M b (.tup [.str h, .int (0 + (n : Nat))])) b = some (.tup [.str (hoJ js a), .int (rk js.length (hoJ js) (tiJ js) a : Nat)]) := by rw [upd_same, a2, a3, Int.zero_add]
        generalize upd M b (.tup [.str h, .int (0 + (n : Nat))]) = M2 at sb hbb ⊢
        have hk2 := nJ2.len
        refine ⟨_, rfl, _, rfl, _, rfl, pB, _, _, .ref tq, rfl, rfl, SqL.of (sb _ _ hBM), at_any (j := n) (by omega) etq, tq, _, 1, _, rfl, rfl, SqT.of (sb _ _ htM), rfl, dJ, _, rfl, DPut.k (k := Sum.inl (a : Int)) (sb _ _ hJ2) (small_line (by omega)), ?_⟩
        have tup : ∀ c xs, M2 c = some (.tup xs) → (upd M2 dJ (.dK (putK kJ2 (Sum.inl (a : Int)) (.ref b)))) c = some (.tup xs) := fun c xs e => by
          rw [upd_ne (ne_of e (sb _ _ hJ2) (fun z => nomatch z))]
          exact e
        refine ⟨⟨_, _, _, _, _, rfl⟩, fun c o nc e => by rw [upd_ne nc]; exact sb _ _ (kM c o nc e), _, upd_same, ?_⟩
        refine ((((nJ2.go fun c xs e => sb _ _ e).put a1 hbb).go tup).iff fun x hx => ?_)
        constructor
        · rintro ((h1 | ⟨h1, h2⟩) | rfl)
          · exact .inl h1
          · exact .inr ⟨h1, by omega⟩
          · exact .inr ⟨a2, by omega⟩
        · rintro (h1 | ⟨h1, h2⟩)
          · exact .inl (.inl h1)
          · by_cases e : rk js.length (hoJ js) (tiJ js) x = n
            · exact .inr (rk_inj hx a1 (h1.trans a2.symm) (e.trans a3.symm))
            · exact .inl (.inr ⟨h1, by omega⟩)
      rintro σ M ⟨⟨v6, v7, v9, v10, v11, rfl⟩, kM, kJ2, hJ2, nJ2⟩
      rw [Int.toNat_natCast, lJ] at nJ2
      refine ⟨⟨_, _, _, _, _, _, _, _, rfl⟩, fun b o e => kM b o (ne_of_none e ndJ0) (sG b o e), kA2, kJ2, kM _ _ neAJ hA2, hJ2, nA3.go fun b xs e => kM _ _ (ne_of e hJG (fun z => nomatch z)) e, nJ2.iff fun a ha => ?_⟩
      rw [take_snoc eh, List.mem_append, List.mem_singleton]
      constructor
      · exact fun z => z.elim .inl fun z => .inr z.1
      · refine fun z => z.elim .inl fun z => .inr ⟨z, ?_⟩
        rw [pmJ.length_eq, ← z]
        exact rk_lt ha
    · rintro σ H1 ⟨⟨v4, v5, v6, v7, v8, v9, v10, v11, rfl⟩, s1, kA, kJ, hA, hJ, nA, nJ⟩
      rw [List.length_map, List.take_length] at nA nJ
      refine ⟨_, rfl, _, rfl, (by show 2 ≤ sizeLine; decide), fun p np => ?_⟩
      have sp := same_upd (o := .tup [.ref dA, .ref dJ]) np
      exact q p dA dJ kA kJ _ (s1.trans sp) upd_same (sp _ _ hA) (sp _ _ hJ) ndA ndJ0 (nA.go fun b xs e => sp _ _ e) (nJ.go fun b xs e => sp _ _ e)
/-! ### the houses' first times -/
def BasI (b : Int) : Prop := -1000000000000 ≤ b ∧ b ≤ 1000000000000 - 4000
theorem merge_each {P : Key × V → Prop} : ∀ {more kvs : List (Key × V)}, (∀ x ∈ kvs, P x) → (∀ x ∈ more, P x) → ∀ x ∈ mergeK kvs more, P x
  | [], _, h, _, x, m => h x m
  | p :: r, kvs, h, h2, x, m => by
    refine merge_each (more := r) (kvs := putK kvs p.1 p.2) (fun y my => ?_) (fun y my => h2 y (List.mem_cons_of_mem _ my)) x m
    rcases put_mem my with ⟨my, _⟩ | rfl
    · exact h y my
    · exact h2 p List.mem_cons_self
theorem merge_keys : ∀ {more kvs : List (Key × V)} {k : Key}, k ∈ kvs.map (·.1) ∨ k ∈ more.map (·.1) → k ∈ (mergeK kvs more).map (·.1)
  | [], _, _, h => h.elim (fun z => z) fun z => nomatch z
  | p :: r, kvs, k, h => by
    refine merge_keys (more := r) (kvs := putK kvs p.1 p.2) ?_
    rcases h with h | h
    · refine .inl ?_
      rw [put_keys]
      exact List.mem_append_left _ h
    · rcases List.mem_cons.mp h with rfl | h
      · exact .inl (List.mem_map.mpr ⟨_, put_self kvs p.1 p.2, rfl⟩)
      · exact .inr h
/-! a dict from the houses to ints -/
def BasD (hs : List Str) (bs : Str → Int) (kvs : List (Key × V)) : Prop := ∀ h ∈ hs, valV kvs (.inr h) = some (.int (bs h)) ∧ BasI (bs h)
def basOf (kvs : List (Key × V)) (h : Str) : Int := match valV kvs (.inr h) with
  | some (.int n) => n
  | _ => 0
inductive Pkv (H : Hp) : List Addr → List (Key × V) → Prop
  | nil : Pkv H [] []
  | cons {p : Addr} {kv : Key × V} {ps : List Addr} {kvs : List (Key × V)} : H p = some (.tup [kV kv.1, kv.2]) → Pkv H ps kvs → Pkv H (p :: ps) (kv :: kvs)
theorem Pkv.go {H H' : Hp} (s : ∀ b xs, H b = some (.tup xs) → H' b = some (.tup xs)) : ∀ {us : List Addr} {ks : List (Key × V)}, Pkv H us ks → Pkv H' us ks
  | _, _, .nil => .nil
  | _, _, .cons h r => .cons (s _ _ h) (r.go s)
theorem Pkv.snoc {H : Hp} {b : Addr} {k : Key × V} (hb : H b = some (.tup [kV k.1, k.2])) : ∀ {us : List Addr} {ks : List (Key × V)}, Pkv H us ks → Pkv H (us ++ [b]) (ks ++ [k])
  | _, _, .nil => .cons hb .nil
  | _, _, .cons h r => .cons h (r.snoc hb)
theorem Pkv.len {H : Hp} : ∀ {us : List Addr} {ks : List (Key × V)}, Pkv H us ks → us.length = ks.length
  | _, _, .nil => rfl
  | _, _, .cons _ r => by rw [List.length_cons, List.length_cons, r.len]
theorem Pkv.pair {H : Hp} : ∀ {us : List Addr} {ks : List (Key × V)}, Pkv H us ks → Paired (fun p kv => SqT K H p [kV kv.1, kv.2]) us ks
  | _, _, .nil => .nil
  | _, _, .cons h r => .cons (SqT.of h) r.pair
def sp_bases : Sp := fun vs H Q _ => ∃ (p c t : Addr) (hs gs : List Str) (many : Int), vs = [.ref p, .ref t, .int many] ∧ Pen H p c ∧ TownAt H t hs gs ∧ hs.length ≤ 6 ∧ 0 < many ∧ many ≤ 1000 ∧
  ∀ (d : Addr) (bs : Str → Int) (kvs : List (Key × V)) (H' : Hp), Stp p c H H' → H d = none → H' d = some (.dK kvs) → BasD hs bs kvs → (∃ b0 : Int, ∀ h ∈ hs, b0 ≤ bs h ∧ bs h < b0 + many) → Q (.ref d) H'
theorem ok_l_bases (T : Txt K mg af fd) : FnOk P w K mg base CX0 3 (af 48) (fd 48) ["pen", "town", "many"] sp_bases := by
  refine T.F_l_bases.ok sc_l_bases (fun vs H Q E h => ?_) (fun cdv A outer s H vs Q E hr h => ?_)
  · obtain ⟨p, c, t, hs, gs, many, rfl, _⟩ := h
    rfl
  · obtain ⟨p, c, t, hs, gs, many, rfl, hP, ht, l6, m0, m1, q⟩ := h
    refine ⟨_, (pss_cons (ps_set (i := 3) sc_l_bases.nd rfl (by first | exact Or.inl rfl | exact Or.inr rfl) (pe_ix ix_list (pe_lst (pa_cons pe_int (pa_cons (pe_un un_neg pe_int) (pa_cons (pe_op op_sub (pe_op op_pow pe_int pe_int) pe_int) (pa_cons (pe_op op_sub pe_int (pe_op op_pow pe_int pe_int)) pa_nil))))) (pe_call (ok_l_take T) (hr.mono (by first | decide | omega)) (by rfl) T.g_l_take T.F_l_take.kp T.b_l_take .nil pass0 (pa_cons (pv 0) (pa_cons pe_int pa_nil))) (fun _ _ => rfl)))
        (pss_one (ps_ret (pe_callTy (call_dictP rfl) (by rfl) T.m_dict (by decide +kernel) (pa_cons (pe_lc (own := [("house", 4)]) (g := gName 4) (by rfl) sc_l_bases.nd (pi_tup (pe_ix ix_tup (pv 1) pe_int (fun _ _ => rfl))) (blkOk_by (own := [("house", 4)]) (N := ["pen", "town", "many", "base", "house"]) (sc := defScope s_l_bases) (by decide +kernel)) (fun _ _ _ _ _ => pg_name (i := 4) sc_l_bases.nd rfl (Or.inl rfl)) (fun _ _ _ _ _ => pts_nil) (fun _ _ _ _ _ => (pe_tup (pa_cons (pv 4) (pa_cons (pe_op op_add (pv 3) (pe_call (ok_l_take T) (hr.mono (by first | decide | omega)) (by rfl) T.g_l_take T.F_l_take.kp T.b_l_take .nil pass0 (pa_cons (pv 0) (pa_cons (pv 2) pa_nil)))) pa_nil))))) pa_nil))))), ?_⟩
    have e12 : (10 : Int) ^ (12 : Int).toNat = 1000000000000 := by decide
    refine ⟨_, rfl, _, _, rfl, rfl, ⟨by decide, by decide, by decide⟩, _, _, rfl, rfl, _, _, rfl, rfl, ⟨by decide, by decide, by decide⟩, _, _, rfl, rfl, (by show 4 ≤ sizeLine; decide), fun l nl => ?_⟩
    rw [e12]
    have s1 := (Stp.refl hP).new (o := .lst [.int 0, .int (-7), .int (1000000000000 - 5000), .int (0 - 1000000000000)]) hP nl
    have nlp : l ≠ p := fun e => hP.neP nl e.symm
    refine ⟨_, rfl, p, c, 4, rfl, s1.1, by decide, by decide, fun z H2 z0 z1 s2 => ?_⟩
    have hl2 := s2.2 l _ nlp upd_same
    obtain ⟨b0, eb, b1, b2⟩ : ∃ b0 : Int, atI [V.int 0, .int (-7), .int (1000000000000 - 5000), .int (0 - 1000000000000)] z = some (.int b0) ∧ -1000000000000 ≤ b0 ∧ b0 ≤ 1000000000000 - 5000 := by
      have hz : z = 0 ∨ z = 1 ∨ z = 2 ∨ z = 3 := by omega
      rcases hz with rfl | rfl | rfl | rfl
      · exact ⟨_, rfl, by decide, by decide⟩
      · exact ⟨_, rfl, by decide, by decide⟩
      · exact ⟨_, rfl, by decide, by decide⟩
      · exact ⟨_, rfl, by decide, by decide⟩
    refine ⟨l, _, z, _, rfl, rfl, SqL.of hl2, eb, ?_⟩
    have s12 := s1.trans s2
    obtain ⟨ta, tb, t1, t2, t3⟩ := s12.town hP ht
    refine ⟨_, rfl, t, _, 0, _, rfl, rfl, SqT.of t1, rfl, ta, rfl, ⟨_, SqT.of t2⟩, fun D nD => ?_⟩
    have nD0 := s12.back hP nD
    have nDp : D ≠ p := fun e => hP.neP nD0 e.symm
    refine lc_it (walk_tup (K := K) (a := ta) (xs := hs.map V.str)) (fun i H' => Stp p c H2 H' ∧ ∃ (us : List Addr) (kvs : List (Key × V)), H' D = some (.lst (us.map V.ref)) ∧ Pkv H' us kvs ∧ kvs.map (·.1) = (hs.take i).map Sum.inr ∧ ∀ kv ∈ kvs, ∃ n : Int, kv.2 = .int n ∧ BasI n ∧ b0 ≤ n ∧ n < b0 + many)
      ⟨(Stp.refl s2.1).new s2.1 nD, [], [], upd_same, .nil, by rw [List.take_zero]; rfl, fun _ m => nomatch m⟩ (fun i H' _ h => SqT.of (h.1.tup s2.1 t2)) ?_ ?_
    · rintro i v G1 G2 hi ⟨g1, us, kvs, hD, pk, ek, hb⟩ ⟨rfl, ev⟩
      rw [List.length_map] at hi
      have eh : hs[i]? = some hs[i] := List.getElem?_eq_getElem hi
      generalize hs[i] = h at eh
      rw [List.getElem?_map, eh] at ev
      obtain rfl : V.str h = v := Option.some.inj ev
      refine ⟨rfl, yes_if ⟨_, rfl, _, rfl, _, rfl, _, rfl, p, c, many, rfl, g1.1, m0, Nat.lt_of_le_of_lt (show many.natAbs ≤ 1000 by omega) (by decide), fun r G3 r0 r1 g3 => ⟨_, _, rfl, rfl, (by show 2 ≤ sizeLine; decide), fun b nb => ?_⟩⟩⟩
      have g13 := g1.trans g3
      have hD3 := g3.2 D _ nDp hD
      have hDb : (upd G3 b (.tup [.str h, .int (b0 + r)])) D = some (.lst (us.map V.ref)) := by rw [upd_ne (ne_of_none hD3 nb)]; exact hD3
      have l1 := pk.len
      have l2 : kvs.length ≤ 6 := by
        have := congrArg List.length ek
        rw [List.length_map, List.length_map, List.length_take] at this
        omega
      refine ⟨_, hDb, small_line (by rw [List.length_map]; omega), ((g13.new s2.1 nb).mut s2.1 nD), us ++ [b], kvs ++ [(.inr h, .int (b0 + r))], by rw [upd_same, List.map_append]; rfl, ?_, ?_, fun kv m => ?_⟩
      · refine (pk.go fun c ys e => ?_).snoc ?_
        · have e3 := g3.tup g1.1 e
          rw [upd_ne (ne_of e3 hD3 (fun z => nomatch z)), upd_ne (ne_of_none e3 nb)]
          exact e3
        · rw [upd_ne (fun z => by rw [z] at nb; rw [nb] at hD3; cases hD3), upd_same]
          rfl
      · rw [List.map_append, ek, take_snoc eh, List.map_append]
        rfl
      · rcases List.mem_append.mp m with m | m
        · exact hb kv m
        · rw [List.mem_singleton.mp m]
          exact ⟨_, rfl, by unfold BasI; omega, by omega, by omega⟩
    · rintro G ⟨g, us, kvs, hD, pk, ek, hb⟩
      rw [List.length_map, List.take_length] at ek
      refine ⟨D, us, kvs, rfl, SqL.of hD, pk.pair, fun d nd => ?_⟩
      have sG := s12.trans g
      have key : ∀ h ∈ hs, valV (mergeK [] kvs) (.inr h : Key) = some (.int (basOf (mergeK [] kvs) h)) ∧ BasI (basOf (mergeK [] kvs) h) ∧ b0 ≤ basOf (mergeK [] kvs) h ∧ basOf (mergeK [] kvs) h < b0 + many := fun h mh => by
        have mk : (.inr h : Key) ∈ (mergeK [] kvs).map (·.1) := merge_keys (.inr (by rw [ek]; exact List.mem_map.mpr ⟨h, mh, rfl⟩))
        cases e : valV (mergeK [] kvs) (.inr h : Key) with
        | none =>
          obtain ⟨x, mx, ex⟩ := List.mem_map.mp mk
          exact absurd (show ((.inr h : Key), x.2) ∈ mergeK [] kvs by rw [← ex]; exact mx) (val_none e _)
        | some v =>
          obtain ⟨n, e1, e2⟩ := merge_each (P := fun kv => ∃ n : Int, kv.2 = .int n ∧ BasI n ∧ b0 ≤ n ∧ n < b0 + many) (kvs := []) (fun _ m => nomatch m) hb _ (val_mem e)
          have e1 : v = .int n := e1
          subst e1
          have eb : basOf (mergeK [] kvs) h = n := by
            unfold basOf
            rw [e]
          rw [eb]
          exact ⟨rfl, e2⟩
      exact q d (basOf (mergeK [] kvs)) _ _ (sG.new hP nd) (sG.back hP nd) upd_same (fun h mh => ⟨(key h mh).1, (key h mh).2.1⟩) ⟨b0, fun h mh => (key h mh).2.2⟩
/-! ### the rows of a world -/
def rkJ (js : List WJ) (i : Nat) : Nat := rk js.length (hoJ js) (tiJ js) i
def rkA (js : List WJ) (as : List WA) (i : Nat) : Nat := rk as.length (hoA js as) (tiA as) i
def jobRow (js : List WJ) (bs : Str → Int) (i : Nat) : Row := match js[i]? with
  | some j => .job j.h (rkJ js i : Nat) (bs j.h + j.b) (bs j.h + j.e)
  | none => .all "" 0 0
def askRow (js : List WJ) (as : List WA) (bs : Str → Int) (i : Nat) : Row := match as[i]? with
  | some x => .ask (hoA js as i) x.g (rkA js as i : Nat) (rkJ js x.pl : Nat) (bs (hoA js as i) + x.o) (bs (hoA js as i) + x.k)
  | none => .all "" 0 0
def allRow (js : List WJ) (as : List WA) (h : Str) : Row := .all h ((itemsOf as.length (hoA js as) h).length : Nat) ((itemsOf js.length (hoJ js) h).length : Nat)
def wRows (hs : List Str) (js : List WJ) (as : List WA) (bs : Str → Int) : List Row := ((List.range js.length).map (jobRow js bs) ++ (List.range as.length).map (askRow js as bs)) ++ hs.map (allRow js as)
theorem Rws.go {H H' : Hp} {xs : List V} {rs : List Row} (h : Rws H xs rs) (s : ∀ b ys, H b = some (.tup ys) → H' b = some (.tup ys)) : Rws H' xs rs := ⟨h.1, fun i r e => let ⟨a, e1, e2⟩ := h.2 i r e; ⟨a, e1, s _ _ e2⟩⟩
theorem Rws.snoc {H : Hp} {xs : List V} {rs : List Row} {b : Addr} {r : Row} (h : Rws H xs rs) (hb : RowAt H b r) : Rws H (xs ++ [.ref b]) (rs ++ [r]) := by
  refine ⟨by rw [List.length_append, List.length_append, h.1]; rfl, fun i t e => ?_⟩
  by_cases hi : i < rs.length
  · rw [List.getElem?_append_left hi] at e
    obtain ⟨a, e1, e2⟩ := h.2 i t e
    exact ⟨a, by rw [List.getElem?_append_left (by rw [h.1]; exact hi)]; exact e1, e2⟩
  · have hl := (List.getElem?_eq_some_iff.mp e).1
    rw [List.length_append, List.length_singleton] at hl
    have ei : i = rs.length := by omega
    subst ei
    rw [List.getElem?_append_right (Nat.le_refl _), Nat.sub_self] at e
    obtain rfl := Option.some.inj e
    exact ⟨b, by rw [List.getElem?_append_right (by rw [h.1]; exact Nat.le_refl _), h.1, Nat.sub_self]; rfl, hb⟩
def keyN (k : Key) : Nat := match k with
  | .inl z => z.toNat
  | _ => 0
/-! how many places of a house a dict holds -/
theorem num_count {H : Hp} {N : Nat} {ho : Nat → Str} {ti : Nat → Int} {done : Nat → Prop} {kvs : List (Key × V)} (d : NumD H N ho ti done kvs) (hd : ∀ a, a < N → done a) (h : Str) : (kvs.filter fun kv => decide (ho (keyN kv.1) = h)).length = (itemsOf N ho h).length := by
  have hk : ∀ kv ∈ kvs, ∃ a, kv.1 = .inl ((a : Nat) : Int) ∧ a < N := fun kv m => let ⟨a, _, e1, e2, _⟩ := d.own kv m; ⟨a, e1, e2⟩
  have nd : ((kvs.filter fun kv => decide (ho (keyN kv.1) = h)).map fun kv => keyN kv.1).Nodup := by
    have n1 : ((kvs.filter fun kv => decide (ho (keyN kv.1) = h)).map (·.1)).Nodup := d.nd.sublist (List.filter_sublist.map _)
    rw [List.nodup_iff_pairwise_ne, List.pairwise_map] at n1 ⊢
    refine List.Pairwise.imp_of_mem (fun {x y} mx my ne z => ne ?_) n1
    obtain ⟨a, ea, _⟩ := hk x (List.mem_filter.mp mx).1
    obtain ⟨b, eb, _⟩ := hk y (List.mem_filter.mp my).1
    rw [ea, eb] at z ⊢
    have z : a = b := z
    rw [z]
  refine Nat.le_antisymm ?_ ?_
  · have := nodup_len nd (ys := itemsOf N ho h) fun a m => by
      obtain ⟨kv, mk, rfl⟩ := List.mem_map.mp m
      obtain ⟨m1, m2⟩ := List.mem_filter.mp mk
      obtain ⟨a, ea, la⟩ := hk kv m1
      have e : keyN kv.1 = a := by rw [ea]; rfl
      rw [e] at m2 ⊢
      exact mem_items.mpr ⟨la, of_decide_eq_true m2⟩
    rw [List.length_map] at this
    exact this
  · have n2 : (itemsOf N ho h).Nodup := List.nodup_range.sublist List.filter_sublist
    have := nodup_len n2 (ys := (kvs.filter fun kv => decide (ho (keyN kv.1) = h)).map fun kv => keyN kv.1) fun a m => by
      obtain ⟨la, ea⟩ := mem_items.mp m
      obtain ⟨v, mv⟩ := d.all a la (hd a la)
      exact List.mem_map.mpr ⟨_, List.mem_filter.mpr ⟨mv, decide_eq_true ea⟩, rfl⟩
    rw [List.length_map] at this
    exact this
def sp_all_rows : Sp := fun vs H Q _ => ∃ (t w d lj la : Addr) (hs gs : List Str) (rs qs : List Addr) (js : List WJ) (as : List WA) (most : Int) (bs : Str → Int) (kB : List (Key × V)), vs = [.ref t, .ref w, .ref d] ∧ TownAt H t hs gs ∧ WorldAt H w lj la rs qs js as most ∧ WOk hs js as ∧ js.length ≤ 100 ∧ hs.length ≤ 6 ∧ H d = some (.dK kB) ∧ BasD hs bs kB ∧
  ∀ (l : Addr) (us : List V) (H' : Hp), Same H H' → H l = none → H' l = some (.lst us) → Rws H' us (wRows hs js as bs) → Q (.ref l) H'
theorem snoc_step {l b : Addr} {H G : Hp} {us : List V} {rs : List Row} {r : Row} (g : Same H G) (nl : H l = none) (hl : G l = some (.lst us)) (hr : Rws G us rs) (hb : RowAt G b r) : Same H (upd G l (.lst (us ++ [.ref b]))) ∧ (upd G l (.lst (us ++ [.ref b]))) l = some (.lst (us ++ [.ref b])) ∧ Rws (upd G l (.lst (us ++ [.ref b]))) (us ++ [.ref b]) (rs ++ [r]) :=
  ⟨same_mut g nl, upd_same, (hr.snoc hb).go fun c ys e => by rw [upd_ne (ne_of e hl (fun z => nomatch z))]; exact e⟩
theorem wok_ho {hs : List Str} {js : List WJ} {as : List WA} (h : WOk hs js as) : (∀ a, a < js.length → hoJ js a ∈ hs) ∧ ∀ a, a < as.length → hoA js as a ∈ hs := by
  have h1 : ∀ a, a < js.length → hoJ js a ∈ hs := fun a ha => by
    unfold hoJ
    rw [List.getElem?_eq_getElem ha]
    exact (h.jb _ (List.getElem_mem ha)).1
  refine ⟨h1, fun a ha => ?_⟩
  unfold hoA
  rw [List.getElem?_eq_getElem ha]
  obtain ⟨j, ej, _⟩ := (h.ab _ (List.getElem_mem ha)).par
  exact h1 _ (List.getElem?_eq_some_iff.mp ej).1
theorem rws_nil {H : Hp} : Rws H [] [] := ⟨rfl, fun i r e => by rw [List.getElem?_nil] at e; cases e⟩
theorem range_snoc {A : Type} (f : Nat → A) (k : Nat) : (List.range (k + 1)).map f = (List.range k).map f ++ [f k] := by
  rw [List.range_succ, List.map_append]
  rfl
def Slots (t w d dA dJ l : Addr) (σ : L2.St) : Prop := ∃ v6 v7 v8 v9 v10 v11 v12 v13 v14 v15 v16 : Option V, σ = [some (.ref t), some (.ref w), some (.ref d), some (.ref dA), some (.ref dJ), some (.ref l), v6, v7, v8, v9, v10, v11, v12, v13, v14, v15, v16]
theorem frz_get {H : Hp} {a : Addr} {od : Obj} {kvs : List (Key × V)} {k : Key} (h : H a = some (.frz od (.dK kvs))) : DGet H a (kV k) (valV kvs k) := .inl ⟨kvs, k, .inr ⟨od, h⟩, rfl, rfl⟩
set_option maxHeartbeats 16000000 in
theorem ok_l_all_rows (T : Txt K mg af fd) : FnOk P w K mg base CX0 2 (af 49) (fd 49) ["town", "world", "bases"] sp_all_rows := by
  refine T.F_l_all_rows.ok sc_l_all_rows (fun vs H Q E h => ?_) (fun cdv A outer s H vs Q E hr h => ?_)
  · obtain ⟨t, w, d, lj, la, hs, gs, rs, qs, js, as, most, bs, kB, rfl, _⟩ := h
    rfl
  · obtain ⟨t, w, d, lj, la, hs, gs, rs, qs, js, as, most, bs, kB, rfl, ht, W, wok, lenj, h6, hd, hbd, q⟩ := h
    refine ⟨_, (pss_cons (ps_asg (pe_call (ok_l_called T) (hr.mono (by first | decide | omega)) (by rfl) T.g_l_called T.F_l_called.kp T.b_l_called .nil pass0 (pa_cons (pv 0) (pa_cons (pv 1) pa_nil))) (pg_tup rfl (pgs_cons (pg_name (i := 3) sc_l_all_rows.nd rfl (by first | exact Or.inl rfl | exact Or.inr rfl)) (pgs_cons (pg_name (i := 4) sc_l_all_rows.nd rfl (by first | exact Or.inl rfl | exact Or.inr rfl)) pgs_nil))))
        (pss_cons (ps_set (i := 5) sc_l_all_rows.nd rfl (by first | exact Or.inl rfl | exact Or.inr rfl) (pe_lst pa_nil))
        (pss_cons (ps_for PassesOwn.never rfl (pi_enum (by rfl) T.m_enumerate (pa_cons (pe_ix ix_list (pv 1) pe_int (fun _ _ => rfl)) pa_nil)) (pg_tup rfl (pgs_cons (pg_name (i := 6) sc_l_all_rows.nd rfl (by first | exact Or.inl rfl | exact Or.inr rfl)) (pgs_cons (pg_unl rfl (pgs_cons (pg_name (i := 7) sc_l_all_rows.nd rfl (by first | exact Or.inl rfl | exact Or.inr rfl)) (pgs_cons (pg_name (i := 8) sc_l_all_rows.nd rfl (by first | exact Or.inl rfl | exact Or.inr rfl)) (pgs_cons (pg_name (i := 9) sc_l_all_rows.nd rfl (by first | exact Or.inl rfl | exact Or.inr rfl)) pgs_nil)))) pgs_nil))) (pss_one (ps_expr (pe_bm PySem.F.plainAttrs_list PySem.F.slot_list_append PySem.F.type_list_append mt_append (pv 5) (pa_cons (pe_op op_catT (pe_op op_catT (pe_tup (pa_cons pe_str pa_nil)) (pe_dget (hu_of hr) (pv 4) (pv 6) (fun _ _ => rfl))) (pe_tup (pa_cons (pe_op op_add (pe_dget (hu_of hr) (pv 2) (pv 7) (fun _ _ => rfl)) (pv 8)) (pa_cons (pe_op op_add (pe_dget (hu_of hr) (pv 2) (pv 7) (fun _ _ => rfl)) (pv 9)) pa_nil)))) pa_nil)))))
        (pss_cons (ps_for PassesOwn.never rfl (pi_enum (by rfl) T.m_enumerate (pa_cons (pe_ix ix_list (pv 1) pe_int (fun _ _ => rfl)) pa_nil)) (pg_tup rfl (pgs_cons (pg_name (i := 10) sc_l_all_rows.nd rfl (by first | exact Or.inl rfl | exact Or.inr rfl)) (pgs_cons (pg_unl rfl (pgs_cons (pg_name (i := 6) sc_l_all_rows.nd rfl (by first | exact Or.inl rfl | exact Or.inr rfl)) (pgs_cons (pg_name (i := 11) sc_l_all_rows.nd rfl (by first | exact Or.inl rfl | exact Or.inr rfl)) (pgs_cons (pg_name (i := 12) sc_l_all_rows.nd rfl (by first | exact Or.inl rfl | exact Or.inr rfl)) (pgs_cons (pg_name (i := 13) sc_l_all_rows.nd rfl (by first | exact Or.inl rfl | exact Or.inr rfl)) (pgs_cons (pg_name (i := 14) sc_l_all_rows.nd rfl (by first | exact Or.inl rfl | exact Or.inr rfl)) pgs_nil)))))) pgs_nil))) (pss_cons (ps_asg (pe_dget (hu_of hr) (pv 3) (pv 10) (fun _ _ => rfl)) (pg_tup rfl (pgs_cons (pg_name (i := 7) sc_l_all_rows.nd rfl (by first | exact Or.inl rfl | exact Or.inr rfl)) (pgs_cons (pg_name (i := 15) sc_l_all_rows.nd rfl (by first | exact Or.inl rfl | exact Or.inr rfl)) pgs_nil))))
        (pss_one (ps_expr (pe_bm PySem.F.plainAttrs_list PySem.F.slot_list_append PySem.F.type_list_append mt_append (pv 5) (pa_cons (pe_tup (pa_cons pe_str (pa_cons (pv 7) (pa_cons (pv 15) (pa_cons (pe_ix ix_tup (pe_dget (hu_of hr) (pv 4) (pv 6) (fun _ _ => rfl)) pe_int (fun _ _ => rfl)) (pa_cons (pv 11) (pa_cons (pe_op op_add (pe_dget (hu_of hr) (pv 2) (pv 7) (fun _ _ => rfl)) (pv 12)) (pa_cons (pe_op op_add (pe_dget (hu_of hr) (pv 2) (pv 7) (fun _ _ => rfl)) (pv 13)) pa_nil)))))))) pa_nil))))))
        (pss_cons (ps_for PassesOwn.never rfl (pi_tup (pe_ix ix_tup (pv 0) pe_int (fun _ _ => rfl))) (pg_name (i := 7) sc_l_all_rows.nd rfl (by first | exact Or.inl rfl | exact Or.inr rfl)) (pss_cons (ps_set (i := 16) sc_l_all_rows.nd rfl (by first | exact Or.inl rfl | exact Or.inr rfl) (pe_callB call_len_seq (by rfl) T.m_len (by decide +kernel) (pa_cons (pe_lock (pe_lc (own := [("at", 10)]) (g := gName 10) (by rfl) sc_l_all_rows.nd (pi_keys (pv 3)) (blkOk_by (own := [("at", 10)]) (N := ["town", "world", "bases", "asks", "jobs", "rows", "place", "house", "begin", "end", "at", "goal", "out", "back", "child", "number", "many"]) (sc := defScope s_l_all_rows) (by decide +kernel)) (fun _ _ _ _ _ => pg_name (i := 10) sc_l_all_rows.nd rfl (Or.inl rfl)) (fun _ _ _ _ _ => (pts_one (pt_cmpR op_eq (pe_ix (show IxR _ (rIxT K) from ix_tup) (pe_dget (hu_of hr) (pv 3) (pv 10) (fun _ _ => rfl)) pe_int (fun _ _ => rfl)) (pv 7) (nomark _)))) (fun _ _ _ _ _ => (pv 10)))) pa_nil)))
        (pss_one (ps_expr (pe_bm PySem.F.plainAttrs_list PySem.F.slot_list_append PySem.F.type_list_append mt_append (pv 5) (pa_cons (pe_tup (pa_cons pe_str (pa_cons (pv 7) (pa_cons (pv 16) (pa_cons (pe_callB call_len_seq (by rfl) T.m_len (by decide +kernel) (pa_cons (pe_lock (pe_lc (own := [("place", 6)]) (g := gName 6) (by rfl) sc_l_all_rows.nd (pi_keys (pv 4)) (blkOk_by (own := [("place", 6)]) (N := ["town", "world", "bases", "asks", "jobs", "rows", "place", "house", "begin", "end", "at", "goal", "out", "back", "child", "number", "many"]) (sc := defScope s_l_all_rows) (by decide +kernel)) (fun _ _ _ _ _ => pg_name (i := 6) sc_l_all_rows.nd rfl (Or.inl rfl)) (fun _ _ _ _ _ => (pts_one (pt_cmpR op_eq (pe_ix (show IxR _ (rIxT K) from ix_tup) (pe_dget (hu_of hr) (pv 4) (pv 6) (fun _ _ => rfl)) pe_int (fun _ _ => rfl)) (pv 7) (nomark _)))) (fun _ _ _ _ _ => (pv 6)))) pa_nil)) pa_nil))))) pa_nil))))))
        (pss_one (ps_ret (pv 5)))))))), ?_⟩
    have lena : as.length ≤ 100 := Nat.le_trans wok.len lenj
    obtain ⟨hoj, hoa⟩ := wok_ho wok
    refine ⟨_, rfl, _, rfl, t, w, lj, la, hs, gs, rs, qs, js, as, most, rfl, ht, W, by omega, by omega, fun p dA dJ kA kJ H1 s1 hp hA hJ ndA ndJ nA nJ => ?_⟩
    refine ⟨p, _, rfl, SqT.of hp, rfl, _, _, rfl, _, _, rfl, rfl, ?_⟩
    refine ⟨Nat.zero_le _, fun l nl1 => ?_⟩
    have nl : H l = none := s1.free nl1
    have s2 : Same H1 (upd H1 l (.lst [])) := same_upd nl1
    have hl2 : (upd H1 l (.lst [])) l = some (.lst []) := upd_same
    generalize upd H1 l (.lst []) = H2 at s2 hl2 ⊢
    have W1 := W.same s1
    have hd1 := s1 _ _ hd
    have ht1 := ht.same' s1
    -- jobs
    refine ⟨_, rfl, w, _, 0, _, rfl, rfl, SqL.of (s2 _ _ W1.w), rfl, lj, rs.map V.ref, rfl, SqL.of (s2 _ _ W1.j), ?_⟩
    refine for_it (walk_enum (K := K) (a := lj) (xs := rs.map V.ref)) (fun k σ H' => Slots t w d dA dJ l σ ∧ Same H1 H' ∧ ∃ us, H' l = some (.lst us) ∧ Rws H' us ((List.range k).map (jobRow js bs)))
      ⟨⟨none, none, none, none, none, none, none, none, none, none, none, rfl⟩, s2, [], hl2, rws_nil⟩ (fun k σ H' _ h => SqL.of (h.2.1 _ _ W1.j)) ?_ ?_
    · rintro k v σ G1 G2 hk ⟨⟨v6, v7, v8, v9, v10, v11, v12, v13, v14, v15, v16, rfl⟩, g1, us, hl, hrw⟩ ⟨Tp, x1, x2, rfl, nT, rfl, e1, e2⟩
      obtain rfl : V.int (k : Nat) = x1 := Option.some.inj e1
      have e2 : (rs.map V.ref)[k]? = some x2 := e2
      rw [List.getElem?_map] at e2
      obtain ⟨r, hr1, rfl⟩ := Option.map_eq_some_iff.mp e2
      have hkj : k < js.length := by rw [← W.cj.1]; exact (List.getElem?_eq_some_iff.mp hr1).1
      have hx : js[k]? = some js[k] := List.getElem?_eq_getElem hkj
      generalize js[k] = j at hx
      have sT : Same G1 (upd G1 Tp (.tup [.int (k : Nat), .ref r])) := same_upd nT
      have g3 := g1.trans sT
      have hl3 := sT _ _ hl
      have hrw3 := hrw.go (H' := upd G1 Tp (.tup [.int (k : Nat), .ref r])) fun b ys e => sT _ _ e
      have hT : (upd G1 Tp (.tup [.int (k : Nat), .ref r])) Tp = some (.tup [.int (k : Nat), .ref r]) := upd_same
      generalize upd G1 Tp (.tup [.int (k : Nat), .ref r]) = G3 at sT g3 hl3 hrw3 hT ⊢
      have hr3 := (W1.same g3).cj.2 k r j hr1 hx
      have eho : hoJ js k = j.h := by unfold hoJ; rw [hx]
      have hjh : j.h ∈ hs := by rw [← eho]; exact hoj k hkj
      obtain ⟨b, eb, hb⟩ := nJ.at hkj (hoj k hkj)
      rw [eho] at hb
      obtain ⟨bv1, bv2⟩ := hbd j.h hjh
      refine ⟨Tp, _, rfl, SqT.of hT, rfl, _, _, rfl, _, _, rfl, r, _, rfl, SqL.of hr3, rfl, _, _, rfl, _, _, rfl, _, _, rfl, rfl, rfl, ?_⟩
      refine ⟨_, rfl, .inl ⟨rfl, _, SqL.of hl3⟩, (by show 1 ≤ sizeLine; decide), fun c1 n1 => ?_⟩
      have u1 : Same G3 (upd G3 c1 (.tup [.str "job"])) := same_upd n1
      have hc1 : (upd G3 c1 (.tup [.str "job"])) c1 = some (.tup [.str "job"]) := upd_same
      generalize upd G3 c1 (.tup [.str "job"]) = G4 at u1 hc1 ⊢
      have g4 := g3.trans u1
      refine ⟨_, rfl, _, rfl, dJ, _, rfl, (by rw [← eb]; exact DGet.k (k := Sum.inl (k : Int)) (g4 _ _ hJ)), c1, b, _, _, rfl, rfl, SqT.of hc1, SqT.of (g4 _ _ hb), (fun z => nomatch z), (by show 3 ≤ sizeLine; decide), (fun z => nomatch z), fun _ c2 n2 => ?_⟩
      have u2 : Same G4 (upd G4 c2 (.tup ([.str "job"] ++ [.str j.h, .int (rk js.length (hoJ js) (tiJ js) k : Nat)]))) := same_upd n2
      have hc2 : (upd G4 c2 (.tup ([.str "job"] ++ [.str j.h, .int (rk js.length (hoJ js) (tiJ js) k : Nat)]))) c2 = some (.tup ([.str "job"] ++ [.str j.h, .int (rk js.length (hoJ js) (tiJ js) k : Nat)])) := upd_same
      generalize upd G4 c2 (.tup ([.str "job"] ++ [.str j.h, .int (rk js.length (hoJ js) (tiJ js) k : Nat)])) = G5 at u2 hc2 ⊢
      have g5 := g4.trans u2
      have dg := DGet.k (k := Sum.inr j.h) (g5 _ _ hd1)
      rw [bv1] at dg
      refine ⟨_, rfl, _, rfl, d, _, rfl, dg, _, rfl, _, _, rfl, rfl, _, rfl, _, rfl, d, _, rfl, dg, _, rfl, _, _, rfl, rfl, (by show 2 ≤ sizeLine; decide), fun c3 n3 => ?_⟩
      have u3 : Same G5 (upd G5 c3 (.tup [.int (bs j.h + j.b), .int (bs j.h + j.e)])) := same_upd n3
      have hc3 : (upd G5 c3 (.tup [.int (bs j.h + j.b), .int (bs j.h + j.e)])) c3 = some (.tup [.int (bs j.h + j.b), .int (bs j.h + j.e)]) := upd_same
      generalize upd G5 c3 (.tup [.int (bs j.h + j.b), .int (bs j.h + j.e)]) = G6 at u3 hc3 ⊢
      refine ⟨c2, c3, _, _, rfl, rfl, SqT.of (u3 _ _ hc2), SqT.of hc3, (fun z => nomatch z), (by show 5 ≤ sizeLine; decide), (fun z => nomatch z), fun _ c4 n4 => ?_⟩
      have u4 : Same G6 (upd G6 c4 (.tup (([.str "job"] ++ [.str j.h, .int (rk js.length (hoJ js) (tiJ js) k : Nat)]) ++ [.int (bs j.h + j.b), .int (bs j.h + j.e)]))) := same_upd n4
      have hc4 : (upd G6 c4 (.tup (([.str "job"] ++ [.str j.h, .int (rk js.length (hoJ js) (tiJ js) k : Nat)]) ++ [.int (bs j.h + j.b), .int (bs j.h + j.e)]))) c4 = _ := upd_same
      generalize upd G6 c4 (.tup (([.str "job"] ++ [.str j.h, .int (rk js.length (hoJ js) (tiJ js) k : Nat)]) ++ [.int (bs j.h + j.b), .int (bs j.h + j.e)])) = G7 at u4 hc4 ⊢
      have v := ((u1.trans u2).trans u3).trans u4
      have rw4 : RowAt G7 c4 (jobRow js bs k) := by
        show G7 c4 = some (.tup (jobRow js bs k).vals)
        rw [hc4]
        unfold jobRow
        rw [hx]
        rfl
      obtain ⟨z1, z2, z3⟩ := snoc_step (g3.trans v) nl1 (v _ _ hl3) (hrw3.go fun c ys e => v _ _ e) rw4
      have ll := hrw3.1
      rw [List.length_map, List.length_range] at ll
      refine ⟨l, _, _, rfl, rfl, v _ _ hl3, small_line (by omega), ⟨_, _, _, _, _, _, _, _, _, _, _, rfl⟩, z1, _, z2, ?_⟩
      rw [range_snoc]
      exact z3
    rintro σ G1 ⟨⟨v6, v7, v8, v9, v10, v11, v12, v13, v14, v15, v16, rfl⟩, g1, us1, hl1, hrw1⟩
    rw [List.length_map, W.cj.1] at hrw1
    -- asks
    refine ⟨_, rfl, w, _, 1, _, rfl, rfl, SqL.of (g1 _ _ W1.w), rfl, la, qs.map V.ref, rfl, SqL.of (g1 _ _ W1.a), ?_⟩
    refine for_it (walk_enum (K := K) (a := la) (xs := qs.map V.ref)) (fun k σ H' => Slots t w d dA dJ l σ ∧ Same H1 H' ∧ ∃ us, H' l = some (.lst us) ∧ Rws H' us ((List.range js.length).map (jobRow js bs) ++ (List.range k).map (askRow js as bs)))
      ⟨⟨_, _, _, _, _, _, _, _, _, _, _, rfl⟩, g1, us1, hl1, by rw [List.range_zero, List.map_nil, List.append_nil]; exact hrw1⟩ (fun k σ H' _ h => SqL.of (h.2.1 _ _ W1.a)) ?_ ?_
    · rintro k v σ G1 G2 hk ⟨⟨v6, v7, v8, v9, v10, v11, v12, v13, v14, v15, v16, rfl⟩, g1, us, hl, hrw⟩ ⟨Tp, x1, x2, rfl, nT, rfl, e1, e2⟩
      obtain rfl : V.int (k : Nat) = x1 := Option.some.inj e1
      have e2 : (qs.map V.ref)[k]? = some x2 := e2
      rw [List.getElem?_map] at e2
      obtain ⟨r, hr1, rfl⟩ := Option.map_eq_some_iff.mp e2
      have hka : k < as.length := by rw [← W.ca.1]; exact (List.getElem?_eq_some_iff.mp hr1).1
      have hx : as[k]? = some as[k] := List.getElem?_eq_getElem hka
      generalize as[k] = x at hx
      have sT : Same G1 (upd G1 Tp (.tup [.int (k : Nat), .ref r])) := same_upd nT
      have g3 := g1.trans sT
      have hl3 := sT _ _ hl
      have hrw3 := hrw.go (H' := upd G1 Tp (.tup [.int (k : Nat), .ref r])) fun b ys e => sT _ _ e
      have hT : (upd G1 Tp (.tup [.int (k : Nat), .ref r])) Tp = some (.tup [.int (k : Nat), .ref r]) := upd_same
      generalize upd G1 Tp (.tup [.int (k : Nat), .ref r]) = G3 at sT g3 hl3 hrw3 hT ⊢
      have hr3 := (W1.same g3).ca.2 k r x hr1 hx
      have hpl := W.pl x (List.mem_of_getElem? hx)
      obtain ⟨bj, ebj, hbj⟩ := nJ.at hpl (hoj x.pl hpl)
      obtain ⟨b, eb, hb⟩ := nA.at hka (hoa k hka)
      obtain ⟨bv1, bv2⟩ := hbd (hoA js as k) (hoa k hka)
      generalize eho : hoA js as k = ho at hb bv1
      refine ⟨Tp, _, rfl, SqT.of hT, rfl, _, _, rfl, _, _, rfl, r, _, rfl, SqL.of hr3, rfl, _, _, rfl, _, _, rfl, _, _, rfl, _, _, rfl, _, _, rfl, rfl, rfl, ?_⟩
      refine ⟨_, rfl, _, rfl, dA, _, rfl, (by rw [← eb]; exact DGet.k (k := Sum.inl (k : Int)) (g3 _ _ hA)), b, _, rfl, SqT.of (g3 _ _ hb), rfl, _, _, rfl, _, _, rfl, rfl, ?_⟩
      have dg := DGet.k (k := Sum.inr ho) (g3 _ _ hd1)
      rw [bv1] at dg
      refine ⟨_, rfl, .inl ⟨rfl, _, SqL.of hl3⟩, _, rfl, _, rfl, _, rfl, _, rfl, dJ, _, rfl, (by rw [← ebj]; exact DGet.k (k := Sum.inl (x.pl : Int)) (g3 _ _ hJ)), bj, _, 1, _, rfl, rfl, SqT.of (g3 _ _ hbj), rfl, _, rfl, _, rfl, _, rfl, d, _, rfl, dg, _, rfl, _, _, rfl, rfl, _, rfl, _, rfl, d, _, rfl, dg, _, rfl, _, _, rfl, rfl, (by show 7 ≤ sizeLine; decide), fun c4 n4 => ?_⟩
      have u4 : Same G3 (upd G3 c4 (.tup [.str "ask", .str ho, .int (rk as.length (hoA js as) (tiA as) k : Nat), .int (rk js.length (hoJ js) (tiJ js) x.pl : Nat), .str x.g, .int (bs ho + x.o), .int (bs ho + x.k)])) := same_upd n4
      have hc4 : (upd G3 c4 (.tup [.str "ask", .str ho, .int (rk as.length (hoA js as) (tiA as) k : Nat), .int (rk js.length (hoJ js) (tiJ js) x.pl : Nat), .str x.g, .int (bs ho + x.o), .int (bs ho + x.k)])) c4 = _ := upd_same
      generalize upd G3 c4 (.tup [.str "ask", .str ho, .int (rk as.length (hoA js as) (tiA as) k : Nat), .int (rk js.length (hoJ js) (tiJ js) x.pl : Nat), .str x.g, .int (bs ho + x.o), .int (bs ho + x.k)]) = G7 at u4 hc4 ⊢
      have rw4 : RowAt G7 c4 (askRow js as bs k) := by
        show G7 c4 = some (.tup (askRow js as bs k).vals)
        rw [hc4]
        unfold askRow
        rw [hx, eho]
        rfl
      obtain ⟨z1, z2, z3⟩ := snoc_step (g3.trans u4) nl1 (u4 _ _ hl3) (hrw3.go fun c ys e => u4 _ _ e) rw4
      have ll := hrw3.1
      rw [List.length_append, List.length_map, List.length_range, List.length_map, List.length_range] at ll
      refine ⟨l, _, _, rfl, rfl, u4 _ _ hl3, small_line (by omega), ⟨_, _, _, _, _, _, _, _, _, _, _, rfl⟩, z1, _, z2, ?_⟩
      rw [range_snoc, ← List.append_assoc]
      exact z3
    rintro σ G2 ⟨⟨v6, v7, v8, v9, v10, v11, v12, v13, v14, v15, v16, rfl⟩, g2, us2, hl2', hrw2⟩
    rw [List.length_map, W.ca.1] at hrw2
    -- the counts
    obtain ⟨ta, tb, t1, t2, t3⟩ := id ht1
    refine ⟨_, rfl, t, _, 0, _, rfl, rfl, SqT.of (g2 _ _ t1), rfl, ta, rfl, ⟨_, SqT.of (g2 _ _ t2)⟩, ?_⟩
    refine for_it (walk_tup (K := K) (a := ta) (xs := hs.map V.str)) (fun k σ H' => Slots t w d dA dJ l σ ∧ Same H1 H' ∧ ∃ us, H' l = some (.lst us) ∧ Rws H' us (((List.range js.length).map (jobRow js bs) ++ (List.range as.length).map (askRow js as bs)) ++ (hs.take k).map (allRow js as)))
      ⟨⟨_, _, _, _, _, _, _, _, _, _, _, rfl⟩, g2, us2, hl2', by rw [List.take_zero, List.map_nil, List.append_nil]; exact hrw2⟩ (fun k σ H' _ h => SqT.of (h.2.1 _ _ t2)) ?_ ?_
    · rintro k v σ G1 G2 hk ⟨⟨v6, v7, v8, v9, v10, v11, v12, v13, v14, v15, v16, rfl⟩, g1, us, hl, hrw⟩ ⟨rfl, ev⟩
      rw [List.length_map] at hk
      have eh : hs[k]? = some hs[k] := List.getElem?_eq_getElem hk
      generalize hs[k] = h at eh
      rw [List.getElem?_map, eh] at ev
      obtain rfl : V.str h = v := Option.some.inj ev
      refine ⟨dA, _, g1 _ _ hA, trivial, fun od => ?_⟩
      have fz0 : ∀ b o, b ≠ dA → G2 b = some o → (upd G2 dA (.frz od (.dK kA))) b = some o := fun b o nb e => by rw [upd_ne nb]; exact e
      have fz1 : (upd G2 dA (.frz od (.dK kA))) dA = some (.frz od (.dK kA)) := upd_same
      generalize upd G2 dA (.frz od (.dK kA)) = Z at fz0 fz1 ⊢
      refine ⟨_, rfl, dA, od, rfl, .inl ⟨kA, fz1, fun D nD => ?_⟩⟩
      have nDd : D ≠ dA := fun e => by rw [e, fz1] at nD; cases nD
      have nDG : G2 D = none := by
        cases e : G2 D with
        | none => rfl
        | some o =>
          rw [fz0 D o nDd e] at nD
          cases nD
      refine lc_it (walk_keys (d := dA) (o := od) (kvs := kA)) (fun i H' => (∀ b o, b ≠ dA → G2 b = some o → H' b = some o) ∧ H' dA = some (.frz od (.dK kA)) ∧ ∃ vs : List V, H' D = some (.lst vs) ∧ vs.length = ((kA.take i).filter fun kv => decide ((hoA js as) (keyN kv.1) = h)).length)
        ⟨fun b o nb e => by rw [upd_ne (ne_of_none e nDG)]; exact fz0 b o nb e, by rw [upd_ne (Ne.symm nDd)]; exact fz1, [], upd_same, by rw [List.take_zero]; rfl⟩ (fun i H' _ h => h.2.1) ?_ ?_
      · rintro i v F1 F2 hi ⟨fr, hfz, vs, hD, hlv⟩ ⟨rfl, kk, v0, ek, rfl⟩
        obtain ⟨a, b0, ea, la, _, _, _⟩ := nA.own _ (List.mem_of_getElem? ek)
        have ea : kk = .inl (a : Int) := ea
        subst ea
        obtain ⟨b, eb, hb⟩ := nA.at la (hoa a la)
        have hbF : F2 b = some (.tup [.str ((hoA js as) a), .int (rk as.length (hoA js as) (tiA as) a : Nat)]) := fr _ _ (ne_of hb hA (fun z => nomatch z)) (g1 _ _ hb)
        have lk := nA.len
        have lf : ((kA.take i).filter fun kv => decide ((hoA js as) (keyN kv.1) = h)).length ≤ kA.length := Nat.le_trans (List.length_filter_le _ _) (by rw [List.length_take]; omega)
        refine ⟨rfl, _, rfl, _, rfl, dA, _, rfl, (by rw [← eb]; exact frz_get (k := Sum.inl (a : Int)) hfz), b, _, 0, _, rfl, rfl, SqT.of hbF, rfl, _, rfl, rfl, _, rfl, ?_⟩
        rw [take_succ_filter _ kA ek]
        have ekn : keyN (.inl (a : Int)) = a := rfl
        by_cases e : (hoA js as) a = h
        · rw [show decide ((hoA js as) (keyN ((.inl (a : Int) : Key), v0).1) = h) = true from decide_eq_true e]
          refine iteTd (congrArg V.str e) ⟨_, rfl, vs, hD, small_line (by omega), fun c o nc ec => by rw [upd_ne (ne_of_none ec nDG)]; exact fr c o nc ec, by rw [upd_ne (Ne.symm nDd)]; exact hfz, _, upd_same, ?_⟩
          rw [List.length_append, List.length_append, hlv, if_pos rfl]
          rfl
        · rw [show decide ((hoA js as) (keyN ((.inl (a : Int) : Key), v0).1) = h) = false from decide_eq_false e]
          refine iteFd (fun z => e (V.str.inj z)) ⟨fr, hfz, vs, hD, ?_⟩
          rw [List.length_append, hlv, if_neg (fun z => Bool.noConfusion z)]
          rfl
      rintro F ⟨fr, hfz, vs, hD, hlv⟩
      rw [List.take_length, num_count nA hoa h] at hlv
      refine ⟨hfz, ?_⟩
      have smM1 : Same G2 (upd F dA (.dK kA)) := fun b o e => by
        by_cases nb : b = dA
        · subst nb
          rw [upd_same, ← g1 _ _ hA]
          exact e
        · rw [upd_ne nb]
          exact fr b o nb e
      have hDf : (upd F dA (.dK kA)) D = some (.lst vs) := by rw [upd_ne nDd]; exact hD
      generalize upd F dA (.dK kA) = M1 at smM1 hDf ⊢
      refine ⟨D, _, rfl, .inl (SqL.of hDf), ?_⟩
      rw [hlv]
      clear fz0 fz1 nD fr hfz hD hlv hDf
      have g4 := g1.trans smM1
      refine ⟨_, rfl, .inl ⟨rfl, _, SqL.of (smM1 _ _ hl)⟩, _, rfl, _, rfl, ?_⟩
      refine ⟨dJ, _, g4 _ _ hJ, trivial, fun od => ?_⟩
      have fz0 : ∀ b o, b ≠ dJ → M1 b = some o → (upd M1 dJ (.frz od (.dK kJ))) b = some o := fun b o nb e => by rw [upd_ne nb]; exact e
      have fz1 : (upd M1 dJ (.frz od (.dK kJ))) dJ = some (.frz od (.dK kJ)) := upd_same
      generalize upd M1 dJ (.frz od (.dK kJ)) = Z at fz0 fz1 ⊢
      refine ⟨_, rfl, dJ, od, rfl, .inl ⟨kJ, fz1, fun D nD => ?_⟩⟩
      have nDd : D ≠ dJ := fun e => by rw [e, fz1] at nD; cases nD
      have nDG : M1 D = none := by
        cases e : M1 D with
        | none => rfl
        | some o =>
          rw [fz0 D o nDd e] at nD
          cases nD
      refine lc_it (walk_keys (d := dJ) (o := od) (kvs := kJ)) (fun i H' => (∀ b o, b ≠ dJ → M1 b = some o → H' b = some o) ∧ H' dJ = some (.frz od (.dK kJ)) ∧ ∃ vs : List V, H' D = some (.lst vs) ∧ vs.length = ((kJ.take i).filter fun kv => decide ((hoJ js) (keyN kv.1) = h)).length)
        ⟨fun b o nb e => by rw [upd_ne (ne_of_none e nDG)]; exact fz0 b o nb e, by rw [upd_ne (Ne.symm nDd)]; exact fz1, [], upd_same, by rw [List.take_zero]; rfl⟩ (fun i H' _ h => h.2.1) ?_ ?_
      · rintro i v F1 F2 hi ⟨fr, hfz, vs, hD, hlv⟩ ⟨rfl, kk, v0, ek, rfl⟩
        obtain ⟨a, b0, ea, la, _, _, _⟩ := nJ.own _ (List.mem_of_getElem? ek)
        have ea : kk = .inl (a : Int) := ea
        subst ea
        obtain ⟨b, eb, hb⟩ := nJ.at la (hoj a la)
        have hbF : F2 b = some (.tup [.str ((hoJ js) a), .int (rk js.length (hoJ js) (tiJ js) a : Nat)]) := fr _ _ (ne_of hb hJ (fun z => nomatch z)) (g4 _ _ hb)
        have lk := nJ.len
        have lf : ((kJ.take i).filter fun kv => decide ((hoJ js) (keyN kv.1) = h)).length ≤ kJ.length := Nat.le_trans (List.length_filter_le _ _) (by rw [List.length_take]; omega)
        refine ⟨rfl, _, rfl, _, rfl, dJ, _, rfl, (by rw [← eb]; exact frz_get (k := Sum.inl (a : Int)) hfz), b, _, 0, _, rfl, rfl, SqT.of hbF, rfl, _, rfl, rfl, _, rfl, ?_⟩
        rw [take_succ_filter _ kJ ek]
        have ekn : keyN (.inl (a : Int)) = a := rfl
        by_cases e : (hoJ js) a = h
        · rw [show decide ((hoJ js) (keyN ((.inl (a : Int) : Key), v0).1) = h) = true from decide_eq_true e]
          refine iteTd (congrArg V.str e) ⟨_, rfl, vs, hD, small_line (by omega), fun c o nc ec => by rw [upd_ne (ne_of_none ec nDG)]; exact fr c o nc ec, by rw [upd_ne (Ne.symm nDd)]; exact hfz, _, upd_same, ?_⟩
          rw [List.length_append, List.length_append, hlv, if_pos rfl]
          rfl
        · rw [show decide ((hoJ js) (keyN ((.inl (a : Int) : Key), v0).1) = h) = false from decide_eq_false e]
          refine iteFd (fun z => e (V.str.inj z)) ⟨fr, hfz, vs, hD, ?_⟩
          rw [List.length_append, hlv, if_neg (fun z => Bool.noConfusion z)]
          rfl
      rintro F ⟨fr, hfz, vs, hD, hlv⟩
      rw [List.take_length, num_count nJ hoj h] at hlv
      refine ⟨hfz, ?_⟩
      have smM2 : Same M1 (upd F dJ (.dK kJ)) := fun b o e => by
        by_cases nb : b = dJ
        · subst nb
          rw [upd_same, ← g4 _ _ hJ]
          exact e
        · rw [upd_ne nb]
          exact fr b o nb e
      have hDf : (upd F dJ (.dK kJ)) D = some (.lst vs) := by rw [upd_ne nDd]; exact hD
      generalize upd F dJ (.dK kJ) = M2 at smM2 hDf ⊢
      refine ⟨D, _, rfl, .inl (SqL.of hDf), ?_⟩
      rw [hlv]
      clear fz0 fz1 nD fr hfz hD hlv hDf
      refine ⟨(by show 4 ≤ sizeLine; decide), fun c4 n4 => ?_⟩
      have u4 : Same M2 (upd M2 c4 (.tup [.str "all", .str h, .int ((itemsOf as.length (hoA js as) h).length : Nat), .int ((itemsOf js.length (hoJ js) h).length : Nat)])) := same_upd n4
      have hc4 : RowAt (upd M2 c4 (.tup [.str "all", .str h, .int ((itemsOf as.length (hoA js as) h).length : Nat), .int ((itemsOf js.length (hoJ js) h).length : Nat)])) c4 (allRow js as h) := upd_same
      generalize upd M2 c4 (.tup [.str "all", .str h, .int ((itemsOf as.length (hoA js as) h).length : Nat), .int ((itemsOf js.length (hoJ js) h).length : Nat)]) = G7 at u4 hc4 ⊢
      have v := (smM1.trans smM2).trans u4
      obtain ⟨z1, z2, z3⟩ := snoc_step (g1.trans v) nl1 (v _ _ hl) (hrw.go fun c ys e => v _ _ e) hc4
      have ll := hrw.1
      rw [List.length_append, List.length_append, List.length_map, List.length_range, List.length_map, List.length_range, List.length_map, List.length_take] at ll
      have lh : hs.length ≤ 6 := h6
      refine ⟨l, _, _, rfl, rfl, v _ _ hl, small_line (by omega), ⟨_, _, _, _, _, _, _, _, _, _, _, rfl⟩, z1, _, z2, ?_⟩
      rw [take_snoc eh, List.map_append, ← List.append_assoc]
      exact z3
    · rintro σ G3 ⟨⟨v6, v7, v8, v9, v10, v11, v12, v13, v14, v15, v16, rfl⟩, g3, us3, hl3, hrw3⟩
      rw [List.length_map, List.take_length] at hrw3
      exact ⟨_, rfl, q l us3 G3 (s1.trans g3) nl hl3 hrw3⟩
/-! ### the rows of a world are a book -/
theorem count_range {A : Type} (xs : List A) (p : A → Bool) (f : Nat → Bool) (h : ∀ i x, xs[i]? = some x → f i = p x) : ∀ k, k ≤ xs.length → ((List.range k).filter f).length = ((xs.take k).filter p).length
  | 0, _ => by rw [List.take_zero]; rfl
  | k + 1, hk => by
    have ih := count_range xs p f h k (Nat.le_of_succ_le hk)
    have e : xs[k]? = some xs[k] := List.getElem?_eq_getElem hk
    rw [List.range_succ, filter_snoc, take_snoc e, filter_snoc, List.length_append, List.length_append, ih, h k _ e]
    split <;> rfl
theorem items_nJ (js : List WJ) (h : Str) : (itemsOf js.length (hoJ js) h).length = nJ js h := by
  unfold itemsOf nJ
  rw [count_range js (fun j => decide (j.h = h)) _ (fun i x e => by unfold hoJ; rw [e]) _ (Nat.le_refl _), List.take_length]
theorem items_nA (js : List WJ) (as : List WA) (h : Str) (hp : ∀ x ∈ as, x.pl < js.length) : (itemsOf as.length (hoA js as) h).length = nA js as h := by
  unfold itemsOf nA
  rw [count_range as (fun x => x.of js h) _ (fun i x e => ?_) _ (Nat.le_refl _), List.take_length]
  have hpl := hp x (List.mem_of_getElem? e)
  have ej : js[x.pl]? = some js[x.pl] := List.getElem?_eq_getElem hpl
  generalize js[x.pl] = j at ej
  have e1 : hoA js as i = j.h := by
    unfold hoA hoJ
    rw [e]
    show (match js[x.pl]? with | some j => j.h | none => "") = _
    rw [ej]
  unfold WA.of
  rw [e1, ej]
theorem WOk.pl {hs : List Str} {js : List WJ} {as : List WA} (w : WOk hs js as) : ∀ x ∈ as, x.pl < js.length := fun x m => by
  obtain ⟨j, e, _⟩ := (w.ab x m).par
  exact (List.getElem?_eq_some_iff.mp e).1
/-! what each row says -/
inductive WRow (hs : List Str) (js : List WJ) (as : List WA) (bs : Str → Int) : Row → Prop
  | job (i : Nat) (j : WJ) : js[i]? = some j → WRow hs js as bs (.job j.h (rkJ js i : Nat) (bs j.h + j.b) (bs j.h + j.e))
  | ask (i : Nat) (x : WA) (j : WJ) : as[i]? = some x → js[x.pl]? = some j → WRow hs js as bs (.ask j.h x.g (rkA js as i : Nat) (rkJ js x.pl : Nat) (bs j.h + x.o) (bs j.h + x.k))
  | all (h : Str) : h ∈ hs → WRow hs js as bs (.all h ((itemsOf as.length (hoA js as) h).length : Nat) ((itemsOf js.length (hoJ js) h).length : Nat))
theorem hoA_at {js : List WJ} {as : List WA} {i : Nat} {x : WA} {j : WJ} (e : as[i]? = some x) (ej : js[x.pl]? = some j) : hoA js as i = j.h := by
  unfold hoA hoJ
  rw [e]
  show (match js[x.pl]? with | some j => j.h | none => "") = _
  rw [ej]
theorem hoJ_at {js : List WJ} {i : Nat} {j : WJ} (e : js[i]? = some j) : hoJ js i = j.h := by
  unfold hoJ
  rw [e]
theorem tiJ_at {js : List WJ} {i : Nat} {j : WJ} (e : js[i]? = some j) : tiJ js i = j.b := by
  unfold tiJ
  rw [e]
theorem tiA_at {as : List WA} {i : Nat} {x : WA} (e : as[i]? = some x) : tiA as i = x.o := by
  unfold tiA
  rw [e]
theorem wrow_of {hs : List Str} {js : List WJ} {as : List WA} {bs : Str → Int} (w : WOk hs js as) {r : Row} (m : r ∈ wRows hs js as bs) : WRow hs js as bs r := by
  unfold wRows at m
  rcases List.mem_append.mp m with m | m
  · rcases List.mem_append.mp m with m | m
    · obtain ⟨i, mi, rfl⟩ := List.mem_map.mp m
      have li := List.mem_range.mp mi
      have e : js[i]? = some js[i] := List.getElem?_eq_getElem li
      generalize js[i] = j at e
      unfold jobRow
      rw [e]
      exact .job i _ e
    · obtain ⟨i, mi, rfl⟩ := List.mem_map.mp m
      have li := List.mem_range.mp mi
      have e : as[i]? = some as[i] := List.getElem?_eq_getElem li
      generalize as[i] = x at e
      have lp := w.pl x (List.mem_of_getElem? e)
      have ej : js[x.pl]? = some js[x.pl] := List.getElem?_eq_getElem lp
      generalize js[x.pl] = j at ej
      unfold askRow
      rw [e]
      show WRow hs js as bs (.ask (hoA js as i) _ _ _ (bs (hoA js as i) + _) (bs (hoA js as i) + _))
      rw [hoA_at e ej]
      exact .ask i _ _ e ej
  · obtain ⟨h, mh, rfl⟩ := List.mem_map.mp m
    exact .all h mh
theorem rkJ_lt {js : List WJ} {i : Nat} {j : WJ} (e : js[i]? = some j) : rkJ js i < (itemsOf js.length (hoJ js) j.h).length := by
  rw [← hoJ_at e]
  exact rk_lt (List.getElem?_eq_some_iff.mp e).1
theorem rkA_lt {js : List WJ} {as : List WA} {i : Nat} {x : WA} {j : WJ} (e : as[i]? = some x) (ej : js[x.pl]? = some j) : rkA js as i < (itemsOf as.length (hoA js as) j.h).length := by
  rw [← hoA_at e ej]
  exact rk_lt (List.getElem?_eq_some_iff.mp e).1
theorem world_book {hs : List Str} {js : List WJ} {as : List WA} {bs : Str → Int} (w : WOk hs js as) (hb : ∀ h ∈ hs, BasI (bs h)) (hok : ∀ h ∈ hs, PyData.strOk h = true) : Book hs (wRows hs js as bs) := by
  have cJ : ∀ h, (itemsOf js.length (hoJ js) h).length ≤ 15 := fun h => by rw [items_nJ]; exact (w.cnt h).1
  have cA : ∀ h, (itemsOf as.length (hoA js as) h).length ≤ 15 := fun h => by rw [items_nA js as h w.pl]; exact (w.cnt h).2
  have jb : ∀ {i : Nat} {j : WJ}, js[i]? = some j → j.h ∈ hs ∧ 0 ≤ j.b ∧ j.b ≤ j.e ∧ j.e ≤ 400 := fun e => w.jb _ (List.mem_of_getElem? e)
  have ab : ∀ {i : Nat} {x : WA} {j : WJ}, as[i]? = some x → js[x.pl]? = some j → x.g ∈ hs ∧ j.b < x.o ∧ x.o ≤ x.k ∧ x.k < j.e := fun {i x j} e ej => by
    have a := w.ab x (List.mem_of_getElem? e)
    obtain ⟨j', ej', h1, h2, h3⟩ := a.par
    rw [Nat.sub_zero] at ej'
    obtain rfl := Option.some.inj (ej.symm.trans ej')
    exact ⟨a.g, h1, h2, h3⟩
  refine ⟨fun r m => ?_, fun r m => ?_, fun r mr t mt => ?_⟩
  · cases wrow_of w m with
    | job i j e =>
      obtain ⟨h1, h2, h3, h4⟩ := jb e
      have b := hb j.h h1
      unfold BasI at b
      have k1 := rkJ_lt e
      have k2 := cJ j.h
      exact ⟨hok _ h1, ⟨Int.natCast_nonneg _, by omega⟩, by unfold TimeI; omega, by unfold TimeI; omega, by omega⟩
    | ask i x j e ej =>
      obtain ⟨h1, h2, h3, h4⟩ := jb ej
      obtain ⟨g1, g2, g3, g4⟩ := ab e ej
      have b := hb j.h h1
      unfold BasI at b
      have k1 := rkA_lt e ej
      have k2 := cA j.h
      have k3 := rkJ_lt ej
      have k4 := cJ j.h
      exact ⟨hok _ h1, hok _ g1, ⟨Int.natCast_nonneg _, by omega⟩, ⟨Int.natCast_nonneg _, by omega⟩, by unfold TimeI; omega, by unfold TimeI; omega, by omega⟩
    | all h mh =>
      have k2 := cA h
      have k4 := cJ h
      exact ⟨hok _ mh, ⟨Int.natCast_nonneg _, by omega⟩, ⟨Int.natCast_nonneg _, by omega⟩⟩
  · cases wrow_of w m with
    | job i j e => exact (jb e).1
    | ask i x j e ej => exact ⟨(jb ej).1, (ab e ej).1⟩
    | all h mh => exact mh
  · have jj : ∀ {i i' : Nat} {j j' : WJ}, js[i]? = some j → js[i']? = some j' → j.h = j'.h → (rkJ js i = rkJ js i' → i = i') ∧ (rkJ js i ≤ rkJ js i' → j.b ≤ j'.b) := fun {i i' j j'} e e' eh => by
      have l := (List.getElem?_eq_some_iff.mp e).1
      have l' := (List.getElem?_eq_some_iff.mp e').1
      have eho : hoJ js i = hoJ js i' := by rw [hoJ_at e, hoJ_at e', eh]
      refine ⟨fun z => rk_inj l l' eho z, fun z => ?_⟩
      have := rk_time (ti := tiJ js) l l' eho z
      rw [tiJ_at e, tiJ_at e'] at this
      exact this
    have aa : ∀ {i i' : Nat} {x x' : WA} {j j' : WJ}, as[i]? = some x → js[x.pl]? = some j → as[i']? = some x' → js[x'.pl]? = some j' → j.h = j'.h → (rkA js as i = rkA js as i' → i = i') ∧ (rkA js as i ≤ rkA js as i' → x.o ≤ x'.o) := fun {i i' x x' j j'} e ej e' ej' eh => by
      have l := (List.getElem?_eq_some_iff.mp e).1
      have l' := (List.getElem?_eq_some_iff.mp e').1
      have eho : hoA js as i = hoA js as i' := by rw [hoA_at e ej, hoA_at e' ej', eh]
      refine ⟨fun z => rk_inj l l' eho z, fun z => ?_⟩
      have := rk_time (ti := tiA as) l l' eho z
      rw [tiA_at e, tiA_at e'] at this
      exact this
    have ja : ∀ {i i' : Nat} {j j' : WJ} {x : WA}, js[i]? = some j → as[i']? = some x → js[x.pl]? = some j' → ¬ ClashP (.job j.h (rkJ js i : Nat) (bs j.h + j.b) (bs j.h + j.e)) (.ask j'.h x.g (rkA js as i' : Nat) (rkJ js x.pl : Nat) (bs j'.h + x.o) (bs j'.h + x.k)) := fun {i i' j j' x} e e' ej' z => by
      obtain ⟨eh, z⟩ := z
      obtain ⟨g1, g2, g3, g4⟩ := ab e' ej'
      obtain ⟨q1, q2⟩ := jj e ej' eh
      rw [eh] at z
      rcases z with ⟨z1, z2⟩ | ⟨z1, z2⟩
      · have := q2 (by omega)
        omega
      · have ei := q1 (by omega)
        subst ei
        obtain rfl := Option.some.inj (e.symm.trans ej')
        omega
    have la : ∀ {i' : Nat} {j' : WJ} {x : WA} {h : Str}, as[i']? = some x → js[x.pl]? = some j' → ¬ ClashP (.all h ((itemsOf as.length (hoA js as) h).length : Nat) ((itemsOf js.length (hoJ js) h).length : Nat)) (.ask j'.h x.g (rkA js as i' : Nat) (rkJ js x.pl : Nat) (bs j'.h + x.o) (bs j'.h + x.k)) := fun {i' j' x h} e' ej' z => by
      obtain ⟨eh, z⟩ := z
      subst eh
      have k1 := rkA_lt e' ej'
      have k3 := rkJ_lt ej'
      omega
    have lj : ∀ {i : Nat} {j : WJ} {h : Str}, js[i]? = some j → ¬ ClashP (.all h ((itemsOf as.length (hoA js as) h).length : Nat) ((itemsOf js.length (hoJ js) h).length : Nat)) (.job j.h (rkJ js i : Nat) (bs j.h + j.b) (bs j.h + j.e)) := fun {i j h} e z => by
      obtain ⟨eh, z⟩ := z
      subst eh
      have k3 := rkJ_lt e
      omega
    cases wrow_of w mr with
    | job i j e =>
      cases wrow_of w mt with
      | job i' j' e' =>
        rintro ⟨eh, ne, z⟩
        obtain ⟨q1, q2⟩ := jj e e' eh
        obtain ⟨q3, q4⟩ := jj e' e eh.symm
        rcases z with z | ⟨z1, z2⟩ | ⟨z1, z2⟩
        · have ei := q1 (by omega)
          subst ei
          obtain rfl := Option.some.inj (e.symm.trans e')
          exact ne rfl
        · have := q2 (by omega)
          rw [eh] at z2
          omega
        · have := q4 (by omega)
          rw [eh] at z2
          omega
      | ask i' x j' e' ej' => exact ja e e' ej'
      | all h mh => exact fun z => lj e ((clash_comm _ _).mp z)
    | ask i x j e ej =>
      cases wrow_of w mt with
      | job i' j' e' => exact fun z => ja e' e ej ((clash_comm _ _).mp z)
      | ask i' x' j' e' ej' =>
        rintro ⟨eh, ne, z⟩
        obtain ⟨q1, q2⟩ := aa e ej e' ej' eh
        obtain ⟨q3, q4⟩ := aa e' ej' e ej eh.symm
        rcases z with z | ⟨z1, z2⟩ | ⟨z1, z2⟩
        · have ei := q1 (by omega)
          subst ei
          obtain rfl := Option.some.inj (e.symm.trans e')
          obtain rfl := Option.some.inj (ej.symm.trans ej')
          exact ne rfl
        · have := q2 (by omega)
          rw [eh] at z2
          omega
        · have := q4 (by omega)
          rw [eh] at z2
          omega
      | all h mh => exact fun z => la e ej ((clash_comm _ _).mp z)
    | all h mh =>
      cases wrow_of w mt with
      | job i' j' e' => exact lj e'
      | ask i' x' j' e' ej' => exact la e' ej'
      | all h' mh' =>
        rintro ⟨eh, ne⟩
        subst eh
        exact ne rfl
/-! ### what there was, by the law -/
def CntW (wd : Str) (rs : List Row) (h : Str) (n : Int) : Prop := (wd = "job" → CntJ rs h n) ∧ (wd ≠ "job" → CntA rs h n)
theorem below_congr {hs : List Str} {c d : Str → Nat} (h : ∀ x ∈ hs, c x = d x) : below hs c = below hs d := by
  unfold below
  induction hs with
  | nil => rfl
  | cons x hs ih =>
    rw [List.flatMap_cons, List.flatMap_cons, h x List.mem_cons_self, ih fun y m => h y (List.mem_cons_of_mem _ m)]
theorem HKs.app {H : Hp} : ∀ {us ws : List V} {ks ls : List Gr.HK}, HKs H us ks → HKs H ws ls → HKs H (us ++ ws) (ks ++ ls)
  | _, _, _, _, .nil, q => q
  | _, _, _, _, .cons h r, q => .cons h (r.app q)
noncomputable def knownOf (rs : List Row) (wd : Str) (ks : List Gr.HK) : List Gr.HK := open Classical in ks.filter fun k => decide (∃ r, Bk rs wd r ∧ r.key = k)
/-! ### (house, number) in order -/
theorem cps_lt_of {a b : Str} (h : ¬ b.cps.toList < a.cps.toList) (ne : a ≠ b) : a.cps.toList < b.cps.toList := by
  refine Decidable.byContradiction fun n => ne ?_
  have e : a.cps.toList = b.cps.toList := List.le_antisymm (List.not_lt.mp h) (List.not_lt.mp n)
  cases a
  cases b
  simp at e
  rw [e]
theorem rising_pair : ∀ {r : List Str} {p : Str}, risingS p r = true → (∀ x ∈ r, ¬ x.cps.toList < p.cps.toList) ∧ r.Pairwise fun a b => ¬ b.cps.toList < a.cps.toList
  | [], _, _ => ⟨fun _ m => (nomatch m), List.Pairwise.nil⟩
  | x :: r, p, h => by
    have h : (!ltCps x.cps.toList p.cps.toList && risingS x r) = true := h
    rw [Bool.and_eq_true] at h
    obtain ⟨i1, i2⟩ := rising_pair h.2
    have hx : ¬ x.cps.toList < p.cps.toList := by
      have := h.1
      rw [ltCps_eq] at this
      simpa using this
    refine ⟨fun y m => ?_, List.pairwise_cons.mpr ⟨i1, i2⟩⟩
    rcases List.mem_cons.mp m with rfl | m
    · exact hx
    · exact List.not_lt.mpr (List.le_trans (List.not_lt.mp hx) (List.not_lt.mp (i1 y m)))
theorem up_pair {hs : List Str} (h : sortedS hs = true) (nd : hs.Nodup) : hs.Pairwise fun a b => a.cps.toList < b.cps.toList := by
  cases hs with
  | nil => exact List.Pairwise.nil
  | cons x r =>
    obtain ⟨h1, h2⟩ := rising_pair (show risingS x r = true from h)
    have p : (x :: r).Pairwise fun a b => ¬ b.cps.toList < a.cps.toList := List.pairwise_cons.mpr ⟨h1, h2⟩
    have both := p.and (List.nodup_iff_pairwise_ne.mp nd)
    exact both.imp fun z => cps_lt_of z.1 z.2
theorem hk_lt_ne {a b : Gr.HK} (h : a.1 ≠ b.1) : Fl.ltD (Gr.datOf a) (Gr.datOf b) = decide (a.1.cps.toList < b.1.cps.toList) := by
  have e4 : PyData.eqv (.str a.1) (.str b.1) = false := by simpa [PyData.eqv] using h
  unfold Fl.ltD Gr.datOf
  rw [PySem.W.dataLt_all_no (by rfl) e4, PySem.W.dataLt_str]
theorem hk_lt_eq {h : Str} {n m : Int} : Fl.ltD (Gr.datOf (h, n)) (Gr.datOf (h, m)) = decide (n < m) := by
  unfold Fl.ltD Gr.datOf
  rw [PySem.W.dataLt_all_yes (by rfl) (by simp [PyData.eqv])]
  by_cases e : n = m
  · subst e
    rw [PySem.W.dataLt_all_yes (by rfl) (by simp [PyData.eqv])]
    have e1 : decide (n < n) = false := decide_eq_false (by omega)
    rw [e1]
    rfl
  · rw [PySem.W.dataLt_all_no (by rfl) (by simpa [PyData.eqv] using e), PySem.W.dataLt_int]
theorem hk_anti {a b : Gr.HK} (h1 : Fl.ltD (Gr.datOf b) (Gr.datOf a) = false) (h2 : Fl.ltD (Gr.datOf a) (Gr.datOf b) = false) : a = b := by
  by_cases e : a.1 = b.1
  · obtain ⟨x, n⟩ := a
    obtain ⟨y, m⟩ := b
    have e : x = y := e
    subst e
    rw [hk_lt_eq] at h1 h2
    have := of_decide_eq_false h1
    have := of_decide_eq_false h2
    exact Prod.ext rfl (by show n = m; omega)
  · rw [hk_lt_ne (Ne.symm e)] at h1
    rw [hk_lt_ne e] at h2
    exact absurd (cps_lt_of (of_decide_eq_false h1) e) (of_decide_eq_false h2)
theorem srt_below {hs : List Str} {cnt : Str → Nat} (h : sortedS hs = true) (nd : hs.Nodup) : SrtK (below hs cnt) := by
  unfold SrtK below
  rw [List.pairwise_flatMap]
  refine ⟨fun x _ => ?_, (up_pair h nd).imp fun {x y} lt a ha b hb => ?_⟩
  · rw [List.pairwise_map]
    refine List.pairwise_lt_range.imp fun {i j} lt => ?_
    rw [hk_lt_eq]
    exact decide_eq_false (by omega)
  · obtain ⟨n, _, rfl⟩ := List.mem_map.mp ha
    obtain ⟨k, _, rfl⟩ := List.mem_map.mp hb
    have ne : y ≠ x := fun e => by
      rw [e] at lt
      exact absurd lt (List.lt_irrefl _)
    rw [hk_lt_ne ne]
    refine decide_eq_false fun z => ?_
    exact absurd (List.lt_trans lt z) (List.lt_irrefl _)
theorem srt_eq {ks ls : List Gr.HK} (h1 : SrtK ks) (h2 : SrtK ls) (pm : ks.Perm ls) : ks = ls := List.Perm.eq_of_pairwise (fun a b _ _ x y => hk_anti x y) h1 h2 pm
theorem SrtK.filter {ks : List Gr.HK} (h : SrtK ks) (p : Gr.HK → Bool) : SrtK (ks.filter p) := List.Pairwise.sublist List.filter_sublist h
/-! what is known was there -/
theorem known_below {hs : List Str} {rs : List Row} {cnt : Str → Nat} {wd : Str} (B : Book hs rs) (hw : wd = "ask" ∨ wd = "job") (hc : ∀ h ∈ hs, CntW wd rs h (cnt h : Nat) ∧ cnt h ≤ 16) {r : Row} (hr : Bk rs wd r) : r.key ∈ below hs cnt := by
  have hin : r.h ∈ hs := by
    have := B.inn r hr.1
    cases r
    · exact this.1
    · exact this
    · exact this
  refine mem_below.mpr ⟨hin, (wf_k (B.wf r hr.1)).1, ?_⟩
  obtain ⟨cw, _⟩ := hc r.h hin
  show r.k < (cnt r.h : Int)
  rcases hw with rfl | rfl
  · rcases cw.2 w_aj with ⟨t, ht, e⟩ | ⟨_, m, hm, e⟩
    · have nc := B.nc t ht.1.1 r hr.1
      rw [e]
      cases r with
      | ask h g k n o b =>
        cases t with
        | all h' a j =>
          have eh : h' = h := ht.2
          subst eh
          refine Decidable.byContradiction fun z => nc ⟨rfl, .inl ?_⟩
          have z : ¬ k < a := z
          omega
        | ask _ _ _ _ _ _ => exact absurd ht.1.2 w_aa
        | job _ _ _ _ => exact absurd ht.1.2 w_ja
      | job _ _ _ _ => exact absurd hr.2 w_ja'
      | all _ _ _ => exact absurd hr.2 w_la
    · rcases hm with ⟨no, _⟩ | ⟨k, _, hk, ek⟩
      · exact absurd ⟨r, ⟨hr, rfl⟩, rfl⟩ (no r.k)
      · obtain rfl := V.int.inj ek
        have := hk r.k ⟨r, ⟨hr, rfl⟩, rfl⟩
        omega
  · rcases cw.1 rfl with ⟨t, ht, e⟩ | ⟨_, m, hm, e⟩
    · have nc := B.nc t ht.1.1 r hr.1
      rw [e]
      cases r with
      | job h k o b =>
        cases t with
        | all h' a j =>
          have eh : h' = h := ht.2
          subst eh
          refine Decidable.byContradiction fun z => nc ⟨rfl, ?_⟩
          have z : ¬ k < j := z
          omega
        | ask _ _ _ _ _ _ => exact absurd ht.1.2 w_aa
        | job _ _ _ _ => exact absurd ht.1.2 w_ja
      | ask _ _ _ _ _ _ => exact absurd hr.2 w_aj
      | all _ _ _ => exact absurd hr.2 (fun z => w_ja z.symm)
    · rcases hm with ⟨no, _⟩ | ⟨k, _, hk, ek⟩
      · exact absurd (.inl ⟨r, ⟨hr, rfl⟩, rfl⟩) (no r.k)
      · obtain rfl := V.int.inj ek
        have := hk r.k (.inl ⟨r, ⟨hr, rfl⟩, rfl⟩)
        omega
/-! the counts are one -/
theorem geS_one {S : Int → Prop} {d v u : V} (h1 : geS S d v) (h2 : geS S d u) : v = u := by
  rcases h1 with ⟨n1, e1⟩ | ⟨m, a1, a2, rfl⟩
  · rcases h2 with ⟨n2, e2⟩ | ⟨k, b1, _, _⟩
    · rw [e1, e2]
    · exact absurd b1 (n1 k)
  · rcases h2 with ⟨n2, _⟩ | ⟨k, b1, b2, rfl⟩
    · exact absurd a1 (n2 m)
    · have := a2 k b1
      have := b2 m a1
      rw [show m = k by omega]
theorem leS_one {S : Int → Prop} {d v u : V} (h1 : leS S d v) (h2 : leS S d u) : v = u := by
  rcases h1 with ⟨n1, e1⟩ | ⟨m, a1, a2, rfl⟩
  · rcases h2 with ⟨n2, e2⟩ | ⟨k, b1, _, _⟩
    · rw [e1, e2]
    · exact absurd b1 (n1 k)
  · rcases h2 with ⟨n2, _⟩ | ⟨k, b1, b2, rfl⟩
    · exact absurd a1 (n2 m)
    · have := a2 k b1
      have := b2 m a1
      rw [show m = k by omega]
theorem cntA_one {hs : List Str} {rs : List Row} (B : Book hs rs) {h : Str} {n m : Int} (h1 : CntA rs h n) (h2 : CntA rs h m) : n = m := by
  rcases h1 with ⟨r, hr, e⟩ | ⟨no, k, hk, e⟩
  · rcases h2 with ⟨t, ht, e2⟩ | ⟨no, _⟩
    · rw [e, e2, B.uniqH r t hr.1 ht.1 (hr.2.trans ht.2.symm)]
    · exact absurd hr (no r)
  · rcases h2 with ⟨t, ht, _⟩ | ⟨_, j, hj, e2⟩
    · exact absurd ht (no t)
    · have := V.int.inj (geS_one hk hj)
      omega
theorem cntJ_one {hs : List Str} {rs : List Row} (B : Book hs rs) {h : Str} {n m : Int} (h1 : CntJ rs h n) (h2 : CntJ rs h m) : n = m := by
  rcases h1 with ⟨r, hr, e⟩ | ⟨no, k, hk, e⟩
  · rcases h2 with ⟨t, ht, e2⟩ | ⟨no, _⟩
    · rw [e, e2, B.uniqH r t hr.1 ht.1 (hr.2.trans ht.2.symm)]
    · exact absurd hr (no r)
  · rcases h2 with ⟨t, ht, _⟩ | ⟨_, j, hj, e2⟩
    · exact absurd ht (no t)
    · have := V.int.inj (geS_one hk hj)
      omega
theorem known_eq {hs : List Str} {rs : List Row} {cnt : Str → Nat} {wd : Str} {ks : List Gr.HK} (B : Book hs rs) (up : sortedS hs = true) (nd : hs.Nodup) (hw : wd = "ask" ∨ wd = "job") (hc : ∀ h ∈ hs, CntW wd rs h (cnt h : Nat) ∧ cnt h ≤ 16) (hk : KnownR wd hs rs ks) (hs' : SrtK ks) : ks = knownOf rs wd (below hs cnt) := by
  refine srt_eq hs' ((srt_below up nd).filter _) ((List.perm_ext_iff_of_nodup hk.1 ((nd_below nd).sublist List.filter_sublist)).mpr fun k => ?_)
  rw [hk.2]
  rw [List.mem_filter]
  constructor
  · rintro ⟨r, hr, rfl⟩
    exact ⟨known_below B hw hc hr, by simpa using ⟨r, hr, rfl⟩⟩
  · rintro ⟨_, h⟩
    simpa using h
theorem lost_eq {hs : List Str} {rs : List Row} {cnt : Str → Nat} {wd : Str} {C : List Row → Str → Int → Prop} {ks : List Gr.HK} (up : sortedS hs = true) (nd : hs.Nodup) (hone : ∀ h n m, C rs h n → C rs h m → n = m) (hc : ∀ h ∈ hs, C rs h (cnt h : Nat)) (hk : LostR C wd hs rs ks) (hs' : SrtK ks) : ks = lostOf rs wd (below hs cnt) := by
  obtain ⟨c2, h2, pm⟩ := hk
  have e : below hs c2 = below hs cnt := below_congr fun x m => Int.ofNat.inj (hone x _ _ (h2 x m).1 (hc x m))
  rw [e] at pm
  exact srt_eq hs' ((srt_below up nd).filter _) pm
def Row.x4 : Row → Int
  | .job _ _ _ b => b
  | _ => 0
/-! ### what the rows tell of one ask, of one job, as functions of the rows -/
def Row.g : Row → Str
  | .ask _ g _ _ _ _ => g
  | _ => ""
theorem at4j {r : Row} (h : r.word = "job") : atI r.vals 4 = some (.int r.x4) := by
  cases r with
  | job _ _ _ _ => rfl
  | ask _ _ _ _ _ _ => exact absurd h w_aj
  | all _ _ _ => exact absurd h.symm w_ja
theorem at4a {r : Row} (h : r.word = "ask") : atI r.vals 4 = some (.str r.g) := by
  cases r with
  | ask _ _ _ _ _ _ => rfl
  | job _ _ _ _ => exact absurd h w_ja'
  | all _ _ _ => exact absurd h w_la
noncomputable def grS (S : Int → Prop) : V := open Classical in if h : ∃ v, geS S .non v then Classical.choose h else .non
noncomputable def lsS (S : Int → Prop) : V := open Classical in if h : ∃ v, leS S .non v then Classical.choose h else .non
theorem grS_of {S : Int → Prop} {v : V} (h : geS S .non v) : grS S = v := by
  have e : ∃ v, geS S .non v := ⟨v, h⟩
  unfold grS
  rw [dif_pos e]
  exact geS_one (Classical.choose_spec e) h
theorem lsS_of {S : Int → Prop} {v : V} (h : leS S .non v) : lsS S = v := by
  have e : ∃ v, leS S .non v := ⟨v, h⟩
  unfold lsS
  rw [dif_pos e]
  exact leS_one (Classical.choose_spec e) h
/-! of two times; None bars nothing -/
def NA (a b : V) : Bool := match a, b with
  | .int x, .int y => decide (x ≤ y)
  | _, _ => true
def TimV (v : V) : Prop := v = .non ∨ ∃ n, v = .int n
theorem geS_tim {S : Int → Prop} {v : V} (h : geS S .non v) : TimV v := by
  rcases h with ⟨_, e⟩ | ⟨m, _, _, e⟩
  · exact .inl e
  · exact .inr ⟨m, e⟩
theorem leS_tim {S : Int → Prop} {v : V} (h : leS S .non v) : TimV v := by
  rcases h with ⟨_, e⟩ | ⟨m, _, _, e⟩
  · exact .inl e
  · exact .inr ⟨m, e⟩
def rowOf (rs : List Row) (wd : Str) (k : Gr.HK) : Option Row := rs.find? fun r => decide (r.word = wd ∧ r.key = k)
theorem rowOf_some {rs : List Row} {wd : Str} {k : Gr.HK} {r : Row} (h : rowOf rs wd k = some r) : Bk rs wd r ∧ r.key = k := by
  have h1 := List.find?_some h
  have h2 := of_decide_eq_true h1
  exact ⟨⟨List.mem_of_find?_eq_some h, h2.1⟩, h2.2⟩
theorem rowOf_none {rs : List Row} {wd : Str} {k : Gr.HK} (h : rowOf rs wd k = none) : ¬ ∃ r, Bk rs wd r ∧ r.key = k := by
  rintro ⟨r, hr, e⟩
  have := List.find?_eq_none.mp h r hr.1
  exact this (decide_eq_true ⟨hr.2, e⟩)
theorem rowOf_is {rs : List Row} {wd : Str} {r : Row} (un : Uniq (Bk rs wd)) (hr : Bk rs wd r) : rowOf rs wd r.key = some r := by
  cases e : rowOf rs wd r.key with
  | none => exact absurd ⟨r, hr, rfl⟩ (rowOf_none e)
  | some t =>
    obtain ⟨h1, h2⟩ := rowOf_some e
    rw [un t r h1 hr h2]
noncomputable def loA (rs : List Row) (k : Gr.HK) : V := grS fun x => ∃ r, AskOf rs k.1 r ∧ r.k < k.2 ∧ r.x5 = x
noncomputable def hiA (rs : List Row) (k : Gr.HK) : V := lsS fun x => ∃ r, AskOf rs k.1 r ∧ k.2 < r.k ∧ r.x5 = x
theorem spA_fun {rs : List Row} {k : Gr.HK} {lo hi : V} (h : SpA rs k lo hi) : lo = loA rs k ∧ hi = hiA rs k := ⟨(grS_of h.1).symm, (lsS_of h.2).symm⟩
noncomputable def loJ (rs : List Row) (k : Gr.HK) : V := grS fun x => ∃ r, JobOf rs k.1 r ∧ r.k < k.2 ∧ r.x3 = x
noncomputable def hiJ (rs : List Row) (k : Gr.HK) : V := lsS fun x => (∃ r, JobOf rs k.1 r ∧ k.2 < r.k ∧ r.x3 = x) ∨ ∃ r, AskOf rs k.1 r ∧ k.2 ≤ r.x3 ∧ r.x5 - 1 = x
noncomputable def laJ (rs : List Row) (k : Gr.HK) : V := grS fun x => ∃ r, AskOf rs k.1 r ∧ r.x3 = k.2 ∧ r.x6 = x
theorem spJ_fun {rs : List Row} {k : Gr.HK} {lo hi la : V} (h : SpJ rs k lo hi la) : lo = loJ rs k ∧ hi = hiJ rs k ∧ la = laJ rs k := ⟨(grS_of h.1).symm, (lsS_of h.2.1).symm, (grS_of h.2.2).symm⟩
noncomputable def mrA (rs : List Row) (h : Str) : V := grS fun x => ∃ r, AskOf rs h r ∧ r.x5 = x
noncomputable def mrJ (rs : List Row) (h : Str) : V := grS fun x => ∃ r, JobOf rs h r ∧ r.x3 = x
theorem mr_fun {rs : List Row} {h : Str} {a b : V} (m : Mr rs h a b) : a = mrA rs h ∧ b = mrJ rs h := ⟨(grS_of m.1).symm, (grS_of m.2).symm⟩
/-! when a known job began, or the latest that a lost one may have -/
noncomputable def lateB (rs : List Row) (j : Gr.HK) : V := match rowOf rs "job" j with
  | some r => .int r.x3
  | none => hiJ rs j
def NLt (a : V) (b : Int) : Bool := match a with
  | .int x => decide (x < b)
  | _ => true
noncomputable def inTime (rs : List Row) (o b : Int) (j : Gr.HK) : Bool := match rowOf rs "job" j with
  | some r => decide (o ≤ r.x3) && decide (r.x4 ≤ b)
  | none => NA (loJ rs j) (.int b) && NA (.int o) (hiJ rs j) && NLt (laJ rs j) b
noncomputable def mayB (rs : List Row) (a j : Gr.HK) : Bool := match rowOf rs "ask" a with
  | some r => decide (j.1 = r.g) && inTime rs r.x5 r.x6 j
  | none => NA (loA rs a) (lateB rs j)
noncomputable def moreJ (hs : List Str) (rs : List Row) (a : Gr.HK) : Bool := match rowOf rs "ask" a with
  | some r => decide (r.g ∈ openOf rs hs) && NA (mrJ rs r.g) (.int r.x6)
  | none => decide (openOf rs hs ≠ [])
noncomputable def moreA (hs : List Str) (rs : List Row) (j : Gr.HK) : Bool := (openOf rs hs).any fun h => NA (mrA rs h) (lateB rs j)
/-! an ask, a job that there was -/
def WasA (hs : List Str) (rs : List Row) (k : Gr.HK) : Prop := k.1 ∈ hs ∧ 0 ≤ k.2 ∧ ∃ n, CntA rs k.1 n ∧ k.2 < n
def WasJ (hs : List Str) (rs : List Row) (k : Gr.HK) : Prop := k.1 ∈ hs ∧ 0 ≤ k.2 ∧ ∃ n, CntJ rs k.1 n ∧ k.2 < n
theorem lost_in {rs : List Row} {wd : Str} {ks : List Gr.HK} {k : Gr.HK} (h : k ∈ ks) (e : rowOf rs wd k = none) : k ∈ lostOf rs wd ks := by
  unfold lostOf
  exact List.mem_filter.mpr ⟨h, by simpa using rowOf_none e⟩
theorem WasA.below {hs : List Str} {rs : List Row} {k : Gr.HK} {c : Str → Nat} (h : WasA hs rs k) (B : Book hs rs) (hc : ∀ h ∈ hs, CntA rs h (c h : Nat) ∧ c h ≤ 16) : k ∈ below hs c := by
  obtain ⟨h1, h2, n, h3, h4⟩ := h
  have := cntA_one B h3 (hc _ h1).1
  exact mem_below.mpr ⟨h1, h2, by omega⟩
theorem WasJ.below {hs : List Str} {rs : List Row} {k : Gr.HK} {c : Str → Nat} (h : WasJ hs rs k) (B : Book hs rs) (hc : ∀ h ∈ hs, CntJ rs h (c h : Nat) ∧ c h ≤ 16) : k ∈ below hs c := by
  obtain ⟨h1, h2, n, h3, h4⟩ := h
  have := cntJ_one B h3 (hc _ h1).1
  exact mem_below.mpr ⟨h1, h2, by omega⟩
/-! how many there were, as functions of the rows -/
noncomputable def cnA (rs : List Row) (h : Str) : Nat := open Classical in if e : ∃ n : Nat, CntA rs h (n : Nat) then Classical.choose e else 0
noncomputable def cnJ (rs : List Row) (h : Str) : Nat := open Classical in if e : ∃ n : Nat, CntJ rs h (n : Nat) then Classical.choose e else 0
theorem cnA_of {hs : List Str} {rs : List Row} (B : Book hs rs) {h : Str} {n : Nat} (c : CntA rs h (n : Nat)) : cnA rs h = n := by
  have e : ∃ n : Nat, CntA rs h (n : Nat) := ⟨n, c⟩
  unfold cnA
  rw [dif_pos e]
  have := cntA_one B (Classical.choose_spec e) c
  omega
theorem cnJ_of {hs : List Str} {rs : List Row} (B : Book hs rs) {h : Str} {n : Nat} (c : CntJ rs h (n : Nat)) : cnJ rs h = n := by
  have e : ∃ n : Nat, CntJ rs h (n : Nat) := ⟨n, c⟩
  unfold cnJ
  rw [dif_pos e]
  have := cntJ_one B (Classical.choose_spec e) c
  omega
/-! what is got out of the dicts of the gaps -/
theorem DRow.find {H : Hp} {rs : List Row} {wd : Str} {kvs : List (List Key × V)} (un : Uniq (Bk rs wd)) (d : DRow key2 H (Bk rs wd) kvs) (k : Gr.HK) : (∃ a r, rowOf rs wd k = some r ∧ r.word = wd ∧ valV kvs (Gr.keyOf k) = some (.ref a) ∧ RowAt H a r) ∨ (rowOf rs wd k = none ∧ valV kvs (Gr.keyOf k) = none) := by
  rcases val_row d (Gr.keyOf k) with ⟨a, r, e1, e2, e3, e4⟩ | ⟨e1, e2⟩
  · refine .inl ⟨a, r, ?_, e3.2, e1, e2⟩
    rw [keyOf_inj e4]
    exact rowOf_is un e3
  · refine .inr ⟨?_, e1⟩
    cases e : rowOf rs wd k with
    | none => rfl
    | some t =>
      obtain ⟨h1, h2⟩ := rowOf_some e
      exact absurd (show Gr.keyOf t.key = _ by rw [h2]) (e2 t h1)
theorem SpD.get {H : Hp} {R : Gr.HK → List V → Prop} {ks : List Gr.HK} {kvs : List (List Key × V)} (h : SpD H R ks kvs) {k : Gr.HK} (m : k ∈ ks) : ∃ p us, valV kvs (Gr.keyOf k) = some (.ref p) ∧ H p = some (.tup us) ∧ R k us := by
  cases e : valV kvs (Gr.keyOf k) with
  | none =>
    have mk : Gr.keyOf k ∈ kvs.map (·.1) := by
      rw [h.keys]
      exact List.mem_map.mpr ⟨k, m, rfl⟩
    obtain ⟨x, mx, ex⟩ := List.mem_map.mp mk
    exact absurd (show (Gr.keyOf k, x.2) ∈ kvs by rw [← ex]; exact mx) (val_none e _)
  | some v =>
    obtain ⟨k', p, us, e1, e2, e3, e4⟩ := h.val _ (val_mem e)
    have e2 : v = .ref p := e2
    subst e2
    rw [← keyOf_inj e1] at e4
    exact ⟨p, us, rfl, e3, e4⟩
theorem MoD.get {H : Hp} {R : Str → List V → Prop} {ks : List Str} {kvs : List (Key × V)} (h : MoD H R ks kvs) {k : Str} (m : k ∈ ks) : ∃ p us, valV kvs (Sum.inr k : Key) = some (.ref p) ∧ H p = some (.tup us) ∧ R k us := by
  cases e : valV kvs (Sum.inr k : Key) with
  | none =>
    have mk : (Sum.inr k : Key) ∈ kvs.map (·.1) := by
      rw [h.keys]
      exact List.mem_map.mpr ⟨k, m, rfl⟩
    obtain ⟨x, mx, ex⟩ := List.mem_map.mp mk
    exact absurd (show ((Sum.inr k : Key), x.2) ∈ kvs by rw [← ex]; exact mx) (val_none e _)
  | some v =>
    obtain ⟨k', p, us, e1, e2, e3, e4⟩ := h.val _ (val_mem e)
    have e2 : v = .ref p := e2
    subst e2
    rw [← Sum.inr.inj e1] at e4
    exact ⟨p, us, rfl, e3, e4⟩
theorem MoD.not {H : Hp} {R : Str → List V → Prop} {ks : List Str} {kvs : List (Key × V)} (h : MoD H R ks kvs) {k : Str} (m : k ∉ ks) : valV kvs (Sum.inr k : Key) = none := by
  cases e : valV kvs (Sum.inr k : Key) with
  | none => rfl
  | some v =>
    have : (Sum.inr k : Key) ∈ kvs.map (·.1) := List.mem_map.mpr ⟨_, val_mem e, rfl⟩
    rw [h.keys] at this
    obtain ⟨x, mx, ex⟩ := List.mem_map.mp this
    exact absurd (by rw [← Sum.inr.inj ex]; exact mx) m
/-! ### what may have led to what -/
def sp_is_not_above : Sp := fun vs H Q _ => ∃ a b, vs = [a, b] ∧ TimV a ∧ TimV b ∧ Q (.bl (NA a b)) H
theorem ok_is_not_above (T : Txt K mg af fd) : FnOk P w K mg base CX0 1 (af 30) (fd 30) ["one", "other"] sp_is_not_above := by
  refine T.F_is_not_above.ok sc_is_not_above (fun vs H Q E h => ?_) (fun cdv A outer s H vs Q E hr h => ?_)
  · obtain ⟨a, b, rfl, _⟩ := h
    rfl
  · obtain ⟨a, b, rfl, ha, hb, q⟩ := h
    refine ⟨_, (pss_one (ps_ret (pe_or (pe_cmpR op_isN (pv 0) pe_non (nomark _)) (pe_or (pe_cmpR op_isN (pv 1) pe_non (nomark _)) (pe_one (pe_cmpR op_le (pv 0) (pv 1) (nomark _))))))), ?_⟩
    rcases ha with rfl | ⟨x, rfl⟩
    · exact ⟨_, rfl, rfl, _, rfl, iteTd rfl q⟩
    · rcases hb with rfl | ⟨y, rfl⟩
      · exact ⟨_, rfl, rfl, _, rfl, iteFd (fun z => nomatch z) ⟨_, rfl, rfl, _, rfl, iteTd rfl q⟩⟩
      · exact ⟨_, rfl, rfl, _, rfl, iteFd (fun z => nomatch z) ⟨_, rfl, rfl, _, rfl, iteFd (fun z => nomatch z) ⟨_, rfl, _, rfl, _, _, rfl, rfl, q⟩⟩⟩
/-! the gaps of a book, and a job that there was -/
structure GapsJ (C : Addr) (H : Hp) (g : Addr) (hs : List Str) (rs : List Row) : Prop where
  at_ : GapsAt C H g hs rs
  book : Book hs rs
def sp_latest_begin (C : Addr) : Sp := fun vs H Q _ => ∃ (g b : Addr) (k : Gr.HK) (hs : List Str) (rs : List Row), vs = [.ref g, .ref b] ∧ H b = some (.tup ((Gr.keyOf k).map kV)) ∧ GapsJ C H g hs rs ∧ WasJ hs rs k ∧ (TimV (lateB rs k) → Q (lateB rs k) H)
theorem ok_latest_begin (T : Txt K mg af fd) : FnOk P w K mg base CX0 1 (af 31) (fd 31) ["gaps", "job"] (sp_latest_begin (af 69)) := by
  refine T.F_latest_begin.ok sc_latest_begin (fun vs H Q E h => ?_) (fun cdv A outer s H vs Q E hr h => ?_)
  · obtain ⟨g, b, k, hs, rs, rfl, _⟩ := h
    rfl
  · obtain ⟨g, b, k, hs, rs, rfl, hb, ⟨G, B⟩, hw, q⟩ := h
    refine ⟨_, (pss_cons (ps_if (pt_cmp (pc_din (hu_of hr) (pv 1) (pe_fld (pv 0) rfl))) (pss_one (ps_ret (pe_ix ix_tup (pe_dget (hu_of hr) (pe_fld (pv 0) rfl) (pv 1) (fun _ _ => rfl)) pe_int (fun _ _ => rfl)))) pss_nil)
        (pss_one (ps_ret (pe_ix ix_tup (pe_dget (hu_of hr) (pe_fld (pv 0) rfl) (pv 1) (fun _ _ => rfl)) pe_int (fun _ _ => rfl))))), ?_⟩
    obtain ⟨dx, d, fs, kvs, l1, l2, l3, l4, l5⟩ := G.low.j.ex
    refine ⟨_, rfl, _, rfl, g, _, dx, fs, _, rfl, l1, T.o_Gaps.c, T.o_Gaps.no _ (by simp), l2, d, _, rfl, DGet.t (k := Gr.keyOf k) l3 hb, _, rfl, ?_⟩
    rcases l4.find G.low.j.un k with ⟨a, r, e1, e2, e3, e4⟩ | ⟨e1, e3⟩
    · rw [e3]
      refine iteT ⟨_, rfl, g, _, dx, fs, _, rfl, l1, T.o_Gaps.c, T.o_Gaps.no _ (by simp), l2, _, rfl, d, _, rfl, (by rw [← e3]; exact DGet.t (k := Gr.keyOf k) l3 hb), a, _, 3, _, rfl, rfl, SqT.of e4, at3 r, ?_⟩
      have e : lateB rs k = .int r.x3 := by unfold lateB; rw [e1]
      rw [e] at q
      exact q (.inr ⟨_, rfl⟩)
    · rw [e3]
      obtain ⟨dx', d1, d2, d3, fs', k1, k2, k3, cA, cJ, g1, c1, c2, m1, m2, m3, m4, m5, m6, m7, m8, m9⟩ := G.more
      cases l1.symm.trans g1
      obtain ⟨p, us, v1, v2, lo, hi, la, rfl, v3⟩ := m6.get (lost_in (hw.below B c2) e1)
      refine iteF ⟨_, rfl, g, _, dx, fs, _, rfl, l1, T.o_Gaps.c, T.o_Gaps.no _ (by simp), m4, _, rfl, d2, _, rfl, (by rw [← v1]; exact DGet.t (k := Gr.keyOf k) m5 hb), p, _, 1, _, rfl, rfl, SqT.of v2, rfl, ?_⟩
      have e : lateB rs k = hi := by unfold lateB; rw [e1]; exact (spJ_fun v3).2.1.symm
      rw [e] at q
      exact q (leS_tim v3.2.1)
def sp_in_time (C : Addr) : Sp := fun vs H Q _ => ∃ (g b : Addr) (o e : Int) (k : Gr.HK) (hs : List Str) (rs : List Row), vs = [.ref g, .int o, .int e, .ref b] ∧ H b = some (.tup ((Gr.keyOf k).map kV)) ∧ GapsJ C H g hs rs ∧ WasJ hs rs k ∧ Q (.bl (inTime rs o e k)) H
theorem ok_can_lead_in_time (T : Txt K mg af fd) : FnOk P w K mg base CX0 2 (af 32) (fd 32) ["gaps", "out", "back", "job"] (sp_in_time (af 69)) := by
  refine T.F_can_lead_in_time.ok sc_can_lead_in_time (fun vs H Q E h => ?_) (fun cdv A outer s H vs Q E hr h => ?_)
  · obtain ⟨g, b, o, e, k, hs, rs, rfl, _⟩ := h
    rfl
  · obtain ⟨g, b, o, e, k, hs, rs, rfl, hb, ⟨G, B⟩, hw, q⟩ := h
    refine ⟨_, (pss_cons (ps_if (pt_cmp (pc_din (hu_of hr) (pv 3) (pe_fld (pv 0) rfl))) (pss_cons (ps_par (i := 4) (j := 5) (by rfl) sc_can_lead_in_time.nd rfl rfl (by decide) rfl rfl (pa_cons (pe_ix ix_tup (pe_dget (hu_of hr) (pe_fld (pv 0) rfl) (pv 3) (fun _ _ => rfl)) pe_int (fun _ _ => rfl)) (pa_cons (pe_ix ix_tup (pe_dget (hu_of hr) (pe_fld (pv 0) rfl) (pv 3) (fun _ _ => rfl)) pe_int (fun _ _ => rfl)) pa_nil)) (by rfl))
        (pss_one (ps_ret (pe_and (pe_cmpR op_le (pv 1) (pv 4) (nomark _)) (pe_one (pe_cmpR op_le (pv 5) (pv 2) (nomark _))))))) pss_nil)
        (pss_cons (ps_asg (pe_dget (hu_of hr) (pe_fld (pv 0) rfl) (pv 3) (fun _ _ => rfl)) (pg_tup rfl (pgs_cons (pg_name (i := 6) sc_can_lead_in_time.nd rfl (by first | exact Or.inl rfl | exact Or.inr rfl)) (pgs_cons (pg_name (i := 7) sc_can_lead_in_time.nd rfl (by first | exact Or.inl rfl | exact Or.inr rfl)) (pgs_cons (pg_name (i := 8) sc_can_lead_in_time.nd rfl (by first | exact Or.inl rfl | exact Or.inr rfl)) pgs_nil)))))
        (pss_cons (ps_set (i := 9) sc_can_lead_in_time.nd rfl (by first | exact Or.inl rfl | exact Or.inr rfl) (pe_and (pe_call (ok_is_not_above T) (hr.mono (by first | decide | omega)) (by rfl) T.g_is_not_above T.F_is_not_above.kp T.b_is_not_above .nil pass0 (pa_cons (pv 6) (pa_cons (pv 2) pa_nil))) (pe_one (pe_call (ok_is_not_above T) (hr.mono (by first | decide | omega)) (by rfl) T.g_is_not_above T.F_is_not_above.kp T.b_is_not_above .nil pass0 (pa_cons (pv 1) (pa_cons (pv 7) pa_nil))))))
        (pss_one (ps_ret (pe_and (pv 9) (pe_one (pe_or (pe_cmpR op_isN (pv 8) pe_non (nomark _)) (pe_one (pe_cmpR op_lt (pv 8) (pv 2) (nomark _))))))))))), ?_⟩
    obtain ⟨dx, d, fs, kvs, l1, l2, l3, l4, l5⟩ := G.low.j.ex
    refine ⟨_, rfl, _, rfl, g, _, dx, fs, _, rfl, l1, T.o_Gaps.c, T.o_Gaps.no _ (by simp), l2, d, _, rfl, DGet.t (k := Gr.keyOf k) l3 hb, _, rfl, ?_⟩
    rcases l4.find G.low.j.un k with ⟨a, r, e1, e2, e3, e4⟩ | ⟨e1, e3⟩
    · rw [e3]
      refine iteT ⟨_, rfl, g, _, dx, fs, _, rfl, l1, T.o_Gaps.c, T.o_Gaps.no _ (by simp), l2, _, rfl, d, _, rfl, (by rw [← e3]; exact DGet.t (k := Gr.keyOf k) l3 hb), a, _, 3, _, rfl, rfl, SqT.of e4, at3 r, ?_⟩
      refine ⟨_, rfl, g, _, dx, fs, _, rfl, l1, T.o_Gaps.c, T.o_Gaps.no _ (by simp), l2, _, rfl, d, _, rfl, (by rw [← e3]; exact DGet.t (k := Gr.keyOf k) l3 hb), a, _, 4, _, rfl, rfl, SqT.of e4, at4j e2, ?_⟩
      have ev : inTime rs o e k = (decide (o ≤ r.x3) && decide (r.x4 ≤ e)) := by unfold inTime; rw [e1]
      rw [ev] at q
      refine ⟨_, _, rfl, _, rfl, _, rfl, _, _, rfl, rfl, _, rfl, ite2 (fun z => ?_) (fun z => ?_)⟩
      · rw [z, Bool.true_and] at q
        exact ⟨_, rfl, _, rfl, _, _, rfl, rfl, q⟩
      · rw [show decide (o ≤ r.x3) = false by simpa using z, Bool.false_and] at q
        exact q
    · rw [e3]
      obtain ⟨dx', d1, d2, d3, fs', k1, k2, k3, cA, cJ, g1, c1, c2, m1, m2, m3, m4, m5, m6, m7, m8, m9⟩ := G.more
      cases l1.symm.trans g1
      obtain ⟨p, us, v1, v2, lo, hi, la, rfl, v3⟩ := m6.get (lost_in (hw.below B c2) e1)
      refine iteF ⟨_, rfl, g, _, dx, fs, _, rfl, l1, T.o_Gaps.c, T.o_Gaps.no _ (by simp), m4, _, rfl, d2, _, rfl, (by rw [← v1]; exact DGet.t (k := Gr.keyOf k) m5 hb), p, _, rfl, SqT.of v2, rfl, _, _, rfl, _, _, rfl, _, _, rfl, rfl, ?_⟩
      obtain ⟨w1, w2, w3⟩ := spJ_fun v3
      have ev : inTime rs o e k = (NA lo (.int e) && NA (.int o) hi && NLt la e) := by unfold inTime; rw [e1, ← w1, ← w2, ← w3]
      rw [ev] at q
      have t1 := geS_tim v3.1
      have t2 := leS_tim v3.2.1
      have t3 := geS_tim v3.2.2
      refine ⟨_, rfl, _, rfl, lo, .int e, rfl, t1, .inr ⟨_, rfl⟩, _, rfl, ite2 (fun z => ?_) (fun z => ?_)⟩
      · rw [z, Bool.true_and] at q
        refine ⟨_, rfl, _, rfl, .int o, hi, rfl, .inr ⟨_, rfl⟩, t2, _, rfl, _, rfl, ite2 (fun z => ?_) (fun z => ?_)⟩
        · rw [z, Bool.true_and] at q
          rcases t3 with rfl | ⟨x, rfl⟩
          · exact ⟨_, rfl, rfl, _, rfl, iteTd rfl q⟩
          · exact ⟨_, rfl, rfl, _, rfl, iteFd (fun z => nomatch z) ⟨_, rfl, _, rfl, _, _, rfl, rfl, q⟩⟩
        · rw [show NA (.int o) hi = false by simpa using z, Bool.false_and] at q
          exact q
      · rw [show NA lo (.int e) = false by simpa using z, Bool.false_and, Bool.false_and] at q
        exact ⟨_, rfl, _, rfl, iteF q⟩
def sp_can_lead (C : Addr) : Sp := fun vs H Q _ => ∃ (g b c : Addr) (a j : Gr.HK) (hs : List Str) (rs : List Row), vs = [.ref g, .ref b, .ref c] ∧ H b = some (.tup ((Gr.keyOf a).map kV)) ∧ H c = some (.tup ((Gr.keyOf j).map kV)) ∧ GapsJ C H g hs rs ∧ WasA hs rs a ∧ WasJ hs rs j ∧ Q (.bl (mayB rs a j)) H
theorem ok_can_lead (T : Txt K mg af fd) : FnOk P w K mg base CX0 3 (af 33) (fd 33) ["gaps", "ask", "job"] (sp_can_lead (af 69)) := by
  refine T.F_can_lead.ok sc_can_lead (fun vs H Q E h => ?_) (fun cdv A outer s H vs Q E hr h => ?_)
  · obtain ⟨g, b, c, a, j, hs, rs, rfl, _⟩ := h
    rfl
  · obtain ⟨g, b, c, a, j, hs, rs, rfl, hb, hc, ⟨G, B⟩, wa, wj, q⟩ := h
    refine ⟨_, (pss_cons (ps_if (pt_cmp (pc_din (hu_of hr) (pv 1) (pe_fld (pv 0) rfl))) (pss_cons (ps_set (i := 3) sc_can_lead.nd rfl (by first | exact Or.inl rfl | exact Or.inr rfl) (pe_dget (hu_of hr) (pe_fld (pv 0) rfl) (pv 1) (fun _ _ => rfl)))
        (pss_one (ps_ret (pe_and (pe_cmpR op_eq (pe_ix ix_tup (pv 2) pe_int (fun _ _ => rfl)) (pe_ix ix_tup (pv 3) pe_int (fun _ _ => rfl)) (nomark _)) (pe_one (pe_call (ok_can_lead_in_time T) (hr.mono (by first | decide | omega)) (by rfl) T.g_can_lead_in_time T.F_can_lead_in_time.kp T.b_can_lead_in_time .nil pass0 (pa_cons (pv 0) (pa_cons (pe_ix ix_tup (pv 3) pe_int (fun _ _ => rfl)) (pa_cons (pe_ix ix_tup (pv 3) pe_int (fun _ _ => rfl)) (pa_cons (pv 2) pa_nil)))))))))) pss_nil)
        (pss_cons (ps_set (i := 4) sc_can_lead.nd rfl (by first | exact Or.inl rfl | exact Or.inr rfl) (pe_ix ix_tup (pe_dget (hu_of hr) (pe_fld (pv 0) rfl) (pv 1) (fun _ _ => rfl)) pe_int (fun _ _ => rfl)))
        (pss_one (ps_ret (pe_call (ok_is_not_above T) (hr.mono (by first | decide | omega)) (by rfl) T.g_is_not_above T.F_is_not_above.kp T.b_is_not_above .nil pass0 (pa_cons (pv 4) (pa_cons (pe_call (ok_latest_begin T) (hr.mono (by first | decide | omega)) (by rfl) T.g_latest_begin T.F_latest_begin.kp T.b_latest_begin .nil pass0 (pa_cons (pv 0) (pa_cons (pv 2) pa_nil))) pa_nil))))))), ?_⟩
    obtain ⟨dx, d, fs, kvs, l1, l2, l3, l4, l5⟩ := G.low.a.ex
    refine ⟨_, rfl, _, rfl, g, _, dx, fs, _, rfl, l1, T.o_Gaps.c, T.o_Gaps.no _ (by simp), l2, d, _, rfl, DGet.t (k := Gr.keyOf a) l3 hb, _, rfl, ?_⟩
    rcases l4.find G.low.a.un a with ⟨x, r, e1, e2, e3, e4⟩ | ⟨e1, e3⟩
    · rw [e3]
      refine iteT ⟨_, rfl, g, _, dx, fs, _, rfl, l1, T.o_Gaps.c, T.o_Gaps.no _ (by simp), l2, _, rfl, d, _, rfl, (by rw [← e3]; exact DGet.t (k := Gr.keyOf a) l3 hb), ?_⟩
      have ev : mayB rs a j = (decide (j.1 = r.g) && inTime rs r.x5 r.x6 j) := by unfold mayB; rw [e1]
      rw [ev] at q
      refine ⟨_, rfl, c, _, 0, _, rfl, rfl, SqT.of hc, rfl, _, rfl, x, _, 4, _, rfl, rfl, SqT.of e4, at4a e2, rfl, _, rfl, ?_⟩
      have ed : decide (kV (Sum.inr j.1) = V.str r.g) = decide (j.1 = r.g) := decide_eq_decide.mpr ⟨fun z => V.str.inj z, fun z => congrArg V.str z⟩
      show if decide (kV (Sum.inr j.1) = V.str r.g) = true then _ else _
      rw [ed]
      refine ite2 (fun z => ?_) (fun z => ?_)
      · rw [z, Bool.true_and] at q
        exact ⟨_, rfl, _, rfl, x, _, 5, _, rfl, rfl, SqT.of e4, at5 e2, _, rfl, x, _, 6, _, rfl, rfl, SqT.of e4, at6 e2, _, rfl, g, c, _, _, j, hs, rs, rfl, hc, ⟨G, B⟩, wj, q⟩
      · rw [show decide (j.1 = r.g) = false by simpa using z, Bool.false_and] at q
        exact q
    · rw [e3]
      obtain ⟨dx', d1, d2, d3, fs', k1, k2, k3, cA, cJ, g1, c1, c2, m1, m2, m3, m4, m5, m6, m7, m8, m9⟩ := G.more
      cases l1.symm.trans g1
      obtain ⟨p, us, v1, v2, lo, hi, rfl, v3⟩ := m3.get (lost_in (wa.below B c1) e1)
      refine iteF ⟨_, rfl, g, _, dx, fs, _, rfl, l1, T.o_Gaps.c, T.o_Gaps.no _ (by simp), m1, _, rfl, d1, _, rfl, (by rw [← v1]; exact DGet.t (k := Gr.keyOf a) m2 hb), p, _, 0, _, rfl, rfl, SqT.of v2, rfl, ?_⟩
      have ev : mayB rs a j = NA lo (lateB rs j) := by unfold mayB; rw [e1, ← (spA_fun v3).1]
      rw [ev] at q
      refine ⟨_, rfl, _, rfl, _, rfl, g, c, j, hs, rs, rfl, hc, ⟨G, B⟩, wj, fun tl => ⟨lo, _, rfl, geS_tim v3.1, tl, q⟩⟩
def sp_to_more (C : Addr) : Sp := fun vs H Q _ => ∃ (g b : Addr) (a : Gr.HK) (hs : List Str) (rs : List Row), vs = [.ref g, .ref b] ∧ H b = some (.tup ((Gr.keyOf a).map kV)) ∧ GapsJ C H g hs rs ∧ Q (.bl (moreJ hs rs a)) H
theorem ok_can_lead_to_more (T : Txt K mg af fd) : FnOk P w K mg base CX0 2 (af 34) (fd 34) ["gaps", "ask"] (sp_to_more (af 69)) := by
  refine T.F_can_lead_to_more.ok sc_can_lead_to_more (fun vs H Q E h => ?_) (fun cdv A outer s H vs Q E hr h => ?_)
  · obtain ⟨g, b, a, hs, rs, rfl, _⟩ := h
    rfl
  · obtain ⟨g, b, a, hs, rs, rfl, hb, ⟨G, B⟩, q⟩ := h
    refine ⟨_, (pss_cons (ps_if (pt_cmp (pc_din (hu_of hr) (pv 1) (pe_fld (pv 0) rfl))) (pss_cons (ps_set (i := 2) sc_can_lead_to_more.nd rfl (by first | exact Or.inl rfl | exact Or.inr rfl) (pe_dget (hu_of hr) (pe_fld (pv 0) rfl) (pv 1) (fun _ _ => rfl)))
        (pss_one (ps_ret (pe_and (pe_cmp (pc_din (hu_of hr) (pe_ix ix_tup (pv 2) pe_int (fun _ _ => rfl)) (pe_fld (pv 0) rfl))) (pe_one (pe_call (ok_is_not_above T) (hr.mono (by first | decide | omega)) (by rfl) T.g_is_not_above T.F_is_not_above.kp T.b_is_not_above .nil pass0 (pa_cons (pe_ix ix_tup (pe_dget (hu_of hr) (pe_fld (pv 0) rfl) (pe_ix ix_tup (pv 2) pe_int (fun _ _ => rfl)) (fun _ _ => rfl)) pe_int (fun _ _ => rfl)) (pa_cons (pe_ix ix_tup (pv 2) pe_int (fun _ _ => rfl)) pa_nil)))))))) pss_nil)
        (pss_one (ps_ret (pe_cmpR op_gt (pe_callB call_lenD (by rfl) T.m_len (by decide +kernel) (pa_cons (pe_fld (pv 0) rfl) pa_nil)) pe_int (nomark _))))), ?_⟩
    obtain ⟨dx, d, fs, kvs, l1, l2, l3, l4, l5⟩ := G.low.a.ex
    obtain ⟨dx', d1, d2, d3, fs', k1, k2, k3, cA, cJ, g1, c1, c2, m1, m2, m3, m4, m5, m6, m7, m8, m9⟩ := G.more
    cases l1.symm.trans g1
    refine ⟨_, rfl, _, rfl, g, _, dx, fs, _, rfl, l1, T.o_Gaps.c, T.o_Gaps.no _ (by simp), l2, d, _, rfl, DGet.t (k := Gr.keyOf a) l3 hb, _, rfl, ?_⟩
    rcases l4.find G.low.a.un a with ⟨x, r, e1, e2, e3, e4⟩ | ⟨e1, e3⟩
    · rw [e3]
      refine iteT ⟨_, rfl, g, _, dx, fs, _, rfl, l1, T.o_Gaps.c, T.o_Gaps.no _ (by simp), l2, _, rfl, d, _, rfl, (by rw [← e3]; exact DGet.t (k := Gr.keyOf a) l3 hb), ?_⟩
      have ev : moreJ hs rs a = (decide (r.g ∈ openOf rs hs) && NA (mrJ rs r.g) (.int r.x6)) := by unfold moreJ; rw [e1]
      rw [ev] at q
      refine ⟨_, rfl, x, _, 4, _, rfl, rfl, SqT.of e4, at4a e2, _, rfl, g, _, dx, fs, _, rfl, l1, T.o_Gaps.c, T.o_Gaps.no _ (by simp), m7, d3, _, rfl, DGet.k (k := Sum.inr r.g) m8, _, rfl, ?_⟩
      by_cases ho : r.g ∈ openOf rs hs
      · obtain ⟨p, us, v1, v2, ta, tj, rfl, v3⟩ := m9.get ho
        rw [v1]
        rw [decide_eq_true ho, Bool.true_and, ← (mr_fun v3).2] at q
        exact iteT ⟨_, rfl, g, _, dx, fs, _, rfl, l1, T.o_Gaps.c, T.o_Gaps.no _ (by simp), m7, _, rfl, x, _, 4, _, rfl, rfl, SqT.of e4, at4a e2, d3, _, rfl, (by rw [← v1]; exact DGet.k (k := Sum.inr r.g) m8), p, _, 1, _, rfl, rfl, SqT.of v2, rfl, _, rfl, x, _, 6, _, rfl, rfl, SqT.of e4, at6 e2, tj, _, rfl, geS_tim v3.2, .inr ⟨_, rfl⟩, q⟩
      · rw [m9.not ho]
        rw [decide_eq_false ho, Bool.false_and] at q
        exact iteF q
    · rw [e3]
      have ev : moreJ hs rs a = decide (openOf rs hs ≠ []) := by unfold moreJ; rw [e1]
      rw [ev] at q
      have el : k3.length = (openOf rs hs).length := by
        have := congrArg List.length m9.keys
        rwa [List.length_map, List.length_map] at this
      refine iteF ⟨_, rfl, g, _, dx, fs, _, rfl, l1, T.o_Gaps.c, T.o_Gaps.no _ (by simp), m7, d3, _, rfl, m8, _, _, rfl, rfl, ?_⟩
      show Q (.bl (decide ((0 : Int) < (k3.length : Int)))) H
      rw [show decide ((0 : Int) < (k3.length : Int)) = decide (openOf rs hs ≠ []) from decide_eq_decide.mpr ?_]
      · exact q
      · rw [el]
        cases openOf rs hs with
        | nil => simp
        | cons x y => simp
theorem tab_lock {H : Hp} {P d : Addr} {kvs : List (Key × V)} {o : HO} (t : GxR.TabG H P) (h : H d = some (.dK kvs)) : GxR.TabG (upd H d o) P := by
  obtain ⟨ps, e, tr⟩ := t
  exact ⟨ps, by rw [upd_ne (ne_of e h (fun z => nomatch z))]; exact e, tr⟩
theorem Sm.unlock {H H2 : Hp} {d : Addr} {od : Obj} {kvs : List (Key × V)} (h : H d = some (.dK kvs)) (s : Sm (upd H d (.frz od (.dK kvs))) H2) : Sm H (upd H2 d (.dK kvs)) := by
  refine ⟨fun b o e n => ?_, fun b ps e => ?_⟩
  · by_cases hb : b = d
    · subst hb
      rw [upd_same, ← h]
      exact e
    · rw [upd_ne hb]
      exact s.keep b o (by rw [upd_ne hb]; exact e) n
  · have hb : b ≠ d := ne_of e h (fun z => nomatch z)
    rw [upd_ne hb]
    exact s.tab b ps (by rw [upd_ne hb]; exact e)
def sp_of_more (af : Nat → Addr) (C : Addr) : Sp := fun vs H Q _ => ∃ (g b : Addr) (j : Gr.HK) (hs : List Str) (rs : List Row), vs = [.ref g, .ref b] ∧ H b = some (.tup ((Gr.keyOf j).map kV)) ∧ GapsJ C H g hs rs ∧ WasJ hs rs j ∧ Tbs af H ∧ ∀ H', Sm H H' → Q (.bl (moreA hs rs j)) H'
theorem ok_can_come_of_more (T : Txt K mg af fd) (B : TxtB base mg af) : FnOk P w K mg base CX0 3 (af 35) (fd 35) ["gaps", "job"] (sp_of_more af (af 69)) := by
  refine Gx.okC T.F_can_come_of_more T.d_can_come_of_more sc_can_come_of_more (fun vs H Q E h => ?_) (fun A outer s H vs Q E hr h => ?_)
  · obtain ⟨g, b, j, hs, rs, rfl, _⟩ := h
    rfl
  · obtain ⟨g, b, j, hs, rs, rfl, hb, G, wj, tb, q⟩ := h
    refine ⟨_, (pss_cons (ps_set (i := 2) sc_can_come_of_more.nd rfl (by first | exact Or.inl rfl | exact Or.inr rfl) (pe_call (ok_latest_begin T) (hr.mono (by first | decide | omega)) (by rfl) T.g_latest_begin T.F_latest_begin.kp T.b_latest_begin .nil pass0 (pa_cons (pv 0) (pa_cons (pv 1) pa_nil))))
        (pss_one (ps_ret (pe_lock (Gx.pe_any (k := 1) (own := [("times", 3)]) (gt := gName 3) (hr.mono (by first | decide | omega)) (by rfl) T.m_any B.t_can_come_of_more rfl sc_can_come_of_more.nd (pi_values (pe_fld (pv 0) rfl)) (blkOk_by (own := [("times", 3)]) (N := ["gaps", "job", "begin", "times"]) (sc := defScope s_can_come_of_more) (by decide +kernel)) (fun _ _ _ _ _ _ _ hr => pg_name (i := 3) sc_can_come_of_more.nd rfl (Or.inl rfl)) (fun _ _ _ _ _ _ _ hr => (pe_call (ok_is_not_above T) (hr.mono (by first | decide | omega)) (by rfl) T.g_is_not_above T.F_is_not_above.kp T.b_is_not_above .nil pass0 (pa_cons (pe_ix (show IxR _ (rIxT K) from ix_tup) (pv 3) pe_int (fun _ _ => rfl)) (pa_cons (pv 2) pa_nil))))))))), ?_⟩
    refine ⟨_, rfl, _, rfl, g, b, j, hs, rs, rfl, hb, G, wj, fun tl => ?_⟩
    obtain ⟨dx', d1, d2, d3, fs, k1, k2, k3, cA, cJ, g1, c1, c2, m1, m2, m3, m4, m5, m6, m7, m8, m9⟩ := G.at_.more
    have ngd : g ≠ d3 := ne_of g1 m8 (fun z => nomatch z)
    refine ⟨d3, _, m8, trivial, fun od => ?_⟩
    refine ⟨_, rfl, g, _, dx', fs, _, rfl, (by rw [upd_ne ngd]; exact g1), T.o_Gaps.c, T.o_Gaps.no _ (by simp), m7, d3, od, k3, rfl, upd_same, tab_lock (tb _ (by decide)) m8, fun H2 tb2 => ?_⟩
    have s2 := Sm.tabbed (tab_lock (tb _ (by decide)) m8) tb2
    have hd2 : H2 d3 = some (.frz od (.dK k3)) := s2.keep _ _ upd_same (fun _ z => nomatch z)
    have sq : Sm H (upd H2 d3 (.dK k3)) := Sm.unlock m8 s2
    refine Gx.gx_it (walk_values (d := d3) (o := od) (kvs := k3)) (fun i H' => H' = H2 ∧ ∀ h ∈ (openOf rs hs).take i, NA (mrA rs h) (lateB rs j) = false) ⟨rfl, fun h m => by rw [List.take_zero] at m; exact nomatch m⟩ (fun _ _ _ z => by rw [z.1]; exact hd2) ?_ ?_
    · rintro i v H3 H4 hi ⟨rfl, hall⟩ ⟨rfl, k, hk⟩
      obtain ⟨h, p, us, e1, e2, e3, ta, tj, rfl, e4⟩ := m9.val _ (List.mem_of_getElem? hk)
      have e2 : v = .ref p := e2
      have e1 : k = Sum.inr h := e1
      subst e2 e1
      have eh : (openOf rs hs)[i]? = some h := by
        have := congrArg (fun l => l[i]?) m9.keys
        rw [List.getElem?_map, List.getElem?_map, hk] at this
        cases e : (openOf rs hs)[i]? with
        | none => rw [e] at this; cases this
        | some x =>
          rw [e] at this
          have := Option.some.inj this
          rw [Sum.inr.inj this]
      have hp : H4 p = some (.tup [ta, tj]) := s2.tup (by rw [upd_ne (ne_of e3 m8 (fun z => nomatch z))]; exact e3)
      refine ⟨rfl, _, rfl, p, _, 0, _, rfl, rfl, SqT.of hp, rfl, _, rfl, ta, _, rfl, geS_tim e4.1, tl, _, rfl, ?_⟩
      rw [(mr_fun e4).1]
      refine ite2 (fun z => ?_) (fun z => ?_)
      · refine ⟨hd2, ?_⟩
        have em : moreA hs rs j = true := List.any_eq_true.mpr ⟨h, List.mem_of_getElem? eh, z⟩
        have := q _ sq
        rw [em] at this
        exact this
      · refine ⟨rfl, fun x m => ?_⟩
        rw [take_snoc eh] at m
        rcases List.mem_append.mp m with m | m
        · exact hall x m
        · rw [List.mem_singleton.mp m]
          simpa using z
    · rintro H3 ⟨rfl, hall⟩
      have el : k3.length = (openOf rs hs).length := by
        have := congrArg List.length m9.keys
        rwa [List.length_map, List.length_map] at this
      rw [el, List.take_length] at hall
      refine ⟨hd2, ?_⟩
      have em : moreA hs rs j = false := List.any_eq_false.mpr fun x m => by rw [hall x m]; decide
      have := q _ sq
      rw [em] at this
      exact this
/-! the three of the interface -/
def sp_may (af : Nat → Addr) (CN CC : Addr) : Sp := fun vs H Q E => ∃ (Ex : Addr → Prop) (t l b c : Addr) (a j : Gr.HK) (hs gs : List Str) (xs : List V) (ds : List PyData), vs = [.ref t, .ref l, .ref b, .ref c] ∧ Ask Ex H t l hs gs xs ds ∧ H b = some (.tup ((Gr.keyOf a).map kV)) ∧ H c = some (.tup ((Gr.keyOf j).map kV)) ∧
  (∀ rs : List Row, Book hs rs → ds = rs.map rowD → WasA hs rs a ∧ WasJ hs rs j) ∧ (∀ (rs : List Row) (H' : Hp), Same H H' → RowsD hs ds ds.length → NoClash ds ds.length → Book hs rs → ds = rs.map rowD → Q (.bl (mayB rs a j)) H') ∧ Refuse CN CC H hs ds E
theorem ok_may_lead (T : Txt K mg af fd) : FnOk P w K mg base (L2.CX P w) 9 (af 36) (fd 36) ["town", "rows", "ask", "job"] (sp_may af (af 65) (af 67)) := by
  refine T.F_may_lead.okX sc_may_lead (fun vs H Q E h => ?_) (fun cdv A outer s H vs Q E hr h => ?_)
  · obtain ⟨Ex, t, l, b, c, a, j, hs, gs, xs, ds, rfl, _⟩ := h
    rfl
  · obtain ⟨Ex, t, l, b, c, a, j, hs, gs, xs, ds, rfl, hA, hb, hc, hw, q, r⟩ := h
    refine ⟨_, (pss_one (ps_ret (pe_call (ok_can_lead T) (hr.mono (by first | decide | omega)) (by rfl) T.g_can_lead T.F_can_lead.kp T.b_can_lead .nil pass0 (pa_cons (pe_call (ok_gaps_of T) (hr.mono (by first | decide | omega)) (by rfl) T.g_gaps_of T.F_gaps_of.kp T.b_gaps_of .nil (passes_call (takes_of rfl rfl rfl rfl) (fun _ _ _ _ h => h)) (pa_cons (pv 0) (pa_cons (pv 1) pa_nil))) (pa_cons (pv 2) (pa_cons (pv 3) pa_nil)))))), ?_⟩
    refine ⟨_, rfl, _, rfl, Ex, t, l, hs, gs, xs, ds, rfl, hA, (fun rs x H' s1 h1 h2 B hd G _ => ?_), r⟩
    have hww := hw rs B hd
    exact ⟨_, rfl, _, rfl, x, b, c, a, j, hs, rs, rfl, s1 _ _ hb, s1 _ _ hc, ⟨G, B⟩, hww.1, hww.2, q rs H' s1 h1 h2 B hd⟩
def sp_more_jobs (CN CC : Addr) : Sp := fun vs H Q E => ∃ (Ex : Addr → Prop) (t l b : Addr) (a : Gr.HK) (hs gs : List Str) (xs : List V) (ds : List PyData), vs = [.ref t, .ref l, .ref b] ∧ Ask Ex H t l hs gs xs ds ∧ H b = some (.tup ((Gr.keyOf a).map kV)) ∧
  (∀ (rs : List Row) (H' : Hp), Same H H' → RowsD hs ds ds.length → NoClash ds ds.length → Book hs rs → ds = rs.map rowD → Q (.bl (moreJ hs rs a)) H') ∧ Refuse CN CC H hs ds E
theorem ok_more_jobs (T : Txt K mg af fd) : FnOk P w K mg base (L2.CX P w) 9 (af 37) (fd 37) ["town", "rows", "ask"] (sp_more_jobs (af 65) (af 67)) := by
  refine T.F_more_jobs.okX sc_more_jobs (fun vs H Q E h => ?_) (fun cdv A outer s H vs Q E hr h => ?_)
  · obtain ⟨Ex, t, l, b, a, hs, gs, xs, ds, rfl, _⟩ := h
    rfl
  · obtain ⟨Ex, t, l, b, a, hs, gs, xs, ds, rfl, hA, hb, q, r⟩ := h
    refine ⟨_, (pss_one (ps_ret (pe_call (ok_can_lead_to_more T) (hr.mono (by first | decide | omega)) (by rfl) T.g_can_lead_to_more T.F_can_lead_to_more.kp T.b_can_lead_to_more .nil pass0 (pa_cons (pe_call (ok_gaps_of T) (hr.mono (by first | decide | omega)) (by rfl) T.g_gaps_of T.F_gaps_of.kp T.b_gaps_of .nil (passes_call (takes_of rfl rfl rfl rfl) (fun _ _ _ _ h => h)) (pa_cons (pv 0) (pa_cons (pv 1) pa_nil))) (pa_cons (pv 2) pa_nil))))), ?_⟩
    refine ⟨_, rfl, _, rfl, Ex, t, l, hs, gs, xs, ds, rfl, hA, (fun rs x H' s1 h1 h2 B hd G _ => ?_), r⟩
    exact ⟨_, rfl, x, b, a, hs, rs, rfl, s1 _ _ hb, ⟨G, B⟩, q rs H' s1 h1 h2 B hd⟩
def sp_more_asks (af : Nat → Addr) (CN CC : Addr) : Sp := fun vs H Q E => ∃ (Ex : Addr → Prop) (t l b : Addr) (j : Gr.HK) (hs gs : List Str) (xs : List V) (ds : List PyData), vs = [.ref t, .ref l, .ref b] ∧ Ask Ex H t l hs gs xs ds ∧ H b = some (.tup ((Gr.keyOf j).map kV)) ∧ Tbs af H ∧
  (∀ rs : List Row, Book hs rs → ds = rs.map rowD → WasJ hs rs j) ∧ (∀ (rs : List Row) (H' : Hp), Sm H H' → RowsD hs ds ds.length → NoClash ds ds.length → Book hs rs → ds = rs.map rowD → Q (.bl (moreA hs rs j)) H') ∧ Refuse CN CC H hs ds E
theorem ok_more_asks (T : Txt K mg af fd) (B : TxtB base mg af) : FnOk P w K mg base (L2.CX P w) 9 (af 38) (fd 38) ["town", "rows", "job"] (sp_more_asks af (af 65) (af 67)) := by
  refine T.F_more_asks.okX sc_more_asks (fun vs H Q E h => ?_) (fun cdv A outer s H vs Q E hr h => ?_)
  · obtain ⟨Ex, t, l, b, j, hs, gs, xs, ds, rfl, _⟩ := h
    rfl
  · obtain ⟨Ex, t, l, b, j, hs, gs, xs, ds, rfl, hA, hb, tb, hw, q, r⟩ := h
    refine ⟨_, (pss_one (ps_ret (pe_call (ok_can_come_of_more T B) (hr.mono (by first | decide | omega)) (by rfl) T.g_can_come_of_more T.F_can_come_of_more.kp T.b_can_come_of_more .nil pass0 (pa_cons (pe_call (ok_gaps_of T) (hr.mono (by first | decide | omega)) (by rfl) T.g_gaps_of T.F_gaps_of.kp T.b_gaps_of .nil (passes_call (takes_of rfl rfl rfl rfl) (fun _ _ _ _ h => h)) (pa_cons (pv 0) (pa_cons (pv 1) pa_nil))) (pa_cons (pv 2) pa_nil))))), ?_⟩
    refine ⟨_, rfl, _, rfl, Ex, t, l, hs, gs, xs, ds, rfl, hA, (fun rs x H' s1 h1 h2 Bb hd G _ => ?_), r⟩
    exact ⟨_, rfl, x, b, j, hs, rs, rfl, s1 _ _ hb, ⟨G, Bb⟩, hw rs Bb hd, tb.same s1, fun H2 s2 => q rs H2 ((Sm.of s1).trans s2) h1 h2 Bb hd⟩
/-! ### dicts of rows by their numbers, walked by their keys -/
def keyK (r : Row) : Key := .inl r.k
theorem val_of_mem {κ : Type} [DecidableEq κ] : ∀ {kvs : List (κ × V)} {k : κ} {v : V}, (kvs.map (·.1)).Nodup → (k, v) ∈ kvs → valV kvs k = some v
  | p :: r, k, v, nd, m => by
    rw [List.map_cons, List.nodup_cons] at nd
    rcases List.mem_cons.mp m with rfl | m
    · exact valV_pos rfl
    · rw [valV_neg (fun e => nd.1 (by rw [e]; exact List.mem_map.mpr ⟨_, m, rfl⟩))]
      exact val_of_mem nd.2 m
theorem Same.unlock {H H2 : Hp} {d : Addr} {od : Obj} {u : HO} (h : H d = some u) (s : Same (upd H d (.frz od u)) H2) : Same H (upd H2 d u) := fun b o e => by
  by_cases hb : b = d
  · subst hb
    rw [upd_same, ← h]
    exact e
  · rw [upd_ne hb]
    exact s b o (by rw [upd_ne hb]; exact e)
theorem RowAt.lock {H : Hp} {d a : Addr} {o : HO} {r : Row} {kvs : List (Key × V)} (h : RowAt H a r) (hd : H d = some (.dK kvs)) : RowAt (upd H d o) a r := by
  show (upd H d o) a = _
  rw [upd_ne (ne_of h hd (fun z => nomatch z))]
  exact h
/-! a list of ints made of the rows of a dict -/
theorem key_map {d D : Addr} {kvs : List (Key × V)} {S : Row → Prop} {σ : L2.St} {i : Nat} {tt : TT} {te : TE} {H : Hp} {od : Obj} {Qd : Hp → Prop} (c : Row → Bool) (f : Row → Int) (hd : H d = some (.dK kvs)) (dr : DRow keyK H S kvs) (un : ∀ r t, S r → S t → r.k = t.k → r = t) (len : kvs.length ≤ 1000) (nD : (upd H d (.frz od (.dK kvs))) D = none)
    (htt : ∀ a r H2 (Kt : Bool → Hp → Prop), S r → RowAt H2 a r → DGet H2 d (.int r.k) (some (.ref a)) → Kt (c r) H2 → tt ((wipe σ [i]).set i (some (.int r.k))) H2 Kt)
    (hte : ∀ a r H2 (Ke : V → Hp → Prop), S r → c r = true → RowAt H2 a r → DGet H2 d (.int r.k) (some (.ref a)) → Ke (.int (f r)) H2 → te ((wipe σ [i]).set i (some (.int r.k))) H2 Ke)
    (hdn : ∀ (ns : List Int) (H' : Hp), H' d = some (.frz od (.dK kvs)) → Same H (upd H' d (.dK kvs)) → (upd H' d (.dK kvs)) D = some (.lst (ns.map V.int)) → (∀ n, n ∈ ns ↔ ∃ r, S r ∧ c r = true ∧ f r = n) → ns.length ≤ 1000 → Qd H') :
    ∃ W : Nat → Nat → Hp → Prop, (∃ m, W 0 m (upd (upd H d (.frz od (.dK kvs))) D (.lst []))) ∧ ∀ k m H', W k m H' →
      ((Itk d od kvs).stop k H' ∧ Qd H') ∨ ((Itk d od kvs).go k H' ∧ ∃ Nx : Hp → Prop, (∀ H', Nx H' → ∃ m', m' < m ∧ W (k + 1) m' H') ∧ ∀ x H'', (Itk d od kvs).yld k H' x H'' → gName i x (wipe σ [i]) H'' fun σ2 H2 => wipe σ2 [i] = wipe σ [i] ∧ tt σ2 H2 fun b H3 =>
        if b = true then te σ2 H3 fun y H4 => ∃ acc, H4 D = some (.lst acc) ∧ acc.length < sizeLine ∧ Nx (upd H4 D (.lst (acc ++ [y]))) else Nx H3) := by
  have nDd : D ≠ d := fun e => by rw [e, upd_same] at nD; cases nD
  have hfz : (upd H d (.frz od (.dK kvs))) d = some (.frz od (.dK kvs)) := upd_same
  have row0 : ∀ a r, RowAt H a r → RowAt (upd H d (.frz od (.dK kvs))) a r := fun a r h => h.lock hd
  refine lc_it (walk_keys (d := d) (o := od) (kvs := kvs)) (g := gName i) (fun k H' => Same (upd H d (.frz od (.dK kvs))) H' ∧ ∃ ns : List Int, H' D = some (.lst (ns.map V.int)) ∧ (∀ n ∈ ns, ∃ r, S r ∧ c r = true ∧ f r = n) ∧ (∀ j kv a r, j < k → kvs[j]? = some kv → kv.2 = .ref a → RowAt H a r → c r = true → f r ∈ ns) ∧ ns.length ≤ k)
    ⟨same_upd nD, [], upd_same, fun _ m => (nomatch m), fun j _ _ _ hj => absurd hj (Nat.not_lt_zero j), Nat.le_refl _⟩ (fun k H' _ h => h.1 _ _ hfz) ?_ ?_
  · rintro k v G1 G2 hk ⟨g1, ns, hD, own, all, ln⟩ ⟨rfl, ky, u, ev, rfl⟩
    obtain ⟨a, r, e1, ha, hs, e2⟩ := dr.own _ (List.mem_of_getElem? ev)
    have e1 : u = .ref a := e1
    have e2 : ky = keyK r := e2
    subst e1 e2
    have get : DGet G2 d (.int r.k) (some (.ref a)) := by
      rw [← val_of_mem dr.nd (List.mem_of_getElem? ev)]
      exact frz_get (k := keyK r) (g1 _ _ hfz)
    have ha2 : RowAt G2 a r := g1 _ _ (row0 a r ha)
    refine ⟨wipe_one σ i _, htt a r G2 _ hs ha2 get ?_⟩
    cases hc : c r with
    | true =>
      refine iteT (hte a r G2 _ hs hc ha2 get ⟨_, hD, small_line (by rw [List.length_map]; omega), same_mut g1 nD, ns ++ [f r], ?_, fun n m => ?_, fun j kv b t hj ej eb hb ht => ?_, ?_⟩)
      · rw [upd_same, List.map_append]
        rfl
      · rcases List.mem_append.mp m with m | m
        · exact own n m
        · exact ⟨r, hs, hc, (List.mem_singleton.mp m).symm⟩
      · by_cases e : j = k
        · subst e
          obtain rfl := Option.some.inj (ev.symm.trans ej)
          obtain rfl : a = b := V.ref.inj eb
          obtain rfl := row_inj ha hb
          exact List.mem_append_right _ (List.mem_singleton.mpr rfl)
        · exact List.mem_append_left _ (all j kv b t (by omega) ej eb hb ht)
      · rw [List.length_append, List.length_singleton]
        omega
    | false =>
      refine iteF ⟨g1, ns, hD, own, fun j kv b t hj ej eb hb ht => ?_, Nat.le_succ_of_le ln⟩
      by_cases e : j = k
      · subst e
        obtain rfl := Option.some.inj (ev.symm.trans ej)
        obtain rfl : a = b := V.ref.inj eb
        obtain rfl := row_inj ha hb
        rw [hc] at ht
        cases ht
      · exact all j kv b t (by omega) ej eb hb ht
  · rintro G1 ⟨g1, ns, hD, own, all, ln⟩
    refine hdn ns _ (g1 _ _ hfz) (Same.unlock hd g1) (by rw [upd_ne nDd]; exact hD) (fun n => ⟨own n, ?_⟩) (Nat.le_trans ln len)
    rintro ⟨r, hs, hc, rfl⟩
    obtain ⟨v, m⟩ := dr.all r hs
    obtain ⟨a, t, e1, e2, e3, e4⟩ := dr.own _ m
    obtain rfl := un r t hs e3 (Sum.inl.inj e4)
    obtain ⟨j, hj⟩ := List.getElem?_of_mem m
    exact all j _ a r (List.getElem?_eq_some_iff.mp hj).1 hj e1 e2 hc
/-! what there is of an ask, of a job -/
def TA (rs : List Row) (k : Gr.HK) (us : List V) : Prop := (∃ r, rowOf rs "ask" k = some r ∧ us = r.vals) ∨ (rowOf rs "ask" k = none ∧ ∃ lo hi, us = [.str "lost", lo, hi] ∧ SpA rs k lo hi)
def TJ (rs : List Row) (k : Gr.HK) (us : List V) : Prop := (∃ r, rowOf rs "job" k = some r ∧ us = r.vals) ∨ (rowOf rs "job" k = none ∧ ∃ lo hi la, us = [.str "lost", lo, hi, la] ∧ SpJ rs k lo hi la)
structure DNum (H : Hp) (d : Addr) (rs : List Row) (wd h : Str) (kvs : List (Key × V)) : Prop where
  at_ : H d = some (.dK kvs)
  row : DRow keyK H (fun r => Bk rs wd r ∧ r.h = h) kvs
  un : Uniq (Bk rs wd)
  len : kvs.length ≤ 1000
theorem DNum.same {H H' : Hp} {d : Addr} {rs : List Row} {wd h : Str} {kvs : List (Key × V)} (x : DNum H d rs wd h kvs) (s : Same H H') : DNum H' d rs wd h kvs := ⟨s _ _ x.at_, x.row.same (Same.rows s), x.un, x.len⟩
theorem DNum.one {H : Hp} {d : Addr} {rs : List Row} {wd h : Str} {kvs : List (Key × V)} (x : DNum H d rs wd h kvs) : ∀ r t, (Bk rs wd r ∧ r.h = h) → (Bk rs wd t ∧ t.h = h) → r.k = t.k → r = t := fun r t a b e => x.un r t a.1 b.1 (Prod.ext (a.2.trans b.2.symm) e)
theorem DNum.find {H : Hp} {d : Addr} {rs : List Row} {wd h : Str} {kvs : List (Key × V)} (x : DNum H d rs wd h kvs) (n : Int) : (∃ a r, rowOf rs wd (h, n) = some r ∧ r.word = wd ∧ valV kvs (.inl n) = some (.ref a) ∧ RowAt H a r) ∨ (rowOf rs wd (h, n) = none ∧ valV kvs (.inl n) = none) := by
  rcases val_row x.row (.inl n : Key) with ⟨a, r, e1, e2, e3, e4⟩ | ⟨e1, e2⟩
  · refine .inl ⟨a, r, ?_, e3.1.2, e1, e2⟩
    have : (h, n) = r.key := Prod.ext e3.2.symm (Sum.inl.inj e4)
    rw [this]
    exact rowOf_is x.un e3.1
  · refine .inr ⟨?_, e1⟩
    cases e : rowOf rs wd (h, n) with
    | none => rfl
    | some t =>
      obtain ⟨h1, h2⟩ := rowOf_some e
      exact absurd (show keyK t = _ by show Sum.inl t.k = _; rw [show t.k = n from congrArg Prod.snd h2]) (e2 t ⟨h1, congrArg Prod.fst h2⟩)
/-! ### what there was, as the law looks at it -/
def sp_ask_there : Sp := fun vs H Q _ => ∃ (d : Addr) (n : Int) (h : Str) (rs : List Row) (kvs : List (Key × V)), vs = [.ref d, .int n] ∧ DNum H d rs "ask" h kvs ∧ ∀ (p : Addr) (us : List V) (H' : Hp), Same H H' → H' p = some (.tup us) → TA rs (h, n) us → Q (.ref p) H'
theorem ok_l_ask_there (T : Txt K mg af fd) : FnOk P w K mg base CX0 1 (af 55) (fd 55) ["asks", "number"] sp_ask_there := by
  refine T.F_l_ask_there.ok sc_l_ask_there (fun vs H Q E h => ?_) (fun cdv A outer s H vs Q E hr h => ?_)
  · obtain ⟨d, n, h, rs, kvs, rfl, _⟩ := h
    rfl
  · obtain ⟨d, n, h, rs, kvs, rfl, hd, q⟩ := h
    refine ⟨_, (pss_cons (ps_if (pt_cmp (pc_din (hu_of hr) (pv 1) (pv 0))) (pss_one (ps_ret (pe_dget (hu_of hr) (pv 0) (pv 1) (fun _ _ => rfl)))) pss_nil)
        (pss_cons (ps_lock (ps_setLc (i := 2) (own := [("k", 3)]) (g := gName 3) (by rfl) sc_l_ask_there.nd rfl rfl (sw_true rfl rfl rfl (by decide +kernel)) (pi_keys (pv 0)) (blkOk_by (own := [("k", 3)]) (N := ["asks", "number", "ahead", "k", "behind"]) (sc := defScope s_l_ask_there) (by decide +kernel)) (fun _ _ _ _ _ => pg_name (i := 3) sc_l_ask_there.nd rfl (Or.inl rfl)) (fun _ _ _ _ _ => (pts_one (pt_cmpR op_lt (pv 3) (pv 1) (nomark _)))) (fun _ _ _ _ _ => (pe_ix (show IxR _ (rIxT K) from ix_tup) (pe_dget (hu_of hr) (pv 0) (pv 3) (fun _ _ => rfl)) pe_int (fun _ _ => rfl)))))
        (pss_cons (ps_lock (ps_setLc (i := 4) (own := [("k", 3)]) (g := gName 3) (by rfl) sc_l_ask_there.nd rfl rfl (sw_true rfl rfl rfl (by decide +kernel)) (pi_keys (pv 0)) (blkOk_by (own := [("k", 3)]) (N := ["asks", "number", "ahead", "k", "behind"]) (sc := defScope s_l_ask_there) (by decide +kernel)) (fun _ _ _ _ _ => pg_name (i := 3) sc_l_ask_there.nd rfl (Or.inl rfl)) (fun _ _ _ _ _ => (pts_one (pt_cmpR op_gt (pv 3) (pv 1) (nomark _)))) (fun _ _ _ _ _ => (pe_ix (show IxR _ (rIxT K) from ix_tup) (pe_dget (hu_of hr) (pv 0) (pv 3) (fun _ _ => rfl)) pe_int (fun _ _ => rfl)))))
        (pss_one (ps_ret (pe_tup (pa_cons pe_str (pa_cons (pe_callBK (Gr.cr_maxDf rfl (hu_of hr)) (by rfl) T.m_max (by decide +kernel) (pa_cons (pv 2) pa_nil) (pk_cons pe_non pk_nil)) (pa_cons (pe_callBK (Gr.cr_minDf rfl (hu_of hr)) (by rfl) T.m_min (by decide +kernel) (pa_cons (pv 4) pa_nil) (pk_cons pe_non pk_nil)) pa_nil))))))))), ?_⟩
    refine ⟨_, rfl, _, rfl, d, _, rfl, DGet.k (k := Sum.inl n) hd.at_, _, rfl, ?_⟩
    rcases hd.find n with ⟨a, r, e1, e2, e3, e4⟩ | ⟨e1, e3⟩
    · rw [e3]
      exact iteT ⟨_, rfl, _, rfl, d, _, rfl, (by rw [← e3]; exact DGet.k (k := Sum.inl n) hd.at_), q a _ H (Same.refl H) e4 (.inl ⟨r, e1, rfl⟩)⟩
    · rw [e3]
      refine iteF ⟨d, _, hd.at_, trivial, fun od => ?_⟩
      refine ⟨_, rfl, d, od, rfl, .inl ⟨kvs, upd_same, fun D nD => ?_⟩⟩
      refine key_map (fun r => decide (r.k < n)) Row.x5 hd.at_ hd.row hd.one hd.len nD (fun a r H2 Kt hs ha hg hk => ⟨_, rfl, _, rfl, _, _, rfl, rfl, _, rfl, hk⟩) (fun a r H2 Ke hs hc ha hg hk => ⟨_, rfl, _, rfl, d, _, rfl, hg, a, _, 5, _, rfl, rfl, SqT.of ha, at5 hs.1.2, hk⟩) (fun ns H2 hz s2 hD2 hns hlen => ⟨hz, ?_⟩)
      generalize upd H2 d (.dK kvs) = G2 at s2 hD2 ⊢
      have hd2 := hd.same s2
      refine ⟨d, _, hd2.at_, trivial, fun od3 => ?_⟩
      refine ⟨_, rfl, d, od3, rfl, .inl ⟨kvs, upd_same, fun D3 nD3 => ?_⟩⟩
      refine key_map (fun r => decide (r.k > n)) Row.x5 hd2.at_ hd2.row hd2.one hd2.len nD3 (fun a r H2 Kt hs ha hg hk => ⟨_, rfl, _, rfl, _, _, rfl, rfl, _, rfl, hk⟩) (fun a r H2 Ke hs hc ha hg hk => ⟨_, rfl, _, rfl, d, _, rfl, hg, a, _, 5, _, rfl, rfl, SqT.of ha, at5 hs.1.2, hk⟩) (fun ns3 H3 hz3 s3 hD3 hns3 hlen3 => ⟨hz3, ?_⟩)
      generalize upd H3 d (.dK kvs) = G3 at s3 hD3 ⊢
      refine ⟨_, rfl, D, ns, _, rfl, rfl, SqL.of (s3 _ _ hD2), fun low hlow => ?_⟩
      refine ⟨_, rfl, D3, ns3, _, rfl, rfl, SqL.of hD3, fun high hhigh => ?_⟩
      refine ⟨(by show 3 ≤ sizeLine; decide), fun p np => ?_⟩
      have g3 := s2.trans s3
      exact q p _ _ (same_mut g3 (g3.free np)) upd_same (.inr ⟨e1, low, high, rfl, best_of hlow (and_ex hns), best_of hhigh (and_ex hns3)⟩)
def sp_job_there : Sp := fun vs H Q _ => ∃ (e d : Addr) (n : Int) (h : Str) (rs : List Row) (kvs ks : List (Key × V)), vs = [.ref e, .ref d, .int n] ∧ DNum H e rs "ask" h ks ∧ DNum H d rs "job" h kvs ∧ ∀ (p : Addr) (us : List V) (H' : Hp), Same H H' → H' p = some (.tup us) → TJ rs (h, n) us → Q (.ref p) H'
theorem ok_l_job_there (T : Txt K mg af fd) : FnOk P w K mg base CX0 1 (af 56) (fd 56) ["asks", "jobs", "number"] sp_job_there := by
  refine T.F_l_job_there.ok sc_l_job_there (fun vs H Q E h => ?_) (fun cdv A outer s H vs Q E hr h => ?_)
  · obtain ⟨e, d, n, h, rs, kvs, ks, rfl, _⟩ := h
    rfl
  · obtain ⟨e, d, n, h, rs, kvs, ks, rfl, he, hd, q⟩ := h
    refine ⟨_, (pss_cons (ps_if (pt_cmp (pc_din (hu_of hr) (pv 2) (pv 1))) (pss_one (ps_ret (pe_dget (hu_of hr) (pv 1) (pv 2) (fun _ _ => rfl)))) pss_nil)
        (pss_cons (ps_lock (ps_setLc (i := 3) (own := [("k", 4)]) (g := gName 4) (by rfl) sc_l_job_there.nd rfl rfl (sw_true rfl rfl rfl (by decide +kernel)) (pi_keys (pv 1)) (blkOk_by (own := [("k", 4)]) (N := ["asks", "jobs", "number", "ahead", "k", "behind", "inside"]) (sc := defScope s_l_job_there) (by decide +kernel)) (fun _ _ _ _ _ => pg_name (i := 4) sc_l_job_there.nd rfl (Or.inl rfl)) (fun _ _ _ _ _ => (pts_one (pt_cmpR op_lt (pv 4) (pv 2) (nomark _)))) (fun _ _ _ _ _ => (pe_ix (show IxR _ (rIxT K) from ix_tup) (pe_dget (hu_of hr) (pv 1) (pv 4) (fun _ _ => rfl)) pe_int (fun _ _ => rfl)))))
        (pss_cons (ps_lock (ps_setLc (i := 5) (own := [("k", 4)]) (g := gName 4) (by rfl) sc_l_job_there.nd rfl rfl (sw_true rfl rfl rfl (by decide +kernel)) (pi_keys (pv 1)) (blkOk_by (own := [("k", 4)]) (N := ["asks", "jobs", "number", "ahead", "k", "behind", "inside"]) (sc := defScope s_l_job_there) (by decide +kernel)) (fun _ _ _ _ _ => pg_name (i := 4) sc_l_job_there.nd rfl (Or.inl rfl)) (fun _ _ _ _ _ => (pts_one (pt_cmpR op_gt (pv 4) (pv 2) (nomark _)))) (fun _ _ _ _ _ => (pe_ix (show IxR _ (rIxT K) from ix_tup) (pe_dget (hu_of hr) (pv 1) (pv 4) (fun _ _ => rfl)) pe_int (fun _ _ => rfl)))))
        (pss_cons (ps_set (i := 5) sc_l_job_there.nd rfl (by first | exact Or.inl rfl | exact Or.inr rfl) (pe_op op_cat (pv 5) (pe_lock (pe_lc (own := [("k", 4)]) (g := gName 4) (by rfl) sc_l_job_there.nd (pi_keys (pv 0)) (blkOk_by (own := [("k", 4)]) (N := ["asks", "jobs", "number", "ahead", "k", "behind", "inside"]) (sc := defScope s_l_job_there) (by decide +kernel)) (fun _ _ _ _ _ => pg_name (i := 4) sc_l_job_there.nd rfl (Or.inl rfl)) (fun _ _ _ _ _ => (pts_one (pt_cmpR op_ge (pe_ix (show IxR _ (rIxT K) from ix_tup) (pe_dget (hu_of hr) (pv 0) (pv 4) (fun _ _ => rfl)) pe_int (fun _ _ => rfl)) (pv 2) (nomark _)))) (fun _ _ _ _ _ => (pe_op op_sub (pe_ix (show IxR _ (rIxT K) from ix_tup) (pe_dget (hu_of hr) (pv 0) (pv 4) (fun _ _ => rfl)) pe_int (fun _ _ => rfl)) pe_int))))))
        (pss_cons (ps_lock (ps_setLc (i := 6) (own := [("k", 4)]) (g := gName 4) (by rfl) sc_l_job_there.nd rfl rfl (sw_true rfl rfl rfl (by decide +kernel)) (pi_keys (pv 0)) (blkOk_by (own := [("k", 4)]) (N := ["asks", "jobs", "number", "ahead", "k", "behind", "inside"]) (sc := defScope s_l_job_there) (by decide +kernel)) (fun _ _ _ _ _ => pg_name (i := 4) sc_l_job_there.nd rfl (Or.inl rfl)) (fun _ _ _ _ _ => (pts_one (pt_cmpR op_eq (pe_ix (show IxR _ (rIxT K) from ix_tup) (pe_dget (hu_of hr) (pv 0) (pv 4) (fun _ _ => rfl)) pe_int (fun _ _ => rfl)) (pv 2) (nomark _)))) (fun _ _ _ _ _ => (pe_ix (show IxR _ (rIxT K) from ix_tup) (pe_dget (hu_of hr) (pv 0) (pv 4) (fun _ _ => rfl)) pe_int (fun _ _ => rfl)))))
        (pss_one (ps_ret (pe_tup (pa_cons pe_str (pa_cons (pe_callBK (Gr.cr_maxDf rfl (hu_of hr)) (by rfl) T.m_max (by decide +kernel) (pa_cons (pv 3) pa_nil) (pk_cons pe_non pk_nil)) (pa_cons (pe_callBK (Gr.cr_minDf rfl (hu_of hr)) (by rfl) T.m_min (by decide +kernel) (pa_cons (pv 5) pa_nil) (pk_cons pe_non pk_nil)) (pa_cons (pe_callBK (Gr.cr_maxDf rfl (hu_of hr)) (by rfl) T.m_max (by decide +kernel) (pa_cons (pv 6) pa_nil) (pk_cons pe_non pk_nil)) pa_nil)))))))))))), ?_⟩
    refine ⟨_, rfl, _, rfl, d, _, rfl, DGet.k (k := Sum.inl n) hd.at_, _, rfl, ?_⟩
    rcases hd.find n with ⟨a, r, e1, e2, e3, e4⟩ | ⟨e1, e3⟩
    · rw [e3]
      exact iteT ⟨_, rfl, _, rfl, d, _, rfl, (by rw [← e3]; exact DGet.k (k := Sum.inl n) hd.at_), q a _ H (Same.refl H) e4 (.inl ⟨r, e1, rfl⟩)⟩
    · rw [e3]
      refine iteF ⟨d, _, hd.at_, trivial, fun od => ?_⟩
      refine ⟨_, rfl, d, od, rfl, .inl ⟨kvs, upd_same, fun D nD => ?_⟩⟩
      refine key_map (fun r => decide (r.k < n)) Row.x3 hd.at_ hd.row hd.one hd.len nD (fun a r H2 Kt hs ha hg hk => ⟨_, rfl, _, rfl, _, _, rfl, rfl, _, rfl, hk⟩) (fun a r H2 Ke hs hc ha hg hk => ⟨_, rfl, _, rfl, d, _, rfl, hg, a, _, 3, _, rfl, rfl, SqT.of ha, at3 r, hk⟩) (fun ns H2 hz s2 hD2 hns hlen => ⟨hz, ?_⟩)
      generalize upd H2 d (.dK kvs) = G2 at s2 hD2 ⊢
      have hd2 := hd.same s2
      refine ⟨d, _, hd2.at_, trivial, fun od3 => ?_⟩
      refine ⟨_, rfl, d, od3, rfl, .inl ⟨kvs, upd_same, fun D3 nD3 => ?_⟩⟩
      refine key_map (fun r => decide (r.k > n)) Row.x3 hd2.at_ hd2.row hd2.one hd2.len nD3 (fun a r H2 Kt hs ha hg hk => ⟨_, rfl, _, rfl, _, _, rfl, rfl, _, rfl, hk⟩) (fun a r H2 Ke hs hc ha hg hk => ⟨_, rfl, _, rfl, d, _, rfl, hg, a, _, 3, _, rfl, rfl, SqT.of ha, at3 r, hk⟩) (fun ns3 H3 hz3 s3 hD3 hns3 hlen3 => ⟨hz3, ?_⟩)
      generalize upd H3 d (.dK kvs) = G3 at s3 hD3 ⊢
      have s23 := s2.trans s3
      have he3 := he.same s23
      refine ⟨_, rfl, e, _, he3.at_, trivial, fun od4 => ?_⟩
      refine ⟨_, rfl, e, od4, rfl, .inl ⟨ks, upd_same, fun D4 nD4 => ?_⟩⟩
      refine key_map (fun r => decide (r.x3 ≥ n)) (fun r => r.x5 - 1) he3.at_ he3.row he3.one he3.len nD4 (fun a r H2 Kt hs ha hg hk => ⟨_, rfl, _, rfl, e, _, rfl, hg, a, _, 3, _, rfl, rfl, SqT.of ha, at3 r, _, rfl, _, _, rfl, rfl, _, rfl, hk⟩) (fun a r H2 Ke hs hc ha hg hk => ⟨_, rfl, _, rfl, e, _, rfl, hg, a, _, 5, _, rfl, rfl, SqT.of ha, at5 hs.1.2, _, _, rfl, rfl, hk⟩) (fun ns4 H4 hz4 s4 hD4 hns4 hlen4 => ⟨hz4, ?_⟩)
      generalize upd H4 e (.dK ks) = G4 at s4 hD4 ⊢
      refine ⟨D3, D4, _, _, rfl, rfl, s4 _ _ hD3, hD4, (by rw [List.length_map, List.length_map]; exact Nat.le_of_lt (small_line (by omega))), fun D5 nD5 => ?_⟩
      have s24 := s23.trans s4
      have s5 : Same G4 (upd G4 D5 (.lst (ns3.map V.int ++ ns4.map V.int))) := same_upd nD5
      have hD5 : (upd G4 D5 (.lst (ns3.map V.int ++ ns4.map V.int))) D5 = some (.lst ((ns3 ++ ns4).map V.int)) := by rw [upd_same, List.map_append]
      generalize upd G4 D5 (.lst (ns3.map V.int ++ ns4.map V.int)) = G5 at s5 hD5 ⊢
      have s25 := s24.trans s5
      have he5 := he.same s25
      refine ⟨e, _, he5.at_, trivial, fun od6 => ?_⟩
      refine ⟨_, rfl, e, od6, rfl, .inl ⟨ks, upd_same, fun D6 nD6 => ?_⟩⟩
      refine key_map (fun r => decide (r.x3 = n)) Row.x6 he5.at_ he5.row he5.one he5.len nD6 (fun a r H2 Kt hs ha hg hk => ⟨_, rfl, _, rfl, e, _, rfl, hg, a, _, 3, _, rfl, rfl, SqT.of ha, at3 r, _, rfl, rfl, _, rfl, (by rw [show decide (V.int r.x3 = V.int n) = decide (r.x3 = n) from decide_eq_decide.mpr ⟨fun e => V.int.inj e, fun e => congrArg V.int e⟩]; exact hk)⟩) (fun a r H2 Ke hs hc ha hg hk => ⟨_, rfl, _, rfl, e, _, rfl, hg, a, _, 6, _, rfl, rfl, SqT.of ha, at6 hs.1.2, hk⟩) (fun ns6 H6 hz6 s6 hD6 hns6 hlen6 => ⟨hz6, ?_⟩)
      generalize upd H6 e (.dK ks) = G6 at s6 hD6 ⊢
      refine ⟨_, rfl, D, ns, _, rfl, rfl, SqL.of (((s3.trans s4).trans (s5.trans s6)) _ _ hD2), fun low hlow => ?_⟩
      refine ⟨_, rfl, D5, _, _, rfl, rfl, SqL.of (s6 _ _ hD5), fun high hhigh => ?_⟩
      refine ⟨_, rfl, D6, ns6, _, rfl, rfl, SqL.of hD6, fun last hlast => ?_⟩
      refine ⟨(by show 4 ≤ sizeLine; decide), fun p np => ?_⟩
      have g3 := s25.trans s6
      refine q p _ _ (same_mut g3 (g3.free np)) upd_same (.inr ⟨e1, low, high, last, rfl, best_of hlow (and_ex hns), best_of hhigh fun m => ?_, best_of hlast (and_ex hns6)⟩)
      rw [List.mem_append, and_ex hns3, and_ex hns4]
      exact Iff.rfl
/-! ### lists made of the rows of a list -/
/-! the rows of a house -/
theorem own_map {l D : Addr} {us : List V} {rs : List Row} {σ : L2.St} {i : Nat} {tt : TT} {te : TE} {H1 : Hp} {Qd : Hp → Prop} (c : Row → Bool) (hl : H1 l = some (.lst us)) (hS : Rws H1 us rs) (ln : rs.length ≤ 1000) (nD : H1 D = none)
    (htt : ∀ a r H2 (Kt : Bool → Hp → Prop), RowAt H2 a r → Kt (c r) H2 → tt ((wipe σ [i]).set i (some (.ref a))) H2 Kt)
    (hte : ∀ a r H2 (Ke : V → Hp → Prop), RowAt H2 a r → Ke (.ref a) H2 → te ((wipe σ [i]).set i (some (.ref a))) H2 Ke)
    (hd : ∀ (ws : List V) (H' : Hp), Same H1 H' → H' D = some (.lst ws) → Rws H' ws (rs.filter c) → Qd H') :
    ∃ W : Nat → Nat → Hp → Prop, (∃ m, W 0 m (upd H1 D (.lst []))) ∧ ∀ k m H, W k m H →
      ((Itl K l).stop k H ∧ Qd H) ∨ ((Itl K l).go k H ∧ ∃ Nx : Hp → Prop, (∀ H', Nx H' → ∃ m', m' < m ∧ W (k + 1) m' H') ∧ ∀ x H', (Itl K l).yld k H x H' → gName i x (wipe σ [i]) H' fun σ2 H2 => wipe σ2 [i] = wipe σ [i] ∧ tt σ2 H2 fun b H3 =>
        if b = true then te σ2 H3 fun y H4 => ∃ acc, H4 D = some (.lst acc) ∧ acc.length < sizeLine ∧ Nx (upd H4 D (.lst (acc ++ [y]))) else Nx H3) := by
  refine lc_it (walk_list (K := K) (a := l) (xs := us)) (g := gName i) (fun k H' => Same H1 H' ∧ ∃ ws : List V, H' D = some (.lst ws) ∧ Rws H1 ws ((rs.take k).filter c))
    ⟨same_upd nD, [], upd_same, by rw [List.take_zero]; exact rws_nil⟩ (fun k H' _ h => SqL.of (h.1 _ _ hl)) ?_ ?_
  · rintro k v G1 G2 hk ⟨g1, ws, hD, hw⟩ ⟨rfl, ev⟩
    have hkr : k < rs.length := by rw [← hS.1]; exact hk
    have er : rs[k]? = some rs[k] := List.getElem?_eq_getElem hkr
    generalize rs[k] = r at er
    obtain ⟨a, ea, ha⟩ := hS.2 k r er
    obtain rfl : V.ref a = v := Option.some.inj (ea.symm.trans ev)
    have lw := hw.1
    have lf : ((rs.take k).filter c).length ≤ k := Nat.le_trans (List.length_filter_le _ _) (by rw [List.length_take]; omega)
    refine ⟨wipe_one σ i _, htt a r G2 _ (g1 _ _ ha) ?_⟩
    cases hc : c r with
    | true =>
      refine iteT (hte a r G2 _ (g1 _ _ ha) ⟨_, hD, small_line (by omega), same_mut g1 nD, _, upd_same, ?_⟩)
      rw [take_snoc er, filter_snoc, if_pos hc]
      exact hw.snoc ha
    | false =>
      refine iteF ⟨g1, ws, hD, ?_⟩
      rw [take_snoc er, filter_snoc, if_neg (by rw [hc]; exact Bool.noConfusion), List.append_nil]
      exact hw
  · rintro G1 ⟨g1, ws, hD, hw⟩
    rw [hS.1, List.take_length] at hw
    exact hd ws G1 g1 hD (hw.same g1)
/-! pairs of a number and a row -/
structure PrsOf (H : Hp) (ps : List Addr) (kvs : List (Key × V)) (S : Row → Prop) : Prop where
  p : Pkv H ps kvs
  own : ∀ x ∈ kvs, ∃ a r, x = (keyK r, .ref a) ∧ RowAt H a r ∧ S r
  all : ∀ r, S r → ∃ a, (keyK r, .ref a) ∈ kvs ∧ RowAt H a r
theorem pair_map {l D : Addr} {us : List V} {rs : List Row} {σ : L2.St} {i : Nat} {tt : TT} {te : TE} {H1 : Hp} {Qd : Hp → Prop} (c : Row → Bool) (hl : H1 l = some (.lst us)) (hS : Rws H1 us rs) (ln : rs.length ≤ 1000) (nD : H1 D = none)
    (htt : ∀ a r H2 (Kt : Bool → Hp → Prop), RowAt H2 a r → Kt (c r) H2 → tt ((wipe σ [i]).set i (some (.ref a))) H2 Kt)
    (hte : ∀ a r H2 (Ke : V → Hp → Prop), RowAt H2 a r → (∀ p, H2 p = none → Ke (.ref p) (upd H2 p (.tup [.int r.k, .ref a]))) → te ((wipe σ [i]).set i (some (.ref a))) H2 Ke)
    (hd : ∀ (ps : List Addr) (kvs : List (Key × V)) (H' : Hp), Same H1 H' → H' D = some (.lst (ps.map V.ref)) → PrsOf H' ps kvs (fun r => r ∈ rs ∧ c r = true) → kvs.length ≤ rs.length → Qd H') :
    ∃ W : Nat → Nat → Hp → Prop, (∃ m, W 0 m (upd H1 D (.lst []))) ∧ ∀ k m H, W k m H →
      ((Itl K l).stop k H ∧ Qd H) ∨ ((Itl K l).go k H ∧ ∃ Nx : Hp → Prop, (∀ H', Nx H' → ∃ m', m' < m ∧ W (k + 1) m' H') ∧ ∀ x H', (Itl K l).yld k H x H' → gName i x (wipe σ [i]) H' fun σ2 H2 => wipe σ2 [i] = wipe σ [i] ∧ tt σ2 H2 fun b H3 =>
        if b = true then te σ2 H3 fun y H4 => ∃ acc, H4 D = some (.lst acc) ∧ acc.length < sizeLine ∧ Nx (upd H4 D (.lst (acc ++ [y]))) else Nx H3) := by
  refine lc_it (walk_list (K := K) (a := l) (xs := us)) (g := gName i) (fun k H' => Same H1 H' ∧ ∃ (ps : List Addr) (kvs : List (Key × V)), H' D = some (.lst (ps.map V.ref)) ∧ PrsOf H' ps kvs (fun r => r ∈ rs.take k ∧ c r = true) ∧ kvs.length ≤ k)
    ⟨same_upd nD, [], [], upd_same, ⟨.nil, fun _ m => (nomatch m), fun r h => by rw [List.take_zero] at h; exact nomatch h.1⟩, Nat.zero_le _⟩ (fun k H' _ h => SqL.of (h.1 _ _ hl)) ?_ ?_
  · rintro k v G1 G2 hk ⟨g1, ps, kvs, hD, pr, lk⟩ ⟨rfl, ev⟩
    have hkr : k < rs.length := by rw [← hS.1]; exact hk
    have er : rs[k]? = some rs[k] := List.getElem?_eq_getElem hkr
    generalize rs[k] = r at er
    obtain ⟨a, ea, ha⟩ := hS.2 k r er
    obtain rfl : V.ref a = v := Option.some.inj (ea.symm.trans ev)
    have lp := pr.p.len
    have ha2 := g1 _ _ ha
    refine ⟨wipe_one σ i _, htt a r G2 _ ha2 ?_⟩
    cases hc : c r with
    | true =>
      refine iteT (hte a r G2 _ ha2 fun p np => ?_)
      have hDp : (upd G2 p (.tup [.int r.k, .ref a])) D = some (.lst (ps.map V.ref)) := by rw [upd_ne (ne_of_none hD np)]; exact hD
      have tup : ∀ b ys, G2 b = some (.tup ys) → (upd (upd G2 p (.tup [.int r.k, .ref a])) D (.lst (ps.map V.ref ++ [.ref p]))) b = some (.tup ys) := fun b ys e => by
        rw [upd_ne (ne_of e hD (fun z => nomatch z)), upd_ne (ne_of_none e np)]
        exact e
      refine ⟨_, hDp, small_line (by rw [List.length_map]; omega), same_mut (same_mut g1 (g1.free np)) nD, ps ++ [p], kvs ++ [(keyK r, .ref a)], by rw [upd_same, List.map_append]; rfl, ⟨?_, fun x m => ?_, fun t ht => ?_⟩, ?_⟩
      · refine (pr.p.go tup).snoc ?_
        rw [upd_ne (fun z => by rw [z] at np; rw [np] at hD; cases hD), upd_same]
        rfl
      · rcases List.mem_append.mp m with m | m
        · obtain ⟨b, t, e1, e2, e3, e4⟩ := pr.own x m
          exact ⟨b, t, e1, tup _ _ e2, by rw [take_snoc er]; exact List.mem_append_left _ e3, e4⟩
        · rw [List.mem_singleton.mp m]
          exact ⟨a, r, rfl, tup _ _ ha2, by rw [take_snoc er]; exact List.mem_append_right _ (List.mem_singleton.mpr rfl), hc⟩
      · obtain ⟨ht, hct⟩ := ht
        rw [take_snoc er] at ht
        rcases List.mem_append.mp ht with m | m
        · obtain ⟨b, e1, e2⟩ := pr.all t ⟨m, hct⟩
          exact ⟨b, List.mem_append_left _ e1, tup _ _ e2⟩
        · rw [List.mem_singleton.mp m]
          exact ⟨a, List.mem_append_right _ (List.mem_singleton.mpr rfl), tup _ _ ha2⟩
      · rw [List.length_append, List.length_singleton]
        omega
    | false =>
      refine iteF ⟨g1, ps, kvs, hD, ⟨pr.p, fun x m => ?_, fun t ht => ?_⟩, Nat.le_succ_of_le lk⟩
      · obtain ⟨b, t, e1, e2, e3, e4⟩ := pr.own x m
        exact ⟨b, t, e1, e2, by rw [take_snoc er]; exact List.mem_append_left _ e3, e4⟩
      · obtain ⟨ht, hct⟩ := ht
        rw [take_snoc er] at ht
        rcases List.mem_append.mp ht with m | m
        · exact pr.all t ⟨m, hct⟩
        · rw [List.mem_singleton.mp m, hc] at hct
          cases hct
  · rintro G1 ⟨g1, ps, kvs, hD, pr, lk⟩
    rw [hS.1, List.take_length] at pr
    exact hd ps kvs G1 g1 hD pr (by rw [hS.1] at lk; exact lk)
/-! new things of two ints -/
def Twos (H : Hp) (cs : List Addr) (ns : List (Int × Int)) : Prop := cs.length = ns.length ∧ ∀ (i : Nat) (n : Int × Int), ns[i]? = some n → ∃ c, cs[i]? = some c ∧ H c = some (.tup [.int n.1, .int n.2])
theorem Twos.go {H H' : Hp} {cs : List Addr} {ns : List (Int × Int)} (h : Twos H cs ns) (s : ∀ b ys, H b = some (.tup ys) → H' b = some (.tup ys)) : Twos H' cs ns := ⟨h.1, fun i n e => let ⟨c, e1, e2⟩ := h.2 i n e; ⟨c, e1, s _ _ e2⟩⟩
theorem Twos.snoc {H : Hp} {cs : List Addr} {ns : List (Int × Int)} {c : Addr} {n : Int × Int} (h : Twos H cs ns) (hc : H c = some (.tup [.int n.1, .int n.2])) : Twos H (cs ++ [c]) (ns ++ [n]) := by
  refine ⟨by rw [List.length_append, List.length_append, h.1]; rfl, fun i m e => ?_⟩
  by_cases hi : i < ns.length
  · rw [List.getElem?_append_left hi] at e
    obtain ⟨b, e1, e2⟩ := h.2 i m e
    exact ⟨b, by rw [List.getElem?_append_left (by rw [h.1]; exact hi)]; exact e1, e2⟩
  · rw [List.getElem?_append_right (by omega)] at e
    have hi2 : i - ns.length = 0 := by
      have := (List.getElem?_eq_some_iff.mp e).1
      rw [List.length_singleton] at this
      omega
    rw [hi2] at e
    obtain rfl : n = m := Option.some.inj e
    refine ⟨c, ?_, hc⟩
    rw [List.getElem?_append_right (by rw [h.1]; omega), h.1, hi2]
    rfl
theorem two_map {l D : Addr} {us : List V} {rs : List Row} {σ : L2.St} {i : Nat} {tt : TT} {te : TE} {H1 : Hp} {Qd : Hp → Prop} (c : Row → Bool) (hl : H1 l = some (.lst us)) (hS : Rws H1 us rs) (ln : rs.length ≤ 1000) (nD : H1 D = none)
    (htt : ∀ a r H2 (Kt : Bool → Hp → Prop), RowAt H2 a r → Kt (c r) H2 → tt ((wipe σ [i]).set i (some (.ref a))) H2 Kt)
    (hte : ∀ a r H2 (Ke : V → Hp → Prop), c r = true → RowAt H2 a r → (∀ p, H2 p = none → Ke (.ref p) (upd H2 p (.tup [.int r.k, .int r.x3]))) → te ((wipe σ [i]).set i (some (.ref a))) H2 Ke)
    (hd : ∀ (cs : List Addr) (H' : Hp), Same H1 H' → H' D = some (.lst (cs.map V.ref)) → Twos H' cs ((rs.filter c).map fun r => (r.k, r.x3)) → Qd H') :
    ∃ W : Nat → Nat → Hp → Prop, (∃ m, W 0 m (upd H1 D (.lst []))) ∧ ∀ k m H, W k m H →
      ((Itl K l).stop k H ∧ Qd H) ∨ ((Itl K l).go k H ∧ ∃ Nx : Hp → Prop, (∀ H', Nx H' → ∃ m', m' < m ∧ W (k + 1) m' H') ∧ ∀ x H', (Itl K l).yld k H x H' → gName i x (wipe σ [i]) H' fun σ2 H2 => wipe σ2 [i] = wipe σ [i] ∧ tt σ2 H2 fun b H3 =>
        if b = true then te σ2 H3 fun y H4 => ∃ acc, H4 D = some (.lst acc) ∧ acc.length < sizeLine ∧ Nx (upd H4 D (.lst (acc ++ [y]))) else Nx H3) := by
  refine lc_it (walk_list (K := K) (a := l) (xs := us)) (g := gName i) (fun k H' => Same H1 H' ∧ ∃ cs : List Addr, H' D = some (.lst (cs.map V.ref)) ∧ Twos H' cs (((rs.take k).filter c).map fun r => (r.k, r.x3)))
    ⟨same_upd nD, [], upd_same, by rw [List.take_zero]; exact ⟨rfl, fun i n e => by rw [List.filter_nil, List.map_nil, List.getElem?_nil] at e; cases e⟩⟩ (fun k H' _ h => SqL.of (h.1 _ _ hl)) ?_ ?_
  · rintro k v G1 G2 hk ⟨g1, cs, hD, hw⟩ ⟨rfl, ev⟩
    have hkr : k < rs.length := by rw [← hS.1]; exact hk
    have er : rs[k]? = some rs[k] := List.getElem?_eq_getElem hkr
    generalize rs[k] = r at er
    obtain ⟨a, ea, ha⟩ := hS.2 k r er
    obtain rfl : V.ref a = v := Option.some.inj (ea.symm.trans ev)
    have lw := hw.1
    have lf : ((rs.take k).filter c).length ≤ k := Nat.le_trans (List.length_filter_le _ _) (by rw [List.length_take]; omega)
    rw [List.length_map] at lw
    refine ⟨wipe_one σ i _, htt a r G2 _ (g1 _ _ ha) ?_⟩
    cases hc : c r with
    | true =>
      refine iteT (hte a r G2 _ hc (g1 _ _ ha) fun p np => ?_)
      have hDp : (upd G2 p (.tup [.int r.k, .int r.x3])) D = some (.lst (cs.map V.ref)) := by rw [upd_ne (ne_of_none hD np)]; exact hD
      refine ⟨_, hDp, small_line (by rw [List.length_map]; omega), same_mut (same_mut g1 (g1.free np)) nD, cs ++ [p], by rw [upd_same, List.map_append]; rfl, ?_⟩
      rw [take_snoc er, filter_snoc, if_pos hc, List.map_append]
      refine (hw.go fun b ys e => ?_).snoc ?_
      · rw [upd_ne (ne_of e hD (fun z => nomatch z)), upd_ne (ne_of_none e np)]
        exact e
      · rw [upd_ne (fun z => by rw [z] at np; rw [np] at hD; cases hD), upd_same]
    | false =>
      refine iteF ⟨g1, cs, hD, ?_⟩
      rw [take_snoc er, filter_snoc, if_neg (by rw [hc]; exact Bool.noConfusion), List.append_nil]
      exact hw
  · rintro G1 ⟨g1, cs, hD, hw⟩
    rw [hS.1, List.take_length] at hw
    exact hd cs G1 g1 hD hw
theorem merge_drow {H : Hp} : ∀ {more kvs : List (Key × V)} {P : Row → Prop}, DRow keyK H P kvs → (∀ x ∈ more, ∃ a r, x = (keyK r, .ref a) ∧ RowAt H a r) → DRow keyK H (fun r => P r ∨ ∃ a, (keyK r, V.ref a) ∈ more ∧ RowAt H a r) (mergeK kvs more)
  | [], kvs, P, h, _ => h.iff fun r => ⟨.inl, fun z => z.elim id fun ⟨a, m, _⟩ => nomatch m⟩
  | x :: more, kvs, P, h, hm => by
    obtain ⟨a, r, rfl, ha⟩ := hm x List.mem_cons_self
    have := merge_drow (more := more) (h.put ha) fun y my => hm y (List.mem_cons_of_mem _ my)
    refine DRow.iff this fun t => ⟨?_, ?_⟩
    · rintro ((p | rfl) | ⟨b, m, hb⟩)
      · exact .inl p
      · exact .inr ⟨a, List.mem_cons_self, ha⟩
      · exact .inr ⟨b, List.mem_cons_of_mem _ m, hb⟩
    · rintro (p | ⟨b, m, hb⟩)
      · exact .inl (.inl p)
      · rcases List.mem_cons.mp m with e | m
        · obtain rfl : b = a := V.ref.inj (congrArg Prod.snd e)
          exact .inl (.inr (row_inj hb ha))
        · exact .inr ⟨b, m, hb⟩
theorem PrsOf.drow {H : Hp} {ps : List Addr} {kvs : List (Key × V)} {S : Row → Prop} (h : PrsOf H ps kvs S) : DRow keyK H S (mergeK [] kvs) := by
  refine (merge_drow (kvs := []) (P := fun _ => False) (.nil fun _ z => z) fun x m => let ⟨a, r, e1, e2, _⟩ := h.own x m; ⟨a, r, e1, e2⟩).iff fun r => ⟨?_, fun s => .inr (h.all r s)⟩
  rintro (z | ⟨a, m, ha⟩)
  · exact z.elim
  · obtain ⟨b, t, e1, e2, e3⟩ := h.own _ m
    obtain rfl : a = b := V.ref.inj (congrArg Prod.snd e1)
    rw [row_inj ha e2]
    exact e3
def twoD (n : Int × Int) : PyData := .tuple [.int n.1, .int n.2]
theorem twos_sh : ∀ ns : List (Int × Int), PyData.canLayAll0 (ns.map twoD) = true ∧ PyData.depthAll (ns.map twoD) ≤ 1
  | [] => ⟨rfl, Nat.zero_le _⟩
  | n :: ns => by
    obtain ⟨h1, h2⟩ := twos_sh ns
    refine ⟨?_, ?_⟩
    · show ((twoD n).canLay0 && PyData.canLayAll0 (ns.map twoD)) = true
      rw [h1]
      rfl
    · show max (twoD n).depth (PyData.depthAll (ns.map twoD)) ≤ 1
      have e : (twoD n).depth = 1 := rfl
      omega
theorem Twos.tail {H : Hp} {c : Addr} {cs : List Addr} {n : Int × Int} {ns : List (Int × Int)} (h : Twos H (c :: cs) (n :: ns)) : H c = some (.tup [.int n.1, .int n.2]) ∧ Twos H cs ns := by
  refine ⟨?_, Nat.succ.inj h.1, fun i m e => ?_⟩
  · obtain ⟨b, e1, e2⟩ := h.2 0 n rfl
    obtain rfl : c = b := Option.some.inj e1
    exact e2
  · obtain ⟨b, e1, e2⟩ := h.2 (i + 1) m e
    exact ⟨b, e1, e2⟩
theorem Twos.dqs {Ex : Addr → Prop} {H : Hp} : ∀ {cs : List Addr} {ns : List (Int × Int)}, Twos H cs ns → Dqs Ex H (cs.map V.ref) (ns.map twoD)
  | [], [], _ => .nil
  | c :: cs, n :: ns, h => .cons (.tup h.tail.1 (.cons (.int _) (.cons (.int _) .nil))) h.tail.2.dqs
  | [], _ :: _, h => nomatch h.1
  | _ :: _, [], h => nomatch h.1
/-! counts == [] -/
theorem Twos.eqn {H : Hp} {D E : Addr} {cs : List Addr} {ns : List (Int × Int)} {Q : VK} (h : Twos H cs ns) (hD : H D = some (.lst (cs.map V.ref))) (hE : H E = some (.lst [])) (q : Q (.bl ns.isEmpty) H) : rEqD K (.ref D) (.ref E) H Q := by
  obtain ⟨s1, s2⟩ := twos_sh ns
  refine ⟨.list (ns.map twoD), .list [], Dp.lst (SqL.of hD) (h.dqs (Ex := fun _ => False)).dp, Dp.lst (SqL.of hE) .nil, ?_, rfl, ?_⟩
  · unfold SeqAt.shaped
    rw [Bool.and_eq_true, decide_eq_true_eq]
    exact ⟨s1, by show PyData.depthAll (ns.map twoD) + 1 ≤ 64; omega⟩
  · cases ns with
    | nil => exact q
    | cons n ns => exact q
/-! the dict of dicts -/
def top4 (dA dJ dO tb : Addr) : List (Key × V) := [(.inr "asks", .ref dA), (.inr "jobs", .ref dJ), (.inr "open", .ref dO), (.inr "gates", .ref tb)]
theorem merge_new : ∀ {more kvs : List (Key × V)}, (more.map (·.1)).Nodup → (∀ x ∈ more, valV kvs x.1 = none) → mergeK kvs more = kvs ++ more
  | [], kvs, _, _ => (List.append_nil kvs).symm
  | x :: more, kvs, nd, h => by
    rw [List.map_cons, List.nodup_cons] at nd
    show mergeK (putK kvs x.1 x.2) more = _
    rw [putK_new _ (h x List.mem_cons_self), merge_new nd.2 fun y m => ?_, List.append_assoc]
    · rfl
    · rw [valV_snoc _ _ _ _ (h x List.mem_cons_self), if_neg]
      · exact h y (List.mem_cons_of_mem _ m)
      · intro e
        exact nd.1 (by rw [← e]; exact List.mem_map.mpr ⟨y, m, rfl⟩)
theorem merge4 (dA dJ dO tb : Addr) : mergeK [] (top4 dA dJ dO tb) = top4 dA dJ dO tb :=
  merge_new (show ([.inr "asks", .inr "jobs", .inr "open", .inr "gates"] : List Key).Nodup by decide +kernel) fun _ _ => rfl
structure Thr (H : Hp) (d dA dJ dO tb : Addr) (rs : List Row) (ksA ksJ : List Gr.HK) (os : List Str) (kA kJ : List (List Key × V)) (kO : List (Key × V)) : Prop where
  top : H d = some (.dK (top4 dA dJ dO tb))
  a : H dA = some (.dT kA)
  j : H dJ = some (.dT kJ)
  o : H dO = some (.dK kO)
  ks : SpD H (TA rs) ksA kA
  js : SpD H (TJ rs) ksJ kJ
  os : MoD H (fun h us => ∃ a b, us = [a, b] ∧ Mr rs h a b) os kO
  n1 : dA ≠ dJ
  n2 : d ≠ dO
section
variable {H H' : Hp} {d dA dJ dO tb : Addr} {rs : List Row} {ksA ksJ : List Gr.HK} {os : List Str} {kA kJ : List (List Key × V)} {kO : List (Key × V)}
theorem Thr.same (h : Thr H d dA dJ dO tb rs ksA ksJ os kA kJ kO) (s : Same H H') : Thr H' d dA dJ dO tb rs ksA ksJ os kA kJ kO :=
  ⟨s _ _ h.top, s _ _ h.a, s _ _ h.j, s _ _ h.o, h.ks.go fun b us e => s _ _ e, h.js.go fun b us e => s _ _ e, h.os.go fun b us e => s _ _ e, h.n1, h.n2⟩
theorem Thr.putA (h : Thr H d dA dJ dO tb rs ksA ksJ os kA kJ kO) {k : Gr.HK} {p : Addr} {us : List V} (n : k ∉ ksA) (hp : H p = some (.tup us)) (t : TA rs k us) : Thr (upd H dA (.dT (putK kA (Gr.keyOf k) (.ref p)))) d dA dJ dO tb rs (ksA ++ [k]) ksJ os (putK kA (Gr.keyOf k) (.ref p)) kJ kO := by
  have tup : ∀ b ys, H b = some (.tup ys) → (upd H dA (.dT (putK kA (Gr.keyOf k) (.ref p)))) b = some (.tup ys) := fun b ys e => by rw [upd_ne (ne_of e h.a (fun z => nomatch z))]; exact e
  refine ⟨?_, upd_same, ?_, ?_, (h.ks.put n hp t).go tup, h.js.go tup, h.os.go tup, h.n1, h.n2⟩
  · rw [upd_ne (ne_of h.top h.a (fun z => nomatch z))]; exact h.top
  · rw [upd_ne (Ne.symm h.n1)]; exact h.j
  · rw [upd_ne (ne_of h.o h.a (fun z => nomatch z))]; exact h.o
theorem Thr.putJ (h : Thr H d dA dJ dO tb rs ksA ksJ os kA kJ kO) {k : Gr.HK} {p : Addr} {us : List V} (n : k ∉ ksJ) (hp : H p = some (.tup us)) (t : TJ rs k us) : Thr (upd H dJ (.dT (putK kJ (Gr.keyOf k) (.ref p)))) d dA dJ dO tb rs ksA (ksJ ++ [k]) os kA (putK kJ (Gr.keyOf k) (.ref p)) kO := by
  have tup : ∀ b ys, H b = some (.tup ys) → (upd H dJ (.dT (putK kJ (Gr.keyOf k) (.ref p)))) b = some (.tup ys) := fun b ys e => by rw [upd_ne (ne_of e h.j (fun z => nomatch z))]; exact e
  refine ⟨?_, ?_, upd_same, ?_, h.ks.go tup, (h.js.put n hp t).go tup, h.os.go tup, h.n1, h.n2⟩
  · rw [upd_ne (ne_of h.top h.j (fun z => nomatch z))]; exact h.top
  · rw [upd_ne h.n1]; exact h.a
  · rw [upd_ne (ne_of h.o h.j (fun z => nomatch z))]; exact h.o
theorem Thr.putO (h : Thr H d dA dJ dO tb rs ksA ksJ os kA kJ kO) {k : Str} {p : Addr} {us : List V} (n : k ∉ os) (hp : H p = some (.tup us)) (t : ∃ a b, us = [a, b] ∧ Mr rs k a b) : Thr (upd H dO (.dK (putK kO (Sum.inr k) (.ref p)))) d dA dJ dO tb rs ksA ksJ (os ++ [k]) kA kJ (putK kO (Sum.inr k) (.ref p)) := by
  have tup : ∀ b ys, H b = some (.tup ys) → (upd H dO (.dK (putK kO (Sum.inr k) (.ref p)))) b = some (.tup ys) := fun b ys e => by rw [upd_ne (ne_of e h.o (fun z => nomatch z))]; exact e
  refine ⟨?_, ?_, ?_, upd_same, h.ks.go tup, h.js.go tup, (h.os.put n hp t).go tup, h.n1, h.n2⟩
  · rw [upd_ne h.n2]; exact h.top
  · rw [upd_ne (ne_of h.a h.o (fun z => nomatch z))]; exact h.a
  · rw [upd_ne (ne_of h.j h.o (fun z => nomatch z))]; exact h.j
theorem Thr.lenA (h : Thr H d dA dJ dO tb rs ksA ksJ os kA kJ kO) : kA.length = ksA.length ∧ kJ.length = ksJ.length ∧ kO.length = os.length := by
  have h1 := congrArg List.length h.ks.keys
  have h2 := congrArg List.length h.js.keys
  have h3 := congrArg List.length h.os.keys
  rw [List.length_map, List.length_map] at h1 h2 h3
  exact ⟨h1, h2, h3⟩
theorem Thr.getA (h : Thr H d dA dJ dO tb rs ksA ksJ os kA kJ kO) : DGet H d (.str "asks") (some (.ref dA)) := DGet.k (k := Sum.inr "asks") h.top
theorem Thr.getJ (h : Thr H d dA dJ dO tb rs ksA ksJ os kA kJ kO) : DGet H d (.str "jobs") (some (.ref dJ)) := by
  have e : valV (top4 dA dJ dO tb) (Sum.inr "jobs") = some (.ref dJ) := by
    unfold top4
    rw [valV_neg (show ¬ (Sum.inr "asks" : Key) = (Sum.inr "jobs" : Key) by decide +kernel), valV_pos rfl]
  rw [← e]
  exact DGet.k (k := Sum.inr "jobs") h.top
theorem Thr.getO (h : Thr H d dA dJ dO tb rs ksA ksJ os kA kJ kO) : DGet H d (.str "open") (some (.ref dO)) := by
  have e : valV (top4 dA dJ dO tb) (Sum.inr "open") = some (.ref dO) := by
    unfold top4
    rw [valV_neg (show ¬ (Sum.inr "asks" : Key) = (Sum.inr "open" : Key) by decide +kernel), valV_neg (show ¬ (Sum.inr "jobs" : Key) = (Sum.inr "open" : Key) by decide +kernel), valV_pos rfl]
  rw [← e]
  exact DGet.k (k := Sum.inr "open") h.top
theorem Thr.getG (h : Thr H d dA dJ dO tb rs ksA ksJ os kA kJ kO) : DGet H d (.str "gates") (some (.ref tb)) := by
  have e : valV (top4 dA dJ dO tb) (Sum.inr "gates") = some (.ref tb) := by
    unfold top4
    rw [valV_neg (show ¬ (Sum.inr "asks" : Key) = (Sum.inr "gates" : Key) by decide +kernel), valV_neg (show ¬ (Sum.inr "jobs" : Key) = (Sum.inr "gates" : Key) by decide +kernel), valV_neg (show ¬ (Sum.inr "open" : Key) = (Sum.inr "gates" : Key) by decide +kernel), valV_pos rfl]
  rw [← e]
  exact DGet.k (k := Sum.inr "gates") h.top
end
/-! the numbers of a dict of rows -/
def numK : Key → Int
  | .inl n => n
  | .inr _ => 0
theorem DNum.keys {H : Hp} {d : Addr} {rs : List Row} {wd h : Str} {kvs : List (Key × V)} (x : DNum H d rs wd h kvs) : kvs.map (·.1) = (kvs.map fun kv => numK kv.1).map Sum.inl ∧ ∀ n, n ∈ (kvs.map fun kv => numK kv.1) ↔ ∃ r, (Bk rs wd r ∧ r.h = h) ∧ r.k = n := by
  refine ⟨?_, fun n => ⟨fun m => ?_, ?_⟩⟩
  · rw [List.map_map]
    refine List.map_congr_left fun kv m => ?_
    obtain ⟨a, r, _, _, _, e⟩ := x.row.own kv m
    show kv.1 = Sum.inl (numK kv.1)
    rw [e]
    rfl
  · obtain ⟨kv, mk, rfl⟩ := List.mem_map.mp m
    obtain ⟨a, r, _, _, hr, e⟩ := x.row.own kv mk
    exact ⟨r, hr, by rw [e]; rfl⟩
  · rintro ⟨r, hr, rfl⟩
    obtain ⟨v, m⟩ := x.row.all r hr
    exact List.mem_map.mpr ⟨_, m, rfl⟩
/-! ### what there was by the rows -/
theorem slice2 {r : Row} (h : r.word = "all") : cutV r.vals (some 2) none = [.int r.k, .int r.x3] ∧ ¬ (HT.sIx r.vals.length 0 (some 2) = 0 ∧ HT.sIx r.vals.length r.vals.length none = r.vals.length) := by
  cases r with
  | all _ _ _ => exact ⟨rfl, by intro z; exact absurd z.1 (by show ¬ (HT.sIx 4 0 (some 2) = 0); decide)⟩
  | ask _ _ _ _ _ _ => exact absurd h w_aa
  | job _ _ _ _ => exact absurd h w_ja
theorem atI_head {v : V} {vs : List V} : atI (v :: vs) 0 = some v := by
  unfold atI ixN
  rw [if_pos (by decide), if_pos (by rw [List.length_cons]; omega)]
  rfl
def Sl14 (t l d : Addr) (h : Str) (own dA dJ dc : Addr) (σ : L2.St) : Prop := ∃ v5 v9 v10 v11 v12 v13 : Option V, σ = [some (.ref t), some (.ref l), some (.ref d), some (.str h), some (.ref own), v5, some (.ref dA), some (.ref dJ), some (.ref dc), v9, v10, v11, v12, v13]
def There (H : Hp) (d t : Addr) (hs : List Str) (rs : List Row) (dA dJ dO tb : Addr) (kA kJ : List (List Key × V)) (kO : List (Key × V)) : Prop :=
  Thr H d dA dJ dO tb rs (below hs (cnA rs)) (below hs (cnJ rs)) (openOf rs hs) kA kJ kO ∧ (∃ ta, H t = some (.tup [.ref ta, .ref tb])) ∧ ∀ h ∈ hs, (CntA rs h (cnA rs h : Nat) ∧ cnA rs h ≤ 16) ∧ CntJ rs h (cnJ rs h : Nat) ∧ cnJ rs h ≤ 16
def sp_there : Sp := fun vs H Q _ => ∃ (t l : Addr) (hs gs : List Str) (xs : List V) (rs : List Row), vs = [.ref t, .ref l] ∧ TownAt H t hs gs ∧ H l = some (.lst xs) ∧ Rws H xs rs ∧ rs.length ≤ 1000 ∧ Book hs rs ∧ hs.length ≤ 6 ∧ hs.Nodup ∧
  ∀ (d dA dJ dO tb : Addr) (kA kJ : List (List Key × V)) (kO : List (Key × V)) (H' : Hp), Same H H' → H d = none → H dA = none → H dJ = none → H dO = none → There H' d t hs rs dA dJ dO tb kA kJ kO → Q (.ref d) H'
set_option maxHeartbeats 16000000 in
theorem ok_l_there (T : Txt K mg af fd) : FnOk P w K mg base CX0 2 (af 57) (fd 57) ["town", "rows"] sp_there := by
  refine T.F_l_there.ok sc_l_there (fun vs H Q E h => ?_) (fun cdv A outer s H vs Q E hr h => ?_)
  · obtain ⟨t, l, hs, gs, xs, rs, rfl, _⟩ := h
    rfl
  · obtain ⟨t, l, hs, gs, xs, rs, rfl, ⟨ta, tb, t1, t2, t3⟩, hl, hrw, len, B, l6, hnd, q⟩ := h
    refine ⟨_, (pss_cons (ps_set (i := 2) sc_l_there.nd rfl (by first | exact Or.inl rfl | exact Or.inr rfl) (pe_disp (pps_cons pe_str pe_dnewT (pps_cons pe_str pe_dnewT (pps_cons pe_str pe_dnewK (pps_cons pe_str (pe_ix ix_tup (pv 0) pe_int (fun _ _ => rfl)) pps_nil)))) (by rfl) (by rfl) (fun z => by cases z) (by decide)))
        (pss_cons (ps_for PassesOwn.never rfl (pi_tup (pe_ix ix_tup (pv 0) pe_int (fun _ _ => rfl))) (pg_name (i := 3) sc_l_there.nd rfl (by first | exact Or.inl rfl | exact Or.inr rfl)) (pss_cons (ps_setLc (i := 4) (own := [("row", 5)]) (g := gName 5) (by rfl) sc_l_there.nd rfl rfl (sw_true rfl rfl rfl (by decide +kernel)) (pi_list (pv 1)) (blkOk_by (own := [("row", 5)]) (N := ["town", "rows", "there", "house", "own", "row", "asks", "jobs", "counts", "named", "k", "outs", "begins", "number"]) (sc := defScope s_l_there) (by decide +kernel)) (fun _ _ _ _ _ => pg_name (i := 5) sc_l_there.nd rfl (Or.inl rfl)) (fun _ _ _ _ _ => (pts_one (pt_cmpR op_eq (pe_ix (show IxR _ (rIxT K) from ix_tup) (pv 5) pe_int (fun _ _ => rfl)) (pv 3) (nomark _)))) (fun _ _ _ _ _ => (pv 5)))
        (pss_cons (ps_set (i := 6) sc_l_there.nd rfl (by first | exact Or.inl rfl | exact Or.inr rfl) (pe_callTy (call_dictP rfl) (by rfl) T.m_dict (by decide +kernel) (pa_cons (pe_lc (own := [("row", 5)]) (g := gName 5) (by rfl) sc_l_there.nd (pi_list (pv 4)) (blkOk_by (own := [("row", 5)]) (N := ["town", "rows", "there", "house", "own", "row", "asks", "jobs", "counts", "named", "k", "outs", "begins", "number"]) (sc := defScope s_l_there) (by decide +kernel)) (fun _ _ _ _ _ => pg_name (i := 5) sc_l_there.nd rfl (Or.inl rfl)) (fun _ _ _ _ _ => (pts_one (pt_cmpR op_eq (pe_ix (show IxR _ (rIxT K) from ix_tup) (pv 5) pe_int (fun _ _ => rfl)) pe_str (nomark _)))) (fun _ _ _ _ _ => (pe_tup (pa_cons (pe_ix (show IxR _ (rIxT K) from ix_tup) (pv 5) pe_int (fun _ _ => rfl)) (pa_cons (pv 5) pa_nil))))) pa_nil)))
        (pss_cons (ps_set (i := 7) sc_l_there.nd rfl (by first | exact Or.inl rfl | exact Or.inr rfl) (pe_callTy (call_dictP rfl) (by rfl) T.m_dict (by decide +kernel) (pa_cons (pe_lc (own := [("row", 5)]) (g := gName 5) (by rfl) sc_l_there.nd (pi_list (pv 4)) (blkOk_by (own := [("row", 5)]) (N := ["town", "rows", "there", "house", "own", "row", "asks", "jobs", "counts", "named", "k", "outs", "begins", "number"]) (sc := defScope s_l_there) (by decide +kernel)) (fun _ _ _ _ _ => pg_name (i := 5) sc_l_there.nd rfl (Or.inl rfl)) (fun _ _ _ _ _ => (pts_one (pt_cmpR op_eq (pe_ix (show IxR _ (rIxT K) from ix_tup) (pv 5) pe_int (fun _ _ => rfl)) pe_str (nomark _)))) (fun _ _ _ _ _ => (pe_tup (pa_cons (pe_ix (show IxR _ (rIxT K) from ix_tup) (pv 5) pe_int (fun _ _ => rfl)) (pa_cons (pv 5) pa_nil))))) pa_nil)))
        (pss_cons (ps_setLc (i := 8) (own := [("row", 5)]) (g := gName 5) (by rfl) sc_l_there.nd rfl rfl (sw_true rfl rfl rfl (by decide +kernel)) (pi_list (pv 4)) (blkOk_by (own := [("row", 5)]) (N := ["town", "rows", "there", "house", "own", "row", "asks", "jobs", "counts", "named", "k", "outs", "begins", "number"]) (sc := defScope s_l_there) (by decide +kernel)) (fun _ _ _ _ _ => pg_name (i := 5) sc_l_there.nd rfl (Or.inl rfl)) (fun _ _ _ _ _ => (pts_one (pt_cmpR op_eq (pe_ix (show IxR _ (rIxT K) from ix_tup) (pv 5) pe_int (fun _ _ => rfl)) pe_str (nomark _)))) (fun _ _ _ _ _ => (pe_slice (show SlR _ (rSlT K) from sl_tup) (pv 5) (po_some pe_int) po_none)))
        (C8.pss_cut (ps_if (pt_cmpR (op_eqD hr.units) (pv 8) (pe_lst pa_nil) (nomark _)) (pss_cons (ps_set (i := 9) sc_l_there.nd rfl (by first | exact Or.inl rfl | exact Or.inr rfl) (pe_op op_cat (pe_callTy (call_listD rfl) (by rfl) T.m_list (by decide +kernel) (pa_cons (pv 7) pa_nil)) (pe_lock (pe_lc (own := [("k", 10)]) (g := gName 10) (by rfl) sc_l_there.nd (pi_keys (pv 6)) (blkOk_by (own := [("k", 10)]) (N := ["town", "rows", "there", "house", "own", "row", "asks", "jobs", "counts", "named", "k", "outs", "begins", "number"]) (sc := defScope s_l_there) (by decide +kernel)) (fun _ _ _ _ _ => pg_name (i := 10) sc_l_there.nd rfl (Or.inl rfl)) (fun _ _ _ _ _ => pts_nil) (fun _ _ _ _ _ => (pe_ix (show IxR _ (rIxT K) from ix_tup) (pe_dget (hu_of hr) (pv 6) (pv 10) (fun _ _ => rfl)) pe_int (fun _ _ => rfl)))))))
        (pss_cons (ps_set (i := 8) sc_l_there.nd rfl (by first | exact Or.inl rfl | exact Or.inr rfl) (pe_lst (pa_cons (pe_tup (pa_cons (pe_op op_add pe_int (pe_callBK (Gr.cr_maxDfD rfl (hu_of hr)) (by rfl) T.m_max (by decide +kernel) (pa_cons (pv 6) pa_nil) (pk_cons (pe_un un_neg pe_int) pk_nil))) (pa_cons (pe_op op_add pe_int (pe_callBK (Gr.cr_maxDf rfl (hu_of hr)) (by rfl) T.m_max (by decide +kernel) (pa_cons (pv 9) pa_nil) (pk_cons (pe_un un_neg pe_int) pk_nil))) pa_nil))) pa_nil)))
        (pss_cons (ps_lock (ps_setLc (i := 11) (own := [("k", 10)]) (g := gName 10) (by rfl) sc_l_there.nd rfl rfl (sw_true rfl rfl rfl (by decide +kernel)) (pi_keys (pv 6)) (blkOk_by (own := [("k", 10)]) (N := ["town", "rows", "there", "house", "own", "row", "asks", "jobs", "counts", "named", "k", "outs", "begins", "number"]) (sc := defScope s_l_there) (by decide +kernel)) (fun _ _ _ _ _ => pg_name (i := 10) sc_l_there.nd rfl (Or.inl rfl)) (fun _ _ _ _ _ => pts_nil) (fun _ _ _ _ _ => (pe_ix (show IxR _ (rIxT K) from ix_tup) (pe_dget (hu_of hr) (pv 6) (pv 10) (fun _ _ => rfl)) pe_int (fun _ _ => rfl)))))
        (pss_cons (ps_lock (ps_setLc (i := 12) (own := [("k", 10)]) (g := gName 10) (by rfl) sc_l_there.nd rfl rfl (sw_true rfl rfl rfl (by decide +kernel)) (pi_keys (pv 7)) (blkOk_by (own := [("k", 10)]) (N := ["town", "rows", "there", "house", "own", "row", "asks", "jobs", "counts", "named", "k", "outs", "begins", "number"]) (sc := defScope s_l_there) (by decide +kernel)) (fun _ _ _ _ _ => pg_name (i := 10) sc_l_there.nd rfl (Or.inl rfl)) (fun _ _ _ _ _ => pts_nil) (fun _ _ _ _ _ => (pe_ix (show IxR _ (rIxT K) from ix_tup) (pe_dget (hu_of hr) (pv 7) (pv 10) (fun _ _ => rfl)) pe_int (fun _ _ => rfl)))))
        (pss_one (ps_dput (hu_of hr) (pe_dget (hu_of hr) (pv 2) pe_str (fun _ _ => rfl)) (pv 3) (pe_tup (pa_cons (pe_callBK (Gr.cr_maxDf rfl (hu_of hr)) (by rfl) T.m_max (by decide +kernel) (pa_cons (pv 11) pa_nil) (pk_cons pe_non pk_nil)) (pa_cons (pe_callBK (Gr.cr_maxDf rfl (hu_of hr)) (by rfl) T.m_max (by decide +kernel) (pa_cons (pv 12) pa_nil) (pk_cons pe_non pk_nil)) pa_nil))) rfl)))))) pss_nil)
        (pss_cons (ps_for PassesOwn.never rfl (pi_range1 (by rfl) T.m_range (pa_cons (pe_ix ix_tup (pe_ix ix_list (pv 8) pe_int (fun _ _ => rfl)) pe_int (fun _ _ => rfl)) pa_nil)) (pg_name (i := 13) sc_l_there.nd rfl (by first | exact Or.inl rfl | exact Or.inr rfl)) (pss_one (ps_dput (hu_of hr) (pe_dget (hu_of hr) (pv 2) pe_str (fun _ _ => rfl)) (pe_tup (pa_cons (pv 3) (pa_cons (pv 13) pa_nil))) (pe_call (ok_l_ask_there T) (hr.mono (by first | decide | omega)) (by rfl) T.g_l_ask_there T.F_l_ask_there.kp T.b_l_ask_there .nil pass0 (pa_cons (pv 6) (pa_cons (pv 13) pa_nil))) rfl)))
        (pss_one (ps_for PassesOwn.never rfl (pi_range1 (by rfl) T.m_range (pa_cons (pe_ix ix_tup (pe_ix ix_list (pv 8) pe_int (fun _ _ => rfl)) pe_int (fun _ _ => rfl)) pa_nil)) (pg_name (i := 13) sc_l_there.nd rfl (by first | exact Or.inl rfl | exact Or.inr rfl)) (pss_one (ps_dput (hu_of hr) (pe_dget (hu_of hr) (pv 2) pe_str (fun _ _ => rfl)) (pe_tup (pa_cons (pv 3) (pa_cons (pv 13) pa_nil))) (pe_call (ok_l_job_there T) (hr.mono (by first | decide | omega)) (by rfl) T.g_l_job_there T.F_l_job_there.kp T.b_l_job_there .nil pass0 (pa_cons (pv 6) (pa_cons (pv 7) (pa_cons (pv 13) pa_nil)))) rfl)))))))))))
        (pss_one (ps_ret (pv 2))))), ?_⟩
    intro d nd dA ndA dJ ndJ dO ndO
    have s1 : Same H (upd H d (.dK [])) := same_upd nd
    have s2 : Same H (upd (upd H d (.dK [])) dA (.dT [])) := s1.trans (same_upd ndA)
    have s3 : Same H (upd (upd (upd H d (.dK [])) dA (.dT [])) dJ (.dT [])) := s2.trans (same_upd ndJ)
    have s4 : Same H (upd (upd (upd (upd H d (.dK [])) dA (.dT [])) dJ (.dT [])) dO (.dK [])) := s3.trans (same_upd ndO)
    have ndA0 := s1.free ndA
    have ndJ0 := s2.free ndJ
    have ndO0 := s3.free ndO
    have n1 : dA ≠ dJ := ne_of_none upd_same ndJ
    have n2 : d ≠ dO := ne_of_none ((same_upd ndJ) _ _ ((same_upd ndA) _ _ upd_same)) ndO
    have hdd : (upd (upd (upd (upd H d (.dK [])) dA (.dT [])) dJ (.dT [])) dO (.dK [])) d = some (.dK []) := (same_upd ndO) _ _ ((same_upd ndJ) _ _ ((same_upd ndA) _ _ upd_same))
    have hdA : (upd (upd (upd (upd H d (.dK [])) dA (.dT [])) dJ (.dT [])) dO (.dK [])) dA = some (.dT []) := (same_upd ndO) _ _ ((same_upd ndJ) _ _ upd_same)
    have hdJ : (upd (upd (upd (upd H d (.dK [])) dA (.dT [])) dJ (.dT [])) dO (.dK [])) dJ = some (.dT []) := (same_upd ndO) _ _ upd_same
    have hdO : (upd (upd (upd (upd H d (.dK [])) dA (.dT [])) dJ (.dT [])) dO (.dK [])) dO = some (.dK []) := upd_same
    generalize upd (upd (upd (upd H d (.dK [])) dA (.dT [])) dJ (.dT [])) dO (.dK []) = H4 at s4 hdd hdA hdJ hdO ⊢
    refine ⟨_, rfl, t, _, 1, _, rfl, rfl, SqT.of (s4 _ _ t1), rfl, hdd, top4 dA dJ dO tb, rfl, (show 4 ≤ 15 by decide), ?_⟩
    rw [merge4]
    have s5 : Same H (upd H4 d (.dK (top4 dA dJ dO tb))) := same_mut s4 nd
    have th5 : Thr (upd H4 d (.dK (top4 dA dJ dO tb))) d dA dJ dO tb rs [] [] [] [] [] [] := by
      refine ⟨upd_same, ?_, ?_, ?_, ⟨rfl, fun _ m => nomatch m⟩, ⟨rfl, fun _ m => nomatch m⟩, ⟨rfl, fun _ m => nomatch m⟩, n1, n2⟩
      · rw [upd_ne (ne_of hdA hdd (fun z => nomatch z))]; exact hdA
      · rw [upd_ne (ne_of hdJ hdd (fun z => nomatch z))]; exact hdJ
      · rw [upd_ne (Ne.symm n2)]; exact hdO
    generalize upd H4 d (.dK (top4 dA dJ dO tb)) = H5 at s5 th5 ⊢
    refine ⟨_, rfl, t, _, 0, _, rfl, rfl, SqT.of (s5 _ _ t1), rfl, ta, rfl, ⟨_, SqT.of (s5 _ _ t2)⟩, ?_⟩
    refine for_it (walk_tup (K := K) (a := ta) (xs := hs.map V.str)) (fun i σ H' => (∃ v3 v4 v5 v6 v7 v8 v9 v10 v11 v12 v13 : Option V, σ = [some (.ref t), some (.ref l), some (.ref d), v3, v4, v5, v6, v7, v8, v9, v10, v11, v12, v13]) ∧ Same H H' ∧ (∃ kA kJ kO, Thr H' d dA dJ dO tb rs (below (hs.take i) (cnA rs)) (below (hs.take i) (cnJ rs)) (openOf rs (hs.take i)) kA kJ kO) ∧ ∀ h ∈ hs.take i, (CntA rs h (cnA rs h : Nat) ∧ cnA rs h ≤ 16) ∧ CntJ rs h (cnJ rs h : Nat) ∧ cnJ rs h ≤ 16)
      ⟨⟨none, none, none, none, none, none, none, none, none, none, none, rfl⟩, s5, ⟨[], [], [], by rw [List.take_zero]; exact th5⟩, fun h m => by rw [List.take_zero] at m; exact nomatch m⟩ (fun i σ H' _ h => SqT.of (h.2.1 _ _ t2)) ?_ ?_
    · rintro i v σ H6 H7 hi ⟨⟨v3, v4, v5, v6, v7, v8, v9, v10, v11, v12, v13, rfl⟩, s6, ⟨kA, kJ, kO, th6⟩, cn⟩ ⟨rfl, ev⟩
      rw [List.length_map] at hi
      have eh : hs[i]? = some hs[i] := List.getElem?_eq_getElem hi
      generalize hs[i] = h at eh
      rw [List.getElem?_map, eh] at ev
      obtain rfl : V.str h = v := Option.some.inj ev
      -- own
      refine ⟨_, rfl, l, rfl, ⟨_, SqL.of (s6 _ _ hl)⟩, fun D nD => ?_⟩
      refine own_map (fun r => decide (r.h = h)) (s6 _ _ hl) (hrw.same s6) len nD (fun a r H2 Kt ha hk => ⟨_, rfl, a, _, 1, _, rfl, rfl, SqT.of ha, at1 r, _, rfl, rfl, _, rfl, (by rw [show decide (V.str r.h = V.str h) = decide (r.h = h) from decide_eq_decide.mpr ⟨fun e => V.str.inj e, fun e => congrArg V.str e⟩]; exact hk)⟩) (fun a r H2 Ke ha hk => ⟨_, rfl, hk⟩) (fun ws H8 s8 hD8 hw8 => ?_)
      have lo : (rs.filter fun r => decide (r.h = h)).length ≤ 1000 := Nat.le_trans (List.length_filter_le _ _) len
      have s68 := s6.trans s8
      -- asks
      refine ⟨_, rfl, D, rfl, ⟨_, SqL.of hD8⟩, fun D9 nD9 => ?_⟩
      refine pair_map (fun r => decide (r.word = "ask")) hD8 hw8 lo nD9 (fun a r H2 Kt ha hk => ⟨_, rfl, a, _, 0, _, rfl, rfl, SqT.of ha, at0 r, rfl, _, rfl, (by rw [show decide (V.str r.word = V.str "ask") = decide (r.word = "ask") from decide_eq_decide.mpr ⟨fun e => V.str.inj e, fun e => congrArg V.str e⟩]; exact hk)⟩) (fun a r H2 Ke ha hk => ⟨_, rfl, a, _, 2, _, rfl, rfl, SqT.of ha, at2 r, _, rfl, (by show 2 ≤ sizeLine; decide), hk⟩) (fun psA kvA H9 s9 hD9 pr9 lk9 => ?_)
      refine ⟨D9, psA, kvA, rfl, SqL.of hD9, pr9.p.pair, fun eA neA => ?_⟩
      have sA : Same H9 (upd H9 eA (.dK (mergeK [] kvA))) := same_upd neA
      have dnA : DNum (upd H9 eA (.dK (mergeK [] kvA))) eA rs "ask" h (mergeK [] kvA) := ⟨upd_same, (pr9.drow.same (Same.rows sA)).iff fun r => by simp [Bk]; exact ⟨fun z => ⟨⟨z.1.1, z.2⟩, z.1.2⟩, fun z => ⟨⟨z.1.1, z.2⟩, z.1.2⟩⟩, B.uniq (.inl rfl), by have := length_mergeK kvA []; rw [List.length_nil] at this; omega⟩
      generalize upd H9 eA (.dK (mergeK [] kvA)) = H10 at sA dnA ⊢
      generalize mergeK [] kvA = kkA at dnA
      have s8A : Same H8 H10 := s9.trans sA
      have hD10 := s8A _ _ hD8
      have hw10 := hw8.same s8A
      -- jobs
      refine ⟨_, rfl, D, rfl, ⟨_, SqL.of hD10⟩, fun D11 nD11 => ?_⟩
      refine pair_map (fun r => decide (r.word = "job")) hD10 hw10 lo nD11 (fun a r H2 Kt ha hk => ⟨_, rfl, a, _, 0, _, rfl, rfl, SqT.of ha, at0 r, rfl, _, rfl, (by rw [show decide (V.str r.word = V.str "job") = decide (r.word = "job") from decide_eq_decide.mpr ⟨fun e => V.str.inj e, fun e => congrArg V.str e⟩]; exact hk)⟩) (fun a r H2 Ke ha hk => ⟨_, rfl, a, _, 2, _, rfl, rfl, SqT.of ha, at2 r, _, rfl, (by show 2 ≤ sizeLine; decide), hk⟩) (fun psJ kvJ H11 s11 hD11 pr11 lk11 => ?_)
      refine ⟨D11, psJ, kvJ, rfl, SqL.of hD11, pr11.p.pair, fun eJ neJ => ?_⟩
      have sJ : Same H11 (upd H11 eJ (.dK (mergeK [] kvJ))) := same_upd neJ
      have dnJ : DNum (upd H11 eJ (.dK (mergeK [] kvJ))) eJ rs "job" h (mergeK [] kvJ) := ⟨upd_same, (pr11.drow.same (Same.rows sJ)).iff fun r => by simp [Bk]; exact ⟨fun z => ⟨⟨z.1.1, z.2⟩, z.1.2⟩, fun z => ⟨⟨z.1.1, z.2⟩, z.1.2⟩⟩, B.uniq (.inr rfl), by have := length_mergeK kvJ []; rw [List.length_nil] at this; omega⟩
      generalize upd H11 eJ (.dK (mergeK [] kvJ)) = H12 at sJ dnJ ⊢
      generalize mergeK [] kvJ = kkJ at dnJ
      have s10J : Same H10 H12 := s11.trans sJ
      have dnA12 := dnA.same s10J
      have hD12 := s10J _ _ hD10
      have hw12 := hw10.same s10J
      -- counts
      refine ⟨_, rfl, D, rfl, ⟨_, SqL.of hD12⟩, fun Dc nDc => ?_⟩
      refine two_map (fun r : Row => decide (r.word = ("all" : Str))) hD12 hw12 lo nDc (fun a r H2 Kt ha hk => ⟨_, rfl, a, _, 0, _, rfl, rfl, SqT.of ha, at0 r, rfl, _, rfl, (by rw [show decide (V.str r.word = V.str "all") = decide (r.word = "all") from decide_eq_decide.mpr ⟨fun e => V.str.inj e, fun e => congrArg V.str e⟩]; exact hk)⟩) (fun a r H2 Ke hc ha hk => ?_) (fun cs H13 s13 hD13 tw13 => ?_)
      · have e2 := slice2 (of_decide_eq_true hc)
        refine ⟨_, rfl, _, rfl, a, _, rfl, SqT.of ha, e2.2, fun p np => ?_⟩
        rw [e2.1]
        exact hk p np
      · have s813 : Same H8 H13 := (s8A.trans s10J).trans s13
        have sH : Same H H13 := s68.trans s813
        have th13 := th6.same (s8.trans s813)
        have dnA13 := dnA12.same s13
        have dnJ13 := dnJ.same s13
        refine ⟨fun σ H' => ∃ (dc c : Addr) (rest : List V), Sl14 t l d h D eA eJ dc σ ∧ Same H H' ∧ DNum H' eA rs "ask" h kkA ∧ DNum H' eJ rs "job" h kkJ ∧ H' dc = some (.lst (.ref c :: rest)) ∧ H' c = some (.tup [.int (cnA rs h : Nat), .int (cnJ rs h : Nat)]) ∧ ((CntA rs h (cnA rs h : Nat) ∧ cnA rs h ≤ 16) ∧ CntJ rs h (cnJ rs h : Nat) ∧ cnJ rs h ≤ 16) ∧ ∃ kO', Thr H' d dA dJ dO tb rs (below (hs.take i) (cnA rs)) (below (hs.take i) (cnJ rs)) (openOf rs (hs.take (i + 1))) kA kJ kO', ?_, ?_⟩
        · refine ⟨_, rfl, (by show 0 ≤ sizeLine; decide), fun e0 ne0 => ?_⟩
          have s14 : Same H13 (upd H13 e0 (.lst [])) := same_upd ne0
          have he0 : (upd H13 e0 (.lst [])) e0 = some (.lst []) := upd_same
          generalize upd H13 e0 (.lst []) = H14 at s14 he0 ⊢
          have tw14 := tw13.go (H' := H14) fun b ys e => s14 _ _ e
          refine tw14.eqn (s14 _ _ hD13) he0 ⟨_, rfl, ?_⟩
          have sH14 := sH.trans s14
          have th14 := th13.same s14
          have dnA14 := dnA13.same s14
          have dnJ14 := dnJ13.same s14
          have mh : h ∈ hs := List.mem_of_getElem? eh
          cases eo : (rs.filter fun r => decide (r.h = h)).filter (fun r : Row => decide (r.word = ("all" : Str))) with
          | cons r0 rr =>
            have m0 : r0 ∈ (rs.filter fun r => decide (r.h = h)).filter (fun r : Row => decide (r.word = ("all" : Str))) := by rw [eo]; exact List.mem_cons_self
            have m1 := List.mem_filter.mp m0
            have m2 := List.mem_filter.mp m1.1
            have ha : AllOf rs h r0 := ⟨⟨m2.1, of_decide_eq_true m1.2⟩, of_decide_eq_true m2.2⟩
            have wf := B.wf r0 m2.1
            obtain ⟨b1, b2⟩ := wf_k wf
            obtain ⟨b3, b4⟩ := wf_x3 wf (by rw [ha.1.2]; exact fun z => w_ja z.symm)
            have ca : CntA rs h (r0.k.toNat : Nat) := .inl ⟨r0, ha, by omega⟩
            have cj : CntJ rs h (r0.x3.toNat : Nat) := .inl ⟨r0, ha, by omega⟩
            have ea := cnA_of B ca
            have ej := cnJ_of B cj
            rw [eo] at tw14
            cases cs with
            | nil => exact nomatch tw14.1
            | cons c cs =>
              refine iteF ⟨Dc, c, cs.map V.ref, ⟨_, _, _, _, _, _, rfl⟩, sH14, dnA14, dnJ14, s14 _ _ hD13, ?_, ⟨⟨by rw [ea]; exact ca, by rw [ea]; omega⟩, by rw [ej]; exact cj, by rw [ej]; omega⟩, kO, ?_⟩
              · rw [tw14.tail.1, ea, ej, show ((r0.k.toNat : Nat) : Int) = r0.k by omega, show ((r0.x3.toNat : Nat) : Int) = r0.x3 by omega]
              · rw [take_snoc eh]
                unfold openOf at th14 ⊢
                rw [filter_snoc, if_neg (by simpa using ⟨r0, ha⟩), List.append_nil]
                exact th14
          | nil =>
            have no : ∀ r, ¬ AllOf rs h r := fun r hr => by
              have : r ∈ (rs.filter fun r => decide (r.h = h)).filter (fun r : Row => decide (r.word = ("all" : Str))) := List.mem_filter.mpr ⟨List.mem_filter.mpr ⟨hr.1.1, decide_eq_true hr.2⟩, decide_eq_true hr.1.2⟩
              rw [eo] at this
              exact nomatch this
            refine iteT ?_
            obtain ⟨kj1, kj2⟩ := dnJ14.keys
            obtain ⟨ka1, ka2⟩ := dnA14.keys
            -- named
            refine ⟨_, rfl, eJ, kkJ, rfl, .inl dnJ14.at_, fun pL npL => ?_⟩
            have e15 : (kkJ.map fun kv => kV kv.1) = (kkJ.map fun kv => numK kv.1).map V.int := by
              have := congrArg (List.map kV) kj1
              rw [List.map_map, List.map_map] at this
              exact this
            rw [e15]
            have s15 : Same H14 (upd H14 pL (.lst ((kkJ.map fun kv => numK kv.1).map V.int))) := same_upd npL
            have hL : (upd H14 pL (.lst ((kkJ.map fun kv => numK kv.1).map V.int))) pL = _ := upd_same
            generalize upd H14 pL (.lst ((kkJ.map fun kv => numK kv.1).map V.int)) = H15 at s15 hL ⊢
            have dnA15 := dnA14.same s15
            refine ⟨eA, _, dnA15.at_, trivial, fun od => ?_⟩
            refine ⟨_, rfl, eA, od, rfl, .inl ⟨kkA, upd_same, fun D16 nD16 => ?_⟩⟩
            refine key_map (fun _ => true) Row.x3 dnA15.at_ dnA15.row dnA15.one dnA15.len nD16 (fun a r H2 Kt hs ha hg hk => hk) (fun a r H2 Ke hs hc ha hg hk => ⟨_, rfl, _, rfl, eA, _, rfl, hg, a, _, 3, _, rfl, rfl, SqT.of ha, at3 r, hk⟩) (fun n16 H16 hz s16 hD16 hn16 l16 => ⟨hz, ?_⟩)
            generalize upd H16 eA (.dK kkA) = G16 at s16 hD16 ⊢
            refine ⟨pL, D16, _, _, rfl, rfl, s16 _ _ hL, hD16, (by have := dnJ14.len; rw [List.length_map, List.length_map, List.length_map]; exact Nat.le_of_lt (small_line (by omega))), fun D17 nD17 => ?_⟩
            have s17 : Same G16 (upd G16 D17 (.lst ((kkJ.map fun kv => numK kv.1).map V.int ++ n16.map V.int))) := same_upd nD17
            have hD17 : (upd G16 D17 (.lst ((kkJ.map fun kv => numK kv.1).map V.int ++ n16.map V.int))) D17 = some (.lst (((kkJ.map fun kv => numK kv.1) ++ n16).map V.int)) := by rw [upd_same, List.map_append]
            generalize upd G16 D17 (.lst ((kkJ.map fun kv => numK kv.1).map V.int ++ n16.map V.int)) = H17 at s17 hD17 ⊢
            have s1417 := (s15.trans s16).trans s17
            have dnA17 := dnA14.same s1417
            have dnJ17 := dnJ14.same s1417
            -- counts
            refine ⟨_, rfl, _, rfl, eA, _, kkA, _, rfl, rfl, .inl dnA17.at_, ka1, fun v hv => ?_⟩
            obtain ⟨m1, rfl, hm1⟩ := best_int hv
            refine ⟨_, _, rfl, rfl, _, rfl, _, rfl, D17, _, _, rfl, rfl, SqL.of hD17, fun v2 hv2 => ?_⟩
            obtain ⟨m2, rfl, hm2⟩ := best_int hv2
            refine ⟨_, _, rfl, rfl, (by show 2 ≤ sizeLine; decide), fun c nc => ?_⟩
            refine ⟨(by show 1 ≤ sizeLine; decide), fun dc ndc => ?_⟩
            have hb1 : -1 ≤ m1 ∧ m1 ≤ 15 := by
              rcases hm1 with rfl | hm
              · exact ⟨by decide, by decide⟩
              · obtain ⟨r, hs, rfl⟩ := (ka2 m1).mp hm
                have := wf_k (B.wf r hs.1.1)
                omega
            have hb2 : -1 ≤ m2 ∧ m2 ≤ 15 := by
              rcases hm2 with rfl | hm
              · exact ⟨by decide, by decide⟩
              · rcases List.mem_append.mp hm with hm | hm
                · obtain ⟨r, hs, rfl⟩ := (kj2 m2).mp hm
                  have := wf_k (B.wf r hs.1.1)
                  omega
                · obtain ⟨r, hs, _, rfl⟩ := (hn16 m2).mp hm
                  have := wf_x3 (B.wf r hs.1.1) (by rw [hs.1.2]; exact w_aj)
                  omega
            have ca : CntA rs h ((1 + m1).toNat : Nat) := .inr ⟨no, m1, best_of hv ka2, by omega⟩
            have cj : CntJ rs h ((1 + m2).toNat : Nat) := .inr ⟨no, m2, best_of hv2 (fun n => by rw [List.mem_append, kj2, all_ex hn16]; exact Iff.rfl), by omega⟩
            have ea := cnA_of B ca
            have ej := cnJ_of B cj
            have sc : Same H17 (upd (upd H17 c (.tup [.int (1 + m1), .int (1 + m2)])) dc (.lst [.ref c])) := (same_upd nc).trans (same_upd ndc)
            have hc : (upd (upd H17 c (.tup [.int (1 + m1), .int (1 + m2)])) dc (.lst [.ref c])) c = some (.tup [.int (cnA rs h : Nat), .int (cnJ rs h : Nat)]) := by
              rw [upd_ne (ne_of_none upd_same ndc), upd_same, ea, ej, show (((1 + m1).toNat : Nat) : Int) = 1 + m1 by omega, show (((1 + m2).toNat : Nat) : Int) = 1 + m2 by omega]
            have hdc : (upd (upd H17 c (.tup [.int (1 + m1), .int (1 + m2)])) dc (.lst [.ref c])) dc = some (.lst [.ref c]) := upd_same
            generalize upd (upd H17 c (.tup [.int (1 + m1), .int (1 + m2)])) dc (.lst [.ref c]) = H18 at sc hc hdc ⊢
            have dnA18 := dnA17.same sc
            have dnJ18 := dnJ17.same sc
            -- outs
            refine ⟨eA, _, dnA18.at_, trivial, fun od2 => ?_⟩
            refine ⟨_, rfl, eA, od2, rfl, .inl ⟨kkA, upd_same, fun D19 nD19 => ?_⟩⟩
            refine key_map (fun _ => true) Row.x5 dnA18.at_ dnA18.row dnA18.one dnA18.len nD19 (fun a r H2 Kt hs ha hg hk => hk) (fun a r H2 Ke hs hc ha hg hk => ⟨_, rfl, _, rfl, eA, _, rfl, hg, a, _, 5, _, rfl, rfl, SqT.of ha, at5 hs.1.2, hk⟩) (fun n19 H19 hz19 s19 hD19 hn19 l19 => ⟨hz19, ?_⟩)
            generalize upd H19 eA (.dK kkA) = G19 at s19 hD19 ⊢
            have dnJ19 := dnJ18.same s19
            -- begins
            refine ⟨eJ, _, dnJ19.at_, trivial, fun od3 => ?_⟩
            refine ⟨_, rfl, eJ, od3, rfl, .inl ⟨kkJ, upd_same, fun D20 nD20 => ?_⟩⟩
            refine key_map (fun _ => true) Row.x3 dnJ19.at_ dnJ19.row dnJ19.one dnJ19.len nD20 (fun a r H2 Kt hs ha hg hk => hk) (fun a r H2 Ke hs hc ha hg hk => ⟨_, rfl, _, rfl, eJ, _, rfl, hg, a, _, 3, _, rfl, rfl, SqT.of ha, at3 r, hk⟩) (fun n20 H20 hz20 s20 hD20 hn20 l20 => ⟨hz20, ?_⟩)
            generalize upd H20 eJ (.dK kkJ) = G20 at s20 hD20 ⊢
            -- there['open'][house]
            refine ⟨_, rfl, D19, n19, _, rfl, rfl, SqL.of (s20 _ _ hD19), fun tx htx => ?_⟩
            refine ⟨_, rfl, D20, n20, _, rfl, rfl, SqL.of hD20, fun ty hty => ?_⟩
            refine ⟨(by show 2 ≤ sizeLine; decide), fun p np => ?_⟩
            have s1820 := s19.trans s20
            have s21 : Same G20 (upd G20 p (.tup [tx, ty])) := same_upd np
            have hp21 : (upd G20 p (.tup [tx, ty])) p = some (.tup [tx, ty]) := upd_same
            generalize upd G20 p (.tup [tx, ty]) = H21 at s21 hp21 ⊢
            have s1421 : Same H14 H21 := ((s1417.trans sc).trans s1820).trans s21
            have th21 := th14.same s1421
            have os21 : h ∉ openOf rs (hs.take i) := fun m => not_mem_take hnd eh (List.mem_filter.mp m).1
            refine ⟨_, rfl, d, _, rfl, th21.getO, _, rfl, dO, _, rfl, DPut.k (k := Sum.inr h) th21.o (small_line (by have := th21.lenA.2.2; have : (openOf rs (hs.take i)).length ≤ (hs.take i).length := List.length_filter_le _ _; rw [List.length_take] at this; omega)), ?_⟩
            have th22 := th21.putO os21 hp21 ⟨tx, ty, rfl, best_of htx (all_ex hn19), best_of hty (all_ex hn20)⟩
            have nA0 : eA ≠ dO := Ne.symm (ne_of_none ((th6.same (s8.trans s9)).o) neA)
            have nJ0 : eJ ≠ dO := Ne.symm (ne_of_none ((th6.same ((s8.trans s8A).trans s11)).o) neJ)
            have rows : ∀ a r, RowAt H21 a r → RowAt (upd H21 dO (.dK (putK kO (Sum.inr h) (.ref p)))) a r := fun a r e => by
              show (upd H21 dO _) a = _
              rw [upd_ne (ne_of e th21.o (fun z => nomatch z))]
              exact e
            have s1821 := s1820.trans s21
            have dnA21 := dnA14.same s1421
            have dnJ21 := dnJ14.same s1421
            have hc21 := s1821 _ _ hc
            have hdc21 := s1821 _ _ hdc
            refine ⟨dc, c, [], ⟨_, _, _, _, _, _, rfl⟩, same_mut (sH14.trans s1421) ndO0, ⟨by rw [upd_ne nA0]; exact dnA21.at_, dnA21.row.same rows, dnA21.un, dnA21.len⟩, ⟨by rw [upd_ne nJ0]; exact dnJ21.at_, dnJ21.row.same rows, dnJ21.un, dnJ21.len⟩, by rw [upd_ne (ne_of hdc21 th21.o (fun z => nomatch z))]; exact hdc21, by rw [upd_ne (ne_of hc21 th21.o (fun z => nomatch z))]; exact hc21, ⟨⟨by rw [ea]; exact ca, by rw [ea]; omega⟩, by rw [ej]; exact cj, by rw [ej]; omega⟩, putK kO (Sum.inr h) (.ref p), ?_⟩
            rw [take_snoc eh]
            unfold openOf at th22 ⊢
            rw [filter_snoc, if_pos (by simpa using no)]
            exact th22
        · rintro σ H14 ⟨dc, c, rest, ⟨v5, v9, v10, v11, v12, v13, rfl⟩, sH14, dnA14, dnJ14, hdc, hc, cns, kO', th14⟩
          have nh : ∀ k : Gr.HK, k.1 = h → k ∉ below (hs.take i) (cnA rs) ∧ k ∉ below (hs.take i) (cnJ rs) := fun k e => ⟨fun m => not_mem_take hnd eh (by rw [← e]; exact (mem_below.mp m).1), fun m => not_mem_take hnd eh (by rw [← e]; exact (mem_below.mp m).1)⟩
          have lb : ∀ c : Str → Nat, (∀ x ∈ hs.take i, c x ≤ 16) → (below (hs.take i) c).length ≤ 600 := fun c hc => Nat.le_trans (below_len c _ fun x m => Nat.le_trans (hc x m) (by decide)) (by rw [List.length_take]; omega)
          refine ⟨_, rfl, dc, _, 0, _, rfl, rfl, SqL.of hdc, atI_head, c, _, 0, _, rfl, rfl, SqT.of hc, rfl, ?_⟩
          refine ⟨_, rfl, by omega, by omega, ?_⟩
          rw [show ((cnA rs h : Nat) : Int).toNat = cnA rs h from rfl]
          refine for_it (walk_range (lo := 0) (n := cnA rs h)) (fun k σ H' => (∃ v13 : Option V, σ = [some (.ref t), some (.ref l), some (.ref d), some (.str h), some (.ref D), v5, some (.ref eA), some (.ref eJ), some (.ref dc), v9, v10, v11, v12, v13]) ∧ Same H H' ∧ DNum H' eA rs "ask" h kkA ∧ DNum H' eJ rs "job" h kkJ ∧ H' dc = some (.lst (.ref c :: rest)) ∧ H' c = some (.tup [.int (cnA rs h : Nat), .int (cnJ rs h : Nat)]) ∧ ∃ kA, Thr H' d dA dJ dO tb rs (below (hs.take i) (cnA rs) ++ (List.range k).map fun n : Nat => ((h, (n : Int)) : Gr.HK)) (below (hs.take i) (cnJ rs)) (openOf rs (hs.take (i + 1))) kA kJ kO')
            ⟨⟨_, rfl⟩, sH14, dnA14, dnJ14, hdc, hc, kA, by rw [List.range_zero, List.map_nil, List.append_nil]; exact th14⟩ (fun _ _ _ _ _ => trivial) ?_ ?_
          · rintro k v σ H15 H16 hk ⟨⟨v13, rfl⟩, sH15, dnA15, dnJ15, hdc15, hc15, kA15, th15⟩ ⟨rfl, rfl⟩
            refine ⟨_, rfl, _, rfl, eA, _, h, rs, kkA, rfl, dnA15, fun p us H17 s17 hp hta => ?_⟩
            have th17 := th15.same s17
            refine ⟨_, rfl, d, _, rfl, th17.getA, _, rfl, _, rfl, (by show 2 ≤ sizeLine; decide), fun b nb => ?_⟩
            have s18 : Same H17 (upd H17 b (.tup [.str h, .int (0 + (k : Nat))])) := same_upd nb
            have hb : (upd H17 b (.tup [.str h, .int (0 + (k : Nat))])) b = some (.tup ((Gr.keyOf (h, ((k : Nat) : Int))).map kV)) := by rw [upd_same, Int.zero_add]; rfl
            generalize upd H17 b (.tup [.str h, .int (0 + (k : Nat))]) = H18 at s18 hb ⊢
            have th18 := th17.same s18
            rw [Int.zero_add] at hta
            have nk : ((h, ((k : Nat) : Int)) : Gr.HK) ∉ below (hs.take i) (cnA rs) ++ (List.range k).map fun n : Nat => ((h, (n : Int)) : Gr.HK) := fun m => by
              rcases List.mem_append.mp m with m | m
              · exact (nh _ rfl).1 m
              · obtain ⟨n, mn, e⟩ := List.mem_map.mp m
                have := List.mem_range.mp mn
                have := congrArg Prod.snd e
                simp at this
                omega
            have ll := th18.lenA.1
            rw [List.length_append, List.length_map, List.length_range] at ll
            have lb1 := lb (cnA rs) fun x m => (cn x m).1.2
            have := cns.1.2
            refine ⟨dA, _, rfl, DPut.t (k := Gr.keyOf (h, ((k : Nat) : Int))) th18.a hb (small_line (by omega)), ?_⟩
            have th19 := th18.putA nk (s18 _ _ hp) hta
            have s1518 := s17.trans s18
            have sH18 := sH15.trans s1518
            have dnA18 := dnA15.same s1518
            have dnJ18 := dnJ15.same s1518
            have rows : ∀ a r, RowAt H18 a r → RowAt (upd H18 dA (.dT (putK kA15 (Gr.keyOf (h, ((k : Nat) : Int))) (.ref p)))) a r := fun a r e => by
              show (upd H18 dA _) a = _
              rw [upd_ne (ne_of e th18.a (fun z => nomatch z))]
              exact e
            have hc18 := s1518 _ _ hc15
            have hdc18 := s1518 _ _ hdc15
            refine ⟨⟨_, rfl⟩, same_mut sH18 ndA0, ⟨by rw [upd_ne (ne_of dnA18.at_ th18.a (fun z => nomatch z))]; exact dnA18.at_, dnA18.row.same rows, dnA18.un, dnA18.len⟩, ⟨by rw [upd_ne (ne_of dnJ18.at_ th18.a (fun z => nomatch z))]; exact dnJ18.at_, dnJ18.row.same rows, dnJ18.un, dnJ18.len⟩, by rw [upd_ne (ne_of hdc18 th18.a (fun z => nomatch z))]; exact hdc18, by rw [upd_ne (ne_of hc18 th18.a (fun z => nomatch z))]; exact hc18, putK kA15 (Gr.keyOf (h, ((k : Nat) : Int))) (.ref p), ?_⟩
            rw [List.range_succ, List.map_append, ← List.append_assoc]
            exact th19
          · rintro σ H15 ⟨⟨v13, rfl⟩, sH15, dnA15, dnJ15, hdc15, hc15, kA15, th15⟩
            rw [← below_snoc, ← take_snoc eh] at th15
            refine ⟨_, rfl, dc, _, 0, _, rfl, rfl, SqL.of hdc15, atI_head, c, _, 1, _, rfl, rfl, SqT.of hc15, rfl, _, rfl, by omega, by omega, ?_⟩
            rw [show ((cnJ rs h : Nat) : Int).toNat = cnJ rs h from rfl]
            refine for_it (walk_range (lo := 0) (n := cnJ rs h)) (fun k σ H' => (∃ v13 : Option V, σ = [some (.ref t), some (.ref l), some (.ref d), some (.str h), some (.ref D), v5, some (.ref eA), some (.ref eJ), some (.ref dc), v9, v10, v11, v12, v13]) ∧ Same H H' ∧ DNum H' eA rs "ask" h kkA ∧ DNum H' eJ rs "job" h kkJ ∧ ∃ kJ, Thr H' d dA dJ dO tb rs (below (hs.take (i + 1)) (cnA rs)) (below (hs.take i) (cnJ rs) ++ (List.range k).map fun n : Nat => ((h, (n : Int)) : Gr.HK)) (openOf rs (hs.take (i + 1))) kA15 kJ kO')
              ⟨⟨_, rfl⟩, sH15, dnA15, dnJ15, kJ, by rw [List.range_zero, List.map_nil, List.append_nil]; exact th15⟩ (fun _ _ _ _ _ => trivial) ?_ ?_
            · rintro k v σ H16 H17 hk ⟨⟨v13, rfl⟩, sH16, dnA16, dnJ16, kJ16, th16⟩ ⟨rfl, rfl⟩
              refine ⟨_, rfl, _, rfl, _, rfl, eA, eJ, _, h, rs, kkJ, kkA, rfl, dnA16, dnJ16, fun p us H18 s18 hp hta => ?_⟩
              have th18 := th16.same s18
              refine ⟨_, rfl, d, _, rfl, th18.getJ, _, rfl, _, rfl, (by show 2 ≤ sizeLine; decide), fun b nb => ?_⟩
              have s19 : Same H18 (upd H18 b (.tup [.str h, .int (0 + (k : Nat))])) := same_upd nb
              have hb : (upd H18 b (.tup [.str h, .int (0 + (k : Nat))])) b = some (.tup ((Gr.keyOf (h, ((k : Nat) : Int))).map kV)) := by rw [upd_same, Int.zero_add]; rfl
              generalize upd H18 b (.tup [.str h, .int (0 + (k : Nat))]) = H19 at s19 hb ⊢
              have th19 := th18.same s19
              rw [Int.zero_add] at hta
              have nk : ((h, ((k : Nat) : Int)) : Gr.HK) ∉ below (hs.take i) (cnJ rs) ++ (List.range k).map fun n : Nat => ((h, (n : Int)) : Gr.HK) := fun m => by
                rcases List.mem_append.mp m with m | m
                · exact (nh _ rfl).2 m
                · obtain ⟨n, mn, e⟩ := List.mem_map.mp m
                  have := List.mem_range.mp mn
                  have := congrArg Prod.snd e
                  simp at this
                  omega
              have ll := th19.lenA.2.1
              rw [List.length_append, List.length_map, List.length_range] at ll
              have lb1 := lb (cnJ rs) fun x m => (cn x m).2.2
              have := cns.2.2
              refine ⟨dJ, _, rfl, DPut.t (k := Gr.keyOf (h, ((k : Nat) : Int))) th19.j hb (small_line (by omega)), ?_⟩
              have th20 := th19.putJ nk (s19 _ _ hp) hta
              have s1619 := s18.trans s19
              have sH19 := sH16.trans s1619
              have dnA19 := dnA16.same s1619
              have dnJ19 := dnJ16.same s1619
              have rows : ∀ a r, RowAt H19 a r → RowAt (upd H19 dJ (.dT (putK kJ16 (Gr.keyOf (h, ((k : Nat) : Int))) (.ref p)))) a r := fun a r e => by
                show (upd H19 dJ _) a = _
                rw [upd_ne (ne_of e th19.j (fun z => nomatch z))]
                exact e
              refine ⟨⟨_, rfl⟩, same_mut sH19 ndJ0, ⟨by rw [upd_ne (ne_of dnA19.at_ th19.j (fun z => nomatch z))]; exact dnA19.at_, dnA19.row.same rows, dnA19.un, dnA19.len⟩, ⟨by rw [upd_ne (ne_of dnJ19.at_ th19.j (fun z => nomatch z))]; exact dnJ19.at_, dnJ19.row.same rows, dnJ19.un, dnJ19.len⟩, putK kJ16 (Gr.keyOf (h, ((k : Nat) : Int))) (.ref p), ?_⟩
              rw [List.range_succ, List.map_append, ← List.append_assoc]
              exact th20
            · rintro σ H16 ⟨⟨v13, rfl⟩, sH16, dnA16, dnJ16, kJ16, th16⟩
              rw [← below_snoc, ← take_snoc eh] at th16
              refine ⟨⟨_, _, _, _, _, _, _, _, _, _, _, rfl⟩, sH16, ⟨_, _, _, th16⟩, fun x m => ?_⟩
              rw [take_snoc eh] at m
              rcases List.mem_append.mp m with m | m
              · exact cn x m
              · rw [List.mem_singleton.mp m]
                exact cns
    · rintro σ H6 ⟨⟨v3, v4, v5, v6, v7, v8, v9, v10, v11, v12, v13, rfl⟩, s6, ⟨kA, kJ, kO, th6⟩, cn⟩
      rw [List.length_map, List.take_length] at th6 cn
      exact ⟨_, rfl, q d dA dJ dO tb kA kJ kO H6 s6 nd ndA0 ndJ0 ndO0 ⟨th6, ⟨ta, s6 _ _ t1⟩, cn⟩⟩
/-! ### x is True, x is not True, of any value -/
theorem is_bool_gen {M : Model} {A : Around} {E : Value → Shared → Prop} {s : Shared} {Q : Value → Shared → Prop} {v : Value} {b : Bool} (hb : ∀ i, v ≠ .builtin i) (h : Q (.bool (v == .bool b)) s) : wpAny M A (compareOp .Is v (.bool b)) Q E s := by
  cases v <;> first | exact wpAny_pure h | exact absurd rfl (hb _)
theorem op_isB {X : Cx} (b : Bool) : OpR X (compareOp .Is) (fun x y H Q => y = .bl b ∧ Q (.bl (decide (x = .bl b))) H) := by
  intro pins s σ H x y v u Q I rx ry h
  obtain ⟨rfl, q⟩ := h
  obtain rfl : u = Value.bool b := ry
  refine is_bool_gen (fun i z => ?_) ⟨.bl (decide (x = .bl b)), H, I, ?_, q⟩
  · subst z
    cases x <;> first
      | (cases rx; done)
      | (obtain ⟨t, e⟩ := rx; cases e; done)
  show Value.bool (v == .bool b) = Value.bool (decide (x = .bl b))
  congr 1
  cases x with
  | bl c =>
    obtain rfl : v = .bool c := rx
    by_cases e : c = b
    · subst e
      rw [decide_eq_true rfl, beq_self_eq_true]
    · rw [decide_eq_false (fun z => e (V.bl.inj z)), beq_eq_false_iff_ne.mpr (fun z => e (Value.bool.inj z))]
  | _ =>
    rw [decide_eq_false (fun z => by cases z)]
    refine beq_eq_false_iff_ne.mpr fun z => ?_
    subst z
    first
      | (cases rx; done)
      | (obtain ⟨t, e⟩ := rx; cases e; done)
def rIsB (b : Bool) : R2 := fun x y H Q => y = .bl b ∧ Q (.bl (decide (x = .bl b))) H
theorem isnot_bool_gen {M : Model} {A : Around} {E : Value → Shared → Prop} {s : Shared} {Q : Value → Shared → Prop} {v : Value} {b : Bool} (hb : ∀ i, v ≠ .builtin i) (h : Q (.bool (!(v == .bool b))) s) : wpAny M A (compareOp .IsNot v (.bool b)) Q E s := by
  cases v <;> first | exact wpAny_pure h | exact absurd rfl (hb _)
theorem op_notB {X : Cx} (b : Bool) : OpR X (compareOp .IsNot) (fun x y H Q => y = .bl b ∧ Q (.bl (!decide (x = .bl b))) H) := by
  intro pins s σ H x y v u Q I rx ry h
  obtain ⟨rfl, q⟩ := h
  obtain rfl : u = Value.bool b := ry
  refine isnot_bool_gen (fun i z => ?_) ⟨.bl (!decide (x = .bl b)), H, I, ?_, q⟩
  · subst z
    cases x <;> first
      | (cases rx; done)
      | (obtain ⟨t, e⟩ := rx; cases e; done)
  show Value.bool (!(v == .bool b)) = Value.bool (!decide (x = .bl b))
  congr 2
  cases x with
  | bl c =>
    obtain rfl : v = .bool c := rx
    by_cases e : c = b
    · subst e
      rw [decide_eq_true rfl, beq_self_eq_true]
    · rw [decide_eq_false (fun z => e (V.bl.inj z)), beq_eq_false_iff_ne.mpr (fun z => e (Value.bool.inj z))]
  | _ =>
    rw [decide_eq_false (fun z => by cases z)]
    refine beq_eq_false_iff_ne.mpr fun z => ?_
    subst z
    first
      | (cases rx; done)
      | (obtain ⟨t, e⟩ := rx; cases e; done)
theorem dqs_rows {Ex : Addr → Prop} {H : Hp} : ∀ {xs : List V} {rs : List Row}, Rws H xs rs → Dqs Ex H xs (rs.map rowD)
  | [], [], _ => .nil
  | [], _ :: _, h => nomatch h.1
  | _ :: _, [], h => nomatch h.1
  | v :: xs, r :: rs, h => by
    obtain ⟨a, e, ha⟩ := h.2 0 r rfl
    obtain rfl : v = .ref a := Option.some.inj e
    exact .cons (.tup ha (dqs_row r)) (dqs_rows ⟨Nat.succ.inj h.1, fun i t e => h.2 (i + 1) t e⟩)
theorem rws_of {Ex : Addr → Prop} {H : Hp} {xs : List V} {rs : List Row} (h : Dqs Ex H xs (rs.map rowD)) : Rws H xs rs := by
  refine ⟨by rw [h.len, List.length_map], fun i r e => ?_⟩
  obtain ⟨v, hv, dv⟩ := h.get (show (rs.map rowD)[i]? = some (.tuple r.data) by rw [List.getElem?_map, e]; rfl)
  obtain ⟨a, rfl, ha⟩ := row_at dv
  exact ⟨a, hv, ha⟩
theorem Book.sub {hs : List Str} {rs ts : List Row} (B : Book hs rs) (h : ∀ r ∈ ts, r ∈ rs) : Book hs ts := ⟨fun r m => B.wf r (h r m), fun r m => B.inn r (h r m), fun r m t mt => B.nc r (h r m) t (h t mt)⟩
/-! ### a book is refused by none -/
theorem Book.rowsD {hs : List Str} {rs : List Row} (B : Book hs rs) (n : Nat) : RowsD hs (rs.map rowD) n := fun j d _ e => by
  rw [List.getElem?_map] at e
  obtain ⟨r, er, rfl⟩ := Option.map_eq_some_iff.mp e
  have m := List.mem_of_getElem? er
  refine ⟨r, rfl, B.inn r m, ?_⟩
  have w := B.wf r m
  cases r with
  | ask h g k n o b => exact w.2.2
  | job h k o b => exact w.2
  | all h a j => exact w.2
theorem Book.noClash {hs : List Str} {rs : List Row} (B : Book hs rs) (n : Nat) : NoClash (rs.map rowD) n := fun s _ f _ ⟨r, t, e1, e2, hc⟩ => by
  rw [List.getElem?_map] at e1 e2
  obtain ⟨r', er, e3⟩ := Option.map_eq_some_iff.mp e1
  obtain ⟨t', et, e4⟩ := Option.map_eq_some_iff.mp e2
  obtain rfl := data_inj (PyData.tuple.inj e3)
  obtain rfl := data_inj (PyData.tuple.inj e4)
  exact B.nc _ (List.mem_of_getElem? er) _ (List.mem_of_getElem? et) hc
theorem rowD_inj {rs ts : List Row} (h : rs.map rowD = ts.map rowD) : rs = ts := by
  induction rs generalizing ts with
  | nil =>
    cases ts with
    | nil => rfl
    | cons _ _ => exact nomatch h
  | cons r rs ih =>
    cases ts with
    | nil => exact nomatch h
    | cons t ts =>
      rw [List.map_cons, List.map_cons] at h
      injection h with h1 h2
      rw [data_inj (PyData.tuple.inj h1), ih h2]
theorem Book.refuse {hs : List Str} {rs : List Row} (B : Book hs rs) {CN CC : Addr} {H : Hp} {E : XK} : Refuse CN CC H hs (rs.map rowD) E :=
  ⟨fun i dv d H' h1 h2 h3 _ _ => absurd (B.rowsD (rs.map rowD).length i dv (List.getElem?_eq_some_iff.mp h2).1 h2) h3, fun f s d H' h1 h2 _ _ => absurd h2.at_ (B.noClash _ s h2.len f h2.lt)⟩
/-! a town and its book, at hand -/
structure Hand (H : Hp) (t l : Addr) (hs gs : List Str) (xs : List V) (rs : List Row) : Prop where
  town : TownAt H t hs gs
  up : sortedS hs = true
  nd : hs.Nodup
  ok : ∀ h ∈ hs, PyData.strOk h = true
  h6 : hs.length ≤ 6
  lst : H l = some (.lst xs)
  rows : Rws H xs rs
  book : Book hs rs
  ths : Ths (rs.map rowD)
  len : rs.length ≤ 900
theorem Hand.same {H H' : Hp} {t l : Addr} {hs gs : List Str} {xs : List V} {rs : List Row} (h : Hand H t l hs gs xs rs) (s : Same H H') : Hand H' t l hs gs xs rs :=
  ⟨h.town.same' s, h.up, h.nd, h.ok, h.h6, s _ _ h.lst, h.rows.same s, h.book, h.ths, h.len⟩
theorem Hand.ask {H : Hp} {t l m : Addr} {hs gs : List Str} {xs : List V} {rs : List Row} (h : Hand H t l hs gs xs rs) (hm : H m = some (.lst xs)) : Ask (fun _ => False) H t m hs gs xs (rs.map rowD) :=
  ⟨h.town, h.ok, hm, ⟨dqs_rows h.rows, fun d m => (h.ths d m).sh (by decide)⟩, by rw [List.length_map]; have := h.len; omega, h.h6, h.nd⟩
theorem Hand.shaped {H : Hp} {t l : Addr} {hs gs : List Str} {xs : List V} {rs : List Row} (h : Hand H t l hs gs xs rs) : SeqAt.shaped (.list (rs.map rowD)) = true := ths_lst h.ths (by rw [List.length_map]; have := h.len; omega)
theorem Hand.lay {H : Hp} {t l : Addr} {hs gs : List Str} {xs : List V} {rs : List Row} (h : Hand H t l hs gs xs rs) : (PyData.list (rs.map rowD)).canLay0 = true := (th_lst (m := 1000) h.ths (by rw [List.length_map]; have := h.len; omega)).lay
/-! handed != rows -/
theorem Hand.ne {H : Hp} {t l m : Addr} {hs gs : List Str} {xs : List V} {rs : List Row} {Q : VK} (h : Hand H t l hs gs xs rs) (hm : H m = some (.lst xs)) (q : Q (.bl false) H) : rNeD K (.ref m) (.ref l) H Q := by
  refine ⟨.list (rs.map rowD), .list (rs.map rowD), Dp.lst (SqL.of hm) (dqs_rows (Ex := fun _ => False) h.rows).dp, Dp.lst (SqL.of h.lst) (dqs_rows (Ex := fun _ => False) h.rows).dp, h.shaped, h.shaped, ?_⟩
  rw [PySem.SeqAt.eqv_refl _ h.lay]
  exact q
def hkD (k : Gr.HK) : PyData := .tuple [.str k.1, .int k.2]
theorem HKs.dqs {Ex : Addr → Prop} {H : Hp} : ∀ {us : List V} {ks : List Gr.HK}, HKs H us ks → Dqs Ex H us (ks.map hkD)
  | _, _, .nil => .nil
  | _, _, .cons h r => .cons (.tup h (.cons (.str _) (.cons (.int _) .nil))) r.dqs
theorem hk_dep : ∀ ks : List Gr.HK, PyData.depthAll (ks.map hkD) ≤ 1
  | [] => Nat.zero_le _
  | k :: ks => by
    show max (hkD k).depth (PyData.depthAll (ks.map hkD)) ≤ 1
    have := hk_dep ks
    have e : (hkD k).depth = 1 := rfl
    omega
/-! ### the law's look at clashes, one way about and the other -/
def HC : Row → Row → Prop
  | .all _ _ j, .job _ k _ _ => j ≤ k
  | .all _ a j, .ask _ _ k n _ _ => a ≤ k ∨ j ≤ n
  | .job _ k o b, .ask _ _ _ n o' b' => (k ≤ n ∧ o' ≤ o) ∨ (k = n ∧ b ≤ b')
  | _, _ => False
theorem hc_iff {r t : Row} (hh : r.h = t.h) (hw : r.word ≠ t.word) : ClashP r t ↔ (HC r t ∨ HC t r) := by
  cases r <;> cases t <;> simp only [ClashP, HC, Row.h] at * <;> simp_all [Row.word]
def sp_l_do_clash : Sp := fun vs H Q _ => ∃ (x y : Addr) (r t : Row), vs = [.ref x, .ref y] ∧ RowAt H x r ∧ RowAt H y t ∧ r.Wf ∧ t.Wf ∧ ∀ (b : Bool) (H' : Hp), Same H H' → (b = true ↔ ClashP r t) → Q (.bl b) H'
theorem Same.row {H H' : Hp} {a : Addr} {r : Row} (s : Same H H') (h : RowAt H a r) : RowAt H' a r := s a _ h
theorem ok_l_do_clash (T : Txt K mg af fd) : FnOk P w K mg base CX0 1 (af 51) (fd 51) ["one", "other"] sp_l_do_clash := by
  refine T.F_l_do_clash.ok sc_l_do_clash (fun vs H Q E h => ?_) (fun cdv A outer s H vs Q E hr h => ?_)
  · obtain ⟨x, y, r, t, rfl, _⟩ := h
    rfl
  · obtain ⟨x, y, r, t, rfl, hx, hy, wr, wt, q⟩ := h
    refine ⟨_, (pss_cons (ps_if (PW.pt (pw_or (pt_cmpR (op_eqD hr.units) (pv 0) (pv 1) (nomark _)) (pw_or1 (pt_cmpR op_ne (pe_ix ix_tup (pv 0) pe_int (fun _ _ => rfl)) (pe_ix ix_tup (pv 1) pe_int (fun _ _ => rfl)) (nomark _))))) (pss_one (ps_ret pe_bl)) pss_nil)
        (pss_cons (ps_if (pt_cmpR op_eq (pe_ix ix_tup (pv 0) pe_int (fun _ _ => rfl)) (pe_ix ix_tup (pv 1) pe_int (fun _ _ => rfl)) (nomark _)) (pss_cons (ps_set (i := 2) sc_l_do_clash.nd rfl (by first | exact Or.inl rfl | exact Or.inr rfl) (pe_dget2 (hu_of hr) (pe_disp (pps_cons pe_str pe_int (pps_cons pe_str pe_int pps_nil)) (by rfl) (by rfl) (fun z => by cases z) (by decide)) (pe_ix ix_tup (pv 0) pe_int (fun _ _ => rfl)) pe_int ⟨by rfl, by rfl, by rfl, by rfl⟩))
        (pss_cons (ps_if (PW.pt (pw_or (pt_cmpR op_eq (pv 2) pe_int (nomark _)) (pw_or1 (pt_cmpR op_eq (pe_ix ix_tup (pv 0) pe_int (fun _ _ => rfl)) (pe_ix ix_tup (pv 1) pe_int (fun _ _ => rfl)) (nomark _))))) (pss_one (ps_ret pe_bl)) pss_nil)
        (pss_one (ps_ret (pe_or (pe_and (pe_cmpR op_lt (pe_ix ix_tup (pv 0) pe_int (fun _ _ => rfl)) (pe_ix ix_tup (pv 1) pe_int (fun _ _ => rfl)) (nomark _)) (pe_one (pe_cmpR op_gt (pe_ix ix_tup (pv 0) (pv 2) (fun _ _ => rfl)) (pe_ix ix_tup (pv 1) (pv 2) (fun _ _ => rfl)) (nomark _)))) (pe_one (pe_and (pe_cmpR op_gt (pe_ix ix_tup (pv 0) pe_int (fun _ _ => rfl)) (pe_ix ix_tup (pv 1) pe_int (fun _ _ => rfl)) (nomark _)) (pe_one (pe_cmpR op_lt (pe_ix ix_tup (pv 0) (pv 2) (fun _ _ => rfl)) (pe_ix ix_tup (pv 1) (pv 2) (fun _ _ => rfl)) (nomark _)))))))))) pss_nil)
        (pss_cons (ps_for PassesOwn.never rfl (pi_list (pe_lst (pa_cons (pe_tup (pa_cons (pv 0) (pa_cons (pv 1) pa_nil))) (pa_cons (pe_tup (pa_cons (pv 1) (pa_cons (pv 0) pa_nil))) pa_nil)))) (pg_tup rfl (pgs_cons (pg_name (i := 3) sc_l_do_clash.nd rfl (by first | exact Or.inl rfl | exact Or.inr rfl)) (pgs_cons (pg_name (i := 4) sc_l_do_clash.nd rfl (by first | exact Or.inl rfl | exact Or.inr rfl)) pgs_nil))) (pss_cons (ps_if (PW.pt (pw_and (pt_cmpR op_eq (pe_ix ix_tup (pv 3) pe_int (fun _ _ => rfl)) pe_str (nomark _)) (pw_and (pt_cmpR op_eq (pe_ix ix_tup (pv 4) pe_int (fun _ _ => rfl)) pe_str (nomark _)) (pw_and1 (pt_cmpR op_ge (pe_ix ix_tup (pv 4) pe_int (fun _ _ => rfl)) (pe_ix ix_tup (pv 3) pe_int (fun _ _ => rfl)) (nomark _)))))) (pss_one (ps_ret pe_bl)) pss_nil)
        (pss_cons (ps_if (PW.pt (pw_and (pt_cmpR op_eq (pe_ix ix_tup (pv 3) pe_int (fun _ _ => rfl)) pe_str (nomark _)) (pw_and (pt_cmpR op_eq (pe_ix ix_tup (pv 4) pe_int (fun _ _ => rfl)) pe_str (nomark _)) (pw_and1 (PW.pt (pw_or (pt_cmpR op_ge (pe_ix ix_tup (pv 4) pe_int (fun _ _ => rfl)) (pe_ix ix_tup (pv 3) pe_int (fun _ _ => rfl)) (nomark _)) (pw_or1 (pt_cmpR op_ge (pe_ix ix_tup (pv 4) pe_int (fun _ _ => rfl)) (pe_ix ix_tup (pv 3) pe_int (fun _ _ => rfl)) (nomark _))))))))) (pss_one (ps_ret pe_bl)) pss_nil)
        (pss_one (ps_if (PW.pt (pw_and (pt_cmpR op_eq (pe_ix ix_tup (pv 3) pe_int (fun _ _ => rfl)) pe_str (nomark _)) (pw_and1 (pt_cmpR op_eq (pe_ix ix_tup (pv 4) pe_int (fun _ _ => rfl)) pe_str (nomark _))))) (pss_one (ps_if (PW.pt (pw_or (PW.pt (pw_and (pt_cmpR op_le (pe_ix ix_tup (pv 3) pe_int (fun _ _ => rfl)) (pe_ix ix_tup (pv 4) pe_int (fun _ _ => rfl)) (nomark _)) (pw_and1 (pt_cmpR op_ge (pe_ix ix_tup (pv 3) pe_int (fun _ _ => rfl)) (pe_ix ix_tup (pv 4) pe_int (fun _ _ => rfl)) (nomark _))))) (pw_or1 (PW.pt (pw_and (pt_cmpR op_eq (pe_ix ix_tup (pv 3) pe_int (fun _ _ => rfl)) (pe_ix ix_tup (pv 4) pe_int (fun _ _ => rfl)) (nomark _)) (pw_and1 (pt_cmpR op_le (pe_ix ix_tup (pv 3) pe_int (fun _ _ => rfl)) (pe_ix ix_tup (pv 4) pe_int (fun _ _ => rfl)) (nomark _)))))))) (pss_one (ps_ret pe_bl)) pss_nil)) pss_nil)))))
        (pss_one (ps_ret pe_bl))))), ?_⟩
    refine ⟨_, rfl, _, rfl, _, _, hx.dp, hy.dp, wr.sh, wt.sh, _, rfl, ?_⟩
    rw [row_eqv]
    refine ite2 (fun e2 => iteT ?_) (fun e2 => ?_)
    · have e3 := of_decide_eq_true e2
      subst e3
      refine q false H (Same.refl H) (ff fun z => ?_)
      cases r <;> first | exact z.2.1 rfl | exact z.2 rfl
    have hne : r ≠ t := fun z => e2 (decide_eq_true z)
    refine ⟨_, rfl, x, _, 1, _, rfl, rfl, hx.t, at1 r, _, rfl, y, _, 1, _, rfl, rfl, hy.t, at1 t, rfl, _, rfl, ite2 (fun e => ?_) (fun e => ?_)⟩
    · have hh : r.h ≠ t.h := fun z => by
        rw [z, dstrT] at e
        cases e
      refine q false H (Same.refl H) (ff fun z => hh ?_)
      cases r <;> cases t <;> first | exact z.1 | exact z.1.symm
    have hh : r.h = t.h := by
      refine Decidable.byContradiction fun z => e ?_
      rw [dstr z]
      rfl
    refine ⟨_, rfl, x, _, 0, _, rfl, rfl, hx.t, at0 r, _, rfl, y, _, 0, _, rfl, rfl, hy.t, at0 t, rfl, _, rfl, ite2 (fun e => ?_) (fun e => ?_)⟩
    · have hw : r.word = t.word := V.str.inj (of_decide_eq_true e)
      intro D nD
      refine ⟨upd_same, [((Sum.inr "ask" : Key), V.int 5), ((Sum.inr "job" : Key), V.int 3)], rfl, (by show 2 ≤ 15; decide), ?_⟩
      have em : mergeK [] [((Sum.inr "ask" : Key), V.int 5), ((Sum.inr "job" : Key), V.int 3)] = [((Sum.inr "ask" : Key), V.int 5), ((Sum.inr "job" : Key), V.int 3)] := by decide +kernel
      have s2 : Same H (upd (upd H D (.dK [])) D (.dK (mergeK [] [((Sum.inr "ask" : Key), V.int 5), ((Sum.inr "job" : Key), V.int 3)]))) := same_mut (same_upd nD) nD
      have hD : (upd (upd H D (.dK [])) D (.dK (mergeK [] [((Sum.inr "ask" : Key), V.int 5), ((Sum.inr "job" : Key), V.int 3)]))) D = some (.dK (mergeK [] [((Sum.inr "ask" : Key), V.int 5), ((Sum.inr "job" : Key), V.int 3)])) := upd_same
      generalize upd (upd H D (.dK [])) D (.dK (mergeK [] [((Sum.inr "ask" : Key), V.int 5), ((Sum.inr "job" : Key), V.int 3)])) = H2 at s2 hD ⊢
      rw [em] at hD
      have hx2 := Same.row s2 hx
      have hy2 := Same.row s2 hy
      have gd := DGet.k (k := (Sum.inr r.word : Key)) hD
      refine ⟨D, rfl, .inl ⟨_, .inl hD⟩, _, rfl, x, _, 0, _, rfl, rfl, hx2.t, at0 r, _, gd, ?_⟩
      cases r with
      | all h a j =>
        cases t with
        | all h' a' j' =>
          rw [show valV [((Sum.inr "ask" : Key), V.int 5), ((Sum.inr "job" : Key), V.int 3)] (Sum.inr (Row.all h a j).word : Key) = none by show valV [((Sum.inr "ask" : Key), V.int 5), ((Sum.inr "job" : Key), V.int 3)] (Sum.inr "all" : Key) = none; decide +kernel]
          refine ⟨_, rfl, rfl, _, rfl, ite2 (fun _ => iteT ?_) (fun z => absurd (decide_eq_true rfl) z)⟩
          exact q true H2 s2 (tt ⟨hh, hne⟩)
        | ask h' g' k' n' o' b' => exact absurd hw.symm w_aa
        | job h' k' o' b' => exact absurd hw.symm w_ja
      | job h k o b =>
        cases t with
        | job h' k' o' b' =>
          rw [show valV [((Sum.inr "ask" : Key), V.int 5), ((Sum.inr "job" : Key), V.int 3)] (Sum.inr (Row.job h k o b).word : Key) = some (.int 3) by show valV [((Sum.inr "ask" : Key), V.int 5), ((Sum.inr "job" : Key), V.int 3)] (Sum.inr "job" : Key) = some (.int 3); decide +kernel]
          refine ⟨_, rfl, rfl, _, rfl, ite2 (fun z => absurd (V.int.inj (of_decide_eq_true z)) (by decide)) (fun _ => ?_)⟩
          refine ⟨_, rfl, x, _, 2, _, rfl, rfl, hx2.t, rfl, _, rfl, y, _, 2, _, rfl, rfl, hy2.t, rfl, rfl, _, rfl, ite2 (fun z => ?_) (fun z => ?_)⟩
          · exact q true H2 s2 (tt ⟨hh, hne, .inl (V.int.inj (of_decide_eq_true z))⟩)
          have nk : ¬ k = k' := fun w => z (decide_eq_true (congrArg V.int w))
          have last : ∀ {b : Bool}, (b = true ↔ ((k < k' ∧ o' < o) ∨ (k' < k ∧ o < o'))) → Q (.bl b) H2 := fun {b} hb => q b H2 s2 (hb.trans ⟨fun w => ⟨hh, hne, .inr w⟩, fun w => w.2.2.resolve_left nk⟩)
          have snd : ¬ (k < k' ∧ o' < o) → tAndV (tOp (rI0 fun i j => .bl (decide (j < i))) (tOp (rIxT K) (tVar 0) (tC (.int 2))) (tOp (rIxT K) (tVar 1) (tC (.int 2)))) (tOp (rI0 fun i j => .bl (decide (i < j))) (tOp (rIxT K) (tVar 0) (tVar 2)) (tOp (rIxT K) (tVar 1) (tVar 2))) [some (.ref x), some (.ref y), some (.int 3), none, none] H2 Q := fun no => by
            refine ⟨_, rfl, x, _, 2, _, rfl, rfl, hx2.t, rfl, _, rfl, y, _, 2, _, rfl, rfl, hy2.t, rfl, _, _, rfl, rfl, _, rfl, ite2 (fun z => ?_) (fun z => ?_)⟩
            · have z1 := of_decide_eq_true z
              refine ⟨_, rfl, _, rfl, x, _, 3, _, rfl, rfl, hx2.t, rfl, _, rfl, _, rfl, y, _, 3, _, rfl, rfl, hy2.t, rfl, _, _, rfl, rfl, last ?_⟩
              rw [decide_eq_true_eq]
              omega
            · have z1 : ¬ k' < k := fun w => z (decide_eq_true w)
              exact last (ff (by omega))
          refine ⟨_, rfl, x, _, 2, _, rfl, rfl, hx2.t, rfl, _, rfl, y, _, 2, _, rfl, rfl, hy2.t, rfl, _, _, rfl, rfl, _, rfl, ite2 (fun z => ?_) (fun z => ?_)⟩
          · have z1 := of_decide_eq_true z
            refine ⟨_, rfl, _, rfl, x, _, 3, _, rfl, rfl, hx2.t, rfl, _, rfl, _, rfl, y, _, 3, _, rfl, rfl, hy2.t, rfl, _, _, rfl, rfl, _, rfl, ite2 (fun z2 => ?_) (fun z2 => ?_)⟩
            · have z3 := of_decide_eq_true z2
              exact last (tt (by omega))
            · exact snd fun w => z2 (decide_eq_true w.2)
          · exact ⟨_, rfl, iteF (snd fun w => z (decide_eq_true w.1))⟩
        | ask h' g' k' n' o' b' => exact absurd hw.symm w_aj
        | all h' a' j' => exact absurd hw w_ja
      | ask h g k n o b =>
        cases t with
        | ask h' g' k' n' o' b' =>
          rw [show valV [((Sum.inr "ask" : Key), V.int 5), ((Sum.inr "job" : Key), V.int 3)] (Sum.inr (Row.ask h g k n o b).word : Key) = some (.int 5) by show valV [((Sum.inr "ask" : Key), V.int 5), ((Sum.inr "job" : Key), V.int 3)] (Sum.inr "ask" : Key) = some (.int 5); decide +kernel]
          refine ⟨_, rfl, rfl, _, rfl, ite2 (fun z => absurd (V.int.inj (of_decide_eq_true z)) (by decide)) (fun _ => ?_)⟩
          refine ⟨_, rfl, x, _, 2, _, rfl, rfl, hx2.t, rfl, _, rfl, y, _, 2, _, rfl, rfl, hy2.t, rfl, rfl, _, rfl, ite2 (fun z => ?_) (fun z => ?_)⟩
          · exact q true H2 s2 (tt ⟨hh, hne, .inl (V.int.inj (of_decide_eq_true z))⟩)
          have nk : ¬ k = k' := fun w => z (decide_eq_true (congrArg V.int w))
          have last : ∀ {b : Bool}, (b = true ↔ ((k < k' ∧ o' < o) ∨ (k' < k ∧ o < o'))) → Q (.bl b) H2 := fun {b} hb => q b H2 s2 (hb.trans ⟨fun w => ⟨hh, hne, .inr w⟩, fun w => w.2.2.resolve_left nk⟩)
          have snd : ¬ (k < k' ∧ o' < o) → tAndV (tOp (rI0 fun i j => .bl (decide (j < i))) (tOp (rIxT K) (tVar 0) (tC (.int 2))) (tOp (rIxT K) (tVar 1) (tC (.int 2)))) (tOp (rI0 fun i j => .bl (decide (i < j))) (tOp (rIxT K) (tVar 0) (tVar 2)) (tOp (rIxT K) (tVar 1) (tVar 2))) [some (.ref x), some (.ref y), some (.int 5), none, none] H2 Q := fun no => by
            refine ⟨_, rfl, x, _, 2, _, rfl, rfl, hx2.t, rfl, _, rfl, y, _, 2, _, rfl, rfl, hy2.t, rfl, _, _, rfl, rfl, _, rfl, ite2 (fun z => ?_) (fun z => ?_)⟩
            · have z1 := of_decide_eq_true z
              refine ⟨_, rfl, _, rfl, x, _, 5, _, rfl, rfl, hx2.t, rfl, _, rfl, _, rfl, y, _, 5, _, rfl, rfl, hy2.t, rfl, _, _, rfl, rfl, last ?_⟩
              rw [decide_eq_true_eq]
              omega
            · have z1 : ¬ k' < k := fun w => z (decide_eq_true w)
              exact last (ff (by omega))
          refine ⟨_, rfl, x, _, 2, _, rfl, rfl, hx2.t, rfl, _, rfl, y, _, 2, _, rfl, rfl, hy2.t, rfl, _, _, rfl, rfl, _, rfl, ite2 (fun z => ?_) (fun z => ?_)⟩
          · have z1 := of_decide_eq_true z
            refine ⟨_, rfl, _, rfl, x, _, 5, _, rfl, rfl, hx2.t, rfl, _, rfl, _, rfl, y, _, 5, _, rfl, rfl, hy2.t, rfl, _, _, rfl, rfl, _, rfl, ite2 (fun z2 => ?_) (fun z2 => ?_)⟩
            · have z3 := of_decide_eq_true z2
              exact last (tt (by omega))
            · exact snd fun w => z2 (decide_eq_true w.2)
          · exact ⟨_, rfl, iteF (snd fun w => z (decide_eq_true w.1))⟩
        | job h' k' o' b' => exact absurd hw w_aj
        | all h' a' j' => exact absurd hw w_aa
    · have hw : r.word ≠ t.word := fun z => e (decide_eq_true (congrArg V.str z))
      refine ⟨_, rfl, _, rfl, (by show 2 ≤ sizeLine; decide), fun p1 n1 => ?_⟩
      have u1 : Same H (upd H p1 (.tup [.ref x, .ref y])) := same_upd n1
      have f1 : (upd H p1 (.tup [.ref x, .ref y])) p1 = some (.tup [.ref x, .ref y]) := upd_same
      generalize upd H p1 (.tup [.ref x, .ref y]) = G1 at u1 f1 ⊢
      refine ⟨_, rfl, _, rfl, (by show 2 ≤ sizeLine; decide), fun p2 n2 => ?_⟩
      have u2 : Same G1 (upd G1 p2 (.tup [.ref y, .ref x])) := same_upd n2
      have f2 : (upd G1 p2 (.tup [.ref y, .ref x])) p2 = some (.tup [.ref y, .ref x]) := upd_same
      generalize upd G1 p2 (.tup [.ref y, .ref x]) = G2 at u2 f2 ⊢
      refine ⟨(by show 2 ≤ sizeLine; decide), fun L nL => ?_⟩
      have u3 : Same G2 (upd G2 L (.lst [.ref p1, .ref p2])) := same_upd nL
      have f3 : (upd G2 L (.lst [.ref p1, .ref p2])) L = some (.lst [.ref p1, .ref p2]) := upd_same
      generalize upd G2 L (.lst [.ref p1, .ref p2]) = H2 at u3 f3 ⊢
      have s2 := (u1.trans u2).trans u3
      have hx2 := Same.row s2 hx
      have hy2 := Same.row s2 hy
      refine ⟨L, rfl, ⟨_, SqL.of f3⟩, for_it (walk_list (K := K) (a := L) (xs := [.ref p1, .ref p2])) (fun i σ G => (∃ v2 v3 v4 : Option V, σ = [some (.ref x), some (.ref y), v2, v3, v4]) ∧ G = H2 ∧ (1 ≤ i → ¬ HC r t) ∧ (2 ≤ i → ¬ HC t r))
        ⟨⟨none, none, none, rfl⟩, rfl, (fun z => absurd z (by decide)), fun z => absurd z (by decide)⟩ (fun i σ G _ h => by rw [h.2.1]; exact SqL.of f3) ?_ ?_⟩
      · rintro i vv σ G3 G4 hi ⟨⟨v2, v3, v4, rfl⟩, rfl, k1, k2⟩ ⟨rfl, hv⟩
        obtain ⟨tp, a, b, u, v, rfl, htp, hu, hv, yes, no⟩ : ∃ (tp a b : Addr) (u v : Row), vv = .ref tp ∧ G4 tp = some (.tup [.ref a, .ref b]) ∧ RowAt G4 a u ∧ RowAt G4 b v ∧ (HC u v → ClashP r t) ∧ (¬ HC u v → (1 ≤ i + 1 → ¬ HC r t) ∧ (2 ≤ i + 1 → ¬ HC t r)) := by
          have hi2 : i = 0 ∨ i = 1 := by have : i < 2 := hi; omega
          rcases hi2 with rfl | rfl
          · exact ⟨p1, x, y, r, t, (Option.some.inj hv).symm, u3 _ _ (u2 _ _ f1), hx2, hy2, fun z => (hc_iff hh hw).mpr (.inl z), fun z => ⟨fun _ => z, fun z => absurd z (by decide)⟩⟩
          · exact ⟨p2, y, x, t, r, (Option.some.inj hv).symm, u3 _ _ f2, hy2, hx2, fun z => (hc_iff hh hw).mpr (.inr z), fun z => ⟨fun _ => k1 (by decide), fun _ => z⟩⟩
        refine ⟨tp, _, rfl, SqT.of htp, rfl, _, _, rfl, _, _, rfl, rfl, ?_⟩
        have q : ∀ (b : Bool) (H' : Hp), Same H H' → (b = true ↔ ClashP r t) → Q (.bl b) H' := q
        cases u with
        | ask h g k n o e =>
          cases v with
          | ask h' g' k' n' o' e' =>
            refine ⟨_, rfl, a, _, 0, _, rfl, rfl, hu.t, rfl, rfl, _, rfl, ite2 (fun z => absurd (V.str.inj (of_decide_eq_true z)) w_aa) (fun _ => iteF ?_)⟩
            refine ⟨_, rfl, a, _, 0, _, rfl, rfl, hu.t, rfl, rfl, _, rfl, ite2 (fun z => absurd (V.str.inj (of_decide_eq_true z)) w_aa) (fun _ => iteF ?_)⟩
            refine ⟨_, rfl, a, _, 0, _, rfl, rfl, hu.t, rfl, rfl, _, rfl, ite2 (fun z => absurd (V.str.inj (of_decide_eq_true z)) w_aj) (fun _ => iteF ?_)⟩
            exact ⟨⟨_, _, _, rfl⟩, rfl, no (fun z => z)⟩
          | job h' k' o' e' =>
            refine ⟨_, rfl, a, _, 0, _, rfl, rfl, hu.t, rfl, rfl, _, rfl, ite2 (fun z => absurd (V.str.inj (of_decide_eq_true z)) w_aa) (fun _ => iteF ?_)⟩
            refine ⟨_, rfl, a, _, 0, _, rfl, rfl, hu.t, rfl, rfl, _, rfl, ite2 (fun z => absurd (V.str.inj (of_decide_eq_true z)) w_aa) (fun _ => iteF ?_)⟩
            refine ⟨_, rfl, a, _, 0, _, rfl, rfl, hu.t, rfl, rfl, _, rfl, ite2 (fun z => absurd (V.str.inj (of_decide_eq_true z)) w_aj) (fun _ => iteF ?_)⟩
            exact ⟨⟨_, _, _, rfl⟩, rfl, no (fun z => z)⟩
          | all h' c' d' =>
            refine ⟨_, rfl, a, _, 0, _, rfl, rfl, hu.t, rfl, rfl, _, rfl, ite2 (fun z => absurd (V.str.inj (of_decide_eq_true z)) w_aa) (fun _ => iteF ?_)⟩
            refine ⟨_, rfl, a, _, 0, _, rfl, rfl, hu.t, rfl, rfl, _, rfl, ite2 (fun z => absurd (V.str.inj (of_decide_eq_true z)) w_aa) (fun _ => iteF ?_)⟩
            refine ⟨_, rfl, a, _, 0, _, rfl, rfl, hu.t, rfl, rfl, _, rfl, ite2 (fun z => absurd (V.str.inj (of_decide_eq_true z)) w_aj) (fun _ => iteF ?_)⟩
            exact ⟨⟨_, _, _, rfl⟩, rfl, no (fun z => z)⟩
        | job h k o e =>
          cases v with
          | job h' k' o' e' =>
            refine ⟨_, rfl, a, _, 0, _, rfl, rfl, hu.t, rfl, rfl, _, rfl, ite2 (fun z => absurd (V.str.inj (of_decide_eq_true z)) w_ja) (fun _ => iteF ?_)⟩
            refine ⟨_, rfl, a, _, 0, _, rfl, rfl, hu.t, rfl, rfl, _, rfl, ite2 (fun z => absurd (V.str.inj (of_decide_eq_true z)) w_ja) (fun _ => iteF ?_)⟩
            refine ⟨_, rfl, a, _, 0, _, rfl, rfl, hu.t, rfl, rfl, _, rfl, ite2 (fun _ => ?_) (fun z => absurd (decide_eq_true rfl) z)⟩
            refine ⟨_, rfl, b, _, 0, _, rfl, rfl, hv.t, rfl, rfl, _, rfl, ite2 (fun z => absurd (V.str.inj (of_decide_eq_true z)) w_ja') (fun _ => ?_)⟩
            exact ⟨⟨_, _, _, rfl⟩, rfl, no (fun z => z)⟩
          | all h' c' d' =>
            refine ⟨_, rfl, a, _, 0, _, rfl, rfl, hu.t, rfl, rfl, _, rfl, ite2 (fun z => absurd (V.str.inj (of_decide_eq_true z)) w_ja) (fun _ => iteF ?_)⟩
            refine ⟨_, rfl, a, _, 0, _, rfl, rfl, hu.t, rfl, rfl, _, rfl, ite2 (fun z => absurd (V.str.inj (of_decide_eq_true z)) w_ja) (fun _ => iteF ?_)⟩
            refine ⟨_, rfl, a, _, 0, _, rfl, rfl, hu.t, rfl, rfl, _, rfl, ite2 (fun _ => ?_) (fun z => absurd (decide_eq_true rfl) z)⟩
            refine ⟨_, rfl, b, _, 0, _, rfl, rfl, hv.t, rfl, rfl, _, rfl, ite2 (fun z => absurd (V.str.inj (of_decide_eq_true z)) w_la) (fun _ => ?_)⟩
            exact ⟨⟨_, _, _, rfl⟩, rfl, no (fun z => z)⟩
          | ask h' g' k' n' o' e' =>
            refine ⟨_, rfl, a, _, 0, _, rfl, rfl, hu.t, rfl, rfl, _, rfl, ite2 (fun z => absurd (V.str.inj (of_decide_eq_true z)) w_ja) (fun _ => iteF ?_)⟩
            refine ⟨_, rfl, a, _, 0, _, rfl, rfl, hu.t, rfl, rfl, _, rfl, ite2 (fun z => absurd (V.str.inj (of_decide_eq_true z)) w_ja) (fun _ => iteF ?_)⟩
            refine ⟨_, rfl, a, _, 0, _, rfl, rfl, hu.t, rfl, rfl, _, rfl, ite2 (fun _ => ?_) (fun z => absurd (decide_eq_true rfl) z)⟩
            refine ⟨_, rfl, b, _, 0, _, rfl, rfl, hv.t, rfl, rfl, _, rfl, ite2 (fun _ => ?_) (fun z => absurd (decide_eq_true rfl) z)⟩
            refine ⟨_, rfl, a, _, 2, _, rfl, rfl, hu.t, rfl, _, rfl, b, _, 3, _, rfl, rfl, hv.t, rfl, _, _, rfl, rfl, _, rfl, ite2 (fun z => ?_) (fun z => ?_)⟩
            · refine ⟨_, rfl, a, _, 3, _, rfl, rfl, hu.t, rfl, _, rfl, b, _, 5, _, rfl, rfl, hv.t, rfl, _, _, rfl, rfl, _, rfl, ite2 (fun z2 => ?_) (fun z2 => ?_)⟩
              · exact iteT (q true _ s2 (tt (yes (.inl ⟨of_decide_eq_true z, of_decide_eq_true z2⟩))))
              · refine ⟨_, rfl, a, _, 2, _, rfl, rfl, hu.t, rfl, _, rfl, b, _, 3, _, rfl, rfl, hv.t, rfl, rfl, _, rfl, ite2 (fun z3 => ?_) (fun z3 => iteF ?_)⟩
                · refine ⟨_, rfl, a, _, 4, _, rfl, rfl, hu.t, rfl, _, rfl, b, _, 6, _, rfl, rfl, hv.t, rfl, _, _, rfl, rfl, _, rfl, ite2 (fun z4 => ?_) (fun z4 => ?_)⟩
                  · exact q true _ s2 (tt (yes (.inr ⟨V.int.inj (of_decide_eq_true z3), of_decide_eq_true z4⟩)))
                  · refine ⟨⟨_, _, _, rfl⟩, rfl, no fun c0 => ?_⟩
                    have c0 : (k ≤ n' ∧ o' ≤ o) ∨ (k = n' ∧ e ≤ e') := c0
                    simp only [decide_eq_true_eq, V.int.injEq] at z z2 z3 z4
                    omega
                · refine ⟨⟨_, _, _, rfl⟩, rfl, no fun c0 => ?_⟩
                  have c0 : (k ≤ n' ∧ o' ≤ o) ∨ (k = n' ∧ e ≤ e') := c0
                  have z5 : ¬ k = n' := fun w => z3 (decide_eq_true (congrArg V.int w))
                  simp only [decide_eq_true_eq] at z z2
                  omega
            · refine iteF ?_
              refine ⟨_, rfl, a, _, 2, _, rfl, rfl, hu.t, rfl, _, rfl, b, _, 3, _, rfl, rfl, hv.t, rfl, rfl, _, rfl, ite2 (fun z3 => ?_) (fun z3 => iteF ?_)⟩
              · refine ⟨_, rfl, a, _, 4, _, rfl, rfl, hu.t, rfl, _, rfl, b, _, 6, _, rfl, rfl, hv.t, rfl, _, _, rfl, rfl, _, rfl, ite2 (fun z4 => ?_) (fun z4 => ?_)⟩
                · exact q true _ s2 (tt (yes (.inr ⟨V.int.inj (of_decide_eq_true z3), of_decide_eq_true z4⟩)))
                · refine ⟨⟨_, _, _, rfl⟩, rfl, no fun c0 => ?_⟩
                  have c0 : (k ≤ n' ∧ o' ≤ o) ∨ (k = n' ∧ e ≤ e') := c0
                  simp only [decide_eq_true_eq, V.int.injEq] at z z3 z4
                  omega
              · refine ⟨⟨_, _, _, rfl⟩, rfl, no fun c0 => ?_⟩
                have c0 : (k ≤ n' ∧ o' ≤ o) ∨ (k = n' ∧ e ≤ e') := c0
                simp only [decide_eq_true_eq, V.int.injEq] at z z3
                omega
        | all h c d =>
          cases v with
          | all h' c' d' =>
            refine ⟨_, rfl, a, _, 0, _, rfl, rfl, hu.t, rfl, rfl, _, rfl, ite2 (fun _ => ?_) (fun z => absurd (decide_eq_true rfl) z)⟩
            refine ⟨_, rfl, b, _, 0, _, rfl, rfl, hv.t, rfl, rfl, _, rfl, ite2 (fun z => absurd (V.str.inj (of_decide_eq_true z)) (fun e => w_ja e.symm)) (fun _ => iteF ?_)⟩
            refine ⟨_, rfl, a, _, 0, _, rfl, rfl, hu.t, rfl, rfl, _, rfl, ite2 (fun _ => ?_) (fun z => absurd (decide_eq_true rfl) z)⟩
            refine ⟨_, rfl, b, _, 0, _, rfl, rfl, hv.t, rfl, rfl, _, rfl, ite2 (fun z => absurd (V.str.inj (of_decide_eq_true z)) w_la) (fun _ => iteF ?_)⟩
            refine ⟨_, rfl, a, _, 0, _, rfl, rfl, hu.t, rfl, rfl, _, rfl, ite2 (fun z => absurd (V.str.inj (of_decide_eq_true z)) (fun e => w_ja e.symm)) (fun _ => iteF ?_)⟩
            exact ⟨⟨_, _, _, rfl⟩, rfl, no (fun z => z)⟩
          | job h' k' o' e' =>
            refine ⟨_, rfl, a, _, 0, _, rfl, rfl, hu.t, rfl, rfl, _, rfl, ite2 (fun _ => ?_) (fun z => absurd (decide_eq_true rfl) z)⟩
            refine ⟨_, rfl, b, _, 0, _, rfl, rfl, hv.t, rfl, rfl, _, rfl, ite2 (fun _ => ?_) (fun z => absurd (decide_eq_true rfl) z)⟩
            refine ⟨_, rfl, b, _, 2, _, rfl, rfl, hv.t, rfl, _, rfl, a, _, 3, _, rfl, rfl, hu.t, rfl, _, _, rfl, rfl, _, rfl, ite2 (fun z => ?_) (fun z => ?_)⟩
            · exact q true _ s2 (tt (yes (show d ≤ k' from of_decide_eq_true z)))
            refine ⟨_, rfl, a, _, 0, _, rfl, rfl, hu.t, rfl, rfl, _, rfl, ite2 (fun _ => ?_) (fun z => absurd (decide_eq_true rfl) z)⟩
            refine ⟨_, rfl, b, _, 0, _, rfl, rfl, hv.t, rfl, rfl, _, rfl, ite2 (fun z => absurd (V.str.inj (of_decide_eq_true z)) w_ja') (fun _ => iteF ?_)⟩
            refine ⟨_, rfl, a, _, 0, _, rfl, rfl, hu.t, rfl, rfl, _, rfl, ite2 (fun z => absurd (V.str.inj (of_decide_eq_true z)) (fun e => w_ja e.symm)) (fun _ => iteF ?_)⟩
            exact ⟨⟨_, _, _, rfl⟩, rfl, no (fun c0 : d ≤ k' => z (decide_eq_true c0))⟩
          | ask h' g' k' n' o' e' =>
            refine ⟨_, rfl, a, _, 0, _, rfl, rfl, hu.t, rfl, rfl, _, rfl, ite2 (fun _ => ?_) (fun z => absurd (decide_eq_true rfl) z)⟩
            refine ⟨_, rfl, b, _, 0, _, rfl, rfl, hv.t, rfl, rfl, _, rfl, ite2 (fun z => absurd (V.str.inj (of_decide_eq_true z)) w_aj) (fun _ => iteF ?_)⟩
            refine ⟨_, rfl, a, _, 0, _, rfl, rfl, hu.t, rfl, rfl, _, rfl, ite2 (fun _ => ?_) (fun z => absurd (decide_eq_true rfl) z)⟩
            refine ⟨_, rfl, b, _, 0, _, rfl, rfl, hv.t, rfl, rfl, _, rfl, ite2 (fun _ => ?_) (fun z => absurd (decide_eq_true rfl) z)⟩
            refine ⟨_, rfl, b, _, 2, _, rfl, rfl, hv.t, rfl, _, rfl, a, _, 2, _, rfl, rfl, hu.t, rfl, _, _, rfl, rfl, _, rfl, ite2 (fun z1 => ?_) (fun z1 => ?_)⟩
            · exact iteT (q true _ s2 (tt (yes (.inl (of_decide_eq_true z1)))))
            refine ⟨_, rfl, b, _, 3, _, rfl, rfl, hv.t, rfl, _, rfl, a, _, 3, _, rfl, rfl, hu.t, rfl, _, _, rfl, rfl, _, rfl, ite2 (fun z => ?_) (fun z => ?_)⟩
            · exact q true _ s2 (tt (yes (.inr (of_decide_eq_true z))))
            refine ⟨_, rfl, a, _, 0, _, rfl, rfl, hu.t, rfl, rfl, _, rfl, ite2 (fun z => absurd (V.str.inj (of_decide_eq_true z)) (fun e => w_ja e.symm)) (fun _ => iteF ?_)⟩
            exact ⟨⟨_, _, _, rfl⟩, rfl, no (fun c0 : c ≤ k' ∨ d ≤ n' => c0.elim (fun c => z1 (decide_eq_true c)) (fun c => z (decide_eq_true c)))⟩
      · rintro σ G3 ⟨⟨v2, v3, v4, rfl⟩, rfl, k1, k2⟩
        exact q false _ s2 (ff fun z => ((hc_iff hh hw).mp z).elim (k1 (by show 1 ≤ 2; decide)) (k2 (by show 2 ≤ 2; decide)))
/-! ### such as clash with one ahead left out -/
theorem clash_irr (r : Row) : ¬ ClashP r r := by
  cases r with
  | ask => exact fun z => z.2.1 rfl
  | job => exact fun z => z.2.1 rfl
  | all => exact fun z => z.2 rfl
def sp_fair : Sp := fun vs H Q _ => ∃ (l : Addr) (xs : List V) (rs : List Row), vs = [.ref l] ∧ H l = some (.lst xs) ∧ Rws H xs rs ∧ rs.length ≤ 1000 ∧ (∀ r ∈ rs, r.Wf) ∧
  ∀ (m : Addr) (ys : List V) (ts : List Row) (H' : Hp), Same H H' → H m = none → H' m = some (.lst ys) → Rws H' ys ts → (∀ t ∈ ts, t ∈ rs) → (∀ r ∈ ts, ∀ t ∈ ts, ¬ ClashP r t) → ts.length ≤ rs.length → Q (.ref m) H'
theorem ok_l_fair (T : Txt K mg af fd) : FnOk P w K mg base CX0 2 (af 52) (fd 52) ["rows"] sp_fair := by
  refine T.F_l_fair.ok sc_l_fair (fun vs H Q E h => ?_) (fun cdv A outer s H vs Q E hr h => ?_)
  · obtain ⟨l, xs, rs, rfl, _⟩ := h
    rfl
  · obtain ⟨l, xs, rs, rfl, hl, hrw, hlen, hwf, q⟩ := h
    refine ⟨_, (pss_cons (ps_set (i := 1) sc_l_fair.nd rfl (by first | exact Or.inl rfl | exact Or.inr rfl) (pe_lst pa_nil))
        (pss_cons (ps_for PassesOwn.never rfl (pi_list (pv 0)) (pg_name (i := 2) sc_l_fair.nd rfl (by first | exact Or.inl rfl | exact Or.inr rfl)) (pss_one (ps_if (pt_not (pt_val (pe_callB (cr_any rfl) (by rfl) T.m_any (by decide +kernel) (pa_cons (pe_lc (own := [("one", 3)]) (g := gName 3) (by rfl) sc_l_fair.nd (pi_list (pv 1)) (blkOk_by (own := [("one", 3)]) (N := ["rows", "found", "row", "one"]) (sc := defScope s_l_fair) (by decide +kernel)) (fun _ _ _ _ _ => pg_name (i := 3) sc_l_fair.nd rfl (Or.inl rfl)) (fun _ _ _ _ _ => pts_nil) (fun _ _ _ _ _ => (pe_call (ok_l_do_clash T) (hr.mono (by first | decide | omega)) (by rfl) T.g_l_do_clash T.F_l_do_clash.kp T.b_l_do_clash .nil pass0 (pa_cons (pv 3) (pa_cons (pv 2) pa_nil))))) pa_nil)))) (pss_one (ps_expr (pe_bm PySem.F.plainAttrs_list PySem.F.slot_list_append PySem.F.type_list_append mt_append (pv 1) (pa_cons (pv 2) pa_nil)))) pss_nil)))
        (pss_one (ps_ret (pv 1))))), ?_⟩
    refine ⟨Nat.zero_le _, fun m nm => ?_⟩
    refine ⟨_, rfl, l, rfl, ⟨_, SqL.of ((same_upd nm) _ _ hl)⟩, for_it (walk_list (K := K) (a := l) (xs := xs)) (fun i σ G => (∃ v2 v3 : Option V, σ = [some (.ref l), some (.ref m), v2, v3]) ∧ Same H G ∧ ∃ ys ts, G m = some (.lst ys) ∧ Rws G ys ts ∧ (∀ t ∈ ts, t ∈ rs) ∧ (∀ r ∈ ts, ∀ t ∈ ts, ¬ ClashP r t) ∧ ts.length ≤ i)
      ⟨⟨none, none, rfl⟩, same_upd nm, [], [], upd_same, ⟨rfl, fun i r e => nomatch e⟩, (fun t m => nomatch m), (fun r m => nomatch m), Nat.le_refl _⟩ (fun i σ G _ h => SqL.of (h.2.1 _ _ hl)) ?_ ?_⟩
    · rintro i v σ G1 G2 hi ⟨⟨v2, v3, rfl⟩, g, ys, ts, hm, hts, hsub, hnc, hle⟩ ⟨rfl, hv⟩
      have hir : i < rs.length := by rw [← hrw.1]; exact hi
      have er : rs[i]? = some rs[i] := List.getElem?_eq_getElem hir
      generalize rs[i] = r at er
      obtain ⟨a, ea, ha⟩ := hrw.2 i r er
      obtain rfl : V.ref a = v := Option.some.inj (ea.symm.trans hv)
      have mr := List.mem_of_getElem? er
      have ha2 := g _ _ ha
      refine ⟨_, rfl, m, rfl, ⟨_, SqL.of hm⟩, fun D nD => ?_⟩
      refine lc_it (walk_list (K := K) (a := m) (xs := ys)) (fun j G => Same G2 G ∧ ∃ bs : List Bool, G D = some (.lst (bs.map V.bl)) ∧ bs.length = j ∧ (bs.any id = true ↔ ∃ t ∈ ts.take j, ClashP t r))
        ⟨same_upd nD, [], upd_same, rfl, by rw [List.take_zero]; exact ⟨(fun z => Bool.noConfusion z), fun ⟨t, z, _⟩ => nomatch z⟩⟩ (fun j G _ h => SqL.of (h.1 _ _ hm)) ?_ ?_
      · rintro j w G3 G4 hj ⟨g3, bs, hD, hbl, hb⟩ ⟨rfl, hw⟩
        have hjt : j < ts.length := by rw [← hts.1]; exact hj
        have et : ts[j]? = some ts[j] := List.getElem?_eq_getElem hjt
        generalize ts[j] = t at et
        obtain ⟨b, eb, hb2⟩ := hts.2 j t et
        obtain rfl : V.ref b = w := Option.some.inj (eb.symm.trans hw)
        have mt := List.mem_of_getElem? et
        refine ⟨rfl, yes_if ⟨_, rfl, _, rfl, b, a, t, r, rfl, g3 _ _ hb2, g3 _ _ ha2, hwf t (hsub t mt), hwf r mr, fun z G5 g5 hz => ?_⟩⟩
        refine ⟨_, g5 _ _ hD, small_line (by rw [List.length_map]; omega), same_mut (g3.trans g5) nD, bs ++ [z], by rw [upd_same, List.map_append]; rfl, by rw [List.length_append, hbl]; rfl, ?_⟩
        rw [List.any_append, Bool.or_eq_true, hb, take_snoc et]
        constructor
        · rintro (⟨x, mx, cx⟩ | hz2)
          · exact ⟨x, List.mem_append_left _ mx, cx⟩
          · have : z = true := by simpa using hz2
            exact ⟨t, List.mem_append_right _ List.mem_cons_self, hz.mp this⟩
        · rintro ⟨x, mx, cx⟩
          rcases List.mem_append.mp mx with mx | mx
          · exact .inl ⟨x, mx, cx⟩
          · rw [List.mem_singleton.mp mx] at cx
            exact .inr (by simpa using hz.mpr cx)
      · rintro G3 ⟨g3, bs, hD, hbl, hb⟩
        rw [hts.1, List.take_length] at hb
        have gg := g.trans g3
        refine ⟨D, bs, rfl, SqL.of hD, _, rfl, ite2 (fun z => ?_) (fun z => ?_)⟩
        · have nb : ¬ bs.any id = true := fun w => by rw [w] at z; cases z
          refine ⟨_, rfl, .inl ⟨rfl, _, SqL.of (g3 _ _ hm)⟩, _, rfl, m, ys, _, rfl, rfl, g3 _ _ hm, small_line (by have := hts.1; omega), ⟨_, _, rfl⟩, same_mut gg nm, ys ++ [.ref a], ts ++ [r], upd_same, ?_, ?_, ?_, by rw [List.length_append]; show ts.length + 1 ≤ i + 1; omega⟩
          · refine ((hts.same g3).snoc (g3 _ _ ha2)).go fun b xs e => ?_
            rw [upd_ne (ne_of e (g3 _ _ hm) (fun z => nomatch z))]
            exact e
          · intro t mt
            rcases List.mem_append.mp mt with mt | mt
            · exact hsub t mt
            · rw [List.mem_singleton.mp mt]
              exact mr
          · have old : ∀ t ∈ ts, ¬ ClashP t r := fun t mt c => nb (hb.mpr ⟨t, mt, c⟩)
            intro x mx y my
            rcases List.mem_append.mp mx with mx | mx <;> rcases List.mem_append.mp my with my | my
            · exact hnc x mx y my
            · rw [List.mem_singleton.mp my]
              exact old x mx
            · rw [List.mem_singleton.mp mx]
              exact fun c => old y my ((clash_comm _ _).mp c)
            · rw [List.mem_singleton.mp mx, List.mem_singleton.mp my]
              exact clash_irr r
        · exact ⟨⟨_, _, rfl⟩, gg, ys, ts, g3 _ _ hm, hts.same g3, hsub, hnc, by omega⟩
    · rintro σ G ⟨⟨v2, v3, rfl⟩, g, ys, ts, hm, hts, hsub, hnc, hle⟩
      exact ⟨_, rfl, q m ys ts G g nm hm hts hsub hnc (by rw [← hrw.1]; exact hle)⟩
/-! ### a row turned in a time, a house or a count -/
def InT (s : Int) : Row → Prop
  | .ask _ _ _ _ o b => -1000000000000 + s ≤ o ∧ b ≤ 1000000000000 - s
  | .job _ _ o b => -1000000000000 + s ≤ o ∧ b ≤ 1000000000000 - s
  | .all _ _ _ => True
theorem max_b {a b : Int} : (if b > a then b else a) = max a b := by
  by_cases h : b > a
  · rw [if_pos h, Int.max_eq_right (Int.le_of_lt h)]
  · rw [if_neg h, Int.max_eq_left (Int.not_lt.mp h)]
theorem min_b {a b : Int} : (if b < a then b else a) = min a b := by
  by_cases h : b < a
  · rw [if_pos h, Int.min_eq_right (Int.le_of_lt h)]
  · rw [if_neg h, Int.min_eq_left (Int.not_lt.mp h)]
def sp_bent_row : Sp := fun vs H Q _ => ∃ (p c t a : Addr) (hs gs : List Str) (r : Row) (s : Int), vs = [.ref p, .ref t, .ref a] ∧ Pen H p c ∧ TownAt H t hs gs ∧ 1 ≤ hs.length ∧ hs.length ≤ 6 ∧ (∀ h ∈ hs, PyData.strOk h = true) ∧ RowAt H a r ∧ r.Wf ∧ r.In hs ∧ InT s r ∧ 9 ≤ s ∧
  ∀ (a' : Addr) (r' : Row) (H' : Hp), Stp p c H H' → RowAt H' a' r' → r'.Wf → r'.In hs → InT (s - 9) r' → Q (.ref a') H'
theorem ok_l_bent_row (T : Txt K mg af fd) : FnOk P w K mg base CX0 3 (af 53) (fd 53) ["pen", "town", "row"] sp_bent_row := by
  refine T.F_l_bent_row.ok sc_l_bent_row (fun vs H Q E h => ?_) (fun cdv A outer s H vs Q E hr h => ?_)
  · obtain ⟨p, c, t, a, hs, gs, r, s, rfl, _⟩ := h
    rfl
  · obtain ⟨p, c, t, a, hs, gs, r, s, rfl, hP, ht, l1, l6, hok, ha, wf, inn, it, s9, q⟩ := h
    refine ⟨_, (pss_cons (ps_set (i := 3) sc_l_bent_row.nd rfl (by first | exact Or.inl rfl | exact Or.inr rfl) (pe_ix ix_list (pe_lst (pa_cons (pe_un un_neg pe_int) (pa_cons (pe_un un_neg pe_int) (pa_cons (pe_un un_neg pe_int) (pa_cons pe_int (pa_cons pe_int (pa_cons pe_int (pa_cons pe_int (pa_cons pe_int pa_nil))))))))) (pe_call (ok_l_take T) (hr.mono (by first | decide | omega)) (by rfl) T.g_l_take T.F_l_take.kp T.b_l_take .nil pass0 (pa_cons (pv 0) (pa_cons pe_int pa_nil))) (fun _ _ => rfl)))
        (pss_cons (ps_set (i := 4) sc_l_bent_row.nd rfl (by first | exact Or.inl rfl | exact Or.inr rfl) (pe_call (ok_l_take T) (hr.mono (by first | decide | omega)) (by rfl) T.g_l_take T.F_l_take.kp T.b_l_take .nil pass0 (pa_cons (pv 0) (pa_cons pe_int pa_nil))))
        (pss_cons (ps_if (pt_cmpR op_eq (pe_ix ix_tup (pv 2) pe_int (fun _ _ => rfl)) pe_str (nomark _)) (pss_cons (ps_set (i := 5) sc_l_bent_row.nd rfl (by first | exact Or.inl rfl | exact Or.inr rfl) (pe_op op_add (pe_ix ix_tup (pv 2) pe_int (fun _ _ => rfl)) (pe_ix ix_list (pe_lst (pa_cons pe_int (pa_cons pe_int (pa_cons (pe_un un_neg pe_int) (pa_cons pe_int pa_nil))))) (pv 4) (fun _ _ => rfl))))
        (pss_cons (ps_set (i := 6) sc_l_bent_row.nd rfl (by first | exact Or.inl rfl | exact Or.inr rfl) (pe_op op_add (pe_ix ix_tup (pv 2) pe_int (fun _ _ => rfl)) (pe_ix ix_list (pe_lst (pa_cons pe_int (pa_cons pe_int (pa_cons pe_int (pa_cons (pe_un un_neg pe_int) pa_nil))))) (pv 4) (fun _ _ => rfl))))
        (pss_one (ps_ret (pe_op op_catT (pe_slice sl_tup (pv 2) po_none (po_some pe_int)) (pe_tup (pa_cons (pe_callB (call_max2 rfl) (by rfl) T.m_max (by decide +kernel) (pa_cons pe_int (pa_cons (pe_callB (call_min2 rfl) (by rfl) T.m_min (by decide +kernel) (pa_cons pe_int (pa_cons (pv 5) pa_nil))) pa_nil))) (pa_cons (pe_callB (call_max2 rfl) (by rfl) T.m_max (by decide +kernel) (pa_cons pe_int (pa_cons (pe_callB (call_min2 rfl) (by rfl) T.m_min (by decide +kernel) (pa_cons pe_int (pa_cons (pv 6) pa_nil))) pa_nil))) pa_nil)))))))) pss_nil)
        (pss_cons (ps_if (PW.pt (pw_and (pt_cmpR op_eq (pe_ix ix_tup (pv 2) pe_int (fun _ _ => rfl)) pe_str (nomark _)) (pw_and1 (pt_cmpR op_lt (pv 4) pe_int (nomark _))))) (pss_one (ps_ret (pe_op op_catT (pe_slice sl_tup (pv 2) po_none (po_some pe_int)) (pe_tup (pa_cons (pe_op op_add (pe_ix ix_tup (pv 2) pe_int (fun _ _ => rfl)) (pv 3)) (pa_cons (pe_op op_add (pe_ix ix_tup (pv 2) pe_int (fun _ _ => rfl)) (pv 3)) pa_nil)))))) pss_nil)
        (pss_cons (ps_if (pt_cmpR op_eq (pe_ix ix_tup (pv 2) pe_int (fun _ _ => rfl)) pe_str (nomark _)) (pss_one (ps_ret (pe_op op_catT (pe_slice sl_tup (pv 2) po_none (po_some pe_int)) (pe_tup (pa_cons (pe_callB (call_max2 rfl) (by rfl) T.m_max (by decide +kernel) (pa_cons (pe_ix ix_tup (pv 2) pe_int (fun _ _ => rfl)) (pa_cons (pe_op op_add (pe_ix ix_tup (pv 2) pe_int (fun _ _ => rfl)) (pv 3)) pa_nil))) pa_nil))))) pss_nil)
        (pss_cons (ps_if (pt_cmpR op_eq (pv 4) pe_int (nomark _)) (pss_one (ps_ret (pe_op op_catT (pe_op op_catT (pe_slice sl_tup (pv 2) po_none (po_some pe_int)) (pe_tup (pa_cons (pe_ix ix_tup (pe_ix ix_tup (pv 1) pe_int (fun _ _ => rfl)) (pe_call (ok_l_take T) (hr.mono (by first | decide | omega)) (by rfl) T.g_l_take T.F_l_take.kp T.b_l_take .nil pass0 (pa_cons (pv 0) (pa_cons (pe_callB call_len_seq (by rfl) T.m_len (by decide +kernel) (pa_cons (pe_ix ix_tup (pv 1) pe_int (fun _ _ => rfl)) pa_nil)) pa_nil))) (fun _ _ => rfl)) pa_nil))) (pe_slice sl_tup (pv 2) (po_some pe_int) po_none)))) pss_nil)
        (pss_cons (ps_if (pt_cmpR op_eq (pv 4) pe_int (nomark _)) (pss_one (ps_ret (pe_op op_catT (pe_slice sl_tup (pv 2) po_none (po_some pe_int)) (pe_tup (pa_cons (pe_op op_add (pe_ix ix_tup (pv 2) pe_int (fun _ _ => rfl)) (pv 3)) (pa_cons (pe_callB (call_max2 rfl) (by rfl) T.m_max (by decide +kernel) (pa_cons (pe_ix ix_tup (pv 2) pe_int (fun _ _ => rfl)) (pa_cons (pe_op op_add (pe_ix ix_tup (pv 2) pe_int (fun _ _ => rfl)) (pv 3)) pa_nil))) pa_nil)))))) pss_nil)
        (pss_one (ps_ret (pe_op op_catT (pe_slice sl_tup (pv 2) po_none (po_some pe_int)) (pe_tup (pa_cons (pe_callB (call_max2 rfl) (by rfl) T.m_max (by decide +kernel) (pa_cons (pe_ix ix_tup (pv 2) pe_int (fun _ _ => rfl)) (pa_cons (pe_op op_add (pe_ix ix_tup (pv 2) pe_int (fun _ _ => rfl)) (pv 3)) pa_nil))) pa_nil)))))))))))), ?_⟩
    refine ⟨_, rfl, _, rfl, _, rfl, (by show 8 ≤ sizeLine; decide), fun L nL => ?_⟩
    have st0 := (Stp.refl hP).new (o := .lst [.int (-3), .int (-2), .int (-1), .int 1, .int 2, .int 3, .int 6, .int 9]) hP nL
    have nlp : L ≠ p := fun e => hP.neP nL e.symm
    refine ⟨_, rfl, p, c, 8, rfl, st0.1, by decide, by decide, fun i H1 i0 i1 s1 => ?_⟩
    obtain ⟨mo, emo, m0, m1⟩ : ∃ mo : Int, atI [V.int (-3), .int (-2), .int (-1), .int 1, .int 2, .int 3, .int 6, .int 9] i = some (.int mo) ∧ -9 ≤ mo ∧ mo ≤ 9 := by
      have hi : i = 0 ∨ i = 1 ∨ i = 2 ∨ i = 3 ∨ i = 4 ∨ i = 5 ∨ i = 6 ∨ i = 7 := by omega
      rcases hi with rfl | rfl | rfl | rfl | rfl | rfl | rfl | rfl <;> exact ⟨_, rfl, by decide, by decide⟩
    refine ⟨L, _, _, _, rfl, rfl, SqL.of (s1.2 L _ nlp upd_same), emo, ?_⟩
    have st1 := st0.trans s1
    refine ⟨_, rfl, p, c, 4, rfl, s1.1, by decide, by decide, fun wy H2 w0 w1 s2 => ?_⟩
    have st2 := st1.trans s2
    have ha2 : RowAt H2 a r := st2.tup hP ha
    have ht2 := st2.town hP ht
    have q2 := fun a' r' H' (x : Same H2 H') => q a' r' H' (st2.sm x)
    refine ⟨_, rfl, a, _, 0, _, rfl, rfl, ha2.t, at0 r, rfl, _, rfl, ?_⟩
    cases r with
    | all h k j =>
      refine ite2 (fun _ => ?_) (fun z => absurd (decide_eq_true rfl) z)
      have pick : ∀ (x0 x1 x2 x3 : Int), -1 ≤ x0 ∧ x0 ≤ 2 → -1 ≤ x1 ∧ x1 ≤ 2 → -1 ≤ x2 ∧ x2 ≤ 2 → -1 ≤ x3 ∧ x3 ≤ 2 → ∃ y : Int, atI [V.int x0, .int x1, .int x2, .int x3] wy = some (.int y) ∧ -1 ≤ y ∧ y ≤ 2 := by
        intro x0 x1 x2 x3 h0 h1 h2 h3
        have hi : wy = 0 ∨ wy = 1 ∨ wy = 2 ∨ wy = 3 := by omega
        rcases hi with rfl | rfl | rfl | rfl
        · exact ⟨x0, rfl, h0⟩
        · exact ⟨x1, rfl, h1⟩
        · exact ⟨x2, rfl, h2⟩
        · exact ⟨x3, rfl, h3⟩
      obtain ⟨y1, e1, y10, y11⟩ := pick 0 1 (-1) 2 (by decide) (by decide) (by decide) (by decide)
      obtain ⟨y2, e2, y20, y21⟩ := pick 1 0 1 (-1) (by decide) (by decide) (by decide) (by decide)
      refine ⟨_, rfl, a, _, 2, _, rfl, rfl, ha2.t, rfl, _, rfl, (by show 4 ≤ sizeLine; decide), fun L1 nL1 => ⟨_, rfl, L1, _, _, _, rfl, rfl, SqL.of upd_same, e1, _, _, rfl, rfl, ?_⟩⟩
      have u1 := same_upd (o := .lst [.int 0, .int 1, .int (-1), .int 2]) nL1
      generalize upd H2 L1 (.lst [.int 0, .int 1, .int (-1), .int 2]) = G1 at u1 ⊢
      refine ⟨_, rfl, a, _, 3, _, rfl, rfl, SqT.of (u1 _ _ ha2), rfl, _, rfl, (by show 4 ≤ sizeLine; decide), fun L2 nL2 => ⟨_, rfl, L2, _, _, _, rfl, rfl, SqL.of upd_same, e2, _, _, rfl, rfl, ?_⟩⟩
      have u2 := same_upd (o := .lst [.int 1, .int 0, .int 1, .int (-1)]) nL2
      generalize upd G1 L2 (.lst [.int 1, .int 0, .int 1, .int (-1)]) = G2 at u2 ⊢
      have u12 := u1.trans u2
      refine ⟨_, rfl, _, rfl, a, _, rfl, SqT.of (u12 _ _ ha2), (by show ¬ (HT.sIx 4 0 none = 0 ∧ HT.sIx 4 4 (some 2) = 4); decide), fun A1 nA1 => ?_⟩
      have u3 : Same G2 (upd G2 A1 (.tup [.str "all", .str h])) := same_upd nA1
      have f1 : (upd G2 A1 (.tup [.str "all", .str h])) A1 = some (.tup [.str "all", .str h]) := upd_same
      refine ⟨_, rfl, _, _, rfl, _, _, rfl, _, rfl, _, _, rfl, _, _, rfl, (by show 2 ≤ sizeLine; decide), fun A2 nA2 => ?_⟩
      rw [min_b, max_b, min_b, max_b] at *
      have u4 := same_upd (o := .tup [.int (max 0 (min 15 (k + y1))), .int (max 0 (min 15 (j + y2)))]) nA2
      refine ⟨A1, A2, _, _, rfl, rfl, SqT.of (u4 _ _ f1), SqT.of upd_same, (fun z => nomatch z), (by show 4 ≤ sizeLine; decide), (fun z => nomatch z), fun _ A3 nA3 => ?_⟩
      have u5 := same_upd (o := .tup ([.str "all", .str h] ++ [.int (max 0 (min 15 (k + y1))), .int (max 0 (min 15 (j + y2)))])) nA3
      exact q2 A3 (.all h (max 0 (min 15 (k + y1))) (max 0 (min 15 (j + y2)))) _ (((u12.trans u3).trans u4).trans u5) upd_same ⟨wf.1, ⟨by omega, by omega⟩, ⟨by omega, by omega⟩⟩ inn trivial
    | job h k o b =>
      obtain ⟨w1, w2, ⟨w3, w4⟩, ⟨w5, w6⟩, w7⟩ := wf
      obtain ⟨i1, i2⟩ := it
      refine ite2 (fun z => absurd (V.str.inj (of_decide_eq_true z)) w_ja) (fun _ => ?_)
      refine ⟨_, rfl, a, _, 0, _, rfl, rfl, ha2.t, rfl, rfl, _, rfl, ite2 (fun _ => ?_) (fun z => absurd (decide_eq_true rfl) z)⟩
      refine ⟨_, rfl, _, _, rfl, rfl, _, rfl, ite2 (fun z => ?_) (fun z => ?_)⟩
      · refine ⟨_, rfl, _, rfl, a, _, rfl, ha2.t, (by show ¬ (HT.sIx 5 0 none = 0 ∧ HT.sIx 5 5 (some 3) = 5); decide), fun A1 nA1 => ?_⟩
        have u3 : Same H2 (upd H2 A1 (.tup [.str "job", .str h, .int k])) := same_upd nA1
        have f1 : (upd H2 A1 (.tup [.str "job", .str h, .int k])) A1 = some (.tup [.str "job", .str h, .int k]) := upd_same
        refine ⟨_, rfl, a, _, 3, _, rfl, rfl, SqT.of (u3 _ _ ha2), rfl, _, rfl, _, _, rfl, rfl, _, rfl, a, _, 4, _, rfl, rfl, SqT.of (u3 _ _ ha2), rfl, _, rfl, _, _, rfl, rfl, (by show 2 ≤ sizeLine; decide), fun A2 nA2 => ?_⟩
        have u4 := same_upd (o := .tup [.int (o + mo), .int (b + mo)]) nA2
        refine ⟨A1, A2, _, _, rfl, rfl, SqT.of (u4 _ _ f1), SqT.of upd_same, (fun z => nomatch z), (by show 5 ≤ sizeLine; decide), (fun z => nomatch z), fun _ A3 nA3 => ?_⟩
        have u5 := same_upd (o := .tup ([.str "job", .str h, .int k] ++ [.int (o + mo), .int (b + mo)])) nA3
        exact q2 A3 (.job h k (o + mo) (b + mo)) _ ((u3.trans u4).trans u5) upd_same ⟨w1, w2, ⟨by omega, by omega⟩, ⟨by omega, by omega⟩, by omega⟩ inn ⟨by omega, by omega⟩
      · refine ⟨_, rfl, a, _, 0, _, rfl, rfl, ha2.t, rfl, rfl, _, rfl, ite2 (fun _ => ?_) (fun z => absurd (decide_eq_true rfl) z)⟩
        refine ⟨_, rfl, _, rfl, a, _, rfl, ha2.t, (by show ¬ (HT.sIx 5 0 none = 0 ∧ HT.sIx 5 5 (some 4) = 5); decide), fun A1 nA1 => ?_⟩
        have u3 : Same H2 (upd H2 A1 (.tup [.str "job", .str h, .int k, .int o])) := same_upd nA1
        have f1 : (upd H2 A1 (.tup [.str "job", .str h, .int k, .int o])) A1 = some (.tup [.str "job", .str h, .int k, .int o]) := upd_same
        refine ⟨_, rfl, a, _, 3, _, rfl, rfl, SqT.of (u3 _ _ ha2), rfl, _, rfl, a, _, 4, _, rfl, rfl, SqT.of (u3 _ _ ha2), rfl, _, rfl, _, _, rfl, rfl, _, _, rfl, (by show 1 ≤ sizeLine; decide), fun A2 nA2 => ?_⟩
        rw [max_b] at *
        have u4 := same_upd (o := .tup [.int (max o (b + mo))]) nA2
        refine ⟨A1, A2, _, _, rfl, rfl, SqT.of (u4 _ _ f1), SqT.of upd_same, (fun z => nomatch z), (by show 5 ≤ sizeLine; decide), (fun z => nomatch z), fun _ A3 nA3 => ?_⟩
        have u5 := same_upd (o := .tup ([.str "job", .str h, .int k, .int o] ++ [.int (max o (b + mo))])) nA3
        exact q2 A3 (.job h k o (max o (b + mo))) _ ((u3.trans u4).trans u5) upd_same ⟨w1, w2, ⟨by omega, by omega⟩, ⟨by omega, by omega⟩, by omega⟩ inn ⟨by omega, by omega⟩
    | ask h g k n o b =>
      obtain ⟨w1, w2, w3, w4, ⟨w5, w6⟩, ⟨w7, w8⟩, w9⟩ := wf
      obtain ⟨i1, i2⟩ := it
      refine ite2 (fun z => absurd (V.str.inj (of_decide_eq_true z)) w_aa) (fun _ => ?_)
      refine ⟨_, rfl, a, _, 0, _, rfl, rfl, ha2.t, rfl, rfl, _, rfl, ite2 (fun z => absurd (V.str.inj (of_decide_eq_true z)) w_aj) (fun _ => iteF ?_)⟩
      refine ⟨_, rfl, a, _, 0, _, rfl, rfl, ha2.t, rfl, rfl, _, rfl, ite2 (fun z => absurd (V.str.inj (of_decide_eq_true z)) w_aj) (fun _ => ?_)⟩
      refine ⟨_, rfl, rfl, _, rfl, ite2 (fun z => ?_) (fun z => ?_)⟩
      · obtain ⟨th, tg, t1, t2, t3⟩ := id ht2
        refine ⟨_, rfl, _, rfl, a, _, rfl, ha2.t, (by show ¬ (HT.sIx 7 0 none = 0 ∧ HT.sIx 7 7 (some 4) = 7); decide), fun A1 nA1 => ?_⟩
        have u3 : Same H2 (upd H2 A1 (.tup (cutV (Row.ask h g k n o b).vals none (some 4)))) := same_upd nA1
        have f1 : (upd H2 A1 (.tup (cutV (Row.ask h g k n o b).vals none (some 4)))) A1 = some (.tup [.str "ask", .str h, .int k, .int n]) := upd_same
        generalize upd H2 A1 (.tup (cutV (Row.ask h g k n o b).vals none (some 4))) = G1 at u3 f1 ⊢
        refine ⟨_, rfl, t, _, 0, _, rfl, rfl, SqT.of (u3 _ _ t1), rfl, _, rfl, _, rfl, t, _, 0, _, rfl, rfl, SqT.of (u3 _ _ t1), rfl, th, _, rfl, .inr (SqT.of (u3 _ _ t2)), p, c, _, rfl, s2.1.sm u3, ?_, ?_, fun x G2 x0 x1 s3 => ?_⟩
        · rw [List.length_map]; omega
        · rw [List.length_map]; exact Nat.lt_of_le_of_lt (show _ ≤ 6 by omega) (by decide)
        rw [List.length_map] at x1
        have P1 := s2.1.sm u3
        have hx : hs[x.toNat]? = some hs[x.toNat] := List.getElem?_eq_getElem (by omega)
        generalize hs[x.toNat]'(by omega) = g2 at hx
        have mg2 := List.mem_of_getElem? hx
        refine ⟨th, _, _, .str g2, rfl, rfl, SqT.of (s3.tup P1 (u3 _ _ t2)), at_any (j := x.toNat) (by omega) (by rw [List.getElem?_map, hx]; rfl), (by show 1 ≤ sizeLine; decide), fun A2 nA2 => ?_⟩
        have u4 := same_upd (o := .tup [.str g2]) nA2
        have f2 := u4 _ _ (s3.tup P1 f1)
        refine ⟨A1, A2, _, _, rfl, rfl, SqT.of f2, SqT.of upd_same, (fun z => nomatch z), (by show 5 ≤ sizeLine; decide), (fun z => nomatch z), fun _ A3 nA3 => ?_⟩
        have u5 := same_upd (o := .tup ([.str "ask", .str h, .int k, .int n] ++ [.str g2])) nA3
        have f3 : (upd (upd G2 A2 (.tup [.str g2])) A3 (.tup ([.str "ask", .str h, .int k, .int n] ++ [.str g2]))) A3 = some (.tup [.str "ask", .str h, .int k, .int n, .str g2]) := upd_same
        have ha5 : RowAt (upd (upd G2 A2 (.tup [.str g2])) A3 (.tup ([.str "ask", .str h, .int k, .int n] ++ [.str g2]))) a (.ask h g k n o b) := u5 _ _ (u4 _ _ (s3.tup P1 (u3 _ _ ha2)))
        have u45 := u4.trans u5
        generalize upd (upd G2 A2 (.tup [.str g2])) A3 (.tup ([.str "ask", .str h, .int k, .int n] ++ [.str g2])) = G3 at u45 f3 ha5 ⊢
        refine ⟨_, rfl, _, rfl, a, _, rfl, ha5.t, (by show ¬ (HT.sIx 7 0 (some 5) = 0 ∧ HT.sIx 7 7 none = 7); decide), fun A4 nA4 => ?_⟩
        have u6 := same_upd (o := .tup [.int o, .int b]) nA4
        refine ⟨A3, A4, _, _, rfl, rfl, SqT.of (u6 _ _ f3), SqT.of upd_same, (fun z => nomatch z), (by show 7 ≤ sizeLine; decide), (fun z => nomatch z), fun _ A5 nA5 => ?_⟩
        have u7 := same_upd (o := .tup ([.str "ask", .str h, .int k, .int n, .str g2] ++ [.int o, .int b])) nA5
        exact q A5 (.ask h g2 k n o b) _ (((st2.sm u3).trans s3).sm ((u45.trans u6).trans u7)) upd_same ⟨w1, hok _ mg2, w3, w4, ⟨w5, w6⟩, ⟨w7, w8⟩, w9⟩ ⟨inn.1, mg2⟩ ⟨by omega, by omega⟩
      refine ⟨_, rfl, rfl, _, rfl, ite2 (fun z => ?_) (fun z => ?_)⟩
      · refine ⟨_, rfl, _, rfl, a, _, rfl, ha2.t, (by show ¬ (HT.sIx 7 0 none = 0 ∧ HT.sIx 7 7 (some 5) = 7); decide), fun A1 nA1 => ?_⟩
        have u3 : Same H2 (upd H2 A1 (.tup [.str "ask", .str h, .int k, .int n, .str g])) := same_upd nA1
        have f1 : (upd H2 A1 (.tup [.str "ask", .str h, .int k, .int n, .str g])) A1 = some (.tup [.str "ask", .str h, .int k, .int n, .str g]) := upd_same
        refine ⟨_, rfl, a, _, 5, _, rfl, rfl, SqT.of (u3 _ _ ha2), rfl, _, rfl, _, _, rfl, rfl, _, rfl, a, _, 6, _, rfl, rfl, SqT.of (u3 _ _ ha2), rfl, _, rfl, a, _, 5, _, rfl, rfl, SqT.of (u3 _ _ ha2), rfl, _, rfl, _, _, rfl, rfl, _, _, rfl, (by show 2 ≤ sizeLine; decide), fun A2 nA2 => ?_⟩
        rw [max_b] at *
        have u4 := same_upd (o := .tup [.int (o + mo), .int (max b (o + mo))]) nA2
        refine ⟨A1, A2, _, _, rfl, rfl, SqT.of (u4 _ _ f1), SqT.of upd_same, (fun z => nomatch z), (by show 7 ≤ sizeLine; decide), (fun z => nomatch z), fun _ A3 nA3 => ?_⟩
        have u5 := same_upd (o := .tup ([.str "ask", .str h, .int k, .int n, .str g] ++ [.int (o + mo), .int (max b (o + mo))])) nA3
        exact q2 A3 (.ask h g k n (o + mo) (max b (o + mo))) _ ((u3.trans u4).trans u5) upd_same ⟨w1, w2, w3, w4, ⟨by omega, by omega⟩, ⟨by omega, by omega⟩, by omega⟩ inn ⟨by omega, by omega⟩
      · refine ⟨_, rfl, _, rfl, a, _, rfl, ha2.t, (by show ¬ (HT.sIx 7 0 none = 0 ∧ HT.sIx 7 7 (some 6) = 7); decide), fun A1 nA1 => ?_⟩
        have u3 : Same H2 (upd H2 A1 (.tup [.str "ask", .str h, .int k, .int n, .str g, .int o])) := same_upd nA1
        have f1 : (upd H2 A1 (.tup [.str "ask", .str h, .int k, .int n, .str g, .int o])) A1 = some (.tup [.str "ask", .str h, .int k, .int n, .str g, .int o]) := upd_same
        refine ⟨_, rfl, a, _, 5, _, rfl, rfl, SqT.of (u3 _ _ ha2), rfl, _, rfl, a, _, 6, _, rfl, rfl, SqT.of (u3 _ _ ha2), rfl, _, rfl, _, _, rfl, rfl, _, _, rfl, (by show 1 ≤ sizeLine; decide), fun A2 nA2 => ?_⟩
        rw [max_b] at *
        have u4 := same_upd (o := .tup [.int (max o (b + mo))]) nA2
        refine ⟨A1, A2, _, _, rfl, rfl, SqT.of (u4 _ _ f1), SqT.of upd_same, (fun z => nomatch z), (by show 7 ≤ sizeLine; decide), (fun z => nomatch z), fun _ A3 nA3 => ?_⟩
        have u5 := same_upd (o := .tup ([.str "ask", .str h, .int k, .int n, .str g, .int o] ++ [.int (max o (b + mo))])) nA3
        exact q2 A3 (.ask h g k n o (max o (b + mo))) _ ((u3.trans u4).trans u5) upd_same ⟨w1, w2, w3, w4, ⟨by omega, by omega⟩, ⟨by omega, by omega⟩, by omega⟩ inn ⟨by omega, by omega⟩
/-! a dict from texts to whole numbers -/
structure DSh (kvs : List (Key × V)) (ks : List Str) (f : Str → Int) : Prop where
  keys : kvs.map (·.1) = ks.map Sum.inr
  val : ∀ k ∈ ks, valV kvs (Sum.inr k) = some (.int (f k))
  ok : ∀ k ∈ ks, PyData.strOk k = true
  few : ks.length < 64
  nd : ks.Nodup
theorem val_of_in {κ : Type} [DecidableEq κ] : ∀ {kvs : List (κ × V)} {k : κ} {v : V}, (kvs.map (·.1)).Nodup → (k, v) ∈ kvs → valV kvs k = some v
  | [], _, _, _, m => nomatch m
  | kv :: kvs, k, v, nd, m => by
    have nd' := List.nodup_cons.mp nd
    unfold valV
    rw [List.find?_cons]
    by_cases e : kv.1 = k
    · rcases List.mem_cons.mp m with rfl | m
      · rw [decide_eq_true e]
        rfl
      · exact absurd (List.mem_map.mpr ⟨_, m, rfl⟩) (by rw [← e] ; exact nd'.1)
    · rw [decide_eq_false e]
      rcases List.mem_cons.mp m with rfl | m
      · exact absurd rfl e
      · exact val_of_in nd'.2 m
/-! ### dicts from texts to whole numbers: put, dropped, made of pairs -/
theorem DSh.mem {kvs : List (Key × V)} {ks : List Str} {f : Str → Int} (h : DSh kvs ks f) {k : Str} : (Sum.inr k : Key) ∈ kvs.map (·.1) ↔ k ∈ ks := by
  rw [h.keys]
  constructor
  · intro m
    obtain ⟨x, mx, e⟩ := List.mem_map.mp m
    rw [← Sum.inr.inj e]
    exact mx
  · exact fun m => List.mem_map.mpr ⟨k, m, rfl⟩
theorem DSh.put {kvs : List (Key × V)} {ks : List Str} {f : Str → Int} (h : DSh kvs ks f) (k : Str) (n : Int) (okk : PyData.strOk k = true) (few : ks.length < 63) : DSh (putK kvs (Sum.inr k) (.int n)) (if k ∈ ks then ks else ks ++ [k]) (fun x => if x = k then n else f x) where
  keys := by
    rw [put_keys, h.keys]
    by_cases m : k ∈ ks
    · rw [if_pos m, if_pos (by rw [← h.keys]; exact h.mem.mpr m), List.append_nil]
    · rw [if_neg m, if_neg (by rw [← h.keys]; exact fun z => m (h.mem.mp z)), List.map_append]
      rfl
  val := fun x m => by
    by_cases e : x = k
    · subst e
      rw [if_pos rfl]
      rw [valV_put, if_pos rfl]
    · rw [if_neg e, valV_put, if_neg (fun z => e (Sum.inr.inj z))]
      refine h.val x ?_
      by_cases mk : k ∈ ks
      · rw [if_pos mk] at m
        exact m
      · rw [if_neg mk] at m
        rcases List.mem_append.mp m with m | m
        · exact m
        · exact absurd (List.mem_singleton.mp m) e
  ok := fun x m => by
    by_cases mk : k ∈ ks
    · rw [if_pos mk] at m
      exact h.ok x m
    · rw [if_neg mk] at m
      rcases List.mem_append.mp m with m | m
      · exact h.ok x m
      · rw [List.mem_singleton.mp m]
        exact okk
  few := by
    split
    · omega
    · rw [List.length_append]
      show ks.length + 1 < 64
      omega
  nd := by
    split
    · exact h.nd
    · rename_i n
      refine List.nodup_append.mpr ⟨h.nd, List.nodup_cons.mpr ⟨(fun z => nomatch z), List.nodup_nil⟩, fun a ma b mb e => n ?_⟩
      rw [List.mem_singleton.mp mb] at e
      rw [← e]
      exact ma
theorem val_drop {kvs : List (Key × V)} {k j : Key} (n : j ≠ k) : valV (dropK kvs k) j = valV kvs j := by
  unfold dropK
  induction kvs with
  | nil => rfl
  | cons x l ih =>
    rw [List.filter_cons]
    by_cases c : x.1 = k
    · rw [if_neg (by simp [c]), ih, valV_neg (fun z => n (z.symm.trans c))]
    · rw [if_pos (decide_eq_true c)]
      by_cases e : x.1 = j
      · rw [valV_pos e, valV_pos e]
      · rw [valV_neg e, valV_neg e, ih]
theorem DSh.drop {kvs : List (Key × V)} {ks : List Str} {f : Str → Int} (h : DSh kvs ks f) (k : Str) : DSh (dropK kvs (Sum.inr k)) (ks.filter fun x => decide (x ≠ k)) f where
  keys := by
    unfold dropK
    have : ∀ (l : List (Key × V)) (m : List Str), l.map (·.1) = m.map Sum.inr → (l.filter fun kv => decide (kv.1 ≠ (Sum.inr k : Key))).map (·.1) = (m.filter fun x => decide (x ≠ k)).map Sum.inr := by
      intro l
      induction l with
      | nil =>
        intro m e
        cases m with
        | nil => rfl
        | cons => cases e
      | cons kv l ih =>
        intro m e
        cases m with
        | nil => cases e
        | cons x m =>
          injection e with e1 e2
          have e1 : kv.1 = Sum.inr x := e1
          rw [List.filter_cons, List.filter_cons]
          by_cases c : x = k
          · rw [if_neg (by simp [e1, c]), if_neg (by simp [c])]
            exact ih m e2
          · rw [if_pos (by rw [e1]; exact decide_eq_true fun z => c (Sum.inr.inj z)), if_pos (decide_eq_true c), List.map_cons, List.map_cons, ih m e2, e1]
    exact this kvs ks h.keys
  val := fun x m => by
    obtain ⟨m1, m2⟩ := List.mem_filter.mp m
    rw [val_drop (fun z => (of_decide_eq_true m2) (Sum.inr.inj z))]
    exact h.val x m1
  ok := fun x m => h.ok x (List.mem_filter.mp m).1
  few := Nat.lt_of_le_of_lt (List.length_filter_le _ _) h.few
  nd := h.nd.sublist List.filter_sublist
theorem DSh.own {kvs : List (Key × V)} {ks : List Str} {f : Str → Int} (h : DSh kvs ks f) : ∀ x ∈ kvs, ∃ u, valV kvs x.1 = some u ∧ x.2 = u ∧ flatB x.2 = true := fun x m => by
  have nd : (kvs.map (·.1)).Nodup := by
    rw [h.keys, List.nodup_iff_pairwise_ne, List.pairwise_map]
    exact (List.nodup_iff_pairwise_ne.mp h.nd).imp fun ne z => ne (Sum.inr.inj z)
  have e := val_of_in nd m
  have mk : x.1 ∈ ks.map Sum.inr := by rw [← h.keys]; exact List.mem_map.mpr ⟨x, m, rfl⟩
  obtain ⟨k, mk, ek⟩ := List.mem_map.mp mk
  have e2 := h.val k mk
  rw [ek] at e2
  refine ⟨x.2, e, rfl, ?_⟩
  rw [Option.some.inj (e.symm.trans e2)]
  rfl
theorem dsh_of {kvs : List (Key × V)} {hs : List Str} {R : Str → Int → Prop} (ek : kvs.map (·.1) = hs.map Sum.inr) (nd : hs.Nodup) (ok : ∀ h ∈ hs, PyData.strOk h = true) (l6 : hs.length ≤ 6) (hv : ∀ kv ∈ kvs, ∃ h n, kv = (Sum.inr h, V.int n) ∧ R h n) :
    mergeK [] kvs = kvs ∧ DSh kvs hs (basOf kvs) ∧ ∀ h ∈ hs, R h (basOf kvs h) := by
  have ndk : (kvs.map (·.1)).Nodup := by
    rw [ek, List.nodup_iff_pairwise_ne, List.pairwise_map]
    exact (List.nodup_iff_pairwise_ne.mp nd).imp fun ne z => ne (Sum.inr.inj z)
  have key : ∀ h ∈ hs, ∃ n, valV kvs (Sum.inr h) = some (.int n) ∧ R h n := fun h m => by
    have mk : (Sum.inr h : Key) ∈ kvs.map (·.1) := by rw [ek]; exact List.mem_map.mpr ⟨h, m, rfl⟩
    obtain ⟨kv, mkv, e⟩ := List.mem_map.mp mk
    obtain ⟨h', n, rfl, hr⟩ := hv kv mkv
    obtain rfl : h' = h := Sum.inr.inj e
    exact ⟨n, val_of_in ndk mkv, hr⟩
  refine ⟨(merge_new ndk fun x _ => rfl).trans (List.nil_append _), ⟨ek, fun h m => ?_, ok, by omega, nd⟩, fun h m => ?_⟩
  · obtain ⟨n, e, _⟩ := key h m
    unfold basOf
    rw [e]
  · obtain ⟨n, e, hr⟩ := key h m
    unfold basOf
    rw [e]
    exact hr
/-! [(house, ..) for house in town[0]] -/
theorem lc_pairs {p c ta D : Addr} {hs : List Str} {σ : L2.St} {i : Nat} {te : TE} {H0 : Hp} {Qd : Hp → Prop} (R : Str → Int → Prop) (hta : H0 ta = some (.tup (hs.map V.str))) (l6 : hs.length ≤ 6) (P0 : Pen H0 p c) (nD : H0 D = none)
    (hte : ∀ h G (Ke : V → Hp → Prop), h ∈ hs → Stp p c H0 G → (∀ (n : Int) (b : Addr) (G' : Hp), Stp p c G G' → G b = none → G' b = some (.tup [.str h, .int n]) → R h n → Ke (.ref b) G') → te ((wipe σ [i]).set i (some (.str h))) G Ke)
    (hq : ∀ (us : List Addr) (kvs : List (Key × V)) (G : Hp), Stp p c H0 G → G D = some (.lst (us.map V.ref)) → Pkv G us kvs → kvs.map (·.1) = hs.map Sum.inr → (∀ kv ∈ kvs, ∃ h n, kv = (Sum.inr h, V.int n) ∧ R h n) → Qd G) :
    ∃ W : Nat → Nat → Hp → Prop, (∃ m, W 0 m (upd H0 D (.lst []))) ∧ ∀ k m H, W k m H →
      ((Itt K ta).stop k H ∧ Qd H) ∨ ((Itt K ta).go k H ∧ ∃ Nx : Hp → Prop, (∀ H', Nx H' → ∃ m', m' < m ∧ W (k + 1) m' H') ∧ ∀ x H', (Itt K ta).yld k H x H' → gName i x (wipe σ [i]) H' fun σ2 H2 => wipe σ2 [i] = wipe σ [i] ∧ tYes σ2 H2 fun b H3 =>
        if b = true then te σ2 H3 fun y H4 => ∃ acc, H4 D = some (.lst acc) ∧ acc.length < sizeLine ∧ Nx (upd H4 D (.lst (acc ++ [y]))) else Nx H3) := by
  have nDp : D ≠ p := fun e => P0.neP nD e.symm
  refine lc_it (walk_tup (K := K) (a := ta) (xs := hs.map V.str)) (g := gName i) (fun i H' => Stp p c H0 H' ∧ ∃ (us : List Addr) (kvs : List (Key × V)), H' D = some (.lst (us.map V.ref)) ∧ Pkv H' us kvs ∧ kvs.map (·.1) = (hs.take i).map Sum.inr ∧ ∀ kv ∈ kvs, ∃ h n, kv = (Sum.inr h, V.int n) ∧ R h n)
    ⟨(Stp.refl P0).new P0 nD, [], [], upd_same, .nil, by rw [List.take_zero]; rfl, fun _ m => nomatch m⟩ (fun i H' _ h => SqT.of (h.1.tup P0 hta)) ?_ ?_
  · rintro k v G1 G2 hi ⟨g1, us, kvs, hD, pk, ek, hb⟩ ⟨rfl, ev⟩
    rw [List.length_map] at hi
    have eh : hs[k]? = some hs[k] := List.getElem?_eq_getElem hi
    generalize hs[k] = h at eh
    rw [List.getElem?_map, eh] at ev
    obtain rfl : V.str h = v := Option.some.inj ev
    refine ⟨wipe_one σ i _, yes_if (hte h G2 _ (List.mem_of_getElem? eh) g1 fun n b G3 g3 nb hb3 hr => ?_)⟩
    have g13 := g1.trans g3
    have hD3 := g3.2 D _ nDp hD
    have l1 := pk.len
    have l2 : kvs.length ≤ 6 := by
      have := congrArg List.length ek
      rw [List.length_map, List.length_map, List.length_take] at this
      omega
    refine ⟨_, hD3, small_line (by rw [List.length_map]; omega), g13.mut P0 nD, us ++ [b], kvs ++ [(.inr h, .int n)], by rw [upd_same, List.map_append]; rfl, ?_, ?_, fun kv m => ?_⟩
    · refine (pk.go fun c ys e => ?_).snoc ?_
      · have e3 := g3.tup g1.1 e
        rw [upd_ne (ne_of e3 hD3 (fun z => nomatch z))]
        exact e3
      · rw [upd_ne (ne_of hb3 hD3 (fun z => nomatch z))]
        exact hb3
    · rw [List.map_append, ek, take_snoc eh, List.map_append]
      rfl
    · rcases List.mem_append.mp m with m | m
      · exact hb kv m
      · rw [List.mem_singleton.mp m]
        exact ⟨h, n, rfl, hr⟩
  · rintro G ⟨g, us, kvs, hD, pk, ek, hb⟩
    rw [List.length_map, List.take_length] at ek
    exact hq us kvs G g hD pk ek hb
/-! ### bases of a town's houses, with the keys of the dict -/
def sp_bases2 : Sp := fun vs H Q _ => ∃ (p c t : Addr) (hs gs : List Str) (many : Int), vs = [.ref p, .ref t, .int many] ∧ Pen H p c ∧ TownAt H t hs gs ∧ hs.length ≤ 6 ∧ hs.Nodup ∧ (∀ h ∈ hs, PyData.strOk h = true) ∧ 0 < many ∧ many ≤ 1000 ∧
  ∀ (d : Addr) (bs : Str → Int) (kvs : List (Key × V)) (H' : Hp), Stp p c H H' → H d = none → H' d = some (.dK kvs) → DSh kvs hs bs → (∀ h ∈ hs, BasI (bs h)) → (∃ b0 : Int, ∀ h ∈ hs, b0 ≤ bs h ∧ bs h < b0 + many) → Q (.ref d) H'
theorem ok_l_bases2 (T : Txt K mg af fd) : FnOk P w K mg base CX0 3 (af 48) (fd 48) ["pen", "town", "many"] sp_bases2 := by
  refine T.F_l_bases.ok sc_l_bases (fun vs H Q E h => ?_) (fun cdv A outer s H vs Q E hr h => ?_)
  · obtain ⟨p, c, t, hs, gs, many, rfl, _⟩ := h
    rfl
  · obtain ⟨p, c, t, hs, gs, many, rfl, hP, ht, l6, hnd, hok, m0, m1, q⟩ := h
    refine ⟨_, (pss_cons (ps_set (i := 3) sc_l_bases.nd rfl (by first | exact Or.inl rfl | exact Or.inr rfl) (pe_ix ix_list (pe_lst (pa_cons pe_int (pa_cons (pe_un un_neg pe_int) (pa_cons (pe_op op_sub (pe_op op_pow pe_int pe_int) pe_int) (pa_cons (pe_op op_sub pe_int (pe_op op_pow pe_int pe_int)) pa_nil))))) (pe_call (ok_l_take T) (hr.mono (by first | decide | omega)) (by rfl) T.g_l_take T.F_l_take.kp T.b_l_take .nil pass0 (pa_cons (pv 0) (pa_cons pe_int pa_nil))) (fun _ _ => rfl)))
        (pss_one (ps_ret (pe_callTy (call_dictP rfl) (by rfl) T.m_dict (by decide +kernel) (pa_cons (pe_lc (own := [("house", 4)]) (g := gName 4) (by rfl) sc_l_bases.nd (pi_tup (pe_ix ix_tup (pv 1) pe_int (fun _ _ => rfl))) (blkOk_by (own := [("house", 4)]) (N := ["pen", "town", "many", "base", "house"]) (sc := defScope s_l_bases) (by decide +kernel)) (fun _ _ _ _ _ => pg_name (i := 4) sc_l_bases.nd rfl (Or.inl rfl)) (fun _ _ _ _ _ => pts_nil) (fun _ _ _ _ _ => (pe_tup (pa_cons (pv 4) (pa_cons (pe_op op_add (pv 3) (pe_call (ok_l_take T) (hr.mono (by first | decide | omega)) (by rfl) T.g_l_take T.F_l_take.kp T.b_l_take .nil pass0 (pa_cons (pv 0) (pa_cons (pv 2) pa_nil)))) pa_nil))))) pa_nil))))), ?_⟩
    have e12 : (10 : Int) ^ (12 : Int).toNat = 1000000000000 := by decide
    refine ⟨_, rfl, _, _, rfl, rfl, ⟨by decide, by decide, by decide⟩, _, _, rfl, rfl, _, _, rfl, rfl, ⟨by decide, by decide, by decide⟩, _, _, rfl, rfl, (by show 4 ≤ sizeLine; decide), fun l nl => ?_⟩
    rw [e12]
    have s1 := (Stp.refl hP).new (o := .lst [.int 0, .int (-7), .int (1000000000000 - 5000), .int (0 - 1000000000000)]) hP nl
    have nlp : l ≠ p := fun e => hP.neP nl e.symm
    refine ⟨_, rfl, p, c, 4, rfl, s1.1, by decide, by decide, fun z H2 z0 z1 s2 => ?_⟩
    have hl2 := s2.2 l _ nlp upd_same
    obtain ⟨b0, eb, b1, b2⟩ : ∃ b0 : Int, atI [V.int 0, .int (-7), .int (1000000000000 - 5000), .int (0 - 1000000000000)] z = some (.int b0) ∧ -1000000000000 ≤ b0 ∧ b0 ≤ 1000000000000 - 5000 := by
      have hz : z = 0 ∨ z = 1 ∨ z = 2 ∨ z = 3 := by omega
      rcases hz with rfl | rfl | rfl | rfl <;> exact ⟨_, rfl, by decide, by decide⟩
    refine ⟨l, _, z, _, rfl, rfl, SqL.of hl2, eb, ?_⟩
    have s12 := s1.trans s2
    obtain ⟨ta, tb, t1, t2, t3⟩ := s12.town hP ht
    refine ⟨_, rfl, t, _, 0, _, rfl, rfl, SqT.of t1, rfl, ta, rfl, ⟨_, SqT.of t2⟩, fun D nD => ?_⟩
    refine lc_pairs (fun _ n => BasI n ∧ b0 ≤ n ∧ n < b0 + many) t2 l6 s2.1 nD (fun h G Ke mh g hk => ?_) (fun us kvs G g hD pk ek hv => ?_)
    · refine ⟨_, rfl, _, rfl, _, rfl, _, rfl, p, c, many, rfl, g.1, m0, Nat.lt_of_le_of_lt (show many.natAbs ≤ 1000 by omega) (by decide), fun r G3 r0 r1 g3 => ⟨_, _, rfl, rfl, (by show 2 ≤ sizeLine; decide), fun b nb => ?_⟩⟩
      exact hk (b0 + r) b _ (g3.new g.1 nb) (g3.back g.1 nb) upd_same ⟨by unfold BasI; omega, by omega, by omega⟩
    · refine ⟨D, us, kvs, rfl, SqL.of hD, pk.pair, fun d nd => ?_⟩
      have sG := s12.trans g
      obtain ⟨em, D0, hR⟩ := dsh_of ek hnd hok l6 hv
      rw [em]
      exact q d (basOf kvs) _ _ (sG.new hP nd) (sG.back hP nd) upd_same D0 (fun h mh => (hR h mh).1) ⟨b0, fun h mh => (hR h mh).2⟩
theorem lock_any {H : Hp} {d : Addr} {od : Obj} {u : HO} : (∀ b o, b ≠ d → H b = some o → (upd H d (.frz od u)) b = some o) ∧ (upd H d (.frz od u)) d = some (.frz od u) ∧ ∀ b, (upd H d (.frz od u)) b = none → b ≠ d → H b = none :=
  ⟨fun b o nb e => by rw [upd_ne nb]; exact e, upd_same, fun b e nb => by rw [upd_ne nb] at e; exact e⟩
/-! ### the book of a world, some rows turned, what clashes left out -/
def bMax (bs : Str → Int) (h : Str) : Int := max (-1000000000000 + 40) (bs h)
theorem wrow_in {hs : List Str} {js : List WJ} {as : List WA} {bs : Str → Int} (w : WOk hs js as) (hb : ∀ h ∈ hs, BasI (bs h)) {r : Row} (m : r ∈ wRows hs js as (bMax bs)) : InT 40 r := by
  have jb : ∀ {i : Nat} {j : WJ}, js[i]? = some j → j.h ∈ hs ∧ 0 ≤ j.b ∧ j.b ≤ j.e ∧ j.e ≤ 400 := fun e => w.jb _ (List.mem_of_getElem? e)
  cases wrow_of w m with
  | job i j e =>
    obtain ⟨h1, h2, h3, h4⟩ := jb e
    have b := hb j.h h1
    unfold BasI at b
    refine ⟨?_, ?_⟩ <;> (unfold bMax; omega)
  | ask i x j e ej =>
    obtain ⟨h1, h2, h3, h4⟩ := jb ej
    have a := w.ab x (List.mem_of_getElem? e)
    obtain ⟨j', ej', g1, g2, g3⟩ := a.par
    rw [Nat.sub_zero] at ej'
    obtain rfl := Option.some.inj (ej.symm.trans ej')
    have b := hb j.h h1
    unfold BasI at b
    refine ⟨?_, ?_⟩ <;> (unfold bMax; omega)
  | all h mh => exact trivial
theorem bMax_bas {hs : List Str} {bs : Str → Int} (hb : ∀ h ∈ hs, BasI (bs h)) : ∀ h ∈ hs, BasI (bMax bs h) := fun h m => by
  have b := hb h m
  unfold BasI at b ⊢
  unfold bMax
  omega
theorem Rws.set {H : Hp} {xs : List V} {rs : List Row} {a : Addr} {r : Row} {n : Nat} (h : Rws H xs rs) (hn : n < rs.length) (ha : RowAt H a r) : Rws H (xs.set n (.ref a)) (rs.set n r) := by
  refine ⟨by rw [List.length_set, List.length_set]; exact h.1, fun i t e => ?_⟩
  by_cases c : i = n
  · subst c
    rw [List.getElem?_set_self hn] at e
    obtain rfl := Option.some.inj e
    exact ⟨a, by rw [List.getElem?_set_self (by rw [h.1]; exact hn)], ha⟩
  · rw [List.getElem?_set_ne (fun z => c z.symm)] at e
    rw [List.getElem?_set_ne (fun z => c z.symm)]
    exact h.2 i t e
structure B20 (p c : Addr) (H0 H : Hp) (b w l : Addr) (hs : List Str) (most : Int) (xs : List V) (rws : List Row) : Prop where
  tup : H b = some (.tup [.ref w, .ref l])
  world : ∃ (lj la : Addr) (rs qs : List Addr) (js : List WJ) (as : List WA), WorldAt H w lj la rs qs js as most ∧ Apart p c lj la rs qs ∧ WOk hs js as ∧ (js.length : Int) ≤ most ∧ H0 w = none
  lst : H l = some (.lst xs)
  new : H0 l = none
  rows : Rws H xs rws
  book : Book hs rws
  len : (rws.length : Int) ≤ 2 * most + 8
def sp_book20 : Sp := fun vs H Q _ => ∃ (p c t : Addr) (hs gs : List Str) (n : Nat) (tops most lost bent : Int), vs = [.ref p, .ref t, .int tops, .int 3, .int most, .int lost, .int bent] ∧ Pen H p c ∧ TownAt H t hs gs ∧ Good hs gs n ∧ n ≤ 6 ∧ 0 < tops ∧ tops ≤ 10 ∧ 0 ≤ most ∧ most ≤ 40 ∧ 0 ≤ lost ∧ lost ≤ 100 ∧ 0 ≤ bent ∧ bent ≤ 4 ∧
  ∀ (b w l : Addr) (xs : List V) (rws : List Row) (H' : Hp), Stp p c H H' → B20 p c H H' b w l hs most xs rws → Q (.ref b) H'
set_option maxHeartbeats 16000000 in
theorem ok_l_book (T : Txt K mg af fd) : FnOk P w K mg base CX0 9 (af 54) (fd 54) ["pen", "town", "tops", "deep", "most", "lost", "bent"] sp_book20 := by
  refine T.F_l_book.ok sc_l_book (fun vs H Q E h => ?_) (fun cdv A outer s H vs Q E hr h => ?_)
  · obtain ⟨p, c, t, hs, gs, n, tops, most, lost, bent, rfl, _⟩ := h
    rfl
  · obtain ⟨p, c, t, hs, gs, n, tops, most, lost, bent, rfl, hP, ht, hg, hn6, to0, to1, mo0, mo1, lo0, lo1, be0, be1, q⟩ := h
    refine ⟨_, (pss_cons (ps_set (i := 7) sc_l_book.nd rfl (by first | exact Or.inl rfl | exact Or.inr rfl) (pe_call (ok_l_world T) (hr.mono (by first | decide | omega)) (by rfl) T.g_l_world T.F_l_world.kp T.b_l_world .nil pass0 (pa_cons (pv 0) (pa_cons (pv 1) (pa_cons (pv 2) (pa_cons (pv 3) (pa_cons (pv 4) (pa_cons (pe_ix ix_list (pe_lst (pa_cons pe_int (pa_cons pe_int (pa_cons pe_int pa_nil)))) (pe_call (ok_l_take T) (hr.mono (by first | decide | omega)) (by rfl) T.g_l_take T.F_l_take.kp T.b_l_take .nil pass0 (pa_cons (pv 0) (pa_cons pe_int pa_nil))) (fun _ _ => rfl)) pa_nil))))))))
        (pss_cons (ps_set (i := 8) sc_l_book.nd rfl (by first | exact Or.inl rfl | exact Or.inr rfl) (pe_call (ok_l_bases2 T) (hr.mono (by first | decide | omega)) (by rfl) T.g_l_bases T.F_l_bases.kp T.b_l_bases .nil pass0 (pa_cons (pv 0) (pa_cons (pv 1) (pa_cons pe_int pa_nil)))))
        (pss_cons (ps_set (i := 8) sc_l_book.nd rfl (by first | exact Or.inl rfl | exact Or.inr rfl) (pe_callTy (call_dictP rfl) (by rfl) T.m_dict (by decide +kernel) (pa_cons (pe_lock (pe_lc (own := [("house", 9)]) (g := gName 9) (by rfl) sc_l_book.nd (pi_keys (pv 8)) (blkOk_by (own := [("house", 9)]) (N := ["pen", "town", "tops", "deep", "most", "lost", "bent", "world", "base", "house", "rows", "left", "turn", "at"]) (sc := defScope s_l_book) (by decide +kernel)) (fun _ _ _ _ _ => pg_name (i := 9) sc_l_book.nd rfl (Or.inl rfl)) (fun _ _ _ _ _ => pts_nil) (fun _ _ _ _ _ => (pe_tup (pa_cons (pv 9) (pa_cons (pe_callB (call_max2 rfl) (by rfl) T.m_max (by decide +kernel) (pa_cons (pe_op op_add (pe_op op_sub pe_int (pe_op op_pow pe_int pe_int)) pe_int) (pa_cons (pe_dget (hu_of hr) (pv 8) (pv 9) (fun _ _ => rfl)) pa_nil))) pa_nil)))))) pa_nil)))
        (pss_cons (ps_set (i := 10) sc_l_book.nd rfl (by first | exact Or.inl rfl | exact Or.inr rfl) (pe_call (ok_l_all_rows T) (hr.mono (by first | decide | omega)) (by rfl) T.g_l_all_rows T.F_l_all_rows.kp T.b_l_all_rows .nil pass0 (pa_cons (pv 1) (pa_cons (pv 7) (pa_cons (pv 8) pa_nil)))))
        (pss_cons (ps_set (i := 11) sc_l_book.nd rfl (by first | exact Or.inl rfl | exact Or.inr rfl) (pe_call (ok_l_left T) (hr.mono (by first | decide | omega)) (by rfl) T.g_l_left T.F_l_left.kp T.b_l_left .nil pass0 (pa_cons (pv 0) (pa_cons (pv 10) (pa_cons (pv 5) pa_nil)))))
        (pss_cons (ps_for PassesOwn.never rfl (pi_range1 (by rfl) T.m_range (pa_cons (pe_op op_mul (pe_call (ok_l_take T) (hr.mono (by first | decide | omega)) (by rfl) T.g_l_take T.F_l_take.kp T.b_l_take .nil pass0 (pa_cons (pv 0) (pa_cons (pe_op op_add (pv 6) pe_int) pa_nil))) (pe_callTy call_int1 (by rfl) T.m_int (by decide +kernel) (pa_cons (pe_cmpR (op_neD hr.units) (pv 11) (pe_lst pa_nil) (nomark _)) pa_nil))) pa_nil)) (pg_name (i := 12) sc_l_book.nd rfl (by first | exact Or.inl rfl | exact Or.inr rfl)) (pss_cons (ps_set (i := 13) sc_l_book.nd rfl (by first | exact Or.inl rfl | exact Or.inr rfl) (pe_call (ok_l_take T) (hr.mono (by first | decide | omega)) (by rfl) T.g_l_take T.F_l_take.kp T.b_l_take .nil pass0 (pa_cons (pv 0) (pa_cons (pe_callB call_len_seq (by rfl) T.m_len (by decide +kernel) (pa_cons (pv 11) pa_nil)) pa_nil))))
        (pss_one (ps_asg (pe_call (ok_l_bent_row T) (hr.mono (by first | decide | omega)) (by rfl) T.g_l_bent_row T.F_l_bent_row.kp T.b_l_bent_row .nil pass0 (pa_cons (pv 0) (pa_cons (pv 1) (pa_cons (pe_ix ix_list (pv 11) (pv 13) (fun _ _ => rfl)) pa_nil)))) (pg_sub (pv 11) (pv 13) set_list)))))
        (pss_one (ps_ret (pe_tup (pa_cons (pv 7) (pa_cons (pe_call (ok_l_fair T) (hr.mono (by first | decide | omega)) (by rfl) T.g_l_fair T.F_l_fair.kp T.b_l_fair .nil pass0 (pa_cons (pv 11) pa_nil)) pa_nil))))))))))), ?_⟩
    have l6 : hs.length ≤ 6 := Nat.le_trans hg.few hn6
    have hok : ∀ h ∈ hs, PyData.strOk h = true := fun h m => (hg.hou h m).ok
    refine ⟨_, rfl, _, rfl, _, rfl, _, rfl, _, rfl, (by show 3 ≤ sizeLine; decide), fun l0 nl0 => ?_⟩
    have st0 := (Stp.refl hP).new (o := .lst [.int 0, .int 0, .int 3]) hP nl0
    have nlp : l0 ≠ p := fun e => hP.neP nl0 e.symm
    refine ⟨_, rfl, p, c, 3, rfl, st0.1, by decide, by decide, fun z H1 z0 z1 s1 => ?_⟩
    obtain ⟨sy, ey⟩ : ∃ sy : Int, atI [V.int 0, .int 0, .int 3] z = some (.int sy) := by
      have hz : z = 0 ∨ z = 1 ∨ z = 2 := by omega
      rcases hz with rfl | rfl | rfl <;> exact ⟨_, rfl⟩
    refine ⟨l0, _, z, _, rfl, rfl, SqL.of (s1.2 l0 _ nlp upd_same), ey, ?_⟩
    have s01 := st0.trans s1
    have ht1 := s01.town hP ht
    refine ⟨p, c, t, hs, gs, tops, most, sy, rfl, s1.1, ht1, hg.one, l6, hg.sub, hg.hou, to0, to1, mo0, by omega, fun w lj la rs qs js as H2 s2 nw W ap wok lm => ?_⟩
    have nw0 : H w = none := s01.back hP nw
    have ht2 := s2.town s1.1 ht1
    have lena : as.length ≤ js.length := wok.len
    refine ⟨_, rfl, _, rfl, p, c, t, hs, gs, 1, rfl, s2.1, ht2, l6, hg.nd, hok, by decide, by decide, fun d bs kB H3 s3 nd hd D0 hb _ => ?_⟩
    have s02 := s01.trans s2
    have s03 := s02.trans s3
    -- the bases once more
    refine ⟨d, _, hd, trivial, fun od => ?_⟩
    obtain ⟨y0, y1, y2⟩ := lock_any (od := od) (u := .dK kB) (H := H3) (d := d)
    generalize upd H3 d (.frz od (.dK kB)) = Z at y0 y1 y2 ⊢
    refine ⟨_, rfl, d, od, rfl, .inl ⟨kB, y1, fun D nD => ?_⟩⟩
    have lB : kB.length ≤ 6 := by
      have := congrArg List.length D0.keys
      rw [List.length_map, List.length_map] at this
      omega
    have e12 : (10 : Int) ^ (12 : Int).toNat = 1000000000000 := by decide
    refine lc_it (walk_keys (d := d) (o := od) (kvs := kB)) (fun i G => Same Z G ∧ ∃ (us : List Addr) (kvs : List (Key × V)), G D = some (.lst (us.map V.ref)) ∧ Pkv G us kvs ∧ kvs.map (·.1) = (kB.take i).map (·.1) ∧ ∀ kv ∈ kvs, ∃ h n, kv = (Sum.inr h, V.int n) ∧ n = bMax bs h)
      ⟨same_upd nD, [], [], by rw [upd_same]; rfl, .nil, by rw [List.take_zero], fun _ m => nomatch m⟩ (fun i G _ h => h.1 _ _ y1) ?_ ?_
    · rintro i v G1 G2 hi ⟨g, us, kvs, hD, pk, ek, hv⟩ ⟨rfl, k, u, eki, rfl⟩
      have mk : (k, u) ∈ kB := List.mem_of_getElem? eki
      have mk2 : k ∈ hs.map Sum.inr := by rw [← D0.keys]; exact List.mem_map.mpr ⟨_, mk, rfl⟩
      obtain ⟨h, mh, rfl⟩ := List.mem_map.mp mk2
      have gd : DGet G2 d (.str h) (some (.int (bs h))) := by
        rw [← D0.val h mh]
        exact .inl ⟨kB, Sum.inr h, .inr ⟨od, g _ _ y1⟩, rfl, rfl⟩
      refine ⟨rfl, yes_if ⟨_, rfl, _, _, rfl, rfl, ⟨by decide, by decide, by decide⟩, _, _, rfl, rfl, _, _, rfl, rfl, _, rfl, _, rfl, d, _, rfl, gd, _, _, rfl, ?_⟩⟩
      rw [e12, max_b]
      refine ⟨(by show 2 ≤ sizeLine; decide), fun b nb => ?_⟩
      have l1 := pk.len
      have l2 : kvs.length ≤ 6 := by
        have := congrArg List.length ek
        rw [List.length_map, List.length_map, List.length_take] at this
        omega
      have u1 := same_upd (o := .tup [kV (Sum.inr h), .int (max (0 - 1000000000000 + 40) (bs h))]) nb
      have hD1 := u1 _ _ hD
      have hb1 : (upd G2 b (.tup [kV (Sum.inr h), .int (max (0 - 1000000000000 + 40) (bs h))])) b = some (.tup [kV (Sum.inr h), .int (max (0 - 1000000000000 + 40) (bs h))]) := upd_same
      generalize upd G2 b (.tup [kV (Sum.inr h), .int (max (0 - 1000000000000 + 40) (bs h))]) = G3 at u1 hD1 hb1 ⊢
      refine ⟨_, hD1, small_line (by rw [List.length_map]; omega), same_mut (g.trans u1) nD, us ++ [b], kvs ++ [(Sum.inr h, .int (max (0 - 1000000000000 + 40) (bs h)))], by rw [upd_same, List.map_append]; rfl, ?_, ?_, fun kv m => ?_⟩
      · refine ((pk.go fun c ys e => u1 _ _ e).snoc hb1).go fun c ys e => ?_
        rw [upd_ne (ne_of e hD1 (fun z => nomatch z))]
        exact e
      · rw [List.map_append, ek, take_snoc eki, List.map_append]
        rfl
      · rcases List.mem_append.mp m with m | m
        · exact hv kv m
        · rw [List.mem_singleton.mp m]
          exact ⟨h, _, rfl, rfl⟩
    rintro G1 ⟨g, us, kvs, hD, pk, ek, hv⟩
    rw [List.take_length, D0.keys] at ek
    have hXG := g _ _ y1
    refine ⟨hXG, ?_⟩
    have ndD : D ≠ d := fun z => by rw [z, y1] at nD; cases nD
    have s4 : Same H3 (upd G1 d (.dK kB)) := fun b o e => by
      by_cases hb : b = d
      · subst hb
        rw [upd_same, ← hd]
        exact e
      · rw [upd_ne hb]
        exact g _ _ (y0 _ _ hb e)
    have hD2 : (upd G1 d (.dK kB)) D = some (.lst (us.map V.ref)) := by rw [upd_ne ndD]; exact hD
    have pk2 : Pkv (upd G1 d (.dK kB)) us kvs := pk.go fun b ys e => by rw [upd_ne (ne_of e hXG (fun z => nomatch z))]; exact e
    generalize upd G1 d (.dK kB) = H4 at s4 hD2 pk2 ⊢
    refine ⟨D, us, kvs, rfl, SqL.of hD2, pk2.pair, fun d2 nd2 => ?_⟩
    obtain ⟨em, D1, hR⟩ := dsh_of (R := fun h n => n = bMax bs h) ek hg.nd hok l6 hv
    rw [em]
    have s5 : Same H4 (upd H4 d2 (.dK kvs)) := same_upd nd2
    have hd2 : (upd H4 d2 (.dK kvs)) d2 = some (.dK kvs) := upd_same
    generalize upd H4 d2 (.dK kvs) = H5 at s5 hd2 ⊢
    have s35 := s4.trans s5
    have s05 := s03.sm s35
    have s25 : Stp p c H2 H5 := s3.sm s35
    have bd2 : BasD hs (bMax bs) kvs := fun h m => ⟨by rw [D1.val h m, hR h m], bMax_bas hb h m⟩
    have ht5 := s25.town s2.1 ht2
    have W5 := W.stp s2.1 s25 ap
    refine ⟨_, rfl, _, rfl, _, rfl, t, w, d2, lj, la, hs, gs, rs, qs, js, as, most, bMax bs, kvs, rfl, ht5, W5, wok, by omega, l6, hd2, bd2, fun l us8 H8 s8 nl hl hrw => ?_⟩
    have BW := world_book (bs := bMax bs) wok (bMax_bas hb) hok
    have lw : ((wRows hs js as (bMax bs)).length : Int) ≤ 2 * most + 6 := by
      unfold wRows
      rw [List.length_append, List.length_append, List.length_map, List.length_range, List.length_map, List.length_range, List.length_map]
      omega
    have th : ∀ r ∈ wRows hs js as (bMax bs), Th 3 3000 (rowD r) := fun r m => (th_tup (row_th hg.hou (BW.wf r m) (BW.inn r m)) (row_len7 r).2).mono (by decide) (by decide)
    have P5 := s05.1
    have P8 := P5.sm s8
    have nlp8 : l ≠ p := fun e => P5.neP nl e.symm
    refine ⟨_, rfl, _, rfl, _, rfl, p, c, l, lost, us8, (wRows hs js as (bMax bs)).map rowD, rfl, P8, nlp8, hl, dqs_rows hrw, (fun x m => ?_), (fun x m => ?_), lo0, lo1, (by rw [List.length_map]; omega), fun l2 ys es H9 s9 nl2 hl2 dq9 sub9 len9 => ?_⟩
    · obtain ⟨r, mr, rfl⟩ := List.mem_map.mp m
      exact th r mr
    · obtain ⟨r, mr, rfl⟩ := List.mem_map.mp m
      exact ⟨r, rfl, BW.wf r mr⟩
    obtain ⟨rws, rfl, hsub⟩ := rows_of (P := fun r => r ∈ wRows hs js as (bMax bs)) (ds := es) fun x m => by
      obtain ⟨r, mr, rfl⟩ := List.mem_map.mp (sub9 x m)
      exact ⟨r, rfl, mr⟩
    rw [List.length_map, List.length_map] at len9
    have st58 : Stp p c H5 H8 := ⟨P8, fun b o _ e => s8 b o e⟩
    have st59 := st58.trans s9
    have nl20 : H5 l2 = none := s8.free nl2
    have nl2p : l2 ≠ p := fun e => P5.neP nl20 e.symm
    have rw9 : Rws H9 ys rws := rws_of dq9
    have in9 : ∀ r ∈ rws, r.Wf ∧ r.In hs ∧ InT 40 r := fun r m => ⟨BW.wf r (hsub r m), BW.inn r (hsub r m), wrow_in wok hb (hsub r m)⟩
    -- some are turned
    refine ⟨_, rfl, _, rfl, _, _, rfl, rfl, p, c, bent + 1, rfl, s9.1, by omega, Nat.lt_of_le_of_lt (show (bent + 1).natAbs ≤ 5 by omega) (by decide), fun m H10 m0 m1 s10 => ?_⟩
    refine ⟨_, rfl, Nat.zero_le _, fun b nb => ?_⟩
    have s11 := (Stp.refl s10.1).new (o := .lst []) s10.1 nb
    have hb7 : (upd H10 b (.lst [])) b = some (.lst []) := upd_same
    generalize upd H10 b (.lst []) = H11 at s11 hb7 ⊢
    have s911 := s10.trans s11
    have hl11 := s911.2 l2 _ nl2p hl2
    have rw11 : Rws H11 ys rws := rw9.go fun _ _ e => s911.tup s9.1 e
    have shp : SeqAt.shaped (.list (rws.map rowD)) = true := ths_lst (fun x m => by obtain ⟨r, mr, rfl⟩ := List.mem_map.mp m; exact th r (hsub r mr)) (by rw [List.length_map]; omega)
    refine ⟨.list (rws.map rowD), .list [], Dp.lst (SqL.of hl11) (dqs_rows (Ex := fun _ => False) rw11).dp, Dp.lst (SqL.of hb7) .nil, shp, rfl, .inr ⟨_, rfl, _, _, rfl, rfl, .inl ⟨by omega, by omega⟩, ?_⟩⟩
    have st511 := st59.trans s911
    refine ⟨_, rfl, ?_, ?_, for_range (lo := 0) (n := (m * (if (!PyData.eqv (.list (rws.map rowD)) (.list [])) = true then 1 else 0)).toNat) (fun i σ G => (∃ v9 v12 v13 : Option V, σ = [some (.ref p), some (.ref t), some (.int tops), some (.int 3), some (.int most), some (.int lost), some (.int bent), some (.ref w), some (.ref d2), v9, some (.ref l), some (.ref l2), v12, v13]) ∧ Stp p c H5 G ∧ ∃ zs ts, G l2 = some (.lst zs) ∧ Rws G zs ts ∧ ts.length = rws.length ∧ ∀ r ∈ ts, r.Wf ∧ r.In hs ∧ InT (40 - 9 * (i : Nat)) r)
      ⟨⟨_, _, _, rfl⟩, st511, ys, rws, hl11, rw11, rfl, by rw [show (40 - 9 * ((0 : Nat) : Int)) = 40 by decide]; exact in9⟩ ?_ ?_⟩
    · split <;> omega
    · split <;> omega
    · rintro i σ G hi ⟨⟨v9, v12, v13, rfl⟩, sG, zs, ts, hlG, rwG, lG, inG⟩
      have him : i < 4 := by
        have : (m * (if (!PyData.eqv (.list (rws.map rowD)) (.list [])) = true then 1 else 0)).toNat ≤ 4 := by split <;> omega
        omega
      have hes : 0 < rws.length := by
        cases rws with
        | nil => exact absurd hi (by simp [PyData.eqv, PyData.eqvAll])
        | cons x y => exact Nat.succ_pos _
      refine ⟨_, rfl, _, rfl, l2, _, rfl, .inl (SqL.of hlG), p, c, _, rfl, sG.1, by have := rwG.1; omega, Nat.lt_of_le_of_lt (show _ ≤ 1000 by have := rwG.1; omega) (by decide), fun a1 G1 a10 a11 u1 => ?_⟩
      have hl1 := u1.2 l2 _ nl2p hlG
      have rw1 : Rws G1 zs ts := rwG.go fun _ _ e => u1.tup sG.1 e
      have hlt : a1.toNat < ts.length := by have := rwG.1; omega
      have et : ts[a1.toNat]? = some ts[a1.toNat] := List.getElem?_eq_getElem hlt
      generalize ts[a1.toNat] = r at et
      obtain ⟨a, ea, ha⟩ := rw1.2 _ r et
      obtain ⟨w1, w2, w3⟩ := inG r (List.mem_of_getElem? et)
      have sG1 := sG.trans u1
      refine ⟨_, rfl, _, rfl, _, rfl, _, rfl, l2, _, a1, _, rfl, rfl, SqL.of hl1, at_any (j := a1.toNat) (by omega) ea, p, c, t, a, hs, gs, r, 40 - 9 * (i : Nat), rfl, u1.1, sG1.town P5 ht5, hg.one, l6, hok, ha, w1, w2, w3, by omega, fun a' r' G2 u2 ha' x1 x2 x3 => ?_⟩
      have hl2' := u2.2 l2 _ nl2p hl1
      refine ⟨_, rfl, _, rfl, l2, zs, a1, a1.toNat, rfl, rfl, hl2', ?_, ⟨_, _, _, rfl⟩, (sG1.trans u2).mut P5 nl20, _, ts.set a1.toNat r', upd_same, ?_, by rw [List.length_set]; exact lG, fun x mx => ?_⟩
      · unfold ixN
        rw [if_pos a10, if_pos (by have := rwG.1; omega)]
      · refine ((rw1.go fun _ _ e => u2.tup u1.1 e).set hlt ha').go fun b xs e => ?_
        rw [upd_ne (ne_of e hl2' (fun z => nomatch z))]
        exact e
      · rcases List.mem_or_eq_of_mem_set mx with mx | rfl
        · obtain ⟨y1, y2, y3⟩ := inG x mx
          refine ⟨y1, y2, ?_⟩
          cases x with
          | ask => exact ⟨by have := y3.1; omega, by have := y3.2; omega⟩
          | job => exact ⟨by have := y3.1; omega, by have := y3.2; omega⟩
          | all => exact trivial
        · refine ⟨x1, x2, ?_⟩
          rw [show (40 - 9 * ((i + 1 : Nat) : Int)) = 40 - 9 * (i : Nat) - 9 by omega]
          exact x3
    · rintro σ G ⟨⟨v9, v12, v13, rfl⟩, sG, zs, ts, hlG, rwG, lG, inG⟩
      refine ⟨_, rfl, _, rfl, l2, zs, ts, rfl, hlG, rwG, by omega, (fun r m => (inG r m).1), fun mm us us2 G2 s2' nmm hmm rwm subm ncm lem => ?_⟩
      refine ⟨(by show 2 ≤ sizeLine; decide), fun bb nbb => ?_⟩
      have sf := s05.trans ((sG.sm s2').new (o := .tup [.ref w, .ref mm]) P5 nbb)
      have u9 := same_upd (o := .tup [.ref w, .ref mm]) nbb
      refine q bb w mm us us2 _ sf ⟨upd_same, ⟨lj, la, rs, qs, js, as, W5.stp P5 ((sG.sm s2').new P5 nbb) ap, ap, wok, lm, nw0⟩, u9 _ _ hmm, (s05.trans sG).back hP nmm, rwm.same u9, ⟨fun r m => (inG r (subm r m)).1, fun r m => (inG r (subm r m)).2.1, ncm⟩, by omega⟩
/-! ### what may have led to what, as the law looks at it -/
theorem w_lo : ("ask" : Str) ≠ "lost" := by decide +kernel
theorem w_lj : ("lost" : Str) ≠ "job" := by decide +kernel
theorem not_none {tp D : Addr} {xs : List V} {σ : L2.St} {i : Nat} {te : TE} {tt : TT} {H0 : Hp} {Qd : Hp → Prop} (hp : H0 tp = some (.tup xs)) (lx : xs.length ≤ 10) (hx : ∀ v ∈ xs, TimV v) (nD : H0 D = none)
    (htt : ∀ v H2 (Kt : Bool → Hp → Prop), Kt (!decide (v = .non)) H2 → tt ((wipe σ [i]).set i (some v)) H2 Kt)
    (hte : ∀ v H2 (Ke : V → Hp → Prop), Ke v H2 → te ((wipe σ [i]).set i (some v)) H2 Ke)
    (hq : ∀ (ns : List Int) (G : Hp), Same H0 G → G D = some (.lst (ns.map V.int)) → (∀ n : Int, n ∈ ns ↔ V.int n ∈ xs) → Qd G) :
    ∃ W : Nat → Nat → Hp → Prop, (∃ m, W 0 m (upd H0 D (.lst []))) ∧ ∀ k m H, W k m H →
      ((Itt K tp).stop k H ∧ Qd H) ∨ ((Itt K tp).go k H ∧ ∃ Nx : Hp → Prop, (∀ H', Nx H' → ∃ m', m' < m ∧ W (k + 1) m' H') ∧ ∀ x H', (Itt K tp).yld k H x H' → gName i x (wipe σ [i]) H' fun σ2 H2 => wipe σ2 [i] = wipe σ [i] ∧ tt σ2 H2 fun b H3 =>
        if b = true then te σ2 H3 fun y H4 => ∃ acc, H4 D = some (.lst acc) ∧ acc.length < sizeLine ∧ Nx (upd H4 D (.lst (acc ++ [y]))) else Nx H3) := by
  refine lc_it (walk_tup (K := K) (a := tp) (xs := xs)) (g := gName i) (fun k G => Same H0 G ∧ ∃ ns : List Int, G D = some (.lst (ns.map V.int)) ∧ ns.length ≤ k ∧ ∀ n : Int, n ∈ ns ↔ V.int n ∈ xs.take k)
    ⟨same_upd nD, [], upd_same, Nat.le_refl _, fun n => by rw [List.take_zero]; exact ⟨(fun z => nomatch z), fun z => nomatch z⟩⟩ (fun k G _ h => SqT.of (h.1 _ _ hp)) ?_ ?_
  · rintro k v G1 G2 hk ⟨g, ns, hD, ln, hn⟩ ⟨rfl, ev⟩
    refine ⟨wipe_one σ i _, htt v G2 _ ?_⟩
    rcases hx v (List.mem_of_getElem? ev) with rfl | ⟨n, rfl⟩
    · refine iteF ⟨g, ns, hD, by omega, fun m => ?_⟩
      rw [hn, take_snoc ev, List.mem_append]
      exact ⟨.inl, fun z => z.elim id fun z => by cases List.mem_singleton.mp z⟩
    · refine iteT (hte _ G2 _ ⟨_, hD, small_line (by rw [List.length_map]; omega), same_mut g nD, ns ++ [n], by rw [upd_same, List.map_append]; rfl, by rw [List.length_append]; show ns.length + 1 ≤ k + 1; omega, fun m => ?_⟩)
      rw [List.mem_append, hn, take_snoc ev, List.mem_append, List.mem_singleton, List.mem_singleton]
      exact ⟨fun z => z.imp id (congrArg V.int), fun z => z.imp id V.int.inj⟩
  · rintro G ⟨g, ns, hD, ln, hn⟩
    rw [List.take_length] at hn
    exact hq ns G g hD hn
theorem lo_hi {hs : List Str} {rs : List Row} {k : Gr.HK} {lo hi la : V} {x y : Int} (B : Book hs rs) (sp : SpJ rs k lo hi la) (e1 : lo = .int x) (e2 : hi = .int y) : x ≤ y := by
  subst e1 e2
  rcases sp.1 with ⟨_, z⟩ | ⟨m, ⟨r, ⟨⟨m1, m2⟩, m3⟩, m4, m5⟩, _, z⟩
  · cases z
  obtain rfl := V.int.inj z
  rcases sp.2.1 with ⟨_, z⟩ | ⟨m', n1, _, z⟩
  · cases z
  obtain rfl := V.int.inj z
  cases r with
  | ask => exact absurd m2 w_aj
  | all => exact absurd m2.symm w_ja
  | job h q o b =>
    rcases n1 with ⟨r, ⟨⟨t1, t2⟩, t3⟩, t4, t5⟩ | ⟨r, ⟨⟨t1, t2⟩, t3⟩, t4, t5⟩
    · cases r with
      | ask => exact absurd t2 w_aj
      | all => exact absurd t2.symm w_ja
      | job h' q' o' b' =>
        apply Classical.byContradiction
        intro c
        have e5 : o = _ := m5
        have f5 : o' = _ := t5
        have f4 : k.2 < q' := t4
        have e4 : q < k.2 := m4
        refine B.nc _ m1 _ t1 ⟨m3.trans t3.symm, ?_, .inr (.inl ⟨by omega, by omega⟩)⟩
        intro z
        injection z with _ z _ _
        omega
    · cases r with
      | job => exact absurd t2 w_ja'
      | all => exact absurd t2 w_la
      | ask h' g' q' n' o' b' =>
        apply Classical.byContradiction
        intro c
        have e5 : o = _ := m5
        have f5 : o' - 1 = _ := t5
        have f4 : k.2 ≤ n' := t4
        have e4 : q < k.2 := m4
        exact B.nc _ m1 _ t1 ⟨m3.trans t3.symm, .inl ⟨by omega, by omega⟩⟩
def sp_l_may : Sp := fun vs H Q _ => ∃ (d b c : Addr) (a j : Gr.HK) (t : Addr) (hs : List Str) (rs : List Row) (dA dJ dO tb : Addr) (kA kJ : List (List Key × V)) (kO : List (Key × V)), vs = [.ref d, .ref b, .ref c] ∧ There H d t hs rs dA dJ dO tb kA kJ kO ∧ Book hs rs ∧ H b = some (.tup ((Gr.keyOf a).map kV)) ∧ H c = some (.tup ((Gr.keyOf j).map kV)) ∧
  a ∈ below hs (cnA rs) ∧ j ∈ below hs (cnJ rs) ∧ ∀ H', Same H H' → Q (.bl (mayB rs a j)) H'
theorem ok_l_may (T : Txt K mg af fd) : FnOk P w K mg base CX0 1 (af 58) (fd 58) ["there", "ask", "job"] sp_l_may := by
  refine T.F_l_may.ok sc_l_may (fun vs H Q E h => ?_) (fun cdv A outer s H vs Q E hr h => ?_)
  · obtain ⟨d, b, c, a, j, t, hs, rs, dA, dJ, dO, tb, kA, kJ, kO, rfl, _⟩ := h
    rfl
  · obtain ⟨d, b, c, a, j, t, hs, rs, dA, dJ, dO, tb, kA, kJ, kO, rfl, ⟨th, _, cn⟩, B, hb, hc, ma, mj, q⟩ := h
    refine ⟨_, (pss_cons (ps_set (i := 3) sc_l_may.nd rfl (by first | exact Or.inl rfl | exact Or.inr rfl) (pe_dget (hu_of hr) (pe_dget (hu_of hr) (pv 0) pe_str (fun _ _ => rfl)) (pv 1) (fun _ _ => rfl)))
        (pss_cons (ps_set (i := 4) sc_l_may.nd rfl (by first | exact Or.inl rfl | exact Or.inr rfl) (pe_dget (hu_of hr) (pe_dget (hu_of hr) (pv 0) pe_str (fun _ _ => rfl)) (pv 2) (fun _ _ => rfl)))
        (pss_cons (ps_if (pt_cmpR op_eq (pe_ix ix_tup (pv 3) pe_int (fun _ _ => rfl)) pe_str (nomark _)) (pss_cons (ps_set (i := 5) sc_l_may.nd rfl (by first | exact Or.inl rfl | exact Or.inr rfl) (pe_ifExp (pt_cmpR op_eq (pe_ix ix_tup (pv 4) pe_int (fun _ _ => rfl)) pe_str (nomark _)) (pe_ix ix_tup (pv 4) pe_int (fun _ _ => rfl)) (pe_ix ix_tup (pv 4) pe_int (fun _ _ => rfl))))
        (pss_one (ps_ret (pe_or (pe_cmpR op_isN (pe_ix ix_tup (pv 3) pe_int (fun _ _ => rfl)) pe_non (nomark _)) (pe_or (pe_cmpR op_isN (pv 5) pe_non (nomark _)) (pe_one (pe_cmpR op_le (pe_ix ix_tup (pv 3) pe_int (fun _ _ => rfl)) (pv 5) (nomark _)))))))) pss_nil)
        (pss_cons (ps_if (pt_cmpR op_ne (pe_ix ix_tup (pv 3) pe_int (fun _ _ => rfl)) (pe_ix ix_tup (pv 2) pe_int (fun _ _ => rfl)) (nomark _)) (pss_one (ps_ret pe_bl)) pss_nil)
        (pss_cons (ps_if (pt_cmpR op_eq (pe_ix ix_tup (pv 4) pe_int (fun _ _ => rfl)) pe_str (nomark _)) (pss_one (ps_ret (pe_and (pe_cmpR op_le (pe_ix ix_tup (pv 3) pe_int (fun _ _ => rfl)) (pe_ix ix_tup (pv 4) pe_int (fun _ _ => rfl)) (nomark _)) (pe_one (pe_cmpR op_le (pe_ix ix_tup (pv 4) pe_int (fun _ _ => rfl)) (pe_ix ix_tup (pv 3) pe_int (fun _ _ => rfl)) (nomark _)))))) pss_nil)
        (pss_cons (ps_set (i := 6) sc_l_may.nd rfl (by first | exact Or.inl rfl | exact Or.inr rfl) (pe_callB (cr_max rfl) (by rfl) T.m_max (by decide +kernel) (pa_cons (pe_lc (own := [("time", 7)]) (g := gName 7) (by rfl) sc_l_may.nd (pi_tup (pe_tup (pa_cons (pe_ix ix_tup (pv 4) pe_int (fun _ _ => rfl)) (pa_cons (pe_ix ix_tup (pv 3) pe_int (fun _ _ => rfl)) pa_nil)))) (blkOk_by (own := [("time", 7)]) (N := ["there", "ask", "job", "one", "other", "late", "low", "time", "high"]) (sc := defScope s_l_may) (by decide +kernel)) (fun _ _ _ _ _ => pg_name (i := 7) sc_l_may.nd rfl (Or.inl rfl)) (fun _ _ _ _ _ => (pts_one (pt_cmpR op_notN (pv 7) pe_non (nomark _)))) (fun _ _ _ _ _ => (pv 7))) pa_nil)))
        (pss_cons (ps_set (i := 8) sc_l_may.nd rfl (by first | exact Or.inl rfl | exact Or.inr rfl) (pe_callB (cr_min rfl) (by rfl) T.m_min (by decide +kernel) (pa_cons (pe_lc (own := [("time", 7)]) (g := gName 7) (by rfl) sc_l_may.nd (pi_tup (pe_tup (pa_cons (pe_ix ix_tup (pv 4) pe_int (fun _ _ => rfl)) (pa_cons (pe_ix ix_tup (pv 3) pe_int (fun _ _ => rfl)) pa_nil)))) (blkOk_by (own := [("time", 7)]) (N := ["there", "ask", "job", "one", "other", "late", "low", "time", "high"]) (sc := defScope s_l_may) (by decide +kernel)) (fun _ _ _ _ _ => pg_name (i := 7) sc_l_may.nd rfl (Or.inl rfl)) (fun _ _ _ _ _ => (pts_one (pt_cmpR op_notN (pv 7) pe_non (nomark _)))) (fun _ _ _ _ _ => (pv 7))) pa_nil)))
        (pss_one (ps_ret (pe_and (pe_cmpR op_le (pv 6) (pv 8) (nomark _)) (pe_one (pe_or (pe_cmpR op_isN (pe_ix ix_tup (pv 4) pe_int (fun _ _ => rfl)) pe_non (nomark _)) (pe_one (pe_cmpR op_lt (pe_ix ix_tup (pv 4) pe_int (fun _ _ => rfl)) (pe_ix ix_tup (pv 3) pe_int (fun _ _ => rfl)) (nomark _))))))))))))))), ?_⟩
    have ga := DGet.t (k := Gr.keyOf a) th.a hb
    have gj := DGet.t (k := Gr.keyOf j) th.j hc
    obtain ⟨p1, us1, ea, hp1, ta⟩ := th.ks.get ma
    obtain ⟨p2, us2, ej, hp2, tj⟩ := th.js.get mj
    rw [ea] at ga
    rw [ej] at gj
    refine ⟨_, rfl, d, _, rfl, th.getA, _, rfl, dA, _, rfl, ga, ?_⟩
    refine ⟨_, rfl, d, _, rfl, th.getJ, _, rfl, dJ, _, rfl, gj, ?_⟩
    rcases ta with ⟨r, e1, rfl⟩ | ⟨e1, lo, hi, rfl, spa⟩
    · obtain ⟨⟨mr, hw⟩, _⟩ := rowOf_some e1
      have wr := B.wf r mr
      cases r with
      | job => exact absurd hw w_ja'
      | all => exact absurd hw w_la
      | ask h g k n o e =>
        have hoe : o ≤ e := wr.2.2.2.2.2.2
        have em : mayB rs a j = (decide (j.1 = g) && inTime rs o e j) := by unfold mayB; rw [e1]; rfl
        rw [em] at q
        refine ⟨_, rfl, p1, _, 0, _, rfl, rfl, SqT.of hp1, rfl, rfl, _, rfl, ite2 (fun z => absurd (V.str.inj (of_decide_eq_true z)) w_lo) (fun _ => ?_)⟩
        refine ⟨_, rfl, p1, _, 4, _, rfl, rfl, SqT.of hp1, rfl, _, rfl, c, _, 0, _, rfl, rfl, SqT.of hc, rfl, rfl, _, rfl, ?_⟩
        refine ite2 (fun z => ?_) (fun z => ?_)
        · have hg : ¬ j.1 = g := fun w => by
            have z : (!decide (V.str g = V.str j.1)) = true := z
            rw [decide_eq_true (congrArg V.str w.symm)] at z
            cases z
          rw [decide_eq_false hg, Bool.false_and] at q
          exact q H (Same.refl H)
        have hg : j.1 = g := Classical.byContradiction fun w => z (by
          show (!decide (V.str g = V.str j.1)) = true
          rw [decide_eq_false fun y => w (V.str.inj y).symm]
          rfl)
        rw [decide_eq_true hg, Bool.true_and] at q
        rcases tj with ⟨t, f1, rfl⟩ | ⟨f1, lo, hi, la, rfl, spj⟩
        · obtain ⟨⟨mt, hwt⟩, _⟩ := rowOf_some f1
          have et : inTime rs o e j = (decide (o ≤ t.x3) && decide (t.x4 ≤ e)) := by unfold inTime; rw [f1]
          rw [et] at q
          cases t with
          | ask => exact absurd hwt w_aj
          | all => exact absurd hwt.symm w_ja
          | job h' k' o' e' =>
            refine ⟨_, rfl, p2, _, 0, _, rfl, rfl, SqT.of hp2, rfl, rfl, _, rfl, ite2 (fun _ => ?_) (fun z => absurd (decide_eq_true rfl) z)⟩
            refine ⟨_, rfl, p1, _, 5, _, rfl, rfl, SqT.of hp1, rfl, _, rfl, p2, _, 3, _, rfl, rfl, SqT.of hp2, rfl, _, _, rfl, rfl, _, rfl, ite2 (fun z => ?_) (fun z => ?_)⟩
            · refine ⟨_, rfl, p2, _, 4, _, rfl, rfl, SqT.of hp2, rfl, _, rfl, p1, _, 6, _, rfl, rfl, SqT.of hp1, rfl, _, _, rfl, rfl, ?_⟩
              have z1 := of_decide_eq_true z
              have := q H (Same.refl H)
              rw [show decide (o ≤ (Row.job h' k' o' e').x3) = true from decide_eq_true z1, Bool.true_and] at this
              exact this
            · have := q H (Same.refl H)
              rw [show decide (o ≤ (Row.job h' k' o' e').x3) = false from decide_eq_false fun w => z (decide_eq_true w), Bool.false_and] at this
              exact this
        · obtain ⟨g1, g2, g3⟩ := spJ_fun spj
          have et : inTime rs o e j = (NA lo (.int e) && NA (.int o) hi && NLt la e) := by unfold inTime; rw [f1, g1, g2, g3]
          rw [et] at q
          have lh := fun {x y : Int} => lo_hi (x := x) (y := y) B spj
          have tlo := geS_tim spj.1
          have thi := leS_tim spj.2.1
          have tla := geS_tim spj.2.2
          refine ⟨_, rfl, p2, _, 0, _, rfl, rfl, SqT.of hp2, rfl, rfl, _, rfl, ite2 (fun z => absurd (V.str.inj (of_decide_eq_true z)) w_lj) (fun _ => ?_)⟩
          refine ⟨_, rfl, p2, _, 1, _, rfl, rfl, SqT.of hp2, rfl, _, rfl, p1, _, 5, _, rfl, rfl, SqT.of hp1, rfl, (by show 2 ≤ sizeLine; decide), fun t1 n1 => ?_⟩
          have u1 := same_upd (o := .tup [lo, Fl.dV (PyData.int o)]) n1
          have f1' : (upd H t1 (.tup [lo, Fl.dV (PyData.int o)])) t1 = some (.tup [lo, .int o]) := upd_same
          generalize upd H t1 (.tup [lo, Fl.dV (PyData.int o)]) = H1 at u1 f1' ⊢
          refine ⟨t1, rfl, ⟨_, SqT.of f1'⟩, fun D1 nD1 => ?_⟩
          refine not_none f1' (by show 2 ≤ 10; decide) (fun v m => ?_) nD1 (fun v H2 Kt hk => ⟨_, rfl, rfl, _, rfl, hk⟩) (fun v H2 Ke hk => ⟨_, rfl, hk⟩) (fun ns G1 g1' hD1 hn1 => ?_)
          · rcases List.mem_cons.mp m with rfl | m
            · exact tlo
            · rw [List.mem_singleton.mp m]
              exact .inr ⟨o, rfl⟩
          refine ⟨D1, ns, rfl, SqL.of hD1, List.length_pos_of_mem ((hn1 o).mpr (List.mem_cons_of_mem _ List.mem_cons_self)), fun m1 mm1 hm1 => ?_⟩
          have s1 := u1.trans g1'
          refine ⟨_, rfl, p2, _, 2, _, rfl, rfl, SqT.of (s1 _ _ hp2), rfl, _, rfl, p1, _, 6, _, rfl, rfl, SqT.of (s1 _ _ hp1), rfl, (by show 2 ≤ sizeLine; decide), fun t2 n2 => ?_⟩
          have u2 := same_upd (o := .tup [hi, Fl.dV (PyData.int e)]) n2
          have f2' : (upd G1 t2 (.tup [hi, Fl.dV (PyData.int e)])) t2 = some (.tup [hi, .int e]) := upd_same
          generalize upd G1 t2 (.tup [hi, Fl.dV (PyData.int e)]) = H2 at u2 f2' ⊢
          refine ⟨t2, rfl, ⟨_, SqT.of f2'⟩, fun D2 nD2 => ?_⟩
          refine not_none f2' (by show 2 ≤ 10; decide) (fun v m => ?_) nD2 (fun v H2 Kt hk => ⟨_, rfl, rfl, _, rfl, hk⟩) (fun v H2 Ke hk => ⟨_, rfl, hk⟩) (fun ns2 G2 g2' hD2 hn2 => ?_)
          · rcases List.mem_cons.mp m with rfl | m
            · exact thi
            · rw [List.mem_singleton.mp m]
              exact .inr ⟨e, rfl⟩
          refine ⟨D2, ns2, rfl, SqL.of hD2, List.length_pos_of_mem ((hn2 e).mpr (List.mem_cons_of_mem _ List.mem_cons_self)), fun m2 mm2 hm2 => ?_⟩
          have s2 := (s1.trans u2).trans g2'
          have hle : decide (m1 ≤ m2) = (NA lo (.int e) && NA (.int o) hi) := by
            have a1 := (hn1 m1).mp mm1
            have a2 := hm1 o ((hn1 o).mpr (List.mem_cons_of_mem _ List.mem_cons_self))
            have b1 := (hn2 m2).mp mm2
            have b2 := hm2 e ((hn2 e).mpr (List.mem_cons_of_mem _ List.mem_cons_self))
            have c1 : ∀ x, lo = .int x → x ≤ m1 := fun x ex => hm1 x ((hn1 x).mpr (by rw [ex]; exact List.mem_cons_self))
            have c2 : ∀ x, hi = .int x → m2 ≤ x := fun x ex => hm2 x ((hn2 x).mpr (by rw [ex]; exact List.mem_cons_self))
            simp only [List.mem_cons, List.not_mem_nil, or_false, V.int.injEq] at a1 b1
            rcases tlo with rfl | ⟨x, rfl⟩ <;> rcases thi with rfl | ⟨y, rfl⟩ <;> simp only [NA, Bool.true_and, Bool.and_true]
            · rcases a1 with a1 | rfl
              · cases a1
              · rcases b1 with b1 | rfl
                · cases b1
                · exact decide_eq_true hoe
            · rcases a1 with a1 | rfl
              · cases a1
              · have := c2 y rfl
                rw [decide_eq_decide]
                rcases b1 with b1 | rfl
                · have := V.int.inj b1; omega
                · omega
            · rcases b1 with b1 | rfl
              · cases b1
              · have := c1 x rfl
                rw [decide_eq_decide]
                rcases a1 with a1 | rfl
                · have := V.int.inj a1; omega
                · omega
            · have := c1 x rfl
              have := c2 y rfl
              have := lh rfl rfl
              rw [← Bool.decide_and, decide_eq_decide]
              rcases a1 with a1 | rfl <;> rcases b1 with b1 | rfl <;> (try have a1 := V.int.inj a1) <;> (try have b1 := V.int.inj b1) <;> omega
          rw [← hle] at q
          refine ⟨_, rfl, _, rfl, _, _, rfl, rfl, _, rfl, ite2 (fun z => ?_) (fun z => ?_)⟩
          · rw [z, Bool.true_and] at q
            refine ⟨_, rfl, p2, _, 3, _, rfl, rfl, SqT.of (s2 _ _ hp2), rfl, rfl, _, rfl, ?_⟩
            rcases tla with rfl | ⟨x, rfl⟩
            · exact iteTd rfl (q _ s2)
            · refine iteFd (fun z => nomatch z) ⟨_, rfl, p2, _, 3, _, rfl, rfl, SqT.of (s2 _ _ hp2), rfl, _, rfl, p1, _, 6, _, rfl, rfl, SqT.of (s2 _ _ hp1), rfl, _, _, rfl, rfl, q _ s2⟩
          · have zf : decide (m1 ≤ m2) = false := by
              cases e : decide (m1 ≤ m2) with
              | true => exact absurd e z
              | false => rfl
            rw [zf, Bool.false_and] at q
            exact q _ s2
    · have em : mayB rs a j = NA lo (lateB rs j) := by unfold mayB; rw [e1, ← (spA_fun spa).1]
      rw [em] at q
      refine ⟨_, rfl, p1, _, 0, _, rfl, rfl, SqT.of hp1, rfl, rfl, _, rfl, ite2 (fun _ => ?_) (fun z => absurd (decide_eq_true rfl) z)⟩
      have tlo := geS_tim spa.1
      have fin : ∀ late, TimV late → lateB rs j = late → tOrV (tOp (fun x y H Q => y = V.non ∧ Q (V.bl (decide (x = V.non))) H) (tOp (rIxT K) (tVar 3) (tC (.int 1))) (tC .non)) (tOrV (tOp (fun x y H Q => y = V.non ∧ Q (V.bl (decide (x = V.non))) H) (tVar 5) (tC .non)) (tOp (rI0 fun i j => .bl (decide (i ≤ j))) (tOp (rIxT K) (tVar 3) (tC (.int 1))) (tVar 5))) [some (.ref d), some (.ref b), some (.ref c), some (.ref p1), some (.ref p2), some late, none, none, none] H Q := fun late tl el => by
        rw [el] at q
        refine ⟨_, rfl, p1, _, 1, _, rfl, rfl, SqT.of hp1, rfl, rfl, _, rfl, ?_⟩
        rcases tlo with rfl | ⟨x, rfl⟩
        · exact iteTd rfl (q H (Same.refl H))
        · refine iteFd (fun z => nomatch z) ⟨_, rfl, rfl, _, rfl, ?_⟩
          rcases tl with rfl | ⟨y, rfl⟩
          · exact iteTd rfl (q H (Same.refl H))
          · exact iteFd (fun z => nomatch z) ⟨_, rfl, p1, _, 1, _, rfl, rfl, SqT.of hp1, rfl, _, rfl, _, _, rfl, rfl, q H (Same.refl H)⟩
      rcases tj with ⟨t, f1, rfl⟩ | ⟨f1, lo', hi', la, rfl, spj⟩
      · obtain ⟨⟨mt, hwt⟩, _⟩ := rowOf_some f1
        cases t with
        | ask => exact absurd hwt w_aj
        | all => exact absurd hwt.symm w_ja
        | job h' k' o' e' =>
          refine ⟨_, rfl, p2, _, 0, _, rfl, rfl, SqT.of hp2, rfl, rfl, _, rfl, ite2 (fun _ => ?_) (fun z => absurd (decide_eq_true rfl) z)⟩
          exact ⟨_, rfl, p2, _, 3, _, rfl, rfl, SqT.of hp2, rfl, fin (.int o') (.inr ⟨_, rfl⟩) (by unfold lateB; rw [f1]; rfl)⟩
      · refine ⟨_, rfl, p2, _, 0, _, rfl, rfl, SqT.of hp2, rfl, rfl, _, rfl, ite2 (fun z => absurd (V.str.inj (of_decide_eq_true z)) w_lj) (fun _ => ?_)⟩
        exact ⟨_, rfl, p2, _, 2, _, rfl, rfl, SqT.of hp2, rfl, fin hi' (leS_tim spj.2.1) (by unfold lateB; rw [f1]; exact (spJ_fun spj).2.1.symm)⟩
/-! ### d != {} -/
def rNe0 : R2 := fun x y H Q => ∃ a b ks, x = .ref a ∧ y = .ref b ∧ H a = some (.dK ks) ∧ H b = some (.dK []) ∧ Q (.bl (!ks.isEmpty)) H
theorem op_ne0 {X : Cx} (hu : X.A.units < cLine) : OpR X (compareOp .NotEq) rNe0 := by
  intro pins s σ H x y v u Q I rx ry h
  obtain ⟨a, b, ks, rfl, rfl, ea, eb, q⟩ := h
  obtain rfl : v = Value.ref a := rx
  obtain rfl : u = Value.ref b := ry
  obtain ⟨_, ya, va, ra, da⟩ := (show ObjOk X.prog X.w H s.heap a (.dK ks) from I.hok a _ ea)
  obtain ⟨_, yb, vb, rb, db⟩ := (show ObjOk X.prog X.w H s.heap b (.dK []) from I.hok b _ eb)
  have l1 : ks.length = va.length := ra.length
  have l2 : 0 = vb.length := rb.length
  refine PySem.W.keq_ne (knd := mixKind X.prog X.w) (r := true) ya yb da db hu (fun e => hits_all rb ra (fun p m => ?_)) (fin_bl I q ?_)
  · cases ks with
    | nil => exact nomatch m
    | cons k ks => exact absurd (l1.trans (e.trans l2.symm)) (by rw [List.length_cons]; omega)
  · cases ks with
    | nil => simp_all
    | cons k ks =>
      simp_all
      omega
def sp_l_to_more : Sp := fun vs H Q _ => ∃ (d b : Addr) (a : Gr.HK) (t : Addr) (hs : List Str) (rs : List Row) (dA dJ dO tb : Addr) (kA kJ : List (List Key × V)) (kO : List (Key × V)), vs = [.ref d, .ref b] ∧ There H d t hs rs dA dJ dO tb kA kJ kO ∧ Book hs rs ∧ H b = some (.tup ((Gr.keyOf a).map kV)) ∧
  a ∈ below hs (cnA rs) ∧ ∀ H', Same H H' → Q (.bl (moreJ hs rs a)) H'
theorem ok_l_to_more (T : Txt K mg af fd) : FnOk P w K mg base CX0 1 (af 59) (fd 59) ["there", "ask"] sp_l_to_more := by
  refine T.F_l_to_more.ok sc_l_to_more (fun vs H Q E h => ?_) (fun cdv A outer s H vs Q E hr h => ?_)
  · obtain ⟨d, b, a, t, hs, rs, dA, dJ, dO, tb, kA, kJ, kO, rfl, _⟩ := h
    rfl
  · obtain ⟨d, b, a, t, hs, rs, dA, dJ, dO, tb, kA, kJ, kO, rfl, ⟨th, _, cn⟩, B, hb, ma, q⟩ := h
    refine ⟨_, (pss_cons (ps_set (i := 2) sc_l_to_more.nd rfl (by first | exact Or.inl rfl | exact Or.inr rfl) (pe_dget (hu_of hr) (pe_dget (hu_of hr) (pv 0) pe_str (fun _ _ => rfl)) (pv 1) (fun _ _ => rfl)))
        (pss_cons (ps_if (pt_cmpR op_eq (pe_ix ix_tup (pv 2) pe_int (fun _ _ => rfl)) pe_str (nomark _)) (pss_one (ps_ret (pe_cmpR (op_ne0 (Nat.lt_of_succ_lt (hu_of hr))) (pe_dget (hu_of hr) (pv 0) pe_str (fun _ _ => rfl)) pe_dnewK (nomark _)))) pss_nil)
        (pss_cons (ps_if (pt_cmp (pc_dnotin (hu_of hr) (pe_ix ix_tup (pv 2) pe_int (fun _ _ => rfl)) (pe_dget (hu_of hr) (pv 0) pe_str (fun _ _ => rfl)))) (pss_one (ps_ret pe_bl)) pss_nil)
        (pss_cons (ps_set (i := 3) sc_l_to_more.nd rfl (by first | exact Or.inl rfl | exact Or.inr rfl) (pe_ix ix_tup (pe_dget (hu_of hr) (pe_dget (hu_of hr) (pv 0) pe_str (fun _ _ => rfl)) (pe_ix ix_tup (pv 2) pe_int (fun _ _ => rfl)) (fun _ _ => rfl)) pe_int (fun _ _ => rfl)))
        (pss_one (ps_ret (pe_or (pe_cmpR op_isN (pv 3) pe_non (nomark _)) (pe_one (pe_cmpR op_le (pv 3) (pe_ix ix_tup (pv 2) pe_int (fun _ _ => rfl)) (nomark _)))))))))), ?_⟩
    have ga := DGet.t (k := Gr.keyOf a) th.a hb
    obtain ⟨p1, us1, ea, hp1, ta⟩ := th.ks.get ma
    rw [ea] at ga
    refine ⟨_, rfl, d, _, rfl, th.getA, _, rfl, dA, _, rfl, ga, ?_⟩
    rcases ta with ⟨r, e1, rfl⟩ | ⟨e1, lo, hi, rfl, spa⟩
    · obtain ⟨⟨mr, hw⟩, _⟩ := rowOf_some e1
      cases r with
      | job => exact absurd hw w_ja'
      | all => exact absurd hw w_la
      | ask h g k n o e =>
        have em : moreJ hs rs a = (decide (g ∈ openOf rs hs) && NA (mrJ rs g) (.int e)) := by unfold moreJ; rw [e1]; rfl
        rw [em] at q
        refine ⟨_, rfl, p1, _, 0, _, rfl, rfl, SqT.of hp1, rfl, rfl, _, rfl, ite2 (fun z => absurd (V.str.inj (of_decide_eq_true z)) w_lo) (fun _ => ?_)⟩
        have go := DGet.k (k := (Sum.inr g : Key)) th.o
        refine ⟨_, rfl, p1, _, 4, _, rfl, rfl, SqT.of hp1, rfl, _, rfl, d, _, rfl, th.getO, dO, _, rfl, go, _, rfl, ?_⟩
        by_cases mg : g ∈ openOf rs hs
        · obtain ⟨p, us, e3, e4, ma', mb', rfl, mr'⟩ := th.os.get mg
          rw [e3] at go ⊢
          refine iteF ⟨_, rfl, d, _, rfl, th.getO, _, rfl, p1, _, 4, _, rfl, rfl, SqT.of hp1, rfl, dO, _, rfl, go, p, _, 1, _, rfl, rfl, SqT.of e4, rfl, ?_⟩
          rw [decide_eq_true mg, Bool.true_and, ← (mr_fun mr').2] at q
          refine ⟨_, rfl, rfl, _, rfl, ?_⟩
          rcases geS_tim mr'.2 with rfl | ⟨x, rfl⟩
          · exact iteTd rfl (q H (Same.refl H))
          · exact iteFd (fun z => nomatch z) ⟨_, rfl, _, rfl, p1, _, 6, _, rfl, rfl, SqT.of hp1, rfl, _, _, rfl, rfl, q H (Same.refl H)⟩
        · rw [th.os.not mg]
          refine iteT ?_
          rw [decide_eq_false mg, Bool.false_and] at q
          exact q H (Same.refl H)
    · have em : moreJ hs rs a = decide (openOf rs hs ≠ []) := by unfold moreJ; rw [e1]
      rw [em] at q
      refine ⟨_, rfl, p1, _, 0, _, rfl, rfl, SqT.of hp1, rfl, rfl, _, rfl, ite2 (fun _ => ?_) (fun z => absurd (decide_eq_true rfl) z)⟩
      refine ⟨_, rfl, d, _, rfl, th.getO, fun D nD => ?_⟩
      have u1 := same_upd (o := .dK []) nD
      refine ⟨dO, D, kO, rfl, rfl, u1 _ _ th.o, upd_same, ?_⟩
      have e : (!kO.isEmpty) = decide (openOf rs hs ≠ []) := by
        have k := th.os.keys
        cases kO with
        | nil =>
          cases h : openOf rs hs with
          | nil => simp
          | cons x y => rw [h] at k; cases k
        | cons x y =>
          cases h : openOf rs hs with
          | nil => rw [h] at k; cases k
          | cons x y => simp
      rw [e]
      exact q _ u1
def sp_l_of_more : Sp := fun vs H Q _ => ∃ (d c : Addr) (j : Gr.HK) (t : Addr) (hs : List Str) (rs : List Row) (dA dJ dO tb : Addr) (kA kJ : List (List Key × V)) (kO : List (Key × V)), vs = [.ref d, .ref c] ∧ There H d t hs rs dA dJ dO tb kA kJ kO ∧ Book hs rs ∧ H c = some (.tup ((Gr.keyOf j).map kV)) ∧
  j ∈ below hs (cnJ rs) ∧ ∀ H', Same H H' → Q (.bl (moreA hs rs j)) H'
theorem ok_l_of_more (T : Txt K mg af fd) : FnOk P w K mg base CX0 1 (af 60) (fd 60) ["there", "job"] sp_l_of_more := by
  refine T.F_l_of_more.ok sc_l_of_more (fun vs H Q E h => ?_) (fun cdv A outer s H vs Q E hr h => ?_)
  · obtain ⟨d, c, j, t, hs, rs, dA, dJ, dO, tb, kA, kJ, kO, rfl, _⟩ := h
    rfl
  · obtain ⟨d, c, j, t, hs, rs, dA, dJ, dO, tb, kA, kJ, kO, rfl, ⟨th, _, cn⟩, B, hc, mj, q⟩ := h
    refine ⟨_, (pss_cons (ps_set (i := 2) sc_l_of_more.nd rfl (by first | exact Or.inl rfl | exact Or.inr rfl) (pe_dget (hu_of hr) (pe_dget (hu_of hr) (pv 0) pe_str (fun _ _ => rfl)) (pv 1) (fun _ _ => rfl)))
        (C8.pss_cut (ps_set (i := 3) sc_l_of_more.nd rfl (by first | exact Or.inl rfl | exact Or.inr rfl) (pe_ifExp (pt_cmpR op_eq (pe_ix ix_tup (pv 2) pe_int (fun _ _ => rfl)) pe_str (nomark _)) (pe_ix ix_tup (pv 2) pe_int (fun _ _ => rfl)) (pe_ix ix_tup (pv 2) pe_int (fun _ _ => rfl))))
        (pss_cons (ps_lock (ps_for PassesOwn.never rfl (pi_keys (pe_dget (hu_of hr) (pv 0) pe_str (fun _ _ => rfl))) (pg_name (i := 4) sc_l_of_more.nd rfl (by first | exact Or.inl rfl | exact Or.inr rfl)) (pss_cons (ps_set (i := 5) sc_l_of_more.nd rfl (by first | exact Or.inl rfl | exact Or.inr rfl) (pe_ix ix_tup (pe_dget (hu_of hr) (pe_dget (hu_of hr) (pv 0) pe_str (fun _ _ => rfl)) (pv 4) (fun _ _ => rfl)) pe_int (fun _ _ => rfl)))
        (pss_one (ps_if (PW.pt (pw_or (pt_cmpR op_isN (pv 5) pe_non (nomark _)) (pw_or (pt_cmpR op_isN (pv 3) pe_non (nomark _)) (pw_or1 (pt_cmpR op_le (pv 5) (pv 3) (nomark _)))))) (pss_one (ps_ret pe_bl)) pss_nil)))))
        (pss_one (ps_ret pe_bl))))), ?_⟩
    have gj := DGet.t (k := Gr.keyOf j) th.j hc
    obtain ⟨p2, us2, ej, hp2, tj⟩ := th.js.get mj
    rw [ej] at gj
    refine ⟨_, rfl, d, _, rfl, th.getJ, _, rfl, dJ, _, rfl, gj, ?_⟩
    refine ⟨fun σ' H' => (∃ late, σ' = [some (.ref d), some (.ref c), some (.ref p2), some late, none, none] ∧ TimV late ∧ lateB rs j = late) ∧ H' = H, ?_, ?_⟩
    · rcases tj with ⟨t', f1, rfl⟩ | ⟨f1, lo', hi', la, rfl, spj⟩
      · obtain ⟨⟨mt, hwt⟩, _⟩ := rowOf_some f1
        cases t' with
        | ask => exact absurd hwt w_aj
        | all => exact absurd hwt.symm w_ja
        | job h' k' o' e' =>
          refine ⟨_, rfl, p2, _, 0, _, rfl, rfl, SqT.of hp2, rfl, rfl, _, rfl, ite2 (fun _ => ?_) (fun z => absurd (decide_eq_true rfl) z)⟩
          exact ⟨_, rfl, p2, _, 3, _, rfl, rfl, SqT.of hp2, rfl, ⟨_, rfl, .inr ⟨_, rfl⟩, by unfold lateB; rw [f1]; rfl⟩, rfl⟩
      · refine ⟨_, rfl, p2, _, 0, _, rfl, rfl, SqT.of hp2, rfl, rfl, _, rfl, ite2 (fun z => absurd (V.str.inj (of_decide_eq_true z)) w_lj) (fun _ => ?_)⟩
        exact ⟨_, rfl, p2, _, 2, _, rfl, rfl, SqT.of hp2, rfl, ⟨_, rfl, leS_tim spj.2.1, by unfold lateB; rw [f1]; exact (spJ_fun spj).2.1.symm⟩, rfl⟩
    · rintro σ' H' ⟨⟨late, rfl, tl, el⟩, eH⟩
      subst eH
      have em : moreA hs rs j = (openOf rs hs).any fun h => NA (mrA rs h) late := by unfold moreA; rw [el]
      rw [em] at q
      refine ⟨dO, _, th.o, trivial, fun od => ?_⟩
      have ndO : d ≠ dO := th.n2
      have hz : (upd H' dO (.frz od (.dK kO))) dO = some (.frz od (.dK kO)) := upd_same
      have top2 : DGet (upd H' dO (.frz od (.dK kO))) d (.str "open") (some (.ref dO)) := by
        have h1 : (upd H' dO (.frz od (.dK kO))) d = some (.dK (top4 dA dJ dO tb)) := by rw [upd_ne ndO]; exact th.top
        have h2 := th.getO
        rcases h2 with ⟨kvs, k, r1, r2, r3⟩ | ⟨kvs, k, b, r1, r2, r3⟩
        · refine .inl ⟨kvs, k, ?_, r2, r3⟩
          rcases r1 with r1 | ⟨o1, r1⟩
          · rw [th.top] at r1
            exact .inl (h1.trans r1)
          · rw [th.top] at r1
            cases r1
        · cases r2
      refine ⟨_, rfl, d, _, rfl, top2, dO, od, rfl, .inl ⟨kO, hz, ?_⟩⟩
      refine for_it (walk_keys (d := dO) (o := od) (kvs := kO)) (fun i σ G => (∃ v4 v5 : Option V, σ = [some (.ref d), some (.ref c), some (.ref p2), some late, v4, v5]) ∧ G = upd H' dO (.frz od (.dK kO)) ∧ ∀ h ∈ (openOf rs hs).take i, NA (mrA rs h) late = false)
        ⟨⟨none, none, rfl⟩, rfl, fun h m => by rw [List.take_zero] at m; exact nomatch m⟩ (fun i σ G _ h => by rw [h.2.1]; exact hz) ?_ ?_
      · rintro i v σ G1 G2 hi ⟨⟨v4, v5, rfl⟩, rfl, hall⟩ ⟨rfl, k, u, ek, rfl⟩
        have ek2 : (openOf rs hs)[i]?.map Sum.inr = some k := by
          have := congrArg (fun l => l[i]?) th.os.keys
          simp only [List.getElem?_map, ek, Option.map_some] at this
          exact this.symm
        obtain ⟨h, eh, rfl⟩ := Option.map_eq_some_iff.mp ek2
        obtain ⟨p, us, e3, e4, ma', mb', rfl, mr'⟩ := th.os.get (List.mem_of_getElem? eh)
        have e4' : (upd H' dO (.frz od (.dK kO))) p = some (.tup [ma', mb']) := by rw [upd_ne (ne_of e4 th.o (fun z => nomatch z))]; exact e4
        have gd : DGet (upd H' dO (.frz od (.dK kO))) dO (.str h) (some (.ref p)) := by
          rw [← e3]
          exact .inl ⟨kO, Sum.inr h, .inr ⟨od, hz⟩, rfl, rfl⟩
        refine ⟨_, rfl, d, _, rfl, top2, _, rfl, dO, _, rfl, gd, p, _, 0, _, rfl, rfl, SqT.of e4', rfl, ?_⟩
        have s1 : Same H' (upd (upd H' dO (.frz od (.dK kO))) dO (.dK kO)) := Same.unlock th.o (Same.refl _)
        have yes : NA (mrA rs h) late = true → upd H' dO (.frz od (.dK kO)) dO = some (.frz od (.dK kO)) ∧ Q (.bl true) (upd (upd H' dO (.frz od (.dK kO))) dO (.dK kO)) := fun e => by
          refine ⟨hz, ?_⟩
          have := q _ s1
          rw [List.any_eq_true.mpr ⟨h, List.mem_of_getElem? eh, e⟩] at this
          exact this
        have no : NA (mrA rs h) late = false → ∀ h ∈ (openOf rs hs).take (i + 1), NA (mrA rs h) late = false := fun e x m => by
          rw [take_snoc eh] at m
          rcases List.mem_append.mp m with m | m
          · exact hall x m
          · rw [List.mem_singleton.mp m]
            exact e
        rw [← (mr_fun mr').1] at yes no
        refine ⟨_, rfl, rfl, _, rfl, ?_⟩
        rcases geS_tim mr'.1 with rfl | ⟨x, rfl⟩
        · exact iteTd rfl (iteT (yes rfl))
        · refine iteFd (fun z => nomatch z) ⟨_, rfl, rfl, _, rfl, ?_⟩
          rcases tl with rfl | ⟨y, rfl⟩
          · exact iteTd rfl (iteT (yes rfl))
          · refine iteFd (fun z => nomatch z) ⟨_, rfl, _, rfl, _, _, rfl, rfl, _, rfl, ite2 (fun z => ?_) (fun z => ?_)⟩
            · exact yes z
            · refine ⟨⟨_, _, rfl⟩, rfl, no ?_⟩
              show decide (x ≤ y) = false
              exact Bool.eq_false_iff.mpr z
      · rintro σ G1 ⟨⟨v4, v5, rfl⟩, rfl, hall⟩
        have ll : kO.length = (openOf rs hs).length := by
          have := congrArg List.length th.os.keys
          rw [List.length_map, List.length_map] at this
          exact this
        rw [ll, List.take_length] at hall
        refine ⟨hz, ?_⟩
        have := q _ (Same.unlock (od := od) th.o (Same.refl _))
        rw [show ((openOf rs hs).any fun h => NA (mrA rs h) late) = false from List.any_eq_false.mpr fun h m => by rw [hall h m]; exact Bool.noConfusion] at this
        exact this
/-! ### the pen moved on, tables may have grown, all else stands -/
structure StM (p c : Addr) (H H' : Hp) : Prop where
  pen : Pen H' p c
  keep : ∀ b o, b ≠ p → H b = some o → (∀ ps, o ≠ .tbl ps) → H' b = some o
  tab : ∀ b ps, H b = some (.tbl ps) → ∃ ps', H' b = some (.tbl ps') ∧ (TriplesOk ps.toList → TriplesOk ps'.toList)
theorem StM.refl {p c : Addr} {H : Hp} (h : Pen H p c) : StM p c H H := ⟨h, fun _ _ _ e _ => e, fun _ ps e => ⟨ps, e, id⟩⟩
theorem StM.trans {p c : Addr} {H H1 H2 : Hp} (a : StM p c H H1) (b : StM p c H1 H2) : StM p c H H2 := ⟨b.pen, fun x o n e t => b.keep x o n (a.keep x o n e t) t, fun x ps e => by
  obtain ⟨p1, e1, t1⟩ := a.tab x ps e
  obtain ⟨p2, e2, t2⟩ := b.tab x p1 e1
  exact ⟨p2, e2, fun t => t2 (t1 t)⟩⟩
theorem StM.stp {p c : Addr} {H H' : Hp} (s : Stp p c H H') (h : Pen H p c) : StM p c H H' := ⟨s.1, fun b o n e _ => s.2 b o n e, fun b ps e => by
  obtain ⟨_, _, _, h1, _⟩ := h
  exact ⟨ps, s.2 _ _ (ne_of e h1 (fun z => nomatch z)) e, id⟩⟩
theorem StM.sm {p c : Addr} {H H' : Hp} (s : Sm H H') (h : Pen H p c) : StM p c H H' := ⟨h.smm s, fun b o _ e t => s.keep b o e t, s.tab⟩
theorem StM.same {p c : Addr} {H H' : Hp} (s : Same H H') (h : Pen H p c) : StM p c H H' := .sm (.of s) h
section
variable {p c : Addr} {H H' : Hp}
theorem StM.tup (s : StM p c H H') (h : Pen H p c) {b : Addr} {xs : List V} (e : H b = some (.tup xs)) : H' b = some (.tup xs) := s.keep b _ (h.tup e) e (fun _ z => nomatch z)
theorem StM.lst (s : StM p c H H') {b : Addr} {xs : List V} (n : b ≠ p) (e : H b = some (.lst xs)) : H' b = some (.lst xs) := s.keep b _ n e (fun _ z => nomatch z)
theorem StM.dK (s : StM p c H H') (h : Pen H p c) {b : Addr} {xs : List (Key × V)} (e : H b = some (.dK xs)) : H' b = some (.dK xs) := by
  obtain ⟨_, _, _, h1, _⟩ := h
  exact s.keep b _ (ne_of e h1 (fun z => nomatch z)) e (fun _ z => nomatch z)
theorem StM.dT (s : StM p c H H') (h : Pen H p c) {b : Addr} {xs : List (List Key × V)} (e : H b = some (.dT xs)) : H' b = some (.dT xs) := by
  obtain ⟨_, _, _, h1, _⟩ := h
  exact s.keep b _ (ne_of e h1 (fun z => nomatch z)) e (fun _ z => nomatch z)
theorem StM.town (s : StM p c H H') (h : Pen H p c) {t : Addr} {hs gs : List Str} (e : TownAt H t hs gs) : TownAt H' t hs gs := by
  obtain ⟨a, b, h1, h2, h3⟩ := e
  exact ⟨a, b, s.tup h h1, s.tup h h2, s.tup h h3⟩
theorem StM.tbs (s : StM p c H H') {af : Nat → Addr} (t : Tbs af H) : Tbs af H' := fun i hi => by
  obtain ⟨ps, e, tr⟩ := t i hi
  obtain ⟨p1, e1, t1⟩ := s.tab _ ps e
  exact ⟨p1, e1, t1 tr⟩
theorem StM.hand (s : StM p c H H') (h : Pen H p c) {t l : Addr} {hs gs : List Str} {xs : List V} {rs : List Row} (n : l ≠ p) (e : Hand H t l hs gs xs rs) : Hand H' t l hs gs xs rs :=
  ⟨s.town h e.town, e.up, e.nd, e.ok, e.h6, s.lst n e.lst, e.rows.go fun _ _ z => s.tup h z, e.book, e.ths, e.len⟩
theorem StM.there (s : StM p c H H') (h : Pen H p c) {d t : Addr} {hs : List Str} {rs : List Row} {dA dJ dO tb : Addr} {kA kJ : List (List Key × V)} {kO : List (Key × V)} (e : There H d t hs rs dA dJ dO tb kA kJ kO) : There H' d t hs rs dA dJ dO tb kA kJ kO := by
  obtain ⟨th, ⟨ta, e1⟩, cn⟩ := e
  exact ⟨⟨s.dK h th.top, s.dT h th.a, s.dT h th.j, s.dK h th.o, th.ks.go fun _ _ e => s.tup h e, th.js.go fun _ _ e => s.tup h e, th.os.go fun _ _ e => s.tup h e, th.n1, th.n2⟩, ⟨ta, s.tup h e1⟩, cn⟩
end
/-! ### what rows tell is told by which rows there are -/
theorem bk_memb {rs ts : List Row} (m : ∀ r, r ∈ rs ↔ r ∈ ts) (wd : Str) : Bk rs wd = Bk ts wd := funext fun r => propext ⟨fun h => ⟨(m r).mp h.1, h.2⟩, fun h => ⟨(m r).mpr h.1, h.2⟩⟩
theorem askOf_memb {rs ts : List Row} (m : ∀ r, r ∈ rs ↔ r ∈ ts) : AskOf rs = AskOf ts := funext fun h => funext fun r => by unfold AskOf; rw [bk_memb m]
theorem jobOf_memb {rs ts : List Row} (m : ∀ r, r ∈ rs ↔ r ∈ ts) : JobOf rs = JobOf ts := funext fun h => funext fun r => by unfold JobOf; rw [bk_memb m]
theorem allOf_memb {rs ts : List Row} (m : ∀ r, r ∈ rs ↔ r ∈ ts) : AllOf rs = AllOf ts := funext fun h => funext fun r => by unfold AllOf; rw [bk_memb m]
theorem cntA_memb {rs ts : List Row} (m : ∀ r, r ∈ rs ↔ r ∈ ts) : CntA rs = CntA ts := by unfold CntA; rw [allOf_memb m, askOf_memb m]
theorem cntJ_memb {rs ts : List Row} (m : ∀ r, r ∈ rs ↔ r ∈ ts) : CntJ rs = CntJ ts := by unfold CntJ; rw [allOf_memb m, askOf_memb m, jobOf_memb m]
theorem wasA_memb {hs : List Str} {rs ts : List Row} (m : ∀ r, r ∈ rs ↔ r ∈ ts) {k : Gr.HK} (h : WasA hs rs k) : WasA hs ts k := by unfold WasA; rw [← cntA_memb m]; exact h
theorem wasJ_memb {hs : List Str} {rs ts : List Row} (m : ∀ r, r ∈ rs ↔ r ∈ ts) {k : Gr.HK} (h : WasJ hs rs k) : WasJ hs ts k := by unfold WasJ; rw [← cntJ_memb m]; exact h
theorem rowOf_memb {rs ts : List Row} {wd : Str} (m : ∀ r, r ∈ rs ↔ r ∈ ts) (un : Uniq (Bk ts wd)) (k : Gr.HK) : rowOf rs wd k = rowOf ts wd k := by
  cases e : rowOf rs wd k with
  | some r =>
    obtain ⟨h1, h2⟩ := rowOf_some e
    rw [← h2, rowOf_is un ⟨(m r).mp h1.1, h1.2⟩]
  | none =>
    cases e2 : rowOf ts wd k with
    | none => rfl
    | some r =>
      obtain ⟨h1, h2⟩ := rowOf_some e2
      exact absurd ⟨r, ⟨(m r).mpr h1.1, h1.2⟩, h2⟩ (rowOf_none e)
theorem mayB_memb {rs ts : List Row} (m : ∀ r, r ∈ rs ↔ r ∈ ts) (ua : Uniq (Bk ts "ask")) (uj : Uniq (Bk ts "job")) (a j : Gr.HK) : mayB rs a j = mayB ts a j := by
  unfold mayB inTime lateB loA loJ hiJ laJ
  rw [rowOf_memb m ua, rowOf_memb m uj, askOf_memb m, jobOf_memb m]
theorem was_a {hs : List Str} {rs : List Row} {k : Gr.HK} (m : k ∈ below hs (cnA rs)) (c : ∀ h ∈ hs, CntA rs h (cnA rs h : Nat)) : WasA hs rs k := by
  obtain ⟨h1, h2, h3⟩ := mem_below.mp m
  exact ⟨h1, h2, _, c _ h1, h3⟩
theorem was_j {hs : List Str} {rs : List Row} {k : Gr.HK} (m : k ∈ below hs (cnJ rs)) (c : ∀ h ∈ hs, CntJ rs h (cnJ rs h : Nat)) : WasJ hs rs k := by
  obtain ⟨h1, h2, h3⟩ := mem_below.mp m
  exact ⟨h1, h2, _, c _ h1, h3⟩
/-! ### a truth, as due -/
def sp_told_right : Sp := fun vs H Q _ => ∃ b : Bool, vs = [.bl b, .bl b] ∧ Q (.bl true) H
theorem ok_l_told_right (T : Txt K mg af fd) : FnOk P w K mg base CX0 1 (af 61) (fd 61) ["found", "due"] sp_told_right := by
  refine T.F_l_told_right.ok sc_l_told_right (fun vs H Q E h => ?_) (fun cdv A outer s H vs Q E hr h => ?_)
  · obtain ⟨b, rfl, _⟩ := h
    rfl
  · obtain ⟨b, rfl, q⟩ := h
    refine ⟨_, (pss_one (ps_ret (pe_and (pe_callB call_isi (by rfl) T.m_isinstance (by decide +kernel) (pa_cons (pv 0) (pa_cons (pe_bltn (v := .ty "bool") (by rfl) T.m_bool (by decide +kernel) rfl) pa_nil))) (pe_one (pe_cmpR op_eq (pv 0) (pv 1) (nomark _)))))), ?_⟩
    have hd : Dq (fun _ => False) H (.bl b) (.bool b) := .bl b
    refine ⟨_, rfl, _, _, _, _, _, rfl, .ty "bool", hd.ty, isi_kit hd n_bool, _, rfl, iteT ?_⟩
    refine ⟨_, rfl, _, rfl, rfl, ?_⟩
    rw [decide_eq_true rfl]
    exact q
/-! ### asks and jobs that there were, as a list -/
def KsL (H : Hp) (us : List V) (ks : List Gr.HK) : Prop := us.length = ks.length ∧ ∀ (i : Nat) (k : Gr.HK), ks[i]? = some k → ∃ b : Addr, us[i]? = some (.ref b) ∧ H b = some (.tup ((Gr.keyOf k).map kV))
theorem KsL.go {H H' : Hp} {us : List V} {ks : List Gr.HK} (h : KsL H us ks) (s : ∀ b xs, H b = some (.tup xs) → H' b = some (.tup xs)) : KsL H' us ks :=
  ⟨h.1, fun i k e => let ⟨b, e1, e2⟩ := h.2 i k e; ⟨b, e1, s _ _ e2⟩⟩
theorem ksl_of {H : Hp} : ∀ {kvs : List (List Key × V)} {bs : List Addr} {ks : List Gr.HK}, IsKeys H kvs bs → kvs.map (·.1) = ks.map Gr.keyOf → KsL H (bs.map V.ref) ks
  | [], _, ks, h, e => by
    cases h
    cases ks with
    | nil => exact ⟨rfl, fun i k e => nomatch e⟩
    | cons => cases e
  | kv :: kvs, _, ks, h, e => by
    cases h with
    | @cons _ b _ bs h1 h2 =>
      cases ks with
      | nil => cases e
      | cons k ks =>
        injection e with e1 e2
        have ih := ksl_of h2 e2
        refine ⟨congrArg (· + 1) ih.1, fun i x ex => ?_⟩
        cases i with
        | zero =>
          obtain rfl := Option.some.inj ex
          refine ⟨b, rfl, ?_⟩
          rw [← e1]
          exact h1
        | succ i => exact ih.2 i x ex
theorem KsL.dqs {H : Hp} : ∀ {us : List V} {ks : List Gr.HK}, KsL H us ks → Dqs (fun _ => False) H us (ks.map fun k => .tuple [.str k.1, .int k.2])
  | [], [], _ => .nil
  | [], _ :: _, h => by cases h.1
  | _ :: _, [], h => by cases h.1
  | u :: us, k :: ks, h => by
    obtain ⟨b, e1, e2⟩ := h.2 0 k rfl
    obtain rfl := Option.some.inj e1
    exact .cons (.tup e2 (.cons (.str _) (.cons (.int _) .nil))) (KsL.dqs (us := us) (ks := ks) ⟨Nat.succ.inj h.1, fun i x e => h.2 (i + 1) x e⟩)
theorem below_len96 {hs : List Str} {c : Str → Nat} (h6 : hs.length ≤ 6) (h16 : ∀ h ∈ hs, c h ≤ 16) : (below hs c).length ≤ 96 := by
  have : ∀ l : List Str, (∀ h ∈ l, c h ≤ 16) → (below l c).length ≤ 16 * l.length := by
    intro l
    induction l with
    | nil => exact fun _ => Nat.le_refl _
    | cons x l ih =>
      intro hl
      have i1 := ih fun h m => hl h (List.mem_cons_of_mem _ m)
      have i2 := hl x List.mem_cons_self
      unfold below at i1 ⊢
      rw [List.flatMap_cons, List.length_append, List.length_map, List.length_range, List.length_cons]
      omega
  have := this hs h16
  omega
theorem ks_shaped {ks : List Gr.HK} (ok : ∀ k ∈ ks, PyData.strOk k.1 = true) : SeqAt.shaped (.list (ks.map fun k => PyData.tuple [.str k.1, .int k.2])) = true := by
  have key : ∀ l : List Gr.HK, (∀ k ∈ l, PyData.strOk k.1 = true) → PyData.canLayAll0 (l.map fun k => PyData.tuple [.str k.1, .int k.2]) = true ∧ PyData.depthAll (l.map fun k => PyData.tuple [.str k.1, .int k.2]) ≤ 1 := by
    intro l
    induction l with
    | nil => exact fun _ => ⟨rfl, Nat.zero_le _⟩
    | cons k l ih =>
      intro h
      obtain ⟨i1, i2⟩ := ih fun x m => h x (List.mem_cons_of_mem _ m)
      refine ⟨?_, ?_⟩
      · show ((PyData.strOk k.1 && (true && true)) && PyData.canLayAll0 (l.map fun k => PyData.tuple [.str k.1, .int k.2])) = true
        rw [h k List.mem_cons_self, i1]
        rfl
      · show max (PyData.depth (PyData.tuple [.str k.1, .int k.2])) (PyData.depthAll (l.map fun k => PyData.tuple [.str k.1, .int k.2])) ≤ 1
        exact Nat.max_le.mpr ⟨Nat.le_refl _, i2⟩
  obtain ⟨k1, k2⟩ := key ks ok
  unfold SeqAt.shaped
  rw [Bool.and_eq_true, decide_eq_true_eq]
  refine ⟨k1, ?_⟩
  show PyData.depthAll (ks.map fun k => PyData.tuple [.str k.1, .int k.2]) + 1 ≤ 64
  omega
theorem ks_nil {ks : List Gr.HK} : PyData.eqv (.list (ks.map fun k => PyData.tuple [.str k.1, .int k.2])) (.list []) = ks.isEmpty := by
  cases ks <;> rfl
/-! all that is at hand where it is asked -/
structure At20 (af : Nat → Addr) (p c : Addr) (H : Hp) (t l d : Addr) (hs gs : List Str) (xs : List V) (rs : List Row) (dA dJ dO tb : Addr) (kA kJ : List (List Key × V)) (kO : List (Key × V)) : Prop where
  pen : Pen H p c
  hand : Hand H t l hs gs xs rs
  ne : l ≠ p
  th : There H d t hs rs dA dJ dO tb kA kJ kO
  tbs : Tbs af H
theorem At20.go {p c : Addr} {H H' : Hp} {t l d : Addr} {hs gs : List Str} {xs : List V} {rs : List Row} {dA dJ dO tb : Addr} {kA kJ : List (List Key × V)} {kO : List (Key × V)} (h : At20 af p c H t l d hs gs xs rs dA dJ dO tb kA kJ kO) (s : StM p c H H') : At20 af p c H' t l d hs gs xs rs dA dJ dO tb kA kJ kO :=
  ⟨s.pen, s.hand h.pen h.ne h.hand, h.ne, s.there h.pen h.th, s.tbs h.tbs⟩
def sp_drawn_right (af : Nat → Addr) : Sp := fun vs H Q _ => ∃ (p c t l d : Addr) (hs gs : List Str) (xs : List V) (rs : List Row) (dA dJ dO tb : Addr) (kA kJ : List (List Key × V)) (kO : List (Key × V)), vs = [.ref p, .ref t, .ref l, .ref d] ∧ At20 af p c H t l d hs gs xs rs dA dJ dO tb kA kJ kO ∧
  ∀ H', StM p c H H' → Q (.bl true) H'
set_option maxHeartbeats 16000000 in
theorem ok_l_drawn_right (T : Txt K mg af fd) (B : TxtB base mg af) : FnOk P w K mg base CX0 10 (af 62) (fd 62) ["pen", "town", "rows", "there"] (sp_drawn_right af) := by
  refine T.F_l_drawn_right.ok sc_l_drawn_right (fun vs H Q E h => ?_) (fun cdv A outer s H vs Q E hr h => ?_)
  · obtain ⟨p, c, t, l, d, hs, gs, xs, rs, dA, dJ, dO, tb, kA, kJ, kO, rfl, _⟩ := h
    rfl
  · obtain ⟨p, c, t, l, d, hs, gs, xs, rs, dA, dJ, dO, tb, kA, kJ, kO, rfl, h0, q⟩ := h
    refine ⟨_, (pss_cons (ps_set (i := 4) sc_l_drawn_right.nd rfl (by first | exact Or.inl rfl | exact Or.inr rfl) (pe_callTy (call_list_dT rfl) (by rfl) T.m_list (by decide +kernel) (pa_cons (pe_dget (hu_of hr) (pv 3) pe_str (fun _ _ => rfl)) pa_nil)))
        (pss_cons (ps_set (i := 5) sc_l_drawn_right.nd rfl (by first | exact Or.inl rfl | exact Or.inr rfl) (pe_callTy (call_list_dT rfl) (by rfl) T.m_list (by decide +kernel) (pa_cons (pe_dget (hu_of hr) (pv 3) pe_str (fun _ _ => rfl)) pa_nil)))
        (pss_cons (ps_for PassesOwn.never rfl (pi_range1 (by rfl) T.m_range (pa_cons pe_int pa_nil)) (pg_name (i := 6) sc_l_drawn_right.nd rfl (by first | exact Or.inl rfl | exact Or.inr rfl)) (pss_one (ps_if (PW.pt (pw_and (pt_cmpR (op_neD hr.units) (pv 4) (pe_lst pa_nil) (nomark _)) (pw_and1 (pt_cmpR (op_neD hr.units) (pv 5) (pe_lst pa_nil) (nomark _))))) (pss_cons (ps_set (i := 7) sc_l_drawn_right.nd rfl (by first | exact Or.inl rfl | exact Or.inr rfl) (pe_ix ix_list (pv 4) (pe_call (ok_l_take T) (hr.mono (by first | decide | omega)) (by rfl) T.g_l_take T.F_l_take.kp T.b_l_take .nil pass0 (pa_cons (pv 0) (pa_cons (pe_callB call_len_seq (by rfl) T.m_len (by decide +kernel) (pa_cons (pv 4) pa_nil)) pa_nil))) (fun _ _ => rfl)))
        (pss_cons (ps_set (i := 8) sc_l_drawn_right.nd rfl (by first | exact Or.inl rfl | exact Or.inr rfl) (pe_ix ix_list (pv 5) (pe_call (ok_l_take T) (hr.mono (by first | decide | omega)) (by rfl) T.g_l_take T.F_l_take.kp T.b_l_take .nil pass0 (pa_cons (pv 0) (pa_cons (pe_callB call_len_seq (by rfl) T.m_len (by decide +kernel) (pa_cons (pv 5) pa_nil)) pa_nil))) (fun _ _ => rfl)))
        (pss_one (ps_if (pt_not (pt_val (pe_call (ok_l_told_right T) (hr.mono (by first | decide | omega)) (by rfl) T.g_l_told_right T.F_l_told_right.kp T.b_l_told_right .nil pass0 (pa_cons (pe_call (ok_may_lead T) (hr.mono (by first | decide | omega)) (by rfl) T.g_may_lead T.F_may_lead.kp T.b_may_lead .nil passL (pa_cons (pv 1) (pa_cons (pv 2) (pa_cons (pv 7) (pa_cons (pv 8) pa_nil))))) (pa_cons (pe_call (ok_l_may T) (hr.mono (by first | decide | omega)) (by rfl) T.g_l_may T.F_l_may.kp T.b_l_may .nil pass0 (pa_cons (pv 3) (pa_cons (pv 7) (pa_cons (pv 8) pa_nil)))) pa_nil))))) (pss_one (ps_ret pe_bl)) pss_nil)))) pss_nil)))
        (pss_cons (ps_for PassesOwn.never rfl (pi_range1 (by rfl) T.m_range (pa_cons pe_int pa_nil)) (pg_name (i := 6) sc_l_drawn_right.nd rfl (by first | exact Or.inl rfl | exact Or.inr rfl)) (C8.pss_cut (ps_if (pt_cmpR (op_neD hr.units) (pv 4) (pe_lst pa_nil) (nomark _)) (pss_cons (ps_set (i := 7) sc_l_drawn_right.nd rfl (by first | exact Or.inl rfl | exact Or.inr rfl) (pe_ix ix_list (pv 4) (pe_call (ok_l_take T) (hr.mono (by first | decide | omega)) (by rfl) T.g_l_take T.F_l_take.kp T.b_l_take .nil pass0 (pa_cons (pv 0) (pa_cons (pe_callB call_len_seq (by rfl) T.m_len (by decide +kernel) (pa_cons (pv 4) pa_nil)) pa_nil))) (fun _ _ => rfl)))
        (pss_one (ps_if (pt_not (pt_val (pe_call (ok_l_told_right T) (hr.mono (by first | decide | omega)) (by rfl) T.g_l_told_right T.F_l_told_right.kp T.b_l_told_right .nil pass0 (pa_cons (pe_call (ok_more_jobs T) (hr.mono (by first | decide | omega)) (by rfl) T.g_more_jobs T.F_more_jobs.kp T.b_more_jobs .nil passL (pa_cons (pv 1) (pa_cons (pv 2) (pa_cons (pv 7) pa_nil)))) (pa_cons (pe_call (ok_l_to_more T) (hr.mono (by first | decide | omega)) (by rfl) T.g_l_to_more T.F_l_to_more.kp T.b_l_to_more .nil pass0 (pa_cons (pv 3) (pa_cons (pv 7) pa_nil))) pa_nil))))) (pss_one (ps_ret pe_bl)) pss_nil))) pss_nil)
        (pss_one (ps_if (pt_cmpR (op_neD hr.units) (pv 5) (pe_lst pa_nil) (nomark _)) (pss_cons (ps_set (i := 8) sc_l_drawn_right.nd rfl (by first | exact Or.inl rfl | exact Or.inr rfl) (pe_ix ix_list (pv 5) (pe_call (ok_l_take T) (hr.mono (by first | decide | omega)) (by rfl) T.g_l_take T.F_l_take.kp T.b_l_take .nil pass0 (pa_cons (pv 0) (pa_cons (pe_callB call_len_seq (by rfl) T.m_len (by decide +kernel) (pa_cons (pv 5) pa_nil)) pa_nil))) (fun _ _ => rfl)))
        (pss_one (ps_if (pt_not (pt_val (pe_call (ok_l_told_right T) (hr.mono (by first | decide | omega)) (by rfl) T.g_l_told_right T.F_l_told_right.kp T.b_l_told_right .nil pass0 (pa_cons (pe_call (ok_more_asks T B) (hr.mono (by first | decide | omega)) (by rfl) T.g_more_asks T.F_more_asks.kp T.b_more_asks .nil passL (pa_cons (pv 1) (pa_cons (pv 2) (pa_cons (pv 8) pa_nil)))) (pa_cons (pe_call (ok_l_of_more T) (hr.mono (by first | decide | omega)) (by rfl) T.g_l_of_more T.F_l_of_more.kp T.b_l_of_more .nil pass0 (pa_cons (pv 3) (pa_cons (pv 8) pa_nil))) pa_nil))))) (pss_one (ps_ret pe_bl)) pss_nil))) pss_nil))))
        (pss_one (ps_ret pe_bl)))))), ?_⟩
    obtain ⟨th, _, cn⟩ := h0.th
    have Bk := h0.hand.book
    refine ⟨_, rfl, d, _, rfl, th.getA, dA, kA, rfl, .inl th.a, fun LA bsA nLA keysA => ?_⟩
    have u1 := same_upd (o := .lst (bsA.map V.ref)) nLA
    have hLA : (upd H LA (.lst (bsA.map V.ref))) LA = some (.lst (bsA.map V.ref)) := upd_same
    have ksA : KsL H (bsA.map V.ref) (below hs (cnA rs)) := ksl_of keysA th.ks.keys
    generalize upd H LA (.lst (bsA.map V.ref)) = H1 at u1 hLA ⊢
    have th1 := th.same u1
    refine ⟨_, rfl, d, _, rfl, th1.getJ, dJ, kJ, rfl, .inl th1.j, fun LJ bsJ nLJ keysJ => ?_⟩
    have u2 := same_upd (o := .lst (bsJ.map V.ref)) nLJ
    have hLJ : (upd H1 LJ (.lst (bsJ.map V.ref))) LJ = some (.lst (bsJ.map V.ref)) := upd_same
    have ksJ : KsL H1 (bsJ.map V.ref) (below hs (cnJ rs)) := ksl_of keysJ th1.js.keys
    generalize upd H1 LJ (.lst (bsJ.map V.ref)) = H2 at u2 hLJ ⊢
    have u12 := u1.trans u2
    have nLAp : LA ≠ p := fun e => h0.pen.neP nLA e.symm
    have nLJp : LJ ≠ p := fun e => (h0.pen.sm u1).neP nLJ e.symm
    have ksA2 := ksA.go fun _ _ e => u12 _ _ e
    have ksJ2 := ksJ.go fun _ _ e => u2 _ _ e
    have hLA2 := u2 _ _ hLA
    have h2 := h0.go (.same u12 h0.pen)
    have q2 := fun G (s : StM p c H2 G) => q G ((StM.same u12 h0.pen).trans s)
    have lA : (below hs (cnA rs)).length ≤ 96 := below_len96 h0.hand.h6 fun h m => (cn h m).1.2
    have lJ : (below hs (cnJ rs)).length ≤ 96 := below_len96 h0.hand.h6 fun h m => (cn h m).2.2
    have okb : ∀ {c : Str → Nat}, ∀ k ∈ below hs c, PyData.strOk k.1 = true := fun k m => h0.hand.ok _ (mem_below.mp m).1
    have wA : ∀ {k}, k ∈ below hs (cnA rs) → WasA hs rs k := fun m => was_a m fun h mh => (cn h mh).1.1
    have wJ : ∀ {k}, k ∈ below hs (cnJ rs) → WasJ hs rs k := fun m => was_j m fun h mh => (cn h mh).2.1
    generalize bsA.map V.ref = uA at hLA2 ksA2
    generalize bsJ.map V.ref = uJ at hLJ ksJ2
    have empA : ∀ {G : Hp} {Kt : V → Hp → Prop}, StM p c H2 G → (∀ Lx G2, Same G G2 → Kt (.bl (!(below hs (cnA rs)).isEmpty)) G2) → ∀ Lx, G Lx = none → rNeD K (.ref LA) (.ref Lx) (upd G Lx (.lst [])) Kt := fun {G Kt} s hk Lx nLx => by
      have v1 := same_upd (o := .lst []) nLx
      refine ⟨_, .list [], Dp.lst (SqL.of (v1 _ _ (s.lst nLAp hLA2))) ((ksA2.go fun _ _ e => v1 _ _ (s.tup h2.pen e)).dqs).dp, Dp.lst (SqL.of upd_same) .nil, ks_shaped okb, rfl, ?_⟩
      rw [ks_nil]
      exact hk Lx _ v1
    have empJ : ∀ {G : Hp} {Kt : V → Hp → Prop}, StM p c H2 G → (∀ Lx G2, Same G G2 → Kt (.bl (!(below hs (cnJ rs)).isEmpty)) G2) → ∀ Lx, G Lx = none → rNeD K (.ref LJ) (.ref Lx) (upd G Lx (.lst [])) Kt := fun {G Kt} s hk Lx nLx => by
      have v1 := same_upd (o := .lst []) nLx
      refine ⟨_, .list [], Dp.lst (SqL.of (v1 _ _ (s.lst nLJp hLJ))) ((ksJ2.go fun _ _ e => v1 _ _ (s.tup h2.pen e)).dqs).dp, Dp.lst (SqL.of upd_same) .nil, ks_shaped okb, rfl, ?_⟩
      rw [ks_nil]
      exact hk Lx _ v1
    have pickA : ∀ {G : Hp} {i : Int}, StM p c H2 G → 0 ≤ i → i < uA.length → ∃ (b : Addr) (k : Gr.HK), atI uA i = some (.ref b) ∧ G b = some (.tup ((Gr.keyOf k).map kV)) ∧ k ∈ below hs (cnA rs) := fun {G i} s i0 i1 => by
      have hl : i.toNat < (below hs (cnA rs)).length := by rw [← ksA2.1]; omega
      obtain ⟨b, e1, e2⟩ := ksA2.2 i.toNat _ (List.getElem?_eq_getElem hl)
      exact ⟨b, _, at_any (j := i.toNat) (by omega) e1, s.tup h2.pen e2, List.getElem_mem hl⟩
    have pickJ : ∀ {G : Hp} {i : Int}, StM p c H2 G → 0 ≤ i → i < uJ.length → ∃ (b : Addr) (k : Gr.HK), atI uJ i = some (.ref b) ∧ G b = some (.tup ((Gr.keyOf k).map kV)) ∧ k ∈ below hs (cnJ rs) := fun {G i} s i0 i1 => by
      have hl : i.toNat < (below hs (cnJ rs)).length := by rw [← ksJ2.1]; omega
      obtain ⟨b, e1, e2⟩ := ksJ2.2 i.toNat _ (List.getElem?_eq_getElem hl)
      exact ⟨b, _, at_any (j := i.toNat) (by omega) e1, s.tup h2.pen e2, List.getElem_mem hl⟩
    refine ⟨9, rfl, by decide, by decide, for_range (lo := 0) (n := 9) (fun i σ G => (∃ v6 v7 v8 : Option V, σ = [some (.ref p), some (.ref t), some (.ref l), some (.ref d), some (.ref LA), some (.ref LJ), v6, v7, v8]) ∧ StM p c H2 G)
      ⟨⟨none, none, none, rfl⟩, .refl h2.pen⟩ ?_ ?_⟩
    · rintro i σ G hi ⟨⟨v6, v7, v8, rfl⟩, g⟩
      refine ⟨_, rfl, Nat.zero_le _, fun Lx nLx => empA g (fun _ G1 g1 => ⟨_, rfl, ite2 (fun z => ?_) (fun z => iteF ?_)⟩) Lx nLx⟩
      rotate_left
      · exact ⟨⟨_, _, _, rfl⟩, g.trans (.same g1 g.pen)⟩
      have s1 := g.trans (.same g1 g.pen)
      refine ⟨_, rfl, Nat.zero_le _, fun Ly nLy => empJ s1 (fun _ G2 g2 => ⟨_, rfl, ite2 (fun z2 => ?_) (fun z2 => ?_)⟩) Ly nLy⟩
      rotate_left
      · exact ⟨⟨_, _, _, rfl⟩, s1.trans (.same g2 s1.pen)⟩
      have s2 := s1.trans (.same g2 s1.pen)
      have pA : 0 < uA.length := by
        rw [ksA2.1]
        cases e : below hs (cnA rs) with
        | nil => rw [e] at z; cases z
        | cons => exact Nat.succ_pos _
      have pJ : 0 < uJ.length := by
        rw [ksJ2.1]
        cases e : below hs (cnJ rs) with
        | nil => rw [e] at z2; cases z2
        | cons => exact Nat.succ_pos _
      have lA2 := ksA2.1
      have lJ2 := ksJ2.1
      refine ⟨_, rfl, _, rfl, _, rfl, LA, _, rfl, .inl (SqL.of (s2.lst nLAp hLA2)), p, c, _, rfl, s2.pen, by omega, Nat.lt_of_le_of_lt (show _ ≤ 96 by omega) (by decide), fun i1 G3 i10 i11 t3 => ?_⟩
      have s3 := s2.trans (.stp t3 s2.pen)
      obtain ⟨b, a, e1, hb, ma⟩ := pickA s3 i10 i11
      refine ⟨LA, _, i1, _, rfl, rfl, SqL.of (s3.lst nLAp hLA2), e1, ?_⟩
      refine ⟨_, rfl, _, rfl, _, rfl, LJ, _, rfl, .inl (SqL.of (s3.lst nLJp hLJ)), p, c, _, rfl, s3.pen, by omega, Nat.lt_of_le_of_lt (show _ ≤ 96 by omega) (by decide), fun i2 G4 i20 i21 t4 => ?_⟩
      have s4 := s3.trans (.stp t4 s3.pen)
      obtain ⟨b2, j, e2, hb2, mj⟩ := pickJ s4 i20 i21
      have hb4 := t4.tup s3.pen hb
      refine ⟨LJ, _, i2, _, rfl, rfl, SqL.of (s4.lst nLJp hLJ), e2, ?_⟩
      have h4 := h2.go s4
      refine ⟨_, rfl, _, rfl, _, rfl, _, rfl, fun _ => False, t, l, b, b2, a, j, hs, gs, xs, rs.map rowD, rfl, h4.hand.ask h4.hand.lst, hb4, hb2, (fun rs1 B1 e1 => by rw [← rowD_inj e1]; exact ⟨wA ma, wJ mj⟩), (fun rs1 G5 s5 _ _ B1 e1 => ?_), h4.hand.book.refuse⟩
      obtain rfl := rowD_inj e1
      have h5 := h4.go (.same s5 h4.pen)
      refine ⟨_, rfl, _, rfl, _, rfl, d, b, b2, a, j, t, hs, rs, dA, dJ, dO, tb, kA, kJ, kO, rfl, h5.th, Bk, s5 _ _ hb4, s5 _ _ hb2, ma, mj, fun G6 s6 => ?_⟩
      refine ⟨_, rfl, _, rfl, iteF ?_⟩
      exact ⟨⟨_, _, _, rfl⟩, (s4.trans (.same s5 s4.pen)).trans (.same s6 h5.pen)⟩
    · rintro σ G ⟨⟨v6, v7, v8, rfl⟩, g⟩
      refine ⟨4, rfl, by decide, by decide, for_range (lo := 0) (n := 4) (fun i σ G => (∃ v6 v7 v8 : Option V, σ = [some (.ref p), some (.ref t), some (.ref l), some (.ref d), some (.ref LA), some (.ref LJ), v6, v7, v8]) ∧ StM p c H2 G)
        ⟨⟨_, _, _, rfl⟩, g⟩ ?_ ?_⟩
      rotate_left
      · rintro σ G ⟨⟨v6, v7, v8, rfl⟩, g⟩
        exact q2 G g
      rintro i σ G hi ⟨⟨v6, v7, v8, rfl⟩, g⟩
      refine ⟨fun σ' G' => (∃ v6 v7 v8 : Option V, σ' = [some (.ref p), some (.ref t), some (.ref l), some (.ref d), some (.ref LA), some (.ref LJ), v6, v7, v8]) ∧ StM p c H2 G', ?_, ?_⟩
      · refine ⟨_, rfl, Nat.zero_le _, fun Lx nLx => empA g (fun _ G1 g1 => ⟨_, rfl, ite2 (fun z => ?_) (fun z => ?_)⟩) Lx nLx⟩
        rotate_left
        · exact ⟨⟨_, _, _, rfl⟩, g.trans (.same g1 g.pen)⟩
        have s2 := g.trans (.same g1 g.pen)
        have pA : 0 < uA.length := by
          rw [ksA2.1]
          cases e : below hs (cnA rs) with
          | nil => rw [e] at z; cases z
          | cons => exact Nat.succ_pos _
        have lA2 := ksA2.1
        refine ⟨_, rfl, _, rfl, _, rfl, LA, _, rfl, .inl (SqL.of (s2.lst nLAp hLA2)), p, c, _, rfl, s2.pen, by omega, Nat.lt_of_le_of_lt (show _ ≤ 96 by omega) (by decide), fun i1 G3 i10 i11 t3 => ?_⟩
        have s3 := s2.trans (.stp t3 s2.pen)
        obtain ⟨b, a, e1, hb, ma⟩ := pickA s3 i10 i11
        refine ⟨LA, _, i1, _, rfl, rfl, SqL.of (s3.lst nLAp hLA2), e1, ?_⟩
        have h4 := h2.go s3
        refine ⟨_, rfl, _, rfl, _, rfl, fun _ => False, t, l, b, a, hs, gs, xs, rs.map rowD, rfl, h4.hand.ask h4.hand.lst, hb, (fun rs1 G5 s5 _ _ B1 e1 => ?_), h4.hand.book.refuse⟩
        obtain rfl := rowD_inj e1
        have h5 := h4.go (.same s5 h4.pen)
        refine ⟨_, rfl, _, rfl, d, b, a, t, hs, rs, dA, dJ, dO, tb, kA, kJ, kO, rfl, h5.th, Bk, s5 _ _ hb, ma, fun G6 s6 => ?_⟩
        refine ⟨_, rfl, _, rfl, iteF ?_⟩
        exact ⟨⟨_, _, _, rfl⟩, (s3.trans (.same s5 s3.pen)).trans (.same s6 h5.pen)⟩
      · rintro σ G ⟨⟨v6, v7, v8, rfl⟩, g⟩
        refine ⟨_, rfl, Nat.zero_le _, fun Lx nLx => empJ g (fun _ G1 g1 => ⟨_, rfl, ite2 (fun z => ?_) (fun z => ?_)⟩) Lx nLx⟩
        rotate_left
        · exact ⟨⟨_, _, _, rfl⟩, g.trans (.same g1 g.pen)⟩
        have s2 := g.trans (.same g1 g.pen)
        have pJ : 0 < uJ.length := by
          rw [ksJ2.1]
          cases e : below hs (cnJ rs) with
          | nil => rw [e] at z; cases z
          | cons => exact Nat.succ_pos _
        have lJ2 := ksJ2.1
        refine ⟨_, rfl, _, rfl, _, rfl, LJ, _, rfl, .inl (SqL.of (s2.lst nLJp hLJ)), p, c, _, rfl, s2.pen, by omega, Nat.lt_of_le_of_lt (show _ ≤ 96 by omega) (by decide), fun i1 G3 i10 i11 t3 => ?_⟩
        have s3 := s2.trans (.stp t3 s2.pen)
        obtain ⟨b, j, e1, hb, mj⟩ := pickJ s3 i10 i11
        refine ⟨LJ, _, i1, _, rfl, rfl, SqL.of (s3.lst nLJp hLJ), e1, ?_⟩
        have h4 := h2.go s3
        refine ⟨_, rfl, _, rfl, _, rfl, fun _ => False, t, l, b, j, hs, gs, xs, rs.map rowD, rfl, h4.hand.ask h4.hand.lst, hb, h4.tbs, (fun rs1 B1 e1 => by rw [← rowD_inj e1]; exact wJ mj), (fun rs1 G5 s5 _ _ B1 e1 => ?_), h4.hand.book.refuse⟩
        obtain rfl := rowD_inj e1
        have h5 := h4.go (.sm s5 h4.pen)
        refine ⟨_, rfl, _, rfl, d, b, j, t, hs, rs, dA, dJ, dO, tb, kA, kJ, kO, rfl, h5.th, Bk, s5.tup hb, mj, fun G6 s6 => ?_⟩
        refine ⟨_, rfl, _, rfl, iteF ?_⟩
        exact ⟨⟨_, _, _, rfl⟩, (s3.trans (.sm s5 s3.pen)).trans (.same s6 h5.pen)⟩
theorem rws_app {H : Hp} {xs ys : List V} {rs ts : List Row} (a : Rws H xs rs) (b : Rws H ys ts) : Rws H (xs ++ ys) (rs ++ ts) := by
  refine ⟨by rw [List.length_append, List.length_append, a.1, b.1], fun i r e => ?_⟩
  by_cases h : i < rs.length
  · rw [List.getElem?_append_left h] at e
    rw [List.getElem?_append_left (by rw [a.1]; exact h)]
    exact a.2 i r e
  · rw [List.getElem?_append_right (by omega)] at e
    rw [List.getElem?_append_right (by rw [a.1]; omega), a.1]
    exact b.2 _ r e
theorem rws_flat {H : Hp} {xs : List V} {rs : List Row} (a : Rws H xs rs) : ∀ n : Nat, Rws H (List.replicate n xs).flatten (List.replicate n rs).flatten
  | 0 => ⟨rfl, fun i r e => by simp at e⟩
  | n + 1 => by
    rw [List.replicate_succ, List.replicate_succ, List.flatten_cons, List.flatten_cons]
    exact rws_app a (rws_flat a n)
theorem rws_take {H : Hp} {xs : List V} {rs : List Row} (h : Rws H xs rs) (n : Nat) : Rws H (xs.take n) (rs.take n) := by
  refine ⟨by rw [List.length_take, List.length_take, h.1], fun i r e => ?_⟩
  rw [List.getElem?_take] at e ⊢
  split at e
  · rename_i hi
    rw [if_pos hi]
    exact h.2 i r e
  · cases e
theorem fdiv_pos {n : Nat} (h : 0 < n) : Int.fdiv 200 (n : Int) = ((200 / n : Nat) : Int) := by
  rw [Int.fdiv_eq_ediv_of_nonneg _ (by omega)]
  rfl
def sp_long_right (af : Nat → Addr) : Sp := fun vs H Q _ => ∃ (p c t l d : Addr) (hs gs : List Str) (xs : List V) (rs ts : List Row) (dA dJ dO tb : Addr) (kA kJ : List (List Key × V)) (kO : List (Key × V)), vs = [.ref p, .ref t, .ref l, .ref d] ∧ Pen H p c ∧ Hand H t l hs gs xs ts ∧ l ≠ p ∧ There H d t hs rs dA dJ dO tb kA kJ kO ∧ Book hs rs ∧ (∀ r, r ∈ rs ↔ r ∈ ts) ∧
  ∀ H', Stp p c H H' → Q (.bl true) H'
theorem ok_l_long_right (T : Txt K mg af fd) : FnOk P w K mg base CX0 10 (af 63) (fd 63) ["pen", "town", "rows", "there"] (sp_long_right af) := by
  refine T.F_l_long_right.ok sc_l_long_right (fun vs H Q E h => ?_) (fun cdv A outer s H vs Q E hr h => ?_)
  · obtain ⟨p, c, t, l, d, hs, gs, xs, rs, ts, dA, dJ, dO, tb, kA, kJ, kO, rfl, _⟩ := h
    rfl
  · obtain ⟨p, c, t, l, d, hs, gs, xs, rs, ts, dA, dJ, dO, tb, kA, kJ, kO, rfl, hP, hd, nlp, hth, Bk, mem, q⟩ := h
    refine ⟨_, (pss_cons (ps_set (i := 4) sc_l_long_right.nd rfl (by first | exact Or.inl rfl | exact Or.inr rfl) (pe_callTy (call_list_dT rfl) (by rfl) T.m_list (by decide +kernel) (pa_cons (pe_dget (hu_of hr) (pv 3) pe_str (fun _ _ => rfl)) pa_nil)))
        (pss_cons (ps_set (i := 5) sc_l_long_right.nd rfl (by first | exact Or.inl rfl | exact Or.inr rfl) (pe_callTy (call_list_dT rfl) (by rfl) T.m_list (by decide +kernel) (pa_cons (pe_dget (hu_of hr) (pv 3) pe_str (fun _ _ => rfl)) pa_nil)))
        (pss_cons (ps_if (PW.pt (pw_or (pt_cmpR (op_eqD hr.units) (pv 4) (pe_lst pa_nil) (nomark _)) (pw_or1 (pt_cmpR (op_eqD hr.units) (pv 5) (pe_lst pa_nil) (nomark _))))) (pss_one (ps_ret pe_bl)) pss_nil)
        (pss_cons (ps_set (i := 6) sc_l_long_right.nd rfl (by first | exact Or.inl rfl | exact Or.inr rfl) (pe_ix ix_list (pv 4) (pe_call (ok_l_take T) (hr.mono (by first | decide | omega)) (by rfl) T.g_l_take T.F_l_take.kp T.b_l_take .nil pass0 (pa_cons (pv 0) (pa_cons (pe_callB call_len_seq (by rfl) T.m_len (by decide +kernel) (pa_cons (pv 4) pa_nil)) pa_nil))) (fun _ _ => rfl)))
        (pss_cons (ps_set (i := 7) sc_l_long_right.nd rfl (by first | exact Or.inl rfl | exact Or.inr rfl) (pe_ix ix_list (pv 5) (pe_call (ok_l_take T) (hr.mono (by first | decide | omega)) (by rfl) T.g_l_take T.F_l_take.kp T.b_l_take .nil pass0 (pa_cons (pv 0) (pa_cons (pe_callB call_len_seq (by rfl) T.m_len (by decide +kernel) (pa_cons (pv 5) pa_nil)) pa_nil))) (fun _ _ => rfl)))
        (pss_one (ps_ret (pe_call (ok_l_told_right T) (hr.mono (by first | decide | omega)) (by rfl) T.g_l_told_right T.F_l_told_right.kp T.b_l_told_right .nil pass0 (pa_cons (pe_call (ok_may_lead T) (hr.mono (by first | decide | omega)) (by rfl) T.g_may_lead T.F_may_lead.kp T.b_may_lead .nil passL (pa_cons (pv 1) (pa_cons (pv 2) (pa_cons (pv 6) (pa_cons (pv 7) pa_nil))))) (pa_cons (pe_call (ok_l_may T) (hr.mono (by first | decide | omega)) (by rfl) T.g_l_may T.F_l_may.kp T.b_l_may .nil pass0 (pa_cons (pv 3) (pa_cons (pv 6) (pa_cons (pv 7) pa_nil)))) pa_nil)))))))))), ?_⟩
    obtain ⟨th, _, cn⟩ := id hth
    refine ⟨_, rfl, d, _, rfl, th.getA, dA, kA, rfl, .inl th.a, fun LA bsA nLA keysA => ?_⟩
    have u1 := same_upd (o := .lst (bsA.map V.ref)) nLA
    have hLA : (upd H LA (.lst (bsA.map V.ref))) LA = some (.lst (bsA.map V.ref)) := upd_same
    have ksA : KsL H (bsA.map V.ref) (below hs (cnA rs)) := ksl_of keysA th.ks.keys
    generalize upd H LA (.lst (bsA.map V.ref)) = H1 at u1 hLA ⊢
    have th1 := th.same u1
    refine ⟨_, rfl, d, _, rfl, th1.getJ, dJ, kJ, rfl, .inl th1.j, fun LJ bsJ nLJ keysJ => ?_⟩
    have u2 := same_upd (o := .lst (bsJ.map V.ref)) nLJ
    have hLJ : (upd H1 LJ (.lst (bsJ.map V.ref))) LJ = some (.lst (bsJ.map V.ref)) := upd_same
    have ksJ : KsL H1 (bsJ.map V.ref) (below hs (cnJ rs)) := ksl_of keysJ th1.js.keys
    generalize upd H1 LJ (.lst (bsJ.map V.ref)) = H2 at u2 hLJ ⊢
    have u12 := u1.trans u2
    have nLAp : LA ≠ p := fun e => hP.neP nLA e.symm
    have nLJp : LJ ≠ p := fun e => (hP.sm u1).neP nLJ e.symm
    have ksA2 := ksA.go fun _ _ e => u12 _ _ e
    have ksJ2 := ksJ.go fun _ _ e => u2 _ _ e
    have hLA2 := u2 _ _ hLA
    have lA : (below hs (cnA rs)).length ≤ 96 := below_len96 hd.h6 fun h m => (cn h m).1.2
    have lJ : (below hs (cnJ rs)).length ≤ 96 := below_len96 hd.h6 fun h m => (cn h m).2.2
    have okb : ∀ {c : Str → Nat}, ∀ k ∈ below hs c, PyData.strOk k.1 = true := fun k m => hd.ok _ (mem_below.mp m).1
    generalize bsA.map V.ref = uA at hLA2 ksA2
    generalize bsJ.map V.ref = uJ at hLJ ksJ2
    have st2 : Stp p c H H2 := ⟨hP.sm u12, fun b o _ e => u12 b o e⟩
    refine ⟨_, rfl, Nat.zero_le _, fun Lx nLx => ?_⟩
    have v1 := same_upd (o := .lst []) nLx
    refine ⟨_, .list [], Dp.lst (SqL.of (v1 _ _ hLA2)) ((ksA2.go fun _ _ e => v1 _ _ e).dqs).dp, Dp.lst (SqL.of upd_same) .nil, ks_shaped okb, rfl, _, rfl, ?_⟩
    rw [ks_nil]
    generalize upd H2 Lx (.lst []) = H3 at v1 ⊢
    have st3 := st2.sm v1
    refine ite2 (fun z => iteT ?_) (fun z => ?_)
    · exact q _ st3
    refine ⟨_, rfl, Nat.zero_le _, fun Ly nLy => ?_⟩
    have v2 := same_upd (o := .lst []) nLy
    refine ⟨_, .list [], Dp.lst (SqL.of (v2 _ _ (v1 _ _ hLJ))) ((ksJ2.go fun _ _ e => v2 _ _ (v1 _ _ e)).dqs).dp, Dp.lst (SqL.of upd_same) .nil, ks_shaped okb, rfl, _, rfl, ?_⟩
    rw [ks_nil]
    generalize upd H3 Ly (.lst []) = H4 at v2 ⊢
    have st4 := st3.sm v2
    have v12 := v1.trans v2
    refine ite2 (fun z2 => ?_) (fun z2 => ?_)
    · exact q _ st4
    have pA : 0 < uA.length := by
      rw [ksA2.1]
      cases e : below hs (cnA rs) with
      | nil => rw [e] at z; exact absurd rfl z
      | cons => exact Nat.succ_pos _
    have pJ : 0 < uJ.length := by
      rw [ksJ2.1]
      cases e : below hs (cnJ rs) with
      | nil => rw [e] at z2; exact absurd rfl z2
      | cons => exact Nat.succ_pos _
    have lA2 := ksA2.1
    have lJ2 := ksJ2.1
    refine ⟨_, rfl, _, rfl, _, rfl, LA, _, rfl, .inl (SqL.of (v12 _ _ hLA2)), p, c, _, rfl, st4.1, by omega, Nat.lt_of_le_of_lt (show _ ≤ 96 by omega) (by decide), fun i1 G3 i10 i11 t3 => ?_⟩
    have hlA : i1.toNat < (below hs (cnA rs)).length := by omega
    obtain ⟨b, e1, e2⟩ := ksA2.2 i1.toNat _ (List.getElem?_eq_getElem hlA)
    have ma := List.getElem_mem hlA
    generalize (below hs (cnA rs))[i1.toNat] = a at e2 ma
    refine ⟨LA, _, i1, _, rfl, rfl, SqL.of (t3.2 LA _ nLAp (v12 _ _ hLA2)), at_any (j := i1.toNat) (by omega) e1, ?_⟩
    refine ⟨_, rfl, _, rfl, _, rfl, LJ, _, rfl, .inl (SqL.of (t3.2 LJ _ nLJp (v12 _ _ hLJ))), p, c, _, rfl, t3.1, by omega, Nat.lt_of_le_of_lt (show _ ≤ 96 by omega) (by decide), fun i2 G4 i20 i21 t4 => ?_⟩
    have hlJ : i2.toNat < (below hs (cnJ rs)).length := by omega
    obtain ⟨b2, e3, e4⟩ := ksJ2.2 i2.toNat _ (List.getElem?_eq_getElem hlJ)
    have mj := List.getElem_mem hlJ
    generalize (below hs (cnJ rs))[i2.toNat] = j at e4 mj
    have t34 := t3.trans t4
    refine ⟨LJ, _, i2, _, rfl, rfl, SqL.of (t34.2 LJ _ nLJp (v12 _ _ hLJ)), at_any (j := i2.toNat) (by omega) e3, ?_⟩
    have st5 := st4.trans t34
    have hb : G4 b = some (.tup ((Gr.keyOf a).map kV)) := t34.tup st4.1 (v12 _ _ e2)
    have hb2 : G4 b2 = some (.tup ((Gr.keyOf j).map kV)) := t34.tup st4.1 (v12 _ _ e4)
    have sM := StM.stp st5 hP
    have hd5 := sM.hand hP nlp hd
    have th5 := sM.there hP hth
    have wA : WasA hs ts a := wasA_memb mem (was_a ma fun h mh => (cn h mh).1.1)
    have wJ : WasJ hs ts j := wasJ_memb mem (was_j mj fun h mh => (cn h mh).2.1)
    refine ⟨_, rfl, _, rfl, _, rfl, _, rfl, fun _ => False, t, l, b, b2, a, j, hs, gs, xs, ts.map rowD, rfl, hd5.ask hd5.lst, hb, hb2, (fun rs1 B1 e1 => by rw [← rowD_inj e1]; exact ⟨wA, wJ⟩), (fun rs1 G5 s5 _ _ B1 e1 => ?_), hd5.book.refuse⟩
    obtain rfl := rowD_inj e1
    refine ⟨_, rfl, _, rfl, _, rfl, d, b, b2, a, j, t, hs, rs, dA, dJ, dO, tb, kA, kJ, kO, rfl, ⟨th5.1.same s5, (let ⟨ta, e⟩ := th5.2.1; ⟨ta, s5 _ _ e⟩), th5.2.2⟩, Bk, s5 _ _ hb, s5 _ _ hb2, ma, mj, fun G6 s6 => ?_⟩
    rw [mayB_memb mem (hd.book.uniq (.inl rfl)) (hd.book.uniq (.inr rfl))]
    exact ⟨_, rfl, q _ (st5.sm (s5.trans s6))⟩
theorem flat_take {rs : List Row} {n k : Nat} (hn : 0 < n) (hk : rs.length ≤ k) (r : Row) : r ∈ rs ↔ r ∈ ((List.replicate n rs).flatten).take k := by
  constructor
  · intro m
    obtain ⟨n', rfl⟩ : ∃ n', n = n' + 1 := ⟨n - 1, by omega⟩
    rw [List.replicate_succ, List.flatten_cons, List.take_append]
    refine List.mem_append_left _ ?_
    rw [List.take_of_length_le hk]
    exact m
  · intro m
    have m := List.mem_of_mem_take m
    obtain ⟨l, ml, mr⟩ := List.mem_flatten.mp m
    rw [List.eq_of_mem_replicate ml] at mr
    exact mr
def sp_law (af : Nat → Addr) (K : PySem.W.Frag) : Sp := fun vs H Q _ => ∃ (a : Addr) (ns : List Int), vs = [.ref a] ∧ SqL K H a (ns.map V.int) ∧ ns.length ≤ 63 ∧ Tbs af H ∧ ∀ H', Q (.bl true) H'
set_option maxHeartbeats 16000000 in
theorem ok_law (T : Txt K mg af fd) (B : TxtB base mg af) : FnOk P w K mg base CX0 11 (af 64) (fd 64) ["script"] (sp_law af K) := by
  refine T.F_law.ok sc_law (fun vs H Q E h => ?_) (fun cdv A outer s H vs Q E hr h => ?_)
  · obtain ⟨a, ns, rfl, _⟩ := h
    rfl
  · obtain ⟨a, ns, rfl, hS, hlen, tbs, q⟩ := h
    refine ⟨_, (pss_cons (ps_set (i := 1) sc_law.nd rfl (by first | exact Or.inl rfl | exact Or.inr rfl) (pe_call (ok_l_open T) (hr.mono (by first | decide | omega)) (by rfl) T.g_l_open T.F_l_open.kp T.b_l_open .nil pass0 (pa_cons (pv 0) pa_nil)))
        (pss_cons (ps_set (i := 2) sc_law.nd rfl (by first | exact Or.inl rfl | exact Or.inr rfl) (pe_call (ok_l_town T) (hr.mono (by first | decide | omega)) (by rfl) T.g_l_town T.F_l_town.kp T.b_l_town .nil pass0 (pa_cons (pv 1) (pa_cons pe_int pa_nil))))
        (pss_cons (ps_for PassesOwn.never rfl (pi_range1 (by rfl) T.m_range (pa_cons pe_int pa_nil)) (pg_name (i := 3) sc_law.nd rfl (by first | exact Or.inl rfl | exact Or.inr rfl)) (pss_cons (ps_asg (pe_call (ok_l_book T) (hr.mono (by first | decide | omega)) (by rfl) T.g_l_book T.F_l_book.kp T.b_l_book .nil pass0 (pa_cons (pv 1) (pa_cons (pv 2) (pa_cons pe_int (pa_cons pe_int (pa_cons pe_int (pa_cons pe_int (pa_cons pe_int pa_nil)))))))) (pg_tup rfl (pgs_cons (pg_name (i := 4) sc_law.nd rfl (by first | exact Or.inl rfl | exact Or.inr rfl)) (pgs_cons (pg_name (i := 5) sc_law.nd rfl (by first | exact Or.inl rfl | exact Or.inr rfl)) pgs_nil))))
        (pss_cons (ps_set (i := 6) sc_law.nd rfl (by first | exact Or.inl rfl | exact Or.inr rfl) (pe_callTy call_list_of (by rfl) T.m_list (by decide +kernel) (pa_cons (pv 5) pa_nil)))
        (pss_cons (ps_set (i := 7) sc_law.nd rfl (by first | exact Or.inl rfl | exact Or.inr rfl) (pe_call (ok_l_there T) (hr.mono (by first | decide | omega)) (by rfl) T.g_l_there T.F_l_there.kp T.b_l_there .nil pass0 (pa_cons (pv 2) (pa_cons (pv 5) pa_nil))))
        (pss_cons (ps_if (PW.pt (pw_or (pt_not (pt_val (pe_call (ok_l_drawn_right T B) (hr.mono (by first | decide | omega)) (by rfl) T.g_l_drawn_right T.F_l_drawn_right.kp T.b_l_drawn_right .nil pass0 (pa_cons (pv 1) (pa_cons (pv 2) (pa_cons (pv 6) (pa_cons (pv 7) pa_nil))))))) (pw_or1 (pt_cmpR (op_neD hr.units) (pv 6) (pv 5) (nomark _))))) (pss_one (ps_ret pe_bl)) pss_nil)
        (pss_one (ps_if (PW.pt (pw_and (pt_cmpR op_eq (pv 3) pe_int (nomark _)) (pw_and (pt_cmpR (op_neD hr.units) (pv 5) (pe_lst pa_nil) (nomark _)) (pw_and1 (pt_not (pt_val (pe_call (ok_l_long_right T) (hr.mono (by first | decide | omega)) (by rfl) T.g_l_long_right T.F_l_long_right.kp T.b_l_long_right .nil pass0 (pa_cons (pv 1) (pa_cons (pv 2) (pa_cons (pe_slice sl_list (pe_op op_rep (pv 5) pe_int) po_none (po_some pe_int)) (pa_cons (pv 7) pa_nil))))))))))) (pss_one (ps_ret pe_bl)) pss_nil)))))))
        (pss_one (ps_ret pe_bl))))), ?_⟩
    refine ⟨_, rfl, a, ns, rfl, hS, hlen, fun p c H1 s1 np nc hP => ?_⟩
    have tb1 := tbs.same s1
    refine ⟨_, rfl, p, c, 6, rfl, hP, by decide, by decide, fun t hs gs H2 s2 ht hg => ?_⟩
    have tb2 := tb1.stp s2 hP
    have hok : ∀ h ∈ hs, PyData.strOk h = true := fun h m => (hg.hou h m).ok
    have l6 : hs.length ≤ 6 := hg.few
    refine ⟨3, rfl, by decide, by decide, for_range (lo := 0) (n := 3) (fun i σ G => (∃ v3 v4 v5 v6 v7 : Option V, σ = [some (.ref a), some (.ref p), some (.ref t), v3, v4, v5, v6, v7]) ∧ Pen G p c ∧ Tbs af G ∧ TownAt G t hs gs)
      ⟨⟨none, none, none, none, none, rfl⟩, s2.1, tb2, ht⟩ ?_ ?_⟩
    · rintro i σ H3 hi ⟨⟨v3, v4, v5, v6, v7, rfl⟩, hP3, tb3, ht3⟩
      refine ⟨_, rfl, _, rfl, p, c, t, hs, gs, 6, 3, 10, 3, 3, rfl, hP3, ht3, hg, by decide, by decide, by decide, by decide, by decide, by decide, by decide, by decide, by decide, fun b w l xs rws H4 s4 b4 => ?_⟩
      refine ⟨b, _, rfl, SqT.of b4.tup, rfl, _, _, rfl, _, _, rfl, rfl, ?_⟩
      have ht4 := s4.town hP3 ht3
      have tb4 := tb3.stp s4 hP3
      have nlp : l ≠ p := fun e => hP3.neP b4.new e.symm
      have len28 : rws.length ≤ 28 := by have := b4.len; omega
      have th : ∀ r ∈ rws, Th 3 3000 (rowD r) := fun r m => (th_tup (row_th hg.hou (b4.book.wf r m) (b4.book.inn r m)) (row_len7 r).2).mono (by decide) (by decide)
      have hd4 : Hand H4 t l hs gs xs rws := ⟨ht4, hg.up, hg.nd, hok, l6, b4.lst, b4.rows, b4.book, (fun x m => by obtain ⟨r, mr, rfl⟩ := List.mem_map.mp m; exact th r mr), by omega⟩
      refine ⟨_, rfl, l, _, rfl, .inl (SqL.of b4.lst), fun m nm => ?_⟩
      have u5 := same_upd (o := .lst xs) nm
      have hm : (upd H4 m (.lst xs)) m = some (.lst xs) := upd_same
      generalize upd H4 m (.lst xs) = H5 at u5 hm ⊢
      have hd5 := hd4.same u5
      have P5 := s4.1.sm u5
      have nmp : m ≠ p := fun e => s4.1.neP nm e.symm
      refine ⟨_, rfl, _, rfl, t, l, hs, gs, xs, rws, rfl, hd5.town, hd5.lst, hd5.rows, by omega, hd5.book, l6, hg.nd, fun d dA dJ dO tb kA kJ kO H6 s6 _ _ _ _ th6 => ?_⟩
      have hd6 := hd5.same s6
      have P6 := P5.sm s6
      have hdm : Hand H6 t m hs gs xs rws := ⟨hd6.town, hd6.up, hd6.nd, hd6.ok, hd6.h6, s6 _ _ hm, hd6.rows, hd6.book, hd6.ths, hd6.len⟩
      have a6 : At20 af p c H6 t m d hs gs xs rws dA dJ dO tb kA kJ kO := ⟨P6, hdm, nmp, th6, (tb4.same u5).same s6⟩
      refine ⟨_, rfl, _, rfl, _, rfl, _, rfl, p, c, t, m, d, hs, gs, xs, rws, dA, dJ, dO, tb, kA, kJ, kO, rfl, a6, fun H7 s7 => ?_⟩
      have a7 := a6.go s7
      have hd7 := s7.hand P6 nlp hd6
      have th7 := s7.there P6 th6
      refine ⟨true, rfl, iteF ?_⟩
      refine ⟨_, rfl, _, rfl, hd7.ne a7.hand.lst ⟨_, rfl, iteF ?_⟩⟩
      refine ⟨_, rfl, rfl, _, rfl, ite2 (fun z => ?_) (fun z => iteF ?_)⟩
      rotate_left
      · exact ⟨⟨_, _, _, _, _, rfl⟩, s7.pen, a7.tbs, a7.hand.town⟩
      refine ⟨_, rfl, Nat.zero_le _, fun Lx nLx => ?_⟩
      have v1 := same_upd (o := .lst []) nLx
      have hd8 := hd7.same v1
      refine ⟨_, .list [], Dp.lst (SqL.of hd8.lst) (dqs_rows (Ex := fun _ => False) hd8.rows).dp, Dp.lst (SqL.of upd_same) .nil, hd8.shaped, rfl, _, rfl, ?_⟩
      have P8 := s7.pen.sm v1
      have tb8 := a7.tbs.same v1
      have th8 := (StM.same v1 s7.pen).there s7.pen th7
      generalize upd H7 Lx (.lst []) = H8 at v1 hd8 P8 tb8 th8 ⊢
      refine ite2 (fun z2 => ?_) (fun z2 => iteF ?_)
      rotate_left
      · exact ⟨⟨_, _, _, _, _, rfl⟩, P8, tb8, hd8.town⟩
      refine ⟨_, rfl, _, rfl, _, rfl, l, 200, xs, rfl, rfl, hd8.lst, by decide, by decide, Nat.le_trans (show xs.length * (200 : Int).toNat ≤ 28 * 200 from Nat.mul_le_mul (by have := b4.rows.1; omega) (Nat.le_refl _)) (by decide), fun M nM => ?_⟩
      have v2 := same_upd (o := .lst (List.replicate (200 : Int).toNat xs).flatten) nM
      have hM : (upd H8 M (.lst (List.replicate (200 : Int).toNat xs).flatten)) M = some (.lst (List.replicate 200 xs).flatten) := upd_same
      generalize upd H8 M (.lst (List.replicate (200 : Int).toNat xs).flatten) = H9 at v2 hM ⊢
      refine ⟨_, rfl, M, _, rfl, SqL.of hM, fun N nN => ?_⟩
      have v3 := same_upd (o := .lst (cutV (List.replicate 200 xs).flatten none (some 200))) nN
      have hN : (upd H9 N (.lst (cutV (List.replicate 200 xs).flatten none (some 200)))) N = some (.lst ((List.replicate 200 xs).flatten.take 200)) := by rw [upd_same]; congr 2; exact cut_to _ 200
      generalize upd H9 N (.lst (cutV (List.replicate 200 xs).flatten none (some 200))) = H10 at v3 hN ⊢
      have v23 := v2.trans v3
      have hd10 := hd8.same v23
      have P10 := P8.sm v23
      have nNp : N ≠ p := fun e => (P8.sm v2).neP nN e.symm
      have mem : ∀ r, r ∈ rws ↔ r ∈ ((List.replicate 200 rws).flatten).take 200 := fun r => flat_take (by decide) (by omega) r
      have hdN : Hand H10 t N hs gs ((List.replicate 200 xs).flatten.take 200) (((List.replicate 200 rws).flatten).take 200) :=
        ⟨hd10.town, hd10.up, hd10.nd, hd10.ok, hd10.h6, hN, rws_take (rws_flat hd10.rows 200) 200, b4.book.sub fun r m => (mem r).mpr m, (fun x m => by obtain ⟨r, mr, rfl⟩ := List.mem_map.mp m; exact th r ((mem r).mpr mr)), by rw [List.length_take]; omega⟩
      refine ⟨_, rfl, p, c, t, N, d, hs, gs, _, rws, _, dA, dJ, dO, tb, kA, kJ, kO, rfl, P10, hdN, nNp, (StM.same v23 P8).there P8 th8, b4.book, mem, fun H11 s11 => ?_⟩
      refine ⟨_, rfl, iteF ?_⟩
      exact ⟨⟨_, _, _, _, _, rfl⟩, s11.1, (tb8.same v23).stp s11 P10, s11.town P10 hd10.town⟩
    · rintro σ H3 ⟨⟨v3, v4, v5, v6, v7, rfl⟩, _⟩
      exact q H3
end
theorem all_mk {l : PySem.W.OpenLaw} {q : Program} {w : World} {K : PySem.W.Frag} {h : Heap} {mg : Str → Option Value} {fa : Addr} (X : K.In h) (G : h.Ns mainGlobals mg) (hfa : mg "law" = some (.ref fa))
    {f0 f1 f2 f3 f4 f5 f6 f7 f8 f9 f10 f11 f12 f13 f14 f15 f16 f17 f18 f19 f20 f21 f22 f23 f24 f25 f26 f27 f28 f29 f30 f31 f32 f33 f34 f35 f36 f37 f38 f39 f40 f41 f42 f43 f44 f45 f46 f47 f48 f49 f50 f51 f52 f53 f54 f55 f56 f57 f58 f59 f60 f61 f62 f63 f64 : Addr}
    {od0 an0 od1 an1 od2 an2 od3 an3 od4 an4 od5 an5 od6 an6 od7 an7 od8 an8 od9 an9 od10 an10 od11 an11 od12 an12 od13 an13 od14 an14 od15 an15 od16 an16 od17 an17 od18 an18 od19 an19 od20 an20 od21 an21 od22 an22 od23 an23 od24 an24 od25 an25 od26 an26 od27 an27 od28 an28 od29 an29 od30 an30 od31 an31 od32 an32 od33 an33 od34 an34 od35 an35 od36 an36 od37 an37 od38 an38 od39 an39 od40 an40 od41 an41 od42 an42 od43 an43 od44 an44 od45 an45 od46 an46 od47 an47 od48 an48 od49 an49 od50 an50 od51 an51 od52 an52 od53 an53 od54 an54 od55 an55 od56 an56 od57 an57 od58 an58 od59 an59 od60 an60 od61 an61 od62 an62 od63 an63 od64 an64 : Option Addr} {sl0 sl1 sl2 sl3 sl4 sl5 sl6 sl7 sl8 sl9 sl10 sl11 sl12 sl13 sl14 sl15 sl16 sl17 sl18 sl19 sl20 sl21 sl22 sl23 sl24 sl25 sl26 sl27 sl28 sl29 sl30 sl31 sl32 sl33 sl34 sl35 sl36 sl37 sl38 sl39 sl40 sl41 sl42 sl43 sl44 sl45 sl46 sl47 sl48 sl49 sl50 sl51 sl52 sl53 sl54 sl55 sl56 sl57 sl58 sl59 sl60 sl61 sl62 sl63 sl64 : Array (Option Value)} {oc0 kV0 dc0 pm0 ct0 cd0 oc1 kV1 dc1 pm1 ct1 cd1 oc2 kV2 dc2 pm2 ct2 cd2 oc3 kV3 dc3 pm3 ct3 cd3 oc4 kV4 dc4 pm4 ct4 cd4 oc5 kV5 dc5 pm5 ct5 cd5 oc6 kV6 dc6 pm6 ct6 cd6 oc7 kV7 dc7 pm7 ct7 cd7 oc8 kV8 dc8 pm8 ct8 cd8 oc9 kV9 dc9 pm9 ct9 cd9 oc10 kV10 dc10 pm10 ct10 cd10 oc11 kV11 dc11 pm11 ct11 cd11 oc12 kV12 dc12 pm12 ct12 cd12 oc13 kV13 dc13 pm13 ct13 cd13 oc14 kV14 dc14 pm14 ct14 cd14 oc15 kV15 dc15 pm15 ct15 cd15 oc16 kV16 dc16 pm16 ct16 cd16 oc17 kV17 dc17 pm17 ct17 cd17 oc18 kV18 dc18 pm18 ct18 cd18 oc19 kV19 dc19 pm19 ct19 cd19 oc20 kV20 dc20 pm20 ct20 cd20 oc21 kV21 dc21 pm21 ct21 cd21 oc22 kV22 dc22 pm22 ct22 cd22 oc23 kV23 dc23 pm23 ct23 cd23 oc24 kV24 dc24 pm24 ct24 cd24 oc25 kV25 dc25 pm25 ct25 cd25 oc26 kV26 dc26 pm26 ct26 cd26 oc27 kV27 dc27 pm27 ct27 cd27 oc28 kV28 dc28 pm28 ct28 cd28 oc29 kV29 dc29 pm29 ct29 cd29 oc30 kV30 dc30 pm30 ct30 cd30 oc31 kV31 dc31 pm31 ct31 cd31 oc32 kV32 dc32 pm32 ct32 cd32 oc33 kV33 dc33 pm33 ct33 cd33 oc34 kV34 dc34 pm34 ct34 cd34 oc35 kV35 dc35 pm35 ct35 oc36 kV36 dc36 pm36 ct36 cd36 oc37 kV37 dc37 pm37 ct37 cd37 oc38 kV38 dc38 pm38 ct38 cd38 oc39 kV39 dc39 pm39 ct39 cd39 oc40 kV40 dc40 pm40 ct40 cd40 oc41 kV41 dc41 pm41 ct41 cd41 oc42 kV42 dc42 pm42 ct42 cd42 oc43 kV43 dc43 pm43 ct43 cd43 oc44 kV44 dc44 pm44 ct44 cd44 oc45 kV45 dc45 pm45 ct45 cd45 oc46 kV46 dc46 pm46 ct46 cd46 oc47 kV47 dc47 pm47 ct47 cd47 oc48 kV48 dc48 pm48 ct48 cd48 oc49 kV49 dc49 pm49 ct49 cd49 oc50 kV50 dc50 pm50 ct50 cd50 oc51 kV51 dc51 pm51 ct51 cd51 oc52 kV52 dc52 pm52 ct52 cd52 oc53 kV53 dc53 pm53 ct53 cd53 oc54 kV54 dc54 pm54 ct54 cd54 oc55 kV55 dc55 pm55 ct55 cd55 oc56 kV56 dc56 pm56 ct56 cd56 oc57 kV57 dc57 pm57 ct57 cd57 oc58 kV58 dc58 pm58 ct58 cd58 oc59 kV59 dc59 pm59 ct59 cd59 oc60 kV60 dc60 pm60 ct60 cd60 oc61 kV61 dc61 pm61 ct61 cd61 oc62 kV62 dc62 pm62 ct62 cd62 oc63 kV63 dc63 pm63 ct63 cd63 oc64 kV64 dc64 pm64 ct64 cd64 : Value}
    (a0 : PySem.W.nsIn K mainGlobals "is_whole_from" = some (some (.ref f0))) (l0 : K.lookup f0 = some ⟨oc0, od0, .func (PySem.W.fnOf "is_whole_from" "is_whole_from" (defArgs s_is_whole_from) (defBody s_is_whole_from) (defScope s_is_whole_from) .none kV0 dc0 pm0 an0 cd0 ct0), sl0⟩) (c0 : PySem.W.codeIn K cd0 "is_whole_from" = true) (k0 : PySem.W.keepIn K (.ref f0) = true)
    (a1 : PySem.W.nsIn K mainGlobals "is_time" = some (some (.ref f1))) (l1 : K.lookup f1 = some ⟨oc1, od1, .func (PySem.W.fnOf "is_time" "is_time" (defArgs s_is_time) (defBody s_is_time) (defScope s_is_time) .none kV1 dc1 pm1 an1 cd1 ct1), sl1⟩) (c1 : PySem.W.codeIn K cd1 "is_time" = true) (k1 : PySem.W.keepIn K (.ref f1) = true)
    (a2 : PySem.W.nsIn K mainGlobals "is_number" = some (some (.ref f2))) (l2 : K.lookup f2 = some ⟨oc2, od2, .func (PySem.W.fnOf "is_number" "is_number" (defArgs s_is_number) (defBody s_is_number) (defScope s_is_number) .none kV2 dc2 pm2 an2 cd2 ct2), sl2⟩) (c2 : PySem.W.codeIn K cd2 "is_number" = true) (k2 : PySem.W.keepIn K (.ref f2) = true)
    (a3 : PySem.W.nsIn K mainGlobals "is_count" = some (some (.ref f3))) (l3 : K.lookup f3 = some ⟨oc3, od3, .func (PySem.W.fnOf "is_count" "is_count" (defArgs s_is_count) (defBody s_is_count) (defScope s_is_count) .none kV3 dc3 pm3 an3 cd3 ct3), sl3⟩) (c3 : PySem.W.codeIn K cd3 "is_count" = true) (k3 : PySem.W.keepIn K (.ref f3) = true)
    (a4 : PySem.W.nsIn K mainGlobals "is_span" = some (some (.ref f4))) (l4 : K.lookup f4 = some ⟨oc4, od4, .func (PySem.W.fnOf "is_span" "is_span" (defArgs s_is_span) (defBody s_is_span) (defScope s_is_span) .none kV4 dc4 pm4 an4 cd4 ct4), sl4⟩) (c4 : PySem.W.codeIn K cd4 "is_span" = true) (k4 : PySem.W.keepIn K (.ref f4) = true)
    (a5 : PySem.W.nsIn K mainGlobals "is_ask_row" = some (some (.ref f5))) (l5 : K.lookup f5 = some ⟨oc5, od5, .func (PySem.W.fnOf "is_ask_row" "is_ask_row" (defArgs s_is_ask_row) (defBody s_is_ask_row) (defScope s_is_ask_row) .none kV5 dc5 pm5 an5 cd5 ct5), sl5⟩) (c5 : PySem.W.codeIn K cd5 "is_ask_row" = true) (k5 : PySem.W.keepIn K (.ref f5) = true)
    (a6 : PySem.W.nsIn K mainGlobals "is_job_row" = some (some (.ref f6))) (l6 : K.lookup f6 = some ⟨oc6, od6, .func (PySem.W.fnOf "is_job_row" "is_job_row" (defArgs s_is_job_row) (defBody s_is_job_row) (defScope s_is_job_row) .none kV6 dc6 pm6 an6 cd6 ct6), sl6⟩) (c6 : PySem.W.codeIn K cd6 "is_job_row" = true) (k6 : PySem.W.keepIn K (.ref f6) = true)
    (a7 : PySem.W.nsIn K mainGlobals "is_all_row" = some (some (.ref f7))) (l7 : K.lookup f7 = some ⟨oc7, od7, .func (PySem.W.fnOf "is_all_row" "is_all_row" (defArgs s_is_all_row) (defBody s_is_all_row) (defScope s_is_all_row) .none kV7 dc7 pm7 an7 cd7 ct7), sl7⟩) (c7 : PySem.W.codeIn K cd7 "is_all_row" = true) (k7 : PySem.W.keepIn K (.ref f7) = true)
    (a8 : PySem.W.nsIn K mainGlobals "is_row" = some (some (.ref f8))) (l8 : K.lookup f8 = some ⟨oc8, od8, .func (PySem.W.fnOf "is_row" "is_row" (defArgs s_is_row) (defBody s_is_row) (defScope s_is_row) .none kV8 dc8 pm8 an8 cd8 ct8), sl8⟩) (c8 : PySem.W.codeIn K cd8 "is_row" = true) (k8 : PySem.W.keepIn K (.ref f8) = true)
    (a9 : PySem.W.nsIn K mainGlobals "is_out_of_order" = some (some (.ref f9))) (l9 : K.lookup f9 = some ⟨oc9, od9, .func (PySem.W.fnOf "is_out_of_order" "is_out_of_order" (defArgs s_is_out_of_order) (defBody s_is_out_of_order) (defScope s_is_out_of_order) .none kV9 dc9 pm9 an9 cd9 ct9), sl9⟩) (c9 : PySem.W.codeIn K cd9 "is_out_of_order" = true) (k9 : PySem.W.keepIn K (.ref f9) = true)
    (a10 : PySem.W.nsIn K mainGlobals "do_asks_clash" = some (some (.ref f10))) (l10 : K.lookup f10 = some ⟨oc10, od10, .func (PySem.W.fnOf "do_asks_clash" "do_asks_clash" (defArgs s_do_asks_clash) (defBody s_do_asks_clash) (defScope s_do_asks_clash) .none kV10 dc10 pm10 an10 cd10 ct10), sl10⟩) (c10 : PySem.W.codeIn K cd10 "do_asks_clash" = true) (k10 : PySem.W.keepIn K (.ref f10) = true)
    (a11 : PySem.W.nsIn K mainGlobals "do_jobs_clash" = some (some (.ref f11))) (l11 : K.lookup f11 = some ⟨oc11, od11, .func (PySem.W.fnOf "do_jobs_clash" "do_jobs_clash" (defArgs s_do_jobs_clash) (defBody s_do_jobs_clash) (defScope s_do_jobs_clash) .none kV11 dc11 pm11 an11 cd11 ct11), sl11⟩) (c11 : PySem.W.codeIn K cd11 "do_jobs_clash" = true) (k11 : PySem.W.keepIn K (.ref f11) = true)
    (a12 : PySem.W.nsIn K mainGlobals "do_job_and_ask_clash" = some (some (.ref f12))) (l12 : K.lookup f12 = some ⟨oc12, od12, .func (PySem.W.fnOf "do_job_and_ask_clash" "do_job_and_ask_clash" (defArgs s_do_job_and_ask_clash) (defBody s_do_job_and_ask_clash) (defScope s_do_job_and_ask_clash) .none kV12 dc12 pm12 an12 cd12 ct12), sl12⟩) (c12 : PySem.W.codeIn K cd12 "do_job_and_ask_clash" = true) (k12 : PySem.W.keepIn K (.ref f12) = true)
    (a13 : PySem.W.nsIn K mainGlobals "does_all_row_clash" = some (some (.ref f13))) (l13 : K.lookup f13 = some ⟨oc13, od13, .func (PySem.W.fnOf "does_all_row_clash" "does_all_row_clash" (defArgs s_does_all_row_clash) (defBody s_does_all_row_clash) (defScope s_does_all_row_clash) .none kV13 dc13 pm13 an13 cd13 ct13), sl13⟩) (c13 : PySem.W.codeIn K cd13 "does_all_row_clash" = true) (k13 : PySem.W.keepIn K (.ref f13) = true)
    (a14 : PySem.W.nsIn K mainGlobals "do_alike_sorts_clash" = some (some (.ref f14))) (l14 : K.lookup f14 = some ⟨oc14, od14, .func (PySem.W.fnOf "do_alike_sorts_clash" "do_alike_sorts_clash" (defArgs s_do_alike_sorts_clash) (defBody s_do_alike_sorts_clash) (defScope s_do_alike_sorts_clash) .none kV14 dc14 pm14 an14 cd14 ct14), sl14⟩) (c14 : PySem.W.codeIn K cd14 "do_alike_sorts_clash" = true) (k14 : PySem.W.keepIn K (.ref f14) = true)
    (a15 : PySem.W.nsIn K mainGlobals "do_clash" = some (some (.ref f15))) (l15 : K.lookup f15 = some ⟨oc15, od15, .func (PySem.W.fnOf "do_clash" "do_clash" (defArgs s_do_clash) (defBody s_do_clash) (defScope s_do_clash) .none kV15 dc15 pm15 an15 cd15 ct15), sl15⟩) (c15 : PySem.W.codeIn K cd15 "do_clash" = true) (k15 : PySem.W.keepIn K (.ref f15) = true)
    (a16 : PySem.W.nsIn K mainGlobals "need_rows" = some (some (.ref f16))) (l16 : K.lookup f16 = some ⟨oc16, od16, .func (PySem.W.fnOf "need_rows" "need_rows" (defArgs s_need_rows) (defBody s_need_rows) (defScope s_need_rows) .none kV16 dc16 pm16 an16 cd16 ct16), sl16⟩) (c16 : PySem.W.codeIn K cd16 "need_rows" = true) (k16 : PySem.W.keepIn K (.ref f16) = true)
    (a17 : PySem.W.nsIn K mainGlobals "need_book" = some (some (.ref f17))) (l17 : K.lookup f17 = some ⟨oc17, od17, .func (PySem.W.fnOf "need_book" "need_book" (defArgs s_need_book) (defBody s_need_book) (defScope s_need_book) .none kV17 dc17 pm17 an17 cd17 ct17), sl17⟩) (c17 : PySem.W.codeIn K cd17 "need_book" = true) (k17 : PySem.W.keepIn K (.ref f17) = true)
    (a18 : PySem.W.nsIn K mainGlobals "gaps_of" = some (some (.ref f18))) (l18 : K.lookup f18 = some ⟨oc18, od18, .func (PySem.W.fnOf "gaps_of" "gaps_of" (defArgs s_gaps_of) (defBody s_gaps_of) (defScope s_gaps_of) .none kV18 dc18 pm18 an18 cd18 ct18), sl18⟩) (c18 : PySem.W.codeIn K cd18 "gaps_of" = true) (k18 : PySem.W.keepIn K (.ref f18) = true)
    (a19 : PySem.W.nsIn K mainGlobals "rows_by_number" = some (some (.ref f19))) (l19 : K.lookup f19 = some ⟨oc19, od19, .func (PySem.W.fnOf "rows_by_number" "rows_by_number" (defArgs s_rows_by_number) (defBody s_rows_by_number) (defScope s_rows_by_number) .none kV19 dc19 pm19 an19 cd19 ct19), sl19⟩) (c19 : PySem.W.codeIn K cd19 "rows_by_number" = true) (k19 : PySem.W.keepIn K (.ref f19) = true)
    (a20 : PySem.W.nsIn K mainGlobals "numbers_below" = some (some (.ref f20))) (l20 : K.lookup f20 = some ⟨oc20, od20, .func (PySem.W.fnOf "numbers_below" "numbers_below" (defArgs s_numbers_below) (defBody s_numbers_below) (defScope s_numbers_below) .none kV20 dc20 pm20 an20 cd20 ct20), sl20⟩) (c20 : PySem.W.codeIn K cd20 "numbers_below" = true) (k20 : PySem.W.keepIn K (.ref f20) = true)
    (a21 : PySem.W.nsIn K mainGlobals "asks_of_house" = some (some (.ref f21))) (l21 : K.lookup f21 = some ⟨oc21, od21, .func (PySem.W.fnOf "asks_of_house" "asks_of_house" (defArgs s_asks_of_house) (defBody s_asks_of_house) (defScope s_asks_of_house) .none kV21 dc21 pm21 an21 cd21 ct21), sl21⟩) (c21 : PySem.W.codeIn K cd21 "asks_of_house" = true) (k21 : PySem.W.keepIn K (.ref f21) = true)
    (a22 : PySem.W.nsIn K mainGlobals "jobs_of_house" = some (some (.ref f22))) (l22 : K.lookup f22 = some ⟨oc22, od22, .func (PySem.W.fnOf "jobs_of_house" "jobs_of_house" (defArgs s_jobs_of_house) (defBody s_jobs_of_house) (defScope s_jobs_of_house) .none kV22 dc22 pm22 an22 cd22 ct22), sl22⟩) (c22 : PySem.W.codeIn K cd22 "jobs_of_house" = true) (k22 : PySem.W.keepIn K (.ref f22) = true)
    (a23 : PySem.W.nsIn K mainGlobals "count_asks" = some (some (.ref f23))) (l23 : K.lookup f23 = some ⟨oc23, od23, .func (PySem.W.fnOf "count_asks" "count_asks" (defArgs s_count_asks) (defBody s_count_asks) (defScope s_count_asks) .none kV23 dc23 pm23 an23 cd23 ct23), sl23⟩) (c23 : PySem.W.codeIn K cd23 "count_asks" = true) (k23 : PySem.W.keepIn K (.ref f23) = true)
    (a24 : PySem.W.nsIn K mainGlobals "count_jobs" = some (some (.ref f24))) (l24 : K.lookup f24 = some ⟨oc24, od24, .func (PySem.W.fnOf "count_jobs" "count_jobs" (defArgs s_count_jobs) (defBody s_count_jobs) (defScope s_count_jobs) .none kV24 dc24 pm24 an24 cd24 ct24), sl24⟩) (c24 : PySem.W.codeIn K cd24 "count_jobs" = true) (k24 : PySem.W.keepIn K (.ref f24) = true)
    (a25 : PySem.W.nsIn K mainGlobals "earliest" = some (some (.ref f25))) (l25 : K.lookup f25 = some ⟨oc25, od25, .func (PySem.W.fnOf "earliest" "earliest" (defArgs s_earliest) (defBody s_earliest) (defScope s_earliest) .none kV25 dc25 pm25 an25 cd25 ct25), sl25⟩) (c25 : PySem.W.codeIn K cd25 "earliest" = true) (k25 : PySem.W.keepIn K (.ref f25) = true)
    (a26 : PySem.W.nsIn K mainGlobals "latest" = some (some (.ref f26))) (l26 : K.lookup f26 = some ⟨oc26, od26, .func (PySem.W.fnOf "latest" "latest" (defArgs s_latest) (defBody s_latest) (defScope s_latest) .none kV26 dc26 pm26 an26 cd26 ct26), sl26⟩) (c26 : PySem.W.codeIn K cd26 "latest" = true) (k26 : PySem.W.keepIn K (.ref f26) = true)
    (a27 : PySem.W.nsIn K mainGlobals "span_of_ask" = some (some (.ref f27))) (l27 : K.lookup f27 = some ⟨oc27, od27, .func (PySem.W.fnOf "span_of_ask" "span_of_ask" (defArgs s_span_of_ask) (defBody s_span_of_ask) (defScope s_span_of_ask) .none kV27 dc27 pm27 an27 cd27 ct27), sl27⟩) (c27 : PySem.W.codeIn K cd27 "span_of_ask" = true) (k27 : PySem.W.keepIn K (.ref f27) = true)
    (a28 : PySem.W.nsIn K mainGlobals "span_of_job" = some (some (.ref f28))) (l28 : K.lookup f28 = some ⟨oc28, od28, .func (PySem.W.fnOf "span_of_job" "span_of_job" (defArgs s_span_of_job) (defBody s_span_of_job) (defScope s_span_of_job) .none kV28 dc28 pm28 an28 cd28 ct28), sl28⟩) (c28 : PySem.W.codeIn K cd28 "span_of_job" = true) (k28 : PySem.W.keepIn K (.ref f28) = true)
    (a29 : PySem.W.nsIn K mainGlobals "more_of" = some (some (.ref f29))) (l29 : K.lookup f29 = some ⟨oc29, od29, .func (PySem.W.fnOf "more_of" "more_of" (defArgs s_more_of) (defBody s_more_of) (defScope s_more_of) .none kV29 dc29 pm29 an29 cd29 ct29), sl29⟩) (c29 : PySem.W.codeIn K cd29 "more_of" = true) (k29 : PySem.W.keepIn K (.ref f29) = true)
    (a30 : PySem.W.nsIn K mainGlobals "is_not_above" = some (some (.ref f30))) (l30 : K.lookup f30 = some ⟨oc30, od30, .func (PySem.W.fnOf "is_not_above" "is_not_above" (defArgs s_is_not_above) (defBody s_is_not_above) (defScope s_is_not_above) .none kV30 dc30 pm30 an30 cd30 ct30), sl30⟩) (c30 : PySem.W.codeIn K cd30 "is_not_above" = true) (k30 : PySem.W.keepIn K (.ref f30) = true)
    (a31 : PySem.W.nsIn K mainGlobals "latest_begin" = some (some (.ref f31))) (l31 : K.lookup f31 = some ⟨oc31, od31, .func (PySem.W.fnOf "latest_begin" "latest_begin" (defArgs s_latest_begin) (defBody s_latest_begin) (defScope s_latest_begin) .none kV31 dc31 pm31 an31 cd31 ct31), sl31⟩) (c31 : PySem.W.codeIn K cd31 "latest_begin" = true) (k31 : PySem.W.keepIn K (.ref f31) = true)
    (a32 : PySem.W.nsIn K mainGlobals "can_lead_in_time" = some (some (.ref f32))) (l32 : K.lookup f32 = some ⟨oc32, od32, .func (PySem.W.fnOf "can_lead_in_time" "can_lead_in_time" (defArgs s_can_lead_in_time) (defBody s_can_lead_in_time) (defScope s_can_lead_in_time) .none kV32 dc32 pm32 an32 cd32 ct32), sl32⟩) (c32 : PySem.W.codeIn K cd32 "can_lead_in_time" = true) (k32 : PySem.W.keepIn K (.ref f32) = true)
    (a33 : PySem.W.nsIn K mainGlobals "can_lead" = some (some (.ref f33))) (l33 : K.lookup f33 = some ⟨oc33, od33, .func (PySem.W.fnOf "can_lead" "can_lead" (defArgs s_can_lead) (defBody s_can_lead) (defScope s_can_lead) .none kV33 dc33 pm33 an33 cd33 ct33), sl33⟩) (c33 : PySem.W.codeIn K cd33 "can_lead" = true) (k33 : PySem.W.keepIn K (.ref f33) = true)
    (a34 : PySem.W.nsIn K mainGlobals "can_lead_to_more" = some (some (.ref f34))) (l34 : K.lookup f34 = some ⟨oc34, od34, .func (PySem.W.fnOf "can_lead_to_more" "can_lead_to_more" (defArgs s_can_lead_to_more) (defBody s_can_lead_to_more) (defScope s_can_lead_to_more) .none kV34 dc34 pm34 an34 cd34 ct34), sl34⟩) (c34 : PySem.W.codeIn K cd34 "can_lead_to_more" = true) (k34 : PySem.W.keepIn K (.ref f34) = true)
    {cc35 tt35 : Addr}
    (a35 : PySem.W.nsIn K mainGlobals "can_come_of_more" = some (some (.ref f35))) (l35 : K.lookup f35 = some ⟨oc35, od35, .func (PySem.W.fnOf "can_come_of_more" "can_come_of_more" (defArgs s_can_come_of_more) (defBody s_can_come_of_more) (defScope s_can_come_of_more) .none kV35 dc35 pm35 an35 (.ref cc35) ct35), sl35⟩) (c35 : PySem.W.codeIn K (.ref cc35) "can_come_of_more" = true) (k35 : PySem.W.keepIn K (.ref f35) = true)
    (a36 : PySem.W.nsIn K mainGlobals "may_lead" = some (some (.ref f36))) (l36 : K.lookup f36 = some ⟨oc36, od36, .func (PySem.W.fnOf "may_lead" "may_lead" (defArgs s_may_lead) (defBody s_may_lead) (defScope s_may_lead) .none kV36 dc36 pm36 an36 cd36 ct36), sl36⟩) (c36 : PySem.W.codeIn K cd36 "may_lead" = true) (k36 : PySem.W.keepIn K (.ref f36) = true)
    (a37 : PySem.W.nsIn K mainGlobals "more_jobs" = some (some (.ref f37))) (l37 : K.lookup f37 = some ⟨oc37, od37, .func (PySem.W.fnOf "more_jobs" "more_jobs" (defArgs s_more_jobs) (defBody s_more_jobs) (defScope s_more_jobs) .none kV37 dc37 pm37 an37 cd37 ct37), sl37⟩) (c37 : PySem.W.codeIn K cd37 "more_jobs" = true) (k37 : PySem.W.keepIn K (.ref f37) = true)
    (a38 : PySem.W.nsIn K mainGlobals "more_asks" = some (some (.ref f38))) (l38 : K.lookup f38 = some ⟨oc38, od38, .func (PySem.W.fnOf "more_asks" "more_asks" (defArgs s_more_asks) (defBody s_more_asks) (defScope s_more_asks) .none kV38 dc38 pm38 an38 cd38 ct38), sl38⟩) (c38 : PySem.W.codeIn K cd38 "more_asks" = true) (k38 : PySem.W.keepIn K (.ref f38) = true)
    (a39 : PySem.W.nsIn K mainGlobals "_law_spread" = some (some (.ref f39))) (l39 : K.lookup f39 = some ⟨oc39, od39, .func (PySem.W.fnOf "_law_spread" "_law_spread" (defArgs s_l_spread) (defBody s_l_spread) (defScope s_l_spread) .none kV39 dc39 pm39 an39 cd39 ct39), sl39⟩) (c39 : PySem.W.codeIn K cd39 "_law_spread" = true) (k39 : PySem.W.keepIn K (.ref f39) = true)
    (a40 : PySem.W.nsIn K mainGlobals "_law_open" = some (some (.ref f40))) (l40 : K.lookup f40 = some ⟨oc40, od40, .func (PySem.W.fnOf "_law_open" "_law_open" (defArgs s_l_open) (defBody s_l_open) (defScope s_l_open) .none kV40 dc40 pm40 an40 cd40 ct40), sl40⟩) (c40 : PySem.W.codeIn K cd40 "_law_open" = true) (k40 : PySem.W.keepIn K (.ref f40) = true)
    (a41 : PySem.W.nsIn K mainGlobals "_law_take" = some (some (.ref f41))) (l41 : K.lookup f41 = some ⟨oc41, od41, .func (PySem.W.fnOf "_law_take" "_law_take" (defArgs s_l_take) (defBody s_l_take) (defScope s_l_take) .none kV41 dc41 pm41 an41 cd41 ct41), sl41⟩) (c41 : PySem.W.codeIn K cd41 "_law_take" = true) (k41 : PySem.W.keepIn K (.ref f41) = true)
    (a42 : PySem.W.nsIn K mainGlobals "_law_names" = some (some (.ref f42))) (l42 : K.lookup f42 = some ⟨oc42, od42, .func (PySem.W.fnOf "_law_names" "_law_names" (defArgs s_l_names) (defBody s_l_names) (defScope s_l_names) .none kV42 dc42 pm42 an42 cd42 ct42), sl42⟩) (c42 : PySem.W.codeIn K cd42 "_law_names" = true) (k42 : PySem.W.keepIn K (.ref f42) = true)
    (a43 : PySem.W.nsIn K mainGlobals "_law_town" = some (some (.ref f43))) (l43 : K.lookup f43 = some ⟨oc43, od43, .func (PySem.W.fnOf "_law_town" "_law_town" (defArgs s_l_town) (defBody s_l_town) (defScope s_l_town) .none kV43 dc43 pm43 an43 cd43 ct43), sl43⟩) (c43 : PySem.W.codeIn K cd43 "_law_town" = true) (k43 : PySem.W.keepIn K (.ref f43) = true)
    (a44 : PySem.W.nsIn K mainGlobals "_law_room" = some (some (.ref f44))) (l44 : K.lookup f44 = some ⟨oc44, od44, .func (PySem.W.fnOf "_law_room" "_law_room" (defArgs s_l_room) (defBody s_l_room) (defScope s_l_room) .none kV44 dc44 pm44 an44 cd44 ct44), sl44⟩) (c44 : PySem.W.codeIn K cd44 "_law_room" = true) (k44 : PySem.W.keepIn K (.ref f44) = true)
    (a45 : PySem.W.nsIn K mainGlobals "_law_job" = some (some (.ref f45))) (l45 : K.lookup f45 = some ⟨oc45, od45, .func (PySem.W.fnOf "_law_job" "_law_job" (defArgs s_l_job) (defBody s_l_job) (defScope s_l_job) .none kV45 dc45 pm45 an45 cd45 ct45), sl45⟩) (c45 : PySem.W.codeIn K cd45 "_law_job" = true) (k45 : PySem.W.keepIn K (.ref f45) = true)
    (a46 : PySem.W.nsIn K mainGlobals "_law_world" = some (some (.ref f46))) (l46 : K.lookup f46 = some ⟨oc46, od46, .func (PySem.W.fnOf "_law_world" "_law_world" (defArgs s_l_world) (defBody s_l_world) (defScope s_l_world) .none kV46 dc46 pm46 an46 cd46 ct46), sl46⟩) (c46 : PySem.W.codeIn K cd46 "_law_world" = true) (k46 : PySem.W.keepIn K (.ref f46) = true)
    (a47 : PySem.W.nsIn K mainGlobals "_law_called" = some (some (.ref f47))) (l47 : K.lookup f47 = some ⟨oc47, od47, .func (PySem.W.fnOf "_law_called" "_law_called" (defArgs s_l_called) (defBody s_l_called) (defScope s_l_called) .none kV47 dc47 pm47 an47 cd47 ct47), sl47⟩) (c47 : PySem.W.codeIn K cd47 "_law_called" = true) (k47 : PySem.W.keepIn K (.ref f47) = true)
    (a48 : PySem.W.nsIn K mainGlobals "_law_bases" = some (some (.ref f48))) (l48 : K.lookup f48 = some ⟨oc48, od48, .func (PySem.W.fnOf "_law_bases" "_law_bases" (defArgs s_l_bases) (defBody s_l_bases) (defScope s_l_bases) .none kV48 dc48 pm48 an48 cd48 ct48), sl48⟩) (c48 : PySem.W.codeIn K cd48 "_law_bases" = true) (k48 : PySem.W.keepIn K (.ref f48) = true)
    (a49 : PySem.W.nsIn K mainGlobals "_law_all_rows" = some (some (.ref f49))) (l49 : K.lookup f49 = some ⟨oc49, od49, .func (PySem.W.fnOf "_law_all_rows" "_law_all_rows" (defArgs s_l_all_rows) (defBody s_l_all_rows) (defScope s_l_all_rows) .none kV49 dc49 pm49 an49 cd49 ct49), sl49⟩) (c49 : PySem.W.codeIn K cd49 "_law_all_rows" = true) (k49 : PySem.W.keepIn K (.ref f49) = true)
    (a50 : PySem.W.nsIn K mainGlobals "_law_left" = some (some (.ref f50))) (l50 : K.lookup f50 = some ⟨oc50, od50, .func (PySem.W.fnOf "_law_left" "_law_left" (defArgs s_l_left) (defBody s_l_left) (defScope s_l_left) .none kV50 dc50 pm50 an50 cd50 ct50), sl50⟩) (c50 : PySem.W.codeIn K cd50 "_law_left" = true) (k50 : PySem.W.keepIn K (.ref f50) = true)
    (a51 : PySem.W.nsIn K mainGlobals "_law_do_clash" = some (some (.ref f51))) (l51 : K.lookup f51 = some ⟨oc51, od51, .func (PySem.W.fnOf "_law_do_clash" "_law_do_clash" (defArgs s_l_do_clash) (defBody s_l_do_clash) (defScope s_l_do_clash) .none kV51 dc51 pm51 an51 cd51 ct51), sl51⟩) (c51 : PySem.W.codeIn K cd51 "_law_do_clash" = true) (k51 : PySem.W.keepIn K (.ref f51) = true)
    (a52 : PySem.W.nsIn K mainGlobals "_law_fair" = some (some (.ref f52))) (l52 : K.lookup f52 = some ⟨oc52, od52, .func (PySem.W.fnOf "_law_fair" "_law_fair" (defArgs s_l_fair) (defBody s_l_fair) (defScope s_l_fair) .none kV52 dc52 pm52 an52 cd52 ct52), sl52⟩) (c52 : PySem.W.codeIn K cd52 "_law_fair" = true) (k52 : PySem.W.keepIn K (.ref f52) = true)
    (a53 : PySem.W.nsIn K mainGlobals "_law_bent_row" = some (some (.ref f53))) (l53 : K.lookup f53 = some ⟨oc53, od53, .func (PySem.W.fnOf "_law_bent_row" "_law_bent_row" (defArgs s_l_bent_row) (defBody s_l_bent_row) (defScope s_l_bent_row) .none kV53 dc53 pm53 an53 cd53 ct53), sl53⟩) (c53 : PySem.W.codeIn K cd53 "_law_bent_row" = true) (k53 : PySem.W.keepIn K (.ref f53) = true)
    (a54 : PySem.W.nsIn K mainGlobals "_law_book" = some (some (.ref f54))) (l54 : K.lookup f54 = some ⟨oc54, od54, .func (PySem.W.fnOf "_law_book" "_law_book" (defArgs s_l_book) (defBody s_l_book) (defScope s_l_book) .none kV54 dc54 pm54 an54 cd54 ct54), sl54⟩) (c54 : PySem.W.codeIn K cd54 "_law_book" = true) (k54 : PySem.W.keepIn K (.ref f54) = true)
    (a55 : PySem.W.nsIn K mainGlobals "_law_ask_there" = some (some (.ref f55))) (l55 : K.lookup f55 = some ⟨oc55, od55, .func (PySem.W.fnOf "_law_ask_there" "_law_ask_there" (defArgs s_l_ask_there) (defBody s_l_ask_there) (defScope s_l_ask_there) .none kV55 dc55 pm55 an55 cd55 ct55), sl55⟩) (c55 : PySem.W.codeIn K cd55 "_law_ask_there" = true) (k55 : PySem.W.keepIn K (.ref f55) = true)
    (a56 : PySem.W.nsIn K mainGlobals "_law_job_there" = some (some (.ref f56))) (l56 : K.lookup f56 = some ⟨oc56, od56, .func (PySem.W.fnOf "_law_job_there" "_law_job_there" (defArgs s_l_job_there) (defBody s_l_job_there) (defScope s_l_job_there) .none kV56 dc56 pm56 an56 cd56 ct56), sl56⟩) (c56 : PySem.W.codeIn K cd56 "_law_job_there" = true) (k56 : PySem.W.keepIn K (.ref f56) = true)
    (a57 : PySem.W.nsIn K mainGlobals "_law_there" = some (some (.ref f57))) (l57 : K.lookup f57 = some ⟨oc57, od57, .func (PySem.W.fnOf "_law_there" "_law_there" (defArgs s_l_there) (defBody s_l_there) (defScope s_l_there) .none kV57 dc57 pm57 an57 cd57 ct57), sl57⟩) (c57 : PySem.W.codeIn K cd57 "_law_there" = true) (k57 : PySem.W.keepIn K (.ref f57) = true)
    (a58 : PySem.W.nsIn K mainGlobals "_law_may" = some (some (.ref f58))) (l58 : K.lookup f58 = some ⟨oc58, od58, .func (PySem.W.fnOf "_law_may" "_law_may" (defArgs s_l_may) (defBody s_l_may) (defScope s_l_may) .none kV58 dc58 pm58 an58 cd58 ct58), sl58⟩) (c58 : PySem.W.codeIn K cd58 "_law_may" = true) (k58 : PySem.W.keepIn K (.ref f58) = true)
    (a59 : PySem.W.nsIn K mainGlobals "_law_to_more" = some (some (.ref f59))) (l59 : K.lookup f59 = some ⟨oc59, od59, .func (PySem.W.fnOf "_law_to_more" "_law_to_more" (defArgs s_l_to_more) (defBody s_l_to_more) (defScope s_l_to_more) .none kV59 dc59 pm59 an59 cd59 ct59), sl59⟩) (c59 : PySem.W.codeIn K cd59 "_law_to_more" = true) (k59 : PySem.W.keepIn K (.ref f59) = true)
    (a60 : PySem.W.nsIn K mainGlobals "_law_of_more" = some (some (.ref f60))) (l60 : K.lookup f60 = some ⟨oc60, od60, .func (PySem.W.fnOf "_law_of_more" "_law_of_more" (defArgs s_l_of_more) (defBody s_l_of_more) (defScope s_l_of_more) .none kV60 dc60 pm60 an60 cd60 ct60), sl60⟩) (c60 : PySem.W.codeIn K cd60 "_law_of_more" = true) (k60 : PySem.W.keepIn K (.ref f60) = true)
    (a61 : PySem.W.nsIn K mainGlobals "_law_told_right" = some (some (.ref f61))) (l61 : K.lookup f61 = some ⟨oc61, od61, .func (PySem.W.fnOf "_law_told_right" "_law_told_right" (defArgs s_l_told_right) (defBody s_l_told_right) (defScope s_l_told_right) .none kV61 dc61 pm61 an61 cd61 ct61), sl61⟩) (c61 : PySem.W.codeIn K cd61 "_law_told_right" = true) (k61 : PySem.W.keepIn K (.ref f61) = true)
    (a62 : PySem.W.nsIn K mainGlobals "_law_drawn_right" = some (some (.ref f62))) (l62 : K.lookup f62 = some ⟨oc62, od62, .func (PySem.W.fnOf "_law_drawn_right" "_law_drawn_right" (defArgs s_l_drawn_right) (defBody s_l_drawn_right) (defScope s_l_drawn_right) .none kV62 dc62 pm62 an62 cd62 ct62), sl62⟩) (c62 : PySem.W.codeIn K cd62 "_law_drawn_right" = true) (k62 : PySem.W.keepIn K (.ref f62) = true)
    (a63 : PySem.W.nsIn K mainGlobals "_law_long_right" = some (some (.ref f63))) (l63 : K.lookup f63 = some ⟨oc63, od63, .func (PySem.W.fnOf "_law_long_right" "_law_long_right" (defArgs s_l_long_right) (defBody s_l_long_right) (defScope s_l_long_right) .none kV63 dc63 pm63 an63 cd63 ct63), sl63⟩) (c63 : PySem.W.codeIn K cd63 "_law_long_right" = true) (k63 : PySem.W.keepIn K (.ref f63) = true)
    (a64 : PySem.W.nsIn K mainGlobals "law" = some (some (.ref f64))) (l64 : K.lookup f64 = some ⟨oc64, od64, .func (PySem.W.fnOf "law" "law" (defArgs s_law) (defBody s_law) (defScope s_law) .none kV64 dc64 pm64 an64 cd64 ct64), sl64⟩) (c64 : PySem.W.codeIn K cd64 "law" = true) (k64 : PySem.W.keepIn K (.ref f64) = true)
    {xC0 xI0 xB0 : Addr} {xnm0 xq0 : Str} {xN0 : Addr} {xbs0 : List Value} {xsn0 : List Str} {xsub0 : List Value} {xab0 : Bool} {xcol0 : Option Bool} {xdd0 : Option Addr} {xm00 xm10 xm20 xm30 xm50 : Option Value} {xod0 xan0 : Option Addr} {xsl0 : Array (Option Value)} {xoc0 xkV0 xdc0 xpm0 xcd0 xct0 : Value}
    (ea0 : PySem.W.nsIn K mainGlobals "NoRow" = some (some (.ref xC0))) (eb0 : K.lookup xC0 = some (excClassObj xnm0 xq0 xC0 xN0 xbs0 [.ref xB0, .type "ValueError", .type "Exception", .type "BaseException", .type "object"] true xsn0 xsub0 xab0 xcol0 xdd0 xm00 xm10 xm20 xm30 xm50 "ValueError.__new__"))
    (ec0 : PySem.W.findIn K (.ref xC0) "__setattr__" = some (some (.builtin "object.__setattr__"))) (ed0 : PySem.W.findIn K (.ref xC0) "__getattribute__" = some (some (.builtin "BaseException.__getattribute__"))) (ee0 : PySem.W.findIn K (.ref xC0) "__getattr__" = some none)
    (ef0 : PySem.W.findIn K (.ref xC0) "__init__" = some (some (.ref xI0))) (eg0 : PySem.W.typeIn K (.ref xI0) = some (.type "function"))
    (eh0 : K.lookup xI0 = some ⟨xoc0, xod0, .func (PySem.W.fnOf "__init__" "NoRow.__init__" (defArgs s_i_NoRow) (defBody s_i_NoRow) (defScope s_i_NoRow) .none xkV0 xdc0 xpm0 xan0 xcd0 xct0), xsl0⟩) (ei0 : PySem.W.codeIn K xcd0 "NoRow.__init__" = true) (ej0 : PySem.W.keepIn K (.ref xI0) = true)
    (ek0 : PySem.W.keepIn K (.ref xC0) = true) (el0 : PySem.W.subIn K (.ref xC0) (.type "BaseException") = some true) (em0 : PySem.W.typeIn K (.ref xC0) = some (.type "type")) (en0 : PySem.W.hasDictIn K xC0 = true) (eo0 : PySem.W.isClsIn K xC0 = true)
    (ep0_0 : PySem.W.findIn K (.ref xC0) "number" = some none)
    {xC1 xI1 xB1 : Addr} {xnm1 xq1 : Str} {xN1 : Addr} {xbs1 : List Value} {xsn1 : List Str} {xsub1 : List Value} {xab1 : Bool} {xcol1 : Option Bool} {xdd1 : Option Addr} {xm01 xm11 xm21 xm31 xm51 : Option Value} {xod1 xan1 : Option Addr} {xsl1 : Array (Option Value)} {xoc1 xkV1 xdc1 xpm1 xcd1 xct1 : Value}
    (ea1 : PySem.W.nsIn K mainGlobals "Clash" = some (some (.ref xC1))) (eb1 : K.lookup xC1 = some (excClassObj xnm1 xq1 xC1 xN1 xbs1 [.ref xB1, .type "ValueError", .type "Exception", .type "BaseException", .type "object"] true xsn1 xsub1 xab1 xcol1 xdd1 xm01 xm11 xm21 xm31 xm51 "ValueError.__new__"))
    (ec1 : PySem.W.findIn K (.ref xC1) "__setattr__" = some (some (.builtin "object.__setattr__"))) (ed1 : PySem.W.findIn K (.ref xC1) "__getattribute__" = some (some (.builtin "BaseException.__getattribute__"))) (ee1 : PySem.W.findIn K (.ref xC1) "__getattr__" = some none)
    (ef1 : PySem.W.findIn K (.ref xC1) "__init__" = some (some (.ref xI1))) (eg1 : PySem.W.typeIn K (.ref xI1) = some (.type "function"))
    (eh1 : K.lookup xI1 = some ⟨xoc1, xod1, .func (PySem.W.fnOf "__init__" "Clash.__init__" (defArgs s_i_Clash) (defBody s_i_Clash) (defScope s_i_Clash) .none xkV1 xdc1 xpm1 xan1 xcd1 xct1), xsl1⟩) (ei1 : PySem.W.codeIn K xcd1 "Clash.__init__" = true) (ej1 : PySem.W.keepIn K (.ref xI1) = true)
    (ek1 : PySem.W.keepIn K (.ref xC1) = true) (el1 : PySem.W.subIn K (.ref xC1) (.type "BaseException") = some true) (em1 : PySem.W.typeIn K (.ref xC1) = some (.type "type")) (en1 : PySem.W.hasDictIn K xC1 = true) (eo1 : PySem.W.isClsIn K xC1 = true)
    (ep1_0 : PySem.W.findIn K (.ref xC1) "first" = some none)
    (ep1_1 : PySem.W.findIn K (.ref xC1) "second" = some none)
    {yC0 yI0 : Addr} {yod0 yan0 : Option Addr} {ysl0 : Array (Option Value)} {yoc0 ykV0 ydc0 ypm0 ycd0 yct0 : Value}
    (oa0 : PySem.W.nsIn K mainGlobals "Gaps" = some (some (.ref yC0))) (ob0 : PySem.W.findIn K (.ref yC0) "__init__" = some (some (.ref yI0))) (oc0_ : PySem.W.isFn K (.ref yI0) = true) (od0_ : K.lookup yI0 = some ⟨yoc0, yod0, .func (PySem.W.fnOf "__init__" "Gaps.__init__" (defArgs s_i_Gaps) (defBody s_i_Gaps) (defScope s_i_Gaps) .none ykV0 ydc0 ypm0 yan0 ycd0 yct0), ysl0⟩) (oe0 : PySem.W.codeIn K ycd0 "Gaps.__init__" = true) (of0 : PySem.W.keepIn K (.ref yI0) = true)
    (og0 : PySem.W.plainGet K yC0 Str.empty = true) (oh0 : PySem.W.hasDictIn K yC0 = true) (oi0 : PySem.W.plainOver K yC0 = true) (oj0 : PySem.W.findIn K (.ref yC0) "__setattr__" = some (some (.builtin "object.__setattr__"))) (ok0 : PySem.W.makesIn K yC0 = true) (ol0 : PySem.W.keepIn K (.ref yC0) = true)
    (on0_0 : PySem.W.findIn K (.ref yC0) "town" = some none)
    (on0_1 : PySem.W.findIn K (.ref yC0) "ask_rows" = some none)
    (on0_2 : PySem.W.findIn K (.ref yC0) "job_rows" = some none)
    (on0_3 : PySem.W.findIn K (.ref yC0) "all_rows" = some none)
    (on0_4 : PySem.W.findIn K (.ref yC0) "asks" = some none)
    (on0_5 : PySem.W.findIn K (.ref yC0) "jobs" = some none)
    (on0_6 : PySem.W.findIn K (.ref yC0) "ask_spans" = some none)
    (on0_7 : PySem.W.findIn K (.ref yC0) "job_spans" = some none)
    (on0_8 : PySem.W.findIn K (.ref yC0) "more_times" = some none)
    (es0 : PySem.W.subIn K (.ref xC0) (.ref xC0) = some true)
    (es1 : PySem.W.subIn K (.ref xC0) (.ref xC1) = some false)
    (es2 : PySem.W.subIn K (.ref xC1) (.ref xC0) = some false)
    (es3 : PySem.W.subIn K (.ref xC1) (.ref xC1) = some true)
    (z0 : PySem.W.nsIn K mainGlobals "any" = some none)
    (z1 : PySem.W.nsIn K mainGlobals "bool" = some none)
    (z2 : PySem.W.nsIn K mainGlobals "dict" = some none)
    (z3 : PySem.W.nsIn K mainGlobals "enumerate" = some none)
    (z4 : PySem.W.nsIn K mainGlobals "int" = some none)
    (z5 : PySem.W.nsIn K mainGlobals "isinstance" = some none)
    (z6 : PySem.W.nsIn K mainGlobals "len" = some none)
    (z7 : PySem.W.nsIn K mainGlobals "list" = some none)
    (z8 : PySem.W.nsIn K mainGlobals "max" = some none)
    (z9 : PySem.W.nsIn K mainGlobals "min" = some none)
    (z10 : PySem.W.nsIn K mainGlobals "range" = some none)
    (z11 : PySem.W.nsIn K mainGlobals "sorted" = some none)
    (z12 : PySem.W.nsIn K mainGlobals "tuple" = some none)
    {w0 : _} (q0 : PySem.W.nsIn K mainGlobals "MOST_COUNT" = some (some (.int (15)  w0)))
    {w1 : _} (q1 : PySem.W.nsIn K mainGlobals "MOST_NUMBER" = some (some (.int (14)  w1)))
    {w2 : _} (q2 : PySem.W.nsIn K mainGlobals "MOST_TIME" = some (some (.int (1000000000000)  w2)))
    (tq35 : Gx.TopTab q K h) (tr35 : ∃ dd, (recsOf q).find? (fun e => e.name == ("can_come_of_more" : Str)) = some dd) (ts35 : PySem.W.tabIn K "can_come_of_more" = some (cc35, tt35)) (tn35 : K.lookup tt35 = none)
    : LamX.LawAtS l w K CX0 11 63 "script" mg fa h := by
  have e := hfa.symm.trans (PySem.W.mg_of X G a64)
  cases e
  have F0 := fun_mk (st := s_is_whole_from) l0 c0 k0
  have b0 := F0.binds (ps := ["thing", "low", "high"]) fun _ _ _ _ _ _ us hl => match us, hl with | [_, _, _], _ => rfl
  have F1 := fun_mk (st := s_is_time) l1 c1 k1
  have b1 := F1.binds (ps := ["thing"]) fun _ _ _ _ _ _ us hl => match us, hl with | [_], _ => rfl
  have F2 := fun_mk (st := s_is_number) l2 c2 k2
  have b2 := F2.binds (ps := ["thing"]) fun _ _ _ _ _ _ us hl => match us, hl with | [_], _ => rfl
  have F3 := fun_mk (st := s_is_count) l3 c3 k3
  have b3 := F3.binds (ps := ["thing"]) fun _ _ _ _ _ _ us hl => match us, hl with | [_], _ => rfl
  have F4 := fun_mk (st := s_is_span) l4 c4 k4
  have b4 := F4.binds (ps := ["low", "high"]) fun _ _ _ _ _ _ us hl => match us, hl with | [_, _], _ => rfl
  have F5 := fun_mk (st := s_is_ask_row) l5 c5 k5
  have b5 := F5.binds (ps := ["houses", "thing"]) fun _ _ _ _ _ _ us hl => match us, hl with | [_, _], _ => rfl
  have F6 := fun_mk (st := s_is_job_row) l6 c6 k6
  have b6 := F6.binds (ps := ["houses", "thing"]) fun _ _ _ _ _ _ us hl => match us, hl with | [_, _], _ => rfl
  have F7 := fun_mk (st := s_is_all_row) l7 c7 k7
  have b7 := F7.binds (ps := ["houses", "thing"]) fun _ _ _ _ _ _ us hl => match us, hl with | [_, _], _ => rfl
  have F8 := fun_mk (st := s_is_row) l8 c8 k8
  have b8 := F8.binds (ps := ["town", "thing"]) fun _ _ _ _ _ _ us hl => match us, hl with | [_, _], _ => rfl
  have F9 := fun_mk (st := s_is_out_of_order) l9 c9 k9
  have b9 := F9.binds (ps := ["number", "time", "other_number", "other_time"]) fun _ _ _ _ _ _ us hl => match us, hl with | [_, _, _, _], _ => rfl
  have F10 := fun_mk (st := s_do_asks_clash) l10 c10 k10
  have b10 := F10.binds (ps := ["one", "other"]) fun _ _ _ _ _ _ us hl => match us, hl with | [_, _], _ => rfl
  have F11 := fun_mk (st := s_do_jobs_clash) l11 c11 k11
  have b11 := F11.binds (ps := ["one", "other"]) fun _ _ _ _ _ _ us hl => match us, hl with | [_, _], _ => rfl
  have F12 := fun_mk (st := s_do_job_and_ask_clash) l12 c12 k12
  have b12 := F12.binds (ps := ["job", "ask"]) fun _ _ _ _ _ _ us hl => match us, hl with | [_, _], _ => rfl
  have F13 := fun_mk (st := s_does_all_row_clash) l13 c13 k13
  have b13 := F13.binds (ps := ["all_row", "other"]) fun _ _ _ _ _ _ us hl => match us, hl with | [_, _], _ => rfl
  have F14 := fun_mk (st := s_do_alike_sorts_clash) l14 c14 k14
  have b14 := F14.binds (ps := ["one", "other"]) fun _ _ _ _ _ _ us hl => match us, hl with | [_, _], _ => rfl
  have F15 := fun_mk (st := s_do_clash) l15 c15 k15
  have b15 := F15.binds (ps := ["one", "other"]) fun _ _ _ _ _ _ us hl => match us, hl with | [_, _], _ => rfl
  have F16 := fun_mk (st := s_need_rows) l16 c16 k16
  have b16 := F16.binds (ps := ["town", "rows"]) fun _ _ _ _ _ _ us hl => match us, hl with | [_, _], _ => rfl
  have F17 := fun_mk (st := s_need_book) l17 c17 k17
  have b17 := F17.binds (ps := ["town", "rows"]) fun _ _ _ _ _ _ us hl => match us, hl with | [_, _], _ => rfl
  have F18 := fun_mk (st := s_gaps_of) l18 c18 k18
  have b18 := F18.binds (ps := ["town", "rows"]) fun _ _ _ _ _ _ us hl => match us, hl with | [_, _], _ => rfl
  have F19 := fun_mk (st := s_rows_by_number) l19 c19 k19
  have b19 := F19.binds (ps := ["rows", "word"]) fun _ _ _ _ _ _ us hl => match us, hl with | [_, _], _ => rfl
  have F20 := fun_mk (st := s_numbers_below) l20 c20 k20
  have b20 := F20.binds (ps := ["town", "counts"]) fun _ _ _ _ _ _ us hl => match us, hl with | [_, _], _ => rfl
  have F21 := fun_mk (st := s_asks_of_house) l21 c21 k21
  have b21 := F21.binds (ps := ["gaps", "house"]) fun _ _ _ _ _ _ us hl => match us, hl with | [_, _], _ => rfl
  have F22 := fun_mk (st := s_jobs_of_house) l22 c22 k22
  have b22 := F22.binds (ps := ["gaps", "house"]) fun _ _ _ _ _ _ us hl => match us, hl with | [_, _], _ => rfl
  have F23 := fun_mk (st := s_count_asks) l23 c23 k23
  have b23 := F23.binds (ps := ["gaps", "house"]) fun _ _ _ _ _ _ us hl => match us, hl with | [_, _], _ => rfl
  have F24 := fun_mk (st := s_count_jobs) l24 c24 k24
  have b24 := F24.binds (ps := ["gaps", "house"]) fun _ _ _ _ _ _ us hl => match us, hl with | [_, _], _ => rfl
  have F25 := fun_mk (st := s_earliest) l25 c25 k25
  have b25 := F25.binds (ps := ["times"]) fun _ _ _ _ _ _ us hl => match us, hl with | [_], _ => rfl
  have F26 := fun_mk (st := s_latest) l26 c26 k26
  have b26 := F26.binds (ps := ["times"]) fun _ _ _ _ _ _ us hl => match us, hl with | [_], _ => rfl
  have F27 := fun_mk (st := s_span_of_ask) l27 c27 k27
  have b27 := F27.binds (ps := ["gaps", "ask"]) fun _ _ _ _ _ _ us hl => match us, hl with | [_, _], _ => rfl
  have F28 := fun_mk (st := s_span_of_job) l28 c28 k28
  have b28 := F28.binds (ps := ["gaps", "job"]) fun _ _ _ _ _ _ us hl => match us, hl with | [_, _], _ => rfl
  have F29 := fun_mk (st := s_more_of) l29 c29 k29
  have b29 := F29.binds (ps := ["gaps", "house"]) fun _ _ _ _ _ _ us hl => match us, hl with | [_, _], _ => rfl
  have F30 := fun_mk (st := s_is_not_above) l30 c30 k30
  have b30 := F30.binds (ps := ["one", "other"]) fun _ _ _ _ _ _ us hl => match us, hl with | [_, _], _ => rfl
  have F31 := fun_mk (st := s_latest_begin) l31 c31 k31
  have b31 := F31.binds (ps := ["gaps", "job"]) fun _ _ _ _ _ _ us hl => match us, hl with | [_, _], _ => rfl
  have F32 := fun_mk (st := s_can_lead_in_time) l32 c32 k32
  have b32 := F32.binds (ps := ["gaps", "out", "back", "job"]) fun _ _ _ _ _ _ us hl => match us, hl with | [_, _, _, _], _ => rfl
  have F33 := fun_mk (st := s_can_lead) l33 c33 k33
  have b33 := F33.binds (ps := ["gaps", "ask", "job"]) fun _ _ _ _ _ _ us hl => match us, hl with | [_, _, _], _ => rfl
  have F34 := fun_mk (st := s_can_lead_to_more) l34 c34 k34
  have b34 := F34.binds (ps := ["gaps", "ask"]) fun _ _ _ _ _ _ us hl => match us, hl with | [_, _], _ => rfl
  have F35 := fun_mk (st := s_can_come_of_more) l35 c35 k35
  have b35 := F35.binds (ps := ["gaps", "job"]) fun _ _ _ _ _ _ us hl => match us, hl with | [_, _], _ => rfl
  have F36 := fun_mk (st := s_may_lead) l36 c36 k36
  have b36 := F36.binds (ps := ["town", "rows", "ask", "job"]) fun _ _ _ _ _ _ us hl => match us, hl with | [_, _, _, _], _ => rfl
  have F37 := fun_mk (st := s_more_jobs) l37 c37 k37
  have b37 := F37.binds (ps := ["town", "rows", "ask"]) fun _ _ _ _ _ _ us hl => match us, hl with | [_, _, _], _ => rfl
  have F38 := fun_mk (st := s_more_asks) l38 c38 k38
  have b38 := F38.binds (ps := ["town", "rows", "job"]) fun _ _ _ _ _ _ us hl => match us, hl with | [_, _, _], _ => rfl
  have F39 := fun_mk (st := s_l_spread) l39 c39 k39
  have b39 := F39.binds (ps := ["cell", "at"]) fun _ _ _ _ _ _ us hl => match us, hl with | [_, _], _ => rfl
  have F40 := fun_mk (st := s_l_open) l40 c40 k40
  have b40 := F40.binds (ps := ["script"]) fun _ _ _ _ _ _ us hl => match us, hl with | [_], _ => rfl
  have F41 := fun_mk (st := s_l_take) l41 c41 k41
  have b41 := F41.binds (ps := ["pen", "many"]) fun _ _ _ _ _ _ us hl => match us, hl with | [_, _], _ => rfl
  have F42 := fun_mk (st := s_l_names) l42 c42 k42
  have b42 := F42.binds (ps := ["pen", "many"]) fun _ _ _ _ _ _ us hl => match us, hl with | [_, _], _ => rfl
  have F43 := fun_mk (st := s_l_town) l43 c43 k43
  have b43 := F43.binds (ps := ["pen", "most"]) fun _ _ _ _ _ _ us hl => match us, hl with | [_, _], _ => rfl
  have F44 := fun_mk (st := s_l_room) l44 c44 k44
  have b44 := F44.binds (ps := ["world", "house", "goal"]) fun _ _ _ _ _ _ us hl => match us, hl with | [_, _, _], _ => rfl
  have F45 := fun_mk (st := s_l_job) l45 c45 k45
  have b45 := F45.binds (ps := ["pen", "world", "town", "house", "start", "deep"]) fun _ _ _ _ _ _ us hl => match us, hl with | [_, _, _, _, _, _], _ => rfl
  have F46 := fun_mk (st := s_l_world) l46 c46 k46
  have b46 := F46.binds (ps := ["pen", "town", "tops", "deep", "most", "stray"]) fun _ _ _ _ _ _ us hl => match us, hl with | [_, _, _, _, _, _], _ => rfl
  have F47 := fun_mk (st := s_l_called) l47 c47 k47
  have b47 := F47.binds (ps := ["town", "world"]) fun _ _ _ _ _ _ us hl => match us, hl with | [_, _], _ => rfl
  have F48 := fun_mk (st := s_l_bases) l48 c48 k48
  have b48 := F48.binds (ps := ["pen", "town", "many"]) fun _ _ _ _ _ _ us hl => match us, hl with | [_, _, _], _ => rfl
  have F49 := fun_mk (st := s_l_all_rows) l49 c49 k49
  have b49 := F49.binds (ps := ["town", "world", "bases"]) fun _ _ _ _ _ _ us hl => match us, hl with | [_, _, _], _ => rfl
  have F50 := fun_mk (st := s_l_left) l50 c50 k50
  have b50 := F50.binds (ps := ["pen", "rows", "fewer"]) fun _ _ _ _ _ _ us hl => match us, hl with | [_, _, _], _ => rfl
  have F51 := fun_mk (st := s_l_do_clash) l51 c51 k51
  have b51 := F51.binds (ps := ["one", "other"]) fun _ _ _ _ _ _ us hl => match us, hl with | [_, _], _ => rfl
  have F52 := fun_mk (st := s_l_fair) l52 c52 k52
  have b52 := F52.binds (ps := ["rows"]) fun _ _ _ _ _ _ us hl => match us, hl with | [_], _ => rfl
  have F53 := fun_mk (st := s_l_bent_row) l53 c53 k53
  have b53 := F53.binds (ps := ["pen", "town", "row"]) fun _ _ _ _ _ _ us hl => match us, hl with | [_, _, _], _ => rfl
  have F54 := fun_mk (st := s_l_book) l54 c54 k54
  have b54 := F54.binds (ps := ["pen", "town", "tops", "deep", "most", "lost", "bent"]) fun _ _ _ _ _ _ us hl => match us, hl with | [_, _, _, _, _, _, _], _ => rfl
  have F55 := fun_mk (st := s_l_ask_there) l55 c55 k55
  have b55 := F55.binds (ps := ["asks", "number"]) fun _ _ _ _ _ _ us hl => match us, hl with | [_, _], _ => rfl
  have F56 := fun_mk (st := s_l_job_there) l56 c56 k56
  have b56 := F56.binds (ps := ["asks", "jobs", "number"]) fun _ _ _ _ _ _ us hl => match us, hl with | [_, _, _], _ => rfl
  have F57 := fun_mk (st := s_l_there) l57 c57 k57
  have b57 := F57.binds (ps := ["town", "rows"]) fun _ _ _ _ _ _ us hl => match us, hl with | [_, _], _ => rfl
  have F58 := fun_mk (st := s_l_may) l58 c58 k58
  have b58 := F58.binds (ps := ["there", "ask", "job"]) fun _ _ _ _ _ _ us hl => match us, hl with | [_, _, _], _ => rfl
  have F59 := fun_mk (st := s_l_to_more) l59 c59 k59
  have b59 := F59.binds (ps := ["there", "ask"]) fun _ _ _ _ _ _ us hl => match us, hl with | [_, _], _ => rfl
  have F60 := fun_mk (st := s_l_of_more) l60 c60 k60
  have b60 := F60.binds (ps := ["there", "job"]) fun _ _ _ _ _ _ us hl => match us, hl with | [_, _], _ => rfl
  have F61 := fun_mk (st := s_l_told_right) l61 c61 k61
  have b61 := F61.binds (ps := ["found", "due"]) fun _ _ _ _ _ _ us hl => match us, hl with | [_, _], _ => rfl
  have F62 := fun_mk (st := s_l_drawn_right) l62 c62 k62
  have b62 := F62.binds (ps := ["pen", "town", "rows", "there"]) fun _ _ _ _ _ _ us hl => match us, hl with | [_, _, _, _], _ => rfl
  have F63 := fun_mk (st := s_l_long_right) l63 c63 k63
  have b63 := F63.binds (ps := ["pen", "town", "rows", "there"]) fun _ _ _ _ _ _ us hl => match us, hl with | [_, _, _, _], _ => rfl
  have F64 := fun_mk (st := s_law) l64 c64 k64
  have b64 := F64.binds (ps := ["script"]) fun _ _ _ _ _ _ us hl => match us, hl with | [_], _ => rfl
  have FX0 := fun_mk (st := s_i_NoRow) eh0 ei0 ej0
  have bX0 := FX0.binds (ps := ["self", "number"]) fun _ _ _ _ _ _ us hl => match us, hl with | [_, _], _ => rfl
  have FX1 := fun_mk (st := s_i_Clash) eh1 ei1 ej1
  have bX1 := FX1.binds (ps := ["self", "first", "second"]) fun _ _ _ _ _ _ us hl => match us, hl with | [_, _, _], _ => rfl
  have FY0 := fun_mk (st := s_i_Gaps) od0_ oe0 of0
  have bY0 := FY0.binds (ps := ["self", "town", "rows"]) fun _ _ _ _ _ _ us hl => match us, hl with | [_, _, _], _ => rfl
  let af : Nat → Addr := fun i => match i with | 0 => f0 | 1 => f1 | 2 => f2 | 3 => f3 | 4 => f4 | 5 => f5 | 6 => f6 | 7 => f7 | 8 => f8 | 9 => f9 | 10 => f10 | 11 => f11 | 12 => f12 | 13 => f13 | 14 => f14 | 15 => f15 | 16 => f16 | 17 => f17 | 18 => f18 | 19 => f19 | 20 => f20 | 21 => f21 | 22 => f22 | 23 => f23 | 24 => f24 | 25 => f25 | 26 => f26 | 27 => f27 | 28 => f28 | 29 => f29 | 30 => f30 | 31 => f31 | 32 => f32 | 33 => f33 | 34 => f34 | 35 => f35 | 36 => f36 | 37 => f37 | 38 => f38 | 39 => f39 | 40 => f40 | 41 => f41 | 42 => f42 | 43 => f43 | 44 => f44 | 45 => f45 | 46 => f46 | 47 => f47 | 48 => f48 | 49 => f49 | 50 => f50 | 51 => f51 | 52 => f52 | 53 => f53 | 54 => f54 | 55 => f55 | 56 => f56 | 57 => f57 | 58 => f58 | 59 => f59 | 60 => f60 | 61 => f61 | 62 => f62 | 63 => f63 | 64 => fa | 71 => cc35 | 72 => tt35 | 65 => xC0 | 66 => xI0 | 67 => xC1 | 68 => xI1 | 69 => yC0 | 70 => yI0 | _ => f0
  let fd : Nat → FuncData := fun i => match i with | 0 => PySem.W.fnOf "is_whole_from" "is_whole_from" (defArgs s_is_whole_from) (defBody s_is_whole_from) (defScope s_is_whole_from) .none kV0 dc0 pm0 an0 cd0 ct0 | 1 => PySem.W.fnOf "is_time" "is_time" (defArgs s_is_time) (defBody s_is_time) (defScope s_is_time) .none kV1 dc1 pm1 an1 cd1 ct1 | 2 => PySem.W.fnOf "is_number" "is_number" (defArgs s_is_number) (defBody s_is_number) (defScope s_is_number) .none kV2 dc2 pm2 an2 cd2 ct2 | 3 => PySem.W.fnOf "is_count" "is_count" (defArgs s_is_count) (defBody s_is_count) (defScope s_is_count) .none kV3 dc3 pm3 an3 cd3 ct3 | 4 => PySem.W.fnOf "is_span" "is_span" (defArgs s_is_span) (defBody s_is_span) (defScope s_is_span) .none kV4 dc4 pm4 an4 cd4 ct4 | 5 => PySem.W.fnOf "is_ask_row" "is_ask_row" (defArgs s_is_ask_row) (defBody s_is_ask_row) (defScope s_is_ask_row) .none kV5 dc5 pm5 an5 cd5 ct5 | 6 => PySem.W.fnOf "is_job_row" "is_job_row" (defArgs s_is_job_row) (defBody s_is_job_row) (defScope s_is_job_row) .none kV6 dc6 pm6 an6 cd6 ct6 | 7 => PySem.W.fnOf "is_all_row" "is_all_row" (defArgs s_is_all_row) (defBody s_is_all_row) (defScope s_is_all_row) .none kV7 dc7 pm7 an7 cd7 ct7 | 8 => PySem.W.fnOf "is_row" "is_row" (defArgs s_is_row) (defBody s_is_row) (defScope s_is_row) .none kV8 dc8 pm8 an8 cd8 ct8 | 9 => PySem.W.fnOf "is_out_of_order" "is_out_of_order" (defArgs s_is_out_of_order) (defBody s_is_out_of_order) (defScope s_is_out_of_order) .none kV9 dc9 pm9 an9 cd9 ct9 | 10 => PySem.W.fnOf "do_asks_clash" "do_asks_clash" (defArgs s_do_asks_clash) (defBody s_do_asks_clash) (defScope s_do_asks_clash) .none kV10 dc10 pm10 an10 cd10 ct10 | 11 => PySem.W.fnOf "do_jobs_clash" "do_jobs_clash" (defArgs s_do_jobs_clash) (defBody s_do_jobs_clash) (defScope s_do_jobs_clash) .none kV11 dc11 pm11 an11 cd11 ct11 | 12 => PySem.W.fnOf "do_job_and_ask_clash" "do_job_and_ask_clash" (defArgs s_do_job_and_ask_clash) (defBody s_do_job_and_ask_clash) (defScope s_do_job_and_ask_clash) .none kV12 dc12 pm12 an12 cd12 ct12 | 13 => PySem.W.fnOf "does_all_row_clash" "does_all_row_clash" (defArgs s_does_all_row_clash) (defBody s_does_all_row_clash) (defScope s_does_all_row_clash) .none kV13 dc13 pm13 an13 cd13 ct13 | 14 => PySem.W.fnOf "do_alike_sorts_clash" "do_alike_sorts_clash" (defArgs s_do_alike_sorts_clash) (defBody s_do_alike_sorts_clash) (defScope s_do_alike_sorts_clash) .none kV14 dc14 pm14 an14 cd14 ct14 | 15 => PySem.W.fnOf "do_clash" "do_clash" (defArgs s_do_clash) (defBody s_do_clash) (defScope s_do_clash) .none kV15 dc15 pm15 an15 cd15 ct15 | 16 => PySem.W.fnOf "need_rows" "need_rows" (defArgs s_need_rows) (defBody s_need_rows) (defScope s_need_rows) .none kV16 dc16 pm16 an16 cd16 ct16 | 17 => PySem.W.fnOf "need_book" "need_book" (defArgs s_need_book) (defBody s_need_book) (defScope s_need_book) .none kV17 dc17 pm17 an17 cd17 ct17 | 18 => PySem.W.fnOf "gaps_of" "gaps_of" (defArgs s_gaps_of) (defBody s_gaps_of) (defScope s_gaps_of) .none kV18 dc18 pm18 an18 cd18 ct18 | 19 => PySem.W.fnOf "rows_by_number" "rows_by_number" (defArgs s_rows_by_number) (defBody s_rows_by_number) (defScope s_rows_by_number) .none kV19 dc19 pm19 an19 cd19 ct19 | 20 => PySem.W.fnOf "numbers_below" "numbers_below" (defArgs s_numbers_below) (defBody s_numbers_below) (defScope s_numbers_below) .none kV20 dc20 pm20 an20 cd20 ct20 | 21 => PySem.W.fnOf "asks_of_house" "asks_of_house" (defArgs s_asks_of_house) (defBody s_asks_of_house) (defScope s_asks_of_house) .none kV21 dc21 pm21 an21 cd21 ct21 | 22 => PySem.W.fnOf "jobs_of_house" "jobs_of_house" (defArgs s_jobs_of_house) (defBody s_jobs_of_house) (defScope s_jobs_of_house) .none kV22 dc22 pm22 an22 cd22 ct22 | 23 => PySem.W.fnOf "count_asks" "count_asks" (defArgs s_count_asks) (defBody s_count_asks) (defScope s_count_asks) .none kV23 dc23 pm23 an23 cd23 ct23 | 24 => PySem.W.fnOf "count_jobs" "count_jobs" (defArgs s_count_jobs) (defBody s_count_jobs) (defScope s_count_jobs) .none kV24 dc24 pm24 an24 cd24 ct24 | 25 => PySem.W.fnOf "earliest" "earliest" (defArgs s_earliest) (defBody s_earliest) (defScope s_earliest) .none kV25 dc25 pm25 an25 cd25 ct25 | 26 => PySem.W.fnOf "latest" "latest" (defArgs s_latest) (defBody s_latest) (defScope s_latest) .none kV26 dc26 pm26 an26 cd26 ct26 | 27 => PySem.W.fnOf "span_of_ask" "span_of_ask" (defArgs s_span_of_ask) (defBody s_span_of_ask) (defScope s_span_of_ask) .none kV27 dc27 pm27 an27 cd27 ct27 | 28 => PySem.W.fnOf "span_of_job" "span_of_job" (defArgs s_span_of_job) (defBody s_span_of_job) (defScope s_span_of_job) .none kV28 dc28 pm28 an28 cd28 ct28 | 29 => PySem.W.fnOf "more_of" "more_of" (defArgs s_more_of) (defBody s_more_of) (defScope s_more_of) .none kV29 dc29 pm29 an29 cd29 ct29 | 30 => PySem.W.fnOf "is_not_above" "is_not_above" (defArgs s_is_not_above) (defBody s_is_not_above) (defScope s_is_not_above) .none kV30 dc30 pm30 an30 cd30 ct30 | 31 => PySem.W.fnOf "latest_begin" "latest_begin" (defArgs s_latest_begin) (defBody s_latest_begin) (defScope s_latest_begin) .none kV31 dc31 pm31 an31 cd31 ct31 | 32 => PySem.W.fnOf "can_lead_in_time" "can_lead_in_time" (defArgs s_can_lead_in_time) (defBody s_can_lead_in_time) (defScope s_can_lead_in_time) .none kV32 dc32 pm32 an32 cd32 ct32 | 33 => PySem.W.fnOf "can_lead" "can_lead" (defArgs s_can_lead) (defBody s_can_lead) (defScope s_can_lead) .none kV33 dc33 pm33 an33 cd33 ct33 | 34 => PySem.W.fnOf "can_lead_to_more" "can_lead_to_more" (defArgs s_can_lead_to_more) (defBody s_can_lead_to_more) (defScope s_can_lead_to_more) .none kV34 dc34 pm34 an34 cd34 ct34 | 35 => PySem.W.fnOf "can_come_of_more" "can_come_of_more" (defArgs s_can_come_of_more) (defBody s_can_come_of_more) (defScope s_can_come_of_more) .none kV35 dc35 pm35 an35 (.ref cc35) ct35 | 36 => PySem.W.fnOf "may_lead" "may_lead" (defArgs s_may_lead) (defBody s_may_lead) (defScope s_may_lead) .none kV36 dc36 pm36 an36 cd36 ct36 | 37 => PySem.W.fnOf "more_jobs" "more_jobs" (defArgs s_more_jobs) (defBody s_more_jobs) (defScope s_more_jobs) .none kV37 dc37 pm37 an37 cd37 ct37 | 38 => PySem.W.fnOf "more_asks" "more_asks" (defArgs s_more_asks) (defBody s_more_asks) (defScope s_more_asks) .none kV38 dc38 pm38 an38 cd38 ct38 | 39 => PySem.W.fnOf "_law_spread" "_law_spread" (defArgs s_l_spread) (defBody s_l_spread) (defScope s_l_spread) .none kV39 dc39 pm39 an39 cd39 ct39 | 40 => PySem.W.fnOf "_law_open" "_law_open" (defArgs s_l_open) (defBody s_l_open) (defScope s_l_open) .none kV40 dc40 pm40 an40 cd40 ct40 | 41 => PySem.W.fnOf "_law_take" "_law_take" (defArgs s_l_take) (defBody s_l_take) (defScope s_l_take) .none kV41 dc41 pm41 an41 cd41 ct41 | 42 => PySem.W.fnOf "_law_names" "_law_names" (defArgs s_l_names) (defBody s_l_names) (defScope s_l_names) .none kV42 dc42 pm42 an42 cd42 ct42 | 43 => PySem.W.fnOf "_law_town" "_law_town" (defArgs s_l_town) (defBody s_l_town) (defScope s_l_town) .none kV43 dc43 pm43 an43 cd43 ct43 | 44 => PySem.W.fnOf "_law_room" "_law_room" (defArgs s_l_room) (defBody s_l_room) (defScope s_l_room) .none kV44 dc44 pm44 an44 cd44 ct44 | 45 => PySem.W.fnOf "_law_job" "_law_job" (defArgs s_l_job) (defBody s_l_job) (defScope s_l_job) .none kV45 dc45 pm45 an45 cd45 ct45 | 46 => PySem.W.fnOf "_law_world" "_law_world" (defArgs s_l_world) (defBody s_l_world) (defScope s_l_world) .none kV46 dc46 pm46 an46 cd46 ct46 | 47 => PySem.W.fnOf "_law_called" "_law_called" (defArgs s_l_called) (defBody s_l_called) (defScope s_l_called) .none kV47 dc47 pm47 an47 cd47 ct47 | 48 => PySem.W.fnOf "_law_bases" "_law_bases" (defArgs s_l_bases) (defBody s_l_bases) (defScope s_l_bases) .none kV48 dc48 pm48 an48 cd48 ct48 | 49 => PySem.W.fnOf "_law_all_rows" "_law_all_rows" (defArgs s_l_all_rows) (defBody s_l_all_rows) (defScope s_l_all_rows) .none kV49 dc49 pm49 an49 cd49 ct49 | 50 => PySem.W.fnOf "_law_left" "_law_left" (defArgs s_l_left) (defBody s_l_left) (defScope s_l_left) .none kV50 dc50 pm50 an50 cd50 ct50 | 51 => PySem.W.fnOf "_law_do_clash" "_law_do_clash" (defArgs s_l_do_clash) (defBody s_l_do_clash) (defScope s_l_do_clash) .none kV51 dc51 pm51 an51 cd51 ct51 | 52 => PySem.W.fnOf "_law_fair" "_law_fair" (defArgs s_l_fair) (defBody s_l_fair) (defScope s_l_fair) .none kV52 dc52 pm52 an52 cd52 ct52 | 53 => PySem.W.fnOf "_law_bent_row" "_law_bent_row" (defArgs s_l_bent_row) (defBody s_l_bent_row) (defScope s_l_bent_row) .none kV53 dc53 pm53 an53 cd53 ct53 | 54 => PySem.W.fnOf "_law_book" "_law_book" (defArgs s_l_book) (defBody s_l_book) (defScope s_l_book) .none kV54 dc54 pm54 an54 cd54 ct54 | 55 => PySem.W.fnOf "_law_ask_there" "_law_ask_there" (defArgs s_l_ask_there) (defBody s_l_ask_there) (defScope s_l_ask_there) .none kV55 dc55 pm55 an55 cd55 ct55 | 56 => PySem.W.fnOf "_law_job_there" "_law_job_there" (defArgs s_l_job_there) (defBody s_l_job_there) (defScope s_l_job_there) .none kV56 dc56 pm56 an56 cd56 ct56 | 57 => PySem.W.fnOf "_law_there" "_law_there" (defArgs s_l_there) (defBody s_l_there) (defScope s_l_there) .none kV57 dc57 pm57 an57 cd57 ct57 | 58 => PySem.W.fnOf "_law_may" "_law_may" (defArgs s_l_may) (defBody s_l_may) (defScope s_l_may) .none kV58 dc58 pm58 an58 cd58 ct58 | 59 => PySem.W.fnOf "_law_to_more" "_law_to_more" (defArgs s_l_to_more) (defBody s_l_to_more) (defScope s_l_to_more) .none kV59 dc59 pm59 an59 cd59 ct59 | 60 => PySem.W.fnOf "_law_of_more" "_law_of_more" (defArgs s_l_of_more) (defBody s_l_of_more) (defScope s_l_of_more) .none kV60 dc60 pm60 an60 cd60 ct60 | 61 => PySem.W.fnOf "_law_told_right" "_law_told_right" (defArgs s_l_told_right) (defBody s_l_told_right) (defScope s_l_told_right) .none kV61 dc61 pm61 an61 cd61 ct61 | 62 => PySem.W.fnOf "_law_drawn_right" "_law_drawn_right" (defArgs s_l_drawn_right) (defBody s_l_drawn_right) (defScope s_l_drawn_right) .none kV62 dc62 pm62 an62 cd62 ct62 | 63 => PySem.W.fnOf "_law_long_right" "_law_long_right" (defArgs s_l_long_right) (defBody s_l_long_right) (defScope s_l_long_right) .none kV63 dc63 pm63 an63 cd63 ct63 | 64 => PySem.W.fnOf "law" "law" (defArgs s_law) (defBody s_law) (defScope s_law) .none kV64 dc64 pm64 an64 cd64 ct64 | 66 => PySem.W.fnOf "__init__" "NoRow.__init__" (defArgs s_i_NoRow) (defBody s_i_NoRow) (defScope s_i_NoRow) .none xkV0 xdc0 xpm0 xan0 xcd0 xct0 | 68 => PySem.W.fnOf "__init__" "Clash.__init__" (defArgs s_i_Clash) (defBody s_i_Clash) (defScope s_i_Clash) .none xkV1 xdc1 xpm1 xan1 xcd1 xct1 | 70 => PySem.W.fnOf "__init__" "Gaps.__init__" (defArgs s_i_Gaps) (defBody s_i_Gaps) (defScope s_i_Gaps) .none ykV0 ydc0 ypm0 yan0 ycd0 yct0 | _ => PySem.W.fnOf "law" "law" (defArgs s_law) (defBody s_law) (defScope s_law) .none kV64 dc64 pm64 an64 cd64 ct64
  have T : Txt K mg af fd := { g_is_whole_from := PySem.W.mg_of X G a0, F_is_whole_from := F0, b_is_whole_from := b0, g_is_time := PySem.W.mg_of X G a1, F_is_time := F1, b_is_time := b1, g_is_number := PySem.W.mg_of X G a2, F_is_number := F2, b_is_number := b2, g_is_count := PySem.W.mg_of X G a3, F_is_count := F3, b_is_count := b3, g_is_span := PySem.W.mg_of X G a4, F_is_span := F4, b_is_span := b4, g_is_ask_row := PySem.W.mg_of X G a5, F_is_ask_row := F5, b_is_ask_row := b5, g_is_job_row := PySem.W.mg_of X G a6, F_is_job_row := F6, b_is_job_row := b6, g_is_all_row := PySem.W.mg_of X G a7, F_is_all_row := F7, b_is_all_row := b7, g_is_row := PySem.W.mg_of X G a8, F_is_row := F8, b_is_row := b8, g_is_out_of_order := PySem.W.mg_of X G a9, F_is_out_of_order := F9, b_is_out_of_order := b9, g_do_asks_clash := PySem.W.mg_of X G a10, F_do_asks_clash := F10, b_do_asks_clash := b10, g_do_jobs_clash := PySem.W.mg_of X G a11, F_do_jobs_clash := F11, b_do_jobs_clash := b11, g_do_job_and_ask_clash := PySem.W.mg_of X G a12, F_do_job_and_ask_clash := F12, b_do_job_and_ask_clash := b12, g_does_all_row_clash := PySem.W.mg_of X G a13, F_does_all_row_clash := F13, b_does_all_row_clash := b13, g_do_alike_sorts_clash := PySem.W.mg_of X G a14, F_do_alike_sorts_clash := F14, b_do_alike_sorts_clash := b14, g_do_clash := PySem.W.mg_of X G a15, F_do_clash := F15, b_do_clash := b15, g_need_rows := PySem.W.mg_of X G a16, F_need_rows := F16, b_need_rows := b16, g_need_book := PySem.W.mg_of X G a17, F_need_book := F17, b_need_book := b17, g_gaps_of := PySem.W.mg_of X G a18, F_gaps_of := F18, b_gaps_of := b18, g_rows_by_number := PySem.W.mg_of X G a19, F_rows_by_number := F19, b_rows_by_number := b19, g_numbers_below := PySem.W.mg_of X G a20, F_numbers_below := F20, b_numbers_below := b20, g_asks_of_house := PySem.W.mg_of X G a21, F_asks_of_house := F21, b_asks_of_house := b21, g_jobs_of_house := PySem.W.mg_of X G a22, F_jobs_of_house := F22, b_jobs_of_house := b22, g_count_asks := PySem.W.mg_of X G a23, F_count_asks := F23, b_count_asks := b23, g_count_jobs := PySem.W.mg_of X G a24, F_count_jobs := F24, b_count_jobs := b24, g_earliest := PySem.W.mg_of X G a25, F_earliest := F25, b_earliest := b25, g_latest := PySem.W.mg_of X G a26, F_latest := F26, b_latest := b26, g_span_of_ask := PySem.W.mg_of X G a27, F_span_of_ask := F27, b_span_of_ask := b27, g_span_of_job := PySem.W.mg_of X G a28, F_span_of_job := F28, b_span_of_job := b28, g_more_of := PySem.W.mg_of X G a29, F_more_of := F29, b_more_of := b29, g_is_not_above := PySem.W.mg_of X G a30, F_is_not_above := F30, b_is_not_above := b30, g_latest_begin := PySem.W.mg_of X G a31, F_latest_begin := F31, b_latest_begin := b31, g_can_lead_in_time := PySem.W.mg_of X G a32, F_can_lead_in_time := F32, b_can_lead_in_time := b32, g_can_lead := PySem.W.mg_of X G a33, F_can_lead := F33, b_can_lead := b33, g_can_lead_to_more := PySem.W.mg_of X G a34, F_can_lead_to_more := F34, b_can_lead_to_more := b34, g_can_come_of_more := PySem.W.mg_of X G a35, F_can_come_of_more := F35, b_can_come_of_more := b35, d_can_come_of_more := rfl, g_may_lead := PySem.W.mg_of X G a36, F_may_lead := F36, b_may_lead := b36, g_more_jobs := PySem.W.mg_of X G a37, F_more_jobs := F37, b_more_jobs := b37, g_more_asks := PySem.W.mg_of X G a38, F_more_asks := F38, b_more_asks := b38, g_l_spread := PySem.W.mg_of X G a39, F_l_spread := F39, b_l_spread := b39, g_l_open := PySem.W.mg_of X G a40, F_l_open := F40, b_l_open := b40, g_l_take := PySem.W.mg_of X G a41, F_l_take := F41, b_l_take := b41, g_l_names := PySem.W.mg_of X G a42, F_l_names := F42, b_l_names := b42, g_l_town := PySem.W.mg_of X G a43, F_l_town := F43, b_l_town := b43, g_l_room := PySem.W.mg_of X G a44, F_l_room := F44, b_l_room := b44, g_l_job := PySem.W.mg_of X G a45, F_l_job := F45, b_l_job := b45, g_l_world := PySem.W.mg_of X G a46, F_l_world := F46, b_l_world := b46, g_l_called := PySem.W.mg_of X G a47, F_l_called := F47, b_l_called := b47, g_l_bases := PySem.W.mg_of X G a48, F_l_bases := F48, b_l_bases := b48, g_l_all_rows := PySem.W.mg_of X G a49, F_l_all_rows := F49, b_l_all_rows := b49, g_l_left := PySem.W.mg_of X G a50, F_l_left := F50, b_l_left := b50, g_l_do_clash := PySem.W.mg_of X G a51, F_l_do_clash := F51, b_l_do_clash := b51, g_l_fair := PySem.W.mg_of X G a52, F_l_fair := F52, b_l_fair := b52, g_l_bent_row := PySem.W.mg_of X G a53, F_l_bent_row := F53, b_l_bent_row := b53, g_l_book := PySem.W.mg_of X G a54, F_l_book := F54, b_l_book := b54, g_l_ask_there := PySem.W.mg_of X G a55, F_l_ask_there := F55, b_l_ask_there := b55, g_l_job_there := PySem.W.mg_of X G a56, F_l_job_there := F56, b_l_job_there := b56, g_l_there := PySem.W.mg_of X G a57, F_l_there := F57, b_l_there := b57, g_l_may := PySem.W.mg_of X G a58, F_l_may := F58, b_l_may := b58, g_l_to_more := PySem.W.mg_of X G a59, F_l_to_more := F59, b_l_to_more := b59, g_l_of_more := PySem.W.mg_of X G a60, F_l_of_more := F60, b_l_of_more := b60, g_l_told_right := PySem.W.mg_of X G a61, F_l_told_right := F61, b_l_told_right := b61, g_l_drawn_right := PySem.W.mg_of X G a62, F_l_drawn_right := F62, b_l_drawn_right := b62, g_l_long_right := PySem.W.mg_of X G a63, F_l_long_right := F63, b_l_long_right := b63, g_law := PySem.W.mg_of X G a64, F_law := F64, b_law := b64, e_NoRow := ⟨PySem.W.mg_of X G ea0, ⟨⟨_, _, _, _, _, _, _, _, _, _, _, _, _, _, _, eb0, rfl⟩, ec0, el0, em0, ek0⟩, ef0, eg0, FX0, bX0, fun f hf => by simp only [List.mem_cons, List.not_mem_nil, or_false] at hf; rcases hf with rfl <;> assumption, ⟨ed0, ee0, el0, en0⟩⟩, e_Clash := ⟨PySem.W.mg_of X G ea1, ⟨⟨_, _, _, _, _, _, _, _, _, _, _, _, _, _, _, eb1, rfl⟩, ec1, el1, em1, ek1⟩, ef1, eg1, FX1, bX1, fun f hf => by simp only [List.mem_cons, List.not_mem_nil, or_false] at hf; rcases hf with rfl | rfl <;> assumption, ⟨ed1, ee1, el1, en1⟩⟩, o_Gaps := ⟨PySem.W.mg_of X G oa0, ⟨ok0, ob0, oc0_, ol0⟩, ⟨og0, oh0, oi0, oj0⟩, FY0, bY0, fun f hf => by simp only [List.mem_cons, List.not_mem_nil, or_false] at hf; rcases hf with rfl | rfl | rfl | rfl | rfl | rfl | rfl | rfl | rfl <;> assumption⟩, x_NoRow_NoRow := Xc.exm_two el0 eo0 em0 es0, x_NoRow_Clash := Xc.exm_two el1 eo1 em1 es1, x_Clash_NoRow := Xc.exm_two el0 eo0 em0 es2, x_Clash_Clash := Xc.exm_two el1 eo1 em1 es3, m_any := PySem.W.mg_none_of X G z0, m_bool := PySem.W.mg_none_of X G z1, m_dict := PySem.W.mg_none_of X G z2, m_enumerate := PySem.W.mg_none_of X G z3, m_int := PySem.W.mg_none_of X G z4, m_isinstance := PySem.W.mg_none_of X G z5, m_len := PySem.W.mg_none_of X G z6, m_list := PySem.W.mg_none_of X G z7, m_max := PySem.W.mg_none_of X G z8, m_min := PySem.W.mg_none_of X G z9, m_range := PySem.W.mg_none_of X G z10, m_sorted := PySem.W.mg_none_of X G z11, m_tuple := PySem.W.mg_none_of X G z12, c_MOST_COUNT := ⟨_, PySem.W.mg_of X G q0⟩, c_MOST_NUMBER := ⟨_, PySem.W.mg_of X G q1⟩, c_MOST_TIME := ⟨_, PySem.W.mg_of X G q2⟩ }
  obtain ⟨dd35, te35⟩ := tr35
  obtain ⟨tc35, th35⟩ := tq35 _ _ _ _ te35 ts35
  have hA : ∀ p ∈ ([(cc35, tt35)] : List (Addr × Addr)), h.get? p.2 = some { cls := .none, data := .fields #[] } := by
    intro p hp
    simp only [List.mem_cons, List.not_mem_nil, or_false] at hp
    rcases hp with rfl
    · exact th35
  have hN : ∀ p ∈ ([(cc35, tt35)] : List (Addr × Addr)), K.lookup p.2 = none := by
    intro p hp
    simp only [List.mem_cons, List.not_mem_nil, or_false] at hp
    rcases hp with rfl
    · exact tn35
  have hC : ∀ p ∈ ([(cc35, tt35)] : List (Addr × Addr)), PySem.W.CodeHd h p.1 p.2 := by
    intro p hp
    simp only [List.mem_cons, List.not_mem_nil, or_false] at hp
    rcases hp with rfl
    · exact tc35
  refine ⟨fd 64, [(cc35, tt35)], sp_law af K, hA, hN, hC, fun s v => .of_eq rfl, fun H a ns hl _ hH hS => ⟨a, ns, rfl, hS, hl, fun i hi => ?_, fun _ => rfl⟩, fun base _ _ hB => ?_⟩
  · simp only [tabIx, List.mem_cons, List.not_mem_nil, or_false] at hi
    rcases hi with rfl
    · exact ⟨#[], hH (cc35, tt35) (by simp), True.intro⟩
  · have B : TxtB base mg af := { t_can_come_of_more := let t := hB (cc35, tt35) (by simp); ⟨t.code, t.bm, t.gP⟩ }
    exact ok_law T B
end Gp
open PySem PySem.W PyProof.Rows
set_option maxHeartbeats 0 in
theorem PySem.Challenge.cw_gapcalls_k20_what_may_have_led_to_what_holds : PySem.Challenge.rw_gapcalls_k20_what_may_have_led_to_what.Holds := by
  w_on; o_law; k_head; (case hw => w_witness2)
  k_fill
  refine Gp.Gx.walk_tab (l := PySem.Challenge.rw_gapcalls_k20_what_may_have_led_to_what) (n := 63) (k := 11) (x := "script") (CX := fun _ => L2.CX0) rfl (by decide) rfl ⟨rfl, by decide, by decide⟩ (fun w h Y => PySem.W.kIn_of Y) ?F (fun _ _ _ _ _ h => h)
  case F =>
    intro w mg fa h Y0 KX G hmg TT
    refine' Gp.all_mk KX G hmg ?a0 ?l0 ?c0 ?k0 ?a1 ?l1 ?c1 ?k1 ?a2 ?l2 ?c2 ?k2 ?a3 ?l3 ?c3 ?k3 ?a4 ?l4 ?c4 ?k4 ?a5 ?l5 ?c5 ?k5 ?a6 ?l6 ?c6 ?k6 ?a7 ?l7 ?c7 ?k7 ?a8 ?l8 ?c8 ?k8 ?a9 ?l9 ?c9 ?k9 ?a10 ?l10 ?c10 ?k10 ?a11 ?l11 ?c11 ?k11 ?a12 ?l12 ?c12 ?k12 ?a13 ?l13 ?c13 ?k13 ?a14 ?l14 ?c14 ?k14 ?a15 ?l15 ?c15 ?k15 ?a16 ?l16 ?c16 ?k16 ?a17 ?l17 ?c17 ?k17 ?a18 ?l18 ?c18 ?k18 ?a19 ?l19 ?c19 ?k19 ?a20 ?l20 ?c20 ?k20 ?a21 ?l21 ?c21 ?k21 ?a22 ?l22 ?c22 ?k22 ?a23 ?l23 ?c23 ?k23 ?a24 ?l24 ?c24 ?k24 ?a25 ?l25 ?c25 ?k25 ?a26 ?l26 ?c26 ?k26 ?a27 ?l27 ?c27 ?k27 ?a28 ?l28 ?c28 ?k28 ?a29 ?l29 ?c29 ?k29 ?a30 ?l30 ?c30 ?k30 ?a31 ?l31 ?c31 ?k31 ?a32 ?l32 ?c32 ?k32 ?a33 ?l33 ?c33 ?k33 ?a34 ?l34 ?c34 ?k34 ?a35 ?l35 ?c35 ?k35 ?a36 ?l36 ?c36 ?k36 ?a37 ?l37 ?c37 ?k37 ?a38 ?l38 ?c38 ?k38 ?a39 ?l39 ?c39 ?k39 ?a40 ?l40 ?c40 ?k40 ?a41 ?l41 ?c41 ?k41 ?a42 ?l42 ?c42 ?k42 ?a43 ?l43 ?c43 ?k43 ?a44 ?l44 ?c44 ?k44 ?a45 ?l45 ?c45 ?k45 ?a46 ?l46 ?c46 ?k46 ?a47 ?l47 ?c47 ?k47 ?a48 ?l48 ?c48 ?k48 ?a49 ?l49 ?c49 ?k49 ?a50 ?l50 ?c50 ?k50 ?a51 ?l51 ?c51 ?k51 ?a52 ?l52 ?c52 ?k52 ?a53 ?l53 ?c53 ?k53 ?a54 ?l54 ?c54 ?k54 ?a55 ?l55 ?c55 ?k55 ?a56 ?l56 ?c56 ?k56 ?a57 ?l57 ?c57 ?k57 ?a58 ?l58 ?c58 ?k58 ?a59 ?l59 ?c59 ?k59 ?a60 ?l60 ?c60 ?k60 ?a61 ?l61 ?c61 ?k61 ?a62 ?l62 ?c62 ?k62 ?a63 ?l63 ?c63 ?k63 ?a64 ?l64 ?c64 ?k64 ?ea0 ?eb0 ?ec0 ?ed0 ?ee0 ?ef0 ?eg0 ?eh0 ?ei0 ?ej0 ?ek0 ?el0 ?em0 ?en0 ?eo0 ?ep0_0 ?ea1 ?eb1 ?ec1 ?ed1 ?ee1 ?ef1 ?eg1 ?eh1 ?ei1 ?ej1 ?ek1 ?el1 ?em1 ?en1 ?eo1 ?ep1_0 ?ep1_1 ?oa0 ?ob0 ?oc0_ ?od0_ ?oe0 ?of0 ?og0 ?oh0 ?oi0 ?oj0 ?ok0 ?ol0 ?on0_0 ?on0_1 ?on0_2 ?on0_3 ?on0_4 ?on0_5 ?on0_6 ?on0_7 ?on0_8 ?es0 ?es1 ?es2 ?es3 ?z0 ?z1 ?z2 ?z3 ?z4 ?z5 ?z6 ?z7 ?z8 ?z9 ?z10 ?z11 ?z12 ?q0 ?q1 ?q2 ?tq35 ?tr35 ?ts35 ?tn35
    (case a0 => k_is)
    (case l0 => k_is)
    (case c0 => k_is)
    (case k0 => k_is)
    (case a1 => k_is)
    (case l1 => k_is)
    (case c1 => k_is)
    (case k1 => k_is)
    (case a2 => k_is)
    (case l2 => k_is)
    (case c2 => k_is)
    (case k2 => k_is)
    (case a3 => k_is)
    (case l3 => k_is)
    (case c3 => k_is)
    (case k3 => k_is)
    (case a4 => k_is)
    (case l4 => k_is)
    (case c4 => k_is)
    (case k4 => k_is)
    (case a5 => k_is)
    (case l5 => k_is)
    (case c5 => k_is)
    (case k5 => k_is)
    (case a6 => k_is)
    (case l6 => k_is)
    (case c6 => k_is)
    (case k6 => k_is)
    (case a7 => k_is)
    (case l7 => k_is)
    (case c7 => k_is)
    (case k7 => k_is)
    (case a8 => k_is)
    (case l8 => k_is)
    (case c8 => k_is)
    (case k8 => k_is)
    (case a9 => k_is)
    (case l9 => k_is)
    (case c9 => k_is)
    (case k9 => k_is)
    (case a10 => k_is)
    (case l10 => k_is)
    (case c10 => k_is)
    (case k10 => k_is)
    (case a11 => k_is)
    (case l11 => k_is)
    (case c11 => k_is)
    (case k11 => k_is)
    (case a12 => k_is)
    (case l12 => k_is)
    (case c12 => k_is)
    (case k12 => k_is)
    (case a13 => k_is)
    (case l13 => k_is)
    (case c13 => k_is)
    (case k13 => k_is)
    (case a14 => k_is)
    (case l14 => k_is)
    (case c14 => k_is)
    (case k14 => k_is)
    (case a15 => k_is)
    (case l15 => k_is)
    (case c15 => k_is)
    (case k15 => k_is)
    (case a16 => k_is)
    (case l16 => k_is)
    (case c16 => k_is)
    (case k16 => k_is)
    (case a17 => k_is)
    (case l17 => k_is)
    (case c17 => k_is)
    (case k17 => k_is)
    (case a18 => k_is)
    (case l18 => k_is)
    (case c18 => k_is)
    (case k18 => k_is)
    (case a19 => k_is)
    (case l19 => k_is)
    (case c19 => k_is)
    (case k19 => k_is)
    (case a20 => k_is)
    (case l20 => k_is)
    (case c20 => k_is)
    (case k20 => k_is)
    (case a21 => k_is)
    (case l21 => k_is)
    (case c21 => k_is)
    (case k21 => k_is)
    (case a22 => k_is)
    (case l22 => k_is)
    (case c22 => k_is)
    (case k22 => k_is)
    (case a23 => k_is)
    (case l23 => k_is)
    (case c23 => k_is)
    (case k23 => k_is)
    (case a24 => k_is)
    (case l24 => k_is)
    (case c24 => k_is)
    (case k24 => k_is)
    (case a25 => k_is)
    (case l25 => k_is)
    (case c25 => k_is)
    (case k25 => k_is)
    (case a26 => k_is)
    (case l26 => k_is)
    (case c26 => k_is)
    (case k26 => k_is)
    (case a27 => k_is)
    (case l27 => k_is)
    (case c27 => k_is)
    (case k27 => k_is)
    (case a28 => k_is)
    (case l28 => k_is)
    (case c28 => k_is)
    (case k28 => k_is)
    (case a29 => k_is)
    (case l29 => k_is)
    (case c29 => k_is)
    (case k29 => k_is)
    (case a30 => k_is)
    (case l30 => k_is)
    (case c30 => k_is)
    (case k30 => k_is)
    (case a31 => k_is)
    (case l31 => k_is)
    (case c31 => k_is)
    (case k31 => k_is)
    (case a32 => k_is)
    (case l32 => k_is)
    (case c32 => k_is)
    (case k32 => k_is)
    (case a33 => k_is)
    (case l33 => k_is)
    (case c33 => k_is)
    (case k33 => k_is)
    (case a34 => k_is)
    (case l34 => k_is)
    (case c34 => k_is)
    (case k34 => k_is)
    (case a35 => k_is)
    (case l35 => k_is)
    (case c35 => k_is)
    (case k35 => k_is)
    (case a36 => k_is)
    (case l36 => k_is)
    (case c36 => k_is)
    (case k36 => k_is)
    (case a37 => k_is)
    (case l37 => k_is)
    (case c37 => k_is)
    (case k37 => k_is)
    (case a38 => k_is)
    (case l38 => k_is)
    (case c38 => k_is)
    (case k38 => k_is)
    (case a39 => k_is)
    (case l39 => k_is)
    (case c39 => k_is)
    (case k39 => k_is)
    (case a40 => k_is)
    (case l40 => k_is)
    (case c40 => k_is)
    (case k40 => k_is)
    (case a41 => k_is)
    (case l41 => k_is)
    (case c41 => k_is)
    (case k41 => k_is)
    (case a42 => k_is)
    (case l42 => k_is)
    (case c42 => k_is)
    (case k42 => k_is)
    (case a43 => k_is)
    (case l43 => k_is)
    (case c43 => k_is)
    (case k43 => k_is)
    (case a44 => k_is)
    (case l44 => k_is)
    (case c44 => k_is)
    (case k44 => k_is)
    (case a45 => k_is)
    (case l45 => k_is)
    (case c45 => k_is)
    (case k45 => k_is)
    (case a46 => k_is)
    (case l46 => k_is)
    (case c46 => k_is)
    (case k46 => k_is)
    (case a47 => k_is)
    (case l47 => k_is)
    (case c47 => k_is)
    (case k47 => k_is)
    (case a48 => k_is)
    (case l48 => k_is)
    (case c48 => k_is)
    (case k48 => k_is)
    (case a49 => k_is)
    (case l49 => k_is)
    (case c49 => k_is)
    (case k49 => k_is)
    (case a50 => k_is)
    (case l50 => k_is)
    (case c50 => k_is)
    (case k50 => k_is)
    (case a51 => k_is)
    (case l51 => k_is)
    (case c51 => k_is)
    (case k51 => k_is)
    (case a52 => k_is)
    (case l52 => k_is)
    (case c52 => k_is)
    (case k52 => k_is)
    (case a53 => k_is)
    (case l53 => k_is)
    (case c53 => k_is)
    (case k53 => k_is)
    (case a54 => k_is)
    (case l54 => k_is)
    (case c54 => k_is)
    (case k54 => k_is)
    (case a55 => k_is)
    (case l55 => k_is)
    (case c55 => k_is)
    (case k55 => k_is)
    (case a56 => k_is)
    (case l56 => k_is)
    (case c56 => k_is)
    (case k56 => k_is)
    (case a57 => k_is)
    (case l57 => k_is)
    (case c57 => k_is)
    (case k57 => k_is)
    (case a58 => k_is)
    (case l58 => k_is)
    (case c58 => k_is)
    (case k58 => k_is)
    (case a59 => k_is)
    (case l59 => k_is)
    (case c59 => k_is)
    (case k59 => k_is)
    (case a60 => k_is)
    (case l60 => k_is)
    (case c60 => k_is)
    (case k60 => k_is)
    (case a61 => k_is)
    (case l61 => k_is)
    (case c61 => k_is)
    (case k61 => k_is)
    (case a62 => k_is)
    (case l62 => k_is)
    (case c62 => k_is)
    (case k62 => k_is)
    (case a63 => k_is)
    (case l63 => k_is)
    (case c63 => k_is)
    (case k63 => k_is)
    (case a64 => k_is)
    (case l64 => k_is)
    (case c64 => k_is)
    (case k64 => k_is)
    (case ea0 => k_is)
    (case eb0 => k_is)
    (case ec0 => k_is)
    (case ed0 => k_is)
    (case ee0 => k_is)
    (case ef0 => k_is)
    (case eg0 => k_is)
    (case eh0 => k_is)
    (case ei0 => k_is)
    (case ej0 => k_is)
    (case ek0 => k_is)
    (case el0 => k_is)
    (case em0 => k_is)
    (case en0 => k_is)
    (case eo0 => k_is)
    (case ep0_0 => k_is)
    (case ea1 => k_is)
    (case eb1 => k_is)
    (case ec1 => k_is)
    (case ed1 => k_is)
    (case ee1 => k_is)
    (case ef1 => k_is)
    (case eg1 => k_is)
    (case eh1 => k_is)
    (case ei1 => k_is)
    (case ej1 => k_is)
    (case ek1 => k_is)
    (case el1 => k_is)
    (case em1 => k_is)
    (case en1 => k_is)
    (case eo1 => k_is)
    (case ep1_0 => k_is)
    (case ep1_1 => k_is)
    (case oa0 => k_is)
    (case ob0 => k_is)
    (case oc0_ => k_is)
    (case od0_ => k_is)
    (case oe0 => k_is)
    (case of0 => k_is)
    (case og0 => k_is)
    (case oh0 => k_is)
    (case oi0 => k_is)
    (case oj0 => k_is)
    (case ok0 => k_is)
    (case ol0 => k_is)
    (case on0_0 => k_is)
    (case on0_1 => k_is)
    (case on0_2 => k_is)
    (case on0_3 => k_is)
    (case on0_4 => k_is)
    (case on0_5 => k_is)
    (case on0_6 => k_is)
    (case on0_7 => k_is)
    (case on0_8 => k_is)
    (case es0 => first | k_is | rfl)
    (case es1 => first | k_is | rfl)
    (case es2 => first | k_is | rfl)
    (case es3 => first | k_is | rfl)
    (case z0 => k_is)
    (case z1 => k_is)
    (case z2 => k_is)
    (case z3 => k_is)
    (case z4 => k_is)
    (case z5 => k_is)
    (case z6 => k_is)
    (case z7 => k_is)
    (case z8 => k_is)
    (case z9 => k_is)
    (case z10 => k_is)
    (case z11 => k_is)
    (case z12 => k_is)
    (case q0 => k_is)
    (case q1 => k_is)
    (case q2 => k_is)
    (case tq35 => exact TT)
    (case tr35 => exact ⟨_, rfl⟩)
    (case ts35 => first | k_is | rfl)
    (case tn35 => first | k_is | rfl)
