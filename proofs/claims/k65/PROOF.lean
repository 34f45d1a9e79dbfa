import PyProof.Rows.All
import HandS.AnyAll
import HandS.GenList
import PyProof.GenComp
import PyProof.GenArm
import PyProof.SumAny
import HandS.EndTab
import HandS.DeepEq
import HandS.Finally
import Wide.All
import OpenK.AllK
import Wide.FinOn
import PySem.Challenge.RW_gapcalls_k65_whole_clocks_set_otherwise
import HandS.ForMost
import HandS.Wide
import HandS.Codes
import HandS.Walk
import HandS.NoneIn
import HandS.Style
import HandS.IsInst
import HandS.SortOrd
import HandS.SortRule
import KE.LtData
import HandS.ForExc
import HandS.ExcInit
import HandS.ExcField
import HandS.More
import HandS.Deep
import HandS.TupAny
import HandS.TupLe
import HandS.Zip
import KE.GoesZip
import KE.GoesMore
import KE.GoesEnum
import Wide.All
import OpenK.AllK
import Wide.FinOn
import HandS.ForMost
import HandS.DictComp
import HandS.Conv
import HandS.SortKw
import HandS.Walk
import HandS.SortOrd
import KE.DataMinMax
import KE.KDictWalk
set_option Elab.async false
set_option linter.all false
set_option maxRecDepth 100000
set_option maxHeartbeats 4000000
namespace Gp
open PySem PySem.Spec PyProof.Rows L2
def topS (i : Nat) : Stmt := PySem.Challenge.pw_gapcalls_k65_whole_clocks_set_otherwise.main.body.getD i (.Pass ⟨0, 0, 0, 0⟩)
abbrev s_own_copy : Stmt := topS 1
theorem sc_own_copy : FnScope ["things"] ["things"] (defScope s_own_copy) := ⟨rfl, rfl, rfl, by decide +kernel, rfl, by decide +kernel, by decide +kernel⟩
abbrev s_is_whole_from : Stmt := topS 10
theorem sc_is_whole_from : FnScope ["thing", "low", "high"] ["thing", "low", "high"] (defScope s_is_whole_from) := ⟨rfl, rfl, rfl, by decide +kernel, rfl, by decide +kernel, by decide +kernel⟩
abbrev s_is_time : Stmt := topS 11
theorem sc_is_time : FnScope ["thing"] ["thing"] (defScope s_is_time) := ⟨rfl, rfl, rfl, by decide +kernel, rfl, by decide +kernel, by decide +kernel⟩
abbrev s_is_number : Stmt := topS 12
theorem sc_is_number : FnScope ["thing"] ["thing"] (defScope s_is_number) := ⟨rfl, rfl, rfl, by decide +kernel, rfl, by decide +kernel, by decide +kernel⟩
abbrev s_is_count : Stmt := topS 13
theorem sc_is_count : FnScope ["thing"] ["thing"] (defScope s_is_count) := ⟨rfl, rfl, rfl, by decide +kernel, rfl, by decide +kernel, by decide +kernel⟩
abbrev s_is_span : Stmt := topS 14
theorem sc_is_span : FnScope ["low", "high"] ["low", "high"] (defScope s_is_span) := ⟨rfl, rfl, rfl, by decide +kernel, rfl, by decide +kernel, by decide +kernel⟩
abbrev s_is_ask_row : Stmt := topS 15
theorem sc_is_ask_row : FnScope ["houses", "thing", "word", "house", "number", "job", "asked", "out", "back"] ["houses", "thing"] (defScope s_is_ask_row) := ⟨rfl, rfl, rfl, by decide +kernel, rfl, by decide +kernel, by decide +kernel⟩
abbrev s_is_job_row : Stmt := topS 16
theorem sc_is_job_row : FnScope ["houses", "thing", "word", "house", "number", "begin", "end"] ["houses", "thing"] (defScope s_is_job_row) := ⟨rfl, rfl, rfl, by decide +kernel, rfl, by decide +kernel, by decide +kernel⟩
abbrev s_is_all_row : Stmt := topS 17
theorem sc_is_all_row : FnScope ["houses", "thing", "word", "house", "asks", "jobs"] ["houses", "thing"] (defScope s_is_all_row) := ⟨rfl, rfl, rfl, by decide +kernel, rfl, by decide +kernel, by decide +kernel⟩
abbrev s_is_row : Stmt := topS 18
theorem sc_is_row : FnScope ["town", "thing", "houses"] ["town", "thing"] (defScope s_is_row) := ⟨rfl, rfl, rfl, by decide +kernel, rfl, by decide +kernel, by decide +kernel⟩
abbrev s_is_out_of_order : Stmt := topS 20
theorem sc_is_out_of_order : FnScope ["number", "time", "other_number", "other_time"] ["number", "time", "other_number", "other_time"] (defScope s_is_out_of_order) := ⟨rfl, rfl, rfl, by decide +kernel, rfl, by decide +kernel, by decide +kernel⟩
abbrev s_do_asks_clash : Stmt := topS 21
theorem sc_do_asks_clash : FnScope ["one", "other", "number", "out", "other_number", "other_out"] ["one", "other"] (defScope s_do_asks_clash) := ⟨rfl, rfl, rfl, by decide +kernel, rfl, by decide +kernel, by decide +kernel⟩
abbrev s_do_jobs_clash : Stmt := topS 22
theorem sc_do_jobs_clash : FnScope ["one", "other", "number", "begin", "other_number", "other_begin"] ["one", "other"] (defScope s_do_jobs_clash) := ⟨rfl, rfl, rfl, by decide +kernel, rfl, by decide +kernel, by decide +kernel⟩
abbrev s_do_job_and_ask_clash : Stmt := topS 23
theorem sc_do_job_and_ask_clash : FnScope ["job", "ask", "number", "begin", "end", "made_in", "out", "back"] ["job", "ask"] (defScope s_do_job_and_ask_clash) := ⟨rfl, rfl, rfl, by decide +kernel, rfl, by decide +kernel, by decide +kernel⟩
abbrev s_does_all_row_clash : Stmt := topS 24
theorem sc_does_all_row_clash : FnScope ["all_row", "other", "asks", "jobs"] ["all_row", "other"] (defScope s_does_all_row_clash) := ⟨rfl, rfl, rfl, by decide +kernel, rfl, by decide +kernel, by decide +kernel⟩
abbrev s_do_alike_sorts_clash : Stmt := topS 25
theorem sc_do_alike_sorts_clash : FnScope ["one", "other"] ["one", "other"] (defScope s_do_alike_sorts_clash) := ⟨rfl, rfl, rfl, by decide +kernel, rfl, by decide +kernel, by decide +kernel⟩
abbrev s_do_clash : Stmt := topS 26
theorem sc_do_clash : FnScope ["one", "other"] ["one", "other"] (defScope s_do_clash) := ⟨rfl, rfl, rfl, by decide +kernel, rfl, by decide +kernel, by decide +kernel⟩
abbrev s_need_rows : Stmt := topS 27
theorem sc_need_rows : FnScope ["town", "rows", "number", "thing"] ["town", "rows"] (defScope s_need_rows) := ⟨rfl, rfl, rfl, by decide +kernel, rfl, by decide +kernel, by decide +kernel⟩
abbrev s_need_book : Stmt := topS 28
theorem sc_need_book : FnScope ["town", "rows", "second", "first"] ["town", "rows"] (defScope s_need_book) := ⟨rfl, rfl, rfl, by decide +kernel, rfl, by decide +kernel, by decide +kernel⟩
abbrev s_gaps_of : Stmt := topS 31
theorem sc_gaps_of : FnScope ["town", "rows"] ["town", "rows"] (defScope s_gaps_of) := ⟨rfl, rfl, rfl, by decide +kernel, rfl, by decide +kernel, by decide +kernel⟩
abbrev s_rows_by_number : Stmt := topS 32
theorem sc_rows_by_number : FnScope ["rows", "word", "row"] ["rows", "word"] (defScope s_rows_by_number) := ⟨rfl, rfl, rfl, by decide +kernel, rfl, by decide +kernel, by decide +kernel⟩
abbrev s_numbers_below : Stmt := topS 33
theorem sc_numbers_below : FnScope ["town", "counts", "house", "number"] ["town", "counts"] (defScope s_numbers_below) := ⟨rfl, rfl, rfl, by decide +kernel, rfl, by decide +kernel, by decide +kernel⟩
abbrev s_asks_of_house : Stmt := topS 34
theorem sc_asks_of_house : FnScope ["gaps", "house", "row"] ["gaps", "house"] (defScope s_asks_of_house) := ⟨rfl, rfl, rfl, by decide +kernel, rfl, by decide +kernel, by decide +kernel⟩
abbrev s_jobs_of_house : Stmt := topS 35
theorem sc_jobs_of_house : FnScope ["gaps", "house", "row"] ["gaps", "house"] (defScope s_jobs_of_house) := ⟨rfl, rfl, rfl, by decide +kernel, rfl, by decide +kernel, by decide +kernel⟩
abbrev s_count_asks : Stmt := topS 36
theorem sc_count_asks : FnScope ["gaps", "house", "row"] ["gaps", "house"] (defScope s_count_asks) := ⟨rfl, rfl, rfl, by decide +kernel, rfl, by decide +kernel, by decide +kernel⟩
abbrev s_count_jobs : Stmt := topS 37
theorem sc_count_jobs : FnScope ["gaps", "house", "done", "row", "asked_in"] ["gaps", "house"] (defScope s_count_jobs) := ⟨rfl, rfl, rfl, by decide +kernel, rfl, by decide +kernel, by decide +kernel⟩
abbrev s_earliest : Stmt := topS 38
theorem sc_earliest : FnScope ["times"] ["times"] (defScope s_earliest) := ⟨rfl, rfl, rfl, by decide +kernel, rfl, by decide +kernel, by decide +kernel⟩
abbrev s_latest : Stmt := topS 39
theorem sc_latest : FnScope ["times"] ["times"] (defScope s_latest) := ⟨rfl, rfl, rfl, by decide +kernel, rfl, by decide +kernel, by decide +kernel⟩
abbrev s_span_of_ask : Stmt := topS 40
theorem sc_span_of_ask : FnScope ["gaps", "ask", "house", "number", "asks", "low", "row", "high"] ["gaps", "ask"] (defScope s_span_of_ask) := ⟨rfl, rfl, rfl, by decide +kernel, rfl, by decide +kernel, by decide +kernel⟩
abbrev s_span_of_job : Stmt := topS 41
theorem sc_span_of_job : FnScope ["gaps", "job", "house", "number", "asks", "jobs", "low", "row", "begins", "ahead_of_asks", "last"] ["gaps", "job"] (defScope s_span_of_job) := ⟨rfl, rfl, rfl, by decide +kernel, rfl, by decide +kernel, by decide +kernel⟩
abbrev s_more_of : Stmt := topS 42
theorem sc_more_of : FnScope ["gaps", "house", "outs", "row", "begins"] ["gaps", "house"] (defScope s_more_of) := ⟨rfl, rfl, rfl, by decide +kernel, rfl, by decide +kernel, by decide +kernel⟩
abbrev s_links_of : Stmt := topS 44
theorem sc_links_of : FnScope ["town", "rows", "pairs", "gaps", "links", "ask", "job", "word", "house", "number", "made_in", "asked", "out", "back", "begin", "end"] ["town", "rows", "pairs"] (defScope s_links_of) := ⟨rfl, rfl, rfl, by decide +kernel, rfl, by decide +kernel, by decide +kernel⟩
abbrev s_tighten : Stmt := topS 45
theorem sc_tighten : FnScope ["links", "sums", "via", "lowered", "link", "one", "other", "most"] ["links", "sums", "via"] (defScope s_tighten) := ⟨rfl, rfl, rfl, by decide +kernel, rfl, by decide +kernel, by decide +kernel⟩
abbrev s_way_from : Stmt := topS 46
theorem sc_way_from : FnScope ["house", "end", "via", "way"] ["house", "end", "via"] (defScope s_way_from) := ⟨rfl, rfl, rfl, by decide +kernel, rfl, by decide +kernel, by decide +kernel⟩
abbrev s_settle : Stmt := topS 47
theorem sc_settle : FnScope ["houses", "links", "sums", "house", "via", "lowered", "turn"] ["houses", "links"] (defScope s_settle) := ⟨rfl, rfl, rfl, by decide +kernel, rfl, by decide +kernel, by decide +kernel⟩
abbrev s_in_time : Stmt := topS 48
theorem sc_in_time : FnScope ["town", "rows", "pairs", "shifts", "links", "one", "other", "most"] ["town", "rows", "pairs", "shifts"] (defScope s_in_time) := ⟨rfl, rfl, rfl, by decide +kernel, rfl, by decide +kernel, by decide +kernel⟩
abbrev s_is_ring : Stmt := topS 49
theorem sc_is_ring : FnScope ["town", "rows", "pairs", "links", "own", "link", "at", "one", "other", "most"] ["town", "rows", "pairs", "links"] (defScope s_is_ring) := ⟨rfl, rfl, rfl, by decide +kernel, rfl, by decide +kernel, by decide +kernel⟩
abbrev s_shifts : Stmt := topS 50
theorem sc_shifts : FnScope ["town", "rows", "pairs", "sums", "ring"] ["town", "rows", "pairs"] (defScope s_shifts) := ⟨rfl, rfl, rfl, by decide +kernel, rfl, by decide +kernel, by decide +kernel⟩
abbrev s_greatest : Stmt := topS 51
theorem sc_greatest : FnScope ["town", "rows", "pairs", "one", "other", "links", "sums", "ring", "bounds", "via", "turn"] ["town", "rows", "pairs", "one", "other"] (defScope s_greatest) := ⟨rfl, rfl, rfl, by decide +kernel, rfl, by decide +kernel, by decide +kernel⟩
abbrev s_l_spread : Stmt := topS 53
theorem sc_l_spread : FnScope ["cell", "at", "one", "two", "three"] ["cell", "at"] (defScope s_l_spread) := ⟨rfl, rfl, rfl, by decide +kernel, rfl, by decide +kernel, by decide +kernel⟩
abbrev s_l_open : Stmt := topS 54
theorem sc_l_open : FnScope ["script", "cells", "k", "cell"] ["script"] (defScope s_l_open) := ⟨rfl, rfl, rfl, by decide +kernel, rfl, by decide +kernel, by decide +kernel⟩
abbrev s_l_anew : Stmt := topS 55
theorem sc_l_anew : FnScope ["pen"] ["pen"] (defScope s_l_anew) := ⟨rfl, rfl, rfl, by decide +kernel, rfl, by decide +kernel, by decide +kernel⟩
abbrev s_l_take : Stmt := topS 56
theorem sc_l_take : FnScope ["pen", "many", "at", "cell", "found"] ["pen", "many"] (defScope s_l_take) := ⟨rfl, rfl, rfl, by decide +kernel, rfl, by decide +kernel, by decide +kernel⟩
abbrev s_l_names : Stmt := topS 57
theorem sc_l_names : FnScope ["pen", "many", "letters", "base", "k", "way", "turn", "size", "found", "sign", "part", "at"] ["pen", "many"] (defScope s_l_names) := ⟨rfl, rfl, rfl, by decide +kernel, rfl, by decide +kernel, by decide +kernel⟩
abbrev s_l_town : Stmt := topS 58
theorem sc_l_town : FnScope ["pen", "most", "houses", "gates", "house"] ["pen", "most"] (defScope s_l_town) := ⟨rfl, rfl, rfl, by decide +kernel, rfl, by decide +kernel, by decide +kernel⟩
abbrev s_l_room : Stmt := topS 59
theorem sc_l_room : FnScope ["world", "house", "goal", "asks", "ask", "jobs", "job"] ["world", "house", "goal"] (defScope s_l_room) := ⟨rfl, rfl, rfl, by decide +kernel, rfl, by decide +kernel, by decide +kernel⟩
abbrev s_l_job : Stmt := topS 60
theorem sc_l_job : FnScope ["pen", "world", "town", "house", "start", "deep", "place", "begin", "last", "now", "turn", "goal", "out", "ask"] ["pen", "world", "town", "house", "start", "deep"] (defScope s_l_job) := ⟨rfl, rfl, rfl, by decide +kernel, rfl, by decide +kernel, by decide +kernel⟩
abbrev s_l_world : Stmt := topS 61
theorem sc_l_world : FnScope ["pen", "town", "tops", "deep", "most", "stray", "world", "turn", "doors", "house"] ["pen", "town", "tops", "deep", "most", "stray"] (defScope s_l_world) := ⟨rfl, rfl, rfl, by decide +kernel, rfl, by decide +kernel, by decide +kernel⟩
abbrev s_l_called : Stmt := topS 62
theorem sc_l_called : FnScope ["town", "world", "asks", "jobs", "house", "outs", "at", "ask", "begins", "place", "job", "number"] ["town", "world"] (defScope s_l_called) := ⟨rfl, rfl, rfl, by decide +kernel, rfl, by decide +kernel, by decide +kernel⟩
abbrev s_l_bases : Stmt := topS 63
theorem sc_l_bases : FnScope ["pen", "town", "many", "base", "house"] ["pen", "town", "many"] (defScope s_l_bases) := ⟨rfl, rfl, rfl, by decide +kernel, rfl, by decide +kernel, by decide +kernel⟩
abbrev s_l_all_rows : Stmt := topS 64
theorem sc_l_all_rows : FnScope ["town", "world", "bases", "asks", "jobs", "rows", "place", "house", "begin", "end", "at", "goal", "out", "back", "child", "number", "many"] ["town", "world", "bases"] (defScope s_l_all_rows) := ⟨rfl, rfl, rfl, by decide +kernel, rfl, by decide +kernel, by decide +kernel⟩
abbrev s_l_left : Stmt := topS 65
theorem sc_l_left : FnScope ["pen", "rows", "fewer", "some", "found", "row", "turn"] ["pen", "rows", "fewer"] (defScope s_l_left) := ⟨rfl, rfl, rfl, by decide +kernel, rfl, by decide +kernel, by decide +kernel⟩
abbrev s_l_true_pairs : Stmt := topS 66
theorem sc_l_true_pairs : FnScope ["town", "world", "rows", "asks", "jobs", "known", "row", "pairs", "at", "ask"] ["town", "world", "rows"] (defScope s_l_true_pairs) := ⟨rfl, rfl, rfl, by decide +kernel, rfl, by decide +kernel, by decide +kernel⟩
abbrev s_l_gated : Stmt := topS 67
theorem sc_l_gated : FnScope ["pen", "most", "town"] ["pen", "most"] (defScope s_l_gated) := ⟨rfl, rfl, rfl, by decide +kernel, rfl, by decide +kernel, by decide +kernel⟩
abbrev s_l_clock_book : Stmt := topS 70
theorem sc_l_clock_book : FnScope ["pen", "houses", "most", "town", "world", "bases", "rows"] ["pen", "houses", "most"] (defScope s_l_clock_book) := ⟨rfl, rfl, rfl, by decide +kernel, rfl, by decide +kernel, by decide +kernel⟩
abbrev s_l_some_pairs : Stmt := topS 71
theorem sc_l_some_pairs : FnScope ["pen", "rows", "true_pairs", "wrong", "asks", "row", "jobs", "others", "ask", "job", "found", "k", "some"] ["pen", "rows", "true_pairs", "wrong"] (defScope s_l_some_pairs) := ⟨rfl, rfl, rfl, by decide +kernel, rfl, by decide +kernel, by decide +kernel⟩
abbrev s_l_set_on : Stmt := topS 72
theorem sc_l_set_on : FnScope ["rows", "by", "found", "row", "more"] ["rows", "by"] (defScope s_l_set_on) := ⟨rfl, rfl, rfl, by decide +kernel, rfl, by decide +kernel, by decide +kernel⟩
abbrev s_l_turned : Stmt := topS 73
theorem sc_l_turned : FnScope ["links", "by", "one", "other", "most"] ["links", "by"] (defScope s_l_turned) := ⟨rfl, rfl, rfl, by decide +kernel, rfl, by decide +kernel, by decide +kernel⟩
abbrev s_l_great_right : Stmt := topS 74
theorem sc_l_great_right : FnScope ["town", "books", "pairs", "by", "one", "other", "here", "there"] ["town", "books", "pairs", "by"] (defScope s_l_great_right) := ⟨rfl, rfl, rfl, by decide +kernel, rfl, by decide +kernel, by decide +kernel⟩
abbrev s_law : Stmt := topS 75
theorem sc_law : FnScope ["script", "pen", "turn", "town", "rows", "bases", "true_pairs", "low", "by", "house", "books", "pairs", "here", "there", "less"] ["script"] (defScope s_law) := ⟨rfl, rfl, rfl, by decide +kernel, rfl, by decide +kernel, by decide +kernel⟩
abbrev s_i_NoRow : Stmt := inClass (topS 3) 0
theorem sc_init_NoRow : FnScope ["self", "number"] ["self", "number"] (defScope s_i_NoRow) := ⟨rfl, rfl, rfl, by decide +kernel, rfl, by decide +kernel, by decide +kernel⟩
abbrev s_i_Clash : Stmt := inClass (topS 4) 0
theorem sc_init_Clash : FnScope ["self", "first", "second"] ["self", "first", "second"] (defScope s_i_Clash) := ⟨rfl, rfl, rfl, by decide +kernel, rfl, by decide +kernel, by decide +kernel⟩
abbrev s_i_OffTime : Stmt := inClass (topS 5) 0
theorem sc_init_OffTime : FnScope ["self", "links"] ["self", "links"] (defScope s_i_OffTime) := ⟨rfl, rfl, rfl, by decide +kernel, rfl, by decide +kernel, by decide +kernel⟩
structure ExcT (K : PySem.W.Frag) (mg : Str → Option Value) (name : Str) (C fI : Addr) (fdI : FuncData) (st : Stmt) (qual : Str) (ps fs : List Str) : Prop where
  g : mg name = some (.ref C)
  T : OexC K C
  iC : PySem.W.findIn K (.ref C) "__init__" = some (some (.ref fI))
  tI : PySem.W.typeIn K (.ref fI) = some (.type "function")
  F : Fun K "__init__" qual st fI fdI
  b : Binds K fdI ps []
  no : ∀ f ∈ fs, PySem.W.findIn K (.ref C) f = some none
  xf : XfC K C
abbrev s_i_Gaps : Stmt := inClass (topS 30) 0
theorem sc_init_Gaps : FnScope ["self", "town", "rows", "row", "house", "ask", "job"] ["self", "town", "rows"] (defScope s_i_Gaps) := ⟨rfl, rfl, rfl, by decide +kernel, rfl, by decide +kernel, by decide +kernel⟩
structure ClsT (K : PySem.W.Frag) (mg : Str → Option Value) (name : Str) (C fI : Addr) (fdI : FuncData) (st : Stmt) (qual : Str) (ps fs : List Str) : Prop where
  g : mg name = some (.ref C)
  M : Mk K C fI
  c : Cls K C
  F : Fun K "__init__" qual st fI fdI
  b : Binds K fdI ps []
  no : ∀ f ∈ fs, NoAttr K C f
structure Txt (K : PySem.W.Frag) (mg : Str → Option Value) (af : Nat → Addr) (fd : Nat → FuncData) : Prop where
  g_own_copy : mg "own_copy" = some (.ref (af 0))
  F_own_copy : Fun K "own_copy" "own_copy" s_own_copy (af 0) (fd 0)
  b_own_copy : Binds K (fd 0) ["things"] []
  g_is_whole_from : mg "is_whole_from" = some (.ref (af 1))
  F_is_whole_from : Fun K "is_whole_from" "is_whole_from" s_is_whole_from (af 1) (fd 1)
  b_is_whole_from : Binds K (fd 1) ["thing", "low", "high"] []
  g_is_time : mg "is_time" = some (.ref (af 2))
  F_is_time : Fun K "is_time" "is_time" s_is_time (af 2) (fd 2)
  b_is_time : Binds K (fd 2) ["thing"] []
  g_is_number : mg "is_number" = some (.ref (af 3))
  F_is_number : Fun K "is_number" "is_number" s_is_number (af 3) (fd 3)
  b_is_number : Binds K (fd 3) ["thing"] []
  g_is_count : mg "is_count" = some (.ref (af 4))
  F_is_count : Fun K "is_count" "is_count" s_is_count (af 4) (fd 4)
  b_is_count : Binds K (fd 4) ["thing"] []
  g_is_span : mg "is_span" = some (.ref (af 5))
  F_is_span : Fun K "is_span" "is_span" s_is_span (af 5) (fd 5)
  b_is_span : Binds K (fd 5) ["low", "high"] []
  g_is_ask_row : mg "is_ask_row" = some (.ref (af 6))
  F_is_ask_row : Fun K "is_ask_row" "is_ask_row" s_is_ask_row (af 6) (fd 6)
  b_is_ask_row : Binds K (fd 6) ["houses", "thing"] []
  g_is_job_row : mg "is_job_row" = some (.ref (af 7))
  F_is_job_row : Fun K "is_job_row" "is_job_row" s_is_job_row (af 7) (fd 7)
  b_is_job_row : Binds K (fd 7) ["houses", "thing"] []
  g_is_all_row : mg "is_all_row" = some (.ref (af 8))
  F_is_all_row : Fun K "is_all_row" "is_all_row" s_is_all_row (af 8) (fd 8)
  b_is_all_row : Binds K (fd 8) ["houses", "thing"] []
  g_is_row : mg "is_row" = some (.ref (af 9))
  F_is_row : Fun K "is_row" "is_row" s_is_row (af 9) (fd 9)
  b_is_row : Binds K (fd 9) ["town", "thing"] []
  g_is_out_of_order : mg "is_out_of_order" = some (.ref (af 10))
  F_is_out_of_order : Fun K "is_out_of_order" "is_out_of_order" s_is_out_of_order (af 10) (fd 10)
  b_is_out_of_order : Binds K (fd 10) ["number", "time", "other_number", "other_time"] []
  g_do_asks_clash : mg "do_asks_clash" = some (.ref (af 11))
  F_do_asks_clash : Fun K "do_asks_clash" "do_asks_clash" s_do_asks_clash (af 11) (fd 11)
  b_do_asks_clash : Binds K (fd 11) ["one", "other"] []
  g_do_jobs_clash : mg "do_jobs_clash" = some (.ref (af 12))
  F_do_jobs_clash : Fun K "do_jobs_clash" "do_jobs_clash" s_do_jobs_clash (af 12) (fd 12)
  b_do_jobs_clash : Binds K (fd 12) ["one", "other"] []
  g_do_job_and_ask_clash : mg "do_job_and_ask_clash" = some (.ref (af 13))
  F_do_job_and_ask_clash : Fun K "do_job_and_ask_clash" "do_job_and_ask_clash" s_do_job_and_ask_clash (af 13) (fd 13)
  b_do_job_and_ask_clash : Binds K (fd 13) ["job", "ask"] []
  g_does_all_row_clash : mg "does_all_row_clash" = some (.ref (af 14))
  F_does_all_row_clash : Fun K "does_all_row_clash" "does_all_row_clash" s_does_all_row_clash (af 14) (fd 14)
  b_does_all_row_clash : Binds K (fd 14) ["all_row", "other"] []
  g_do_alike_sorts_clash : mg "do_alike_sorts_clash" = some (.ref (af 15))
  F_do_alike_sorts_clash : Fun K "do_alike_sorts_clash" "do_alike_sorts_clash" s_do_alike_sorts_clash (af 15) (fd 15)
  b_do_alike_sorts_clash : Binds K (fd 15) ["one", "other"] []
  g_do_clash : mg "do_clash" = some (.ref (af 16))
  F_do_clash : Fun K "do_clash" "do_clash" s_do_clash (af 16) (fd 16)
  b_do_clash : Binds K (fd 16) ["one", "other"] []
  g_need_rows : mg "need_rows" = some (.ref (af 17))
  F_need_rows : Fun K "need_rows" "need_rows" s_need_rows (af 17) (fd 17)
  b_need_rows : Binds K (fd 17) ["town", "rows"] []
  g_need_book : mg "need_book" = some (.ref (af 18))
  F_need_book : Fun K "need_book" "need_book" s_need_book (af 18) (fd 18)
  b_need_book : Binds K (fd 18) ["town", "rows"] []
  g_gaps_of : mg "gaps_of" = some (.ref (af 19))
  F_gaps_of : Fun K "gaps_of" "gaps_of" s_gaps_of (af 19) (fd 19)
  b_gaps_of : Binds K (fd 19) ["town", "rows"] []
  g_rows_by_number : mg "rows_by_number" = some (.ref (af 20))
  F_rows_by_number : Fun K "rows_by_number" "rows_by_number" s_rows_by_number (af 20) (fd 20)
  b_rows_by_number : Binds K (fd 20) ["rows", "word"] []
  g_numbers_below : mg "numbers_below" = some (.ref (af 21))
  F_numbers_below : Fun K "numbers_below" "numbers_below" s_numbers_below (af 21) (fd 21)
  b_numbers_below : Binds K (fd 21) ["town", "counts"] []
  g_asks_of_house : mg "asks_of_house" = some (.ref (af 22))
  F_asks_of_house : Fun K "asks_of_house" "asks_of_house" s_asks_of_house (af 22) (fd 22)
  b_asks_of_house : Binds K (fd 22) ["gaps", "house"] []
  g_jobs_of_house : mg "jobs_of_house" = some (.ref (af 23))
  F_jobs_of_house : Fun K "jobs_of_house" "jobs_of_house" s_jobs_of_house (af 23) (fd 23)
  b_jobs_of_house : Binds K (fd 23) ["gaps", "house"] []
  g_count_asks : mg "count_asks" = some (.ref (af 24))
  F_count_asks : Fun K "count_asks" "count_asks" s_count_asks (af 24) (fd 24)
  b_count_asks : Binds K (fd 24) ["gaps", "house"] []
  g_count_jobs : mg "count_jobs" = some (.ref (af 25))
  F_count_jobs : Fun K "count_jobs" "count_jobs" s_count_jobs (af 25) (fd 25)
  b_count_jobs : Binds K (fd 25) ["gaps", "house"] []
  g_earliest : mg "earliest" = some (.ref (af 26))
  F_earliest : Fun K "earliest" "earliest" s_earliest (af 26) (fd 26)
  b_earliest : Binds K (fd 26) ["times"] []
  g_latest : mg "latest" = some (.ref (af 27))
  F_latest : Fun K "latest" "latest" s_latest (af 27) (fd 27)
  b_latest : Binds K (fd 27) ["times"] []
  g_span_of_ask : mg "span_of_ask" = some (.ref (af 28))
  F_span_of_ask : Fun K "span_of_ask" "span_of_ask" s_span_of_ask (af 28) (fd 28)
  b_span_of_ask : Binds K (fd 28) ["gaps", "ask"] []
  g_span_of_job : mg "span_of_job" = some (.ref (af 29))
  F_span_of_job : Fun K "span_of_job" "span_of_job" s_span_of_job (af 29) (fd 29)
  b_span_of_job : Binds K (fd 29) ["gaps", "job"] []
  g_more_of : mg "more_of" = some (.ref (af 30))
  F_more_of : Fun K "more_of" "more_of" s_more_of (af 30) (fd 30)
  b_more_of : Binds K (fd 30) ["gaps", "house"] []
  g_links_of : mg "links_of" = some (.ref (af 31))
  F_links_of : Fun K "links_of" "links_of" s_links_of (af 31) (fd 31)
  b_links_of : Binds K (fd 31) ["town", "rows", "pairs"] []
  g_tighten : mg "tighten" = some (.ref (af 32))
  F_tighten : Fun K "tighten" "tighten" s_tighten (af 32) (fd 32)
  b_tighten : Binds K (fd 32) ["links", "sums", "via"] []
  g_way_from : mg "way_from" = some (.ref (af 33))
  F_way_from : Fun K "way_from" "way_from" s_way_from (af 33) (fd 33)
  b_way_from : Binds K (fd 33) ["house", "end", "via"] []
  g_settle : mg "settle" = some (.ref (af 34))
  F_settle : Fun K "settle" "settle" s_settle (af 34) (fd 34)
  b_settle : Binds K (fd 34) ["houses", "links"] []
  g_in_time : mg "in_time" = some (.ref (af 35))
  F_in_time : Fun K "in_time" "in_time" s_in_time (af 35) (fd 35)
  b_in_time : Binds K (fd 35) ["town", "rows", "pairs", "shifts"] []
  d_in_time : (fd 35).code = .ref (af 68)
  g_is_ring : mg "is_ring" = some (.ref (af 36))
  F_is_ring : Fun K "is_ring" "is_ring" s_is_ring (af 36) (fd 36)
  b_is_ring : Binds K (fd 36) ["town", "rows", "pairs", "links"] []
  d_is_ring : (fd 36).code = .ref (af 70)
  g_shifts : mg "shifts" = some (.ref (af 37))
  F_shifts : Fun K "shifts" "shifts" s_shifts (af 37) (fd 37)
  b_shifts : Binds K (fd 37) ["town", "rows", "pairs"] []
  g_greatest : mg "greatest" = some (.ref (af 38))
  F_greatest : Fun K "greatest" "greatest" s_greatest (af 38) (fd 38)
  b_greatest : Binds K (fd 38) ["town", "rows", "pairs", "one", "other"] []
  g_l_spread : mg "_law_spread" = some (.ref (af 39))
  F_l_spread : Fun K "_law_spread" "_law_spread" s_l_spread (af 39) (fd 39)
  b_l_spread : Binds K (fd 39) ["cell", "at"] []
  g_l_open : mg "_law_open" = some (.ref (af 40))
  F_l_open : Fun K "_law_open" "_law_open" s_l_open (af 40) (fd 40)
  b_l_open : Binds K (fd 40) ["script"] []
  g_l_anew : mg "_law_anew" = some (.ref (af 41))
  F_l_anew : Fun K "_law_anew" "_law_anew" s_l_anew (af 41) (fd 41)
  b_l_anew : Binds K (fd 41) ["pen"] []
  g_l_take : mg "_law_take" = some (.ref (af 42))
  F_l_take : Fun K "_law_take" "_law_take" s_l_take (af 42) (fd 42)
  b_l_take : Binds K (fd 42) ["pen", "many"] []
  g_l_names : mg "_law_names" = some (.ref (af 43))
  F_l_names : Fun K "_law_names" "_law_names" s_l_names (af 43) (fd 43)
  b_l_names : Binds K (fd 43) ["pen", "many"] []
  g_l_town : mg "_law_town" = some (.ref (af 44))
  F_l_town : Fun K "_law_town" "_law_town" s_l_town (af 44) (fd 44)
  b_l_town : Binds K (fd 44) ["pen", "most"] []
  g_l_room : mg "_law_room" = some (.ref (af 45))
  F_l_room : Fun K "_law_room" "_law_room" s_l_room (af 45) (fd 45)
  b_l_room : Binds K (fd 45) ["world", "house", "goal"] []
  g_l_job : mg "_law_job" = some (.ref (af 46))
  F_l_job : Fun K "_law_job" "_law_job" s_l_job (af 46) (fd 46)
  b_l_job : Binds K (fd 46) ["pen", "world", "town", "house", "start", "deep"] []
  g_l_world : mg "_law_world" = some (.ref (af 47))
  F_l_world : Fun K "_law_world" "_law_world" s_l_world (af 47) (fd 47)
  b_l_world : Binds K (fd 47) ["pen", "town", "tops", "deep", "most", "stray"] []
  g_l_called : mg "_law_called" = some (.ref (af 48))
  F_l_called : Fun K "_law_called" "_law_called" s_l_called (af 48) (fd 48)
  b_l_called : Binds K (fd 48) ["town", "world"] []
  g_l_bases : mg "_law_bases" = some (.ref (af 49))
  F_l_bases : Fun K "_law_bases" "_law_bases" s_l_bases (af 49) (fd 49)
  b_l_bases : Binds K (fd 49) ["pen", "town", "many"] []
  g_l_all_rows : mg "_law_all_rows" = some (.ref (af 50))
  F_l_all_rows : Fun K "_law_all_rows" "_law_all_rows" s_l_all_rows (af 50) (fd 50)
  b_l_all_rows : Binds K (fd 50) ["town", "world", "bases"] []
  g_l_left : mg "_law_left" = some (.ref (af 51))
  F_l_left : Fun K "_law_left" "_law_left" s_l_left (af 51) (fd 51)
  b_l_left : Binds K (fd 51) ["pen", "rows", "fewer"] []
  g_l_true_pairs : mg "_law_true_pairs" = some (.ref (af 52))
  F_l_true_pairs : Fun K "_law_true_pairs" "_law_true_pairs" s_l_true_pairs (af 52) (fd 52)
  b_l_true_pairs : Binds K (fd 52) ["town", "world", "rows"] []
  g_l_gated : mg "_law_gated" = some (.ref (af 53))
  F_l_gated : Fun K "_law_gated" "_law_gated" s_l_gated (af 53) (fd 53)
  b_l_gated : Binds K (fd 53) ["pen", "most"] []
  g_l_clock_book : mg "_law_clock_book" = some (.ref (af 54))
  F_l_clock_book : Fun K "_law_clock_book" "_law_clock_book" s_l_clock_book (af 54) (fd 54)
  b_l_clock_book : Binds K (fd 54) ["pen", "houses", "most"] []
  g_l_some_pairs : mg "_law_some_pairs" = some (.ref (af 55))
  F_l_some_pairs : Fun K "_law_some_pairs" "_law_some_pairs" s_l_some_pairs (af 55) (fd 55)
  b_l_some_pairs : Binds K (fd 55) ["pen", "rows", "true_pairs", "wrong"] []
  g_l_set_on : mg "_law_set_on" = some (.ref (af 56))
  F_l_set_on : Fun K "_law_set_on" "_law_set_on" s_l_set_on (af 56) (fd 56)
  b_l_set_on : Binds K (fd 56) ["rows", "by"] []
  g_l_turned : mg "_law_turned" = some (.ref (af 57))
  F_l_turned : Fun K "_law_turned" "_law_turned" s_l_turned (af 57) (fd 57)
  b_l_turned : Binds K (fd 57) ["links", "by"] []
  g_l_great_right : mg "_law_great_right" = some (.ref (af 58))
  F_l_great_right : Fun K "_law_great_right" "_law_great_right" s_l_great_right (af 58) (fd 58)
  b_l_great_right : Binds K (fd 58) ["town", "books", "pairs", "by"] []
  g_law : mg "law" = some (.ref (af 59))
  F_law : Fun K "law" "law" s_law (af 59) (fd 59)
  b_law : Binds K (fd 59) ["script"] []
  e_NoRow : ExcT K mg "NoRow" (af 60) (af 61) (fd 61) s_i_NoRow "NoRow.__init__" ["self", "number"] ["number"]
  e_Clash : ExcT K mg "Clash" (af 62) (af 63) (fd 63) s_i_Clash "Clash.__init__" ["self", "first", "second"] ["first", "second"]
  e_OffTime : ExcT K mg "OffTime" (af 64) (af 65) (fd 65) s_i_OffTime "OffTime.__init__" ["self", "links"] ["links"]
  o_Gaps : ClsT K mg "Gaps" (af 66) (af 67) (fd 67) s_i_Gaps "Gaps.__init__" ["self", "town", "rows"] ["town", "ask_rows", "job_rows", "all_rows", "asks", "jobs", "ask_spans", "job_spans", "more_times"]
  x_NoRow_NoRow : PySem.W.exmOne K (.ref (af 60)) (.ref (af 60)) = some true
  x_NoRow_Clash : PySem.W.exmOne K (.ref (af 60)) (.ref (af 62)) = some false
  x_NoRow_OffTime : PySem.W.exmOne K (.ref (af 60)) (.ref (af 64)) = some false
  x_Clash_NoRow : PySem.W.exmOne K (.ref (af 62)) (.ref (af 60)) = some false
  x_Clash_Clash : PySem.W.exmOne K (.ref (af 62)) (.ref (af 62)) = some true
  x_Clash_OffTime : PySem.W.exmOne K (.ref (af 62)) (.ref (af 64)) = some false
  x_OffTime_NoRow : PySem.W.exmOne K (.ref (af 64)) (.ref (af 60)) = some false
  x_OffTime_Clash : PySem.W.exmOne K (.ref (af 64)) (.ref (af 62)) = some false
  x_OffTime_OffTime : PySem.W.exmOne K (.ref (af 64)) (.ref (af 64)) = some true
  m_all : mg "all" = none
  m_bool : mg "bool" = none
  m_dict : mg "dict" = none
  m_enumerate : mg "enumerate" = none
  m_int : mg "int" = none
  m_isinstance : mg "isinstance" = none
  m_len : mg "len" = none
  m_list : mg "list" = none
  m_max : mg "max" = none
  m_min : mg "min" = none
  m_range : mg "range" = none
  m_sorted : mg "sorted" = none
  m_sum : mg "sum" = none
  m_tuple : mg "tuple" = none
  c_MOST_COUNT : ∃ t, mg "MOST_COUNT" = some (.int (15) t)
  c_MOST_NUMBER : ∃ t, mg "MOST_NUMBER" = some (.int (14) t)
  c_MOST_TIME : ∃ t, mg "MOST_TIME" = some (.int (1000000000000) t)
structure TxtB (base : Heap) (mg : Str → Option Value) (af : Nat → Addr) : Prop where
  t_in_time : GxR.TabB base mg (af 68) (af 69)
  t_is_ring : GxR.TabB base mg (af 70) (af 71)
def tabIx : List Nat := [69, 71]
/-! the pen at p, its cells at c: a list of the cells' list, how many were taken, what is left of the last one -/
def Pen (H : Hp) (p c : Addr) : Prop := ∃ (cs : List Int) (n st : Int), H p = some (.lst [.ref c, .int n, .int st]) ∧ H c = some (.lst (cs.map V.int)) ∧ 0 ≤ n ∧ 0 ≤ st
/-! from H to H': the pen may have gone on; all else that stood stands -/
def Stp (p c : Addr) (H H' : Hp) : Prop := Pen H' p c ∧ ∀ b o, b ≠ p → H b = some o → H' b = some o
theorem Stp.refl {p c : Addr} {H : Hp} (h : Pen H p c) : Stp p c H H := ⟨h, fun _ _ _ e => e⟩
theorem Stp.trans {p c : Addr} {H H1 H2 : Hp} (a : Stp p c H H1) (b : Stp p c H1 H2) : Stp p c H H2 := ⟨b.1, fun x o n e => b.2 x o n (a.2 x o n e)⟩
theorem cells_ne {c : Addr} {cs : List Int} {n st : Int} : cs.map V.int ≠ [.ref c, .int n, .int st] := by
  cases cs with
  | nil => exact fun h => nomatch h
  | cons x r => exact fun h => nomatch (List.cons.inj h).1
theorem Pen.ne {p c : Addr} {H : Hp} (h : Pen H p c) : c ≠ p := by
  obtain ⟨cs, n, st, h1, h2, h3, h4⟩ := h
  intro e
  subst e
  rw [h2] at h1
  exact cells_ne (HO.lst.inj (Option.some.inj h1))
theorem Pen.neP {p c a : Addr} {H : Hp} (h : Pen H p c) (ha : H a = none) : p ≠ a := let ⟨_, _, _, h1, _⟩ := h; ne_of_none h1 ha
theorem Pen.neC {p c a : Addr} {H : Hp} (h : Pen H p c) (ha : H a = none) : c ≠ a := let ⟨_, _, _, _, h2, _⟩ := h; ne_of_none h2 ha
/-! no tuple is the pen -/
theorem Pen.tup {p c a : Addr} {H : Hp} {xs : List V} (h : Pen H p c) (ha : H a = some (.tup xs)) : a ≠ p := let ⟨_, _, _, h1, _⟩ := h; ne_of ha h1 (fun e => nomatch e)
theorem Stp.tup {p c a : Addr} {H H' : Hp} {xs : List V} (s : Stp p c H H') (h : Pen H p c) (ha : H a = some (.tup xs)) : H' a = some (.tup xs) := s.2 a _ (h.tup ha) ha
/-! an object that was not there ahead may come and change -/
theorem Stp.mut {p c a : Addr} {H H1 : Hp} {o : HO} (s : Stp p c H H1) (hp : Pen H p c) (ha : H a = none) : Stp p c H (upd H1 a o) := by
  obtain ⟨cs, n, st, h1, h2, h3, h4⟩ := s.1
  exact ⟨⟨cs, n, st, by rw [upd_ne (hp.neP ha)]; exact h1, by rw [upd_ne (hp.neC ha)]; exact h2, h3, h4⟩, fun b u nb e => by rw [upd_ne (ne_of_none e ha)]; exact s.2 b u nb e⟩
theorem Stp.back {p c a : Addr} {H H1 : Hp} (s : Stp p c H H1) (hp : Pen H p c) (ha : H1 a = none) : H a = none := by
  cases e : H a with
  | none => rfl
  | some o =>
    by_cases hb : a = p
    · subst hb
      obtain ⟨cs, n, st, h1, _⟩ := s.1
      rw [h1] at ha
      cases ha
    · rw [s.2 a o hb e] at ha
      cases ha
/-! a further new object -/
theorem Stp.new {p c a : Addr} {H H1 : Hp} {o : HO} (s : Stp p c H H1) (hp : Pen H p c) (ha : H1 a = none) : Stp p c H (upd H1 a o) := s.mut hp (s.back hp ha)
theorem yes_if {A B : Hp → Prop} {σ : L2.St} {H : Hp} (h : A H) : tYes σ H (fun b H3 => if b = true then A H3 else B H3) := by
  show (if true = true then A H else B H)
  exact iteT h
theorem at_any {A : Type} {xs : List A} {z : Int} {j : Nat} {v : A} (e : z = (j : Int)) (h : xs[j]? = some v) : atI xs z = some v := by
  rw [e]
  exact atI_nat h
theorem same_upd {H : Hp} {p : Addr} {o : HO} (h : H p = none) : Same H (upd H p o) := fun b x e => by
  rw [upd_ne (ne_of_none e h)]
  exact e
theorem same_mut {H H1 : Hp} {p : Addr} {o : HO} (s : Same H H1) (h : H p = none) : Same H (upd H1 p o) := fun b x e => by
  rw [upd_ne (ne_of_none e h)]
  exact s b x e
theorem cut_to (xs : List V) (n : Nat) : cutV xs none (some (n : Int)) = xs.take n := by
  unfold cutV
  rw [HT.sIx_none, HT.sIx_nat, List.drop_zero, Nat.sub_zero]
  by_cases h : n ≤ xs.length
  · rw [Nat.min_eq_left h]
  · rw [Nat.min_eq_right (by omega), List.take_length, List.take_of_length_le (by omega)]
theorem cut_mid (xs : List V) (m n : Nat) : cutV xs (some (m : Int)) (some (n : Int)) = (xs.drop (min m xs.length)).take (min n xs.length - min m xs.length) := by
  unfold cutV
  rw [HT.sIx_nat, HT.sIx_nat]
/-! ### max, min with default= of a list of ints -/
namespace Gr
open PySem PySem.Spec PyProof.Rows L2
theorem reads_ints {h : Heap} : ∀ {ns : List Int} {us : List Value}, Vals (ns.map V.int) us → ReadsAll h us (ns.map PyData.int) []
  | [], _, .nil => .nil
  | n :: ns, _ :: us, .cons r rs => by
    obtain ⟨t, rfl⟩ := r
    exact ReadsAll.cons (as := []) (.int n t) (reads_ints rs)
theorem alike_ints (ns : List Int) : PySem.W.AlikeAll (ns.map PyData.int) := by
  refine ⟨fun x hx y hy => ?_, fun x hx => ?_⟩
  · obtain ⟨a, _, rfl⟩ := List.mem_map.mp hx
    obtain ⟨b, _, rfl⟩ := List.mem_map.mp hy
    rfl
  · obtain ⟨a, _, rfl⟩ := List.mem_map.mp hx
    exact fun z => nomatch z
theorem depth_ints : ∀ ns : List Int, PyData.depthAll (ns.map PyData.int) = 0
  | [] => rfl
  | n :: ns => by
    show max (PyData.int n).depth (PyData.depthAll (ns.map PyData.int)) = 0
    rw [depth_ints ns]
    rfl
theorem fold_max : ∀ (ns : List Int) (n : Int), (ns.foldl max n = n ∨ ns.foldl max n ∈ ns) ∧ n ≤ ns.foldl max n ∧ ∀ y ∈ ns, y ≤ ns.foldl max n
  | [], n => ⟨.inl rfl, Int.le_refl _, fun _ m => nomatch m⟩
  | k :: ns, n => by
    obtain ⟨h1, h2, h3⟩ := fold_max ns (max n k)
    rw [List.foldl_cons]
    refine ⟨?_, by omega, fun y m => ?_⟩
    · rcases h1 with h1 | h1
      · rw [h1]
        by_cases e : n ≤ k
        · exact .inr (by rw [Int.max_eq_right e]; exact List.mem_cons_self)
        · exact .inl (Int.max_eq_left (by omega))
      · exact .inr (List.mem_cons_of_mem _ h1)
    · rcases List.mem_cons.mp m with rfl | m
      · omega
      · exact h3 y m
theorem fold_min : ∀ (ns : List Int) (n : Int), (ns.foldl min n = n ∨ ns.foldl min n ∈ ns) ∧ ns.foldl min n ≤ n ∧ ∀ y ∈ ns, ns.foldl min n ≤ y
  | [], n => ⟨.inl rfl, Int.le_refl _, fun _ m => nomatch m⟩
  | k :: ns, n => by
    obtain ⟨h1, h2, h3⟩ := fold_min ns (min n k)
    rw [List.foldl_cons]
    refine ⟨?_, by omega, fun y m => ?_⟩
    · rcases h1 with h1 | h1
      · rw [h1]
        by_cases e : n ≤ k
        · exact .inl (Int.min_eq_left e)
        · exact .inr (by rw [Int.min_eq_right (by omega)]; exact List.mem_cons_self)
      · exact .inr (List.mem_cons_of_mem _ h1)
    · rcases List.mem_cons.mp m with rfl | m
      · omega
      · exact h3 y m
/-! the greatest of ns, or d where there is none -/
def Best (le : Int → Int → Prop) (ns : List Int) (d v : V) : Prop := (ns = [] ∧ v = d) ∨ ∃ m, m ∈ ns ∧ (∀ y ∈ ns, le y m) ∧ v = .int m
def rBest (le : Int → Int → Prop) (K : PySem.W.Frag) : List V → List V → Hp → VK → Prop := fun vs zs H Q => ∃ (a : Addr) (ns : List Int) (d : V), vs = [V.ref a] ∧ zs = [d] ∧ SqL K H a (ns.map V.int) ∧ ∀ v, Best le ns d v → Q v H
section
variable {X : Cx}
theorem cr_maxDf (hc : X.calm = true) (hu : X.A.units + 1 < cLine) : CallRK X (.builtin "max") [Str.ofString "default"] (rBest (fun y m => y ≤ m) X.K) := by
  intro pins s σ H xs zs us ws Q I r1 r2 h
  obtain ⟨a, ns, d, rfl, rfl, hs, q⟩ := h
  obtain ⟨its, rv, hl, _⟩ := I.list hs
  rw [Vals.ref1 r1]
  obtain ⟨u, rfl, ru⟩ := vals1 r2
  show wpAny _ _ (call (.builtin "max") [.ref a] [(Str.ofString "default", u)]) _ _ s
  refine PySem.W.max_list_default (xs := ns.map PyData.int) (as := []) (I.ok.hd hc) hl.isList (by simpa using reads_ints rv) (alike_ints ns) (by rw [depth_ints]; exact hu) (fun e h' tk kp => ?_) (fun y ys i v h' tk bs e hv hr kp => ?_)
  · exact ⟨d, H, I.kept kp, ru, q d (.inl ⟨List.map_eq_nil_iff.mp e, rfl⟩)⟩
  · cases ns with
    | nil => exact nomatch e
    | cons n ns =>
      rw [List.map_cons] at e
      injection e with e1 e2
      subst e1
      subst e2
      rw [PySem.W.maxD_ints] at hr
      cases hr with
      | int _ t =>
        obtain ⟨h1, h2, h3⟩ := fold_max ns n
        refine ⟨.int _, H, I.kept kp, ⟨t, rfl⟩, q _ (.inr ⟨_, ?_, fun y m => ?_, rfl⟩)⟩
        · rcases h1 with h1 | h1
          · rw [h1]
            exact List.mem_cons_self
          · exact List.mem_cons_of_mem _ h1
        · rcases List.mem_cons.mp m with rfl | m
          · exact h2
          · exact h3 y m
theorem cr_minDf (hc : X.calm = true) (hu : X.A.units + 1 < cLine) : CallRK X (.builtin "min") [Str.ofString "default"] (rBest (fun y m => m ≤ y) X.K) := by
  intro pins s σ H xs zs us ws Q I r1 r2 h
  obtain ⟨a, ns, d, rfl, rfl, hs, q⟩ := h
  obtain ⟨its, rv, hl, _⟩ := I.list hs
  rw [Vals.ref1 r1]
  obtain ⟨u, rfl, ru⟩ := vals1 r2
  show wpAny _ _ (call (.builtin "min") [.ref a] [(Str.ofString "default", u)]) _ _ s
  refine PySem.W.min_list_default (xs := ns.map PyData.int) (as := []) (I.ok.hd hc) hl.isList (by simpa using reads_ints rv) (alike_ints ns) (by rw [depth_ints]; exact hu) (fun e h' tk kp => ?_) (fun y ys i v h' tk bs e hv hr kp => ?_)
  · exact ⟨d, H, I.kept kp, ru, q d (.inl ⟨List.map_eq_nil_iff.mp e, rfl⟩)⟩
  · cases ns with
    | nil => exact nomatch e
    | cons n ns =>
      rw [List.map_cons] at e
      injection e with e1 e2
      subst e1
      subst e2
      rw [PySem.W.minD_ints] at hr
      cases hr with
      | int _ t =>
        obtain ⟨h1, h2, h3⟩ := fold_min ns n
        refine ⟨.int _, H, I.kept kp, ⟨t, rfl⟩, q _ (.inr ⟨_, ?_, fun y m => ?_, rfl⟩)⟩
        · rcases h1 with h1 | h1
          · rw [h1]
            exact List.mem_cons_self
          · exact List.mem_cons_of_mem _ h1
        · rcases List.mem_cons.mp m with rfl | m
          · exact h2
          · exact h3 y m
end
/-! ### dict comprehensions, keys of any tracked kind -/
section
variable {X : Cx} {pins : List (Addr × Obj)} {σ : L2.St} {H : Hp} {s : Shared}
theorem put_dict {H' : Hp} {E : Value → Shared → Prop} {D : Addr} {y v : V} {u r : Value} {A : Around} {Q : Unit → Shared → Prop} (hu : A.units + 1 < cLine) (I : Inv X pins σ H s) (g : DPut H D y v H') (ry : RelV y u) (rv : RelV v r) (h : ∀ s', Inv X pins σ H' s' → Q () s') :
    wpAny (model X.prog X.w) A (dictSet D u r) Q E s := by
  rcases g with ⟨kvs, k, e, ey, lt, eH⟩ | ⟨kvs, k, b, e, ey, eb, lt, eH⟩
  · subst ey eH
    obtain ⟨z, nd, vs, rel, dd⟩ := dk_of I.hok e
    have z1 : vs.length ≤ sizeLine := by rw [← rel.length]; exact z
    have z2 : (putK kvs k v).length ≤ sizeLine := by have := length_putK kvs k v; omega
    refine wpAny_dictSet_pairs (hsz := z1) (kV_is ry) dd fun g1 dd1 sb => h _ ?_
    have there : ∃ q, g1.get? D = some q := let ⟨q, _, _, hq, _⟩ := dd1; ⟨q, hq⟩
    exact d_write I (by rw [e]; exact True.intro) sb there (dk_new z2 nd (rel.put k rv) dd1)
  · subst ey eH
    cases (show u = Value.ref b from ry)
    obtain ⟨z, nd, xs, rel, dd⟩ := dt_of I.hok e
    have z1 : xs.length ≤ sizeLine := by rw [← Paired.length rel]; exact z
    have z2 : (putK kvs k v).length ≤ sizeLine := by have := length_putK kvs k v; omega
    refine wpAny_dictSet_heap (hsz := z1) (show (tupleKind (mixKind X.prog X.w)).room A from Nat.lt_of_succ_lt hu) (key_of I.hok eb) dd fun g1 dd1 sb => h _ ?_
    obtain ⟨q, es, ep, hq, k2, k3, k4, _, k5⟩ := dd1
    refine d_write I (by rw [e]; exact True.intro) sb ⟨q, hq⟩ ⟨z2, nd, _, (rel.put k eb rv).keeps fun c ys ec => ?_, q, es, ep, hq, k2, k3, k4, k5⟩
    rw [upd_ne (ne_of ec e (fun z => nomatch z))]
    exact ec
end
/-! which empty dict the new one is: keys ints and texts, or tuples -/
def emptyD (t : Bool) : HO := if t then .dT [] else .dK []
theorem emptyD_ok {P : Program} {w : World} {H : Hp} (t : Bool) (h : Heap) (hb : sysModules < h.objs.size) : ObjOk P w H (h.push { cls := .type "dict", data := .dict #[] }) h.objs.size (emptyD t) := by
  cases t
  · exact dk_empty h hb
  · exact dt_empty h hb
section
variable {X : Cx}
def tDcd (t : Bool) (wi : TI) (g : TG) (tt : TT) (tk tv : TE) (own : List Nat) : TE := fun σ H Q => wi σ H fun J H1 => ∀ D, H1 D = none → ∃ W : Nat → Nat → Hp → Prop, (∃ m, W 0 m (upd H1 D (emptyD t))) ∧ ∀ i m H, W i m H →
  (J.stop i H ∧ Q (.ref D) H) ∨ (J.go i H ∧ ∃ Nx : Hp → Prop, (∀ H', Nx H' → ∃ m', m' < m ∧ W (i + 1) m' H') ∧ ∀ x H', J.yld i H x H' → g x (wipe σ own) H' fun σ2 H2 => wipe σ2 own = wipe σ own ∧ tt σ2 H2 fun b H3 =>
    if b = true then tk σ2 H3 fun y H4 => tv σ2 H4 fun z H5 => ∃ H6, DPut H5 D y z H6 ∧ Nx H6 else Nx H3)
theorem dcd_core {pins : List (Addr × Obj)} {s : Shared} {σ : L2.St} {H : Hp} {Q : VK} {kx vx tg iter : Expr} {ifs : List Expr} {scope : Scope} {own : List (Str × Nat)} {pos pos' : Pos} {t : Bool} {wi : TI} {g : TG} {tt : TT} {tk tv : TE} {use : Option (Value → Sem Unit)} {Qf : Value → Shared → Prop}
    (hu : X.A.units + 1 < cLine) (hc : X.calm = true) (hN : X.N.Nodup) (I : Inv X pins σ H s) (hi : PI X tg iter wi) (ok : BlkOk X.N X.env.scope scope own)
    (hg : ∀ (s : Shared) (H : Hp) (C : Addr) (cl : List (Str × Addr)) (fp : List Addr), PG (X.blk s H scope (compEnvC scope cl C X.env) fp) tg g) (ht : ∀ (s : Shared) (H : Hp) (C : Addr) (cl : List (Str × Addr)) (fp : List Addr), PTs (X.blk s H scope (compEnvC scope cl C X.env) fp) ifs tt)
    (hky : ∀ (s : Shared) (H : Hp) (C : Addr) (cl : List (Str × Addr)) (fp : List Addr), PE (X.blk s H scope (compEnvC scope cl C X.env) fp) kx tk)
    (hvl : ∀ (s : Shared) (H : Hp) (C : Addr) (cl : List (Str × Addr)) (fp : List Addr), PE (X.blk s H scope (compEnvC scope cl C X.env) fp) vx tv) (hs : ∀ x, foldedSetIterable iter X.env x = pure x)
    (h : tDcd t wi g tt tk tv (own.map (·.2)) σ H Q)
    (fini : ∀ D C s' m H', Inv X pins σ H' s' → Q (.ref D) H' → s'.heap.Ns C m → FpOk X pins H' C → compPost (model X.prog X.w) X.A X.xe use Qf (.ref D) C (.ok .next) s') :
    wpAny (model X.prog X.w) X.A (comprehension (.DictComp kx vx [⟨tg, iter, ifs, 0⟩] scope pos) scope X.env pos' newDict false (eval iter X.env) use) Qf X.xe s := by
  have frees : ∀ y ∈ scope.names, y.2 = .free → ∃ c, X.env.cells.lookup y.1 = some c := fun y hy e => by
    rcases ok.free y hy e with k | k
    · exact I.ok.has _ (.inl k)
    · exact I.ok.has _ (.inr k)
  refine wpAny_comprehension_free (use := use) rfl hs (closure_ok frees) ok.kind (fun y hy e => by rw [ok.uniq y hy, e])
    (thn (hi.run pins s σ H _ I h) fun xv t1 hx => thn hx fun itv t2 h2 => ?_)
  obtain ⟨it, fp, tn, J, H2, e, I2, T, st2, f2, q⟩ := h2
  subst e
  refine wpAny_newObj_type (newEnv_comp ?_)
  generalize hD : t2.heap.objs.size = D
  have nD : H2 D = none := I2.hok.fresh (Nat.le_of_eq hD)
  obtain ⟨W, ⟨m0, w0⟩, turn⟩ := q D nD
  generalize ht3 : ({ t2 with heap := t2.heap.push { cls := .type "dict", data := .dict #[] } } : Shared) = t3
  have I3 : Inv X pins σ (upd H2 D (emptyD t)) t3 := by
    rw [← ht3]
    refine I2.laid (t' := t2.toks) (fun b o e => Heap.get?_push_of_some _ e) (Nat.le_of_eq hD) ?_
    rw [← hD]
    exact emptyD_ok t t2.heap I2.big
  have h3 : t3.heap = t2.heap.push { cls := .type "dict", data := .dict #[] } := by rw [← ht3]
  have lower : ∀ b ∈ fp, b < t2.heap.objs.size := fun b hb => by
    obtain ⟨o, e, _⟩ := T.obj _ _ st2 b hb
    exact Heap.lt_size e
  have f3 : ∀ b ∈ fp, FpOk X pins (upd H2 D (emptyD t)) b ∧ b < t3.heap.objs.size := fun b hb => by
    have hlt := lower b hb
    refine ⟨⟨?_, (f2 b hb).2⟩, by rw [h3, Heap.size_push]; exact Nat.lt_succ_of_lt hlt⟩
    rw [upd_ne (by rw [← hD]; exact Nat.ne_of_lt hlt)]
    exact (f2 b hb).1
  have st3 : tn 0 t3.heap := T.keep _ _ _ st2 fun b _ o e => by rw [h3]; exact Heap.get?_push_of_some _ e
  have I4 := block_start I3 ok hN f3
  have pg := hg t3 (upd H2 D (emptyD t)) t3.heap.objs.size (cellsFrom (t3.heap.objs.size + 1) scope.names (cloFrom X.env.cells scope.names [])) fp
  have pt := ht t3 (upd H2 D (emptyD t)) t3.heap.objs.size (cellsFrom (t3.heap.objs.size + 1) scope.names (cloFrom X.env.cells scope.names [])) fp
  have pk := hky t3 (upd H2 D (emptyD t)) t3.heap.objs.size (cellsFrom (t3.heap.objs.size + 1) scope.names (cloFrom X.env.cells scope.names [])) fp
  have pe := hvl t3 (upd H2 D (emptyD t)) t3.heap.objs.size (cellsFrom (t3.heap.objs.size + 1) scope.names (cloFrom X.env.cells scope.names [])) fp
  show codeAny _ _ (.compStart (.DictComp kx vx [⟨tg, iter, ifs, 0⟩] scope pos) 0 (.ref it) (.ref D) (compEnvC scope (cellsFrom (t3.heap.objs.size + 1) scope.names (cloFrom X.env.cells scope.names [])) t3.heap.objs.size X.env)) (compPost (model X.prog X.w) X.A X.xe use Qf (.ref D) t3.heap.objs.size) { t3 with heap := pushCells (t3.heap.push { cls := .type "dict", data := .dict #[] }) scope.names }
  have nfp : ∀ b ∈ fp, (upd H2 D (emptyD t)) b = none := fun b hb => (f3 b hb).1.1
  generalize hce : compEnvC scope (cellsFrom (t3.heap.objs.size + 1) scope.names (cloFrom X.env.cells scope.names [])) t3.heap.objs.size X.env = ce at I4 pg pt pk pe ⊢
  have cL : ce.locals = t3.heap.objs.size := by subst hce; rfl
  generalize hH3 : upd H2 D (emptyD t) = H3 at I3 I4 pg pt pk pe w0 nfp f3
  generalize ht4 : ({ t3 with heap := pushCells (t3.heap.push { cls := .type "dict", data := .dict #[] }) scope.names } : Shared) = t4 at I4 ⊢
  have st4 : tn 0 t4.heap := T.keep _ _ _ st3 fun b _ o e => by rw [← ht4]; exact pushCells_keeps _ _ _ _ (Heap.get?_push_of_some _ e)
  have stat : ∀ {σ' : L2.St} {H' : Hp} {s' : Shared}, Inv (X.blk t3 H3 scope ce fp) [] σ' H' s' → (∀ b ∈ fp, H' b = none) → ∀ b ∈ fp, FpOk (X.blk t3 H3 scope ce fp) [] H' b := fun {σ' H' s'} I' hn b hb =>
    ⟨hn b hb, (I'.ok.exf b hb).1, I'.ok.exfs b hb, .inl hb, fun x c e => (I'.ok.exf b hb).2 x c e, fun p hp => absurd (show p ∈ ([] : List (Addr × Obj)) ++ [] from hp) (by simp)⟩
  have loop : codeAny (model X.prog X.w) X.A (.compLoop (.DictComp kx vx [⟨tg, iter, ifs, 0⟩] scope pos) 0 (.ref it) (.ref D) ce) (compPost (model X.prog X.w) X.A X.xe use Qf (.ref D) t3.heap.objs.size) t4 := by
    refine compLoop_anyD (fun n s' => ∃ i H', Inv (X.blk t3 H3 scope ce fp) [] (wipe σ (own.map (·.2))) H' s' ∧ tn i s'.heap ∧ (∀ b ∈ fp, H' b = none) ∧ W i n H') ?_ m0 ⟨0, H3, I4, st4, nfp, w0⟩
    rintro n t5 ⟨i, H5, I5, st5, n5, w5⟩
    rcases turn i n H5 w5 with ⟨stop, qq⟩ | ⟨go, Nx, hNx, step⟩
    · have td := T.done (X.blk t3 H3 scope ce fp) rfl rfl rfl hc i [] t5 _ H5 (fun _ _ => False) I5 (stat I5 n5) st5 stop
      refine thnF td fun r t6 ⟨hr, I6⟩ => ?_
      subst hr
      have I7 : Inv X pins σ H5 t6 := I3.call' (ch := fp) I6.os I6.base I6.hok I6.bare fun b hb => ⟨(f3 b hb).1.2.2.2.1, (f3 b hb).1.2.1, (f3 b hb).1.2.2.2.2.1, (f3 b hb).1.2.2.2.2.2⟩
      have nC : H5 t3.heap.objs.size = none := by
        have z : H5 ce.locals = none := I6.free
        rw [cL] at z
        exact z
      obtain ⟨m, hn, _⟩ := I6.loc
      have hn : t6.heap.Ns ce.locals m := hn
      rw [cL] at hn
      exact fini D t3.heap.objs.size t6 m H5 I7 qq hn (I3.fpOk (Nat.le_refl _) nC)
    · have ti := T.item (X.blk t3 H3 scope ce fp) rfl rfl rfl hc i [] t5 _ H5 (fun _ _ => False) I5 (stat I5 n5) st5 go
      refine thnF ti fun r t6 ⟨u, hr, h6⟩ => ?_
      subst hr
      refine thnF h6 fun _ t7 ⟨x, H7, I7, r7, y7, st7, n7⟩ => ?_
      have J7 := I7.pinned (stat I7 n7) (T.obj _ _ st7)
      refine thnF (pg.run _ t7 _ H7 x u _ J7 r7 (step x H7 y7)) fun _ t8 ⟨σ8, H8, I8, hw8, q8⟩ => ?_
      refine thnF (pt.run _ t8 σ8 H8 _ I8 q8) fun b t9 ⟨H9, I9, q9⟩ => ?_
      have last : ∀ {s' : Shared} {H' : Hp}, Inv (X.blk t3 H3 scope ce fp) ([] ++ pinsAt fp t7.heap) σ8 H' s' → Nx H' → ∃ m, m < n ∧ ∃ i H', Inv (X.blk t3 H3 scope ce fp) [] (wipe σ (own.map (·.2))) H' s' ∧ tn i s'.heap ∧ (∀ b ∈ fp, H' b = none) ∧ W i m H' := fun {s' H'} I' nx => by
        obtain ⟨m', hm, w'⟩ := hNx H' nx
        have pin' : ∀ b ∈ fp, ∀ o, t7.heap.get? b = some o → s'.heap.get? b = some o ∧ H' b = none := fun b hb o e =>
          let z := I'.pin (b, o) (List.mem_append_right _ (List.mem_append_right _ (mem_pinsAt hb e)))
          ⟨z.1, z.2.1⟩
        have hl : (wipe σ (own.map (·.2))).length = σ8.length := by rw [← hw8, wipe_length]
        refine ⟨m', hm, i + 1, H', (I'.unpinned (pins := [])).weak hl (fun j v e => ?_), T.keep _ _ _ st7 fun b hb o e => (pin' b hb o e).1, fun b hb => ?_, w'⟩
        · rw [← hw8] at e
          exact (wipe_some e).1
        · obtain ⟨o, e, _⟩ := T.obj _ _ st7 b hb
          exact (pin' b hb o e).2
      cases b with
      | false =>
        simp only [Bool.false_eq_true, if_false] at q9 ⊢
        exact last I9 q9
      | true =>
        simp only [if_true] at q9 ⊢
        refine thnF (pk.run _ t9 σ8 H9 _ I9 q9) fun z t10 ⟨yk, H10, I10, r10, q10⟩ => ?_
        refine thnF (pe.run _ t10 σ8 H10 _ I10 q10) fun z2 t11 ⟨yv, H11, I11, r11, H12, put, nx⟩ => ?_
        exact put_dict (X := X.blk t3 H3 scope ce fp) hu I11 put r10 r11 fun t12 I12 => last I12 nx
  exact codeAny_compStart_dict loop (T.self X.A 0 _ _ _ st4 loop)
theorem pe_dcd {kx vx tg iter : Expr} {ifs : List Expr} {scope : Scope} {own : List (Str × Nat)} {pos : Pos} (t : Bool) {wi : TI} {g : TG} {tt : TT} {tk tv : TE} (hu : X.A.units + 1 < cLine) (hc : X.calm = true) (hN : X.N.Nodup) (hi : PI X tg iter wi) (ok : BlkOk X.N X.env.scope scope own)
    (hg : ∀ (s : Shared) (H : Hp) (C : Addr) (cl : List (Str × Addr)) (fp : List Addr), PG (X.blk s H scope (compEnvC scope cl C X.env) fp) tg g) (ht : ∀ (s : Shared) (H : Hp) (C : Addr) (cl : List (Str × Addr)) (fp : List Addr), PTs (X.blk s H scope (compEnvC scope cl C X.env) fp) ifs tt)
    (hky : ∀ (s : Shared) (H : Hp) (C : Addr) (cl : List (Str × Addr)) (fp : List Addr), PE (X.blk s H scope (compEnvC scope cl C X.env) fp) kx tk)
    (hvl : ∀ (s : Shared) (H : Hp) (C : Addr) (cl : List (Str × Addr)) (fp : List Addr), PE (X.blk s H scope (compEnvC scope cl C X.env) fp) vx tv) (hs : ∀ x, foldedSetIterable iter X.env x = pure x := by intro _; rfl) :
    PE X (.DictComp kx vx [⟨tg, iter, ifs, 0⟩] scope pos) (tDcd t wi g tt tk tv (own.map (·.2))) := by
  refine ⟨fun pins s σ H Q I h => ?_⟩
  rw [arm_eval_DictComp]
  refine dcd_core hu hc hN I hi ok hg ht hky hvl hs h fun D C s' m H' I' q hn f => ⟨m, hn, fun h'' sb => ?_⟩
  obtain ⟨f0, f1, f2, f3, f4, f5⟩ := f
  exact ⟨.ref D, H', I'.turned (t' := s'.toks) (fun b o hb e => (sb.2 b hb).trans e) f0 f1 f3 f4 f5, rfl, q⟩
end
/-! ### for v in d.values(), d of tuple keys, locked -/
def Itdt (d : Addr) (o : Obj) (kvs : List (List Key × V)) : It :=
  ⟨fun i H => H d = some (.frz o (.dT kvs)) ∧ i < kvs.length, fun i H x H' => H' = H ∧ ∃ k, kvs[i]? = some (k, x), fun i H => H d = some (.frz o (.dT kvs)) ∧ kvs.length ≤ i⟩
theorem frz_vals {X : Cx} {pins : List (Addr × Obj)} {σ : L2.St} {H : Hp} {s : Shared} {d : Addr} {o : Obj} {kvs : List (List Key × V)} (I : Inv X pins σ H s) (h : H d = some (.frz o (.dT kvs))) :
    (d == sysModules) = false ∧ s.heap.get? d = some o ∧ o.ExactDict ∧ ∃ (es : Array DictEntry) (ep : Nat), o.data = .dict es ep ∧ es.size = kvs.length ∧
      ∀ (i : Nat) (k : List Key) (v : V), kvs[i]? = some (k, v) → ∃ en : DictEntry, es[i]? = some en ∧ RelV v en.val := by
  obtain ⟨hd, z, hs, xs, pr, o', es, ep, ho, hx, hdt, he, _⟩ := I.hok d _ h
  rw [hd] at ho
  cases ho
  refine ⟨hs, hd, hx, es, ep, hdt, ?_, fun i k v e => ?_⟩
  · have l1 : es.size = xs.length := size_of_entries he
    have l2 : kvs.length = xs.length := Paired.length pr
    omega
  · obtain ⟨b, hb, e1, e2, e3⟩ := paired_get pr e
    have q := entry_at he i
    rw [hb] at q
    exact ⟨_, q, e3⟩
section
variable {P : Program} {w : World} {K : PySem.W.Frag} {tg : Expr} {d : Addr} {o : Obj} {es : Array DictEntry} {ep : Nat}
theorem turn_valsT {kvs : List (List Key × V)} (it : Addr) (hod : o.data = .dict es ep) (hz : es.size = kvs.length) : Turn P w K tg (Itdt d o kvs) [it] it (fun i h => h.IsValIter it d i es.size ep) where
  mem := by simp
  obj := fun i h st b hb => by
    have e : b = it := by simpa using hb
    subst e
    obtain ⟨oi, e, cc, dd⟩ := st
    exact ⟨oi, e, fun v z => by rw [dd] at z; cases z⟩
  keep := fun i h h' st kk => st.at fun oi e => kk it (by simp) oi e
  item := by
    intro X hP hw hK hc i pins s σ H E I hf st hg
    subst hP hw hK
    obtain ⟨hd, hi⟩ := hg
    obtain ⟨f0, f1, f2, f3, f4, f5⟩ := hf it (by simp)
    obtain ⟨hs, hgd, hx, es', ep', hdt, hsz, ent⟩ := frz_vals I hd
    obtain ⟨rfl, rfl⟩ := dict_ep hod hdt
    obtain ⟨⟨k, v⟩, hkv⟩ : ∃ p, kvs[i]? = some p := ⟨kvs[i], List.getElem?_eq_getElem hi⟩
    obtain ⟨en, hen, rv⟩ := ent i k v hkv
    have hlt : i < es'.size := by omega
    have een : es'[i] = en := by
      rw [Array.getElem?_eq_getElem hlt] at hen
      exact Option.some.inj hen
    refine wpAny_pyNext_values_item_raw st ⟨o, hgd, hx, hdt⟩ hlt fun g1 st1 sb => ?_
    have I1 : Inv X pins σ H { s with heap := g1 } := I.turned (t' := s.toks) (fun b ob hb e => (sb.2 b hb).trans e) f0 f1 f3 f4 f5
    obtain ⟨oi, e, cc, dd⟩ := id st1
    refine ⟨es'[i].val, rfl, go_of (s := { s with heap := g1 }) e cc dd (by decide) ⟨v, H, I1, ?_, ⟨rfl, k, hkv⟩, st1, fun b hb => (hf b hb).1⟩⟩
    rw [een]
    exact rv
  done := by
    intro X hP hw hK hc i pins s σ H E I hf st hg
    subst hP hw hK
    obtain ⟨hd, hi⟩ := hg
    obtain ⟨f0, f1, f2, f3, f4, f5⟩ := hf it (by simp)
    obtain ⟨hs, hgd, hx, es', ep', hdt, hsz, ent⟩ := frz_vals I hd
    obtain ⟨rfl, rfl⟩ := dict_ep hod hdt
    exact wpAny_pyNext_values_end_raw (I.ok.hd hc) st ⟨o, hgd, hx, hdt⟩ (by omega) fun g1 eb => ⟨rfl, I.turned (t' := s.toks) (fun b ob hb e => eb b ob hb e) f0 f1 f3 f4 f5⟩
  self := fun A i s Q E st h => wpAny_pyIter_valiter st h
theorem walk_valuesT {kvs : List (List Key × V)} : Walk (Itdt d o kvs) kvs.length (fun H => H d = some (.frz o (.dT kvs))) (fun i H x H' => H' = H ∧ ∃ k, kvs[i]? = some (k, x)) :=
  ⟨fun i H hi g => ⟨g, hi⟩, fun H g => ⟨g, Nat.le_refl _⟩, fun i H x H' hi g y => y⟩
end
theorem dcd_it {J : It} {n : Nat} {G : Hp → Prop} {Y : Nat → Hp → V → Hp → Prop} (w : Walk J n G Y) {t : Bool} {g : TG} {tt : TT} {tk tv : TE} {own : List Nat} {σ : L2.St} {H1 : Hp} {D : Addr} {Qd : Hp → Prop} (Pv : Nat → Hp → Prop) (h0 : Pv 0 (upd H1 D (emptyD t))) (hG : ∀ i H, i ≤ n → Pv i H → G H)
    (hs : ∀ i x H H', i < n → Pv i H → Y i H x H' → g x (wipe σ own) H' fun σ2 H2 => wipe σ2 own = wipe σ own ∧ tt σ2 H2 fun b H3 =>
      if b = true then tk σ2 H3 fun y H4 => tv σ2 H4 fun z H5 => ∃ H6, DPut H5 D y z H6 ∧ Pv (i + 1) H6 else Pv (i + 1) H3) (hd : ∀ H, Pv n H → Qd H) :
    ∃ W : Nat → Nat → Hp → Prop, (∃ m, W 0 m (upd H1 D (emptyD t))) ∧ ∀ i m H, W i m H →
      (J.stop i H ∧ Qd H) ∨ (J.go i H ∧ ∃ Nx : Hp → Prop, (∀ H', Nx H' → ∃ m', m' < m ∧ W (i + 1) m' H') ∧ ∀ x H', J.yld i H x H' → g x (wipe σ own) H' fun σ2 H2 => wipe σ2 own = wipe σ own ∧ tt σ2 H2 fun b H3 =>
        if b = true then tk σ2 H3 fun y H4 => tv σ2 H4 fun z H5 => ∃ H6, DPut H5 D y z H6 ∧ Nx H6 else Nx H3) := by
  refine ⟨fun i m H => m = n - i ∧ i ≤ n ∧ Pv i H, ⟨n, by simp, Nat.zero_le _, h0⟩, ?_⟩
  rintro i m G1 ⟨rfl, hi, p⟩
  have gg := hG i G1 hi p
  by_cases hlt : i < n
  · exact .inr ⟨w.goes i G1 hlt gg, Pv (i + 1), fun G2 p2 => ⟨n - (i + 1), by omega, rfl, hlt, p2⟩, fun x G2 y => hs i x G1 G2 hlt p (w.yields i G1 x G2 hlt gg y)⟩
  · have e : i = n := by omega
    subst e
    exact .inl ⟨w.stops G1 gg, hd G1 p⟩
def iValsT (td : TE) : TI := fun σ H R => td σ H fun x H1 => ∃ d o kvs, x = .ref d ∧ H1 d = some (.frz o (.dT kvs)) ∧ R (Itdt d o kvs) H1
theorem pi_valuesT {X : Cx} {tg e : Expr} {td : TE} {apos cpos : Pos} (he : PE X e td) (hbase : attributeBase e "values" X.env (eval e X.env) = eval e X.env := by rfl) (hline : (apos.endLine == cpos.line) = true := by rfl) : PI X tg (.Call (.Attribute e "values" apos) [] [] cpos) (iValsT td) := by
  refine ⟨fun pins s σ H R I h => ?_⟩
  refine wpAny_Call_method (T := "dict") (id := "dict.values") hbase rfl hline F.plainAttrs_dict F.slot_dict_values F.type_dict_values (thn (he.run pins s σ H _ I h) fun u t1 ⟨x, H1, I1, rx, d, o, kvs, ex, hd, q⟩ => ?_)
  subst ex
  obtain rfl : u = Value.ref d := rx
  obtain ⟨hs, hgd, hx, es, ep, hdt, hsz, ent⟩ := frz_vals I1 hd
  have raw : t1.heap.DictRaw d es ep := ⟨o, hgd, hx, hdt⟩
  refine ⟨raw.typeIs, ?_, ?_⟩
  · exact fun b eb => by cases eb; exact ⟨o, hgd, hx.2.1⟩
  have I2 : Inv X pins σ H1 { t1 with heap := t1.heap.push { cls := .type "dict_values", data := .fields #[.ref d] } } := I1.kept (t' := t1.toks) fun b ob q => Heap.get?_push_of_some _ q
  have fin : wpAny (model X.prog X.w) X.A (pyIter (.ref t1.heap.objs.size)) (PIE X pins σ tg R) X.xe { t1 with heap := t1.heap.push { cls := .type "dict_values", data := .fields #[.ref d] } } := by
    refine wpAny_pyIter_values_raw (d := d) ⟨_, Heap.get?_push_size _ rfl, rfl, rfl⟩ (raw.at fun ob e => Heap.get?_push_of_some _ e) (pi_one (tk := t1.toks) I2 _ (turn_valsT _ hdt hsz) ⟨_, Heap.get?_push_size _ rfl, rfl, ?_⟩ q)
    rfl
  show wpAny _ _ (callWith cpos (.builtin "dict.values") [.ref d] [] []) _ X.xe t1
  exact method_meetsIn F.slot_dict_values F.entry_dict_values rfl (PySem.evalArgs_none ⟨rfl, raw.typeIs, F.args_dict_values_1 _, _, meets_dict_values_raw d hs, ⟨es, ep, raw⟩, fin⟩)
end Gr
/-! ### name = {..: .. for ..} on one line, the name a local -/
namespace Gr
open PySem PySem.Spec PyProof.Rows L2
section
variable {X : Cx}
theorem ps_setDc {i : Nat} {y : Str} {py : Pos} {kx vx tg iter : Expr} {ifs : List Expr} {scope : Scope} {own : List (Str × Nat)} {pos spos : Pos} (t : Bool) {wi : TI} {g : TG} {tt : TT} {tk tv : TE} (hu : X.A.units + 1 < cLine) (hc : X.calm = true) (hN : X.N.Nodup) (hy : X.N[i]? = some y) (hyl : X.env.scope.names.lookup y = some .local)
    (hsw : swapsWith (.DictComp kx vx [⟨tg, iter, ifs, 0⟩] scope pos) (some (.Name y py)) spos.line X.env = pure true) (hi : PI X tg iter wi) (ok : BlkOk X.N X.env.scope scope own)
    (hg : ∀ (s : Shared) (H : Hp) (C : Addr) (cl : List (Str × Addr)) (fp : List Addr), PG (X.blk s H scope (compEnvC scope cl C X.env) fp) tg g) (ht : ∀ (s : Shared) (H : Hp) (C : Addr) (cl : List (Str × Addr)) (fp : List Addr), PTs (X.blk s H scope (compEnvC scope cl C X.env) fp) ifs tt)
    (hky : ∀ (s : Shared) (H : Hp) (C : Addr) (cl : List (Str × Addr)) (fp : List Addr), PE (X.blk s H scope (compEnvC scope cl C X.env) fp) kx tk)
    (hvl : ∀ (s : Shared) (H : Hp) (C : Addr) (cl : List (Str × Addr)) (fp : List Addr), PE (X.blk s H scope (compEnvC scope cl C X.env) fp) vx tv) (hs : ∀ x, foldedSetIterable iter X.env x = pure x := by intro _; rfl) :
    PS X (.Assign [.Name y py] (.DictComp kx vx [⟨tg, iter, ifs, 0⟩] scope pos) spos) (tAsg (tDcd t wi g tt tk tv (own.map (·.2))) (gName i)) := by
  refine ⟨fun pins s σ H D I h => ?_⟩
  rw [exec_Assign_Name_used _ _ _ _ hsw]
  refine wpAny_bind (wpAny_standAt (wpAny_bind ?_))
  show wpAny _ X.A (do let _ ← comprehension (.DictComp kx vx [⟨tg, iter, ifs, 0⟩] scope pos) scope X.env (firstIterPos [⟨tg, iter, ifs, 0⟩] pos) newDict false (eval iter X.env) (some (assign (.Name y py) X.env))) _ _ s
  have h : tDcd t wi g tt tk tv (own.map (·.2)) σ H (fun x H1 => gName i x σ H1 D.nx) := h
  refine wpAny_bind (thn (dcd_core (Qf := fun _ s' => SP X pins D .next s') hu hc hN I hi ok hg ht hky hvl hs h fun L C s' m H' I' q hn f => ?_) fun _ s' hq => wpAny_pure (wpAny_pure hq))
  show wpAny _ _ (assign (.Name y py) X.env (.ref L)) _ _ _
  refine wpAny_assign_Name (store_ok2 (v := V.ref L) I' hN hy (.inl hyl) rfl (fun s2 I2 ⟨a, sb, ha⟩ => ?_) (.inr hyl))
  obtain ⟨f0, f1, f2, f3, f4, f5⟩ := f
  have haC : C ≠ a := by
    rcases ha with z | z
    · rw [z]; exact f1
    · exact fun e => f4 y a z e.symm
  refine ⟨m, hn.sameBut sb haC, fun h3 sb3 => ?_⟩
  exact ⟨_, H', I2.turned (t' := s2.toks) (fun b o hb e => (sb3.2 b hb).trans e) f0 f1 f3 f4 f5, q⟩
theorem sw_trueD {kx vx : Expr} {gs : List Comprehension} {scope : Scope} {pos py : Pos} {y : Str} {l : Nat} {env : Env} (hk : env.scope.kind = .function) (hy : env.scope.names.lookup y = some .local) (hl : (py.line == pos.line) = true)
    (ha : (scope.names.any fun (n, k) => n == y && (k == .local || k == .cell)) = false) : swapsWith (.DictComp kx vx gs scope pos) (some (.Name y py)) l env = pure true := by
  have ky : env.kindOf y = some .local := hy
  have hb : env.blockKind = .function := by unfold Env.blockKind; rw [hk]; rfl
  unfold swapsWith
  simp only [hb, ky, ha, Expr.pos, hl]
  rfl
end
end Gr
/-! ### max with default= of a dict whose keys are ints -/
namespace Gr
open PySem PySem.Spec PyProof.Rows L2
def rBestD (le : Int → Int → Prop) : List V → List V → Hp → VK → Prop := fun vs zs H Q => ∃ (a : Addr) (ns : List Int) (kvs : List (Key × V)) (d : V), vs = [V.ref a] ∧ zs = [d] ∧ Rd H a (.dK kvs) ∧ kvs.map (·.1) = ns.map Sum.inl ∧ ∀ v, Best le ns d v → Q v H
section
variable {X : Cx}
theorem cr_maxDfD (hc : X.calm = true) (hu : X.A.units + 1 < cLine) : CallRK X (.builtin "max") [Str.ofString "default"] (rBestD (fun y m => y ≤ m)) := by
  intro pins s σ H xs zs us ws Q I r1 r2 h
  obtain ⟨a, ns, kvs, d, rfl, rfl, hd, hk, q⟩ := h
  rw [Vals.ref1 r1]
  obtain ⟨u, rfl, ru⟩ := vals1 r2
  obtain ⟨z, lo, vs, rel, dd⟩ := dk_rd I.hok hd
  obtain ⟨es, ep, raw, hsz, hes⟩ := dd.raw
  have elen : ns.length = vs.length := by
    have := congrArg List.length hk
    rw [List.length_map, List.length_map] at this
    rw [← this, rel.length]
  have hv : Vals (vs.map fun p => kV p.1) (es.map DictEntry.key).toList := keys_at (by rw [Array.length_toList, Array.size_map]; exact hsz) fun j v e => by
    rw [Array.getElem?_toList, Array.getElem?_map] at e
    obtain ⟨en, hen, rfl⟩ := Option.map_eq_some_iff.mp e
    obtain ⟨hj, rfl⟩ := Array.getElem?_eq_some_iff.mp hen
    have hj2 : j < vs.length := by rw [← hsz]; exact hj
    exact ⟨vs[j].1, vs[j].2, List.getElem?_eq_getElem hj2, (hes j hj _ _ (List.getElem?_eq_getElem hj2)).1⟩
  have ek : (vs.map fun p => kV p.1) = ns.map V.int := by
    have e := congrArg (List.map kV) rel.keys
    rw [hk, List.map_map, List.map_map] at e
    exact e.symm
  rw [ek] at hv
  have hr : ReadsAll s.heap (es.map DictEntry.key).toList (ns.map PyData.int) [] := reads_ints hv
  have hne : a ≠ s.heap.objs.size := by obtain ⟨o, ho, _⟩ := raw; exact Nat.ne_of_lt (Heap.lt_size ho)
  have hlt : a < s.heap.objs.size := by obtain ⟨o, ho, _⟩ := raw; exact Heap.lt_size ho
  have hh := I.ok.hd hc
  show wpAny _ _ (call (.builtin "max") [.ref a] [(Str.ofString "default", u)]) _ _ s
  refine call_max_walkD (wpAny_pyIter_dict_raw lo raw ?_)
  have W := ((Walks.rawKeys (prog := X.prog) (w := X.w) (A := X.A.in1) hh s.heap.objs.size a hne es ep).mono_item (P' := fun i v => (es.map DictEntry.key)[i]? = some v) (fun i v hi ⟨hi2, e⟩ => by rw [Array.getElem?_map, Array.getElem?_eq_getElem hi2, e]; rfl)).toS
  refine ⟨_, _, _, _, _, _, _, s.heap, (fun i j => PySem.W.dataLt ((ns.map PyData.int).getD j .none) ((ns.map PyData.int).getD i .none)), rfl, W, ⟨⟨_, Heap.get?_push_size _ rfl, rfl, rfl⟩, raw.at fun o e => Heap.get?_push_of_some _ e⟩, fun b hb => ?_, fun b o e hb => ?_, fun b o e => Heap.get?_push_of_some _ e, fun hz s' m => ?_, fun hp => ⟨PySem.W.cmpIn_gt (A := X.A.in1) hr (alike_ints ns) (by rw [depth_ints]; exact hu), fun v s' hP m => ?_⟩⟩
  · show b < (s.heap.push _).objs.size
    rw [Heap.size_push]
    rcases List.mem_cons.mp hb with rfl | hb
    · exact Nat.lt_succ_self _
    · rw [List.mem_singleton.mp hb]
      exact Nat.lt_succ_of_lt hlt
  · exact absurd (Heap.lt_size e) ((List.mem_singleton.mp hb) ▸ Nat.lt_irrefl _)
  · obtain ⟨h', tk, rfl, hk'⟩ := PySem.W.moved_old rfl rfl m
    exact ⟨d, H, I.kept hk', ru, q d (.inl ⟨List.eq_nil_of_length_eq_zero (by omega), rfl⟩)⟩
  · obtain ⟨h', tk, rfl, hk'⟩ := PySem.W.moved_old rfl rfl m
    obtain ⟨bs, r, _, _, _⟩ := PySem.W.readsAll_atA hr _ v hP
    cases ns with
    | nil => exact absurd hp (by rw [hsz, ← elen]; exact Nat.lt_irrefl 0)
    | cons n ns =>
      have e1 : es.size - 1 = (ns.map PyData.int).length := by rw [hsz, ← elen, List.length_map]; rfl
      have e2 := (PySem.W.argBest_fold (fun a b => PySem.W.dataLt b a) PyData.none (PyData.int n) (ns.map PyData.int) (ns.map PyData.int).length (Nat.le_refl _)).2
      rw [List.take_length] at e2
      rw [e1] at r
      have r2 : Reads h' v (PySem.W.maxD (PyData.int n) (ns.map PyData.int)) bs := PySem.W.reads_keeps hk' (by unfold PySem.W.maxD; rw [← e2]; exact r)
      rw [PySem.W.maxD_ints] at r2
      cases r2 with
      | int _ t =>
        obtain ⟨h1, h2, h3⟩ := fold_max ns n
        refine ⟨.int _, H, I.kept hk', ⟨t, rfl⟩, q _ (.inr ⟨_, ?_, fun y m => ?_, rfl⟩)⟩
        · rcases h1 with h1 | h1
          · rw [h1]
            exact List.mem_cons_self
          · exact List.mem_cons_of_mem _ h1
        · rcases List.mem_cons.mp m with rfl | m
          · exact h2
          · exact h3 y m
end
end Gr
/-! ### any(..), all(..) of a generator expression: its element may call defs, read globals and captured names -/
namespace Gx
open PySem PySem.Spec PyProof.Rows L2 GxR GenW
/-! the context of the generator's own frame -/
abbrev gcx (X : Cx) (A' : Around) (s : Shared) (H : Hp) (genv : Env) (fp : List Addr) : Cx :=
  { X with A := A', s_0 := s, H_0 := H, env := genv, outer := X.stack, stack := genv :: X.stack, ex := fp, fn := fun _ => false, calm := true, pn := [], xe := fun _ _ => False }
/-! while it sleeps all objects are kept -/
def Sl (s s' : Shared) : Prop := s'.os = s.os ∧ AllBare s'.gens ∧ ∀ b o, s.heap.get? b = some o → s'.heap.get? b = some o
section
variable {X : Cx} {pins : List (Addr × Obj)} {σ : L2.St} {H : Hp} {s : Shared}
theorem slept {s' : Shared} (I : Inv X pins σ H s) (z : Sl s s') : Inv X pins σ H s' :=
  I.call' (ch := []) z.1 (Un.kept z.2.2) (I.hok.kept z.2.2) z.2.1 (fun b hb => absurd hb (by simp))
theorem wiped {vs : List Nat} (I : Inv X pins σ H s) : Inv X pins (wipe σ vs) H s := by
  obtain ⟨m, hn, hl⟩ := I.loc
  exact ⟨I.ok, I.os, I.bare, I.base, ⟨m, hn, fun i x v e1 e2 e3 => hl i x v e1 (wipe_some e2).1 e3⟩, I.cell, I.free, I.freeC, I.pin, I.hok, by rw [wipe_length]; exact I.len⟩
theorem gen_start {scope : Scope} {own : List (Str × Nat)} {fp : List Addr} {A' : Around} {it code : Value} {h' : Heap} {g' : Array GenState} {t' : Nat} (I : Inv X pins σ H s) (ok : BlkOk X.N X.env.scope scope own) (hcell : ∀ y ∈ scope.names, y.2 ≠ .cell) (hN : X.N.Nodup)
    (hfp : ∀ b ∈ fp, FpOk X pins H b ∧ b < s.heap.objs.size) (hA : A'.handled = none) (hF : A'.frames = some (genEnv scope (cloFrom X.env.cells scope.names []) s.heap.objs.size code builtinsNs X.env :: X.stack))
    (hns : h'.Ns s.heap.objs.size (fun y => if y = ".0" then some it else none)) (kp : ∀ b o, s.heap.get? b = some o → h'.get? b = some o) (hg : AllBare g') :
    Inv (gcx X A' s H (genEnv scope (cloFrom X.env.cells scope.names []) s.heap.objs.size code builtinsNs X.env) fp) [] (wipe σ (own.map (·.2))) H { s with heap := h', gens := g', toks := t' } := by
  have hfree : ∀ y ∈ scope.names, y.2 = .free → ∃ c, X.env.cells.lookup y.1 = some c := fun y hy e => (ok.free y hy e).elim (fun k => I.ok.has _ (.inl k)) (fun k => I.ok.has _ (.inr k))
  have cm : ∀ {y c}, (cloFrom X.env.cells scope.names []).lookup y = some c → X.env.cells.lookup y = some c ∧ scope.names.lookup y = some .free ∧ c < s.heap.objs.size := fun {y c} e => by
    rcases cloFrom_mem (PySem.mem_of_lookup e) with hm | ⟨h1, h2⟩
    · cases hm
    · obtain ⟨c', hc'⟩ := hfree _ h1 rfl
      rw [show X.env.cells.lookup y = some c' from hc'] at h2
      have h2 : c = c' := h2
      subst h2
      obtain ⟨w, z⟩ := I.cell _ _ hc'
      exact ⟨hc', ok.uniq _ h1, z.lt⟩
  have look : ∀ {y}, scope.names.lookup y = some .free → ∃ c, (cloFrom X.env.cells scope.names []).lookup y = some c ∧ X.env.cells.lookup y = some c := fun {y} hl => by
    obtain ⟨c', e'⟩ := mem_lookup (cloFrom_has (cells := X.env.cells) (acc := []) (PySem.mem_of_lookup hl))
    exact ⟨c', e', (cm e').1⟩
  have okG : (gcx X A' s H (genEnv scope (cloFrom X.env.cells scope.names []) s.heap.objs.size code builtinsNs X.env) fp).Ok := by
    refine ⟨I.ok.mod, ok.kind, I.ok.glob, rfl, Nat.le_refl _, fun y z c e1 e2 => I.ok.inj y z c (cm e1).1 (cm e2).1, fun y hy => ?_, (fun y c z e => Bool.noConfusion z), fun _ => hA, hF, .inr ⟨rfl, rfl⟩, fun b hb => ⟨Nat.ne_of_lt (hfp b hb).2, fun y c e z => (hfp b hb).1.2.2.2.2.1 y c (cm e).1 z⟩,
      I.bs, Nat.le_trans I.ok.bsz I.sz, fun b o e hb => ?_, fun b hb z => ?_, I.stack, I.stkFree⟩
    · rcases hy with hy | hy
      · exact absurd rfl (hcell _ (PySem.mem_of_lookup (show scope.names.lookup y = some .cell from hy)))
      · obtain ⟨c, h1, _⟩ := look (show scope.names.lookup y = some .free from hy)
        exact ⟨c, h1⟩
    · rcases (hfp b hb).1.2.2.2.1 with z | z
      · exact I.ok.noex b o e z
      · exact Nat.lt_irrefl _ (Nat.lt_of_lt_of_le (Heap.lt_size e) (Nat.le_trans I.ok.bsz z))
    · rcases List.mem_cons.mp (I.stkSub b z) with q | q
      · exact (hfp b hb).1.2.1 q
      · exact (hfp b hb).1.2.2.1 q
  refine ⟨okG, rfl, hg, Un.kept kp, ⟨_, hns, fun i y av e1 e2 e3 => ?_⟩, fun y c e => ?_, I.hok.fresh (Nat.le_refl _), fun y c e => I.freeC y c (cm e).1, fun p hp => absurd (show p ∈ ([] : List (Addr × Obj)) ++ [] from hp) (by simp), I.hok.kept kp, by rw [wipe_length]; exact I.len⟩
  · obtain ⟨e2, hne⟩ := wipe_some e2
    have nol : ∀ k, scope.names.lookup y = some k → ¬ (k = .local ∨ k = .cell) := fun k hk hh => by
      rcases ok.own _ (PySem.mem_of_lookup hk) hh with e' | e'
      · obtain ⟨p, hp, hpy⟩ := List.mem_map.mp e'
        have e4 := ok.ix p hp
        rw [show p.1 = y from hpy] at e4
        exact hne (List.mem_map.mpr ⟨p, hp, nodup_ix hN e4 e1⟩)
      · exact e' (List.mem_of_getElem? e1)
    have hfr : scope.names.lookup y = some .free := by
      have e3 : Vis scope y := e3
      rcases e3 with e3 | e3 | e3
      · exact absurd (.inl rfl) (nol _ e3)
      · exact absurd (.inr rfl) (nol _ e3)
      · exact e3
    obtain ⟨m, hn, hl⟩ := I.loc
    have hk := ok.free _ (PySem.mem_of_lookup hfr) rfl
    obtain ⟨w, r, q⟩ := hl i y av e1 e2 (hk.elim (fun k => .inr (.inl k)) (fun k => .inr (.inr k)))
    obtain ⟨c, h1, h2⟩ := look hfr
    refine ⟨w, r, .inr ⟨.inr hfr, c, h1, ?_⟩⟩
    rcases q with ⟨k, _⟩ | ⟨_, c', e', z⟩
    · have k : X.env.scope.names.lookup y = some .local := k
      rcases hk with k' | k'
      · rw [show X.env.scope.names.lookup y = some .cell from k'] at k; cases k
      · rw [show X.env.scope.names.lookup y = some .free from k'] at k; cases k
    · rw [h2] at e'
      cases e'
      exact z.keeps kp
  · obtain ⟨w, z⟩ := I.cell y c (cm e).1
    exact ⟨w, z.keeps kp⟩
end
/-! ### the turns -/
section
variable {Y : Cx} {gp : List (Addr × Obj)}
def REnd (Y : Cx) (gp : List (Addr × Obj)) (Dn : Hp → Prop) : GenEnd := fun _ _ r s1 => r = .ok .next ∧ ∃ σ' H', Inv Y gp σ' H' s1 ∧ Dn H'
def YItem (Y : Cx) (gp : List (Addr × Obj)) (Wn : Nat → Nat → Hp → Prop) (Ps : Nat → Nat → V → Hp → Prop) : Protocol := fun n _ v s1 kap =>
  ∃ i m y σ' H', m ≤ n ∧ RelV y v ∧ Inv Y gp σ' H' s1 ∧ Ps i m y H' ∧ ∀ s' m', Sl s1 s' → m' < m → Wn (i + 1) m' H' → kap (.send .none) s'
theorem seg_turns {A : Around} {tg elt iter : Expr} {scope : Scope} {pos : Pos} {it : Addr} {fp : List Addr} {tn : Nat → Heap → Prop} {J : It} {g : TG} {te : TE} {vs : List Nat} {σ : L2.St} {Wn : Nat → Nat → Hp → Prop} {Ps : Nat → Nat → V → Hp → Prop} {Dn : Hp → Prop}
    (hA : A.over (.compLoop (.GeneratorExp elt [⟨tg, iter, [], 0⟩] scope pos) 0 (.ref it) .none Y.env) [] = Y.A) (hc : Y.calm = true) (hx : Y.xe = fun _ _ => False) (hco : Y.env.scope.isCoroutine = false)
    (T : Turn Y.prog Y.w Y.K tg J fp it tn) (hg : PG Y tg g) (he : PE Y elt te) (hfp : ∀ H' : Hp, (∀ b ∈ fp, H' b = none) → ∀ b ∈ fp, FpOk Y gp H' b)
    (turn : ∀ i m H, Wn i m H → (J.stop i H ∧ Dn H) ∨ (J.go i H ∧ ∃ Px : V → Hp → Prop, (∀ y H4, Px y H4 → Ps i m y H4) ∧ ∀ x H', J.yld i H x H' → g x (wipe σ vs) H' fun σ2 H2 => wipe σ2 vs = wipe σ vs ∧ te σ2 H2 Px)) :
    ∀ (n i m : Nat) (s₀ s : Shared) (σ1 : L2.St) (H1 : Hp), m < n → Inv Y gp σ1 H1 s → wipe σ1 vs = wipe σ vs → tn i s.heap → (∀ b ∈ fp, H1 b = none) → Wn i m H1 →
      Seg (model Y.prog Y.w) A (REnd Y gp Dn) (YItem Y gp Wn Ps) n s₀ (.compLoop (.GeneratorExp elt [⟨tg, iter, [], 0⟩] scope pos) 0 (.ref it) .none Y.env)
        ((model Y.prog Y.w).den (.compLoop (.GeneratorExp elt [⟨tg, iter, [], 0⟩] scope pos) 0 (.ref it) .none Y.env)) [] s := by
  intro n
  induction n with
  | zero =>
    intro i m s₀ s σ1 H1 hm
    exact absurd hm (Nat.not_lt_zero m)
  | succ n ih =>
    intro i m s₀ s σ1 H1 hm I1 hw hst hfr hW
    show Seg _ A _ _ _ s₀ _ ((compTurn (.GeneratorExp elt [⟨tg, iter, [], 0⟩] scope pos) 0 (.ref it) .none Y.env).onRaise (leaving Y.env)) [] s
    rw [compTurn_gen, Sem.onRaise_eq_wrap]
    refine seg_bind_wrap (wpAny_standAt ?_)
    have I0 : Inv Y gp (wipe σ vs) H1 s := by rw [← hw]; exact wiped I1
    rcases turn i m H1 hW with ⟨hstop, hd⟩ | ⟨hgo, Px, hPx, hy⟩
    · refine seg_bind_wrap ?_
      rw [hA]
      refine thnF (thn (T.done Y rfl rfl rfl hc i gp s _ H1 (fun _ _ => False) I0 (hfp H1 hfr) hst hstop) fun r s1 ⟨hr, I2⟩ => ?_) fun _ _ q => q
      subst hr
      exact seg_end (.ok .next) ⟨rfl, _, H1, I2, hd⟩
    · refine seg_bind_wrap ?_
      rw [hA]
      refine thnF (thn (T.item Y rfl rfl rfl hc i gp s _ H1 (fun _ _ => False) I0 (hfp H1 hfr) hst hgo) fun r s1 ⟨u, hr, h1⟩ => ?_) fun _ _ q => q
      subst hr
      refine seg_bind_wrap ?_
      rw [hA]
      refine thnF (thn h1 fun _ s2 ⟨x, H2, I2, ru, yl, st2, fr2⟩ => ?_) fun _ _ q => q
      have I3 := I2.pinned (hfp H2 fr2) (T.obj _ _ st2)
      refine seg_bind_wrap ?_
      rw [hA]
      have hgr := hg.run _ s2 _ H2 x u _ I3 ru (hy x H2 yl)
      rw [hx] at hgr
      refine thnF (thn hgr fun _ s3 ⟨σ3, H3, I4, hw3, q3⟩ => ?_) fun _ _ q => q
      simp only [List.forIn_nil]
      refine seg_bind_wrap (wpAny_pure ?_)
      simp only [if_true]
      have hyo : ∀ v, yieldOut Y.env v = yieldValue v := fun v => by simp only [yieldOut, hco, Bool.false_eq_true, if_false]
      simp only [hyo]
      rw [Sem.bind_eq_wrap', Sem.bind_eq_wrap', Sem.wrap_wrap, Sem.wrap_wrap]
      refine seg_wrap ?_
      rw [hA]
      have her := he.run _ s3 σ3 H3 _ I4 q3
      rw [hx] at her
      refine thnF (thn her fun v s4 ⟨y, H4, I5, ry, q4⟩ => ?_) fun _ _ q => q
      have st4 : tn (i + 1) s4.heap := T.keep _ _ _ st2 fun b hb o e => (I5.pin (b, o) (List.mem_append_right _ (List.mem_append_right _ (mem_pinsAt hb e)))).1
      have fr4 : ∀ b ∈ fp, H4 b = none := fun b hb => by
        obtain ⟨o, e, d⟩ := T.obj _ _ st2 b hb
        exact (I5.pin (b, o) (List.mem_append_right _ (List.mem_append_right _ (mem_pinsAt hb e)))).2.1
      have I6 := I5.unpinned
      refine seg_at (seg_yield rfl rfl rfl ⟨i, m, y, σ3, H4, by omega, ry, I6, hPx _ _ q4, fun s' m' z hm' hW' => ?_⟩)
      refine seg_again rfl (ih (i + 1) m' s' s' σ3 H4 (by omega) (slept I6 z) hw3 (T.keep _ _ _ st4 fun b _ o e => z.2.2 b o e) fr4 hW')
theorem seg_first {A : Around} {tg elt iter : Expr} {scope : Scope} {pos : Pos} {it : Addr} {R : GenEnd} {Yp : Protocol} {n : Nat} {s₀ s : Shared} {fp : List Addr} {tn : Nat → Heap → Prop} {J : It} {i : Nat} (T : Turn Y.prog Y.w Y.K tg J fp it tn) (hst : tn i s.heap)
    (loop : Seg (model Y.prog Y.w) A R Yp n s₀ (.compLoop (.GeneratorExp elt [⟨tg, iter, [], 0⟩] scope pos) 0 (.ref it) .none Y.env)
        ((model Y.prog Y.w).den (.compLoop (.GeneratorExp elt [⟨tg, iter, [], 0⟩] scope pos) 0 (.ref it) .none Y.env)) [] s) :
    Seg (model Y.prog Y.w) A R Yp n s₀ (.compStart (.GeneratorExp elt [⟨tg, iter, [], 0⟩] scope pos) 0 (.ref it) .none Y.env)
        ((model Y.prog Y.w).den (.compStart (.GeneratorExp elt [⟨tg, iter, [], 0⟩] scope pos) 0 (.ref it) .none Y.env)) [] s := by
  show Seg _ A _ _ _ s₀ _ ((compStart (.GeneratorExp elt [⟨tg, iter, [], 0⟩] scope pos) 0 (.ref it) .none Y.env).onRaise (leaving Y.env)) [] s
  unfold compStart
  rw [Sem.onRaise_eq_wrap]
  show Seg _ A _ _ _ s₀ _ ((ask >>= _).wrap _ _ _ _) [] s
  refine seg_bind_wrap (wpAny_askSetting ?_)
  split
  · exact seg_again rfl loop
  · first
      | exact seg_bind_wrap (wpAny_rule (seg_bind_wrap (wpAny_standAt (seg_bind_wrap (T.self _ i s _ _ hst (seg_again rfl loop))))))
      | (refine seg_bind_wrap (wpAny_rule ?_)
         show Seg _ A _ _ _ s₀ _ ((standAt iter.pos >>= _).wrap _ _ _ _) [] s
         exact seg_bind_wrap (wpAny_standAt (seg_bind_wrap (T.self _ i s _ _ hst (seg_again rfl loop)))))
end
end Gx
namespace Gx
open PySem PySem.Spec PyProof.Rows L2 GxR GenW
/-! ### the consumer: any (st = true), all (st = false) -/
abbrev stopId (st : Bool) : String := if st = true then "any" else "all"
def PsB (st : Bool) (Wn : Nat → Nat → Hp → Prop) (Q : VK) (i m : Nat) (y : V) (H : Hp) : Prop := ∃ b, y = .bl b ∧ if b = st then Q (.bl st) H else ∃ m', m' < m ∧ Wn (i + 1) m' H
section
variable {Y : Cx} {gp : List (Addr × Obj)} {A : Around} {a : Addr} {g : Nat} {Wn : Nat → Nat → Hp → Prop} {Q : VK} {R : Result → Shared → Prop}
theorem wake_sl {s1 : Shared} {x : GenState} (hb : AllBare s1.gens) (hx : x.bare = true) : Sl s1 ((s1.setGen g x).setGen g .running) :=
  ⟨rfl, allBare_setGen (allBare_setGen hb hx) rfl, fun _ _ e => e⟩
theorem set_sl {s1 : Shared} {x : GenState} (hb : AllBare s1.gens) (hx : x.bare = true) : Sl s1 (s1.setGen g x) := ⟨rfl, allBare_setGen hb hx, fun _ _ e => e⟩
theorem any_loop (hh : A.handled = none) (hd : A.depth < recursionLimit) (hgen : ∀ σ' H' s', Inv Y gp σ' H' s' → s'.heap.IsGen a g)
    (hyes : ∀ σ' H' s', Inv Y gp σ' H' s' → Q (.bl true) H' → R (.ok (.ret (.bool true))) s') (hno : ∀ σ' H' s', Inv Y gp σ' H' s' → Q (.bl false) H' → R (.ok (.ret (.bool false))) s') :
    ∀ (n : Nat) (s : Shared), g < s.gens.size → s.heap.IsGen a g → s.heap.NoLimit →
      (∃ gs, s.gens[g]? = some gs ∧ gs.Goes (model Y.prog Y.w) A.in1.in1 (REnd Y gp fun H => Q (.bl false) H) (YItem Y gp Wn (PsB true Wn Q)) n (.send .none) (s.setGen g .running)) →
      codeAny (model Y.prog Y.w) A (.builtin "any.loop" ⟨[.ref a], []⟩) R s := by
  intro n
  induction n with
  | zero =>
    intro s hgs hg hl ⟨gs, e1, hgo⟩
    refine codeAny_builtin F.entry_any_loop ?_
    rw [Around.under_plainId F.plain_any_loop _]
    show wpAny _ A.in1 (pyNext (.ref a) >>= _) _ _ s
    refine wpAny_bind (wpAny_pyNext_genexpQ (P := fun _ _ s1 => ∃ σ' H', Inv Y gp σ' H' s1 ∧ Q (.bl false) H') hh hl hd hg e1 hgo (fun v s1 gs' hb hv => ?_) (fun s1 hp h' hk => ?_))
    · obtain ⟨i, m, y, σ', H', hm, ry, I, ⟨b, rfl, hq⟩, kap⟩ := hv
      obtain rfl : v = .bool b := ry
      refine wpAny_bind (wpAny_holding (wpAny_truthy_bool ?_))
      refine wpAny_bind (wpAny_letGo ?_)
      cases b with
      | true =>
        simp only [if_true]
        refine wpAny_bind (wpAny_rule (wpAny_pure ?_))
        exact hyes σ' H' _ (slept I (set_sl I.bare hb)) (by simpa using hq)
      | false =>
        obtain ⟨m', hm', hw⟩ : ∃ m', m' < m ∧ Wn (i + 1) m' H' := by simpa using hq
        exact False.elim (kap s1 m' ⟨rfl, I.bare, fun _ _ e => e⟩ hm' hw)
    · obtain ⟨σ', H', I, q⟩ := hp
      refine wpAny_bind (wpAny_rule (wpAny_pure ?_))
      exact hno σ' H' _ (slept I ⟨rfl, allBare_setGen I.bare rfl, hk⟩) q
  | succ n ih =>
    intro s hgs hg hl ⟨gs, e1, hgo⟩
    refine codeAny_builtin F.entry_any_loop ?_
    rw [Around.under_plainId F.plain_any_loop _]
    show wpAny _ A.in1 (pyNext (.ref a) >>= _) _ _ s
    refine wpAny_bind (wpAny_gsz (n := g + 1) hgs (wpAny_pyNext_genexpQ (P := fun _ _ s1 => ∃ σ' H', Inv Y gp σ' H' s1 ∧ Q (.bl false) H') hh hl hd hg e1 hgo (fun v s1 gs' hb hv hz => ?_) (fun s1 hp h' hk hz => ?_)))
    · obtain ⟨i, m, y, σ', H', hm, ry, I, ⟨b, rfl, hq⟩, kap⟩ := hv
      obtain rfl : v = .bool b := ry
      refine wpAny_bind (wpAny_holding (wpAny_truthy_bool ?_))
      refine wpAny_bind (wpAny_letGo ?_)
      cases b with
      | true =>
        simp only [if_true]
        refine wpAny_bind (wpAny_rule (wpAny_pure ?_))
        exact hyes σ' H' _ (slept I (set_sl I.bare hb)) (by simpa using hq)
      | false =>
        obtain ⟨m', hm', hw⟩ : ∃ m', m' < m ∧ Wn (i + 1) m' H' := by simpa using hq
        simp only [Bool.false_eq_true, if_false]
        have hz1 : g < s1.gens.size := by
          have hz : g + 1 ≤ (s1.setGen g gs').gens.size := hz
          rw [setGen_size] at hz
          exact hz
        refine wpAny_pure ⟨plainId_quiet F.plain_any_loop _, ih _ (by rw [setGen_size]; exact hz1) (hgen _ _ _ (slept I (set_sl I.bare hb))) I.nolimit ⟨gs', setGen_at hz1, ?_⟩⟩
        exact kap _ m' (wake_sl I.bare hb) hm' hw
    · obtain ⟨σ', H', I, q⟩ := hp
      refine wpAny_bind (wpAny_rule (wpAny_pure ?_))
      exact hno σ' H' _ (slept I ⟨rfl, allBare_setGen I.bare rfl, hk⟩) q
theorem all_loop (hh : A.handled = none) (hd : A.depth < recursionLimit) (hgen : ∀ σ' H' s', Inv Y gp σ' H' s' → s'.heap.IsGen a g)
    (hyes : ∀ σ' H' s', Inv Y gp σ' H' s' → Q (.bl true) H' → R (.ok (.ret (.bool true))) s') (hno : ∀ σ' H' s', Inv Y gp σ' H' s' → Q (.bl false) H' → R (.ok (.ret (.bool false))) s') :
    ∀ (n : Nat) (s : Shared), g < s.gens.size → s.heap.IsGen a g → s.heap.NoLimit →
      (∃ gs, s.gens[g]? = some gs ∧ gs.Goes (model Y.prog Y.w) A.in1.in1 (REnd Y gp fun H => Q (.bl true) H) (YItem Y gp Wn (PsB false Wn Q)) n (.send .none) (s.setGen g .running)) →
      codeAny (model Y.prog Y.w) A (.builtin "all.loop" ⟨[.ref a], []⟩) R s := by
  intro n
  induction n with
  | zero =>
    intro s hgs hg hl ⟨gs, e1, hgo⟩
    refine codeAny_builtin F.entry_all_loop ?_
    rw [Around.under_plainId F.plain_all_loop _]
    show wpAny _ A.in1 (pyNext (.ref a) >>= _) _ _ s
    refine wpAny_bind (wpAny_pyNext_genexpQ (P := fun _ _ s1 => ∃ σ' H', Inv Y gp σ' H' s1 ∧ Q (.bl true) H') hh hl hd hg e1 hgo (fun v s1 gs' hb hv => ?_) (fun s1 hp h' hk => ?_))
    · obtain ⟨i, m, y, σ', H', hm, ry, I, ⟨b, rfl, hq⟩, kap⟩ := hv
      obtain rfl : v = .bool b := ry
      refine wpAny_bind (wpAny_holding (wpAny_truthy_bool ?_))
      refine wpAny_bind (wpAny_letGo ?_)
      cases b with
      | false =>
        simp only [Bool.false_eq_true, if_false]
        refine wpAny_bind (wpAny_rule (wpAny_pure ?_))
        exact hno σ' H' _ (slept I (set_sl I.bare hb)) (by simpa using hq)
      | true =>
        obtain ⟨m', hm', hw⟩ : ∃ m', m' < m ∧ Wn (i + 1) m' H' := by simpa using hq
        exact False.elim (kap s1 m' ⟨rfl, I.bare, fun _ _ e => e⟩ hm' hw)
    · obtain ⟨σ', H', I, q⟩ := hp
      refine wpAny_bind (wpAny_rule (wpAny_pure ?_))
      exact hyes σ' H' _ (slept I ⟨rfl, allBare_setGen I.bare rfl, hk⟩) q
  | succ n ih =>
    intro s hgs hg hl ⟨gs, e1, hgo⟩
    refine codeAny_builtin F.entry_all_loop ?_
    rw [Around.under_plainId F.plain_all_loop _]
    show wpAny _ A.in1 (pyNext (.ref a) >>= _) _ _ s
    refine wpAny_bind (wpAny_gsz (n := g + 1) hgs (wpAny_pyNext_genexpQ (P := fun _ _ s1 => ∃ σ' H', Inv Y gp σ' H' s1 ∧ Q (.bl true) H') hh hl hd hg e1 hgo (fun v s1 gs' hb hv hz => ?_) (fun s1 hp h' hk hz => ?_)))
    · obtain ⟨i, m, y, σ', H', hm, ry, I, ⟨b, rfl, hq⟩, kap⟩ := hv
      obtain rfl : v = .bool b := ry
      refine wpAny_bind (wpAny_holding (wpAny_truthy_bool ?_))
      refine wpAny_bind (wpAny_letGo ?_)
      cases b with
      | false =>
        simp only [Bool.false_eq_true, if_false]
        refine wpAny_bind (wpAny_rule (wpAny_pure ?_))
        exact hno σ' H' _ (slept I (set_sl I.bare hb)) (by simpa using hq)
      | true =>
        obtain ⟨m', hm', hw⟩ : ∃ m', m' < m ∧ Wn (i + 1) m' H' := by simpa using hq
        simp only [if_true]
        have hz1 : g < s1.gens.size := by
          have hz : g + 1 ≤ (s1.setGen g gs').gens.size := hz
          rw [setGen_size] at hz
          exact hz
        refine wpAny_pure ⟨plainId_quiet F.plain_all_loop _, ih _ (by rw [setGen_size]; exact hz1) (hgen _ _ _ (slept I (set_sl I.bare hb))) I.nolimit ⟨gs', setGen_at hz1, ?_⟩⟩
        exact kap _ m' (wake_sl I.bare hb) hm' hw
    · obtain ⟨σ', H', I, q⟩ := hp
      refine wpAny_bind (wpAny_rule (wpAny_pure ?_))
      exact hyes σ' H' _ (slept I ⟨rfl, allBare_setGen I.bare rfl, hk⟩) q
end
end Gx
namespace Gx
open PySem PySem.Spec PyProof.Rows L2 GxR GenW
/-! ### the expression -/
theorem wipe_get (σ : L2.St) (i : Nat) : ∀ vs : List Nat, (wipe σ vs)[i]? = if i ∈ vs then (σ[i]?).map (fun _ => none) else σ[i]?
  | [] => by rw [if_neg (by simp)]; rfl
  | v :: vs => by
    unfold wipe
    rw [List.getElem?_set, wipe_get σ i vs]
    by_cases e : v = i
    · subst e
      rw [if_pos rfl, if_pos List.mem_cons_self, wipe_length]
      by_cases h : v < σ.length
      · rw [if_pos h, List.getElem?_eq_getElem h]
        rfl
      · rw [if_neg h, List.getElem?_eq_none (by omega)]
        rfl
    · rw [if_neg e]
      by_cases m : i ∈ vs
      · rw [if_pos m, if_pos (List.mem_cons_of_mem _ m)]
      · rw [if_neg m, if_neg (by simp only [List.mem_cons, not_or]; exact ⟨fun z => e z.symm, m⟩)]
theorem wipe_wipe (σ : L2.St) (vs : List Nat) : wipe (wipe σ vs) vs = wipe σ vs := by
  refine List.ext_getElem? fun i => ?_
  rw [wipe_get, wipe_get]
  by_cases m : i ∈ vs
  · rw [if_pos m, if_pos m]
    cases σ[i]? <;> rfl
  · rw [if_neg m, if_neg m]
theorem room_gen {k : Nat} {A : Around} (r : Room (k + 1) A) {G : Expr} {it acc : Value} {genv : Env} (hG : ∃ elt gens sc ps, G = .GeneratorExp elt gens sc ps) : Room k (A.in1.in1.over (.compLoop G 0 it acc genv) []) := by
  obtain ⟨elt, gens, sc, ps, rfl⟩ := hG
  refine ⟨r.hd, ?_, ?_⟩
  · have := r.dp
    show A.depth + 0 + 1 + 3 * k + 5 < _
    omega
  · have := r.un
    show A.units + 1 + 1 + 0 + 3 + 16 * k + 200 < _
    omega
theorem frames_gen {A : Around} {l : List Env} (h : A.frames = some l) {elt : Expr} {gens : List Comprehension} {sc : Scope} {ps : Pos} {it acc : Value} {genv : Env} : (A.in1.in1.over (.compLoop (.GeneratorExp elt gens sc ps) 0 it acc genv) []).frames = some (genv :: l) := by
  show pushEnvs [genv] (pushEnvs [] A.frames) = _
  rw [h]
  rfl
/-! a made generator a, of number g, ready to go on; Y: its frame's context -/
structure Made (X : Cx) (pins : List (Addr × Obj)) (σ : L2.St) (tg : Expr) (J : It) (gt : TG) (te : TE) (vs : List Nat) (H2 : Hp) (a : Addr) (g : Nat) (Y : Cx) (gp : List (Addr × Obj)) (s5 : Shared) : Prop where
  prog : Y.prog = X.prog
  w : Y.w = X.w
  inv : Inv Y gp (wipe σ vs) H2 s5
  isGen : ∀ σ' H' s', Inv Y gp σ' H' s' → s'.heap.IsGen a g
  size : g < s5.gens.size
  back : ∀ σ' H' s', Inv Y gp σ' H' s' → Inv X pins σ H' s'
  goes : ∀ (Wn : Nat → Nat → Hp → Prop) (Ps : Nat → Nat → V → Hp → Prop) (Dn : Hp → Prop), (∀ i m H, Wn i m H → (J.stop i H ∧ Dn H) ∨ (J.go i H ∧ ∃ Px : V → Hp → Prop, (∀ y H4, Px y H4 → Ps i m y H4) ∧ ∀ x H', J.yld i H x H' → gt x (wipe σ vs) H' fun σ2 H3 => wipe σ2 vs = wipe σ vs ∧ te σ2 H3 Px)) →
    ∀ n m, m < n → Wn 0 m H2 → ∃ gs, s5.gens[g]? = some gs ∧ gs.Goes (model Y.prog Y.w) X.A.in1.in1 (REnd Y gp Dn) (YItem Y gp Wn Ps) n (.send .none) (s5.setGen g .running)
section
variable {X : Cx} {pins : List (Addr × Obj)} {σ : L2.St} {H : Hp} {s : Shared}
theorem gen_make {k : Nat} {c P : Addr} {elt tg iter : Expr} {scope : Scope} {gpos : Pos} {own : List (Str × Nat)} {wi : TI} {gt : TG} {te : TE} {Rr : It → Hp → Prop} {Q' : Value → Shared → Prop}
    (hr : Room (k + 1) X.A) (TB : TabB X.base X.mg c P) (hcode : X.env.code = .ref c) (ok : BlkOk X.N X.env.scope scope own) (hco : scope.isCoroutine = false) (hcell : ∀ y ∈ scope.names, y.2 ≠ .cell) (hdot : scope.names.lookup (".0" : Str) = some NameKind.local) (hN : X.N.Nodup)
    (hi : PI X tg iter wi) (hg : ∀ (A' : Around) (s : Shared) (H : Hp) (C : Addr) (cl : List (Str × Addr)) (code : Value) (fp : List Addr), Room k A' → PG (gcx X A' s H (genEnv scope cl C code builtinsNs X.env) fp) tg gt)
    (he : ∀ (A' : Around) (s : Shared) (H : Hp) (C : Addr) (cl : List (Str × Addr)) (code : Value) (fp : List Addr), Room k A' → PE (gcx X A' s H (genEnv scope cl C code builtinsNs X.env) fp) elt te)
    (hs : ∀ v, genFold iter X.env v = pure v) (I : Inv X pins σ H s) (h : wi σ H fun J H1 => TabG H1 P ∧ ∀ H2, Tabbed P H1 H2 → Rr J H2)
    (hQ : ∀ (J : It) (H2 : Hp) (a : Addr) (g : Nat) (Y : Cx) (gp : List (Addr × Obj)) (s5 : Shared), Rr J H2 → Made X pins σ tg J gt te (own.map (·.2)) H2 a g Y gp s5 → Q' (.ref a) s5) :
    wpAny (model X.prog X.w) X.A (eval (.GeneratorExp elt [⟨tg, iter, [], 0⟩] scope gpos) X.env) Q' X.xe s := by
  have hfree : ∀ y ∈ scope.names, y.2 = .free → ∃ c, X.env.cells.lookup y.1 = some c := fun y hy e => (ok.free y hy e).elim (fun k => I.ok.has _ (.inl k)) (fun k => I.ok.has _ (.inr k))
  refine wpAny_GeneratorExp_make hco (closure_ok hfree) hcell hdot ok.kind (by have := hr.dp; omega) (thn (hi.run pins s σ H _ I h) fun xv s1 hx => thn hx fun itv s2 h2 => ?_) hs
  obtain ⟨it, fp, tn, J, H1, rfl, I2, T, st2, f2, ⟨ps, hP, ht⟩, hR⟩ := h2
  have hPs : s2.heap.get? P = some { cls := .none, data := .fields ps } := I2.hok P _ hP
  have cd : PySem.W.CodeHd s2.heap c P := TB.code.keeps I2.bk
  refine ⟨I2.nolimit, ?_⟩
  have cont : ∀ (code : Value) (h3 : Heap) (tk : Nat) (more : Array Value), Heap.ExtBut P s2.heap h3 → h3.get? P = some { cls := .none, data := .fields (ps ++ more) } → TriplesOk (ps ++ more).toList →
      wpAny (model X.prog X.w) X.A (builtinsFor X.env.globals X.env.builtins) (fun bi s4 => ∀ h', h'.Ns s4.heap.objs.size (fun y => if y = ".0" then some (.ref it) else none) → Heap.SameBut s4.heap.objs.size (s4.heap.push { cls := .type "frame", data := .dict #[] }) h' →
          Q' (.ref h'.objs.size) { s4 with gens := s4.gens.push (.fresh (.compStart (.GeneratorExp elt [⟨tg, iter, [], 0⟩] scope gpos) 0 (.ref it) .none (genEnv scope (cloFrom X.env.cells scope.names []) s4.heap.objs.size code bi X.env))), toks := s4.toks + 1 + 1 + 1, heap := h'.push { cls := .type "generator", data := .fields #[.int s4.gens.size 0, .str "<genexpr>" (s4.toks + 1), .str (X.env.qual ++ "<genexpr>") (s4.toks + 1 + 1)] } }) X.xe { s2 with heap := h3, toks := tk } := by
    intro code h3 tk more hxb hP3 ht3
    have keep3 : ∀ b u, b ≠ P → s2.heap.get? b = some u → h3.get? b = some u := fun b u hb e => hxb b u hb e
    have I3 : Inv X pins σ (upd H1 P (.tbl (ps ++ more))) { s2 with heap := h3, toks := tk } := inv_tab (g' := s2.gens) (d' := s2.drawn) I2 hP keep3 hP3 I2.bare
    have nP : ∀ b ∈ fp, b ≠ P := fun b hb z => by
      have e := (f2 b hb).1
      rw [z, hP] at e
      cases e
    have st3 : tn 0 h3 := T.keep _ _ _ st2 fun b hb o e => keep3 b o (nP b hb) e
    have hR2 := hR _ ⟨⟨_, upd_same, ht3⟩, fun b hb => upd_ne hb⟩
    have f3 : ∀ b ∈ fp, FpOk X pins (upd H1 P (.tbl (ps ++ more))) b := fun b hb => ⟨by rw [upd_ne (nP b hb)]; exact (f2 b hb).1, (f2 b hb).2⟩
    generalize upd H1 P (.tbl (ps ++ more)) = H2 at I3 hR2 f3
    obtain ⟨bm, ob, e1, e2, e3, e4, e5, e6, e7, e8⟩ := TB.bm
    refine wpAny_builtinsFor (m := X.mg) (by rw [I3.ok.glob]; exact I3.mod.glob.keeps I3.bk) e1 e2 (I3.bk _ _ e5) e6 e7 e8 ?_
    intro h' hn' hs'
    generalize hs4 : ({ s2 with heap := h3, toks := tk } : Shared) = s4 at I3 hn' hs' ⊢
    have st4 : tn 0 s4.heap := by rw [← hs4]; exact st3
    have kp' : ∀ b o, s4.heap.get? b = some o → h'.get? b = some o := fun b o e => hs'.extBut b o (Nat.ne_of_lt (Heap.lt_size e)) (Heap.get?_push_of_some _ e)
    have szh : h'.objs.size = s4.heap.objs.size + 1 := by rw [hs'.1, Heap.size_push]
    have szf : ∀ b ∈ fp, b < s4.heap.objs.size := fun b hb => by
      obtain ⟨o, e, _⟩ := T.obj _ _ st4 b hb
      exact Heap.lt_size e
    have main : ∀ (go : Obj) (nm qn : Value) (tk2 : Nat), go.cls = .type "generator" → go.data = .fields #[.int s4.gens.size 0, nm, qn] → go.slots = #[] → (h'.push go).get? h'.objs.size = some go →
        Q' (.ref h'.objs.size) { s4 with gens := s4.gens.push (.fresh (.compStart (.GeneratorExp elt [⟨tg, iter, [], 0⟩] scope gpos) 0 (.ref it) .none (genEnv scope (cloFrom X.env.cells scope.names []) s4.heap.objs.size code builtinsNs X.env))), toks := tk2, heap := h'.push go } := by
      intro go nm qn tk2 hgc hgd hgs hgp
      generalize hG : Expr.GeneratorExp elt [⟨tg, iter, [], 0⟩] scope gpos = G
      generalize hE : genEnv scope (cloFrom X.env.cells scope.names []) s4.heap.objs.size code builtinsNs X.env = genv
      have rm : Room k (X.A.in1.in1.over (.compLoop G 0 (.ref it) .none genv) []) := room_gen hr ⟨_, _, _, _, hG.symm⟩
      have fr : (X.A.in1.in1.over (.compLoop G 0 (.ref it) .none genv) []).frames = some (genv :: X.stack) := by rw [← hG]; exact frames_gen I3.ok.frames
      have kp5 : ∀ b o, s4.heap.get? b = some o → (h'.push go).get? b = some o := fun b o e => Heap.get?_push_of_some _ (kp' b o e)
      have I5 : Inv (gcx X (X.A.in1.in1.over (.compLoop G 0 (.ref it) .none genv) []) s4 H2 genv fp) [] (wipe σ (own.map (·.2))) H2 { s4 with gens := s4.gens.push (.fresh (.compStart G 0 (.ref it) .none genv)), toks := tk2, heap := h'.push go } := by
        rw [← hE]
        exact gen_start (it := .ref it) I3 ok hcell hN (fun b hb => ⟨f3 b hb, szf b hb⟩) rm.hd (by rw [hE]; exact fr) (hn'.push go) kp5 (AllBare.push I3.bare rfl)
      have young : ∀ b, s4.heap.objs.size < b → H2 b = none ∧ b ∉ frs X.stack := fun b hb => by
        refine ⟨I3.hok.fresh (Nat.le_of_lt hb), fun z => ?_⟩
        rcases List.mem_cons.mp (I3.stkSub b z) with q | q
        · rw [q] at hb
          exact absurd (Nat.lt_trans hb I3.lt) (Nat.lt_irrefl _)
        · exact I3.nofs (Nat.le_of_lt hb) q
      have J5 : Inv (gcx X (X.A.in1.in1.over (.compLoop G 0 (.ref it) .none genv) []) s4 H2 genv fp) [(h'.objs.size, go)] (wipe σ (own.map (·.2))) H2 { s4 with gens := s4.gens.push (.fresh (.compStart G 0 (.ref it) .none genv)), toks := tk2, heap := h'.push go } := by
        refine I5.pins_of fun p hp => ?_
        rw [List.mem_singleton.mp hp]
        obtain ⟨y1, y2⟩ := young h'.objs.size (by rw [szh]; exact Nat.lt_succ_self _)
        refine ⟨hgp, y1, ?_, y2, fun v z => ?_⟩
        · show h'.objs.size ≠ genv.locals
          rw [← hE, szh]
          exact Nat.succ_ne_self _
        · have z : go.data = .cell v := z
          rw [hgd] at z
          cases z
      refine hQ J H2 h'.objs.size s4.gens.size (gcx X (X.A.in1.in1.over (.compLoop G 0 (.ref it) .none genv) []) s4 H2 genv fp) [(h'.objs.size, go)] _ hR2 ⟨rfl, rfl, J5, fun σ' H' s' K => ?_, ?_, fun σ' H' s' K => ?_, fun Wn Ps Dn turn n m hm hW => ⟨.fresh (.compStart G 0 (.ref it) .none genv), Array.getElem?_push_size .., rfl, ?_⟩⟩
      · exact ⟨go, nm, qn, (K.pin (h'.objs.size, go) (List.mem_append_right _ (List.mem_singleton.mpr rfl))).1, hgc, hgd, hgs⟩
      · show s4.gens.size < (s4.gens.push _).size
        rw [Array.size_push]
        exact Nat.lt_succ_self _
      · exact I3.call' (ch := fp) K.os K.base K.hok K.bare fun b hb => ⟨(f3 b hb).2.2.2.1, (f3 b hb).2.1, (f3 b hb).2.2.2.2.1, (f3 b hb).2.2.2.2.2⟩
      · have Z : Sl { s4 with gens := s4.gens.push (.fresh (.compStart G 0 (.ref it) .none genv)), toks := tk2, heap := h'.push go } (({ s4 with gens := s4.gens.push (.fresh (.compStart G 0 (.ref it) .none genv)), toks := tk2, heap := h'.push go } : Shared).setGen s4.gens.size .running) := ⟨rfl, allBare_setGen J5.bare rfl, fun _ _ e => e⟩
        have st5 : tn 0 (h'.push go) := T.keep _ _ _ st4 fun b _ o e => kp5 b o e
        rw [← hG] at *
        refine seg_first (Y := gcx X (X.A.in1.in1.over (.compLoop (.GeneratorExp elt [⟨tg, iter, [], 0⟩] scope gpos) 0 (.ref it) .none genv) []) s4 H2 genv fp) (i := 0) T st5 ?_
        refine seg_turns (Y := gcx X (X.A.in1.in1.over (.compLoop (.GeneratorExp elt [⟨tg, iter, [], 0⟩] scope gpos) 0 (.ref it) .none genv) []) s4 H2 genv fp) rfl rfl rfl (by rw [← hE]; exact hco) T ?_ ?_ (fun H' hn b hb => ?_) turn n 0 m _ _ _ H2 hm (slept J5 Z) (wipe_wipe _ _) st5 (fun b hb => (f3 b hb).1) hW
        · rw [← hE] at rm ⊢
          exact hg _ _ _ _ _ _ _ rm
        · rw [← hE] at rm ⊢
          exact he _ _ _ _ _ _ _ rm
        · refine ⟨hn b hb, ?_, fun z => ?_, .inl hb, fun y c e z => ?_, fun p hp z => ?_⟩
          · show b ≠ genv.locals
            rw [← hE]
            exact Nat.ne_of_lt (szf b hb)
          · rcases List.mem_cons.mp (I3.stkSub b z) with q | q
            · exact (f3 b hb).2.1 q
            · exact (f3 b hb).2.2.1 q
          · exact (J5.ok.exf b hb).2 y c e z
          · have hp : p ∈ [(h'.objs.size, go)] := hp
            rw [List.mem_singleton.mp hp] at z
            have z : h'.objs.size = b := z
            have q := szf b hb
            rw [← z, szh] at q
            exact absurd q (Nat.not_lt.mpr (Nat.le_succ _))
    exact main _ _ _ _ rfl rfl rfl (Heap.get?_push_size _ rfl)
  cases hf : codeAmong gpos ps.toList with
  | none =>
    refine wpAny_genexprCodeX hcode (cd.code hPs ht) (cd.tab hPs) hf fun c' h' tk hx hge hlt hco' _ htab' _ => ?_
    obtain ⟨o1, us, f1, tf, fl, tg1, inF, tx, tt, op, _, _, _, _, _, _, _, _, _, htr, _⟩ := hco'
    exact cont _ h' tk _ hx htab'.2 htr
  | some cv =>
    refine wpAny_genexprCode_hit hcode (cd.code hPs ht) hf ?_
    exact cont cv s2.heap s2.toks #[] (Heap.ExtBut.refl _ _) (by rw [Array.append_empty]; exact hPs) (by rw [Array.append_empty]; exact ht)
end
end Gx
namespace Gx
open PySem PySem.Spec PyProof.Rows L2 GxR GenW
/-! what is wanted, told by name, so that it is found again -/
def Wish (Q : VK) (v : V) (H : Hp) : Prop := Q v H
/-! st: what ends it (any: True, all: False) -/
def tGx (P : Addr) (st : Bool) (wi : TI) (gt : TG) (te : TE) (vs : List Nat) : TE := fun σ H Q => wi σ H fun J H1 => TabG H1 P ∧ ∀ H2, Tabbed P H1 H2 → ∃ W : Nat → Nat → Hp → Prop, (∃ m, W 0 m H2) ∧ ∀ i m H, W i m H →
  (J.stop i H ∧ Wish Q (.bl (!st)) H) ∨ (J.go i H ∧ ∃ Nx : Hp → Prop, (∀ H', Nx H' → ∃ m', m' < m ∧ W (i + 1) m' H') ∧ ∀ x H', J.yld i H x H' → gt x (wipe σ vs) H' fun σ2 H3 => wipe σ2 vs = wipe σ vs ∧ te σ2 H3 fun y H4 => ∃ b, y = .bl b ∧ if b = st then Wish Q (.bl st) H4 else Nx H4)
theorem turnB {J : It} {gt : TG} {te : TE} {vs : List Nat} {σ : L2.St} {st : Bool} {W : Nat → Nat → Hp → Prop} {Q : VK} {Dn : Hp → Prop}
    (h : ∀ i m H, W i m H → (J.stop i H ∧ Dn H) ∨ (J.go i H ∧ ∃ Nx : Hp → Prop, (∀ H', Nx H' → ∃ m', m' < m ∧ W (i + 1) m' H') ∧ ∀ x H', J.yld i H x H' → gt x (wipe σ vs) H' fun σ2 H3 => wipe σ2 vs = wipe σ vs ∧ te σ2 H3 fun y H4 => ∃ b, y = .bl b ∧ if b = st then Q (.bl st) H4 else Nx H4)) :
    ∀ i m H, W i m H → (J.stop i H ∧ Dn H) ∨ (J.go i H ∧ ∃ Px : V → Hp → Prop, (∀ y H4, Px y H4 → PsB st W Q i m y H4) ∧ ∀ x H', J.yld i H x H' → gt x (wipe σ vs) H' fun σ2 H3 => wipe σ2 vs = wipe σ vs ∧ te σ2 H3 Px) := fun i m H hW => by
  rcases h i m H hW with a | ⟨go, Nx, hN, hy⟩
  · exact .inl a
  · refine .inr ⟨go, _, fun y H4 ⟨b, e, hb⟩ => ⟨b, e, ?_⟩, hy⟩
    by_cases hc : b = st
    · rw [if_pos hc] at hb ⊢
      exact hb
    · rw [if_neg hc] at hb ⊢
      exact hN _ hb
/-! over a walk of n turns -/
theorem gx_it {J : It} {n : Nat} {G : Hp → Prop} {Yw : Nat → Hp → V → Hp → Prop} (w : Walk J n G Yw) {gt : TG} {te : TE} {vs : List Nat} {σ : L2.St} {st : Bool} {Q : VK} {H2 : Hp} (Pv : Nat → Hp → Prop) (h0 : Pv 0 H2) (hG : ∀ i H, i ≤ n → Pv i H → G H)
    (hs : ∀ i x H H', i < n → Pv i H → Yw i H x H' → gt x (wipe σ vs) H' fun σ2 H3 => wipe σ2 vs = wipe σ vs ∧ te σ2 H3 fun y H4 => ∃ b, y = .bl b ∧ if b = st then Wish Q (.bl st) H4 else Pv (i + 1) H4) (hd : ∀ H, Pv n H → Wish Q (.bl (!st)) H) :
    ∃ W : Nat → Nat → Hp → Prop, (∃ m, W 0 m H2) ∧ ∀ i m H, W i m H → (J.stop i H ∧ Wish Q (.bl (!st)) H) ∨ (J.go i H ∧ ∃ Nx : Hp → Prop, (∀ H', Nx H' → ∃ m', m' < m ∧ W (i + 1) m' H') ∧ ∀ x H', J.yld i H x H' → gt x (wipe σ vs) H' fun σ2 H3 => wipe σ2 vs = wipe σ vs ∧ te σ2 H3 fun y H4 => ∃ b, y = .bl b ∧ if b = st then Wish Q (.bl st) H4 else Nx H4) := by
  refine ⟨fun i m H => m = n - i ∧ i ≤ n ∧ Pv i H, ⟨n, by simp, Nat.zero_le _, h0⟩, ?_⟩
  rintro i m H ⟨rfl, hi, p⟩
  have q := hG i H hi p
  by_cases hlt : i < n
  · exact .inr ⟨w.goes i H hlt q, Pv (i + 1), fun H' p' => ⟨n - (i + 1), by omega, rfl, hlt, p'⟩, fun x H' y => hs i x H H' hlt p (w.yields i H x H' hlt q y)⟩
  · obtain rfl : i = n := by omega
    exact .inl ⟨w.stops H q, hd H p⟩
section
variable {X : Cx}
theorem call_anyG {J : It} {tg : Expr} {gt : TG} {te : TE} {vs : List Nat} {H2 : Hp} {a : Addr} {g : Nat} {Y : Cx} {gp pins : List (Addr × Obj)} {σ : L2.St} {s5 : Shared} {Q : VK} {k : Nat} (hr : Room k X.A) (M : Made X pins σ tg J gt te vs H2 a g Y gp s5)
    (h : ∃ W : Nat → Nat → Hp → Prop, (∃ m, W 0 m H2) ∧ ∀ i m H, W i m H → (J.stop i H ∧ Q (.bl false) H) ∨ (J.go i H ∧ ∃ Nx : Hp → Prop, (∀ H', Nx H' → ∃ m', m' < m ∧ W (i + 1) m' H') ∧ ∀ x H', J.yld i H x H' → gt x (wipe σ vs) H' fun σ2 H3 => wipe σ2 vs = wipe σ vs ∧ te σ2 H3 fun y H4 => ∃ b, y = .bl b ∧ if b = true then Q (.bl true) H4 else Nx H4)) :
    wpAny (model X.prog X.w) X.A (call (.builtin "any") [.ref a]) (EP X pins σ Q) X.xe s5 := by
  obtain ⟨W, ⟨m, hW⟩, turn⟩ := h
  refine call_function_tree F.kind_any F.plain_any F.entry_any (F.args_any1 _) ?_
  unfold Builtin.«any»
  refine wpAny_bind (m := oneArg "any" _) (wpAny_pure ?_)
  refine wpAny_bind (wpAny_pyIter_gen (M.isGen _ _ _ M.inv) ?_)
  refine wpAny_pure ⟨plainId_quiet F.plain_any_loop _, ?_⟩
  have q := any_loop (Y := Y) (gp := gp) (A := X.A) (a := a) (g := g) (Wn := W) (Q := Q) (R := fun r s' => match r with | .ok (.ret v) => EP X pins σ Q v s' | .ok _ => False | .error e => X.xe e s') hr.hd (by have := hr.dp; omega) M.isGen
    (fun σ' H' s' I q => ⟨.bl true, H', M.back _ _ _ I, rfl, q⟩) (fun σ' H' s' I q => ⟨.bl false, H', M.back _ _ _ I, rfl, q⟩) (m + 1) s5 M.size (M.isGen _ _ _ M.inv) M.inv.nolimit (M.goes W _ _ (turnB turn) (m + 1) m (Nat.lt_succ_self _) hW)
  rw [M.prog, M.w] at q
  exact q
theorem call_allG {J : It} {tg : Expr} {gt : TG} {te : TE} {vs : List Nat} {H2 : Hp} {a : Addr} {g : Nat} {Y : Cx} {gp pins : List (Addr × Obj)} {σ : L2.St} {s5 : Shared} {Q : VK} {k : Nat} (hr : Room k X.A) (M : Made X pins σ tg J gt te vs H2 a g Y gp s5)
    (h : ∃ W : Nat → Nat → Hp → Prop, (∃ m, W 0 m H2) ∧ ∀ i m H, W i m H → (J.stop i H ∧ Q (.bl true) H) ∨ (J.go i H ∧ ∃ Nx : Hp → Prop, (∀ H', Nx H' → ∃ m', m' < m ∧ W (i + 1) m' H') ∧ ∀ x H', J.yld i H x H' → gt x (wipe σ vs) H' fun σ2 H3 => wipe σ2 vs = wipe σ vs ∧ te σ2 H3 fun y H4 => ∃ b, y = .bl b ∧ if b = false then Q (.bl false) H4 else Nx H4)) :
    wpAny (model X.prog X.w) X.A (call (.builtin "all") [.ref a]) (EP X pins σ Q) X.xe s5 := by
  obtain ⟨W, ⟨m, hW⟩, turn⟩ := h
  refine call_function_tree F.kind_all F.plain_all F.entry_all (F.args_all1 _) ?_
  unfold Builtin.«all»
  refine wpAny_bind (m := oneArg "all" _) (wpAny_pure ?_)
  refine wpAny_bind (wpAny_pyIter_gen (M.isGen _ _ _ M.inv) ?_)
  refine wpAny_pure ⟨plainId_quiet F.plain_all_loop _, ?_⟩
  have q := all_loop (Y := Y) (gp := gp) (A := X.A) (a := a) (g := g) (Wn := W) (Q := Q) (R := fun r s' => match r with | .ok (.ret v) => EP X pins σ Q v s' | .ok _ => False | .error e => X.xe e s') hr.hd (by have := hr.dp; omega) M.isGen
    (fun σ' H' s' I q => ⟨.bl true, H', M.back _ _ _ I, rfl, q⟩) (fun σ' H' s' I q => ⟨.bl false, H', M.back _ _ _ I, rfl, q⟩) (m + 1) s5 M.size (M.isGen _ _ _ M.inv) M.inv.nolimit (M.goes W _ _ (turnB turn) (m + 1) m (Nat.lt_succ_self _) hW)
  rw [M.prog, M.w] at q
  exact q
theorem pe_any {k : Nat} {c P : Addr} {elt tg iter : Expr} {scope : Scope} {gpos p pos : Pos} {own : List (Str × Nat)} {wi : TI} {gt : TG} {te : TE}
    (hr : Room (k + 1) X.A) (hgl : Gl X "any") (hm : X.mg "any" = none) (TB : TabB X.base X.mg c P) (hcode : X.env.code = .ref c) (hN : X.N.Nodup) (hi : PI X tg iter wi) (ok : BlkOk X.N X.env.scope scope own)
    (hg : ∀ (A' : Around) (s : Shared) (H : Hp) (C : Addr) (cl : List (Str × Addr)) (code : Value) (fp : List Addr), Room k A' → PG (gcx X A' s H (genEnv scope cl C code builtinsNs X.env) fp) tg gt)
    (he : ∀ (A' : Around) (s : Shared) (H : Hp) (C : Addr) (cl : List (Str × Addr)) (code : Value) (fp : List Addr), Room k A' → PE (gcx X A' s H (genEnv scope cl C code builtinsNs X.env) fp) elt te)
    (hco : scope.isCoroutine = false := by rfl) (hcell : ∀ y ∈ scope.names, y.2 ≠ .cell := by decide +kernel) (hdot : scope.names.lookup (".0" : Str) = some NameKind.local := by rfl) (hs : ∀ v, genFold iter X.env v = pure v := by intro _; rfl)
    (hst : starEach [.GeneratorExp elt [⟨tg, iter, [], 0⟩] scope gpos] X.env = (false, eval (.GeneratorExp elt [⟨tg, iter, [], 0⟩] scope gpos) X.env) :: starEach [] X.env := by rfl) :
    PE X (.Call (.Name "any" p) [.GeneratorExp elt [⟨tg, iter, [], 0⟩] scope gpos] [] pos) (tGx P true wi gt te (own.map (·.2))) := by
  refine ⟨fun pins s σ H Q I h => ?_⟩
  refine wpAny_Call_Name_kw (ld_blt I hgl hm boot_any ?_)
  refine PyProof.Rows.callWith_builtin1 ?_ hst (by rfl)
  rw [hst]
  show wpAny _ _ (spliced ((false, eval (.GeneratorExp elt [⟨tg, iter, [], 0⟩] scope gpos) X.env) :: backTo pos (starEach [] X.env))) _ _ s
  refine Calls.spliced_cons (gen_make hr TB hcode ok hco hcell hdot hN hi hg he hs I h fun J H2 a g Y gp s5 hR M => ?_)
  exact Calls.spliced_nil (call_anyG hr M hR)
theorem pe_all {k : Nat} {c P : Addr} {elt tg iter : Expr} {scope : Scope} {gpos p pos : Pos} {own : List (Str × Nat)} {wi : TI} {gt : TG} {te : TE}
    (hr : Room (k + 1) X.A) (hgl : Gl X "all") (hm : X.mg "all" = none) (TB : TabB X.base X.mg c P) (hcode : X.env.code = .ref c) (hN : X.N.Nodup) (hi : PI X tg iter wi) (ok : BlkOk X.N X.env.scope scope own)
    (hg : ∀ (A' : Around) (s : Shared) (H : Hp) (C : Addr) (cl : List (Str × Addr)) (code : Value) (fp : List Addr), Room k A' → PG (gcx X A' s H (genEnv scope cl C code builtinsNs X.env) fp) tg gt)
    (he : ∀ (A' : Around) (s : Shared) (H : Hp) (C : Addr) (cl : List (Str × Addr)) (code : Value) (fp : List Addr), Room k A' → PE (gcx X A' s H (genEnv scope cl C code builtinsNs X.env) fp) elt te)
    (hco : scope.isCoroutine = false := by rfl) (hcell : ∀ y ∈ scope.names, y.2 ≠ .cell := by decide +kernel) (hdot : scope.names.lookup (".0" : Str) = some NameKind.local := by rfl) (hs : ∀ v, genFold iter X.env v = pure v := by intro _; rfl)
    (hst : starEach [.GeneratorExp elt [⟨tg, iter, [], 0⟩] scope gpos] X.env = (false, eval (.GeneratorExp elt [⟨tg, iter, [], 0⟩] scope gpos) X.env) :: starEach [] X.env := by rfl) :
    PE X (.Call (.Name "all" p) [.GeneratorExp elt [⟨tg, iter, [], 0⟩] scope gpos] [] pos) (tGx P false wi gt te (own.map (·.2))) := by
  refine ⟨fun pins s σ H Q I h => ?_⟩
  refine wpAny_Call_Name_kw (ld_blt I hgl hm (show bootBuiltins "all" = some (.builtin "all") by decide +kernel) ?_)
  refine PyProof.Rows.callWith_builtin1 ?_ hst (by rfl)
  rw [hst]
  show wpAny _ _ (spliced ((false, eval (.GeneratorExp elt [⟨tg, iter, [], 0⟩] scope gpos) X.env) :: backTo pos (starEach [] X.env))) _ _ s
  refine Calls.spliced_cons (gen_make hr TB hcode ok hco hcell hdot hN hi hg he hs I h fun J H2 a g Y gp s5 hR M => ?_)
  exact Calls.spliced_nil (call_allG hr M hR)
end
end Gx
/-! ### sum(..) of a generator expression: its elements are whole numbers -/
namespace Gx
open PySem PySem.Spec PyProof.Rows L2 GxR GenW
section
variable {Y : Cx} {gp : List (Addr × Obj)}
/-! the list in which the total stands -/
def AtS (S : Addr) (t : Int) (s : Shared) : Prop := ∃ tok c, s.heap.get? S = some (seqObj "list" #[.int t tok] c)
def KeptS (S : Addr) (s₀ s1 : Shared) : Prop := ∀ o, s₀.heap.get? S = some o → s1.heap.get? S = some o
def REndS (Y : Cx) (gp : List (Addr × Obj)) (S : Addr) (tot : Nat → Int) (Dn : Nat → Hp → Prop) : GenEnd := fun _ s₀ r s1 => r = .ok .next ∧ ∃ i, (∃ σ' H', Inv Y gp σ' H' s1 ∧ Dn i H') ∧ AtS S (tot i) s1 ∧ KeptS S s₀ s1
def YItemS (Y : Cx) (gp : List (Addr × Obj)) (S : Addr) (tot : Nat → Int) (fp : List Addr) (Wn : Nat → Nat → Hp → Prop) (Ps : Nat → Nat → V → Hp → Prop) : Protocol := fun n s₀ v s1 kap =>
  ∃ i m y σ' H', m ≤ n ∧ RelV y v ∧ Inv Y gp σ' H' s1 ∧ H' S = none ∧ Ps i m y H' ∧ AtS S (tot i) s1 ∧ KeptS S s₀ s1 ∧ ∀ s' m', Inv Y gp σ' H' s' → (∀ b ∈ fp, ∀ o, s1.heap.get? b = some o → s'.heap.get? b = some o) → AtS S (tot (i + 1)) s' → m' < m → Wn (i + 1) m' H' → kap (.send .none) s'
theorem seg_turnsS {A : Around} {tg elt iter : Expr} {scope : Scope} {pos : Pos} {it : Addr} {fp : List Addr} {tn : Nat → Heap → Prop} {J : It} {g : TG} {te : TE} {vs : List Nat} {σ : L2.St} {Wn : Nat → Nat → Hp → Prop} {Ps : Nat → Nat → V → Hp → Prop} {Dn : Nat → Hp → Prop} {S : Addr} {tot : Nat → Int}
    (hA : A.over (.compLoop (.GeneratorExp elt [⟨tg, iter, [], 0⟩] scope pos) 0 (.ref it) .none Y.env) [] = Y.A) (hc : Y.calm = true) (hx : Y.xe = fun _ _ => False) (hco : Y.env.scope.isCoroutine = false)
    (T : Turn Y.prog Y.w Y.K tg J fp it tn) (hg : PG Y tg g) (he : PE Y elt te) (hfp : ∀ H' : Hp, (∀ b ∈ fp, H' b = none) → ∀ b ∈ fp, FpOk Y gp H' b)
    (hfS : ∀ H' : Hp, H' S = none → FpOk Y gp H' S) (nS : S ∉ fp)
    (turn : ∀ i m H, Wn i m H → (J.stop i H ∧ Dn i H) ∨ (J.go i H ∧ ∃ Px : V → Hp → Prop, (∀ y H4, Px y H4 → Ps i m y H4) ∧ ∀ x H', J.yld i H x H' → g x (wipe σ vs) H' fun σ2 H2 => wipe σ2 vs = wipe σ vs ∧ te σ2 H2 Px)) :
    ∀ (n i m : Nat) (s₀ s : Shared) (σ1 : L2.St) (H1 : Hp), m < n → Inv Y gp σ1 H1 s → wipe σ1 vs = wipe σ vs → tn i s.heap → (∀ b ∈ fp, H1 b = none) → H1 S = none → AtS S (tot i) s → KeptS S s₀ s → Wn i m H1 →
      Seg (model Y.prog Y.w) A (REndS Y gp S tot Dn) (YItemS Y gp S tot fp Wn Ps) n s₀ (.compLoop (.GeneratorExp elt [⟨tg, iter, [], 0⟩] scope pos) 0 (.ref it) .none Y.env)
        ((model Y.prog Y.w).den (.compLoop (.GeneratorExp elt [⟨tg, iter, [], 0⟩] scope pos) 0 (.ref it) .none Y.env)) [] s := by
  intro n
  induction n with
  | zero =>
    intro i m s₀ s σ1 H1 hm
    exact absurd hm (Nat.not_lt_zero m)
  | succ n ih =>
    intro i m s₀ s σ1 H1 hm I1 hw hst hfr hHS hat hks hW
    show Seg _ A _ _ _ s₀ _ ((compTurn (.GeneratorExp elt [⟨tg, iter, [], 0⟩] scope pos) 0 (.ref it) .none Y.env).onRaise (leaving Y.env)) [] s
    rw [compTurn_gen, Sem.onRaise_eq_wrap]
    refine seg_bind_wrap (wpAny_standAt ?_)
    obtain ⟨tok, cc, hso⟩ := hat
    have I00 : Inv Y gp (wipe σ vs) H1 s := by rw [← hw]; exact wiped I1
    have I0 := I00.pinned (fp := [S]) (fun b hb => by rw [List.mem_singleton.mp hb]; exact hfS H1 hHS) (fun b hb => by rw [List.mem_singleton.mp hb]; exact ⟨_, hso, fun v z => nomatch z⟩)
    have hfp2 : ∀ H' : Hp, (∀ b ∈ fp, H' b = none) → ∀ b ∈ fp, FpOk Y (gp ++ pinsAt [S] s.heap) H' b := fun H' hn b hb => by
      obtain ⟨f0, f1, f2, f3, f4, f5⟩ := hfp H' hn b hb
      refine ⟨f0, f1, f2, f3, f4, fun p hp => ?_⟩
      rcases List.mem_append.mp hp with q | q
      · exact f5 p (List.mem_append_left _ q)
      · rcases List.mem_append.mp q with q | q
        · exact f5 p (List.mem_append_right _ q)
        · obtain ⟨hb2, _⟩ := of_pinsAt q
          rw [List.mem_singleton.mp hb2]
          exact fun z => nS (by rw [z]; exact hb)
    have keepS : ∀ {pl : List (Addr × Obj)} {σ' : L2.St} {H' : Hp} {s' : Shared}, Inv Y ((gp ++ pinsAt [S] s.heap) ++ pl) σ' H' s' → s'.heap.get? S = some (seqObj "list" #[.int (tot i) tok] cc) ∧ H' S = none := fun I' => by
      have z := I'.pin (S, _) (List.mem_append_right _ (List.mem_append_left _ (List.mem_append_right _ (mem_pinsAt (List.mem_singleton.mpr rfl) hso))))
      exact ⟨z.1, z.2.1⟩
    rcases turn i m H1 hW with ⟨hstop, hd⟩ | ⟨hgo, Px, hPx, hy⟩
    · refine seg_bind_wrap ?_
      rw [hA]
      refine thnF (thn (T.done Y rfl rfl rfl hc i (gp ++ pinsAt [S] s.heap) s _ H1 (fun _ _ => False) I0 (hfp2 H1 hfr) hst hstop) fun r s1 ⟨hr, I2⟩ => ?_) fun _ _ q => q
      subst hr
      exact seg_end (.ok .next) ⟨rfl, i, ⟨_, H1, I2.unpinned, hd⟩, ⟨tok, cc, (keepS (pl := []) (by rw [List.append_nil]; exact I2)).1⟩, fun o e => by rw [(keepS (pl := []) (by rw [List.append_nil]; exact I2)).1, ← hso]; exact hks o e⟩
    · refine seg_bind_wrap ?_
      rw [hA]
      refine thnF (thn (T.item Y rfl rfl rfl hc i (gp ++ pinsAt [S] s.heap) s _ H1 (fun _ _ => False) I0 (hfp2 H1 hfr) hst hgo) fun r s1 ⟨u, hr, h1⟩ => ?_) fun _ _ q => q
      subst hr
      refine seg_bind_wrap ?_
      rw [hA]
      refine thnF (thn h1 fun _ s2 ⟨x, H2, I2, ru, yl, st2, fr2⟩ => ?_) fun _ _ q => q
      have I3 := I2.pinned (hfp2 H2 fr2) (T.obj _ _ st2)
      refine seg_bind_wrap ?_
      rw [hA]
      have hgr := hg.run _ s2 _ H2 x u _ I3 ru (hy x H2 yl)
      rw [hx] at hgr
      refine thnF (thn hgr fun _ s3 ⟨σ3, H3, I4, hw3, q3⟩ => ?_) fun _ _ q => q
      simp only [List.forIn_nil]
      refine seg_bind_wrap (wpAny_pure ?_)
      simp only [if_true]
      have hyo : ∀ v, yieldOut Y.env v = yieldValue v := fun v => by simp only [yieldOut, hco, Bool.false_eq_true, if_false]
      simp only [hyo]
      rw [Sem.bind_eq_wrap', Sem.bind_eq_wrap', Sem.wrap_wrap, Sem.wrap_wrap]
      refine seg_wrap ?_
      rw [hA]
      have her := he.run _ s3 σ3 H3 _ I4 q3
      rw [hx] at her
      refine thnF (thn her fun v s4 ⟨y, H4, I5, ry, q4⟩ => ?_) fun _ _ q => q
      have st4 : tn (i + 1) s4.heap := T.keep _ _ _ st2 fun b hb o e => (I5.pin (b, o) (List.mem_append_right _ (List.mem_append_right _ (mem_pinsAt hb e)))).1
      have fr4 : ∀ b ∈ fp, H4 b = none := fun b hb => by
        obtain ⟨o, e, d⟩ := T.obj _ _ st2 b hb
        exact (I5.pin (b, o) (List.mem_append_right _ (List.mem_append_right _ (mem_pinsAt hb e)))).2.1
      have I6 := I5.unpinned.unpinned
      obtain ⟨kS, nS4⟩ := keepS I5
      refine seg_at (seg_yield rfl rfl rfl ⟨i, m, y, σ3, H4, by omega, ry, I6, nS4, hPx _ _ q4, ⟨tok, cc, kS⟩, (fun o e => by rw [kS, ← hso]; exact hks o e), fun s' m' I' kp hat' hm' hW' => ?_⟩)
      refine seg_again rfl (ih (i + 1) m' s' s' σ3 H4 (by omega) I' hw3 (T.keep _ _ _ st4 kp) fr4 nS4 hat' (fun o e => e) hW')
end
structure MadeS (X : Cx) (pins : List (Addr × Obj)) (σ : L2.St) (tg : Expr) (J : It) (gt : TG) (te : TE) (vs : List Nat) (H2 : Hp) (a : Addr) (g : Nat) (Y : Cx) (gp : List (Addr × Obj)) (fp : List Addr) (s5 : Shared) : Prop where
  prog : Y.prog = X.prog
  w : Y.w = X.w
  inv : Inv Y gp (wipe σ vs) H2 s5
  isGen : ∀ σ' H' s', Inv Y gp σ' H' s' → s'.heap.IsGen a g
  size : g < s5.gens.size
  back : ∀ σ' H' s', Inv Y gp σ' H' s' → Inv X pins σ H' s'
  fps : ∀ b ∈ fp, H2 b = none ∧ b < s5.heap.objs.size
  goes : ∀ (S : Addr) (tot : Nat → Int) (Wn : Nat → Nat → Hp → Prop) (Ps : Nat → Nat → V → Hp → Prop) (Dn : Nat → Hp → Prop) (s' : Shared), (∀ H' : Hp, H' S = none → FpOk Y gp H' S) → S ∉ fp → (∀ i m H, Wn i m H → (J.stop i H ∧ Dn i H) ∨ (J.go i H ∧ ∃ Px : V → Hp → Prop, (∀ y H4, Px y H4 → Ps i m y H4) ∧ ∀ x H', J.yld i H x H' → gt x (wipe σ vs) H' fun σ2 H3 => wipe σ2 vs = wipe σ vs ∧ te σ2 H3 Px)) →
    Inv Y gp (wipe σ vs) H2 s' → H2 S = none → AtS S (tot 0) s' → s'.gens = s5.gens → (∀ b ∈ fp, ∀ o, s5.heap.get? b = some o → s'.heap.get? b = some o) →
    ∀ n m, m < n → Wn 0 m H2 → ∃ gs, s'.gens[g]? = some gs ∧ gs.Goes (model Y.prog Y.w) X.A.in1.in1 (REndS Y gp S tot Dn) (YItemS Y gp S tot fp Wn Ps) n (.send .none) (s'.setGen g .running)
section
variable {X : Cx} {pins : List (Addr × Obj)} {σ : L2.St} {H : Hp} {s : Shared}
theorem gen_makeS {k : Nat} {c P : Addr} {elt tg iter : Expr} {scope : Scope} {gpos : Pos} {own : List (Str × Nat)} {wi : TI} {gt : TG} {te : TE} {Rr : It → Hp → Prop} {Q' : Value → Shared → Prop}
    (hr : Room (k + 1) X.A) (TB : TabB X.base X.mg c P) (hcode : X.env.code = .ref c) (ok : BlkOk X.N X.env.scope scope own) (hco : scope.isCoroutine = false) (hcell : ∀ y ∈ scope.names, y.2 ≠ .cell) (hdot : scope.names.lookup (".0" : Str) = some NameKind.local) (hN : X.N.Nodup)
    (hi : PI X tg iter wi) (hg : ∀ (A' : Around) (s : Shared) (H : Hp) (C : Addr) (cl : List (Str × Addr)) (code : Value) (fp : List Addr), Room k A' → PG (gcx X A' s H (genEnv scope cl C code builtinsNs X.env) fp) tg gt)
    (he : ∀ (A' : Around) (s : Shared) (H : Hp) (C : Addr) (cl : List (Str × Addr)) (code : Value) (fp : List Addr), Room k A' → PE (gcx X A' s H (genEnv scope cl C code builtinsNs X.env) fp) elt te)
    (hs : ∀ v, genFold iter X.env v = pure v) (I : Inv X pins σ H s) (h : wi σ H fun J H1 => TabG H1 P ∧ ∀ H2, Tabbed P H1 H2 → Rr J H2)
    (hQ : ∀ (J : It) (H2 : Hp) (a : Addr) (g : Nat) (Y : Cx) (gp : List (Addr × Obj)) (fp : List Addr) (s5 : Shared), Rr J H2 → MadeS X pins σ tg J gt te (own.map (·.2)) H2 a g Y gp fp s5 → Q' (.ref a) s5) :
    wpAny (model X.prog X.w) X.A (eval (.GeneratorExp elt [⟨tg, iter, [], 0⟩] scope gpos) X.env) Q' X.xe s := by
  have hfree : ∀ y ∈ scope.names, y.2 = .free → ∃ c, X.env.cells.lookup y.1 = some c := fun y hy e => (ok.free y hy e).elim (fun k => I.ok.has _ (.inl k)) (fun k => I.ok.has _ (.inr k))
  refine wpAny_GeneratorExp_make hco (closure_ok hfree) hcell hdot ok.kind (by have := hr.dp; omega) (thn (hi.run pins s σ H _ I h) fun xv s1 hx => thn hx fun itv s2 h2 => ?_) hs
  obtain ⟨it, fp, tn, J, H1, rfl, I2, T, st2, f2, ⟨ps, hP, ht⟩, hR⟩ := h2
  have hPs : s2.heap.get? P = some { cls := .none, data := .fields ps } := I2.hok P _ hP
  have cd : PySem.W.CodeHd s2.heap c P := TB.code.keeps I2.bk
  refine ⟨I2.nolimit, ?_⟩
  have cont : ∀ (code : Value) (h3 : Heap) (tk : Nat) (more : Array Value), Heap.ExtBut P s2.heap h3 → h3.get? P = some { cls := .none, data := .fields (ps ++ more) } → TriplesOk (ps ++ more).toList →
      wpAny (model X.prog X.w) X.A (builtinsFor X.env.globals X.env.builtins) (fun bi s4 => ∀ h', h'.Ns s4.heap.objs.size (fun y => if y = ".0" then some (.ref it) else none) → Heap.SameBut s4.heap.objs.size (s4.heap.push { cls := .type "frame", data := .dict #[] }) h' →
          Q' (.ref h'.objs.size) { s4 with gens := s4.gens.push (.fresh (.compStart (.GeneratorExp elt [⟨tg, iter, [], 0⟩] scope gpos) 0 (.ref it) .none (genEnv scope (cloFrom X.env.cells scope.names []) s4.heap.objs.size code bi X.env))), toks := s4.toks + 1 + 1 + 1, heap := h'.push { cls := .type "generator", data := .fields #[.int s4.gens.size 0, .str "<genexpr>" (s4.toks + 1), .str (X.env.qual ++ "<genexpr>") (s4.toks + 1 + 1)] } }) X.xe { s2 with heap := h3, toks := tk } := by
    intro code h3 tk more hxb hP3 ht3
    have keep3 : ∀ b u, b ≠ P → s2.heap.get? b = some u → h3.get? b = some u := fun b u hb e => hxb b u hb e
    have I3 : Inv X pins σ (upd H1 P (.tbl (ps ++ more))) { s2 with heap := h3, toks := tk } := inv_tab (g' := s2.gens) (d' := s2.drawn) I2 hP keep3 hP3 I2.bare
    have nP : ∀ b ∈ fp, b ≠ P := fun b hb z => by
      have e := (f2 b hb).1
      rw [z, hP] at e
      cases e
    have st3 : tn 0 h3 := T.keep _ _ _ st2 fun b hb o e => keep3 b o (nP b hb) e
    have hR2 := hR _ ⟨⟨_, upd_same, ht3⟩, fun b hb => upd_ne hb⟩
    have f3 : ∀ b ∈ fp, FpOk X pins (upd H1 P (.tbl (ps ++ more))) b := fun b hb => ⟨by rw [upd_ne (nP b hb)]; exact (f2 b hb).1, (f2 b hb).2⟩
    generalize upd H1 P (.tbl (ps ++ more)) = H2 at I3 hR2 f3
    obtain ⟨bm, ob, e1, e2, e3, e4, e5, e6, e7, e8⟩ := TB.bm
    refine wpAny_builtinsFor (m := X.mg) (by rw [I3.ok.glob]; exact I3.mod.glob.keeps I3.bk) e1 e2 (I3.bk _ _ e5) e6 e7 e8 ?_
    intro h' hn' hs'
    generalize hs4 : ({ s2 with heap := h3, toks := tk } : Shared) = s4 at I3 hn' hs' ⊢
    have st4 : tn 0 s4.heap := by rw [← hs4]; exact st3
    have kp' : ∀ b o, s4.heap.get? b = some o → h'.get? b = some o := fun b o e => hs'.extBut b o (Nat.ne_of_lt (Heap.lt_size e)) (Heap.get?_push_of_some _ e)
    have szh : h'.objs.size = s4.heap.objs.size + 1 := by rw [hs'.1, Heap.size_push]
    have szf : ∀ b ∈ fp, b < s4.heap.objs.size := fun b hb => by
      obtain ⟨o, e, _⟩ := T.obj _ _ st4 b hb
      exact Heap.lt_size e
    have main : ∀ (go : Obj) (nm qn : Value) (tk2 : Nat), go.cls = .type "generator" → go.data = .fields #[.int s4.gens.size 0, nm, qn] → go.slots = #[] → (h'.push go).get? h'.objs.size = some go →
        Q' (.ref h'.objs.size) { s4 with gens := s4.gens.push (.fresh (.compStart (.GeneratorExp elt [⟨tg, iter, [], 0⟩] scope gpos) 0 (.ref it) .none (genEnv scope (cloFrom X.env.cells scope.names []) s4.heap.objs.size code builtinsNs X.env))), toks := tk2, heap := h'.push go } := by
      intro go nm qn tk2 hgc hgd hgs hgp
      generalize hG : Expr.GeneratorExp elt [⟨tg, iter, [], 0⟩] scope gpos = G
      generalize hE : genEnv scope (cloFrom X.env.cells scope.names []) s4.heap.objs.size code builtinsNs X.env = genv
      have rm : Room k (X.A.in1.in1.over (.compLoop G 0 (.ref it) .none genv) []) := room_gen hr ⟨_, _, _, _, hG.symm⟩
      have fr : (X.A.in1.in1.over (.compLoop G 0 (.ref it) .none genv) []).frames = some (genv :: X.stack) := by rw [← hG]; exact frames_gen I3.ok.frames
      have kp5 : ∀ b o, s4.heap.get? b = some o → (h'.push go).get? b = some o := fun b o e => Heap.get?_push_of_some _ (kp' b o e)
      have I5 : Inv (gcx X (X.A.in1.in1.over (.compLoop G 0 (.ref it) .none genv) []) s4 H2 genv fp) [] (wipe σ (own.map (·.2))) H2 { s4 with gens := s4.gens.push (.fresh (.compStart G 0 (.ref it) .none genv)), toks := tk2, heap := h'.push go } := by
        rw [← hE]
        exact gen_start (it := .ref it) I3 ok hcell hN (fun b hb => ⟨f3 b hb, szf b hb⟩) rm.hd (by rw [hE]; exact fr) (hn'.push go) kp5 (AllBare.push I3.bare rfl)
      have young : ∀ b, s4.heap.objs.size < b → H2 b = none ∧ b ∉ frs X.stack := fun b hb => by
        refine ⟨I3.hok.fresh (Nat.le_of_lt hb), fun z => ?_⟩
        rcases List.mem_cons.mp (I3.stkSub b z) with q | q
        · rw [q] at hb
          exact absurd (Nat.lt_trans hb I3.lt) (Nat.lt_irrefl _)
        · exact I3.nofs (Nat.le_of_lt hb) q
      have J5 : Inv (gcx X (X.A.in1.in1.over (.compLoop G 0 (.ref it) .none genv) []) s4 H2 genv fp) [(h'.objs.size, go)] (wipe σ (own.map (·.2))) H2 { s4 with gens := s4.gens.push (.fresh (.compStart G 0 (.ref it) .none genv)), toks := tk2, heap := h'.push go } := by
        refine I5.pins_of fun p hp => ?_
        rw [List.mem_singleton.mp hp]
        obtain ⟨y1, y2⟩ := young h'.objs.size (by rw [szh]; exact Nat.lt_succ_self _)
        refine ⟨hgp, y1, ?_, y2, fun v z => ?_⟩
        · show h'.objs.size ≠ genv.locals
          rw [← hE, szh]
          exact Nat.succ_ne_self _
        · have z : go.data = .cell v := z
          rw [hgd] at z
          cases z
      refine hQ J H2 h'.objs.size s4.gens.size (gcx X (X.A.in1.in1.over (.compLoop G 0 (.ref it) .none genv) []) s4 H2 genv fp) [(h'.objs.size, go)] fp _ hR2 ⟨rfl, rfl, J5, fun σ' H' s' K => ?_, ?_, fun σ' H' s' K => ?_, fun b hb => ⟨(f3 b hb).1, ?_⟩, fun S tot Wn Ps Dn s6 hfS nS turn J6 nS6 at6 hgens kp6 n m hm hW => ⟨.fresh (.compStart G 0 (.ref it) .none genv), by rw [hgens]; exact Array.getElem?_push_size .., rfl, ?_⟩⟩
      · exact ⟨go, nm, qn, (K.pin (h'.objs.size, go) (List.mem_append_right _ (List.mem_singleton.mpr rfl))).1, hgc, hgd, hgs⟩
      · show s4.gens.size < (s4.gens.push _).size
        rw [Array.size_push]
        exact Nat.lt_succ_self _
      · exact I3.call' (ch := fp) K.os K.base K.hok K.bare fun b hb => ⟨(f3 b hb).2.2.2.1, (f3 b hb).2.1, (f3 b hb).2.2.2.2.1, (f3 b hb).2.2.2.2.2⟩
      · show b < (h'.push go).objs.size
        rw [Heap.size_push, szh]
        exact Nat.lt_succ_of_lt (Nat.lt_succ_of_lt (szf b hb))
      · have Z : Sl s6 (s6.setGen s4.gens.size .running) := ⟨rfl, allBare_setGen J6.bare rfl, fun _ _ e => e⟩
        have st5 : tn 0 s6.heap := T.keep _ _ _ (T.keep _ _ _ st4 fun b _ o e => kp5 b o e) fun b hb o e => kp6 b hb o e
        rw [← hG] at *
        refine seg_first (Y := gcx X (X.A.in1.in1.over (.compLoop (.GeneratorExp elt [⟨tg, iter, [], 0⟩] scope gpos) 0 (.ref it) .none genv) []) s4 H2 genv fp) (i := 0) T st5 ?_
        refine seg_turnsS (Y := gcx X (X.A.in1.in1.over (.compLoop (.GeneratorExp elt [⟨tg, iter, [], 0⟩] scope gpos) 0 (.ref it) .none genv) []) s4 H2 genv fp) rfl rfl rfl (by rw [← hE]; exact hco) T ?_ ?_ (fun H' hn b hb => ?_) hfS nS turn n 0 m _ _ _ H2 hm (slept J6 Z) (wipe_wipe _ _) st5 (fun b hb => (f3 b hb).1) nS6 at6 (fun o e => e) hW
        · rw [← hE] at rm ⊢
          exact hg _ _ _ _ _ _ _ rm
        · rw [← hE] at rm ⊢
          exact he _ _ _ _ _ _ _ rm
        · refine ⟨hn b hb, ?_, fun z => ?_, .inl hb, fun y c e z => ?_, fun p hp z => ?_⟩
          · show b ≠ genv.locals
            rw [← hE]
            exact Nat.ne_of_lt (szf b hb)
          · rcases List.mem_cons.mp (I3.stkSub b z) with q | q
            · exact (f3 b hb).2.1 q
            · exact (f3 b hb).2.2.1 q
          · exact (J5.ok.exf b hb).2 y c e z
          · have hp : p ∈ [(h'.objs.size, go)] := hp
            rw [List.mem_singleton.mp hp] at z
            have z : h'.objs.size = b := z
            have q := szf b hb
            rw [← z, szh] at q
            exact absurd q (Nat.not_lt.mpr (Nat.le_succ _))
    exact main _ _ _ _ rfl rfl rfl (Heap.get?_push_size _ rfl)
  cases hf : codeAmong gpos ps.toList with
  | none =>
    refine wpAny_genexprCodeX hcode (cd.code hPs ht) (cd.tab hPs) hf fun c' h' tk hx hge hlt hco' _ htab' _ => ?_
    obtain ⟨o1, us, f1, tf, fl, tg1, inF, tx, tt, op, _, _, _, _, _, _, _, _, _, htr, _⟩ := hco'
    exact cont _ h' tk _ hx htab'.2 htr
  | some cv =>
    refine wpAny_genexprCode_hit hcode (cd.code hPs ht) hf ?_
    exact cont cv s2.heap s2.toks #[] (Heap.ExtBut.refl _ _) (by rw [Array.append_empty]; exact hPs) (by rw [Array.append_empty]; exact ht)
end
end Gx
namespace Gx
open PySem PySem.Spec PyProof.Rows L2 GxR GenW
/-! ### the consumer: sum -/
def PsS (tot : Nat → Int) (Wn : Nat → Nat → Hp → Prop) (i m : Nat) (y : V) (H : Hp) : Prop := y = .int (tot (i + 1) - tot i) ∧ ∃ m', m' < m ∧ Wn (i + 1) m' H
section
variable {Y : Cx} {gp : List (Addr × Obj)} {A : Around} {a : Addr} {g : Nat} {fp : List Addr} {S : Addr} {tot : Nat → Int} {Wn : Nat → Nat → Hp → Prop} {Dn : Nat → Hp → Prop} {R : Result → Shared → Prop}
theorem seq_inj {t t' : Int} {k k' : Tok} {c c' : Nat} (h : seqObj "list" #[.int t k] c = seqObj "list" #[.int t' k'] c') : t = t' := by
  have h1 : (seqObj "list" #[Value.int t k] c).data = (seqObj "list" #[Value.int t' k'] c').data := congrArg Obj.data h
  have h2 : #[Value.int t k] = #[Value.int t' k'] := by injection h1
  have h3 : [Value.int t k] = [Value.int t' k'] := congrArg Array.toList h2
  injection h3 with h4 _
  injection h4
theorem sum_loop (hh : A.handled = none) (hd : A.depth < recursionLimit) (hgen : ∀ σ' H' s', Inv Y gp σ' H' s' → s'.heap.IsGen a g) (hfS : ∀ H' : Hp, H' S = none → FpOk Y gp H' S) (nS : S ∉ fp)
    (hR : ∀ i σ' H' s' tok, Inv Y gp σ' H' s' → Dn i H' → R (.ok (.ret (.int (tot i) tok))) s') :
    ∀ (n : Nat) (s : Shared) (t : Int) (tok : Tok) (c : Nat) (st : Int), (st = 0 ∨ st = 2) → g < s.gens.size → s.heap.IsGen a g → s.heap.NoLimit → s.heap.get? S = some (seqObj "list" #[.int t tok] c) →
      (∃ gs, s.gens[g]? = some gs ∧ gs.Goes (model Y.prog Y.w) A.in1.in1 (REndS Y gp S tot Dn) (YItemS Y gp S tot fp Wn (PsS tot Wn)) n (.send .none) (s.setGen g .running)) →
      codeAny (model Y.prog Y.w) A (.builtin "sum.loop" ⟨[.ref a, .ref S, rawInt st, rawInt 0], []⟩) R s := by
  intro n
  induction n with
  | zero =>
    intro s t tok c st hst hgs hg hl hS ⟨gs, e1, hgo⟩
    refine codeAny_builtin F.entry_sum_loop ?_
    rw [Around.under_plainId F.plain_sum_loop _]
    show wpAny _ A.in1 (seqItems? (.ref S) >>= _) _ _ s
    refine wpAny_bind (wpAny_seqItems hS rfl ?_)
    show wpAny _ A.in1 (tryCatch (pyNext (.ref a)) _ >>= _) _ _ s
    refine wpAny_bind (wpAny_tryCatch (wpAny_pyNext_genexpQ (P := fun _ s₀ s1 => ∃ i, (∃ σ' H', Inv Y gp σ' H' s1 ∧ Dn i H') ∧ AtS S (tot i) s1 ∧ KeptS S s₀ s1) hh hl hd hg e1 hgo (fun v s1 gs' hb hv => ?_) (fun s1 hp h' hk => ?_)))
    · obtain ⟨i, m, y, σ', H', hm, ry, I, nS', ⟨rfl, m', hm', hw⟩, _⟩ := hv
      omega
    · obtain ⟨i, ⟨σ', H', I, q⟩, ⟨tok1, c1, hS1⟩, ks⟩ := hp
      have e := ks _ hS
      rw [hS1] at e
      obtain rfl := seq_inj (Option.some.inj e)
      exact wpAny_pure (hR i σ' H' _ tok (slept I ⟨rfl, allBare_setGen I.bare rfl, hk⟩) q)
  | succ n ih =>
    intro s t tok c st hst hgs hg hl hS ⟨gs, e1, hgo⟩
    refine codeAny_builtin F.entry_sum_loop ?_
    rw [Around.under_plainId F.plain_sum_loop _]
    show wpAny _ A.in1 (seqItems? (.ref S) >>= _) _ _ s
    refine wpAny_bind (wpAny_seqItems hS rfl ?_)
    show wpAny _ A.in1 (tryCatch (pyNext (.ref a)) _ >>= _) _ _ s
    refine wpAny_bind (wpAny_tryCatch (wpAny_gsz (n := g + 1) hgs (wpAny_pyNext_genexpQ (P := fun _ s₀ s1 => ∃ i, (∃ σ' H', Inv Y gp σ' H' s1 ∧ Dn i H') ∧ AtS S (tot i) s1 ∧ KeptS S s₀ s1) hh hl hd hg e1 hgo (fun v s1 gs' hb hv hz => ?_) (fun s1 hp h' hk hz => ?_))))
    · obtain ⟨i, m, y, σ', H', hm, ry, I, nS', ⟨rfl, m', hm', hw⟩, ⟨tok1, c1, hS1⟩, ks, kap⟩ := hv
      obtain ⟨tk, rfl⟩ := ry
      have e := ks _ hS
      rw [hS1] at e
      obtain rfl := seq_inj (Option.some.inj e)
      have hz1 : g < s1.gens.size := by
        have hz : g + 1 ≤ (s1.setGen g gs').gens.size := hz
        rw [setGen_size] at hz
        exact hz
      obtain ⟨f0, f1, f2, f3, f4, f5⟩ := hfS H' nS'
      have hS0 : (s1.setGen g gs').heap.get? S = some (seqObj "list" #[.int (tot i) tok] c) := ks _ hS
      have et : tot i + (tot (i + 1) - tot i) = tot (i + 1) := by omega
      have go : ∀ (h2 : Heap) (tk2 : Nat) (tok2 : Tok) (c2 : Nat) (st2 : Int), (st2 = 0 ∨ st2 = 2) → (∀ b o, b ≠ S → s1.heap.get? b = some o → h2.get? b = some o) → h2.get? S = some (seqObj "list" #[.int (tot i + (tot (i + 1) - tot i)) tok2] c2) →
          codeAny (model Y.prog Y.w) A (.builtin "sum.loop" ⟨[.ref a, .ref S, rawInt st2, rawInt 0], []⟩) R { s1.setGen g gs' with heap := h2, toks := tk2 } := fun h2 tk2 tok2 c2 st2 hst2 hk2 hS2 => by
        have I2 : Inv Y gp σ' H' { s1 with heap := h2, toks := tk2 } := I.turned (t' := tk2) hk2 f0 f1 f3 f4 f5
        have I3 : Inv Y gp σ' H' { s1.setGen g gs' with heap := h2, toks := tk2 } := slept I2 ⟨rfl, allBare_setGen I.bare hb, fun _ _ e => e⟩
        refine ih _ _ tok2 c2 st2 hst2 (by show g < (s1.setGen g gs').gens.size; rw [setGen_size]; exact hz1) (hgen _ _ _ I3) I3.nolimit hS2 ⟨gs', setGen_at hz1, ?_⟩
        refine kap _ m' (slept I3 ⟨rfl, allBare_setGen I3.bare rfl, fun _ _ e => e⟩) (fun b hb' o e => hk2 b o (fun z => nS (by rw [← z]; exact hb')) e) ⟨tok2, c2, ?_⟩ hm' hw
        rw [← et]
        exact hS2
      rcases hst with rfl | rfl
      · show wpAny _ A.in1 (if (_ : Bool) = true then (mkInt (tot i + (tot (i + 1) - tot i)) >>= _) else _) _ _ _
        split
        · refine wpAny_bind (wpAny_mkInt ?_)
          refine wpAny_bind ?_
          refine wpAny_updateSeq hS0 rfl (wpAny_pure ⟨plainId_quiet F.plain_sum_loop _, go _ _ _ _ 0 (.inl rfl) (fun b o hb' e => (Heap.get?_update_other _ _ (fun h : S = b => hb' h.symm)).trans e) (Heap.get?_update_self _ hS0 rfl)⟩)
        · refine wpAny_bind (wpAny_rule ?_)
          refine wpAny_bind (wpAny_attempt (wpAny_holding (wpAny_add_int ?_)))
          refine wpAny_bind (wpAny_updateSeq hS0 rfl ?_)
          have hS₂ := Heap.get?_update_self (Obj.mapSeq fun _ => #[Value.int (tot i + (tot (i + 1) - tot i)) s1.toks]) hS0 rfl
          refine wpAny_bind (wpAny_letGo ?_)
          refine wpAny_bind (wpAny_updateSeq hS₂ rfl (wpAny_pure ⟨plainId_quiet F.plain_sum_loop _, go _ _ _ _ 2 (.inr rfl) (fun b o hb' e => (Heap.get?_update_other _ _ (fun h : S = b => hb' h.symm)).trans ((Heap.get?_update_other _ _ (fun h : S = b => hb' h.symm)).trans e)) (Heap.get?_update_self _ hS₂ rfl)⟩))
      · show wpAny _ A.in1 ((holding [Value.int (tot (i + 1) - tot i) tk] (binaryOp .Add (.int (tot i) tok) (.int (tot (i + 1) - tot i) tk))).attempt >>= _) _ _ _
        refine wpAny_bind (wpAny_attempt (wpAny_holding (wpAny_add_int ?_)))
        refine wpAny_bind (wpAny_updateSeq hS0 rfl ?_)
        have hS₂ := Heap.get?_update_self (Obj.mapSeq fun _ => #[Value.int (tot i + (tot (i + 1) - tot i)) s1.toks]) hS0 rfl
        refine wpAny_bind (wpAny_letGo ?_)
        refine wpAny_bind (wpAny_updateSeq hS₂ rfl (wpAny_pure ⟨plainId_quiet F.plain_sum_loop _, go _ _ _ _ 2 (.inr rfl) (fun b o hb' e => (Heap.get?_update_other _ _ (fun h : S = b => hb' h.symm)).trans ((Heap.get?_update_other _ _ (fun h : S = b => hb' h.symm)).trans e)) (Heap.get?_update_self _ hS₂ rfl)⟩))
    · obtain ⟨i, ⟨σ', H', I, q⟩, ⟨tok1, c1, hS1⟩, ks⟩ := hp
      have e := ks _ hS
      rw [hS1] at e
      obtain rfl := seq_inj (Option.some.inj e)
      exact wpAny_pure (hR i σ' H' _ tok (slept I ⟨rfl, allBare_setGen I.bare rfl, hk⟩) q)
end
/-! the expression -/
def tGs (P : Addr) (wi : TI) (gt : TG) (te : TE) (vs : List Nat) : TE := fun σ H Q => wi σ H fun J H1 => TabG H1 P ∧ ∀ H2, Tabbed P H1 H2 → ∃ (tot : Nat → Int) (W : Nat → Nat → Hp → Prop), tot 0 = 0 ∧ (∃ m, W 0 m H2) ∧ ∀ i m H, W i m H →
  (J.stop i H ∧ Wish Q (.int (tot i)) H) ∨ (J.go i H ∧ ∃ Nx : Hp → Prop, (∀ H', Nx H' → ∃ m', m' < m ∧ W (i + 1) m' H') ∧ ∀ x H', J.yld i H x H' → gt x (wipe σ vs) H' fun σ2 H3 => wipe σ2 vs = wipe σ vs ∧ te σ2 H3 fun y H4 => y = .int (tot (i + 1) - tot i) ∧ Nx H4)
theorem gs_it {J : It} {n : Nat} {G : Hp → Prop} {Yw : Nat → Hp → V → Hp → Prop} (w : Walk J n G Yw) {gt : TG} {te : TE} {vs : List Nat} {σ : L2.St} {Q : VK} {H2 : Hp} (tot : Nat → Int) (t0 : tot 0 = 0) (Pv : Nat → Hp → Prop) (h0 : Pv 0 H2) (hG : ∀ i H, i ≤ n → Pv i H → G H)
    (hs : ∀ i x H H', i < n → Pv i H → Yw i H x H' → gt x (wipe σ vs) H' fun σ2 H3 => wipe σ2 vs = wipe σ vs ∧ te σ2 H3 fun y H4 => y = .int (tot (i + 1) - tot i) ∧ Pv (i + 1) H4) (hd : ∀ H, Pv n H → Wish Q (.int (tot n)) H) :
    ∃ (tot : Nat → Int) (W : Nat → Nat → Hp → Prop), tot 0 = 0 ∧ (∃ m, W 0 m H2) ∧ ∀ i m H, W i m H → (J.stop i H ∧ Wish Q (.int (tot i)) H) ∨ (J.go i H ∧ ∃ Nx : Hp → Prop, (∀ H', Nx H' → ∃ m', m' < m ∧ W (i + 1) m' H') ∧ ∀ x H', J.yld i H x H' → gt x (wipe σ vs) H' fun σ2 H3 => wipe σ2 vs = wipe σ vs ∧ te σ2 H3 fun y H4 => y = .int (tot (i + 1) - tot i) ∧ Nx H4) := by
  refine ⟨tot, fun i m H => m = n - i ∧ i ≤ n ∧ Pv i H, t0, ⟨n, by simp, Nat.zero_le _, h0⟩, ?_⟩
  rintro i m H ⟨rfl, hi, p⟩
  have q := hG i H hi p
  by_cases hlt : i < n
  · exact .inr ⟨w.goes i H hlt q, Pv (i + 1), fun H' p' => ⟨n - (i + 1), by omega, rfl, hlt, p'⟩, fun x H' y => hs i x H H' hlt p (w.yields i H x H' hlt q y)⟩
  · obtain rfl : i = n := by omega
    exact .inl ⟨w.stops H q, hd H p⟩
section
variable {X : Cx}
theorem call_sumG {J : It} {tg : Expr} {gt : TG} {te : TE} {vs : List Nat} {H2 : Hp} {a : Addr} {g : Nat} {Y : Cx} {gp pins : List (Addr × Obj)} {fp : List Addr} {σ : L2.St} {s5 : Shared} {Q : VK} {k : Nat} (hr : Room k X.A) (M : MadeS X pins σ tg J gt te vs H2 a g Y gp fp s5)
    (h : ∃ (tot : Nat → Int) (W : Nat → Nat → Hp → Prop), tot 0 = 0 ∧ (∃ m, W 0 m H2) ∧ ∀ i m H, W i m H → (J.stop i H ∧ Q (.int (tot i)) H) ∨ (J.go i H ∧ ∃ Nx : Hp → Prop, (∀ H', Nx H' → ∃ m', m' < m ∧ W (i + 1) m' H') ∧ ∀ x H', J.yld i H x H' → gt x (wipe σ vs) H' fun σ2 H3 => wipe σ2 vs = wipe σ vs ∧ te σ2 H3 fun y H4 => y = .int (tot (i + 1) - tot i) ∧ Nx H4)) :
    wpAny (model X.prog X.w) X.A (call (.builtin "sum") [.ref a]) (EP X pins σ Q) X.xe s5 := by
  obtain ⟨tot, W, t0, ⟨m, hW⟩, turn⟩ := h
  refine call_function_tree F.kind_sum F.plain_sum F.entry_sum (F.args_sum1 _) ?_
  unfold Builtin.«sum»
  simp only [List.length_cons, List.length_nil]
  rw [if_neg (by decide)]
  refine wpAny_bind (wpAny_of_eq (show Builtin.Builtins.bindParams "sum" ["start"] 0 { } = pure [none] from rfl) ?_)
  refine wpAny_bind (wpAny_pyIter_gen (M.isGen _ _ _ M.inv) ?_)
  refine wpAny_bind (wpAny_mkInt ?_)
  refine wpAny_bind (wpAny_pure ?_)
  simp only [List.forIn_cons, List.forIn_nil]
  refine wpAny_bind (wpAny_bind (wpAny_bind (wpAny_isInstance (T := "int") (b := false) (typeIs_int _ _ _) PySem.sub_int_str ?_)))
  simp only [Bool.false_eq_true, if_false]
  refine wpAny_pure (wpAny_bind (wpAny_bind (wpAny_isInstance (T := "int") (b := false) (typeIs_int _ _ _) PySem.sub_int_bytes ?_)))
  simp only [Bool.false_eq_true, if_false]
  refine wpAny_pure (wpAny_bind (wpAny_bind (wpAny_isInstance (T := "int") (b := false) (typeIs_int _ _ _) PySem.sub_int_bytearray ?_)))
  simp only [Bool.false_eq_true, if_false]
  refine wpAny_pure (wpAny_pure ?_)
  refine wpAny_bind (wpAny_newObj_type ?_)
  refine wpAny_pure ⟨plainId_quiet F.plain_sum_loop _, ?_⟩
  have hfS : ∀ H' : Hp, H' s5.heap.objs.size = none → FpOk Y gp H' s5.heap.objs.size := fun H' hn => M.inv.fpOk (Nat.le_refl _) hn
  have nS : s5.heap.objs.size ∉ fp := fun hm => Nat.lt_irrefl _ (M.fps _ hm).2
  have turn' : ∀ i m H, W i m H → (J.stop i H ∧ Q (.int (tot i)) H) ∨ (J.go i H ∧ ∃ Px : V → Hp → Prop, (∀ y H4, Px y H4 → PsS tot W i m y H4) ∧ ∀ x H', J.yld i H x H' → gt x (wipe σ vs) H' fun σ2 H3 => wipe σ2 vs = wipe σ vs ∧ te σ2 H3 Px) := fun i m H hW => by
    rcases turn i m H hW with a | ⟨go, Nx, hN, hy⟩
    · exact .inl a
    · exact .inr ⟨go, _, fun y H4 ⟨e, hn⟩ => ⟨e, hN _ hn⟩, hy⟩
  generalize hs6 : ({ s5 with heap := s5.heap.push { cls := .type "list", data := .seq [Value.int 0 s5.toks].toArray 0 }, toks := s5.toks + 1 } : Shared) = s6
  have I6 : Inv Y gp (wipe σ vs) H2 s6 := by
    rw [← hs6]
    exact slept M.inv ⟨rfl, M.inv.bare, fun b o e => Heap.get?_push_of_some _ e⟩
  have hS6 : s6.heap.get? s5.heap.objs.size = some (seqObj "list" #[.int 0 s5.toks] 0) := by
    rw [← hs6]
    exact Heap.get?_push_size _ rfl
  have q := sum_loop (Y := Y) (gp := gp) (A := X.A) (a := a) (g := g) (fp := fp) (S := s5.heap.objs.size) (tot := tot) (Wn := W) (Dn := fun i H => Q (.int (tot i)) H) (R := fun r s' => match r with | .ok (.ret v) => EP X pins σ Q v s' | .ok _ => False | .error e => X.xe e s') hr.hd (by have := hr.dp; omega) M.isGen hfS nS
    (fun i σ' H' s' tok I q => ⟨.int (tot i), H', M.back _ _ _ I, ⟨_, rfl⟩, q⟩) (m + 1) s6 0 s5.toks 0 0 (.inl rfl) (by rw [← hs6]; exact M.size) (M.isGen _ _ _ I6) I6.nolimit hS6
    (M.goes s5.heap.objs.size tot W (PsS tot W) (fun i H => Q (.int (tot i)) H) s6 hfS nS turn' I6 (M.inv.hok.fresh (Nat.le_refl _)) ⟨_, _, by rw [t0]; exact hS6⟩ (by rw [← hs6]) (fun b _ o e => by rw [← hs6]; exact Heap.get?_push_of_some _ e) (m + 1) m (Nat.lt_succ_self _) hW)
  rw [M.prog, M.w] at q
  exact q
theorem pe_sum {k : Nat} {c P : Addr} {elt tg iter : Expr} {scope : Scope} {gpos p pos : Pos} {own : List (Str × Nat)} {wi : TI} {gt : TG} {te : TE}
    (hr : Room (k + 1) X.A) (hgl : Gl X "sum") (hm : X.mg "sum" = none) (TB : TabB X.base X.mg c P) (hcode : X.env.code = .ref c) (hN : X.N.Nodup) (hi : PI X tg iter wi) (ok : BlkOk X.N X.env.scope scope own)
    (hg : ∀ (A' : Around) (s : Shared) (H : Hp) (C : Addr) (cl : List (Str × Addr)) (code : Value) (fp : List Addr), Room k A' → PG (gcx X A' s H (genEnv scope cl C code builtinsNs X.env) fp) tg gt)
    (he : ∀ (A' : Around) (s : Shared) (H : Hp) (C : Addr) (cl : List (Str × Addr)) (code : Value) (fp : List Addr), Room k A' → PE (gcx X A' s H (genEnv scope cl C code builtinsNs X.env) fp) elt te)
    (hco : scope.isCoroutine = false := by rfl) (hcell : ∀ y ∈ scope.names, y.2 ≠ .cell := by decide +kernel) (hdot : scope.names.lookup (".0" : Str) = some NameKind.local := by rfl) (hs : ∀ v, genFold iter X.env v = pure v := by intro _; rfl)
    (hst : starEach [.GeneratorExp elt [⟨tg, iter, [], 0⟩] scope gpos] X.env = (false, eval (.GeneratorExp elt [⟨tg, iter, [], 0⟩] scope gpos) X.env) :: starEach [] X.env := by rfl) :
    PE X (.Call (.Name "sum" p) [.GeneratorExp elt [⟨tg, iter, [], 0⟩] scope gpos] [] pos) (tGs P wi gt te (own.map (·.2))) := by
  refine ⟨fun pins s σ H Q I h => ?_⟩
  refine wpAny_Call_Name_kw (ld_blt I hgl hm (show bootBuiltins "sum" = some (.builtin "sum") by decide +kernel) ?_)
  refine PyProof.Rows.callWith_builtin1 ?_ hst (by rfl)
  rw [hst]
  show wpAny _ _ (spliced ((false, eval (.GeneratorExp elt [⟨tg, iter, [], 0⟩] scope gpos) X.env) :: backTo pos (starEach [] X.env))) _ _ s
  refine Calls.spliced_cons (gen_makeS hr TB hcode ok hco hcell hdot hN hi hg he hs I h fun J H2 a g Y gp fp s5 hR M => ?_)
  exact Calls.spliced_nil (call_sumG hr M hR)
end
end Gx
/-! ### defs with a table of their own; the end with the tables of such defs -/
namespace Gx
open PySem PySem.Spec PyProof.Rows L2 GxR
section
variable {P : Program} {w : World} {K : PySem.W.Frag} {mg : Str → Option Value} {base : Heap}
theorem okC {x qual : Str} {st : Stmt} {f c : Addr} {fd : FuncData} {N ps : List Str} {k : Nat} {sp : Sp} (F : Fun K x qual st f fd) (hc : fd.code = .ref c) (S : FnScope N ps (defScope st)) (len : ∀ vs H Q E, sp vs H Q E → vs.length = ps.length)
    (body : ∀ (A : Around) (outer : List Env) (s : Shared) (H : Hp) (vs : List V) (Q : VK) (E : XK), Room k (A.deeper (envOfC qual (defScope st) s.heap.objs.size f (.ref c))) → sp vs H Q E →
      ∃ t, PSs (cxOf CX0 P w K mg base N qual (defScope st) f (.ref c) A outer s H E).nox (defBody st) t ∧ t { nx := fun _ H' => Q .non H', rt := Q } (start N vs) H) : FnOk P w K mg base CX0 (k + 1) f fd ps sp := by
  obtain ⟨oc, od, kV, doc, pm, an, cv, ct, osl, rfl, lk, hcd⟩ := F.ex
  obtain rfl : cv = .ref c := hc
  refine fn_of lk hcd S len fun A outer s H vs Q E hr hsp => ?_
  obtain ⟨t, h, q⟩ := body A outer s H vs Q E hr hsp
  exact ⟨t, h.nox, q⟩
theorem okCX {x qual : Str} {st : Stmt} {f c : Addr} {fd : FuncData} {N ps : List Str} {k : Nat} {sp : Sp} (F : Fun K x qual st f fd) (hc : fd.code = .ref c) (S : FnScope N ps (defScope st)) (len : ∀ vs H Q E, sp vs H Q E → vs.length = ps.length)
    (body : ∀ (A : Around) (outer : List Env) (s : Shared) (H : Hp) (vs : List V) (Q : VK) (E : XK), Room k (A.deeper (envOfC qual (defScope st) s.heap.objs.size f (.ref c))) → sp vs H Q E →
      ∃ t, PSs (cxOf (L2.CX P w) P w K mg base N qual (defScope st) f (.ref c) A outer s H E) (defBody st) t ∧ t { nx := fun _ H' => Q .non H', rt := Q } (start N vs) H) : FnOk P w K mg base (L2.CX P w) (k + 1) f fd ps sp := by
  obtain ⟨oc, od, kV, doc, pm, an, cv, ct, osl, rfl, lk, hcd⟩ := F.ex
  obtain rfl : cv = .ref c := hc
  exact fn_of lk hcd S len fun A outer s H vs Q E hr hsp => body A outer s H vs Q E hr hsp
end
/-! what the top's heap tells of the tables of its defs -/
def TopTab (q : Program) (K : PySem.W.Frag) (h : Heap) : Prop := ∀ (y : Str) (dd : DefRec) (c P : Addr), (recsOf q).find? (fun e => e.name == y) = some dd → PySem.W.tabIn K y = some (c, P) → PySem.W.CodeHd h c P ∧ h.get? P = some (PySem.W.tabObj #[])
theorem walk_tab {l : PySem.W.OpenLaw} {n k : Nat} {q : Program} {loose : List Str} {XP : (Str → Option Value) → Heap → Prop} {YP : World → Heap → Prop} {d : DefRec} {K : Params → PySem.W.Frag} {CX : World → CXT} {x : Str}
    (hn : l.most = some n) (hn2 : n ≤ sizeLine) (hdf : d.params.defaults = []) (hr : Room k callerA) (hY : ∀ (w : World) (h : Heap), YP w h → (K w.params).In h)
    (F : ∀ (w : World) (mg : Str → Option Value) (fa : Addr) (h : Heap), YP w h → (K w.params).In h → h.Ns mainGlobals mg → mg d.name = some (.ref fa) → TopTab q (K w.params) h → LamX.LawAtS l w (K w.params) (CX w) k n x mg fa h)
    (hCX : ∀ (w : World) (H : Hp) (s : Shared) (e : Value) (s' : Shared), CX w [] H s (fun _ _ _ => False) e s' → False) :
    PySem.W.WalkO q loose XP YP l.row.toRowW d [] (fun f vs => PySem.call f vs) := by
  refine Att.attach_callB hn hdf fun w s₀ s₁ mg mb fa o pm cd doc a vs ns G Y ho hd hcd hmg hobj hints hlen hbits hg => ?_
  have KX := hY w _ Y
  obtain ⟨fd, cs, sp, hT, nT, C, hb, hsp, hF⟩ := F w mg fa _ Y KX G.T.g hmg (fun y dd c P e1 e2 => PySem.W.tab_of G.T KX e1 e2)
  exact LamX.law_callTs KX G.T.g G.T.b G.T.builtins G.T.nolimit hg hT nT C G.T.bmain hobj hints (Nat.le_trans hlen hn2) hr hF hb (fun H hH hS => hsp H a ns hlen hbits hH hS) fun H e s' => hCX w H s₁ e s'
end Gx
/-! ### sorted of tuples of texts and whole numbers, the first a text; any two alike, or of unlike first texts -/
namespace Fl
open PySem PySem.W PyProof.Rows
inductive FV : PyData → Value → Prop
  | int (i : Int) (t : Tok) : FV (.int i) (.int i t)
  | str (x : Str) (t : Tok) : FV (.str x) (.str x t)
inductive FVs : List PyData → List Value → Prop
  | nil : FVs [] []
  | cons {d : PyData} {u : Value} {ds : List PyData} {us : List Value} : FV d u → FVs ds us → FVs (d :: ds) (u :: us)
theorem FVs.len : ∀ {ds : List PyData} {us : List Value}, FVs ds us → ds.length = us.length
  | _, _, .nil => rfl
  | _, _, .cons _ r => by rw [List.length_cons, List.length_cons, r.len]
section
variable {prog : Program} {w : World} {A : Around} {E : Value → Shared → Prop} {s : Shared}
theorem flat_lex {b fin : Bool} {Q : Bool → Shared → Prop} : ∀ (xs ys : List PyData) (i : Nat) (us ws : List Value), FVs xs us → FVs ys ws → alikeAll xs ys = true → fin = decide (xs.length < ys.length) →
    Q (lexLt itemOrd (keyToksAll xs) (keyToksAll ys)) s → KatLex prog w A b fin Q (us.zip ws) i s
  | [], [], i, _, _, .nil, .nil, _, hf, hq => by
    have e : fin = false := by rw [hf]; rfl
    subst e
    rw [lex_irrefl] at hq
    exact kat_nil hq
  | [], y :: ys, i, _, _, .nil, _, _, hf, hq => by
    have e : fin = true := by rw [hf]; exact decide_eq_true (Nat.succ_pos _)
    subst e
    rw [toks_all_cons] at hq
    simp only [keyToksAll] at hq
    rw [lex_diff (O := itemOrd) (by simp)] at hq
    rw [List.zip_nil_left]
    exact kat_nil (by simpa [itemLt] using hq)
  | x :: xs, [], i, _, _, _, .nil, _, hf, hq => by
    have e : fin = false := by rw [hf]; exact decide_eq_false (Nat.not_lt_zero _)
    subst e
    rw [toks_all_cons] at hq
    simp only [keyToksAll] at hq
    rw [lex_diff (O := itemOrd) (by simp)] at hq
    rw [List.zip_nil_right]
    exact kat_nil (by simpa [itemLt] using hq)
  | x :: xs, y :: ys, i, _, _, .cons f fs, .cons g gs, h, hf, hq => by
    obtain ⟨h1, h2⟩ := alike_all_cons h
    have hf' : fin = decide (xs.length < ys.length) := by
      rw [hf]
      simp only [List.length_cons, Nat.add_lt_add_iff_right]
    rw [List.zip_cons_cons]
    cases f with
    | int a t =>
      cases g with
      | int c u =>
        refine kat_cons (SeqAt.EqAt.int_int a t c u prog w _ _ ?_)
        cases hx : PyData.eqv (.int a) (.int c) with
        | true =>
          rw [dataLt_all_yes h1 hx] at hq
          have e1 : (a == c) = true := by simpa [PyData.eqv] using hx
          rw [e1]
          exact kat_yes (flat_lex xs ys (i + 1) _ _ fs gs h2 hf' hq)
        | false =>
          rw [dataLt_all_no h1 hx, dataLt_int] at hq
          have e1 : (a == c) = false := by simpa [PyData.eqv] using hx
          rw [e1]
          exact kat_no (oneLt_any_int hq)
      | str c u => exact absurd h1 (by simp [alike])
    | str a t =>
      cases g with
      | int c u => exact absurd h1 (by simp [alike])
      | str c u =>
        refine kat_cons (SeqAt.EqAt.str_str a t c u prog w _ _ ?_)
        cases hx : PyData.eqv (.str a) (.str c) with
        | true =>
          rw [dataLt_all_yes h1 hx] at hq
          have e1 : (a == c) = true := by simpa [PyData.eqv] using hx
          rw [e1]
          exact kat_yes (flat_lex xs ys (i + 1) _ _ fs gs h2 hf' hq)
        | false =>
          rw [dataLt_all_no h1 hx, dataLt_str] at hq
          have e1 : (a == c) = false := by simpa [PyData.eqv] using hx
          rw [e1]
          exact kat_no (oneLt_any_str hq)
def ltD (x y : List PyData) : Bool := lexLt itemOrd (keyToksAll x) (keyToksAll y)
theorem swo_ltD {A : Type} (k : A → List PyData) : SrtO.Swo fun v u => ltD (k v) (k u) := by
  refine ⟨fun x y h => ?_, fun x y z h1 h2 => ?_⟩
  · cases e : ltD (k y) (k x) with
    | false => rfl
    | true =>
      have := lex_trans _ _ _ h e
      rw [lex_irrefl] at this
      cases this
  · cases e : ltD (k z) (k x) with
    | false => rfl
    | true =>
      rcases lex_negTrans _ (keyToksAll (k y)) _ e with q | q
      · exact absurd (h2.symm.trans q) (by decide)
      · exact absurd (h1.symm.trans q) (by decide)
/-! what two such tuples must be to one another -/
def Can (x y : List PyData) : Prop := ∃ a r c t, x = .str a :: r ∧ y = .str c :: t ∧ (a = c → alikeAll r t = true)
def IsFl (h : Heap) (v : Value) (ds : List PyData) : Prop := ∃ a o its n, v = .ref a ∧ h.get? a = some o ∧ o.cls = .type "tuple" ∧ o.data = .seq its n ∧ FVs ds its.toList
theorem IsFl.keeps {h h' : Heap} {v : Value} {ds : List PyData} (p : IsFl h v ds) (k : ∀ b o, h.get? b = some o → o.cls = .type "tuple" → h'.get? b = some o) : IsFl h' v ds := by
  obtain ⟨a, o, its, n, e, ho, hc, r⟩ := p
  exact ⟨a, o, its, n, e, k a o ho hc, hc, r⟩
theorem flat_cmp {vs : List Value} {k : Value → List PyData} (hp : ∀ v ∈ vs, IsFl s.heap v (k v)) (hc : ∀ v ∈ vs, ∀ u ∈ vs, Can (k v) (k u)) : SrtO.Cmp prog w A s (tuples' true) (fun p => p.1 ∈ vs) (SrtO.lt2 fun v u => ltD (k v) (k u)) := by
  intro p q hm hm'
  obtain ⟨a, o, its, n, e, ho, _, hd, f⟩ := hp _ hm
  obtain ⟨a', o', its', n', e', ho', _, hd', f'⟩ := hp _ hm'
  show wpAny (model prog w) A (keyLt' (tuples' true) p.1 q.1) (fun r s' => s' = s ∧ r = ltD (k p.1) (k q.1)) (fun _ _ => False) s
  obtain ⟨x, r, y, t, e1, e2, hal⟩ := hc _ hm _ hm'
  generalize k p.1 = kp at *
  generalize k q.1 = kq at *
  rw [e, e']
  refine kat_lt ho hd ho' hd' ?_
  have z1 : its.size = kp.length := by rw [← Array.length_toList]; exact f.len.symm
  have z2 : its'.size = kq.length := by rw [← Array.length_toList]; exact f'.len.symm
  rw [z1, z2]
  subst e1
  subst e2
  generalize its.toList = us at *
  generalize its'.toList = ws at *
  by_cases hxy : x = y
  · subst hxy
    refine flat_lex _ _ 0 us ws f f' ?_ rfl ⟨rfl, rfl⟩
    show (alike (.str x) (.str x) && alikeAll r t) = true
    rw [hal rfl]
    rfl
  · cases f with
    | cons f1 fs =>
      cases f' with
      | cons g1 gs =>
        cases f1 with
        | str _ tx =>
          cases g1 with
          | str _ ty =>
            rw [List.zip_cons_cons]
            refine kat_cons (SeqAt.EqAt.str_str x tx y ty prog w _ _ ?_)
            have e3 : (x == y) = false := by simpa using hxy
            rw [e3]
            refine kat_no (oneLt_any_str ⟨rfl, ?_⟩)
            have e4 : PyData.eqv (.str x) (.str y) = false := by simpa [PyData.eqv] using hxy
            unfold ltD
            rw [dataLt_all_no (by rfl) e4, dataLt_str]
theorem firsts_fl {h : Heap} {k : Value → List PyData} : ∀ {vs : List Value}, (∀ v ∈ vs, IsFl h v (k v) ∧ ∃ a r, k v = .str a :: r) → ∃ fs : List Value, KatTups h vs fs ∧ fs.length = vs.length ∧ ∀ f ∈ fs, ∃ x t, f = Value.str x t
  | [], _ => ⟨[], KatTups.nil, rfl, fun _ hm => by simp at hm⟩
  | v :: vs, hp => by
    obtain ⟨fs, h1, h2, h3⟩ := firsts_fl (vs := vs) fun v' hm => hp v' (List.mem_cons_of_mem _ hm)
    obtain ⟨⟨a, o, its, n, e, ho, hc, hd, f⟩, x, r, ek⟩ := hp v (List.mem_cons_self ..)
    subst e
    rw [ek] at f
    cases ei : its.toList with
    | nil =>
      rw [ei] at f
      cases f
    | cons u us =>
      rw [ei] at f
      cases f with
      | cons g _ =>
        cases g with
        | str _ t =>
          refine ⟨.str x t :: fs, KatTups.cons ho hc hd ?_ h1, by rw [List.length_cons, List.length_cons, h2], fun f hm => ?_⟩
          · rw [← Array.getElem?_toList, ei]
            rfl
          · rcases List.mem_cons.mp hm with rfl | hm
            · exact ⟨x, t, rfl⟩
            · exact h3 f hm
theorem sorted_fl {l : Addr} {vs : List Value} {k : Value → List PyData} {Q : Value → Shared → Prop} (hl : s.heap.IsList l vs.toArray) (hz : vs.length ≤ sizeLine) (hp : ∀ v ∈ vs, IsFl s.heap v (k v)) (hc : ∀ v ∈ vs, ∀ u ∈ vs, Can (k v) (k u))
    (h : ∀ (h' : Heap) (d : Addr) (out : List Value), SrtO.Srtd (fun v u => ltD (k v) (k u)) out → SrtO.Stb (fun v u => ltD (k v) (k u)) out vs → (∀ b o, s.heap.get? b = some o → h'.get? b = some o) → s.heap.objs.size ≤ d → (∃ n, h'.get? d = some (seqObj "list" out.toArray n)) → Q (.ref d) { s with heap := h' }) :
    wpAny (model prog w) A (call (.builtin "sorted") [.ref l]) Q E s := by
  refine SrtO.sorted_ord (swo_ltD k) hl hz (fun h2 h1 a ha kk => ?_) fun out hs hb => ?_
  · intro h' keep
    have hne : ∀ o, h1.get? a = some o → o.cls ≠ .type "tuple" := fun o e => by
      have e' : some o = some (seqObj "list" vs.toArray 0) := e.symm.trans ha
      cases e'
      intro c
      exact absurd (Value.type.inj c) (by decide)
    have hp' : ∀ v ∈ vs, IsFl h' v (k v) := fun v hm => (hp v hm).keeps fun b o e c => keep b o (fun z => by subst z; exact hne o (kk b o e).2 c) (kk b o e).2
    obtain ⟨fs, f1, f2, f3⟩ := firsts_fl (vs := vs) (k := k) fun v hm => ⟨hp' v hm, by
      obtain ⟨x, r, _, _, e, _⟩ := hc v hm v hm
      exact ⟨x, r, e⟩⟩
    refine ⟨tuples' true, fun Q E hq => ?_, flat_cmp hp' hc⟩
    refine kat_kind (T := .type "str") f1 (by omega) (fun f hm => ?_) (by rfl) ?_
    · obtain ⟨x, t, rfl⟩ := f3 f hm
      exact Looks.now
    · have e : (Value.type "str" != Value.type "tuple") = true := by first | decide +kernel | rfl | decide
      rw [e]
      exact hq
  · exact h _ _ out hs hb (fun b o e => sortedAll_old e) (Nat.le_succ _) (sortedAll_at s.heap vs out.toArray)
end
def dV : PyData → V
  | .int i => .int i
  | .str x => .str x
  | _ => .non
def flatD : PyData → Bool
  | .int _ => true
  | .str _ => true
  | _ => false
theorem fvs_of : ∀ {ds : List PyData} {us : List Value}, ds.all flatD = true → Vals (ds.map dV) us → FVs ds us
  | [], _, _, .nil => .nil
  | d :: ds, _ :: us, h, .cons r rs => by
    rw [List.all_cons, Bool.and_eq_true] at h
    refine .cons ?_ (fvs_of h.2 rs)
    cases d with
    | int i =>
      obtain ⟨t, rfl⟩ := r
      exact .int i t
    | str x =>
      obtain ⟨t, rfl⟩ := r
      exact .str x t
    | _ => exact absurd h.1 (by simp [flatD])
def rSortedFl (K : PySem.W.Frag) : List V → Hp → VK → Prop := fun vs H Q => ∃ (a : Addr) (xs : List V) (k : V → List PyData), vs = [V.ref a] ∧ SqL K H a xs ∧ (∀ x ∈ xs, ∃ t, x = V.ref t ∧ (k x).all flatD = true ∧ H t = some (.tup ((k x).map dV))) ∧ (∀ x ∈ xs, ∀ y ∈ xs, Can (k x) (k y)) ∧
  ∀ ys p, SrtO.Srtd (fun x y => ltD (k x) (k y)) ys → SrtO.Stb (fun x y => ltD (k x) (k y)) ys xs → H p = none → Q (.ref p) (upd H p (.lst ys))
theorem cr_sortedFl {X : Cx} : CallR X (.builtin "sorted") (rSortedFl X.K) := by
  intro pins s σ H vs us Q I r h
  obtain ⟨a, xs, k, rfl, hs, hx, hcan, q⟩ := h
  obtain ⟨its, rv, hl, hz⟩ := I.list hs
  obtain ⟨u, rfl, ru⟩ := vals1 r
  obtain rfl : u = Value.ref a := ru
  obtain ⟨e1, e2⟩ := refs_back rv fun x m => by
    obtain ⟨t, e, _⟩ := hx x m
    exact ⟨t, e⟩
  refine sorted_fl (k := fun u => k (backV u)) hl.isList (by rw [← rv.length]; exact hz) (fun v hv => ?_) (fun v hv u hu => ?_) fun h' d out h1 h2 kp hd hn => ?_
  · obtain ⟨t, rfl⟩ := e2 v hv
    have hm : V.ref t ∈ xs := by rw [e1]; exact List.mem_map.mpr ⟨_, hv, rfl⟩
    obtain ⟨t', e, hf, ht⟩ := hx _ hm
    cases e
    obtain ⟨_, its2, r2, o, ho, hc, n, hd⟩ := I.hok _ _ ht
    exact ⟨t, o, its2.toArray, n, rfl, ho, hc, hd, by rw [List.toList_toArray]; exact fvs_of hf r2⟩
  · exact hcan _ (by rw [e1]; exact List.mem_map.mpr ⟨_, hv, rfl⟩) _ (by rw [e1]; exact List.mem_map.mpr ⟨_, hu, rfl⟩)
  · have h3 : ∀ u ∈ out, ∃ a, u = Value.ref a := fun u hu => e2 u (h2.perm.mem_iff.mp hu)
    obtain ⟨n, hn⟩ := hn
    have hb : SrtO.Stb (fun x y => ltD (k x) (k y)) (out.map backV) xs := by
      rw [e1]
      exact SrtO.Stb.map (swo_ltD k) backV h2
    refine ⟨.ref d, upd H d (.lst (out.map backV)), I.laid (t' := s.toks) kp hd ⟨?_, out, n, vals_back h3, hn⟩, rfl, q _ d (SrtO.srtd_map h1) hb (I.hok.fresh hd)⟩
    rw [hb.len]
    exact hz
end Fl
/-! ### for a, b in zip(text, tuple) -/
namespace Zs
open PySem PySem.Spec PyProof.Rows L2
def Itzs (K : PySem.W.Frag) (x : Str) (b : Addr) : It :=
  ⟨fun i H => ∃ (ys : List V) (c : Nat) (y : V), SqT K H b ys ∧ x.cps[i]? = some c ∧ ys[i]? = some y,
    fun i H v H' => ∃ T c y, v = .ref T ∧ H T = none ∧ H' = upd H T (.tup [.str ⟨#[c]⟩, y]) ∧ x.cps[i]? = some c ∧ ∀ ys, SqT K H b ys → ys[i]? = some y,
    fun i H => ∃ ys : List V, SqT K H b ys ∧ i ≤ x.cps.size ∧ i ≤ ys.length ∧ (i = x.cps.size ∨ i = ys.length)⟩
theorem turn_zs {P : Program} {w : World} {K : PySem.W.Frag} {elts : List Expr} {kk : Nat} {tpos : Pos} {x : Str} {t : Tok} {b z TI TO i1 i2 : Addr} (D : ZipSep2 z TI TO i1 i2 [i1] [i2, b]) (hne : b ≠ i2) :
    Turn P w K (.Tuple elts kk tpos) (Itzs K x b) [z, TI, TO, i1, i2] z (fun i h => IsZip h z TI TO .none ∧ IsTupOf2 h TI (.ref i1) (.ref i2) ∧ (∃ a1 a2, IsTupOf2 h TO a1 a2) ∧ h.IsStrIter i1 (strIterType x) x t i ∧ h.IsTupleIter i2 b i) where
  mem := List.mem_cons_self ..
  obj := fun i h st c hc => by
    obtain ⟨hz, hTI, ⟨a1, a2, hTO⟩, ⟨o1, e1, _, d1⟩, ⟨o2, e2, _, d2⟩⟩ := st
    have hc' : c = z ∨ c = TI ∨ c = TO ∨ c = i1 ∨ c = i2 := by simpa using hc
    rcases hc' with rfl | rfl | rfl | rfl | rfl
    · exact ⟨_, hz, fun v q => nomatch q⟩
    · exact ⟨_, hTI, fun v q => nomatch q⟩
    · exact ⟨_, hTO, fun v q => nomatch q⟩
    · exact ⟨o1, e1, fun v q => by rw [d1] at q; cases q⟩
    · exact ⟨o2, e2, fun v q => by rw [d2] at q; cases q⟩
  keep := fun i h h' st k => by
    obtain ⟨hz, hTI, ⟨a1, a2, hTO⟩, ⟨o1, e1, r1⟩, ⟨o2, e2, r2⟩⟩ := st
    exact ⟨k z (by simp) _ hz, k TI (by simp) _ hTI, ⟨a1, a2, k TO (by simp) _ hTO⟩, ⟨o1, k i1 (by simp) _ e1, r1⟩, ⟨o2, k i2 (by simp) _ e2, r2⟩⟩
  item := by
    intro X hP hw hK hc i pins s σ H E I hf st hg
    subst hP hw hK
    obtain ⟨hz, hTI, ⟨a1, a2, hTO⟩, h1, h2⟩ := st
    obtain ⟨ys, c0, y, hq, hx, hy⟩ := hg
    obtain ⟨its, rv, p, _⟩ := I.tuple hq
    have hi1 : i < x.cps.size := (Array.getElem?_eq_some_iff.mp hx).1
    have hi2 : i < its.toArray.size := by
      have := (List.getElem?_eq_some_iff.mp hy).1
      rw [rv.length] at this
      simpa using this
    have hzl : z < s.heap.objs.size := Heap.lt_size hz
    have D1 := Draws.text (prog := X.prog) (w := X.w) (A := X.A.in1) (I.ok.hd hc) i1 x t
    have D2 := Draws.tuple (prog := X.prog) (w := X.w) (A := X.A.in1) (I.ok.hd hc) i2 b hne its.toArray
    refine wpAny_pyNext_zipD2_item (A := X.A) D D1 D2 hz hTI hTO h1 ⟨h2, p⟩ hi1 hi2 fun x1 x2 h' tk hp1 hp2 z' TO' s1' s2' hT hsz hk => ?_
    obtain ⟨c1, u1, ec, rfl⟩ := hp1
    obtain rfl : c0 = c1 := Option.some.inj (hx.symm.trans ec)
    refine ⟨_, rfl, wpAny_letOwnedTupleGo_zip (s := { s with heap := h', toks := tk }) z' fun h'' z'' sb => ?_⟩
    have hT2 : h''.get? s.heap.objs.size = some { cls := .type "tuple", data := .seq #[.str ⟨#[c0]⟩ u1, x2] } := (sb.2 _ (Nat.ne_of_gt hzl)).trans hT
    obtain ⟨u2, hu2, ru2⟩ := rv.get hy
    have ex2 : x2 = u2 := by
      have e1 : its.toArray[i]? = some u2 := by simpa using hu2
      exact Option.some.inj (hp2.symm.trans e1)
    subst ex2
    have new : ObjOk X.prog X.w (upd H s.heap.objs.size (.tup [.str ⟨#[c0]⟩, y])) h'' s.heap.objs.size (.tup [.str ⟨#[c0]⟩, y]) :=
      ⟨by show 2 ≤ sizeLine; decide, [.str ⟨#[c0]⟩ u1, x2], .cons ⟨u1, rfl⟩ (.cons ru2 .nil), ⟨_, hT2, rfl, _, rfl⟩⟩
    have J : Inv X pins σ (upd H s.heap.objs.size (.tup [.str ⟨#[c0]⟩, y])) { s with heap := h'', toks := tk } :=
      I.turnedNew (t' := tk) (ch := [z, TI, TO, i1, i2]) (fun c o hb q => (sb.2 c (fun e => hb (by simp [e]))).trans (hk c o (fun e => hb (by simp [e])) (fun e => hb (by simp [e])) (fun e => hb (by simp [e])) (fun e => hb (by simp [e])) q)) hf (Nat.le_refl _) new
    refine ⟨.ref s.heap.objs.size, _, J, rfl, ⟨_, c0, y, rfl, I.hok.fresh (Nat.le_refl _), rfl, hx, fun l hl => by rw [I.tuple_inj hl hq]; exact hy⟩, ⟨z'', ?_, ⟨_, _, (sb.2 _ D.TOz).trans TO'⟩, ?_, ?_⟩, fun c hcm => ?_⟩
    · exact (sb.2 _ D.TIz).trans (hk _ _ D.TIz D.TITO D.TIi1 D.TIi2 hTI)
    · obtain ⟨o, e, r⟩ := s1'
      exact ⟨o, (sb.2 _ (fun q => D.zi1 q.symm)).trans e, r⟩
    · obtain ⟨⟨o, e, r⟩, _⟩ := s2'
      exact ⟨o, (sb.2 _ (fun q => D.zi2 q.symm)).trans e, r⟩
    · have hlt : c < s.heap.objs.size := by
        have hc' : c = z ∨ c = TI ∨ c = TO ∨ c = i1 ∨ c = i2 := by simpa using hcm
        rcases hc' with rfl | rfl | rfl | rfl | rfl
        · exact hzl
        · exact Heap.lt_size hTI
        · exact Heap.lt_size hTO
        · obtain ⟨_, e1, _⟩ := h1; exact Heap.lt_size e1
        · obtain ⟨_, e2, _⟩ := h2; exact Heap.lt_size e2
      rw [upd_ne (Nat.ne_of_lt hlt)]
      exact (hf c hcm).1
  done := by
    intro X hP hw hK hc i pins s σ H E I hf st hg
    subst hP hw hK
    obtain ⟨hz, hTI, ⟨a1, a2, hTO⟩, h1, h2⟩ := st
    obtain ⟨ys, hq, l1, l2, he⟩ := hg
    obtain ⟨its, rv, p, _⟩ := I.tuple hq
    have hl : its.toArray.size = ys.length := by rw [rv.length]; simp
    have D1 := Draws.text (prog := X.prog) (w := X.w) (A := X.A.in1) (I.ok.hd hc) i1 x t
    have D2 := Draws.tuple (prog := X.prog) (w := X.w) (A := X.A.in1) (I.ok.hd hc) i2 b hne its.toArray
    refine wpAny_pyNext_zipD2_end (A := X.A) D D1 D2 hz hTI hTO h1 ⟨h2, p⟩ l1 (by omega) (by omega) fun h' tk hk => ⟨rfl, ?_⟩
    exact I.turnedL (t' := tk) (ch := [z, TI, TO, i1, i2]) (fun c o hb q => hk c o (fun e => hb (by simp [e])) (fun e => hb (by simp [e])) (fun e => hb (by simp [e])) (fun e => hb (by simp [e])) q) hf
  self := fun A i s Q E st h => wpAny_pyIter_zip st.1 h
def iZs (K : PySem.W.Frag) (ta : TA) : TI := fun σ H R => ta σ H fun vs H1 => ∃ x b ys, vs = [.str x, .ref b] ∧ SqT K H1 b ys ∧ R (Itzs K x b) H1
theorem pi_zs {X : Cx} {e e2 : Expr} {ta : TA} {p pos tpos : Pos} {elts : List Expr} {kk : Nat} (hg : Gl X "zip") (hm : X.mg "zip" = none) (ha : PA X [e, e2] ta)
    (hs : starEach [e, e2] X.env = (false, eval e X.env) :: starEach [e2] X.env := by rfl) (hpl : (backTo pos (starEach [e2] X.env)).any (·.1) = false := by rfl) :
    PI X (.Tuple elts kk tpos) (.Call (.Name "zip" p) [e, e2] [] pos) (iZs X.K ta) := by
  refine ⟨fun pins s σ H R I h => ?_⟩
  refine Call_ (ld_blt I hg hm PyProof.Rows.boot_zip (PyProof.Rows.callWith_type1 (thn (ha.run pos pins s σ H _ I h) fun us s1 hh => ?_) hs hpl))
  obtain ⟨vs, H1, J, r1, x, b, ys, ex, hq, q⟩ := hh
  subst ex
  cases r1 with
  | cons r rr =>
    cases rr with
    | cons r' rr =>
      cases rr
      obtain ⟨t, rfl⟩ := r
      cases r'
      obtain ⟨its, rv, p1, _⟩ := J.tuple hq
      obtain ⟨ob, hob, _⟩ := id p1
      have hb : b < s1.heap.objs.size := Heap.lt_size hob
      refine zip_begins2 (begins_text x t) (begins_tuple b its.toArray) trivial (show s1.heap.IsTuple b its.toArray from p1) fun h' hz hTI hTO h1 h2 hsz hk => wpAny_pyIter_zip hz ?_
      have J2 : Inv X pins σ H1 { s1 with heap := h' } := J.kept (t' := s1.toks) hk
      refine ⟨s1.heap.objs.size + 4, [s1.heap.objs.size + 4, s1.heap.objs.size + 2, s1.heap.objs.size + 3, s1.heap.objs.size, s1.heap.objs.size + 1], _, _, H1, rfl, J2, turn_zs (t := t) (zip_sep2 (N := s1.heap.objs.size) (fp1 := []) (fp2 := [b]) (fun _ m => nomatch m) (fun c m => by rw [List.mem_singleton.mp m]; exact hb)) (Nat.ne_of_lt (Nat.lt_succ_of_lt hb)), ⟨hz, hTI, ⟨_, _, hTO⟩, ⟨_, h1, rfl, rfl⟩, ⟨_, h2, rfl, rfl⟩⟩, fun c hcm => ?_, q⟩
      have hle : s1.heap.objs.size ≤ c := by
        have hc' : c = s1.heap.objs.size + 4 ∨ c = s1.heap.objs.size + 2 ∨ c = s1.heap.objs.size + 3 ∨ c = s1.heap.objs.size ∨ c = s1.heap.objs.size + 1 := by simpa using hcm
        rcases hc' with rfl | rfl | rfl | rfl | rfl
        · exact Nat.le_add_right _ _
        · exact Nat.le_add_right _ _
        · exact Nat.le_add_right _ _
        · exact Nat.le_refl _
        · exact Nat.le_add_right _ _
      exact J.fpOk hle (J.hok.fresh hle)
theorem walk_zs {K : PySem.W.Frag} {x : Str} {b : Addr} {ys : List V} (hl : x.cps.size = ys.length) : Walk (Itzs K x b) ys.length (fun H => SqT K H b ys) (fun i H v H' => ∃ T c y, v = .ref T ∧ H T = none ∧ H' = upd H T (.tup [.str ⟨#[c]⟩, y]) ∧ x.cps[i]? = some c ∧ ys[i]? = some y) := by
  refine ⟨fun i H hi q => ?_, fun H q => ⟨ys, q, by omega, Nat.le_refl _, .inr rfl⟩, fun i H v H' hi q y => ?_⟩
  · exact ⟨ys, x.cps[i], ys[i], q, by simp [hl, hi], by simp [hi]⟩
  · obtain ⟨T, c, z, h1, h2, h3, h4, h5⟩ := y
    exact ⟨T, c, z, h1, h2, h3, h4, h5 ys q⟩
end Zs
/-! ### several clauses, each with a name -/
namespace Xc
open PySem PySem.Spec PyProof.Rows L2
theorem exm_two {K : PySem.W.Frag} {S C : Addr} {b : Bool} (h1 : PySem.W.subIn K (.ref S) (.type "BaseException") = some true) (h2 : PySem.W.isClsIn K S = true) (h3 : PySem.W.typeIn K (.ref S) = some (.type "type")) (h4 : PySem.W.subIn K (.ref C) (.ref S) = some b) : PySem.W.exmOne K (.ref C) (.ref S) = some b := by
  have a1 : (PySem.W.subIn K (.ref S) (.type "BaseException") == some true) = true := by rw [h1] <;> rfl
  have a2 : ((PySem.W.clsIn K S).isSome && PySem.W.typeIn K (.ref S) == some (.type "type")) = true := by
    have h2' : (PySem.W.clsIn K S).isSome = true := h2
    rw [h2', h3] <;> rfl
  show (if (PySem.W.subIn K (.ref S) (.type "BaseException") == some true) = true then (if ((PySem.W.clsIn K S).isSome && PySem.W.typeIn K (.ref S) == some (.type "type")) = true then PySem.W.subIn K (.ref C) (.ref S) else none) else none) = some b
  rw [if_pos a1, if_pos a2, h4]
/-! behind a suite its name is gone -/
def gone (D : Ends) (i : Nat) : Ends := { nx := fun σ' H' => D.nx (σ'.set i none) H', rt := D.rt, bk := fun σ' H' => D.bk (σ'.set i none) H', ct := fun σ' H' => D.ct (σ'.set i none) H' }
def wEach (K : PySem.W.Frag) (Wout : WX) (D : Ends) (i : Nat) : List (Value × (Addr → Value → Option Addr → TS)) → WX
  | [] => Wout
  | (c, ts) :: r => fun cls d σ H => ∃ b, PySem.W.exmOne K cls c = some b ∧ (b = true → ∀ a, H a = none → ts a cls d (gone D i) (σ.set i (some (.ref a))) H) ∧ (b = false → wEach K Wout D i r cls d σ H)
inductive EachOk (X : Cx) (n : Str) : List ExceptHandler → List (Value × (Addr → Value → Option Addr → TS)) → Prop
  | nil : EachOk X n [] []
  | cons {x : Str} {c : Value} {ts : Addr → Value → Option Addr → TS} {b0 : Stmt} {suite : List Stmt} {np p2 : Pos} {hds : List ExceptHandler} {l : List (Value × (Addr → Value → Option Addr → TS))} (hc : Names X x c)
      (hsu : ∀ (a : Addr) (oe : Obj) (cls : Value) (d : Option Addr) (pn : List (Addr × Obj)), Zc cls d oe → (∃ vs, oe.data = .fields vs) → PSs (X.suite a ((a, oe) :: pn)) (b0 :: suite) (ts a cls d)) (r : EachOk X n hds l) :
      EachOk X n (.ExceptHandler (some (.Name x np)) (some n) (b0 :: suite) p2 :: hds) ((c, ts) :: l)
theorem ps_try_each {X : Cx} {n : Str} {i : Nat} {body : List Stmt} {h0 : ExceptHandler} {hds : List ExceptHandler} {l : List (Value × (Addr → Value → Option Addr → TS))} {pos : Pos} {tb : WX → TS} {Wout : WX}
    (hs : X.stack = X.env :: X.outer) (hf : X.env.frame = some X.env.locals) (hN : X.N.Nodup) (hi : X.N[i]? = some n) (hln : X.env.kindOf n = some .local) (tk : Takes X Wout)
    (hb : ∀ (W : WX) (pn : List (Addr × Obj)) (xe : Value → Shared → Prop), Takes (X.tr pn xe) W → PassesOwn (model X.prog X.w) X.A X.env xe → PSs (X.tr pn xe) body (tb W))
    (hh : EachOk X n (h0 :: hds) l) : PS X (.Try body (h0 :: hds) [] [] pos) (fun D σ H => tb (wEach X.K Wout D i l) D σ H) := by
  refine ⟨fun pins s σ H D I h => wpAny_Try_except (wpAny_mono ((hb _ (X.pn ++ pins) _ (fun u s1 xx => ?caught) PassesOwn.looking).run [] s σ H D (I.toTry _) h) (fun f s1 q => ?fine) (fun e s1 he => he))⟩
  case fine =>
    have ok := I.ok
    match f, q with
    | .next, ⟨σ1, H1, J, q1⟩ => exact wpAny_execs_nil ⟨σ1, H1, J.ofTry ok, q1⟩
    | .brk, ⟨σ1, H1, J, q1⟩ => exact ⟨σ1, H1, J.ofTry ok, q1⟩
    | .cont, ⟨σ1, H1, J, q1⟩ => exact ⟨σ1, H1, J.ofTry ok, q1⟩
    | .ret u, ⟨v, σ1, H1, J, rv, q1⟩ => exact ⟨v, σ1, H1, J.ofTry ok, rv, q1⟩
  case caught =>
    have ok := I.ok
    have frm : X.A.frames = some (X.env :: X.outer) := ok.frames.trans (congrArg some hs)
    obtain ⟨a, B, sI, ps1, σ1, H1, cls, d, rfl, J0, nb, up, sky, na, os, ag, w⟩ := xx
    have J : Inv X pins σ1 H1 sI := J0.ofTry ok
    rw [show (X.tr (X.pn ++ pins) _).stack = X.env :: X.outer from hs] at sky
    refine Sky.land Zc.steady frm hf sky fun h3 fl up3 => ?_
    have J3 : Inv X pins σ1 H1 { s1 with heap := h3 } := J.landed nb fl.1 (up.trans up3) os ag
    obtain ⟨oe, fv, he, hz, hd⟩ := fl.there
    have nfr : a ∉ frs (X.env :: X.outer) := fun hm => by
      obtain ⟨_, o2, e2, k2⟩ := fl.2.2.1.mem hm
      rw [he] at e2
      obtain rfl := Option.some.inj e2
      exact k2 _ hd
    have nL : a ≠ X.env.locals := fun z => nfr (List.mem_filterMap.mpr ⟨X.env, List.mem_cons_self, by rw [hf, z]⟩)
    have nF : a ∉ X.fs := fun hm => let ⟨e, me, q⟩ := List.mem_filterMap.mp hm; nfr (List.mem_filterMap.mpr ⟨e, List.mem_cons_of_mem _ me, q⟩)
    have S3 := J3.suite he hd na nL nF
    have go : ∀ (hs2 : List ExceptHandler) (l2 : List (Value × (Addr → Value → Option Addr → TS))), EachOk X n hs2 l2 → wEach X.K Wout D i l2 cls d σ1 H1 → wpAny (model X.prog X.w) X.A (handleBy (.ref a) X.env hs2) (SP X pins D) X.xe { s1 with heap := h3 } := by
      intro hs2 l2 hk
      induction hk with
      | nil =>
        intro w
        refine wpAny_handleBy_nil ?_
        obtain ⟨_, _, _, oe1, vs1, T1, oT, ts1, he1, hz1, hd1, hx1, hr1⟩ := id fl
        unfold PySem.passOn
        refine wpAny_bind (wpAny_field he1 hd1 hx1 ?_)
        rw [if_neg (show ¬ ((Value.ref T1 == Value.none) = true) from by simp)]
        have out : wpAny (model X.prog X.w) X.A (setFlight (.ref a) X.env.frame) (fun _ s4 => wpAny (model X.prog X.w) X.A (throw (.ref a) : Sem Flow) (SP X pins D) X.xe s4) X.xe { s1 with heap := h3 } := by
          rw [hf]
          refine HandSPX.setFlight_upZ fl fun h4 hh4 up4 => wpAny_throw (tk _ _ ⟨a, B, sI, pins, σ1, H1, cls, d, rfl, J, nb, (up.trans up3).trans up4, .inr (.inr (by rw [hs]; exact hh4)), na, os, ag, w⟩)
        first
          | exact wpAny_bind (wpAny_pure (wpAny_bind out))
          | exact wpAny_bind out
      | @cons x c ts b0 suite np p2 hs3 l3 hc hsu r ih =>
        rintro ⟨b, hb1, yes, no⟩
        refine wpAny_handleBy_cons (codeAny_handlers_test ?_) (by intro q; cases q)
        have ty : PySem.W.Looks (model X.prog X.w) h3 (typeOf (.ref a)) cls := fun A Q E s k q => wpAny_typeOf_ref (k _ _ he) (by rw [hz.1]; exact q)
        have met := PySem.W.exm_one (M := model X.prog X.w) J3.kIn ty hb1
        have named : ∀ {Q : Value → Shared → Prop} {E : Value → Shared → Prop}, Q c { s1 with heap := h3 } → wpAny (model X.prog X.w) (X.A.mark (some (.ref a))) (eval (.Name x np) X.env) Q E { s1 with heap := h3 } := fun {Q E} q => by
          obtain ⟨hg, hdbg, hm | ⟨hm, hv, hnn⟩⟩ := hc
          · exact ld_glob (X := X.suite a ((a, oe) :: (X.pn ++ pins))) S3 hg hm q hdbg
          · exact ld_blt (X := X.suite a ((a, oe) :: (X.pn ++ pins))) S3 hg hm hv q hnn hdbg
        refine named (met.here ?_)
        match b, yes, no with
        | false, _, no =>
          show wpAny _ X.A (handleBy (.ref a) X.env hs3) _ _ _
          exact ih (no rfl)
        | true, yes, _ =>
          refine codeAny_handlers_suite_as (HandSPX.lands_againZ fl fun h4 fl4 up4 => ?_)
          have J4 : Inv X pins σ1 H1 { s1 with heap := h4 } := J.landed nb fl4.1 ((up.trans up3).trans up4) os ag
          obtain ⟨oe4, vs4, he4, hz4, hd4⟩ := fl4.there
          have S4 := J4.suite he4 hd4 na nL nF
          refine store_ok (X := X.suite a ((a, oe4) :: (X.pn ++ pins))) (v := .ref a) S4 hN hi (.inl hln) rfl (fun s5 S5 => ?_) (.inr hln)
          refine wpAny_mono ((hsu a oe4 cls d (X.pn ++ pins) hz4 ⟨_, hd4⟩).run [] s5 _ H1 _ S5 (yes rfl a na)) (fun f s6 q => ?_) (fun _ _ z => z.elim)
          have leave : ∀ {σ6 : L2.St} {H6 : Hp} {Q : Shared → Prop}, Inv (X.suite a ((a, oe4) :: (X.pn ++ pins))) [] σ6 H6 s6 → (∀ s7, Inv X pins (σ6.set i none) H6 s7 → Q s7) →
              wpAny (model X.prog X.w) X.A (do bindName X.env n .none; unbindBehindTheSuite X.env n p2) (fun _ s7 => Q s7) X.xe s6 := fun {σ6 H6 Q} S6 hq => gone_ok (S6.unsuite ok) hN hi hln hq
          match f, q with
          | .next, ⟨σ6, H6, S6, q6⟩ => exact leave S6 fun s7 J7 => ⟨_, _, J7, q6⟩
          | .brk, ⟨σ6, H6, S6, q6⟩ => exact leave S6 fun s7 J7 => ⟨_, _, J7, q6⟩
          | .cont, ⟨σ6, H6, S6, q6⟩ => exact leave S6 fun s7 J7 => ⟨_, _, J7, q6⟩
          | .ret u, ⟨v6, σ6, H6, S6, r6, q6⟩ => exact leave S6 fun s7 J7 => ⟨_, _, _, J7, r6, q6⟩
    exact go _ _ hh w
end Xc
section
variable {P : Program} {w : World} {K : PySem.W.Frag} {mg : Str → Option Value} {base : Heap} {af : Nat → Addr} {fd : Nat → FuncData}
/-! ### spread -/
def sp_l_spread : Sp := fun vs H Q _ => ∃ (c a : Int), vs = [.int c, .int a] ∧ 0 ≤ a ∧ ∀ r : Int, 0 ≤ r → Q (.int r) H
theorem ok_l_spread (T : Txt K mg af fd) : FnOk P w K mg base CX0 1 (af 39) (fd 39) ["cell", "at"] sp_l_spread := by
  refine T.F_l_spread.ok sc_l_spread (fun vs H Q E h => ?_) (fun cdv A outer s H vs Q E hr h => ?_)
  · obtain ⟨c, a, rfl, _⟩ := h
    rfl
  · obtain ⟨c, a, rfl, ha, q⟩ := h
    refine ⟨_, (pss_cons (ps_if (pt_cmpR op_ge (pv 0) (pe_op op_pow pe_int pe_int) (nomark _)) (pss_one (ps_ret (pv 0))) pss_nil)
        (pss_cons (ps_set (i := 2) sc_l_spread.nd rfl (by first | exact Or.inl rfl | exact Or.inr rfl) (pe_op op_mod (pe_op op_add (pe_op op_add (pe_op op_mul (pe_op op_mod (pv 0) pe_int) pe_int) (pe_op op_mul (pv 1) pe_int)) pe_int) pe_int))
        (pss_cons (ps_set (i := 3) sc_l_spread.nd rfl (by first | exact Or.inl rfl | exact Or.inr rfl) (pe_op op_mod (pe_op op_add (pe_op op_add (pe_op op_mul (pv 2) (pv 2)) (pe_op op_mul (pv 1) pe_int)) (pe_op op_mod (pv 0) pe_int)) pe_int))
        (pss_cons (ps_set (i := 4) sc_l_spread.nd rfl (by first | exact Or.inl rfl | exact Or.inr rfl) (pe_op op_mod (pe_op op_add (pe_op op_add (pe_op op_mul (pv 3) (pv 3)) (pe_op op_mul (pv 2) pe_int)) pe_int) pe_int))
        (pss_one (ps_ret (pe_op op_add (pe_op op_mul (pe_op op_add (pe_op op_mul (pv 2) pe_int) (pv 3)) pe_int) (pv 4)))))))), ?_⟩
    refine ⟨_, rfl, 10, 18, rfl, rfl, ⟨by decide, by decide, by decide⟩, _, _, rfl, rfl, _, rfl, ite2 (fun e => ?_) (fun e => ?_)⟩
    · refine ⟨_, rfl, q c ?_⟩
      have e1 := of_decide_eq_true e
      exact Int.le_trans (by decide) e1
    · refine ⟨_, rfl, _, _, rfl, rfl, (by show (0 : Int) < 1000000007; decide), _, _, rfl, rfl, .inr ⟨by decide, by decide⟩, _, rfl, _, _, rfl, rfl, .inr ⟨by decide, by decide⟩, _, _, rfl, rfl, _, _, rfl, rfl, _, _, rfl, rfl, (by show (0 : Int) < 2147483629; decide), ?_⟩
      have b1 : ∀ x : Int, 0 ≤ x % 2147483629 ∧ x % 2147483629 < 2147483629 := fun x => ⟨Int.emod_nonneg _ (by decide), Int.emod_lt_of_pos _ (by decide)⟩
      generalize hx : (c % 1000000007 * 69069 + a * 40503 + 977) % 2147483629 = one
      have o1 : 0 ≤ one ∧ one < 2147483629 := by rw [← hx]; exact b1 _
      refine ⟨_, rfl, _, rfl, _, _, rfl, rfl, .inl ⟨by omega, by omega⟩, _, rfl, _, _, rfl, rfl, .inr ⟨by decide, by decide⟩, _, _, rfl, rfl, _, rfl, _, _, rfl, rfl, (by show (0 : Int) < 65537; decide), _, _, rfl, rfl, _, _, rfl, rfl, (by show (0 : Int) < 2147483587; decide), ?_⟩
      have b2 : ∀ x : Int, 0 ≤ x % 2147483587 ∧ x % 2147483587 < 2147483587 := fun x => ⟨Int.emod_nonneg _ (by decide), Int.emod_lt_of_pos _ (by decide)⟩
      generalize hy : (one * one + a * 7919 + c % 65537) % 2147483587 = two
      have o2 : 0 ≤ two ∧ two < 2147483587 := by rw [← hy]; exact b2 _
      refine ⟨_, rfl, _, rfl, _, _, rfl, rfl, .inl ⟨by omega, by omega⟩, _, rfl, _, _, rfl, rfl, .inr ⟨by decide, by decide⟩, _, _, rfl, rfl, _, _, rfl, rfl, _, _, rfl, rfl, (by show (0 : Int) < 2147483563; decide), ?_⟩
      have b3 : ∀ x : Int, 0 ≤ x % 2147483563 := fun x => Int.emod_nonneg _ (by decide)
      generalize hz : (two * two + one * 31 + 5) % 2147483563 = three
      have o3 : 0 ≤ three := by rw [← hz]; exact b3 _
      refine ⟨_, rfl, _, _, rfl, rfl, .inr ⟨by decide, by decide⟩, _, rfl, _, _, rfl, rfl, _, _, rfl, rfl, .inr ⟨by decide, by decide⟩, _, rfl, _, _, rfl, rfl, q _ ?_⟩
      omega
/-! ### take -/
def sp_l_take : Sp := fun vs H Q _ => ∃ (p c : Addr) (many : Int), vs = [.ref p, .int many] ∧ Pen H p c ∧ 0 < many ∧ many.natAbs < 2 ^ 100 ∧ ∀ (r : Int) (H' : Hp), 0 ≤ r → r < many → Stp p c H H' → Q (.int r) H'
theorem ok_l_take (T : Txt K mg af fd) : FnOk P w K mg base CX0 2 (af 42) (fd 42) ["pen", "many"] sp_l_take := by
  refine T.F_l_take.ok sc_l_take (fun vs H Q E h => ?_) (fun cdv A outer s H vs Q E hr h => ?_)
  · obtain ⟨p, c, many, rfl, _⟩ := h
    rfl
  · obtain ⟨p, c, many, rfl, hP, m0, m1, q⟩ := h
    have hpc := hP.ne
    obtain ⟨cs, n, st, h1, h2, h3, h4⟩ := hP
    refine ⟨_, (C8.pss_cut (ps_if (pt_cmpR op_lt (pe_ix ix_list (pv 0) pe_int (fun _ _ => rfl)) (pv 1) (nomark _)) (pss_cons (ps_set (i := 2) sc_l_take.nd rfl (by first | exact Or.inl rfl | exact Or.inr rfl) (pe_ix ix_list (pv 0) pe_int (fun _ _ => rfl)))
        (pss_cons (ps_set (i := 3) sc_l_take.nd rfl (by first | exact Or.inl rfl | exact Or.inr rfl) pe_int)
        (C8.pss_cut (ps_if (pt_cmpR op_lt (pv 2) (pe_callB call_len_seq (by rfl) T.m_len (by decide +kernel) (pa_cons (pe_ix ix_list (pv 0) pe_int (fun _ _ => rfl)) pa_nil)) (nomark _)) (pss_one (ps_set (i := 3) sc_l_take.nd rfl (by first | exact Or.inl rfl | exact Or.inr rfl) (pe_ix ix_list (pe_ix ix_list (pv 0) pe_int (fun _ _ => rfl)) (pv 2) (fun _ _ => rfl)))) (pss_one (ps_if (pt_cmpR op_gt (pe_callB call_len_seq (by rfl) T.m_len (by decide +kernel) (pa_cons (pe_ix ix_list (pv 0) pe_int (fun _ _ => rfl)) pa_nil)) pe_int (nomark _)) (pss_one (ps_set (i := 3) sc_l_take.nd rfl (by first | exact Or.inl rfl | exact Or.inr rfl) (pe_op op_mod (pe_ix ix_list (pe_ix ix_list (pv 0) pe_int (fun _ _ => rfl)) (pe_op op_mod (pe_op op_add (pe_op op_mul (pv 2) pe_int) pe_int) (pe_callB call_len_seq (by rfl) T.m_len (by decide +kernel) (pa_cons (pe_ix ix_list (pv 0) pe_int (fun _ _ => rfl)) pa_nil))) (fun _ _ => rfl)) (pe_op op_add (pe_op op_pow pe_int pe_int) (pv 2))))) pss_nil)))
        (pss_cons (ps_asg (pe_op op_add (pv 2) pe_int) (pg_sub (pv 0) pe_int set_list))
        (pss_one (ps_asg (pe_call (ok_l_spread T) (hr.mono (by first | decide | omega)) (by rfl) T.g_l_spread T.F_l_spread.kp T.b_l_spread .nil pass0 (pa_cons (pv 3) (pa_cons (pv 2) pa_nil))) (pg_sub (pv 0) pe_int set_list))))))) pss_nil)
        (pss_cons (ps_set (i := 4) sc_l_take.nd rfl (by first | exact Or.inl rfl | exact Or.inr rfl) (pe_op op_mod (pe_ix ix_list (pv 0) pe_int (fun _ _ => rfl)) (pv 1)))
        (pss_cons (ps_asg (pe_op op_fdivW (pe_ix ix_list (pv 0) pe_int (fun _ _ => rfl)) (pv 1)) (pg_sub (pv 0) pe_int set_list))
        (pss_one (ps_ret (pv 4)))))), ?_⟩
    refine ⟨fun σ' H' => ∃ (n' st' : Int) (v1 v2 : Option V), 0 ≤ n' ∧ 0 ≤ st' ∧ σ' = [some (.ref p), some (.int many), v1, v2, none] ∧ H' = upd H p (.lst [.ref c, .int n', .int st']), ?_, ?_⟩
    · refine ⟨_, rfl, p, _, 2, _, rfl, rfl, SqL.of h1, rfl, _, rfl, _, _, rfl, rfl, _, rfl, ite2 (fun e => ?_) (fun e => ?_)⟩
      · refine ⟨_, rfl, p, _, 1, _, rfl, rfl, SqL.of h1, rfl, ?_⟩
        refine ⟨fun σ' H' => ∃ (x : Int), σ' = [some (.ref p), some (.int many), some (.int n), some (.int x), none] ∧ H' = H, ?_, ?_⟩
        · refine ⟨_, rfl, _, rfl, p, _, 0, _, rfl, rfl, SqL.of h1, rfl, c, _, rfl, .inl (SqL.of h2), _, _, rfl, rfl, _, rfl, ite2 (fun e2 => ?_) (fun e2 => ?_)⟩
          · have e3 := of_decide_eq_true e2
            rw [List.length_map] at e3
            have hlt : n.toNat < cs.length := by omega
            refine ⟨_, rfl, p, _, 0, _, rfl, rfl, SqL.of h1, rfl, _, rfl, c, _, n, .int cs[n.toNat], rfl, rfl, SqL.of h2, at_of (j := n.toNat) (by omega) ?_, ⟨_, rfl, rfl⟩⟩
            rw [List.getElem?_map, List.getElem?_eq_getElem hlt]
            rfl
          · refine ⟨_, rfl, p, _, 0, _, rfl, rfl, SqL.of h1, rfl, c, _, rfl, .inl (SqL.of h2), _, _, rfl, rfl, _, rfl, ite2 (fun e3 => ?_) (fun e3 => ?_)⟩
            · have e4 := of_decide_eq_true e3
              have hl : (0 : Int) < (cs.map V.int).length := e4
              have hr0 := Int.emod_nonneg (n * 5 + 3) (show ((cs.map V.int).length : Int) ≠ 0 by omega)
              have hr1 := Int.emod_lt_of_pos (n * 5 + 3) hl
              have hlt : ((n * 5 + 3) % ((cs.map V.int).length : Int)).toNat < cs.length := by
                rw [List.length_map] at hr1 hr0 ⊢
                omega
              refine ⟨_, rfl, p, _, 0, _, rfl, rfl, SqL.of h1, rfl, _, rfl, _, _, rfl, rfl, .inr ⟨by decide, by decide⟩, _, _, rfl, rfl, _, rfl, p, _, 0, _, rfl, rfl, SqL.of h1, rfl, c, _, rfl, .inl (SqL.of h2), _, _, rfl, rfl, hl, c, _, _, .int cs[((n * 5 + 3) % ((cs.map V.int).length : Int)).toNat], rfl, rfl, SqL.of h2, at_of (j := ((n * 5 + 3) % ((cs.map V.int).length : Int)).toNat) (by omega) ?_, 10, 17, rfl, rfl, ⟨by decide, by decide, by decide⟩, _, rfl, _, _, rfl, rfl, _, _, rfl, rfl, ?_, ⟨_, rfl, rfl⟩⟩
              · rw [List.getElem?_map, List.getElem?_eq_getElem hlt]
                rfl
              · show (0 : Int) < 10 ^ (17 : Int).toNat + n
                have : (0 : Int) < 10 ^ (17 : Int).toNat := by decide
                omega
            · exact ⟨_, rfl, rfl⟩
        · rintro σ' H' ⟨x, rfl, rfl⟩
          refine ⟨_, rfl, _, _, rfl, rfl, _, rfl, p, _, 1, 1, rfl, rfl, h1, rfl, ?_⟩
          refine ⟨_, rfl, _, rfl, x, n, rfl, h3, fun r hr => ?_⟩
          refine ⟨_, rfl, p, _, 2, 2, rfl, rfl, upd_same, rfl, ?_⟩
          refine ⟨n + 1, r, _, _, by omega, hr, rfl, ?_⟩
          rw [upd_upd]
          rfl
      · refine ⟨n, st, none, none, h3, h4, rfl, ?_⟩
        funext b
        by_cases hb : b = p
        · subst hb
          rw [upd_same]
          exact h1
        · rw [upd_ne hb]
    · rintro σ' H' ⟨n', st', v1, v2, hn, hs, rfl, rfl⟩
      refine ⟨_, rfl, p, _, 2, _, rfl, rfl, SqL.of upd_same, rfl, _, rfl, _, _, rfl, rfl, m0, ?_⟩
      refine ⟨_, rfl, p, _, 2, _, rfl, rfl, SqL.of upd_same, rfl, _, rfl, _, _, rfl, rfl, wide_div m0 m1 (by decide) (by decide), _, rfl, p, _, 2, 2, rfl, rfl, upd_same, rfl, ?_⟩
      refine ⟨_, rfl, q _ _ (Int.emod_nonneg _ (by omega)) (Int.emod_lt_of_pos _ m0) ⟨⟨cs, n', st' / many, ?_, ?_, hn, Int.ediv_nonneg hs (by omega)⟩, fun b o hb e => ?_⟩⟩
      · rw [upd_same]
        rfl
      · rw [upd_ne hpc, upd_ne hpc]
        exact h2
      · rw [upd_ne hb, upd_ne hb]
        exact e
/-! ### open -/
def sp_l_open (K : PySem.W.Frag) : Sp := fun vs H Q _ => ∃ (a : Addr) (ns : List Int), vs = [.ref a] ∧ SqL K H a (ns.map V.int) ∧ ns.length ≤ 63 ∧ ∀ (p c : Addr) (H' : Hp), Same H H' → H p = none → H c = none → Pen H' p c → Q (.ref p) H'
theorem ok_l_open (T : Txt K mg af fd) : FnOk P w K mg base CX0 1 (af 40) (fd 40) ["script"] (sp_l_open K) := by
  refine T.F_l_open.ok sc_l_open (fun vs H Q E h => ?_) (fun cdv A outer s H vs Q E hr h => ?_)
  · obtain ⟨a, ns, rfl, _⟩ := h
    rfl
  · obtain ⟨a, ns, rfl, hS, hlen, q⟩ := h
    refine ⟨_, (pss_cons (ps_set (i := 1) sc_l_open.nd rfl (by first | exact Or.inl rfl | exact Or.inr rfl) (pe_callTy call_list_of (by rfl) T.m_list (by decide +kernel) (pa_cons (pe_slice sl_list (pv 0) po_none (po_some pe_int)) pa_nil)))
        (pss_cons (ps_for PassesOwn.never rfl (pi_enum (by rfl) T.m_enumerate (pa_cons (pe_slice sl_list (pv 0) (po_some pe_int) (po_some pe_int)) pa_nil)) (pg_tup rfl (pgs_cons (pg_name (i := 2) sc_l_open.nd rfl (by first | exact Or.inl rfl | exact Or.inr rfl)) (pgs_cons (pg_name (i := 3) sc_l_open.nd rfl (by first | exact Or.inl rfl | exact Or.inr rfl)) pgs_nil))) (pss_one (ps_asg (pe_op op_add (pe_ix ix_list (pv 1) (pe_op op_mod (pv 2) pe_int) (fun _ _ => rfl)) (pv 3)) (pg_sub (pv 1) (pe_op op_mod (pv 2) pe_int) set_list))))
        (pss_one (ps_ret (pe_lst (pa_cons (pv 1) (pa_cons pe_int (pa_cons pe_int pa_nil)))))))), ?_⟩
    refine ⟨_, rfl, 12, rfl, a, _, rfl, hS, fun x nx => ⟨x, _, rfl, .inl (SqL.of upd_same), fun l nl => ?_⟩⟩
    have s1 : Same H (upd H x (.lst (cutV (ns.map V.int) none (some 12)))) := same_upd nx
    have nl0 : H l = none := s1.free nl
    have s2 : Same H (upd (upd H x (.lst (cutV (ns.map V.int) none (some 12)))) l (.lst (cutV (ns.map V.int) none (some 12)))) := same_mut s1 nl0
    refine ⟨_, rfl, 12, rfl, 63, rfl, a, _, rfl, s2.seq hS, fun d nd => ⟨d, _, rfl, SqL.of upd_same, ?_⟩⟩
    have nd0 : H d = none := s2.free nd
    have hld : l ≠ d := fun e => by
      rw [← e, upd_same] at nd
      cases nd
    have it : cutV (ns.map V.int) (some 12) (some 63) = ((ns.drop 12)).map V.int := by
      have e := cut_mid (ns.map V.int) 12 63
      rw [show ((12 : Nat) : Int) = 12 from rfl, show ((63 : Nat) : Int) = 63 from rfl] at e
      rw [e, List.length_map]
      by_cases h12 : 12 ≤ ns.length
      · rw [Nat.min_eq_left h12, Nat.min_eq_right (by omega), List.take_of_length_le, List.map_drop]
        rw [List.length_drop, List.length_map]
        omega
      · rw [Nat.min_eq_right (by omega), List.drop_of_length_le (l := ns) (by omega), List.drop_of_length_le (by rw [List.length_map]; omega)]
        exact List.take_nil
    have ic : cutV (ns.map V.int) none (some 12) = (ns.take 12).map V.int := by
      have e := cut_to (ns.map V.int) 12
      rw [show ((12 : Nat) : Int) = 12 from rfl] at e
      rw [e, List.map_take]
    rw [it, ic]
    refine for_it (walk_enum (K := K) (a := d) (xs := (ns.drop 12).map V.int)) (fun i σ H' => ∃ (cs : List Int) (v2 v3 : Option V), σ = [some (.ref a), some (.ref l), v2, v3] ∧ H' l = some (.lst (cs.map V.int)) ∧ cs.length = min 12 ns.length ∧ H' d = some (.lst ((ns.drop 12).map V.int)) ∧ Same H H')
      ⟨ns.take 12, none, none, rfl, ?_, ?_, upd_same, same_mut ?_ nd0⟩ (fun i σ H' _ ⟨_, _, _, _, _, _, hd, _⟩ => SqL.of hd) ?_ ?_
    · rw [upd_ne hld, upd_same]
    · rw [List.length_take]
    · rw [← ic]
      exact s2
    · rintro i v σ H' H'' hi ⟨cs, v2, v3, rfl, hl, hc, hd, sm⟩ ⟨t, x1, x2, rfl, nt, rfl, e1, e2⟩
      obtain rfl : V.int (i : Nat) = x1 := Option.some.inj e1
      have e3 : ((ns.drop 12).map V.int)[i]? = some x2 := e2
      rw [List.getElem?_map] at e3
      obtain ⟨z, hz, rfl⟩ := Option.map_eq_some_iff.mp e3
      have h12 : 12 ≤ ns.length := by
        rw [List.length_map, List.length_drop] at hi
        omega
      have hm0 : 0 ≤ (i : Int) % 12 := Int.emod_nonneg _ (by decide)
      have hm1 : (i : Int) % 12 < 12 := Int.emod_lt_of_pos _ (by decide)
      have hj : ((i : Int) % 12).toNat < cs.length := by omega
      have hl' : (upd H' t (.tup [.int (i : Nat), .int z])) l = some (.lst (cs.map V.int)) := by
        rw [upd_ne (ne_of_none hl nt)]
        exact hl
      refine ⟨t, [.int (i : Nat), .int z], rfl, SqT.of upd_same, rfl, _, _, rfl, _, _, rfl, rfl, ?_⟩
      refine ⟨_, rfl, _, rfl, _, _, rfl, rfl, (by show (0 : Int) < 12; decide), l, _, _, .int cs[((i : Int) % 12).toNat], rfl, rfl, SqL.of hl', at_of (j := ((i : Int) % 12).toNat) (by omega) ?_, _, rfl, _, _, rfl, rfl, _, rfl, _, rfl, _, _, rfl, rfl, (by show (0 : Int) < 12; decide), l, _, _, ((i : Int) % 12).toNat, rfl, rfl, hl', ?_, ?_⟩
      · rw [List.getElem?_map, List.getElem?_eq_getElem hj]
        rfl
      · unfold ixN
        rw [if_pos hm0, if_pos (by rw [List.length_map]; omega)]
      · refine ⟨cs.set ((i : Int) % 12).toNat (cs[((i : Int) % 12).toNat] + z), _, _, rfl, ?_, ?_, ?_, ?_⟩
        · rw [upd_same, ← List.map_set]
        · rw [List.length_set]
          exact hc
        · rw [upd_ne (Ne.symm hld), upd_ne (ne_of_none hd nt)]
          exact hd
        · exact same_mut (same_mut sm (sm.free nt)) nl0
    · rintro σ H' ⟨cs, v2, v3, rfl, hl, hc, hd, sm⟩
      refine ⟨_, rfl, (by show 3 ≤ sizeLine; decide), fun p np => q p l _ (same_mut sm (sm.free np)) (sm.free np) nl0 ⟨cs, 0, 0, upd_same, ?_, by decide, by decide⟩⟩
      rw [upd_ne (ne_of_none hl np)]
      exact hl
theorem iteFd {c A B : Prop} [Decidable c] (hc : ¬ c) (h : B) : if decide c = true then A else B := by
  rw [decide_eq_false hc]
  exact iteF h
theorem iteTd {c A B : Prop} [Decidable c] (hc : c) (h : A) : if decide c = true then A else B := by
  rw [decide_eq_true hc]
  exact iteT h
/-! ### anew -/
def sp_l_anew : Sp := fun vs H Q _ => ∃ (p c : Addr), vs = [.ref p] ∧ Pen H p c ∧ ∀ H', Stp p c H H' → Q (.ref p) H'
theorem ok_l_anew (T : Txt K mg af fd) : FnOk P w K mg base CX0 1 (af 41) (fd 41) ["pen"] sp_l_anew := by
  refine T.F_l_anew.ok sc_l_anew (fun vs H Q E h => ?_) (fun cdv A outer s H vs Q E hr h => ?_)
  · obtain ⟨p, c, rfl, _⟩ := h
    rfl
  · obtain ⟨p, c, rfl, hP, q⟩ := h
    have hpc := hP.ne
    obtain ⟨cs, n, st, h1, h2, h3, h4⟩ := hP
    refine ⟨_, (pss_cons (ps_asg pe_int (pg_sub (pv 0) pe_int set_list))
        (pss_one (ps_ret (pv 0)))), ?_⟩
    refine ⟨_, rfl, p, _, 2, 2, rfl, rfl, h1, rfl, _, rfl, q _ ⟨⟨cs, n, 0, ?_, ?_, h3, by decide⟩, fun b o hb e => ?_⟩⟩
    · rw [upd_same]
      rfl
    · rw [upd_ne hpc]
      exact h2
    · rw [upd_ne hb]
      exact e
/-! ### names -/
def House (z : List Nat) : Prop := 1 ≤ z.length ∧ z.length ≤ 8 ∧ ∀ c ∈ z, 97 ≤ c ∧ c ≤ 122
def nameL (base : List Nat) (way turn size k : Nat) : List Nat :=
  (base.take ((size + k * (way % 2)) % 8)).take (if way = 0 then 0 else if way = 1 then (base.take ((size + k * (way % 2)) % 8)).length else (base.take ((size + k * (way % 2)) % 8)).length / 2) ++ [97 + (turn + 3 * k) % 26] ++
  (base.take ((size + k * (way % 2)) % 8)).drop (if way = 0 then 0 else if way = 1 then (base.take ((size + k * (way % 2)) % 8)).length else (base.take ((size + k * (way % 2)) % 8)).length / 2)
theorem nameL_len {base : List Nat} {way turn size k : Nat} (hb : base.length = 7) : (nameL base way turn size k).length = (size + k * (way % 2)) % 8 + 1 := by
  unfold nameL
  rw [List.length_append, List.length_append, List.length_take, List.length_drop, List.length_take]
  have : (size + k * (way % 2)) % 8 < 8 := Nat.mod_lt _ (by decide)
  simp only [List.length_cons, List.length_nil]
  omega
theorem nameL_house {base : List Nat} {way turn size k : Nat} (hb : base.length = 7) (hl : ∀ c ∈ base, 97 ≤ c ∧ c ≤ 122) : House (nameL base way turn size k) := by
  have e := nameL_len (way := way) (turn := turn) (size := size) (k := k) hb
  have : (size + k * (way % 2)) % 8 < 8 := Nat.mod_lt _ (by decide)
  refine ⟨by omega, by omega, fun c hc => ?_⟩
  unfold nameL at hc
  rcases List.mem_append.mp hc with h | h
  · rcases List.mem_append.mp h with h | h
    · exact hl c (List.mem_of_mem_take (List.mem_of_mem_take h))
    · have h := List.mem_singleton.mp h
      omega
  · exact hl c (List.mem_of_mem_take (List.mem_of_mem_drop h))
theorem nameL_inj {base : List Nat} {way turn size i j : Nat} (hb : base.length = 7) (hw : way < 3) (hi : i < 8) (hj : j < 8) (e : nameL base way turn size i = nameL base way turn size j) : i = j := by
  by_cases h1 : way = 1
  · subst h1
    have e1 := congrArg List.length e
    rw [nameL_len hb, nameL_len hb] at e1
    omega
  · have h2 : way % 2 = 0 := by omega
    unfold nameL at e
    rw [h2, Nat.mul_zero, Nat.mul_zero] at e
    have e1 := List.append_cancel_right e
    have e2 := List.append_cancel_left e1
    have e3 := (List.cons.inj e2).1
    omega
theorem joinL_ones : ∀ cs : List Nat, TL.joinL [] (cs.map fun c => [c]) = cs
  | [] => rfl
  | [_] => rfl
  | a :: b :: r => by
    show [a] ++ ([] ++ TL.joinL [] ((b :: r).map fun c => [c])) = a :: b :: r
    rw [joinL_ones (b :: r)]
    rfl
theorem abc_at : ∀ i : Nat, i < 26 → (Str.ofString "abcdefghijklmnopqrstuvwxyz").cps.toList[i]? = some (97 + i) := by
  have h : ∀ i : Fin 26, (Str.ofString "abcdefghijklmnopqrstuvwxyz").cps.toList[i.1]? = some (97 + i.1) := by decide +kernel
  exact fun i hi => h ⟨i, hi⟩
theorem abc_len : (Str.ofString "abcdefghijklmnopqrstuvwxyz").length ≤ sizeLine := by decide +kernel
def sp_l_names : Sp := fun vs H Q _ => ∃ (p c : Addr) (many : Int), vs = [.ref p, .int many] ∧ Pen H p c ∧ 0 ≤ many ∧ many ≤ 7 ∧
  ∀ (f : Addr) (zs : List (List Nat)) (H' : Hp), Stp p c H H' → H f = none → H' f = some (.lst (zs.map fun z => V.str (SX.S z))) → (zs.length : Int) = many → zs.Nodup → (∀ z ∈ zs, House z) → Q (.ref f) H'
theorem ok_l_names (T : Txt K mg af fd) : FnOk P w K mg base CX0 3 (af 43) (fd 43) ["pen", "many"] sp_l_names := by
  refine T.F_l_names.ok sc_l_names (fun vs H Q E h => ?_) (fun cdv A outer s H vs Q E hr h => ?_)
  · obtain ⟨p, c, many, rfl, _⟩ := h
    rfl
  · obtain ⟨p, c, many, rfl, hP, m0, m1, q⟩ := h
    refine ⟨_, (pss_cons (ps_set (i := 2) sc_l_names.nd rfl (by first | exact Or.inl rfl | exact Or.inr rfl) pe_str)
        (pss_cons (ps_set (i := 3) sc_l_names.nd rfl (by first | exact Or.inl rfl | exact Or.inr rfl) (pe_join pe_str (pe_lc (own := [("k", 4)]) (g := gName 4) (by rfl) sc_l_names.nd (pi_range1 (by rfl) T.m_range (pa_cons pe_int pa_nil)) (blkOk_by (own := [("k", 4)]) (N := ["pen", "many", "letters", "base", "k", "way", "turn", "size", "found", "sign", "part", "at"]) (sc := defScope s_l_names) (by decide +kernel)) (fun _ _ _ _ _ => pg_name (i := 4) sc_l_names.nd rfl (Or.inl rfl)) (fun _ _ _ _ _ => pts_nil) (fun _ _ _ _ _ => (pe_ix ix_str (pv 2) (pe_call (ok_l_take T) (hr.mono (by first | decide | omega)) (by rfl) T.g_l_take T.F_l_take.kp T.b_l_take .nil pass0 (pa_cons (pv 0) (pa_cons pe_int pa_nil))) (fun _ _ => rfl))))))
        (pss_cons (ps_set (i := 5) sc_l_names.nd rfl (by first | exact Or.inl rfl | exact Or.inr rfl) (pe_call (ok_l_take T) (hr.mono (by first | decide | omega)) (by rfl) T.g_l_take T.F_l_take.kp T.b_l_take .nil pass0 (pa_cons (pv 0) (pa_cons pe_int pa_nil))))
        (pss_cons (ps_set (i := 6) sc_l_names.nd rfl (by first | exact Or.inl rfl | exact Or.inr rfl) (pe_call (ok_l_take T) (hr.mono (by first | decide | omega)) (by rfl) T.g_l_take T.F_l_take.kp T.b_l_take .nil pass0 (pa_cons (pv 0) (pa_cons pe_int pa_nil))))
        (pss_cons (ps_set (i := 7) sc_l_names.nd rfl (by first | exact Or.inl rfl | exact Or.inr rfl) (pe_call (ok_l_take T) (hr.mono (by first | decide | omega)) (by rfl) T.g_l_take T.F_l_take.kp T.b_l_take .nil pass0 (pa_cons (pv 0) (pa_cons pe_int pa_nil))))
        (pss_cons (ps_set (i := 8) sc_l_names.nd rfl (by first | exact Or.inl rfl | exact Or.inr rfl) (pe_lst pa_nil))
        (pss_cons (ps_for PassesOwn.never rfl (pi_range1 (by rfl) T.m_range (pa_cons (pv 1) pa_nil)) (pg_name (i := 4) sc_l_names.nd rfl (by first | exact Or.inl rfl | exact Or.inr rfl)) (pss_cons (ps_set (i := 9) sc_l_names.nd rfl (by first | exact Or.inl rfl | exact Or.inr rfl) (pe_ix ix_str (pv 2) (pe_op op_mod (pe_op op_add (pv 6) (pe_op op_mul pe_int (pv 4))) pe_int) (fun _ _ => rfl)))
        (pss_cons (ps_set (i := 10) sc_l_names.nd rfl (by first | exact Or.inl rfl | exact Or.inr rfl) (pe_slice sl_str (pv 3) po_none (po_some (pe_op op_mod (pe_op op_add (pv 7) (pe_op op_mul (pv 4) (pe_op op_mod (pv 5) pe_int))) pe_int))))
        (pss_cons (ps_set (i := 11) sc_l_names.nd rfl (by first | exact Or.inl rfl | exact Or.inr rfl) (pe_ix ix_list (pe_lst (pa_cons pe_int (pa_cons (pe_callB call_len_str (by rfl) T.m_len (by decide +kernel) (pa_cons (pv 10) pa_nil)) (pa_cons (pe_op op_fdiv (pe_callB call_len_str (by rfl) T.m_len (by decide +kernel) (pa_cons (pv 10) pa_nil)) pe_int) pa_nil)))) (pv 5) (fun _ _ => rfl)))
        (pss_one (ps_expr (pe_bm PySem.F.plainAttrs_list PySem.F.slot_list_append PySem.F.type_list_append mt_append (pv 8) (pa_cons (pe_op op_add_str (pe_op op_add_str (pe_slice sl_str (pv 10) po_none (po_some (pv 11))) (pv 9)) (pe_slice sl_str (pv 10) (po_some (pv 11)) po_none)) pa_nil))))))))
        (pss_one (ps_ret (pv 8)))))))))), ?_⟩
    -- base = ''.join([..])
    refine ⟨⟨_, rfl⟩, 7, rfl, by decide, by decide, fun D nD => lc_range (lo := 0) (n := 7) (fun i H' => Stp p c H H' ∧ ∃ cs : List Nat, H' D = some (.lst (cs.map fun c => V.str (SX.S [c]))) ∧ cs.length = i ∧ ∀ c ∈ cs, 97 ≤ c ∧ c ≤ 122)
      ⟨(Stp.refl hP).new hP nD, [], upd_same, rfl, fun _ h => nomatch h⟩ ?_ ?_⟩
    · rintro i H1 hi ⟨s1, cs, hD, hl, hc⟩
      refine ⟨rfl, yes_if ?_⟩
      refine ⟨_, rfl, _, rfl, p, c, 26, rfl, s1.1, by decide, by decide, fun r H2 r0 r1 s2 => ?_⟩
      have hD2 : H2 D = some (.lst (cs.map fun c => V.str (SX.S [c]))) := s2.2 D _ (fun e => hP.neP nD e.symm) hD
      refine ⟨_, r, 97 + r.toNat, rfl, rfl, abc_len, at_any (z := r) (j := r.toNat) (by omega) (abc_at r.toNat (by omega)), _, hD2, ?_, (s1.trans s2).mut hP nD, cs ++ [97 + r.toNat], ?_, ?_, ?_⟩
      · rw [List.length_map]
        exact small1000 (by omega)
      · rw [upd_same, List.map_append]
        rfl
      · rw [List.length_append, hl]
        rfl
      · intro x hx
        rcases List.mem_append.mp hx with h | h
        · exact hc x h
        · have h := List.mem_singleton.mp h
          omega
    · rintro H1 ⟨s1, bs, hD, hl, hc⟩
      have hD' : H1 D = some (.lst ((bs.map fun c => SX.S [c]).map V.str)) := by rw [hD, List.map_map]; rfl
      refine ⟨_, D, (bs.map fun c => SX.S [c]), rfl, rfl, .inl (SqL.of hD'), ?_, ?_⟩
      · have e1 : ((bs.map fun c => SX.S [c]).map (·.length)).sum = bs.length := by
          rw [List.map_map]
          have : ((fun z : Str => z.length) ∘ fun c => SX.S [c]) = fun _ => 1 := funext fun c => SX.S_len [c]
          rw [this, List.map_const', List.sum_replicate_nat]
          omega
        rw [e1, List.length_map, hl]
        decide
      have ej : Txt.join (Str.ofString "") (bs.map fun c => SX.S [c]) = SX.S bs := by
        have e2 := SX.join_S [] (bs.map fun c => [c])
        rw [List.map_map, joinL_ones] at e2
        exact e2
      rw [ej]
      refine ⟨_, rfl, p, c, 3, rfl, s1.1, by decide, by decide, fun way H2 w0 w1 s2 => ?_⟩
      refine ⟨_, rfl, p, c, 26, rfl, s2.1, by decide, by decide, fun turn H3 t0 t1 s3 => ?_⟩
      refine ⟨_, rfl, p, c, 8, rfl, s3.1, by decide, by decide, fun size H4 z0 z1 s4 => ?_⟩
      have sA : Stp p c H H4 := ((s1.trans s2).trans s3).trans s4
      refine ⟨Nat.zero_le _, fun f nf => ?_⟩
      have nf0 : H f = none := sA.back hP nf
      refine ⟨_, rfl, many, rfl, by omega, by omega, for_range (lo := 0) (n := many.toNat) (fun i σ H' => ∃ v9 v10 v11 v12 : Option V, σ = [some (.ref p), some (.int many), some (.str (Str.ofString "abcdefghijklmnopqrstuvwxyz")), some (.str (SX.S bs)), v12, some (.int way), some (.int turn), some (.int size), some (.ref f), v9, v10, v11] ∧ Stp p c H H' ∧ H' f = some (.lst (((List.range i).map (nameL bs way.toNat turn.toNat size.toNat)).map fun z => V.str (SX.S z))))
        ⟨none, none, none, none, rfl, sA.mut hP nf0, upd_same⟩ ?_ ?_⟩
      · rintro i σ H5 hi ⟨v9, v10, v11, v12, rfl, s5, hf⟩
        have hi7 : i < 7 := by omega
        have wt : (way.toNat : Int) = way := by omega
        have tt : (turn.toNat : Int) = turn := by omega
        have zt : (size.toNat : Int) = size := by omega
        have ew : way % 2 = ((way.toNat % 2 : Nat) : Int) := by omega
        have w20 : 0 ≤ way % 2 := by omega
        have w21 : way % 2 < 2 := by omega
        have es : (turn + 3 * (0 + (i : Int))) % 26 = (((turn.toNat + 3 * i) % 26 : Nat) : Int) := by omega
        refine ⟨_, rfl, _, rfl, _, rfl, _, _, rfl, rfl, .inl ⟨by decide, by decide⟩, _, _, rfl, rfl, _, _, rfl, rfl, (by show (0 : Int) < 26; decide), _, _, 97 + (turn.toNat + 3 * i) % 26, rfl, rfl, abc_len, at_any es (abc_at _ (Nat.mod_lt _ (by decide))), ?_⟩
        refine ⟨_, rfl, _, rfl, _, rfl, _, rfl, _, _, rfl, rfl, (by show (0 : Int) < 2; decide), _, _, rfl, rfl, .inr ⟨by omega, by omega⟩, _, _, rfl, rfl, _, _, rfl, rfl, (by show (0 : Int) < 8; decide), _, rfl, SX.S bs, rfl, ?_, ?_⟩
        · rw [SX.S_len, hl]
          decide
        have ep : (size + (0 + (i : Int)) * (way % 2)) % 8 = (((size.toNat + i * (way.toNat % 2)) % 8 : Nat) : Int) := by
          rw [ew, Int.zero_add, ← zt, ← Int.natCast_mul, ← Int.natCast_add]
          rfl
        have ecut : cutS (SX.S bs) none (some ((size + (0 + (i : Int)) * (way % 2)) % 8)) = SX.S (bs.take ((size.toNat + i * (way.toNat % 2)) % 8)) := by
          rw [C8.cutS_slice, SX.slice_to (by rw [ep]; exact Int.natCast_nonneg _), ep, Int.toNat_natCast]
        rw [ecut]
        have hpl : (SX.S (bs.take ((size.toNat + i * (way.toNat % 2)) % 8))).length ≤ 7 := by
          rw [SX.S_len, List.length_take, hl]
          omega
        generalize hpart : bs.take ((size.toNat + i * (way.toNat % 2)) % 8) = part at hpl ⊢
        have hps : (SX.S part).length ≤ sizeLine := Nat.le_trans hpl (by decide)
        refine ⟨_, rfl, _, rfl, hps, _, rfl, _, rfl, hps, _, _, rfl, rfl, ⟨by decide, by decide⟩, (by show 3 ≤ sizeLine; decide), fun l nl => ?_⟩
        have hlf : f ≠ l := ne_of_none hf nl
        obtain ⟨a, ha, ea⟩ : ∃ a : Nat, atI [V.int 0, V.int ((SX.S part).length : Int), V.int (((SX.S part).length : Int) / 2)] way = some (.int (a : Int)) ∧ a = (if way.toNat = 0 then 0 else if way.toNat = 1 then part.length else part.length / 2) := by
          rw [SX.S_len]
          have hw3 : way = 0 ∨ way = 1 ∨ way = 2 := by omega
          rcases hw3 with e | e | e
          · subst e
            exact ⟨0, rfl, rfl⟩
          · subst e
            exact ⟨part.length, rfl, rfl⟩
          · subst e
            exact ⟨part.length / 2, rfl, rfl⟩
        refine ⟨_, rfl, l, _, way, _, rfl, rfl, SqL.of upd_same, ha, ?_⟩
        have hf5 : (upd H5 l (.lst [V.int 0, V.int ((SX.S part).length : Int), V.int (((SX.S part).length : Int) / 2)])) f = some (.lst (((List.range i).map (nameL bs way.toNat turn.toNat size.toNat)).map fun z => V.str (SX.S z))) := by
          rw [upd_ne hlf]
          exact hf
        have hp7 : part.length ≤ 7 := by
          rw [SX.S_len] at hpl
          exact hpl
        have e1 : cutS (SX.S part) none (some (a : Int)) = SX.S (part.take a) := by
          rw [C8.cutS_slice, SX.slice_to (Int.natCast_nonneg _), Int.toNat_natCast]
        have e2 : cutS (SX.S part) (some (a : Int)) none = SX.S (part.drop a) := by
          rw [C8.cutS_slice, SX.slice_from (Int.natCast_nonneg _), Int.toNat_natCast]
        refine ⟨_, rfl, .inl ⟨rfl, _, SqL.of hf5⟩, _, rfl, _, rfl, _, rfl, _, rfl, hps, _, rfl, _, _, rfl, rfl, ?_, _, rfl, _, rfl, _, rfl, _, rfl, hps, _, _, rfl, rfl, ?_, f, _, _, rfl, rfl, hf5, ?_, ?_⟩
        · rw [e1]
          show (SX.S (part.take a)).length + (SX.S [97 + (turn.toNat + 3 * i) % 26]).length ≤ sizeLine
          rw [SX.S_len, SX.S_len, List.length_take]
          exact Nat.le_trans (show _ ≤ 8 by simp only [List.length_cons, List.length_nil]; omega) (by decide)
        · rw [e1, e2]
          show (SX.S (part.take a) ++ SX.S [97 + (turn.toNat + 3 * i) % 26]).length + (SX.S (part.drop a)).length ≤ sizeLine
          rw [SX.S_cat, SX.S_len, SX.S_len, List.length_append, List.length_take, List.length_drop]
          exact Nat.le_trans (show _ ≤ 8 by simp only [List.length_cons, List.length_nil]; omega) (by decide)
        · rw [List.length_map, List.length_map, List.length_range]
          exact small1000 (by omega)
        · refine ⟨_, _, _, _, rfl, (s5.new hP nl).mut hP nf0, ?_⟩
          rw [upd_same, e1, e2, List.range_succ, List.map_append, List.map_append]
          have e3 : SX.S (part.take a) ++ SX.S [97 + (turn.toNat + 3 * i) % 26] ++ SX.S (part.drop a) = SX.S (nameL bs way.toNat turn.toNat size.toNat i) := by
            rw [SX.S_cat, SX.S_cat]
            unfold nameL
            rw [hpart, ← ea]
          show some (HO.lst (_ ++ [V.str (SX.S (part.take a) ++ SX.S [97 + (turn.toNat + 3 * i) % 26] ++ SX.S (part.drop a))])) = _
          rw [e3]
          rfl
      · rintro σ H5 ⟨v9, v10, v11, v12, rfl, s5, hf⟩
        refine ⟨_, rfl, q f ((List.range many.toNat).map (nameL bs way.toNat turn.toNat size.toNat)) H5 s5 nf0 hf ?_ ?_ ?_⟩
        · rw [List.length_map, List.length_range]
          omega
        · refine List.pairwise_map.mpr (List.Pairwise.imp_of_mem ?_ (List.nodup_range (n := many.toNat)))
          intro a b ha hb ne e
          have ha := List.mem_range.mp ha
          have hb := List.mem_range.mp hb
          exact ne (nameL_inj hl (by omega) (by omega) (by omega) e)
        · intro z hz
          obtain ⟨k, _, rfl⟩ := List.mem_map.mp hz
          exact nameL_house hl hc
/-! ### town -/
def HouseS (h : Str) : Prop := House h.cps.toList
theorem HouseS.ok {z : Str} (h : HouseS z) : PyData.strOk z = true := by
  obtain ⟨h1, h2, h3⟩ := h
  unfold PyData.strOk
  rw [← Array.all_toList, List.all_eq_true]
  intro c hc
  have := h3 c hc
  exact decide_eq_true (by omega)
theorem canLay_strs : ∀ {hs : List Str}, (∀ h ∈ hs, PyData.strOk h = true) → PyData.canLayAll0 (hs.map PyData.str) = true
  | [], _ => rfl
  | h :: r, a => by
    show (PyData.strOk h && PyData.canLayAll0 (r.map PyData.str)) = true
    rw [a h List.mem_cons_self, canLay_strs fun x hx => a x (List.mem_cons_of_mem _ hx)]
    rfl
theorem depth_strs : ∀ {hs : List Str}, PyData.depthAll (hs.map PyData.str) = 0
  | [] => rfl
  | h :: r => by
    show max 0 (PyData.depthAll (r.map PyData.str)) = 0
    rw [depth_strs]
    rfl
theorem shaped_strs {hs : List Str} (a : ∀ h ∈ hs, PyData.strOk h = true) : SeqAt.shaped (.list (hs.map PyData.str)) = true := by
  unfold SeqAt.shaped
  rw [Bool.and_eq_true, decide_eq_true_eq]
  refine ⟨canLay_strs a, ?_⟩
  show PyData.depthAll (hs.map PyData.str) + 1 ≤ 64
  rw [depth_strs]
  decide
theorem dp_strs {H : Hp} : ∀ hs : List Str, DpAll K H (hs.map V.str) (hs.map PyData.str)
  | [] => .nil
  | h :: r => .cons (.str h) (dp_strs r)
def TownAt (H : Hp) (t : Addr) (hs gs : List Str) : Prop := ∃ a b : Addr, H t = some (.tup [.ref a, .ref b]) ∧ H a = some (.tup (hs.map V.str)) ∧ H b = some (.tup (gs.map V.str))
theorem Stp.town {p c t : Addr} {H H' : Hp} {hs gs : List Str} (s : Stp p c H H') (h : Pen H p c) (ht : TownAt H t hs gs) : TownAt H' t hs gs := by
  obtain ⟨a, b, h1, h2, h3⟩ := ht
  exact ⟨a, b, s.tup h h1, s.tup h h2, s.tup h h3⟩
structure Good (hs gs : List Str) (most : Nat) : Prop where
  one : 1 ≤ hs.length
  few : hs.length ≤ most
  nd : hs.Nodup
  up : sortedS hs = true
  hou : ∀ h ∈ hs, HouseS h
  sub : gs.Sublist hs
def sp_l_town : Sp := fun vs H Q _ => ∃ (p c : Addr) (most : Nat), vs = [.ref p, .int most] ∧ Pen H p c ∧ 1 ≤ most ∧ most ≤ 6 ∧
  ∀ (t : Addr) (hs gs : List Str) (H' : Hp), Stp p c H H' → TownAt H' t hs gs → Good hs gs most → Q (.ref t) H'
theorem ok_l_town (T : Txt K mg af fd) : FnOk P w K mg base CX0 4 (af 44) (fd 44) ["pen", "most"] sp_l_town := by
  refine T.F_l_town.ok sc_l_town (fun vs H Q E h => ?_) (fun cdv A outer s H vs Q E hr h => ?_)
  · obtain ⟨p, c, most, rfl, _⟩ := h
    rfl
  · obtain ⟨p, c, most, rfl, hP, m1, m6, q⟩ := h
    refine ⟨_, (pss_cons (ps_set (i := 2) sc_l_town.nd rfl (by first | exact Or.inl rfl | exact Or.inr rfl) (pe_callB cr_sortedS (by rfl) T.m_sorted (by decide +kernel) (pa_cons (pe_call (ok_l_names T) (hr.mono (by first | decide | omega)) (by rfl) T.g_l_names T.F_l_names.kp T.b_l_names .nil pass0 (pa_cons (pv 0) (pa_cons (pe_op op_add pe_int (pe_call (ok_l_take T) (hr.mono (by first | decide | omega)) (by rfl) T.g_l_take T.F_l_take.kp T.b_l_take .nil pass0 (pa_cons (pv 0) (pa_cons (pv 1) pa_nil)))) pa_nil))) pa_nil)))
        (pss_cons (ps_setLc (i := 3) (own := [("house", 4)]) (g := gName 4) (by rfl) sc_l_town.nd rfl rfl (sw_true rfl rfl rfl (by decide +kernel)) (pi_list (pv 2)) (blkOk_by (own := [("house", 4)]) (N := ["pen", "most", "houses", "gates", "house"]) (sc := defScope s_l_town) (by decide +kernel)) (fun _ _ _ _ _ => pg_name (i := 4) sc_l_town.nd rfl (Or.inl rfl)) (fun _ _ _ _ _ => (pts_one (pt_cmpR op_gt (pe_call (ok_l_take T) (hr.mono (by first | decide | omega)) (by rfl) T.g_l_take T.F_l_take.kp T.b_l_take .nil pass0 (pa_cons (pv 0) (pa_cons pe_int pa_nil))) pe_int (nomark _)))) (fun _ _ _ _ _ => (pv 4)))
        (C8.pss_cut (ps_if (PW.pt (pw_and (pt_cmpR (op_eqD hr.units) (pv 3) (pe_lst pa_nil) (nomark _)) (pw_and1 (pt_cmpR op_gt (pe_call (ok_l_take T) (hr.mono (by first | decide | omega)) (by rfl) T.g_l_take T.F_l_take.kp T.b_l_take .nil pass0 (pa_cons (pv 0) (pa_cons pe_int pa_nil))) pe_int (nomark _))))) (pss_one (ps_set (i := 3) sc_l_town.nd rfl (by first | exact Or.inl rfl | exact Or.inr rfl) (pe_slice sl_list (pv 2) po_none (po_some pe_int)))) pss_nil)
        (pss_one (ps_ret (pe_tup (pa_cons (pe_callTy call_tuple_of (by rfl) T.m_tuple (by decide +kernel) (pa_cons (pv 2) pa_nil)) (pa_cons (pe_callTy call_tuple_of (by rfl) T.m_tuple (by decide +kernel) (pa_cons (pv 3) pa_nil)) pa_nil)))))))), ?_⟩
    refine ⟨_, rfl, _, rfl, _, rfl, p, c, most, rfl, hP, by omega, Nat.lt_of_le_of_lt (show _ ≤ 6 by omega) (by decide), fun r H1 r0 r1 s1 => ?_⟩
    refine ⟨_, _, rfl, rfl, p, c, _, rfl, s1.1, by omega, by omega, fun f zs H2 s2 nf hf hl nd hh => ?_⟩
    have s12 := s1.trans s2
    have hf' : H2 f = some (.lst ((zs.map SX.S).map V.str)) := by rw [hf, List.map_map]; rfl
    refine ⟨f, zs.map SX.S, rfl, SqL.of hf', by rw [List.length_map]; omega, fun hs d pm up nd1 => ?_⟩
    have hlen : hs.length = zs.length := by rw [pm.length_eq, List.length_map]
    have hnd : hs.Nodup := pm.nodup_iff.mpr (List.pairwise_map.mpr (nd.imp fun ne e => ne (SX.S_inj e)))
    have hho : ∀ h ∈ hs, HouseS h := fun h m => by
      obtain ⟨z, mz, rfl⟩ := List.mem_map.mp (pm.mem_iff.mp m)
      exact hh z mz
    have nd0 : H d = none := s12.back hP nd1
    have s3 : Stp p c H (upd H2 d (.lst (hs.map V.str))) := s12.mut hP nd0
    -- gates
    refine ⟨_, rfl, d, rfl, ⟨_, SqL.of upd_same⟩, fun D nD => ?_⟩
    have nD0 : H D = none := s3.back hP nD
    have hdD : d ≠ D := fun e => by
      rw [← e, upd_same] at nD
      cases nD
    refine lc_list (K := K) (a := d) (xs := hs.map V.str) (fun i H' => Stp p c H H' ∧ H' d = some (.lst (hs.map V.str)) ∧ ∃ gs : List Str, H' D = some (.lst (gs.map V.str)) ∧ gs.Sublist (hs.take i))
      ⟨s3.mut hP nD0, by rw [upd_ne hdD, upd_same], [], upd_same, List.nil_sublist _⟩ (fun i H' _ h => SqL.of h.2.1) ?_ ?_
    · rintro i x H3 hx ⟨s4, hd, gs, hD, hg⟩
      rw [List.getElem?_map] at hx
      obtain ⟨h, hh, rfl⟩ := Option.map_eq_some_iff.mp hx
      have etake : hs.take (i + 1) = hs.take i ++ [h] := by rw [List.take_add_one, hh]; rfl
      refine ⟨rfl, _, rfl, p, c, 3, rfl, s4.1, by decide, by decide, fun r H4 r0 r1 s5 => ?_⟩
      have hd4 : H4 d = some (.lst (hs.map V.str)) := s5.2 d _ (fun e => hP.neP nd0 e.symm) hd
      have hD4 : H4 D = some (.lst (gs.map V.str)) := s5.2 D _ (fun e => hP.neP nD0 e.symm) hD
      refine ⟨_, _, rfl, rfl, _, rfl, ite2 (fun e => ?_) (fun e => ?_)⟩
      · refine ⟨_, rfl, _, hD4, ?_, (s4.trans s5).mut hP nD0, by rw [upd_ne hdD]; exact hd4, gs ++ [h], ?_, ?_⟩
        · rw [List.length_map]
          exact small1000 (Nat.le_trans (hg.length_le) (by rw [List.length_take]; omega))
        · rw [upd_same, List.map_append]
          rfl
        · rw [etake]
          exact hg.append (List.Sublist.refl _)
      · refine ⟨s4.trans s5, hd4, gs, hD4, ?_⟩
        rw [etake]
        exact hg.trans (List.sublist_append_left _ _)
    · rintro H3 ⟨s4, hd, gs, hD, hg⟩
      rw [List.length_map, List.take_length] at hg
      have hgo : ∀ h ∈ gs, PyData.strOk h = true := fun h m => (hho h (hg.subset m)).ok
      refine ⟨fun σ' H' => ∃ (g : Addr) (gs : List Str), σ' = [some (.ref p), some (.int most), some (.ref d), some (.ref g), none] ∧ Stp p c H H' ∧ H' d = some (.lst (hs.map V.str)) ∧ H' g = some (.lst (gs.map V.str)) ∧ gs.Sublist hs, ?_, ?_⟩
      · refine ⟨_, rfl, Nat.zero_le _, fun e ne => ?_⟩
        have s5 : Stp p c H (upd H3 e (.lst [])) := s4.new hP ne
        have hd5 : (upd H3 e (.lst [])) d = some (.lst (hs.map V.str)) := by rw [upd_ne (ne_of_none hd ne)]; exact hd
        have hD5 : (upd H3 e (.lst [])) D = some (.lst (gs.map V.str)) := by rw [upd_ne (ne_of_none hD ne)]; exact hD
        refine ⟨.list (gs.map PyData.str), .list [], Dp.lst (SqL.of hD5) (dp_strs gs), Dp.lst (SqL.of upd_same) .nil, shaped_strs hgo, rfl, _, rfl, ite2 (fun e => ?_) (fun e => ?_)⟩
        · refine ⟨_, rfl, p, c, 4, rfl, s5.1, by decide, by decide, fun r H4 r0 r1 s6 => ?_⟩
          have hd6 : H4 d = some (.lst (hs.map V.str)) := s6.2 d _ (fun e => hP.neP nd0 e.symm) hd5
          have hD6 : H4 D = some (.lst (gs.map V.str)) := s6.2 D _ (fun e => hP.neP nD0 e.symm) hD5
          refine ⟨_, _, rfl, rfl, _, rfl, ite2 (fun e => ?_) (fun e => ?_)⟩
          · refine ⟨_, rfl, 1, rfl, d, _, rfl, SqL.of hd6, fun g ng => ⟨g, hs.take 1, rfl, (s5.trans s6).new hP ng, ?_, ?_, List.take_sublist _ _⟩⟩
            · rw [upd_ne (ne_of_none hd6 ng)]
              exact hd6
            · rw [upd_same]
              have e := cut_to (hs.map V.str) 1
              rw [show ((1 : Nat) : Int) = 1 from rfl] at e
              rw [e, List.map_take]
          · exact ⟨D, gs, rfl, s5.trans s6, hd6, hD6, hg⟩
        · exact ⟨D, gs, rfl, s5, hd5, hD5, hg⟩
      · rintro σ' H' ⟨g, gs, rfl, s5, hd, hg, hsub⟩
        refine ⟨_, rfl, d, _, rfl, .inl ⟨SqL.of hd, fun a na => ?_⟩⟩
        have hg1 : (upd H' a (.tup (hs.map V.str))) g = some (.lst (gs.map V.str)) := by rw [upd_ne (ne_of_none hg na)]; exact hg
        refine ⟨_, rfl, g, _, rfl, .inl ⟨SqL.of hg1, fun b nb => ?_⟩⟩
        have s6 : Stp p c H (upd H' a (.tup (hs.map V.str))) := s5.new hP na
        have s7 := s6.new (o := .tup (gs.map V.str)) hP nb
        have hab : a ≠ b := fun e => by
          rw [← e, upd_same] at nb
          cases nb
        refine ⟨(by show 2 ≤ sizeLine; decide), fun t nt => ?_⟩
        have hta : a ≠ t := fun e => by
          rw [← e, upd_ne hab, upd_same] at nt
          cases nt
        have htb : b ≠ t := fun e => by
          rw [← e, upd_same] at nt
          cases nt
        refine q t hs gs _ (s7.new hP nt) ⟨a, b, upd_same, ?_, ?_⟩ ⟨?_, ?_, hnd, up, hho, hsub⟩
        · rw [upd_ne hta, upd_ne hab, upd_same]
        · rw [upd_ne htb, upd_same]
        · omega
        · omega
theorem pick_house {hs : List Str} {r : Int} (h0 : 0 ≤ r) (h1 : r < (hs.map V.str).length) : ∃ h, h ∈ hs ∧ atI (hs.map V.str) r = some (.str h) := by
  rw [List.length_map] at h1
  have hlt : r.toNat < hs.length := by omega
  refine ⟨hs[r.toNat], List.getElem_mem hlt, at_any (j := r.toNat) (by omega) ?_⟩
  rw [List.getElem?_map, List.getElem?_eq_getElem hlt]
  rfl
theorem TownAt.same' {t : Addr} {H H' : Hp} {hs gs : List Str} (h : TownAt H t hs gs) (s : Same H H') : TownAt H' t hs gs := by
  obtain ⟨a, b, h1, h2, h3⟩ := h
  exact ⟨a, b, s _ _ h1, s _ _ h2, s _ _ h3⟩
def TimeI (a : Int) : Prop := -1000000000000 ≤ a ∧ a ≤ 1000000000000
inductive RowV (hs : List Str) : List V → Prop
  | ask (h g : Str) (k n o b : Int) : h ∈ hs → g ∈ hs → 0 ≤ k → k ≤ 14 → 0 ≤ n → n ≤ 14 → TimeI o → TimeI b → o ≤ b → RowV hs [.str "ask", .str h, .int k, .int n, .str g, .int o, .int b]
  | job (h : Str) (k o b : Int) : h ∈ hs → 0 ≤ k → k ≤ 14 → TimeI o → TimeI b → o ≤ b → RowV hs [.str "job", .str h, .int k, .int o, .int b]
  | all (h : Str) (a j : Int) : h ∈ hs → 0 ≤ a → a ≤ 15 → 0 ≤ j → j ≤ 15 → RowV hs [.str "all", .str h, .int a, .int j]
/-! ### data of any kind: what reads as d at v, its lists outside Ex -/
mutual
inductive Dq (Ex : Addr → Prop) (H : Hp) : V → PyData → Prop
  | non : Dq Ex H .non .none
  | bl (b : Bool) : Dq Ex H (.bl b) (.bool b)
  | int (i : Int) : Dq Ex H (.int i) (.int i)
  | str (x : Str) : Dq Ex H (.str x) (.str x)
  | lst {a : Addr} {xs : List V} {ds : List PyData} : ¬ Ex a → H a = some (.lst xs) → Dqs Ex H xs ds → Dq Ex H (.ref a) (.list ds)
  | tup {a : Addr} {xs : List V} {ds : List PyData} : H a = some (.tup xs) → Dqs Ex H xs ds → Dq Ex H (.ref a) (.tuple ds)
inductive Dqs (Ex : Addr → Prop) (H : Hp) : List V → List PyData → Prop
  | nil : Dqs Ex H [] []
  | cons {v : V} {vs : List V} {d : PyData} {ds : List PyData} : Dq Ex H v d → Dqs Ex H vs ds → Dqs Ex H (v :: vs) (d :: ds)
end
mutual
theorem Dq.go {Ex Ey : Addr → Prop} {H H' : Hp} (he : ∀ a, Ey a → ¬ Ex a → H a = none) (hl : ∀ a xs, ¬ Ex a → H a = some (.lst xs) → H' a = some (.lst xs)) (ht : ∀ a xs, H a = some (.tup xs) → H' a = some (.tup xs)) : ∀ {v : V} {d : PyData}, Dq Ex H v d → Dq Ey H' v d
  | _, _, .non => .non
  | _, _, .bl b => .bl b
  | _, _, .int i => .int i
  | _, _, .str x => .str x
  | _, _, .lst n h r => .lst (fun z => by rw [he _ z n] at h; cases h) (hl _ _ n h) (Dqs.go he hl ht r)
  | _, _, .tup h r => .tup (ht _ _ h) (Dqs.go he hl ht r)
theorem Dqs.go {Ex Ey : Addr → Prop} {H H' : Hp} (he : ∀ a, Ey a → ¬ Ex a → H a = none) (hl : ∀ a xs, ¬ Ex a → H a = some (.lst xs) → H' a = some (.lst xs)) (ht : ∀ a xs, H a = some (.tup xs) → H' a = some (.tup xs)) : ∀ {vs : List V} {ds : List PyData}, Dqs Ex H vs ds → Dqs Ey H' vs ds
  | _, _, .nil => .nil
  | _, _, .cons h r => .cons (Dq.go he hl ht h) (Dqs.go he hl ht r)
end
mutual
theorem Dq.dp {K : PySem.W.Frag} {Ex : Addr → Prop} {H : Hp} : ∀ {v : V} {d : PyData}, Dq Ex H v d → Dp K H v d
  | _, _, .non => .non
  | _, _, .bl b => .bl b
  | _, _, .int i => .int i
  | _, _, .str x => .str x
  | _, _, .lst _ h r => .lst (SqL.of h) (Dqs.dp r)
  | _, _, .tup h r => .tup (SqT.of h) (Dqs.dp r)
theorem Dqs.dp {K : PySem.W.Frag} {Ex : Addr → Prop} {H : Hp} : ∀ {vs : List V} {ds : List PyData}, Dqs Ex H vs ds → DpAll K H vs ds
  | _, _, .nil => .nil
  | _, _, .cons h r => .cons (Dq.dp h) (Dqs.dp r)
end
theorem Dqs.len {Ex : Addr → Prop} {H : Hp} : ∀ {vs : List V} {ds : List PyData}, Dqs Ex H vs ds → vs.length = ds.length
  | _, _, .nil => rfl
  | _, _, .cons _ r => by rw [List.length_cons, List.length_cons, r.len]
theorem Dqs.get {Ex : Addr → Prop} {H : Hp} : ∀ {vs : List V} {ds : List PyData} {i : Nat} {d : PyData}, Dqs Ex H vs ds → ds[i]? = some d → ∃ v, vs[i]? = some v ∧ Dq Ex H v d
  | _, _, 0, _, .cons h _, e => ⟨_, rfl, by obtain rfl := Option.some.inj e; exact h⟩
  | _, _, _ + 1, _, .cons _ r, e => r.get e
theorem Dqs.take {Ex : Addr → Prop} {H : Hp} : ∀ {vs : List V} {ds : List PyData} (n : Nat), Dqs Ex H vs ds → Dqs Ex H (vs.take n) (ds.take n)
  | _, _, 0, _ => .nil
  | _, _, _ + 1, .nil => .nil
  | _, _, n + 1, .cons h r => .cons h (r.take n)
theorem Dqs.drop {Ex : Addr → Prop} {H : Hp} : ∀ {vs : List V} {ds : List PyData} (n : Nat), Dqs Ex H vs ds → Dqs Ex H (vs.drop n) (ds.drop n)
  | _, _, 0, r => r
  | _, _, _ + 1, .nil => .nil
  | _, _, n + 1, .cons _ r => r.drop n
theorem Dqs.app {Ex : Addr → Prop} {H : Hp} : ∀ {vs us : List V} {ds es : List PyData}, Dqs Ex H vs ds → Dqs Ex H us es → Dqs Ex H (vs ++ us) (ds ++ es)
  | _, _, _, _, .nil, r => r
  | _, _, _, _, .cons h r, q => .cons h (r.app q)
/-! the type's name -/
def tyN : PyData → String
  | .none => "NoneType"
  | .bool _ => "bool"
  | .int _ => "int"
  | .str _ => "str"
  | .list _ => "list"
  | .tuple _ => "tuple"
  | .dict _ => "dict"
theorem Dq.ty {K : PySem.W.Frag} {Ex : Addr → Prop} {H : Hp} {v : V} {d : PyData} (h : Dq Ex H v d) : TyX K H v (.type (tyN d)) := by
  cases h with
  | non => exact .base .non
  | bl b => exact .base (.bl b)
  | int i => exact .base (.int i)
  | str x => exact .base (.str x)
  | lst _ h _ => exact .base (.lst h)
  | tup h _ => exact .base (.tup h)
/-! isinstance(d, a built-in) -/
def isB (d : PyData) (n : String) : Bool := match d, n with
  | .bool _, "bool" => true
  | .bool _, "int" => true
  | .int _, "int" => true
  | .str _, "str" => true
  | .list _, "list" => true
  | .tuple _, "tuple" => true
  | _, _ => false
theorem isi_kit {K : PySem.W.Frag} {Ex : Addr → Prop} {H : Hp} {v : V} {d : PyData} {n : String} (h : Dq Ex H v d) (hn : n = "bool" ∨ n = "int" ∨ n = "str" ∨ n = "list" ∨ n = "tuple") : PySem.W.kitOne K (.type (tyN d)) (.type n) = some (isB d n) := by
  refine kit_ty ?_
  have key : ∀ e : PyData, (∀ kvs, e ≠ .dict kvs) → kitB (tyN e) n = some (isB e n) := by
    intro e he
    rcases hn with rfl | rfl | rfl | rfl | rfl <;> cases e <;> first | exact absurd rfl (he _) | rfl
  refine key d fun kvs e => ?_
  subst e
  cases h
theorem n_bool : "bool" = "bool" ∨ "bool" = "int" ∨ "bool" = "str" ∨ "bool" = "list" ∨ "bool" = "tuple" := .inl rfl
theorem n_int : "int" = "bool" ∨ "int" = "int" ∨ "int" = "str" ∨ "int" = "list" ∨ "int" = "tuple" := .inr (.inl rfl)
theorem n_str : "str" = "bool" ∨ "str" = "int" ∨ "str" = "str" ∨ "str" = "list" ∨ "str" = "tuple" := .inr (.inr (.inl rfl))
theorem n_list : "list" = "bool" ∨ "list" = "int" ∨ "list" = "str" ∨ "list" = "list" ∨ "list" = "tuple" := .inr (.inr (.inr (.inl rfl)))
theorem n_tuple : "tuple" = "bool" ∨ "tuple" = "int" ∨ "tuple" = "str" ∨ "tuple" = "list" ∨ "tuple" = "tuple" := .inr (.inr (.inr (.inr rfl)))
/-! x in t, x not in t, of any data -/
def rInTD (K : PySem.W.Frag) : R2 := fun x y H Q => ∃ d ds, Dp K H x d ∧ Dp K H y (.tuple ds) ∧ SeqAt.shaped d = true ∧ SeqAt.shaped (.tuple ds) = true ∧ Q (.bl (ds.any fun z => PyData.eqv z d)) H
def rNotInTD (K : PySem.W.Frag) : R2 := fun x y H Q => ∃ d ds, Dp K H x d ∧ Dp K H y (.tuple ds) ∧ SeqAt.shaped d = true ∧ SeqAt.shaped (.tuple ds) = true ∧ Q (.bl (!ds.any fun z => PyData.eqv z d)) H
theorem op_inTD {X : Cx} (hu : X.A.units + 65 < cLine) : OpR X (compareOp .In) (rInTD X.K) := by
  intro pins s σ H x y v u Q I rx ry h
  obtain ⟨d, ds, hd, he, sd, se, q⟩ := h
  obtain ⟨as, r1⟩ := Dp.reads I d x v hd rx
  obtain ⟨bs, r2⟩ := Dp.reads I (.tuple ds) y u he ry
  exact SeqAt.in_tuple_reads r2 r1 (SeqAt.canLay_of_shaped se) (SeqAt.canLay_of_shaped sd) (room_in_shaped sd hu) ⟨.bl _, H, I, rfl, q⟩
theorem op_notInTD {X : Cx} (hu : X.A.units + 65 < cLine) : OpR X (compareOp .NotIn) (rNotInTD X.K) := by
  intro pins s σ H x y v u Q I rx ry h
  obtain ⟨d, ds, hd, he, sd, se, q⟩ := h
  obtain ⟨as, r1⟩ := Dp.reads I d x v hd rx
  obtain ⟨bs, r2⟩ := Dp.reads I (.tuple ds) y u he ry
  exact SeqAt.notIn_tuple_reads r2 r1 (SeqAt.canLay_of_shaped se) (SeqAt.canLay_of_shaped sd) (room_in_shaped sd hu) ⟨.bl _, H, I, rfl, q⟩
theorem eqv_str {d : PyData} {x : Str} : PyData.eqv d (.str x) = true ↔ d = .str x := by
  cases d <;> simp [PyData.eqv]
theorem eqv_str' {d : PyData} {x : Str} : PyData.eqv (.str x) d = true ↔ d = .str x := by
  cases d <;> simp [PyData.eqv]
  exact ⟨fun e => e.symm, fun e => e.symm⟩
theorem any_strs {hs : List Str} {d : PyData} : ((hs.map PyData.str).any fun z => PyData.eqv z d) = true ↔ ∃ h ∈ hs, d = .str h := by
  rw [List.any_map, List.any_eq_true]
  constructor
  · rintro ⟨h, m, e⟩
    exact ⟨h, m, eqv_str'.mp e⟩
  · rintro ⟨h, m, e⟩
    exact ⟨h, m, eqv_str'.mpr e⟩
/-! data that may be laid, and not too deep -/
def Sh (d : PyData) : Prop := d.canLay0 = true ∧ d.depth ≤ 60
theorem Sh.shaped {d : PyData} (h : Sh d) : SeqAt.shaped d = true := by
  unfold SeqAt.shaped
  rw [h.1, Bool.true_and]
  exact decide_eq_true (Nat.le_trans h.2 (by decide))
theorem sh_all : ∀ {ds : List PyData}, PyData.canLayAll0 ds = true → PyData.depthAll ds ≤ 59 → ∀ d ∈ ds, Sh d
  | x :: xs, h1, h2, d, hd => by
    have h1' : (x.canLay0 && PyData.canLayAll0 xs) = true := h1
    rw [Bool.and_eq_true] at h1'
    have h2' : max x.depth (PyData.depthAll xs) ≤ 59 := h2
    rcases List.mem_cons.mp hd with e | m
    · subst e
      exact ⟨h1'.1, by omega⟩
    · exact sh_all h1'.2 (by omega) d m
theorem Sh.items {ds : List PyData} (h : Sh (.tuple ds)) : ∀ d ∈ ds, Sh d := sh_all h.1 (Nat.le_of_succ_le_succ h.2)
theorem Dq.same {Ex : Addr → Prop} {H H' : Hp} {v : V} {d : PyData} (h : Dq Ex H v d) (s : Same H H') : Dq Ex H' v d := h.go (fun _ a b => absurd a b) (fun _ _ _ e => s _ _ e) (fun _ _ e => s _ _ e)
theorem Dqs.same {Ex : Addr → Prop} {H H' : Hp} {v : List V} {d : List PyData} (h : Dqs Ex H v d) (s : Same H H') : Dqs Ex H' v d := h.go (fun _ a b => absurd a b) (fun _ _ _ e => s _ _ e) (fun _ _ e => s _ _ e)
/-! ### rows as data, and which clash (point 6) -/
inductive Row where
  | ask (h g : Str) (k n o b : Int)
  | job (h : Str) (k o b : Int)
  | all (h : Str) (a j : Int)
  deriving DecidableEq
def Row.data : Row → List PyData
  | .ask h g k n o b => [.str "ask", .str h, .int k, .int n, .str g, .int o, .int b]
  | .job h k o b => [.str "job", .str h, .int k, .int o, .int b]
  | .all h a j => [.str "all", .str h, .int a, .int j]
def Row.vals (r : Row) : List V := r.data.map Fl.dV
def Row.h : Row → Str
  | .ask h _ _ _ _ _ => h
  | .job h _ _ _ => h
  | .all h _ _ => h
def Row.word : Row → Str
  | .ask _ _ _ _ _ _ => "ask"
  | .job _ _ _ _ => "job"
  | .all _ _ _ => "all"
def NumI (k : Int) : Prop := 0 ≤ k ∧ k ≤ 14
def CntI (k : Int) : Prop := 0 ≤ k ∧ k ≤ 15
def Row.Wf : Row → Prop
  | .ask h g k n o b => PyData.strOk h = true ∧ PyData.strOk g = true ∧ NumI k ∧ NumI n ∧ TimeI o ∧ TimeI b ∧ o ≤ b
  | .job h k o b => PyData.strOk h = true ∧ NumI k ∧ TimeI o ∧ TimeI b ∧ o ≤ b
  | .all h a j => PyData.strOk h = true ∧ CntI a ∧ CntI j
def Row.In (hs : List Str) : Row → Prop
  | .ask h g _ _ _ _ => h ∈ hs ∧ g ∈ hs
  | .job h _ _ _ => h ∈ hs
  | .all h _ _ => h ∈ hs
theorem RowV.row {hs : List Str} {xs : List V} (hh : ∀ h ∈ hs, HouseS h) (x : RowV hs xs) : ∃ r : Row, xs = r.vals ∧ r.Wf ∧ r.In hs := by
  cases x with
  | ask h g k n o b mh mg k0 k1 n0 n1 to tb ob => exact ⟨.ask h g k n o b, rfl, ⟨(hh h mh).ok, (hh g mg).ok, ⟨k0, k1⟩, ⟨n0, n1⟩, to, tb, ob⟩, mh, mg⟩
  | job h k o b mh k0 k1 to tb ob => exact ⟨.job h k o b, rfl, ⟨(hh h mh).ok, ⟨k0, k1⟩, to, tb, ob⟩, mh⟩
  | all h a j mh a0 a1 j0 j1 => exact ⟨.all h a j, rfl, ⟨(hh h mh).ok, ⟨a0, a1⟩, ⟨j0, j1⟩⟩, mh⟩
def RowAt (H : Hp) (a : Addr) (r : Row) : Prop := H a = some (.tup r.vals)
theorem RowAt.t {H : Hp} {a : Addr} {r : Row} (h : RowAt H a r) : SqT K H a r.vals := SqT.of h
theorem at0 (r : Row) : atI r.vals 0 = some (.str r.word) := by cases r <;> rfl
theorem at1 (r : Row) : atI r.vals 1 = some (.str r.h) := by cases r <;> rfl
theorem dp_row {H : Hp} (r : Row) : DpAll K H r.vals r.data := by
  cases r with
  | ask h g k n o b => exact .cons (.str _) (.cons (.str _) (.cons (.int _) (.cons (.int _) (.cons (.str _) (.cons (.int _) (.cons (.int _) .nil))))))
  | job h k o b => exact .cons (.str _) (.cons (.str _) (.cons (.int _) (.cons (.int _) (.cons (.int _) .nil))))
  | all h a j => exact .cons (.str _) (.cons (.str _) (.cons (.int _) (.cons (.int _) .nil)))
theorem RowAt.dp {H : Hp} {a : Addr} {r : Row} (h : RowAt H a r) : Dp K H (.ref a) (.tuple r.data) := Dp.tup h.t (dp_row r)
theorem Row.Wf.sh {r : Row} (h : r.Wf) : SeqAt.shaped (.tuple r.data) = true := by
  unfold SeqAt.shaped
  rw [Bool.and_eq_true]
  cases r with
  | ask h' g k n o b =>
    refine ⟨?_, rfl⟩
    show (PyData.strOk "ask" && (PyData.strOk h' && (true && (true && (PyData.strOk g && (true && (true && true))))))) = true
    rw [h.1, h.2.1]
    decide +kernel
  | job h' k o b =>
    refine ⟨?_, rfl⟩
    show (PyData.strOk "job" && (PyData.strOk h' && (true && (true && (true && true))))) = true
    rw [h.1]
    decide +kernel
  | all h' a j =>
    refine ⟨?_, rfl⟩
    show (PyData.strOk "all" && (PyData.strOk h' && (true && (true && true)))) = true
    rw [h.1]
    decide +kernel
theorem row_eqv (x y : Row) : PyData.eqv (.tuple x.data) (.tuple y.data) = decide (x = y) := by
  have n1 : ((("ask" : Str)) == ("job" : Str)) = false := by decide +kernel
  have n2 : ((("ask" : Str)) == ("all" : Str)) = false := by decide +kernel
  have n3 : ((("job" : Str)) == ("ask" : Str)) = false := by decide +kernel
  have n4 : ((("job" : Str)) == ("all" : Str)) = false := by decide +kernel
  have n5 : ((("all" : Str)) == ("ask" : Str)) = false := by decide +kernel
  have n6 : ((("all" : Str)) == ("job" : Str)) = false := by decide +kernel
  have bdS : ∀ a b : Str, (a == b) = decide (a = b) := fun a b => by by_cases h : a = b <;> simp [h]
  have bdI : ∀ a b : Int, (a == b) = decide (a = b) := fun a b => by by_cases h : a = b <;> simp [h]
  cases x <;> cases y <;> simp [Row.data, PyData.eqv, PyData.eqvAll, n1, n2, n3, n4, n5, n6, bdS, bdI]
  rename_i h g k n o b h' g' k' n' o' b'
  generalize decide (h = h') = c1
  generalize decide (g = g') = c2
  generalize decide (k = k') = c3
  generalize decide (n = n') = c4
  cases c1 <;> cases c2 <;> cases c3 <;> cases c4 <;> rfl
theorem ff {p : Prop} (h : ¬ p) : (false = true ↔ p) := ⟨fun z => Bool.noConfusion z, fun z => absurd z h⟩
theorem tt {p : Prop} (h : p) : (true = true ↔ p) := ⟨fun _ => h, fun _ => rfl⟩
theorem w_aj : ("ask" : Str) ≠ ("job" : Str) := by decide +kernel
theorem w_aa : ("ask" : Str) ≠ ("all" : Str) := by decide +kernel
theorem w_ja : ("job" : Str) ≠ ("all" : Str) := by decide +kernel
theorem dstr {a b : Str} (h : a ≠ b) : decide (V.str a = V.str b) = false := decide_eq_false fun e => h (V.str.inj e)
theorem dstrT (a : Str) : decide (V.str a = V.str a) = true := decide_eq_true rfl
theorem word_len (r : Row) : r.word.length ≤ 3 := by
  cases r
  · exact (by decide +kernel : (Str.ofString "ask").length ≤ 3)
  · exact (by decide +kernel : (Str.ofString "job").length ≤ 3)
  · exact (by decide +kernel : (Str.ofString "all").length ≤ 3)
theorem row_flat (r : Row) : r.data.all Fl.flatD = true := by cases r <;> rfl
def ClashP : Row → Row → Prop
  | .ask h g k n o b, .ask h' g' k' n' o' b' => h = h' ∧ ¬ (Row.ask h g k n o b = .ask h' g' k' n' o' b') ∧ (k = k' ∨ (k < k' ∧ o' < o) ∨ (k' < k ∧ o < o'))
  | .job h k o b, .job h' k' o' b' => h = h' ∧ ¬ (Row.job h k o b = .job h' k' o' b') ∧ (k = k' ∨ (k < k' ∧ o' < o) ∨ (k' < k ∧ o < o'))
  | .all h a j, .all h' a' j' => h = h' ∧ ¬ (Row.all h a j = .all h' a' j')
  | .job h k o b, .ask h' _ _ n o' b' => h = h' ∧ ((k ≤ n ∧ o' ≤ o) ∨ (k = n ∧ b ≤ b'))
  | .ask h' _ _ n o' b', .job h k o b => h = h' ∧ ((k ≤ n ∧ o' ≤ o) ∨ (k = n ∧ b ≤ b'))
  | .all h a j, .ask h' _ k n _ _ => h = h' ∧ (a ≤ k ∨ j ≤ n)
  | .ask h' _ k n _ _, .all h a j => h = h' ∧ (a ≤ k ∨ j ≤ n)
  | .all h _ j, .job h' k _ _ => h = h' ∧ j ≤ k
  | .job h' k _ _, .all h _ j => h = h' ∧ j ≤ k
/-! ### the program's defs -/
def sp_is_out_of_order : Sp := fun vs H Q _ => ∃ (a t b u : Int), vs = [.int a, .int t, .int b, .int u] ∧ ∀ r : Bool, (r = true ↔ ((a < b ∧ u < t) ∨ (¬ a < b ∧ t < u))) → Q (.bl r) H
theorem ok_is_out_of_order (T : Txt K mg af fd) : FnOk P w K mg base CX0 1 (af 10) (fd 10) ["number", "time", "other_number", "other_time"] sp_is_out_of_order := by
  refine T.F_is_out_of_order.ok sc_is_out_of_order (fun vs H Q E h => ?_) (fun cdv A outer s H vs Q E hr h => ?_)
  · obtain ⟨a, t, b, u, rfl, _⟩ := h
    rfl
  · obtain ⟨a, t, b, u, rfl, q⟩ := h
    refine ⟨_, (pss_cons (ps_if (pt_cmpR op_lt (pv 0) (pv 2) (nomark _)) (pss_one (ps_ret (pe_cmpR op_gt (pv 1) (pv 3) (nomark _)))) pss_nil)
        (pss_one (ps_ret (pe_cmpR op_lt (pv 1) (pv 3) (nomark _))))), ?_⟩
    refine ⟨_, rfl, _, rfl, _, _, rfl, rfl, _, rfl, ite2 (fun e => ?_) (fun e => ?_)⟩
    · refine ⟨_, rfl, _, rfl, _, _, rfl, rfl, q _ ?_⟩
      have e1 := of_decide_eq_true e
      rw [decide_eq_true_eq]
      omega
    · refine ⟨_, rfl, _, rfl, _, _, rfl, rfl, q _ ?_⟩
      have e1 : ¬ a < b := fun h => e (decide_eq_true h)
      rw [decide_eq_true_eq]
      omega
def sp_do_asks_clash : Sp := fun vs H Q _ => ∃ (x y : Addr) (h g : Str) (k n o b : Int) (h' g' : Str) (k' n' o' b' : Int), vs = [.ref x, .ref y] ∧ RowAt H x (.ask h g k n o b) ∧ RowAt H y (.ask h' g' k' n' o' b') ∧ ∀ r : Bool, (r = true ↔ (k = k' ∨ (k < k' ∧ o' < o) ∨ (k' < k ∧ o < o'))) → Q (.bl r) H
theorem ok_do_asks_clash (T : Txt K mg af fd) : FnOk P w K mg base CX0 2 (af 11) (fd 11) ["one", "other"] sp_do_asks_clash := by
  refine T.F_do_asks_clash.ok sc_do_asks_clash (fun vs H Q E h => ?_) (fun cdv A outer s H vs Q E hr h => ?_)
  · obtain ⟨x, y, h, g, k, n, o, b, h', g', k', n', o', b', rfl, _⟩ := h
    rfl
  · obtain ⟨x, y, h, g, k, n, o, b, h', g', k', n', o', b', rfl, hx, hy, q⟩ := h
    refine ⟨_, (pss_cons (ps_par (i := 2) (j := 3) (by rfl) sc_do_asks_clash.nd rfl rfl (by decide) rfl rfl (pa_cons (pe_ix ix_tup (pv 0) pe_int (fun _ _ => rfl)) (pa_cons (pe_ix ix_tup (pv 0) pe_int (fun _ _ => rfl)) pa_nil)) (by rfl))
        (pss_cons (ps_par (i := 4) (j := 5) (by rfl) sc_do_asks_clash.nd rfl rfl (by decide) rfl rfl (pa_cons (pe_ix ix_tup (pv 1) pe_int (fun _ _ => rfl)) (pa_cons (pe_ix ix_tup (pv 1) pe_int (fun _ _ => rfl)) pa_nil)) (by rfl))
        (pss_one (ps_ret (pe_or (pe_cmpR op_eq (pv 2) (pv 4) (nomark _)) (pe_one (pe_call (ok_is_out_of_order T) (hr.mono (by first | decide | omega)) (by rfl) T.g_is_out_of_order T.F_is_out_of_order.kp T.b_is_out_of_order .nil pass0 (pa_cons (pv 2) (pa_cons (pv 3) (pa_cons (pv 4) (pa_cons (pv 5) pa_nil))))))))))), ?_⟩
    refine ⟨_, rfl, x, _, 2, _, rfl, rfl, hx.t, rfl, _, rfl, x, _, 5, _, rfl, rfl, hx.t, rfl, _, _, rfl, ?_⟩
    refine ⟨_, rfl, y, _, 2, _, rfl, rfl, hy.t, rfl, _, rfl, y, _, 5, _, rfl, rfl, hy.t, rfl, _, _, rfl, ?_⟩
    refine ⟨_, rfl, _, rfl, rfl, _, rfl, ite2 (fun e => ?_) (fun e => ?_)⟩
    · have e1 := V.int.inj (of_decide_eq_true e)
      exact q true ⟨fun _ => .inl e1, fun _ => rfl⟩
    · have e1 : ¬ k = k' := fun z => e (decide_eq_true (congrArg V.int z))
      refine ⟨_, rfl, _, rfl, _, rfl, _, rfl, k, o, k', o', rfl, fun r hr => q r ?_⟩
      rw [hr]
      omega
def sp_do_jobs_clash : Sp := fun vs H Q _ => ∃ (x y : Addr) (h : Str) (k o b : Int) (h' : Str) (k' o' b' : Int), vs = [.ref x, .ref y] ∧ RowAt H x (.job h k o b) ∧ RowAt H y (.job h' k' o' b') ∧ ∀ r : Bool, (r = true ↔ (k = k' ∨ (k < k' ∧ o' < o) ∨ (k' < k ∧ o < o'))) → Q (.bl r) H
theorem ok_do_jobs_clash (T : Txt K mg af fd) : FnOk P w K mg base CX0 2 (af 12) (fd 12) ["one", "other"] sp_do_jobs_clash := by
  refine T.F_do_jobs_clash.ok sc_do_jobs_clash (fun vs H Q E h => ?_) (fun cdv A outer s H vs Q E hr h => ?_)
  · obtain ⟨x, y, h, k, o, b, h', k', o', b', rfl, _⟩ := h
    rfl
  · obtain ⟨x, y, h, k, o, b, h', k', o', b', rfl, hx, hy, q⟩ := h
    refine ⟨_, (pss_cons (ps_par (i := 2) (j := 3) (by rfl) sc_do_jobs_clash.nd rfl rfl (by decide) rfl rfl (pa_cons (pe_ix ix_tup (pv 0) pe_int (fun _ _ => rfl)) (pa_cons (pe_ix ix_tup (pv 0) pe_int (fun _ _ => rfl)) pa_nil)) (by rfl))
        (pss_cons (ps_par (i := 4) (j := 5) (by rfl) sc_do_jobs_clash.nd rfl rfl (by decide) rfl rfl (pa_cons (pe_ix ix_tup (pv 1) pe_int (fun _ _ => rfl)) (pa_cons (pe_ix ix_tup (pv 1) pe_int (fun _ _ => rfl)) pa_nil)) (by rfl))
        (pss_one (ps_ret (pe_or (pe_cmpR op_eq (pv 2) (pv 4) (nomark _)) (pe_one (pe_call (ok_is_out_of_order T) (hr.mono (by first | decide | omega)) (by rfl) T.g_is_out_of_order T.F_is_out_of_order.kp T.b_is_out_of_order .nil pass0 (pa_cons (pv 2) (pa_cons (pv 3) (pa_cons (pv 4) (pa_cons (pv 5) pa_nil))))))))))), ?_⟩
    refine ⟨_, rfl, x, _, 2, _, rfl, rfl, hx.t, rfl, _, rfl, x, _, 3, _, rfl, rfl, hx.t, rfl, _, _, rfl, ?_⟩
    refine ⟨_, rfl, y, _, 2, _, rfl, rfl, hy.t, rfl, _, rfl, y, _, 3, _, rfl, rfl, hy.t, rfl, _, _, rfl, ?_⟩
    refine ⟨_, rfl, _, rfl, rfl, _, rfl, ite2 (fun e => ?_) (fun e => ?_)⟩
    · have e1 := V.int.inj (of_decide_eq_true e)
      exact q true ⟨fun _ => .inl e1, fun _ => rfl⟩
    · have e1 : ¬ k = k' := fun z => e (decide_eq_true (congrArg V.int z))
      refine ⟨_, rfl, _, rfl, _, rfl, _, rfl, k, o, k', o', rfl, fun r hr => q r ?_⟩
      rw [hr]
      omega
def sp_do_job_and_ask_clash : Sp := fun vs H Q _ => ∃ (x y : Addr) (h : Str) (k o b : Int) (h' g' : Str) (k' n' o' b' : Int), vs = [.ref x, .ref y] ∧ RowAt H x (.job h k o b) ∧ RowAt H y (.ask h' g' k' n' o' b') ∧ ∀ r : Bool, (r = true ↔ ((k ≤ n' ∧ o' ≤ o) ∨ (k = n' ∧ b ≤ b'))) → Q (.bl r) H
theorem ok_do_job_and_ask_clash (T : Txt K mg af fd) : FnOk P w K mg base CX0 1 (af 13) (fd 13) ["job", "ask"] sp_do_job_and_ask_clash := by
  refine T.F_do_job_and_ask_clash.ok sc_do_job_and_ask_clash (fun vs H Q E h => ?_) (fun cdv A outer s H vs Q E hr h => ?_)
  · obtain ⟨x, y, h, k, o, b, h', g', k', n', o', b', rfl, _⟩ := h
    rfl
  · obtain ⟨x, y, h, k, o, b, h', g', k', n', o', b', rfl, hx, hy, q⟩ := h
    refine ⟨_, (pss_cons (ps_par3 (i := 2) (j := 3) (l := 4) (by rfl) sc_do_job_and_ask_clash.nd rfl rfl rfl (by decide) (by decide) (by decide) rfl rfl rfl (pa_cons (pe_ix ix_tup (pv 0) pe_int (fun _ _ => rfl)) (pa_cons (pe_ix ix_tup (pv 0) pe_int (fun _ _ => rfl)) (pa_cons (pe_ix ix_tup (pv 0) pe_int (fun _ _ => rfl)) pa_nil))) (by rfl))
        (pss_cons (ps_par3 (i := 5) (j := 6) (l := 7) (by rfl) sc_do_job_and_ask_clash.nd rfl rfl rfl (by decide) (by decide) (by decide) rfl rfl rfl (pa_cons (pe_ix ix_tup (pv 1) pe_int (fun _ _ => rfl)) (pa_cons (pe_ix ix_tup (pv 1) pe_int (fun _ _ => rfl)) (pa_cons (pe_ix ix_tup (pv 1) pe_int (fun _ _ => rfl)) pa_nil))) (by rfl))
        (pss_cons (ps_if (PW.pt (pw_and (pt_cmpR op_le (pv 2) (pv 5) (nomark _)) (pw_and1 (pt_cmpR op_ge (pv 3) (pv 6) (nomark _))))) (pss_one (ps_ret pe_bl)) pss_nil)
        (pss_one (ps_ret (pe_and (pe_cmpR op_eq (pv 2) (pv 5) (nomark _)) (pe_one (pe_cmpR op_le (pv 4) (pv 7) (nomark _))))))))), ?_⟩
    refine ⟨_, rfl, x, _, 2, _, rfl, rfl, hx.t, rfl, _, rfl, x, _, 3, _, rfl, rfl, hx.t, rfl, _, rfl, x, _, 4, _, rfl, rfl, hx.t, rfl, _, _, _, rfl, ?_⟩
    refine ⟨_, rfl, y, _, 3, _, rfl, rfl, hy.t, rfl, _, rfl, y, _, 5, _, rfl, rfl, hy.t, rfl, _, rfl, y, _, 6, _, rfl, rfl, hy.t, rfl, _, _, _, rfl, ?_⟩
    refine ⟨_, rfl, _, rfl, _, _, rfl, rfl, _, rfl, ite2 (fun e => ?_) (fun e => ?_)⟩
    · have e1 := of_decide_eq_true e
      refine ⟨_, rfl, _, rfl, _, _, rfl, rfl, _, rfl, ite2 (fun e2 => ?_) (fun e2 => ?_)⟩
      · have e3 := of_decide_eq_true e2
        exact q true ⟨fun _ => .inl ⟨e1, e3⟩, fun _ => rfl⟩
      · have e3 : ¬ o' ≤ o := fun z => e2 (decide_eq_true z)
        refine ⟨_, rfl, _, rfl, rfl, _, rfl, ite2 (fun e4 => ?_) (fun e4 => ?_)⟩
        · have e5 := V.int.inj (of_decide_eq_true e4)
          refine ⟨_, rfl, _, rfl, _, _, rfl, rfl, q _ ?_⟩
          rw [decide_eq_true_eq]
          omega
        · have e5 : ¬ k = n' := fun z => e4 (decide_eq_true (congrArg V.int z))
          exact q false (ff (by omega))
    · have e1 : ¬ k ≤ n' := fun z => e (decide_eq_true z)
      refine iteF ?_
      refine ⟨_, rfl, _, rfl, rfl, _, rfl, ite2 (fun e4 => ?_) (fun e4 => ?_)⟩
      · have e5 := V.int.inj (of_decide_eq_true e4)
        omega
      · have e5 : ¬ k = n' := fun z => e4 (decide_eq_true (congrArg V.int z))
        exact q false (ff (by omega))
/-! an all row against an ask or a job -/
def AllP (a j : Int) : Row → Prop
  | .ask _ _ k n _ _ => a ≤ k ∨ j ≤ n
  | .job _ k _ _ => j ≤ k
  | .all _ _ _ => False
def sp_does_all_row_clash : Sp := fun vs H Q _ => ∃ (x y : Addr) (h : Str) (a j : Int) (r : Row), vs = [.ref x, .ref y] ∧ RowAt H x (.all h a j) ∧ RowAt H y r ∧ r.word ≠ "all" ∧ ∀ b : Bool, (b = true ↔ AllP a j r) → Q (.bl b) H
theorem ok_does_all_row_clash (T : Txt K mg af fd) : FnOk P w K mg base CX0 1 (af 14) (fd 14) ["all_row", "other"] sp_does_all_row_clash := by
  refine T.F_does_all_row_clash.ok sc_does_all_row_clash (fun vs H Q E h => ?_) (fun cdv A outer s H vs Q E hr h => ?_)
  · obtain ⟨x, y, h, a, j, r, rfl, _⟩ := h
    rfl
  · obtain ⟨x, y, h, a, j, r, rfl, hx, hy, hw, q⟩ := h
    refine ⟨_, (pss_cons (ps_par (i := 2) (j := 3) (by rfl) sc_does_all_row_clash.nd rfl rfl (by decide) rfl rfl (pa_cons (pe_ix ix_tup (pv 0) pe_int (fun _ _ => rfl)) (pa_cons (pe_ix ix_tup (pv 0) pe_int (fun _ _ => rfl)) pa_nil)) (by rfl))
        (pss_cons (ps_if (pt_cmpR op_eq (pe_ix ix_tup (pv 1) pe_int (fun _ _ => rfl)) pe_str (nomark _)) (pss_one (ps_ret (pe_or (pe_cmpR op_ge (pe_ix ix_tup (pv 1) pe_int (fun _ _ => rfl)) (pv 2) (nomark _)) (pe_one (pe_cmpR op_ge (pe_ix ix_tup (pv 1) pe_int (fun _ _ => rfl)) (pv 3) (nomark _)))))) pss_nil)
        (pss_one (ps_ret (pe_cmpR op_ge (pe_ix ix_tup (pv 1) pe_int (fun _ _ => rfl)) (pv 3) (nomark _)))))), ?_⟩
    refine ⟨_, rfl, x, _, 2, _, rfl, rfl, hx.t, rfl, _, rfl, x, _, 3, _, rfl, rfl, hx.t, rfl, _, _, rfl, ?_⟩
    refine ⟨_, rfl, y, _, 0, _, rfl, rfl, hy.t, at0 r, rfl, _, rfl, ?_⟩
    cases r with
    | ask h' g k n o b =>
      refine ite2 (fun e => ?_) (fun e => absurd (dstrT "ask") e)
      refine ⟨_, rfl, y, _, 2, _, rfl, rfl, hy.t, rfl, _, rfl, _, _, rfl, rfl, _, rfl, ite2 (fun e1 => ?_) (fun e1 => ?_)⟩
      · have e2 := of_decide_eq_true e1
        exact q true (tt (.inl e2))
      · have e2 : ¬ a ≤ k := fun z => e1 (decide_eq_true z)
        refine ⟨_, rfl, y, _, 3, _, rfl, rfl, hy.t, rfl, _, rfl, _, _, rfl, rfl, q _ ?_⟩
        rw [decide_eq_true_eq]
        exact ⟨fun z => .inr z, fun z => z.resolve_left e2⟩
    | job h' k o b =>
      refine ite2 (fun e => ?_) (fun e => ?_)
      · exact absurd (e.symm.trans (dstr (fun z => w_aj z.symm))) (by decide)
      · refine ⟨_, rfl, y, _, 2, _, rfl, rfl, hy.t, rfl, _, rfl, _, _, rfl, rfl, q _ ?_⟩
        rw [decide_eq_true_eq]
        exact Iff.rfl
    | all h' a' j' => exact absurd rfl hw
def sp_clash (P2 : Row → Row → Prop) (ok : Row → Row → Prop) : Sp := fun vs H Q _ => ∃ (x y : Addr) (r t : Row), vs = [.ref x, .ref y] ∧ RowAt H x r ∧ RowAt H y t ∧ r.Wf ∧ t.Wf ∧ ok r t ∧ ∀ b : Bool, (b = true ↔ P2 r t) → Q (.bl b) H
def AlikeOk (r t : Row) : Prop := r.word = t.word ∧ r.h = t.h ∧ r ≠ t
theorem ok_do_alike_sorts_clash (T : Txt K mg af fd) : FnOk P w K mg base CX0 3 (af 15) (fd 15) ["one", "other"] (sp_clash ClashP AlikeOk) := by
  refine T.F_do_alike_sorts_clash.ok sc_do_alike_sorts_clash (fun vs H Q E h => ?_) (fun cdv A outer s H vs Q E hr h => ?_)
  · obtain ⟨x, y, r, t, rfl, _⟩ := h
    rfl
  · obtain ⟨x, y, r, t, rfl, hx, hy, _, _, ⟨hw, hh, hne⟩, q⟩ := h
    refine ⟨_, (pss_cons (ps_if (pt_cmpR op_eq (pe_ix ix_tup (pv 0) pe_int (fun _ _ => rfl)) pe_str (nomark _)) (pss_one (ps_ret (pe_call (ok_do_asks_clash T) (hr.mono (by first | decide | omega)) (by rfl) T.g_do_asks_clash T.F_do_asks_clash.kp T.b_do_asks_clash .nil pass0 (pa_cons (pv 0) (pa_cons (pv 1) pa_nil))))) pss_nil)
        (pss_cons (ps_if (pt_cmpR op_eq (pe_ix ix_tup (pv 0) pe_int (fun _ _ => rfl)) pe_str (nomark _)) (pss_one (ps_ret (pe_call (ok_do_jobs_clash T) (hr.mono (by first | decide | omega)) (by rfl) T.g_do_jobs_clash T.F_do_jobs_clash.kp T.b_do_jobs_clash .nil pass0 (pa_cons (pv 0) (pa_cons (pv 1) pa_nil))))) pss_nil)
        (pss_one (ps_ret pe_bl)))), ?_⟩
    refine ⟨_, rfl, x, _, 0, _, rfl, rfl, hx.t, at0 r, rfl, _, rfl, ?_⟩
    cases r with
    | ask h g k n o b =>
      refine ite2 (fun e => ?_) (fun e => absurd (dstrT "ask") e)
      cases t with
      | ask h' g' k' n' o' b' =>
        refine ⟨_, rfl, _, rfl, x, y, h, g, k, n, o, b, h', g', k', n', o', b', rfl, hx, hy, fun r hr => q r ?_⟩
        rw [hr]
        exact ⟨fun z => ⟨hh, hne, z⟩, fun z => z.2.2⟩
      | job h' k' o' b' => exact absurd hw w_aj
      | all h' a' j' => exact absurd hw w_aa
    | job h k o b =>
      refine ite2 (fun e => absurd (e.symm.trans (dstr (fun z => w_aj z.symm))) (by decide)) (fun e => ?_)
      refine ⟨_, rfl, x, _, 0, _, rfl, rfl, hx.t, at0 _, rfl, _, rfl, ite2 (fun e => ?_) (fun e => absurd (dstrT "job") e)⟩
      cases t with
      | ask h' g' k' n' o' b' => exact absurd hw.symm w_aj
      | job h' k' o' b' =>
        refine ⟨_, rfl, _, rfl, x, y, h, k, o, b, h', k', o', b', rfl, hx, hy, fun r hr => q r ?_⟩
        rw [hr]
        exact ⟨fun z => ⟨hh, hne, z⟩, fun z => z.2.2⟩
      | all h' a' j' => exact absurd hw w_ja
    | all h a j =>
      refine ite2 (fun e => absurd (e.symm.trans (dstr (fun z => w_aa z.symm))) (by decide)) (fun e => ?_)
      refine ⟨_, rfl, x, _, 0, _, rfl, rfl, hx.t, at0 _, rfl, _, rfl, ite2 (fun e => absurd (e.symm.trans (dstr (fun z => w_ja z.symm))) (by decide)) (fun e => ?_)⟩
      cases t with
      | ask h' g' k' n' o' b' => exact absurd hw.symm w_aa
      | job h' k' o' b' => exact absurd hw.symm w_ja
      | all h' a' j' => exact q true (tt ⟨hh, hne⟩)
theorem ok_do_clash (T : Txt K mg af fd) : FnOk P w K mg base CX0 4 (af 16) (fd 16) ["one", "other"] (sp_clash ClashP (fun _ _ => True)) := by
  refine T.F_do_clash.ok sc_do_clash (fun vs H Q E h => ?_) (fun cdv A outer s H vs Q E hr h => ?_)
  · obtain ⟨x, y, r, t, rfl, _⟩ := h
    rfl
  · obtain ⟨x, y, r, t, rfl, hx, hy, wr, wt, _, q⟩ := h
    refine ⟨_, (pss_cons (ps_if (PW.pt (pw_or (pt_cmpR op_ne (pe_ix ix_tup (pv 0) pe_int (fun _ _ => rfl)) (pe_ix ix_tup (pv 1) pe_int (fun _ _ => rfl)) (nomark _)) (pw_or1 (pt_cmpR (op_eqD hr.units) (pv 0) (pv 1) (nomark _))))) (pss_one (ps_ret pe_bl)) pss_nil)
        (pss_cons (ps_if (pt_cmpR op_eq (pe_ix ix_tup (pv 0) pe_int (fun _ _ => rfl)) (pe_ix ix_tup (pv 1) pe_int (fun _ _ => rfl)) (nomark _)) (pss_one (ps_ret (pe_call (ok_do_alike_sorts_clash T) (hr.mono (by first | decide | omega)) (by rfl) T.g_do_alike_sorts_clash T.F_do_alike_sorts_clash.kp T.b_do_alike_sorts_clash .nil pass0 (pa_cons (pv 0) (pa_cons (pv 1) pa_nil))))) pss_nil)
        (pss_cons (ps_if (pt_cmpR op_eq (pe_ix ix_tup (pv 0) pe_int (fun _ _ => rfl)) pe_str (nomark _)) (pss_one (ps_ret (pe_call (ok_does_all_row_clash T) (hr.mono (by first | decide | omega)) (by rfl) T.g_does_all_row_clash T.F_does_all_row_clash.kp T.b_does_all_row_clash .nil pass0 (pa_cons (pv 0) (pa_cons (pv 1) pa_nil))))) pss_nil)
        (pss_cons (ps_if (pt_cmpR op_eq (pe_ix ix_tup (pv 1) pe_int (fun _ _ => rfl)) pe_str (nomark _)) (pss_one (ps_ret (pe_call (ok_does_all_row_clash T) (hr.mono (by first | decide | omega)) (by rfl) T.g_does_all_row_clash T.F_does_all_row_clash.kp T.b_does_all_row_clash .nil pass0 (pa_cons (pv 1) (pa_cons (pv 0) pa_nil))))) pss_nil)
        (pss_cons (ps_if (pt_cmpR op_eq (pe_ix ix_tup (pv 0) pe_int (fun _ _ => rfl)) pe_str (nomark _)) (pss_one (ps_ret (pe_call (ok_do_job_and_ask_clash T) (hr.mono (by first | decide | omega)) (by rfl) T.g_do_job_and_ask_clash T.F_do_job_and_ask_clash.kp T.b_do_job_and_ask_clash .nil pass0 (pa_cons (pv 0) (pa_cons (pv 1) pa_nil))))) pss_nil)
        (pss_one (ps_ret (pe_call (ok_do_job_and_ask_clash T) (hr.mono (by first | decide | omega)) (by rfl) T.g_do_job_and_ask_clash T.F_do_job_and_ask_clash.kp T.b_do_job_and_ask_clash .nil pass0 (pa_cons (pv 1) (pa_cons (pv 0) pa_nil)))))))))), ?_⟩
    refine ⟨_, rfl, x, _, 1, _, rfl, rfl, hx.t, at1 r, _, rfl, y, _, 1, _, rfl, rfl, hy.t, at1 t, rfl, _, rfl, ite2 (fun e => iteT ?_) (fun e => ?_)⟩
    · have hh : r.h ≠ t.h := fun z => by
        rw [z, dstrT] at e
        cases e
      refine q false (ff fun z => hh ?_)
      cases r <;> cases t <;> first | exact z.1 | exact z.1.symm
    have hh : r.h = t.h := by
      refine Decidable.byContradiction fun z => e ?_
      rw [dstr z]
      rfl
    refine ⟨_, rfl, _, rfl, _, _, hx.dp, hy.dp, wr.sh, wt.sh, _, rfl, ?_⟩
    rw [row_eqv]
    refine ite2 (fun e2 => ?_) (fun e2 => ?_)
    · have e3 := of_decide_eq_true e2
      subst e3
      refine q false (ff fun z => ?_)
      cases r <;> first | exact z.2.1 rfl | exact z.2 rfl
    have hne : r ≠ t := fun z => e2 (decide_eq_true z)
    -- if one[0] == other[0]
    refine ⟨_, rfl, x, _, 0, _, rfl, rfl, hx.t, at0 r, _, rfl, y, _, 0, _, rfl, rfl, hy.t, at0 t, rfl, _, rfl, ite2 (fun e3 => ?_) (fun e3 => ?_)⟩
    · have e4 := V.str.inj (of_decide_eq_true e3)
      exact ⟨_, rfl, _, rfl, x, y, r, t, rfl, hx, hy, wr, wt, ⟨e4, hh, hne⟩, q⟩
    have hw : r.word ≠ t.word := fun z => e3 (decide_eq_true (congrArg V.str z))
    -- if one[0] == "all"
    refine ⟨_, rfl, x, _, 0, _, rfl, rfl, hx.t, at0 r, rfl, _, rfl, ite2 (fun e5 => ?_) (fun e5 => ?_)⟩
    · have e6 := V.str.inj (of_decide_eq_true e5)
      cases r with
      | ask h g k n o b => exact absurd e6 w_aa
      | job h k o b => exact absurd e6 w_ja
      | all h a j =>
        refine ⟨_, rfl, _, rfl, x, y, h, a, j, t, rfl, hx, hy, fun z => hw z.symm, fun b hb => q b ?_⟩
        rw [hb]
        cases t with
        | ask h' g' k' n' o' b' => exact ⟨fun z => ⟨hh, z⟩, fun z => z.2⟩
        | job h' k' o' b' => exact ⟨fun z => ⟨hh, z⟩, fun z => z.2⟩
        | all h' a' j' => exact absurd rfl hw
    refine ⟨_, rfl, y, _, 0, _, rfl, rfl, hy.t, at0 t, rfl, _, rfl, ite2 (fun e7 => ?_) (fun e7 => ?_)⟩
    · have e6 := V.str.inj (of_decide_eq_true e7)
      cases t with
      | ask h g k n o b => exact absurd e6 w_aa
      | job h k o b => exact absurd e6 w_ja
      | all h a j =>
        refine ⟨_, rfl, _, rfl, y, x, h, a, j, r, rfl, hy, hx, fun z => hw z, fun b hb => q b ?_⟩
        rw [hb]
        cases r with
        | ask h' g' k' n' o' b' => exact ⟨fun z => ⟨hh.symm, z⟩, fun z => z.2⟩
        | job h' k' o' b' => exact ⟨fun z => ⟨hh.symm, z⟩, fun z => z.2⟩
        | all h' a' j' => exact absurd rfl hw
    refine ⟨_, rfl, x, _, 0, _, rfl, rfl, hx.t, at0 r, rfl, _, rfl, ite2 (fun e8 => ?_) (fun e8 => ?_)⟩
    · have e6 := V.str.inj (of_decide_eq_true e8)
      cases r with
      | ask h g k n o b => exact absurd e6 w_aj
      | all h a j => exact absurd e6.symm w_ja
      | job h k o b =>
        cases t with
        | job h' k' o' b' => exact absurd rfl hw
        | all h' a' j' => exact absurd (dstrT "all") e7
        | ask h' g' k' n' o' b' =>
          refine ⟨_, rfl, _, rfl, x, y, h, k, o, b, h', g', k', n', o', b', rfl, hx, hy, fun r hr => q r ?_⟩
          rw [hr]
          exact ⟨fun z => ⟨hh, z⟩, fun z => z.2⟩
    · cases r with
      | job h k o b => exact absurd (dstrT "job") e8
      | all h a j => exact absurd (dstrT "all") e5
      | ask h' g' k' n' o' b' =>
        cases t with
        | ask h2 g2 k2 n2 o2 b2 => exact absurd rfl hw
        | all h2 a2 j2 => exact absurd (dstrT "all") e7
        | job h k o b =>
          refine ⟨_, rfl, _, rfl, y, x, h, k, o, b, h', g', k', n', o', b', rfl, hy, hx, fun r hr => q r ?_⟩
          rw [hr]
          exact ⟨fun z => ⟨hh.symm, z⟩, fun z => z.2⟩
theorem clash_comm (r t : Row) : ClashP r t ↔ ClashP t r := by
  cases r <;> cases t <;> simp only [ClashP] <;> constructor <;> intro z
  all_goals first
    | exact z
    | exact ⟨z.1.symm, fun e => z.2.1 e.symm, by omega⟩
    | exact ⟨z.1.symm, fun e => z.2 e.symm⟩
/-! ### the program's look at rows -/
theorem shaped_tup_strs {hs : List Str} (a : ∀ h ∈ hs, PyData.strOk h = true) : SeqAt.shaped (.tuple (hs.map PyData.str)) = true := by
  unfold SeqAt.shaped
  rw [Bool.and_eq_true, decide_eq_true_eq]
  refine ⟨canLay_strs a, ?_⟩
  show PyData.depthAll (hs.map PyData.str) + 1 ≤ 64
  rw [depth_strs]
  decide
theorem hu65 {A : Around} {k : Nat} (hr : Room k A) : A.units + 65 < cLine := by have := hr.un; omega
theorem sh_word {w : Str} (h : PyData.strOk w = true) : SeqAt.shaped (.str w) = true := by
  unfold SeqAt.shaped
  rw [Bool.and_eq_true]
  exact ⟨h, rfl⟩
theorem dp_tup_strs {H : Hp} {th : Addr} {hs : List Str} (h : H th = some (.tup (hs.map V.str))) : Dp K H (.ref th) (.tuple (hs.map PyData.str)) := .tup (SqT.of h) (dp_strs hs)
theorem len_ne {n m : Nat} (h : ¬ (!decide (V.int (n : Int) = V.int (m : Int))) = true) : n = m := by
  have h2 : decide (V.int (n : Int) = V.int (m : Int)) = true := by
    cases e : decide (V.int (n : Int) = V.int (m : Int)) with
    | true => rfl
    | false => exact absurd (by rw [e]; rfl) h
  have h3 := V.int.inj (of_decide_eq_true h2)
  omega
theorem len_ne' {n m : Nat} (h : (!decide (V.int (n : Int) = V.int (m : Int))) = true) : n ≠ m := fun e => by
  rw [e, decide_eq_true rfl] at h
  cases h
theorem some_int {d : PyData} (h1 : isB d "bool" = false) (h2 : isB d "int" = true) : ∃ i, d = .int i := by
  cases d with
  | int i => exact ⟨i, rfl⟩
  | bool b => exact absurd h1 (by simp [isB])
  | _ => exact absurd h2 (by simp [isB])
def InI (lo hi : Int) (d : PyData) : Prop := ∃ i, d = .int i ∧ lo ≤ i ∧ i ≤ hi
def sp_is_whole_from : Sp := fun vs H Q _ => ∃ (Ex : Addr → Prop) (v : V) (d : PyData) (lo hi : Int), vs = [v, .int lo, .int hi] ∧ Dq Ex H v d ∧ ∀ r : Bool, (r = true ↔ InI lo hi d) → Q (.bl r) H
theorem ok_is_whole_from (T : Txt K mg af fd) : FnOk P w K mg base CX0 1 (af 1) (fd 1) ["thing", "low", "high"] sp_is_whole_from := by
  refine T.F_is_whole_from.ok sc_is_whole_from (fun vs H Q E h => ?_) (fun cdv A outer s H vs Q E hr h => ?_)
  · obtain ⟨Ex, v, d, lo, hi, rfl, _⟩ := h
    rfl
  · obtain ⟨Ex, v, d, lo, hi, rfl, hd, q⟩ := h
    refine ⟨_, (pss_cons (ps_if (PW.pt (pw_or (pt_val (pe_callB call_isi (by rfl) T.m_isinstance (by decide +kernel) (pa_cons (pv 0) (pa_cons (pe_bltn (v := .ty "bool") (by rfl) T.m_bool (by decide +kernel) rfl) pa_nil)))) (pw_or1 (pt_not (pt_val (pe_callB call_isi (by rfl) T.m_isinstance (by decide +kernel) (pa_cons (pv 0) (pa_cons (pe_bltn (v := .ty "int") (by rfl) T.m_int (by decide +kernel) rfl) pa_nil)))))))) (pss_one (ps_ret pe_bl)) pss_nil)
        (pss_one (ps_ret (pe_chain op_le op_le (pv 1) (pv 0) (pv 2))))), ?_⟩
    refine ⟨_, rfl, _, _, _, _, _, rfl, .ty "bool", hd.ty, isi_kit hd n_bool, _, rfl, ?_⟩
    cases e1 : isB d "bool" with
    | true =>
      refine iteT (iteT ?_)
      refine q false (ff fun ⟨i, e, _⟩ => ?_)
      subst e
      exact absurd e1 (by simp [isB])
    | false =>
      refine iteF ⟨_, rfl, _, _, _, _, _, rfl, .ty "int", hd.ty, isi_kit hd n_int, _, rfl, ?_⟩
      cases e2 : isB d "int" with
      | false =>
        refine iteT ?_
        refine q false (ff fun ⟨i, e, _⟩ => ?_)
        subst e
        exact absurd e2 (by simp [isB])
      | true =>
        refine iteF ?_
        obtain ⟨i, rfl⟩ := some_int e1 e2
        cases hd
        refine ⟨_, rfl, _, rfl, _, _, rfl, rfl, _, rfl, ite2 (fun z => ?_) (fun z => ?_)⟩
        · have z1 := of_decide_eq_true z
          refine ⟨_, rfl, _, _, rfl, rfl, q _ ?_⟩
          rw [decide_eq_true_eq]
          exact ⟨fun h => ⟨i, rfl, z1, h⟩, fun ⟨j, e, _, h⟩ => by obtain rfl := PyData.int.inj e; exact h⟩
        · exact q false (ff fun ⟨j, e, h, _⟩ => z (decide_eq_true (by obtain rfl := PyData.int.inj e; exact h)))
def sp_in (lo hi : Int) : Sp := fun vs H Q _ => ∃ (Ex : Addr → Prop) (v : V) (d : PyData), vs = [v] ∧ Dq Ex H v d ∧ ∀ r : Bool, (r = true ↔ InI lo hi d) → Q (.bl r) H
theorem ok_is_time (T : Txt K mg af fd) : FnOk P w K mg base CX0 2 (af 2) (fd 2) ["thing"] (sp_in (-1000000000000) 1000000000000) := by
  refine T.F_is_time.ok sc_is_time (fun vs H Q E h => ?_) (fun cdv A outer s H vs Q E hr h => ?_)
  · obtain ⟨Ex, v, d, rfl, _⟩ := h
    rfl
  · obtain ⟨Ex, v, d, rfl, hd, q⟩ := h
    refine ⟨_, (pss_one (ps_ret (pe_call (ok_is_whole_from T) (hr.mono (by first | decide | omega)) (by rfl) T.g_is_whole_from T.F_is_whole_from.kp T.b_is_whole_from .nil pass0 (pa_cons (pv 0) (pa_cons (pe_un un_neg (pe_glob (v := .int (1000000000000)) rfl T.c_MOST_TIME.choose_spec ⟨_, rfl⟩)) (pa_cons (pe_glob (v := .int (1000000000000)) rfl T.c_MOST_TIME.choose_spec ⟨_, rfl⟩) pa_nil)))))), ?_⟩
    exact ⟨_, rfl, _, rfl, Ex, v, d, _, _, rfl, hd, q⟩
theorem ok_is_number (T : Txt K mg af fd) : FnOk P w K mg base CX0 2 (af 3) (fd 3) ["thing"] (sp_in 0 14) := by
  refine T.F_is_number.ok sc_is_number (fun vs H Q E h => ?_) (fun cdv A outer s H vs Q E hr h => ?_)
  · obtain ⟨Ex, v, d, rfl, _⟩ := h
    rfl
  · obtain ⟨Ex, v, d, rfl, hd, q⟩ := h
    refine ⟨_, (pss_one (ps_ret (pe_call (ok_is_whole_from T) (hr.mono (by first | decide | omega)) (by rfl) T.g_is_whole_from T.F_is_whole_from.kp T.b_is_whole_from .nil pass0 (pa_cons (pv 0) (pa_cons pe_int (pa_cons (pe_glob (v := .int (14)) rfl T.c_MOST_NUMBER.choose_spec ⟨_, rfl⟩) pa_nil)))))), ?_⟩
    exact ⟨_, rfl, Ex, v, d, _, _, rfl, hd, q⟩
theorem ok_is_count (T : Txt K mg af fd) : FnOk P w K mg base CX0 2 (af 4) (fd 4) ["thing"] (sp_in 0 15) := by
  refine T.F_is_count.ok sc_is_count (fun vs H Q E h => ?_) (fun cdv A outer s H vs Q E hr h => ?_)
  · obtain ⟨Ex, v, d, rfl, _⟩ := h
    rfl
  · obtain ⟨Ex, v, d, rfl, hd, q⟩ := h
    refine ⟨_, (pss_one (ps_ret (pe_call (ok_is_whole_from T) (hr.mono (by first | decide | omega)) (by rfl) T.g_is_whole_from T.F_is_whole_from.kp T.b_is_whole_from .nil pass0 (pa_cons (pv 0) (pa_cons pe_int (pa_cons (pe_glob (v := .int (15)) rfl T.c_MOST_COUNT.choose_spec ⟨_, rfl⟩) pa_nil)))))), ?_⟩
    exact ⟨_, rfl, Ex, v, d, _, _, rfl, hd, q⟩
def SpanD (d e : PyData) : Prop := ∃ i j, d = .int i ∧ e = .int j ∧ TimeI i ∧ TimeI j ∧ i ≤ j
def sp_is_span : Sp := fun vs H Q _ => ∃ (Ex : Addr → Prop) (v u : V) (d e : PyData), vs = [v, u] ∧ Dq Ex H v d ∧ Dq Ex H u e ∧ ∀ r : Bool, (r = true ↔ SpanD d e) → Q (.bl r) H
theorem ok_is_span (T : Txt K mg af fd) : FnOk P w K mg base CX0 3 (af 5) (fd 5) ["low", "high"] sp_is_span := by
  refine T.F_is_span.ok sc_is_span (fun vs H Q E h => ?_) (fun cdv A outer s H vs Q E hr h => ?_)
  · obtain ⟨Ex, v, u, d, e, rfl, _⟩ := h
    rfl
  · obtain ⟨Ex, v, u, d, e, rfl, hd, he, q⟩ := h
    refine ⟨_, (pss_one (ps_ret (pe_and (pe_call (ok_is_time T) (hr.mono (by first | decide | omega)) (by rfl) T.g_is_time T.F_is_time.kp T.b_is_time .nil pass0 (pa_cons (pv 0) pa_nil)) (pe_and (pe_call (ok_is_time T) (hr.mono (by first | decide | omega)) (by rfl) T.g_is_time T.F_is_time.kp T.b_is_time .nil pass0 (pa_cons (pv 1) pa_nil)) (pe_one (pe_cmpR op_le (pv 0) (pv 1) (nomark _))))))), ?_⟩
    refine ⟨_, rfl, Ex, v, d, rfl, hd, fun r hr1 => ⟨r, rfl, ite2 (fun z => ?_) (fun z => ?_)⟩⟩
    · obtain ⟨i, rfl, i0, i1⟩ := hr1.mp z
      refine ⟨_, rfl, Ex, u, e, rfl, he, fun r2 hr2 => ⟨r2, rfl, ite2 (fun z2 => ?_) (fun z2 => ?_)⟩⟩
      · obtain ⟨j, rfl, j0, j1⟩ := hr2.mp z2
        cases hd
        cases he
        refine ⟨_, rfl, _, rfl, _, _, rfl, rfl, q _ ?_⟩
        rw [decide_eq_true_eq]
        exact ⟨fun h => ⟨i, j, rfl, rfl, ⟨i0, i1⟩, ⟨j0, j1⟩, h⟩, fun ⟨a, b, e1, e2, _, _, h⟩ => by obtain rfl := PyData.int.inj e1; obtain rfl := PyData.int.inj e2; exact h⟩
      · exact q false (ff fun ⟨a, b, e1, e2, _, h, _⟩ => z2 (hr2.mpr ⟨b, e2, h.1, h.2⟩))
    · exact q false (ff fun ⟨a, b, e1, e2, h, _, _⟩ => z (hr1.mpr ⟨a, e1, h.1, h.2⟩))
/-! rows by their data -/
def Row.Bd : Row → Prop
  | .ask _ _ k n o b => NumI k ∧ NumI n ∧ TimeI o ∧ TimeI b ∧ o ≤ b
  | .job _ k o b => NumI k ∧ TimeI o ∧ TimeI b ∧ o ≤ b
  | .all _ a j => CntI a ∧ CntI j
def IsRowD (hs : List Str) (d : PyData) : Prop := ∃ r : Row, d = .tuple r.data ∧ r.In hs ∧ r.Bd
def sp_kind (w : Str) : Sp := fun vs H Q _ => ∃ (Ex : Addr → Prop) (th a : Addr) (hs : List Str) (xs : List V) (ds : List PyData), vs = [.ref th, .ref a] ∧ H th = some (.tup (hs.map V.str)) ∧ (∀ h ∈ hs, PyData.strOk h = true) ∧ H a = some (.tup xs) ∧ Dqs Ex H xs ds ∧ (∀ d ∈ ds, Sh d) ∧
  ∀ r : Bool, (r = true ↔ ∃ x : Row, x.word = w ∧ ds = x.data ∧ x.In hs ∧ x.Bd) → Q (.bl r) H
theorem ok_is_ask_row (T : Txt K mg af fd) : FnOk P w K mg base CX0 4 (af 6) (fd 6) ["houses", "thing"] (sp_kind "ask") := by
  refine T.F_is_ask_row.ok sc_is_ask_row (fun vs H Q E h => ?_) (fun cdv A outer s H vs Q E hr h => ?_)
  · obtain ⟨Ex, th, a, hs, xs, ds, rfl, _⟩ := h
    rfl
  · obtain ⟨Ex, th, a, hs, xs, ds, rfl, hth, hok, ha, hds, hsh, q⟩ := h
    refine ⟨_, (pss_cons (ps_if (pt_cmpR op_ne (pe_callB call_len_seq (by rfl) T.m_len (by decide +kernel) (pa_cons (pv 1) pa_nil)) pe_int (nomark _)) (pss_one (ps_ret pe_bl)) pss_nil)
        (pss_cons (ps_asg (pv 1) (pg_tup rfl (pgs_cons (pg_name (i := 2) sc_is_ask_row.nd rfl (by first | exact Or.inl rfl | exact Or.inr rfl)) (pgs_cons (pg_name (i := 3) sc_is_ask_row.nd rfl (by first | exact Or.inl rfl | exact Or.inr rfl)) (pgs_cons (pg_name (i := 4) sc_is_ask_row.nd rfl (by first | exact Or.inl rfl | exact Or.inr rfl)) (pgs_cons (pg_name (i := 5) sc_is_ask_row.nd rfl (by first | exact Or.inl rfl | exact Or.inr rfl)) (pgs_cons (pg_name (i := 6) sc_is_ask_row.nd rfl (by first | exact Or.inl rfl | exact Or.inr rfl)) (pgs_cons (pg_name (i := 7) sc_is_ask_row.nd rfl (by first | exact Or.inl rfl | exact Or.inr rfl)) (pgs_cons (pg_name (i := 8) sc_is_ask_row.nd rfl (by first | exact Or.inl rfl | exact Or.inr rfl)) pgs_nil)))))))))
        (pss_cons (ps_if (PW.pt (pw_or (pt_cmpR (op_neD hr.units) (pv 2) pe_str (nomark _)) (pw_or (pt_cmpR (op_notInTD (hu65 hr)) (pv 3) (pv 0) (by rfl)) (pw_or1 (pt_cmpR (op_notInTD (hu65 hr)) (pv 6) (pv 0) (by rfl)))))) (pss_one (ps_ret pe_bl)) pss_nil)
        (pss_one (ps_ret (pe_and (pe_call (ok_is_number T) (hr.mono (by first | decide | omega)) (by rfl) T.g_is_number T.F_is_number.kp T.b_is_number .nil pass0 (pa_cons (pv 4) pa_nil)) (pe_and (pe_call (ok_is_number T) (hr.mono (by first | decide | omega)) (by rfl) T.g_is_number T.F_is_number.kp T.b_is_number .nil pass0 (pa_cons (pv 5) pa_nil)) (pe_one (pe_call (ok_is_span T) (hr.mono (by first | decide | omega)) (by rfl) T.g_is_span T.F_is_span.kp T.b_is_span .nil pass0 (pa_cons (pv 7) (pa_cons (pv 8) pa_nil))))))))))), ?_⟩
    refine ⟨_, rfl, a, _, rfl, .inr (SqT.of ha), rfl, _, rfl, ite2 (fun z => ?_) (fun z => ?_)⟩
    · refine q false (ff fun ⟨x, e, e2, _⟩ => len_ne' (m := 7) z ?_)
      rw [hds.len, e2]
      cases x with
      | ask => rfl
      | job => exact absurd e.symm w_aj
      | all => exact absurd e.symm w_aa
    have hl := len_ne (m := 7) z
    have hl2 := hds.len.symm.trans hl
    match xs, ds, hds, hl with
    | [v0, v1, v2, v3, v4, v5, v6], [d0, d1, d2, d3, d4, d5, d6], .cons q0 (.cons q1 (.cons q2 (.cons q3 (.cons q4 (.cons q5 (.cons q6 .nil)))))), _ =>
      refine ⟨_, rfl, a, _, rfl, SqT.of ha, rfl, _, _, rfl, _, _, rfl, _, _, rfl, _, _, rfl, _, _, rfl, _, _, rfl, _, _, rfl, rfl, ?_⟩
      refine ⟨_, rfl, d0, .str "ask", q0.dp, .str _, (hsh d0 (by simp)).shaped, sh_word (by decide +kernel), _, rfl, ite2 (fun z0 => iteT ?_) (fun z0 => ?_)⟩
      · refine q false (ff fun ⟨x, e, e2, _⟩ => ?_)
        have e3 : d0 = .str "ask" := by
          cases x with
          | ask => exact (List.cons.inj e2).1
          | job => exact absurd e.symm w_aj
          | all => exact absurd e.symm w_aa
        rw [eqv_str.mpr e3] at z0
        cases z0
      have e0 : d0 = .str "ask" := eqv_str.mp (by
        cases e : PyData.eqv d0 (.str "ask") with
        | true => rfl
        | false => exact absurd (by rw [e]; rfl) z0)
      subst e0
      refine ⟨_, rfl, _, rfl, d1, _, q1.dp, dp_tup_strs hth, (hsh d1 (by simp)).shaped, shaped_tup_strs hok, _, rfl, ite2 (fun z1 => iteT ?_) (fun z1 => ?_)⟩
      · refine q false (ff fun ⟨x, e, e2, hin, _⟩ => ?_)
        cases x with
        | ask h g k n o b =>
          have e3 := (List.cons.inj (List.cons.inj e2).2).1
          rw [any_strs.mpr ⟨h, hin.1, e3⟩] at z1
          cases z1
        | job => exact absurd e.symm w_aj
        | all => exact absurd e.symm w_aa
      obtain ⟨h, mh, rfl⟩ : ∃ h ∈ hs, d1 = .str h := any_strs.mp (by
        cases e : ((hs.map PyData.str).any fun z => PyData.eqv z d1) with
        | true => rfl
        | false => exact absurd (by rw [e]; rfl) z1)
      refine ⟨_, rfl, _, rfl, d4, _, q4.dp, dp_tup_strs hth, (hsh d4 (by simp)).shaped, shaped_tup_strs hok, _, rfl, ite2 (fun z4 => ?_) (fun z4 => ?_)⟩
      · refine q false (ff fun ⟨x, e, e2, hin, _⟩ => ?_)
        cases x with
        | ask h g k n o b =>
          simp only [Row.data, List.cons.injEq] at e2
          rw [any_strs.mpr ⟨g, hin.2, e2.2.2.2.2.1⟩] at z4
          cases z4
        | job => exact absurd e.symm w_aj
        | all => exact absurd e.symm w_aa
      obtain ⟨g, mg4, rfl⟩ : ∃ h ∈ hs, d4 = .str h := any_strs.mp (by
        cases e : ((hs.map PyData.str).any fun z => PyData.eqv z d4) with
        | true => rfl
        | false => exact absurd (by rw [e]; rfl) z4)
      refine ⟨_, rfl, Ex, v2, d2, rfl, q2, fun r2 h2 => ⟨r2, rfl, ite2 (fun z2 => ?_) (fun z2 => ?_)⟩⟩
      · obtain ⟨k, rfl, k0, k1⟩ := h2.mp z2
        refine ⟨_, rfl, Ex, v3, d3, rfl, q3, fun r3 h3 => ⟨r3, rfl, ite2 (fun z3 => ?_) (fun z3 => ?_)⟩⟩
        · obtain ⟨n, rfl, n0, n1⟩ := h3.mp z3
          refine ⟨_, rfl, _, rfl, Ex, v5, v6, d5, d6, rfl, q5, q6, fun r hr6 => q r ?_⟩
          rw [hr6]
          constructor
          · rintro ⟨i, j, rfl, rfl, ti, tj, ij⟩
            exact ⟨.ask h g k n i j, rfl, rfl, ⟨mh, mg4⟩, ⟨k0, k1⟩, ⟨n0, n1⟩, ti, tj, ij⟩
          · rintro ⟨x, e, e2, hin, hb⟩
            cases x with
            | ask h' g' k' n' o' b' =>
              simp only [Row.data, List.cons.injEq] at e2
              exact ⟨o', b', e2.2.2.2.2.2.1, e2.2.2.2.2.2.2.1, hb.2.2.1, hb.2.2.2.1, hb.2.2.2.2⟩
            | job => exact absurd e.symm w_aj
            | all => exact absurd e.symm w_aa
        · refine q false (ff fun ⟨x, e, e2, hin, hb⟩ => z3 (h3.mpr ?_))
          cases x with
          | ask h' g' k' n' o' b' =>
            simp only [Row.data, List.cons.injEq] at e2
            exact ⟨n', e2.2.2.2.1, hb.2.1.1, hb.2.1.2⟩
          | job => exact absurd e.symm w_aj
          | all => exact absurd e.symm w_aa
      · refine q false (ff fun ⟨x, e, e2, hin, hb⟩ => z2 (h2.mpr ?_))
        cases x with
        | ask h' g' k' n' o' b' =>
          simp only [Row.data, List.cons.injEq] at e2
          exact ⟨k', e2.2.2.1, hb.1.1, hb.1.2⟩
        | job => exact absurd e.symm w_aj
        | all => exact absurd e.symm w_aa
theorem ok_is_job_row (T : Txt K mg af fd) : FnOk P w K mg base CX0 4 (af 7) (fd 7) ["houses", "thing"] (sp_kind "job") := by
  refine T.F_is_job_row.ok sc_is_job_row (fun vs H Q E h => ?_) (fun cdv A outer s H vs Q E hr h => ?_)
  · obtain ⟨Ex, th, a, hs, xs, ds, rfl, _⟩ := h
    rfl
  · obtain ⟨Ex, th, a, hs, xs, ds, rfl, hth, hok, ha, hds, hsh, q⟩ := h
    refine ⟨_, (pss_cons (ps_if (pt_cmpR op_ne (pe_callB call_len_seq (by rfl) T.m_len (by decide +kernel) (pa_cons (pv 1) pa_nil)) pe_int (nomark _)) (pss_one (ps_ret pe_bl)) pss_nil)
        (pss_cons (ps_asg (pv 1) (pg_tup rfl (pgs_cons (pg_name (i := 2) sc_is_job_row.nd rfl (by first | exact Or.inl rfl | exact Or.inr rfl)) (pgs_cons (pg_name (i := 3) sc_is_job_row.nd rfl (by first | exact Or.inl rfl | exact Or.inr rfl)) (pgs_cons (pg_name (i := 4) sc_is_job_row.nd rfl (by first | exact Or.inl rfl | exact Or.inr rfl)) (pgs_cons (pg_name (i := 5) sc_is_job_row.nd rfl (by first | exact Or.inl rfl | exact Or.inr rfl)) (pgs_cons (pg_name (i := 6) sc_is_job_row.nd rfl (by first | exact Or.inl rfl | exact Or.inr rfl)) pgs_nil)))))))
        (pss_cons (ps_if (PW.pt (pw_or (pt_cmpR (op_neD hr.units) (pv 2) pe_str (nomark _)) (pw_or1 (pt_cmpR (op_notInTD (hu65 hr)) (pv 3) (pv 0) (by rfl))))) (pss_one (ps_ret pe_bl)) pss_nil)
        (pss_one (ps_ret (pe_and (pe_call (ok_is_number T) (hr.mono (by first | decide | omega)) (by rfl) T.g_is_number T.F_is_number.kp T.b_is_number .nil pass0 (pa_cons (pv 4) pa_nil)) (pe_one (pe_call (ok_is_span T) (hr.mono (by first | decide | omega)) (by rfl) T.g_is_span T.F_is_span.kp T.b_is_span .nil pass0 (pa_cons (pv 5) (pa_cons (pv 6) pa_nil)))))))))), ?_⟩
    refine ⟨_, rfl, a, _, rfl, .inr (SqT.of ha), rfl, _, rfl, ite2 (fun z => ?_) (fun z => ?_)⟩
    · refine q false (ff fun ⟨x, e, e2, _⟩ => len_ne' (m := 5) z ?_)
      rw [hds.len, e2]
      cases x with
      | job => rfl
      | ask => exact absurd e w_aj
      | all => exact absurd e.symm w_ja
    have hl := len_ne (m := 5) z
    match xs, ds, hds, hl with
    | [v0, v1, v2, v3, v4], [d0, d1, d2, d3, d4], .cons q0 (.cons q1 (.cons q2 (.cons q3 (.cons q4 .nil)))), _ =>
      refine ⟨_, rfl, a, _, rfl, SqT.of ha, rfl, _, _, rfl, _, _, rfl, _, _, rfl, _, _, rfl, _, _, rfl, rfl, ?_⟩
      refine ⟨_, rfl, d0, .str "job", q0.dp, .str _, (hsh d0 (by simp)).shaped, sh_word (by decide +kernel), _, rfl, ite2 (fun z0 => iteT ?_) (fun z0 => ?_)⟩
      · refine q false (ff fun ⟨x, e, e2, _⟩ => ?_)
        have e3 : d0 = .str "job" := by
          cases x with
          | job => exact (List.cons.inj e2).1
          | ask => exact absurd e w_aj
          | all => exact absurd e.symm w_ja
        rw [eqv_str.mpr e3] at z0
        cases z0
      have e0 : d0 = .str "job" := eqv_str.mp (by
        cases e : PyData.eqv d0 (.str "job") with
        | true => rfl
        | false => exact absurd (by rw [e]; rfl) z0)
      subst e0
      refine ⟨_, rfl, _, rfl, d1, _, q1.dp, dp_tup_strs hth, (hsh d1 (by simp)).shaped, shaped_tup_strs hok, _, rfl, ite2 (fun z1 => ?_) (fun z1 => ?_)⟩
      · refine q false (ff fun ⟨x, e, e2, hin, _⟩ => ?_)
        cases x with
        | job h k o b =>
          have e3 := (List.cons.inj (List.cons.inj e2).2).1
          rw [any_strs.mpr ⟨h, hin, e3⟩] at z1
          cases z1
        | ask => exact absurd e w_aj
        | all => exact absurd e.symm w_ja
      obtain ⟨h, mh, rfl⟩ : ∃ h ∈ hs, d1 = .str h := any_strs.mp (by
        cases e : ((hs.map PyData.str).any fun z => PyData.eqv z d1) with
        | true => rfl
        | false => exact absurd (by rw [e]; rfl) z1)
      refine ⟨_, rfl, Ex, v2, d2, rfl, q2, fun r2 h2 => ⟨r2, rfl, ite2 (fun z2 => ?_) (fun z2 => ?_)⟩⟩
      · obtain ⟨k, rfl, k0, k1⟩ := h2.mp z2
        refine ⟨_, rfl, _, rfl, Ex, v3, v4, d3, d4, rfl, q3, q4, fun r hr6 => q r ?_⟩
        rw [hr6]
        constructor
        · rintro ⟨i, j, rfl, rfl, ti, tj, ij⟩
          exact ⟨.job h k i j, rfl, rfl, mh, ⟨k0, k1⟩, ti, tj, ij⟩
        · rintro ⟨x, e, e2, hin, hb⟩
          cases x with
          | job h' k' o' b' =>
            simp only [Row.data, List.cons.injEq] at e2
            exact ⟨o', b', e2.2.2.2.1, e2.2.2.2.2.1, hb.2.1, hb.2.2.1, hb.2.2.2⟩
          | ask => exact absurd e w_aj
          | all => exact absurd e.symm w_ja
      · refine q false (ff fun ⟨x, e, e2, hin, hb⟩ => z2 (h2.mpr ?_))
        cases x with
        | job h' k' o' b' =>
          simp only [Row.data, List.cons.injEq] at e2
          exact ⟨k', e2.2.2.1, hb.1.1, hb.1.2⟩
        | ask => exact absurd e w_aj
        | all => exact absurd e.symm w_ja
theorem ok_is_all_row (T : Txt K mg af fd) : FnOk P w K mg base CX0 3 (af 8) (fd 8) ["houses", "thing"] (sp_kind "all") := by
  refine T.F_is_all_row.ok sc_is_all_row (fun vs H Q E h => ?_) (fun cdv A outer s H vs Q E hr h => ?_)
  · obtain ⟨Ex, th, a, hs, xs, ds, rfl, _⟩ := h
    rfl
  · obtain ⟨Ex, th, a, hs, xs, ds, rfl, hth, hok, ha, hds, hsh, q⟩ := h
    refine ⟨_, (pss_cons (ps_if (pt_cmpR op_ne (pe_callB call_len_seq (by rfl) T.m_len (by decide +kernel) (pa_cons (pv 1) pa_nil)) pe_int (nomark _)) (pss_one (ps_ret pe_bl)) pss_nil)
        (pss_cons (ps_asg (pv 1) (pg_tup rfl (pgs_cons (pg_name (i := 2) sc_is_all_row.nd rfl (by first | exact Or.inl rfl | exact Or.inr rfl)) (pgs_cons (pg_name (i := 3) sc_is_all_row.nd rfl (by first | exact Or.inl rfl | exact Or.inr rfl)) (pgs_cons (pg_name (i := 4) sc_is_all_row.nd rfl (by first | exact Or.inl rfl | exact Or.inr rfl)) (pgs_cons (pg_name (i := 5) sc_is_all_row.nd rfl (by first | exact Or.inl rfl | exact Or.inr rfl)) pgs_nil))))))
        (pss_cons (ps_if (PW.pt (pw_or (pt_cmpR (op_neD hr.units) (pv 2) pe_str (nomark _)) (pw_or1 (pt_cmpR (op_notInTD (hu65 hr)) (pv 3) (pv 0) (by rfl))))) (pss_one (ps_ret pe_bl)) pss_nil)
        (pss_one (ps_ret (pe_and (pe_call (ok_is_count T) (hr.mono (by first | decide | omega)) (by rfl) T.g_is_count T.F_is_count.kp T.b_is_count .nil pass0 (pa_cons (pv 4) pa_nil)) (pe_one (pe_call (ok_is_count T) (hr.mono (by first | decide | omega)) (by rfl) T.g_is_count T.F_is_count.kp T.b_is_count .nil pass0 (pa_cons (pv 5) pa_nil))))))))), ?_⟩
    refine ⟨_, rfl, a, _, rfl, .inr (SqT.of ha), rfl, _, rfl, ite2 (fun z => ?_) (fun z => ?_)⟩
    · refine q false (ff fun ⟨x, e, e2, _⟩ => len_ne' (m := 4) z ?_)
      rw [hds.len, e2]
      cases x with
      | all => rfl
      | ask => exact absurd e w_aa
      | job => exact absurd e w_ja
    have hl := len_ne (m := 4) z
    match xs, ds, hds, hl with
    | [v0, v1, v2, v3], [d0, d1, d2, d3], .cons q0 (.cons q1 (.cons q2 (.cons q3 .nil))), _ =>
      refine ⟨_, rfl, a, _, rfl, SqT.of ha, rfl, _, _, rfl, _, _, rfl, _, _, rfl, _, _, rfl, rfl, ?_⟩
      refine ⟨_, rfl, d0, .str "all", q0.dp, .str _, (hsh d0 (by simp)).shaped, sh_word (by decide +kernel), _, rfl, ite2 (fun z0 => iteT ?_) (fun z0 => ?_)⟩
      · refine q false (ff fun ⟨x, e, e2, _⟩ => ?_)
        have e3 : d0 = .str "all" := by
          cases x with
          | all => exact (List.cons.inj e2).1
          | ask => exact absurd e w_aa
          | job => exact absurd e w_ja
        rw [eqv_str.mpr e3] at z0
        cases z0
      have e0 : d0 = .str "all" := eqv_str.mp (by
        cases e : PyData.eqv d0 (.str "all") with
        | true => rfl
        | false => exact absurd (by rw [e]; rfl) z0)
      subst e0
      refine ⟨_, rfl, _, rfl, d1, _, q1.dp, dp_tup_strs hth, (hsh d1 (by simp)).shaped, shaped_tup_strs hok, _, rfl, ite2 (fun z1 => ?_) (fun z1 => ?_)⟩
      · refine q false (ff fun ⟨x, e, e2, hin, _⟩ => ?_)
        cases x with
        | all h a j =>
          have e3 := (List.cons.inj (List.cons.inj e2).2).1
          rw [any_strs.mpr ⟨h, hin, e3⟩] at z1
          cases z1
        | ask => exact absurd e w_aa
        | job => exact absurd e w_ja
      obtain ⟨h, mh, rfl⟩ : ∃ h ∈ hs, d1 = .str h := any_strs.mp (by
        cases e : ((hs.map PyData.str).any fun z => PyData.eqv z d1) with
        | true => rfl
        | false => exact absurd (by rw [e]; rfl) z1)
      refine ⟨_, rfl, Ex, v2, d2, rfl, q2, fun r2 h2 => ⟨r2, rfl, ite2 (fun z2 => ?_) (fun z2 => ?_)⟩⟩
      · obtain ⟨k, rfl, k0, k1⟩ := h2.mp z2
        refine ⟨_, rfl, Ex, v3, d3, rfl, q3, fun r hr6 => q r ?_⟩
        rw [hr6]
        constructor
        · rintro ⟨i, rfl, i0, i1⟩
          exact ⟨.all h k i, rfl, rfl, mh, ⟨k0, k1⟩, ⟨i0, i1⟩⟩
        · rintro ⟨x, e, e2, hin, hb⟩
          cases x with
          | all h' a' j' =>
            simp only [Row.data, List.cons.injEq] at e2
            exact ⟨j', e2.2.2.2.1, hb.2.1, hb.2.2⟩
          | ask => exact absurd e w_aa
          | job => exact absurd e w_ja
      · refine q false (ff fun ⟨x, e, e2, hin, hb⟩ => z2 (h2.mpr ?_))
        cases x with
        | all h' a' j' =>
          simp only [Row.data, List.cons.injEq] at e2
          exact ⟨a', e2.2.2.1, hb.1.1, hb.1.2⟩
        | ask => exact absurd e w_aa
        | job => exact absurd e w_ja
def sp_is_row : Sp := fun vs H Q _ => ∃ (Ex : Addr → Prop) (t : Addr) (v : V) (d : PyData) (hs gs : List Str), vs = [.ref t, v] ∧ TownAt H t hs gs ∧ (∀ h ∈ hs, PyData.strOk h = true) ∧ Dq Ex H v d ∧ Sh d ∧ ∀ r : Bool, (r = true ↔ IsRowD hs d) → Q (.bl r) H
theorem ok_is_row (T : Txt K mg af fd) : FnOk P w K mg base CX0 5 (af 9) (fd 9) ["town", "thing"] sp_is_row := by
  refine T.F_is_row.ok sc_is_row (fun vs H Q E h => ?_) (fun cdv A outer s H vs Q E hr h => ?_)
  · obtain ⟨Ex, t, v, d, hs, gs, rfl, _⟩ := h
    rfl
  · obtain ⟨Ex, t, v, d, hs, gs, rfl, ⟨th, tg, t1, t2, t3⟩, hok, hd, hsh, q⟩ := h
    refine ⟨_, (pss_cons (ps_if (pt_not (pt_val (pe_callB call_isi (by rfl) T.m_isinstance (by decide +kernel) (pa_cons (pv 1) (pa_cons (pe_bltn (v := .ty "tuple") (by rfl) T.m_tuple (by decide +kernel) rfl) pa_nil))))) (pss_one (ps_ret pe_bl)) pss_nil)
        (pss_cons (ps_set (i := 2) sc_is_row.nd rfl (by first | exact Or.inl rfl | exact Or.inr rfl) (pe_ix ix_tup (pv 0) pe_int (fun _ _ => rfl)))
        (pss_one (ps_ret (pe_or (pe_call (ok_is_ask_row T) (hr.mono (by first | decide | omega)) (by rfl) T.g_is_ask_row T.F_is_ask_row.kp T.b_is_ask_row .nil pass0 (pa_cons (pv 2) (pa_cons (pv 1) pa_nil))) (pe_or (pe_call (ok_is_job_row T) (hr.mono (by first | decide | omega)) (by rfl) T.g_is_job_row T.F_is_job_row.kp T.b_is_job_row .nil pass0 (pa_cons (pv 2) (pa_cons (pv 1) pa_nil))) (pe_one (pe_call (ok_is_all_row T) (hr.mono (by first | decide | omega)) (by rfl) T.g_is_all_row T.F_is_all_row.kp T.b_is_all_row .nil pass0 (pa_cons (pv 2) (pa_cons (pv 1) pa_nil)))))))))), ?_⟩
    refine ⟨_, rfl, _, _, _, _, _, rfl, .ty "tuple", hd.ty, isi_kit hd n_tuple, _, rfl, ?_⟩
    cases hd with
    | @tup a xs ds ha hds =>
      refine iteF ?_
      refine ⟨_, rfl, t, _, 0, _, rfl, rfl, SqT.of t1, rfl, ?_⟩
      have sub := hsh.items
      refine ⟨_, rfl, _, rfl, Ex, th, a, hs, xs, ds, rfl, t2, hok, ha, hds, sub, fun r1 h1 => ⟨r1, rfl, ite2 (fun z => ?_) (fun z => ?_)⟩⟩
      · refine q true (tt ?_)
        obtain ⟨x, _, e, hin, hb⟩ := h1.mp z
        exact ⟨x, by rw [e], hin, hb⟩
      refine ⟨_, rfl, _, rfl, Ex, th, a, hs, xs, ds, rfl, t2, hok, ha, hds, sub, fun r2 h2 => ⟨r2, rfl, ite2 (fun z2 => ?_) (fun z2 => ?_)⟩⟩
      · refine q true (tt ?_)
        obtain ⟨x, _, e, hin, hb⟩ := h2.mp z2
        exact ⟨x, by rw [e], hin, hb⟩
      refine ⟨_, rfl, _, rfl, Ex, th, a, hs, xs, ds, rfl, t2, hok, ha, hds, sub, fun r3 h3 => q r3 ?_⟩
      rw [h3]
      constructor
      · rintro ⟨x, _, e, hin, hb⟩
        exact ⟨x, by rw [e], hin, hb⟩
      · rintro ⟨x, e, hin, hb⟩
        have e1 : ds = x.data := PyData.tuple.inj e
        cases x with
        | ask h g k n o b => exact absurd (h1.mpr ⟨_, rfl, e1, hin, hb⟩) z
        | job h k o b => exact absurd (h2.mpr ⟨_, rfl, e1, hin, hb⟩) z2
        | all h a j => exact ⟨_, rfl, e1, hin, hb⟩
    | _ =>
      refine iteT (q false (ff fun ⟨x, e, _⟩ => nomatch e))
/-! ### how long data is when it is written -/
mutual
def szD : PyData → Nat
  | .none => 4
  | .bool _ => 5
  | .int i => (Str.ofString (toString i)).length
  | .str x => (reprText x).length
  | .list xs => 4 + szDs xs
  | .tuple xs => 4 + szDs xs
  | .dict _ => 0
def szDs : List PyData → Nat
  | [] => 0
  | x :: xs => szD x + 2 + szDs xs
end
structure Th (k n : Nat) (d : PyData) : Prop where
  lay : d.canLay0 = true
  dep : d.depth ≤ k
  shw : d.showable = true
  sz : szD d ≤ n
theorem Th.sh {k n : Nat} {d : PyData} (h : Th k n d) (hk : k ≤ 60) : Sh d := ⟨h.lay, Nat.le_trans h.dep hk⟩
theorem Th.mono {k n k' n' : Nat} {d : PyData} (h : Th k n d) (hk : k ≤ k') (hn : n ≤ n') : Th k' n' d := ⟨h.lay, Nat.le_trans h.dep hk, h.shw, Nat.le_trans h.sz hn⟩
theorem th_all {k n : Nat} : ∀ {ds : List PyData}, (∀ d ∈ ds, Th k n d) → PyData.canLayAll0 ds = true ∧ PyData.depthAll ds ≤ k ∧ PyData.showableAll ds = true ∧ szDs ds ≤ ds.length * (n + 2)
  | [], _ => ⟨rfl, Nat.zero_le _, rfl, Nat.zero_le _⟩
  | x :: xs, h => by
    obtain ⟨h1, h2, h3, h4⟩ := th_all (ds := xs) fun d m => h d (List.mem_cons_of_mem _ m)
    have hx := h x List.mem_cons_self
    refine ⟨?_, ?_, ?_, ?_⟩
    · show (x.canLay0 && PyData.canLayAll0 xs) = true
      rw [hx.lay, h1]; rfl
    · show max x.depth (PyData.depthAll xs) ≤ k
      exact Nat.max_le.mpr ⟨hx.dep, h2⟩
    · show (x.showable && PyData.showableAll xs) = true
      rw [hx.shw, h3]; rfl
    · show szD x + 2 + szDs xs ≤ (xs.length + 1) * (n + 2)
      have := hx.sz
      rw [Nat.add_mul, Nat.one_mul]
      omega
theorem th_tup {k n m : Nat} {ds : List PyData} (h : ∀ d ∈ ds, Th k n d) (hm : ds.length ≤ m) : Th (k + 1) (4 + m * (n + 2)) (.tuple ds) := by
  obtain ⟨h1, h2, h3, h4⟩ := th_all h
  refine ⟨h1, Nat.succ_le_succ h2, h3, ?_⟩
  show 4 + szDs ds ≤ _
  exact Nat.add_le_add_left (Nat.le_trans h4 (Nat.mul_le_mul_right _ hm)) _
theorem th_lst {k n m : Nat} {ds : List PyData} (h : ∀ d ∈ ds, Th k n d) (hm : ds.length ≤ m) : Th (k + 1) (4 + m * (n + 2)) (.list ds) := by
  obtain ⟨h1, h2, h3, h4⟩ := th_all h
  refine ⟨h1, Nat.succ_le_succ h2, h3, ?_⟩
  show 4 + szDs ds ≤ _
  exact Nat.add_le_add_left (Nat.le_trans h4 (Nat.mul_le_mul_right _ hm)) _
theorem th_int {i : Int} (h : i.natAbs < 10 ^ 20) : Th 0 100 (.int i) := by
  refine ⟨rfl, Nat.le_refl _, ?_, ?_⟩
  · refine decide_eq_true ?_
    have h2 : i.natAbs < 2 ^ 1900 := Nat.lt_trans h (by decide +kernel)
    exact Nat.lt_of_lt_of_le (PySem.Flt.log2_lt_of (by decide) h2) (by decide)
  · have e := int_text_length_le10 (a := i) (k := 20) (by decide) h
    show (Str.ofString (toString i)).length ≤ 100
    rw [PySem.ofString_length]
    omega
theorem th_str {x : Str} (h : PyData.strOk x = true) (hl : x.length ≤ 9) : Th 0 100 (.str x) := by
  refine ⟨h, Nat.le_refl _, rfl, ?_⟩
  have e := StrLaws.reprText_len x fun c hc => by
    unfold PyData.strOk at h
    rw [← Array.all_toList, List.all_eq_true] at h
    have := of_decide_eq_true (h c hc)
    exact Nat.lt_trans this (by decide)
  show (reprText x).length ≤ 100
  omega
theorem th_non : Th 0 100 .none := ⟨rfl, Nat.le_refl _, rfl, by show 4 ≤ 100; decide⟩
theorem th_bl (b : Bool) : Th 0 100 (.bool b) := ⟨rfl, Nat.le_refl _, rfl, by show 5 ≤ 100; decide⟩
theorem HouseS.len {h : Str} (x : HouseS h) : h.length ≤ 8 := by
  have e : h.length = h.cps.toList.length := by simp [Str.length]
  rw [e]
  exact x.2.1
theorem row_th {hs : List Str} (hh : ∀ h ∈ hs, HouseS h) {r : Row} (w : r.Wf) (i : r.In hs) : ∀ d ∈ r.data, Th 0 100 d := by
  have num : ∀ k : Int, NumI k → Th 0 100 (.int k) := fun k h => th_int (Nat.lt_of_le_of_lt (show k.natAbs ≤ 14 by have := h.1; have := h.2; omega) (by decide))
  have cnt : ∀ k : Int, CntI k → Th 0 100 (.int k) := fun k h => th_int (Nat.lt_of_le_of_lt (show k.natAbs ≤ 15 by have := h.1; have := h.2; omega) (by decide))
  have tim : ∀ k : Int, TimeI k → Th 0 100 (.int k) := fun k h => th_int (Nat.lt_of_le_of_lt (show k.natAbs ≤ 1000000000000 by have := h.1; have := h.2; omega) (by decide))
  have hou : ∀ h : Str, h ∈ hs → Th 0 100 (.str h) := fun h m => th_str (hh h m).ok (Nat.le_succ_of_le (hh h m).len)
  intro d hd
  cases r with
  | ask h g k n o b =>
    simp only [Row.data, List.mem_cons, List.not_mem_nil, or_false] at hd
    rcases hd with rfl | rfl | rfl | rfl | rfl | rfl | rfl
    · exact th_str (by decide +kernel) (by decide +kernel)
    · exact hou h i.1
    · exact num k w.2.2.1
    · exact num n w.2.2.2.1
    · exact hou g i.2
    · exact tim o w.2.2.2.2.1
    · exact tim b w.2.2.2.2.2.1
  | job h k o b =>
    simp only [Row.data, List.mem_cons, List.not_mem_nil, or_false] at hd
    rcases hd with rfl | rfl | rfl | rfl | rfl
    · exact th_str (by decide +kernel) (by decide +kernel)
    · exact hou h i
    · exact num k w.2.1
    · exact tim o w.2.2.1
    · exact tim b w.2.2.2.1
  | all h a j =>
    simp only [Row.data, List.mem_cons, List.not_mem_nil, or_false] at hd
    rcases hd with rfl | rfl | rfl | rfl
    · exact th_str (by decide +kernel) (by decide +kernel)
    · exact hou h i
    · exact cnt a w.2.1
    · exact cnt j w.2.2
theorem word_ok (r : Row) : PyData.strOk r.word = true := by
  cases r
  · exact (by decide +kernel : PyData.strOk (Str.ofString "ask") = true)
  · exact (by decide +kernel : PyData.strOk (Str.ofString "job") = true)
  · exact (by decide +kernel : PyData.strOk (Str.ofString "all") = true)
theorem dqs_row {Ex : Addr → Prop} {H : Hp} (r : Row) : Dqs Ex H r.vals r.data := by
  cases r with
  | ask h g k n o b => exact .cons (.str _) (.cons (.str _) (.cons (.int _) (.cons (.int _) (.cons (.str _) (.cons (.int _) (.cons (.int _) .nil))))))
  | job h k o b => exact .cons (.str _) (.cons (.str _) (.cons (.int _) (.cons (.int _) (.cons (.int _) .nil))))
  | all h a j => exact .cons (.str _) (.cons (.str _) (.cons (.int _) (.cons (.int _) .nil)))
theorem row_len7 (r : Row) : 4 ≤ r.data.length ∧ r.data.length ≤ 7 := by
  cases r
  · exact ⟨(by decide : 4 ≤ 7), (by decide : 7 ≤ 7)⟩
  · exact ⟨(by decide : 4 ≤ 5), (by decide : 5 ≤ 7)⟩
  · exact ⟨(by decide : 4 ≤ 4), (by decide : 4 ≤ 7)⟩
theorem vals_len (r : Row) : r.vals.length = r.data.length := by unfold Row.vals; rw [List.length_map]
theorem Dq.stp {Ex : Addr → Prop} {p c : Addr} {H H' : Hp} {v : V} {d : PyData} (h : Dq Ex H v d) (hp : Ex p) (hP : Pen H p c) (s : Stp p c H H') : Dq Ex H' v d :=
  h.go (fun _ a b => absurd a b) (fun a xs n e => s.2 a _ (fun z => n (z ▸ hp)) e) (fun a xs e => s.tup hP e)
theorem Dqs.stp {Ex : Addr → Prop} {p c : Addr} {H H' : Hp} {v : List V} {d : List PyData} (h : Dqs Ex H v d) (hp : Ex p) (hP : Pen H p c) (s : Stp p c H H') : Dqs Ex H' v d :=
  h.go (fun _ a b => absurd a b) (fun a xs n e => s.2 a _ (fun z => n (z ▸ hp)) e) (fun a xs e => s.tup hP e)
theorem cut_from (xs : List V) (n : Nat) : cutV xs (some (n : Int)) none = xs.drop n := by
  unfold cutV
  rw [HT.sIx_nat, HT.sIx_none]
  by_cases h : n ≤ xs.length
  · rw [Nat.min_eq_left h, List.take_of_length_le (by rw [List.length_drop]; omega)]
  · rw [Nat.min_eq_right (by omega), List.drop_length, List.drop_of_length_le (by omega), List.take_nil]
theorem cut_but2 (xs : List V) (h : 2 ≤ xs.length) : cutV xs none (some (-2)) = xs.take (xs.length - 2) := by
  unfold cutV
  rw [HT.sIx_none, List.drop_zero, Nat.sub_zero]
  have e : HT.sIx xs.length xs.length (some (-2)) = xs.length - 2 := by
    show (if (-2 : Int) < 0 then ((-2 : Int) + (xs.length : Int)).toNat else min (-2 : Int).toNat xs.length) = xs.length - 2
    rw [if_pos (by decide)]
    omega
  rw [e]
theorem cut_whole {xs : List V} {lo hi : Option Int} (h : HT.sIx xs.length 0 lo = 0 ∧ HT.sIx xs.length xs.length hi = xs.length) : cutV xs lo hi = xs := by
  unfold cutV
  rw [h.1, h.2, List.drop_zero, Nat.sub_zero, List.take_length]
/-! a slice, a sum of tuples, told alike whether they are new or not -/
theorem slA_of {K : PySem.W.Frag} {p c a : Addr} {H0 H : Hp} {xs : List V} {lo hi : Option Int} {Q : VK} (hP : Pen H0 p c) (s : Stp p c H0 H) (ha : H a = some (.tup xs)) (q : ∀ b H', Stp p c H0 H' → Stp p c H H' → H' b = some (.tup (cutV xs lo hi)) → Q (.ref b) H') : rSlA K (.ref a) lo hi H Q := by
  refine ⟨a, xs, rfl, SqT.of ha, fun h => q a H s (Stp.refl s.1) (by rw [cut_whole h]; exact ha), fun _ b nb => q b _ (s.new hP nb) ((Stp.refl s.1).new s.1 nb) upd_same⟩
theorem catA_of {K : PySem.W.Frag} {p c a b : Addr} {H0 H : Hp} {xs ys : List V} {Q : VK} (hP : Pen H0 p c) (s : Stp p c H0 H) (ha : H a = some (.tup xs)) (hb : H b = some (.tup ys)) (hl : xs.length + ys.length ≤ 1000) (q : ∀ e H', Stp p c H0 H' → Stp p c H H' → H' e = some (.tup (xs ++ ys)) → Q (.ref e) H') : rCatA K (.ref a) (.ref b) H Q := by
  refine ⟨a, b, xs, ys, rfl, rfl, SqT.of ha, SqT.of hb, Nat.le_trans hl (by decide), fun h => q b H s (Stp.refl s.1) (by rw [h]; exact hb), fun _ h => q a H s (Stp.refl s.1) (by rw [h, List.append_nil]; exact ha), fun _ _ e ne => q e _ (s.new hP ne) ((Stp.refl s.1).new s.1 ne) upd_same⟩
/-! ### the law's list -/
theorem Dqs.put {Ex : Addr → Prop} {H : Hp} {l : Addr} {o : HO} {xs vs : List V} {ds : List PyData} (h : Dqs Ex H vs ds) (hl : Ex l) (hH : H l = some (.lst xs)) : Dqs Ex (upd H l o) vs ds :=
  h.go (fun _ a b => absurd a b) (fun a ys n e => by rw [upd_ne (fun (z : a = l) => n (by rw [z]; exact hl))]; exact e) (fun a ys e => by rw [upd_ne (ne_of e hH (fun z => nomatch z))]; exact e)
theorem Dqs.ins {Ex : Addr → Prop} {H : Hp} {xs : List V} {ds : List PyData} {v : V} {d : PyData} (h : Dqs Ex H xs ds) (hv : Dq Ex H v d) (n : Nat) : Dqs Ex H (xs.take n ++ [v] ++ xs.drop n) (ds.take n ++ [d] ++ ds.drop n) :=
  ((h.take n).app (.cons hv .nil)).app (h.drop n)
theorem ins_mem {ds : List PyData} {d x : PyData} {n : Nat} (h : x ∈ ds.take n ++ [d] ++ ds.drop n) : x ∈ ds ∨ x = d := by
  rcases List.mem_append.mp h with m | m
  · rcases List.mem_append.mp m with m | m
    · exact .inl (List.mem_of_mem_take m)
    · exact .inr (List.mem_singleton.mp m)
  · exact .inl (List.mem_of_mem_drop m)
theorem ins_len {ds : List PyData} {d : PyData} {n : Nat} : (ds.take n ++ [d] ++ ds.drop n).length = ds.length + 1 := by
  rw [List.length_append, List.length_append, List.length_take, List.length_drop, List.length_singleton]
  omega
def Ths (ds : List PyData) : Prop := ∀ d ∈ ds, Th 3 3000 d
def AtL (p l : Addr) : Addr → Prop := fun a => a = p ∨ a = l
def Lst (p c l : Addr) (H : Hp) (R : PyData → Prop) (n : Nat) (H' : Hp) : Prop := Stp p c H H' ∧ ∃ xs ds, H' l = some (.lst xs) ∧ Dqs (AtL p l) H' xs ds ∧ Ths ds ∧ (∀ d ∈ ds, R d) ∧ ds.length ≤ n
theorem lst_ins {p c l : Addr} {H G : Hp} {R : PyData → Prop} {n : Nat} {xs : List V} {ds : List PyData} {v : V} {d : PyData} (hP : Pen H p c) (nl : H l = none) (s : Stp p c H G) (hl : G l = some (.lst xs)) (hd : Dqs (AtL p l) G xs ds) (th : Ths ds) (hR : ∀ d ∈ ds, R d) (hn : ds.length ≤ n)
    (dv : Dq (AtL p l) G v d) (thd : Th 3 3000 d) (Rd : R d) (k : Nat) : Lst p c l H R (n + 1) (upd G l (.lst (xs.take k ++ [v] ++ xs.drop k))) := by
  refine ⟨s.mut hP nl, _, _, upd_same, (hd.ins dv k).put (.inr rfl) hl, fun x m => ?_, fun x m => ?_, ?_⟩
  · rcases ins_mem m with m | e
    · exact th x m
    · rw [e]
      exact thd
  · rcases ins_mem m with m | e
    · exact hR x m
    · rw [e]
      exact Rd
  · rw [ins_len]
    omega
theorem lst_app {p c l : Addr} {H G : Hp} {R : PyData → Prop} {n : Nat} {xs : List V} {ds : List PyData} {v : V} {d : PyData} (hP : Pen H p c) (nl : H l = none) (s : Stp p c H G) (hl : G l = some (.lst xs)) (hd : Dqs (AtL p l) G xs ds) (th : Ths ds) (hR : ∀ d ∈ ds, R d) (hn : ds.length ≤ n)
    (dv : Dq (AtL p l) G v d) (thd : Th 3 3000 d) (Rd : R d) : Lst p c l H R (n + 1) (upd G l (.lst (xs ++ [v]))) := by
  have h := lst_ins hP nl s hl hd th hR hn dv thd Rd xs.length
  rw [List.take_length, List.drop_length, List.append_nil] at h
  exact h
theorem Stp.sm {p c : Addr} {H H1 H2 : Hp} (s : Stp p c H H1) (g : Same H1 H2) : Stp p c H H2 := by
  obtain ⟨cs, n, st, h1, h2, h3, h4⟩ := s.1
  exact ⟨⟨cs, n, st, g _ _ h1, g _ _ h2, h3, h4⟩, fun b o nb e => g _ _ (s.2 b o nb e)⟩
theorem ths_lst {ds : List PyData} (h : Ths ds) (hn : ds.length ≤ 1000) : SeqAt.shaped (.list ds) = true := ((th_lst h hn).sh (by decide)).shaped
def RowW (d : PyData) : Prop := ∃ r : Row, d = .tuple r.data ∧ r.Wf
/-! ### the refusals are made -/
def sp_init1 (C : Addr) (f : Str) : Sp := fun vs H Q _ => ∃ (a : Addr) (v : V), vs = [.ref a, v] ∧ H a = some (exo a C none) ∧ ∀ dx, H dx = none → dx ≠ a → Q .non (upd (upd H dx (exd dx [(f, v)])) a (exo a C (some dx)))
def sp_init2 (C : Addr) (f g : Str) : Sp := fun vs H Q _ => ∃ (a : Addr) (v u : V), vs = [.ref a, v, u] ∧ H a = some (exo a C none) ∧ ∀ dx, H dx = none → dx ≠ a → Q .non (upd (upd (upd H dx (exd dx [(f, v)])) a (exo a C (some dx))) dx (exd dx [(g, u), (f, v)]))
theorem ok_init_NoRow (T : Txt K mg af fd) : FnOk P w K mg base CX0 1 (af 61) (fd 61) ["self", "number"] (sp_init1 (af 60) "number") := by
  refine T.e_NoRow.F.ok sc_init_NoRow (fun vs H Q E h => ?_) (fun cdv A outer s H vs Q E hr h => ?_)
  · obtain ⟨a, v, rfl, _⟩ := h
    rfl
  · obtain ⟨a, v, rfl, ha, q⟩ := h
    refine ⟨_, (pss_one (ps_ost (pv 0) (pv 1))), ?_⟩
    exact ⟨_, rfl, _, rfl, a, _, rfl, T.e_NoRow.T, T.e_NoRow.no _ List.mem_cons_self, .inl ⟨ha, q⟩⟩
theorem ok_init_Clash (T : Txt K mg af fd) : FnOk P w K mg base CX0 1 (af 63) (fd 63) ["self", "first", "second"] (sp_init2 (af 62) "first" "second") := by
  refine T.e_Clash.F.ok sc_init_Clash (fun vs H Q E h => ?_) (fun cdv A outer s H vs Q E hr h => ?_)
  · obtain ⟨a, v, u, rfl, _⟩ := h
    rfl
  · obtain ⟨a, v, u, rfl, ha, q⟩ := h
    refine ⟨_, (pss_cons (ps_ost (pv 0) (pv 1))
        (pss_one (ps_ost (pv 0) (pv 2)))), ?_⟩
    refine ⟨_, rfl, _, rfl, a, _, rfl, T.e_Clash.T, T.e_Clash.no _ List.mem_cons_self, .inl ⟨ha, fun dx nd ne => ?_⟩⟩
    refine ⟨_, rfl, _, rfl, a, _, rfl, T.e_Clash.T, T.e_Clash.no _ (List.mem_cons_of_mem _ List.mem_cons_self), .inr ⟨dx, _, upd_same, ?_, (by show 1 ≤ 900; decide), q dx nd ne⟩⟩
    rw [upd_ne ne, upd_same]
/-! the heap behind a raise: all that stood stands, the fields at d -/
theorem raised1 {H : Hp} {a d : Addr} {o1 o2 o3 : HO} {fs : List (Str × V)} (na : H a = none) (nd : (upd H a o1) d = none) : Same H (upd (del (upd (upd (upd H a o1) d o2) a o3) a) d (.xd fs)) := fun b o e => by
  have nd0 : H d = none := (same_upd na).free nd
  rw [upd_ne (ne_of_none e nd0), del_ne (ne_of_none e na), upd_ne (ne_of_none e na), upd_ne (ne_of_none e nd0), upd_ne (ne_of_none e na)]
  exact e
theorem raised2 {H : Hp} {a d : Addr} {o1 o2 o3 o4 : HO} {fs : List (Str × V)} (na : H a = none) (nd : (upd H a o1) d = none) : Same H (upd (del (upd (upd (upd (upd H a o1) d o2) a o3) d o4) a) d (.xd fs)) := fun b o e => by
  have nd0 : H d = none := (same_upd na).free nd
  rw [upd_ne (ne_of_none e nd0), del_ne (ne_of_none e na), upd_ne (ne_of_none e nd0), upd_ne (ne_of_none e na), upd_ne (ne_of_none e nd0), upd_ne (ne_of_none e na)]
  exact e
/-! ### rows, or the first that is none -/
def RowsD (hs : List Str) (ds : List PyData) (n : Nat) : Prop := ∀ (j : Nat) (d : PyData), j < n → ds[j]? = some d → IsRowD hs d
def Thing (Ex : Addr → Prop) (H : Hp) (vs : List V) (ds : List PyData) : Prop := Dqs Ex H vs ds ∧ ∀ d ∈ ds, Sh d
def sp_need_rows (C : Addr) : Sp := fun vs H Q E => ∃ (Ex : Addr → Prop) (t l : Addr) (hs gs : List Str) (xs : List V) (ds : List PyData), vs = [.ref t, .ref l] ∧ TownAt H t hs gs ∧ (∀ h ∈ hs, PyData.strOk h = true) ∧ H l = some (.lst xs) ∧ Thing Ex H xs ds ∧
  (∀ H', Same H H' → RowsD hs ds ds.length → Q .non H') ∧
  ∀ (i : Nat) (dv : PyData) (d : Addr) (H' : Hp), RowsD hs ds i → ds[i]? = some dv → ¬ IsRowD hs dv → Same H H' → H' d = some (.xd [("number", .int (i : Nat))]) → E (.ref C) (some d) H'
theorem ok_need_rows (T : Txt K mg af fd) : FnOk P w K mg base (L2.CX P w) 6 (af 17) (fd 17) ["town", "rows"] (sp_need_rows (af 60)) := by
  refine T.F_need_rows.okX sc_need_rows (fun vs H Q E h => ?_) (fun cdv A outer s H vs Q E hr h => ?_)
  · obtain ⟨Ex, t, l, hs, gs, xs, ds, rfl, _⟩ := h
    rfl
  · obtain ⟨Ex, t, l, hs, gs, xs, ds, rfl, ht, hok, hl, ⟨hds, hsh⟩, qQ, qE⟩ := h
    refine ⟨_, (pss_one (ps_for (passes_of rfl) rfl (pi_enum (by rfl) T.m_enumerate (pa_cons (pv 1) pa_nil)) (pg_tup rfl (pgs_cons (pg_name (i := 2) sc_need_rows.nd rfl (by first | exact Or.inl rfl | exact Or.inr rfl)) (pgs_cons (pg_name (i := 3) sc_need_rows.nd rfl (by first | exact Or.inl rfl | exact Or.inr rfl)) pgs_nil))) (pss_one (ps_if (pt_not (pt_val (pe_call (ok_is_row T) (hr.mono (by first | decide | omega)) (by rfl) T.g_is_row T.F_is_row.kp T.b_is_row .nil pass0 (pa_cons (pv 0) (pa_cons (pv 3) pa_nil))))) (pss_one (ps_raise rfl (takes_of rfl rfl rfl rfl) (pmk_oex T.e_NoRow.T T.e_NoRow.iC T.e_NoRow.tI (ok_init_NoRow T) (hr.mono (by decide)) T.e_NoRow.b .nil pass0 (by rfl) T.e_NoRow.g (pa_cons (pv 2) pa_nil)))) pss_nil)))), ?_⟩
    refine ⟨_, rfl, l, _, rfl, SqL.of hl, for_it (walk_enum (K := K) (a := l) (xs := xs)) (fun i σ H' => (∃ v2 v3 : Option V, σ = [some (.ref t), some (.ref l), v2, v3]) ∧ Same H H' ∧ RowsD hs ds i)
      ⟨⟨none, none, rfl⟩, Same.refl _, fun j d hj => absurd hj (Nat.not_lt_zero j)⟩ (fun i σ H' _ h => SqL.of (h.2.1 _ _ hl)) ?_ ?_⟩
    · rintro i pv σ H1 H2 hi ⟨⟨v2, v3, rfl⟩, s1, hrows⟩ ⟨Tp, x1, x2, rfl, nT, rfl, e1, e2⟩
      obtain rfl : V.int (i : Nat) = x1 := Option.some.inj e1
      have e2 : xs[i]? = some x2 := e2
      have hid : i < ds.length := by rw [← hds.len]; exact hi
      obtain ⟨x2', hx2, dq⟩ := hds.get (List.getElem?_eq_getElem hid)
      obtain rfl : x2' = x2 := Option.some.inj (hx2.symm.trans e2)
      have hdi : ds[i]? = some ds[i] := List.getElem?_eq_getElem hid
      generalize ds[i] = dv at dq hdi
      have s2 : Same H (upd H1 Tp (.tup [.int (i : Nat), x2'])) := same_mut s1 (s1.free nT)
      refine ⟨Tp, _, rfl, SqT.of upd_same, rfl, _, _, rfl, _, _, rfl, rfl, ?_⟩
      generalize upd H1 Tp (.tup [.int (i : Nat), x2']) = H2 at s2 ⊢
      refine ⟨_, rfl, _, rfl, Ex, t, x2', dv, hs, gs, rfl, ht.same' s2, hok, dq.same s2, hsh dv (List.mem_of_getElem? hdi), fun r hr1 => ⟨r, rfl, ?_⟩⟩
      cases r with
      | true =>
        refine iteF ⟨⟨_, _, rfl⟩, s2, fun j d hj hd => ?_⟩
        by_cases e : j = i
        · subst e
          obtain rfl : dv = d := Option.some.inj (hdi.symm.trans hd)
          exact hr1.mp rfl
        · exact hrows j d (by omega) hd
      | false =>
        refine iteT ⟨_, rfl, (by show 1 ≤ 1000; decide), fun a na => ⟨a, _, rfl, upd_same, fun dx nd ne => ⟨rfl, dx, [("number", .int (i : Nat))], upd_same, ?_, ?_, ?_⟩⟩⟩
        · rw [upd_ne ne, upd_same]
        · exact (same_upd na).free nd
        · refine qE i dv dx _ hrows hdi (fun z => Bool.noConfusion (hr1.mpr z)) (s2.trans ?_) upd_same
          exact raised1 na nd
    · rintro σ H1 ⟨⟨v2, v3, rfl⟩, s1, hrows⟩
      exact qQ H1 s1 (by rw [hds.len] at hrows; exact hrows)
/-! ### clashes in a list -/
theorem dqs_flat {Ex : Addr → Prop} {H : Hp} {xs : List V} {r : Row} (h : Dqs Ex H xs r.data) : xs = r.vals := by
  have key : ∀ {xs : List V} {ds : List PyData}, ds.all Fl.flatD = true → Dqs Ex H xs ds → xs = ds.map Fl.dV := by
    intro xs ds
    induction ds generalizing xs with
    | nil =>
      intro _ h
      cases h
      rfl
    | cons d ds ih =>
      intro hf h
      rw [List.all_cons, Bool.and_eq_true] at hf
      cases h with
      | cons h1 h2 =>
        rw [ih hf.2 h2]
        cases h1 with
        | int i => rfl
        | str x => rfl
        | _ => exact absurd hf.1 (by simp [Fl.flatD])
  exact key (row_flat r) h
theorem row_at {Ex : Addr → Prop} {H : Hp} {v : V} {r : Row} (h : Dq Ex H v (.tuple r.data)) : ∃ a, v = .ref a ∧ RowAt H a r := by
  cases h with
  | @tup a xs _ h1 h2 => exact ⟨a, rfl, by rw [dqs_flat h2] at h1; exact h1⟩
theorem isRow_wf {hs : List Str} (hok : ∀ h ∈ hs, PyData.strOk h = true) {d : PyData} (h : IsRowD hs d) : ∃ r : Row, d = .tuple r.data ∧ r.Wf ∧ r.In hs := by
  obtain ⟨r, e, hin, hb⟩ := h
  refine ⟨r, e, ?_, hin⟩
  cases r with
  | ask h g k n o b => exact ⟨hok h hin.1, hok g hin.2, hb.1, hb.2.1, hb.2.2.1, hb.2.2.2.1, hb.2.2.2.2⟩
  | job h k o b => exact ⟨hok h hin, hb.1, hb.2.1, hb.2.2.1, hb.2.2.2⟩
  | all h a j => exact ⟨hok h hin, hb.1, hb.2⟩
def ClashAt (ds : List PyData) (i j : Nat) : Prop := ∃ r t : Row, ds[i]? = some (.tuple r.data) ∧ ds[j]? = some (.tuple t.data) ∧ ClashP r t
def NoClash (ds : List PyData) (n : Nat) : Prop := ∀ s, s < n → ∀ f, f < s → ¬ ClashAt ds f s
structure FirstClash (ds : List PyData) (f s : Nat) : Prop where
  lt : f < s
  len : s < ds.length
  at_ : ClashAt ds f s
  no : NoClash ds s
  low : ∀ g, g < f → ¬ ClashAt ds g s
theorem data_inj {r t : Row} (h : r.data = t.data) : r = t := by
  have e := row_eqv r t
  have e1 : PyData.eqv (.tuple r.data) (.tuple t.data) = true := by
    rw [h, row_eqv]
    exact decide_eq_true rfl
  rw [e1] at e
  exact of_decide_eq_true e.symm
theorem clashAt_iff {ds : List PyData} {i j : Nat} {r t : Row} (hi : ds[i]? = some (.tuple r.data)) (hj : ds[j]? = some (.tuple t.data)) : ClashAt ds i j ↔ ClashP r t := by
  constructor
  · rintro ⟨r2, t2, e1, e2, h⟩
    obtain rfl := data_inj (PyData.tuple.inj (Option.some.inj (hi.symm.trans e1)))
    obtain rfl := data_inj (PyData.tuple.inj (Option.some.inj (hj.symm.trans e2)))
    exact h
  · exact fun h => ⟨r, t, hi, hj, h⟩
def sp_need_book (CN CC : Addr) : Sp := fun vs H Q E => ∃ (Ex : Addr → Prop) (t l : Addr) (hs gs : List Str) (xs : List V) (ds : List PyData), vs = [.ref t, .ref l] ∧ TownAt H t hs gs ∧ (∀ h ∈ hs, PyData.strOk h = true) ∧ H l = some (.lst xs) ∧ Thing Ex H xs ds ∧ ds.length ≤ 1000 ∧
  (∀ H', Same H H' → RowsD hs ds ds.length → NoClash ds ds.length → Q .non H') ∧
  (∀ (i : Nat) (dv : PyData) (d : Addr) (H' : Hp), RowsD hs ds i → ds[i]? = some dv → ¬ IsRowD hs dv → Same H H' → H' d = some (.xd [("number", .int (i : Nat))]) → E (.ref CN) (some d) H') ∧
  ∀ (f s : Nat) (d : Addr) (H' : Hp), RowsD hs ds ds.length → FirstClash ds f s → Same H H' → H' d = some (.xd [("second", .int (s : Nat)), ("first", .int (f : Nat))]) → E (.ref CC) (some d) H'
theorem ok_need_book (T : Txt K mg af fd) : FnOk P w K mg base (L2.CX P w) 7 (af 18) (fd 18) ["town", "rows"] (sp_need_book (af 60) (af 62)) := by
  refine T.F_need_book.okX sc_need_book (fun vs H Q E h => ?_) (fun cdv A outer s H vs Q E hr h => ?_)
  · obtain ⟨Ex, t, l, hs, gs, xs, ds, rfl, _⟩ := h
    rfl
  · obtain ⟨Ex, t, l, hs, gs, xs, ds, rfl, ht, hok, hl, hth, hlen, qQ, qN, qC⟩ := h
    refine ⟨_, (pss_cons (ps_expr (pe_call (ok_need_rows T) (hr.mono (by first | decide | omega)) (by rfl) T.g_need_rows T.F_need_rows.kp T.b_need_rows .nil (passes_call (takes_of rfl rfl rfl rfl) (fun _ _ _ _ h => h)) (pa_cons (pv 0) (pa_cons (pv 1) pa_nil))))
        (pss_one (ps_for (passes_of rfl) rfl (pi_range1 (by rfl) T.m_range (pa_cons (pe_callB call_len_seq (by rfl) T.m_len (by decide +kernel) (pa_cons (pv 1) pa_nil)) pa_nil)) (pg_name (i := 2) sc_need_book.nd rfl (by first | exact Or.inl rfl | exact Or.inr rfl)) (pss_one (ps_for (passes_of rfl) rfl (pi_range1 (by rfl) T.m_range (pa_cons (pv 2) pa_nil)) (pg_name (i := 3) sc_need_book.nd rfl (by first | exact Or.inl rfl | exact Or.inr rfl)) (pss_one (ps_if (pt_val (pe_call (ok_do_clash T) (hr.mono (by first | decide | omega)) (by rfl) T.g_do_clash T.F_do_clash.kp T.b_do_clash .nil pass0 (pa_cons (pe_ix ix_list (pv 1) (pv 3) (fun _ _ => rfl)) (pa_cons (pe_ix ix_list (pv 1) (pv 2) (fun _ _ => rfl)) pa_nil)))) (pss_one (ps_raise rfl (takes_of rfl rfl rfl rfl) (pmk_oex T.e_Clash.T T.e_Clash.iC T.e_Clash.tI (ok_init_Clash T) (hr.mono (by decide)) T.e_Clash.b .nil pass0 (by rfl) T.e_Clash.g (pa_cons (pv 3) (pa_cons (pv 2) pa_nil))))) pss_nil))))))), ?_⟩
    refine ⟨_, rfl, _, rfl, Ex, t, l, hs, gs, xs, ds, rfl, ht, hok, hl, hth, fun H1 s1 hrows => ?_, qN⟩
    obtain ⟨hds, hsh⟩ := hth
    have hl1 := s1 _ _ hl
    have hxl := hds.len
    refine ⟨_, rfl, l, _, rfl, .inl (SqL.of hl1), _, rfl, by omega, by omega, for_range (lo := 0) (n := ((xs.length : Int)).toNat) (fun i σ H' => (∃ v2 v3 : Option V, σ = [some (.ref t), some (.ref l), v2, v3]) ∧ H' = H1 ∧ NoClash ds i)
      ⟨⟨none, none, rfl⟩, rfl, fun s hs => absurd hs (Nat.not_lt_zero s)⟩ ?_ ?_⟩
    · rintro s2 σ H2 hs2 ⟨⟨v2, v3, rfl⟩, rfl, hno⟩
      rw [Int.toNat_natCast] at hs2
      have hs2d : s2 < ds.length := by omega
      obtain ⟨t2, et2, wt2, _⟩ := isRow_wf hok (hrows s2 _ hs2d (List.getElem?_eq_getElem hs2d))
      have hd2 : ds[s2]? = some (.tuple t2.data) := by rw [List.getElem?_eq_getElem hs2d, et2]
      obtain ⟨y, hy, dy⟩ := hds.get hd2
      obtain ⟨b, rfl, hb⟩ := row_at (dy.same s1)
      refine ⟨_, rfl, _, rfl, by omega, by omega, for_range (lo := 0) (n := ((0 : Int) + (s2 : Nat)).toNat) (fun i σ H' => (∃ v3 : Option V, σ = [some (.ref t), some (.ref l), some (.int (0 + (s2 : Nat))), v3]) ∧ H' = H2 ∧ ∀ g, g < i → ¬ ClashAt ds g s2)
        ⟨⟨_, rfl⟩, rfl, fun g hg => absurd hg (Nat.not_lt_zero g)⟩ ?_ ?_⟩
      · rintro f2 σ H3 hf2 ⟨⟨v3, rfl⟩, rfl, hlow⟩
        have hf2s : f2 < s2 := by omega
        have hf2d : f2 < ds.length := by omega
        obtain ⟨r2, er2, wr2, _⟩ := isRow_wf hok (hrows f2 _ hf2d (List.getElem?_eq_getElem hf2d))
        have hd1 : ds[f2]? = some (.tuple r2.data) := by rw [List.getElem?_eq_getElem hf2d, er2]
        obtain ⟨x, hx, dx⟩ := hds.get hd1
        obtain ⟨a, rfl, ha⟩ := row_at (dx.same s1)
        have hiff := clashAt_iff hd1 hd2
        refine ⟨_, rfl, _, rfl, l, _, _, .ref a, rfl, rfl, SqL.of hl1, at_any (j := f2) (by omega) hx, _, rfl, _, rfl, l, _, _, .ref b, rfl, rfl, SqL.of hl1, at_any (j := s2) (by omega) hy, a, b, r2, t2, rfl, ha, hb, wr2, wt2, trivial, fun bb hbb => ⟨bb, rfl, ?_⟩⟩
        cases bb with
        | false =>
          refine iteF ⟨⟨_, rfl⟩, rfl, fun g hg => ?_⟩
          by_cases e : g = f2
          · subst e
            exact fun z => Bool.noConfusion (hbb.mpr (hiff.mp z))
          · exact hlow g (by omega)
        | true =>
          refine iteT ⟨_, rfl, _, rfl, (by show 2 ≤ 1000; decide), fun a3 na => ⟨a3, _, _, rfl, upd_same, fun dx3 nd ne => ⟨rfl, dx3, [("second", .int (0 + (s2 : Nat))), ("first", .int (0 + (f2 : Nat)))], ?_, upd_same, ?_, ?_⟩⟩⟩
          · rw [upd_ne (Ne.symm ne), upd_same]
          · exact (same_upd na).free nd
          · rw [Int.zero_add, Int.zero_add]
            refine qC f2 s2 dx3 _ hrows ⟨hf2s, hs2d, hiff.mpr (hbb.mp rfl), hno, hlow⟩ (s1.trans ?_) upd_same
            exact raised2 na nd
      · rintro σ H3 ⟨⟨v3, rfl⟩, rfl, hlow⟩
        refine ⟨⟨_, _, rfl⟩, rfl, fun s3 hs3 g hg => ?_⟩
        by_cases e : s3 = s2
        · subst e
          exact hlow g (by omega)
        · exact hno s3 (by omega) g hg
    · rintro σ H2 ⟨⟨v2, v3, rfl⟩, rfl, hno⟩
      refine qQ H2 s1 hrows ?_
      rw [Int.toNat_natCast, hxl] at hno
      exact hno
/-! ### sorted(d), d of keys (text, int) -/
namespace Gr
open PySem.W
abbrev HK := Str × Int
def keyOf (p : HK) : List Key := [.inr p.1, .inl p.2]
def datOf (p : HK) : List PyData := [.str p.1, .int p.2]
def vD : V → PyData
  | .int i => .int i
  | .str x => .str x
  | _ => .none
def hkOf : List PyData → HK
  | [.str h, .int n] => (h, n)
  | _ => ("", 0)
def datAt (H : Hp) : Value → List PyData
  | .ref b => match H b with
    | some (.tup us) => us.map vD
    | _ => []
  | _ => []
theorem datAt_key {H : Hp} {b : Addr} {p : HK} (h : H b = some (.tup ((keyOf p).map kV))) : datAt H (.ref b) = datOf p := by
  show (match H b with
    | some (.tup us) => us.map vD
    | _ => []) = datOf p
  rw [h]
  rfl
theorem hk_dat (p : HK) : hkOf (datOf p) = p := rfl
theorem can_dat (p q : HK) : Fl.Can (datOf p) (datOf q) := ⟨p.1, [.int p.2], q.1, [.int q.2], rfl, rfl, fun _ => rfl⟩
theorem fl_sortable {prog : Program} {w : World} {A : Around} {s : Shared} {a : Addr} {vs : List Value} {k : Value → List PyData} (h2 : 2 ≤ vs.length) (hp : ∀ v ∈ vs, Fl.IsFl s.heap v (k v)) (hc : ∀ v ∈ vs, ∀ u ∈ vs, Fl.Can (k v) (k u)) (ha : s.heap.get? a = some (seqObj "list" vs.toArray 0)) :
    SrtO.SortableO prog w A s a vs (fun v u => Fl.ltD (k v) (k u)) := by
  intro h' keep
  have hne : ∀ o, s.heap.get? a = some o → o.cls ≠ .type "tuple" := fun o e => by
    have e' : some o = some (seqObj "list" vs.toArray 0) := e.symm.trans ha
    cases e'
    intro c
    exact absurd (Value.type.inj c) (by decide)
  have hp' : ∀ v ∈ vs, Fl.IsFl h' v (k v) := fun v hm => (hp v hm).keeps fun b o e c => keep b o (fun z => by subst z; exact hne o e c) e
  obtain ⟨fs, f1, f2, f3⟩ := Fl.firsts_fl (vs := vs) (k := k) fun v hm => ⟨hp' v hm, by
    obtain ⟨x, r, _, _, e, _⟩ := hc v hm v hm
    exact ⟨x, r, e⟩⟩
  refine ⟨tuples' true, fun Q E hq => ?_, Fl.flat_cmp hp' hc⟩
  refine kat_kind (T := .type "str") f1 (by omega) (fun f hm => ?_) (by rfl) ?_
  · obtain ⟨x, t, rfl⟩ := f3 f hm
    exact Looks.now
  · have e : (Value.type "str" != Value.type "tuple") = true := by first | decide +kernel | rfl | decide
    rw [e]
    exact hq
def rSortedDT : List V → Hp → VK → Prop := fun vs H Q => ∃ (a : Addr) (kvs : List (List Key × V)) (ks : List HK), vs = [V.ref a] ∧ Rd H a (.dT kvs) ∧ kvs.map (·.1) = ks.map keyOf ∧
  ∀ (ys : List (Addr × HK)) (p : Addr), (ys.map (·.2)).Perm ks → (ys.map (·.2)).Pairwise (fun x y => Fl.ltD (datOf y) (datOf x) = false) → (∀ y ∈ ys, H y.1 = some (.tup ((keyOf y.2).map kV))) → H p = none → Q (.ref p) (upd H p (.lst (ys.map fun y => V.ref y.1)))
theorem kt_at {H : Hp} : ∀ {kvs : List (List Key × V)} {xs : List (List Key × Addr × Value)} {ks : List HK}, KT H kvs xs → kvs.map (·.1) = ks.map keyOf → (xs.map fun x => Value.ref x.2.1).map (fun v => hkOf (datAt H v)) = ks ∧ ∀ v ∈ xs.map (fun x => Value.ref x.2.1), ∃ b p, v = .ref b ∧ H b = some (.tup ((keyOf p).map kV))
  | [], _, [], .nil, _ => ⟨rfl, fun _ m => nomatch m⟩
  | [], _, _ :: _, _, h => nomatch h
  | _ :: _, _, [], _, h => nomatch h
  | kv :: kvs, x :: xs, k :: ks, .cons h t, e => by
    injection e with e1 e2
    obtain ⟨i1, i2⟩ := kt_at t e2
    have hb : H x.2.1 = some (.tup ((keyOf k).map kV)) := by
      have e1 : kv.1 = keyOf k := e1
      rw [← e1]
      exact h.2.1
    refine ⟨?_, fun v m => ?_⟩
    · rw [List.map_cons, List.map_cons, i1, datAt_key hb, hk_dat]
    · rcases List.mem_cons.mp m with rfl | m
      · exact ⟨_, k, rfl, hb⟩
      · exact i2 v m
theorem cr_sortedDT {X : Cx} (hc : X.calm = true) : CallR X (.builtin "sorted") rSortedDT := by
  intro pins s σ H vs us Q I r h
  obtain ⟨a, kvs, ks, rfl, hd, hks, q⟩ := h
  obtain ⟨u, rfl, ru⟩ := vals1 r
  obtain rfl : u = Value.ref a := ru
  obtain ⟨z, hs, xs, pr, o, es, ep, ho, hx, hdt, he, hn⟩ := (show ObjOk X.prog X.w H s.heap a (.dT kvs) from hd.ok I.hok)
  have l1 : es.size = xs.length := size_of_entries he
  have l2 : kvs.length = xs.length := Paired.length pr
  refine Calls.call_function_entry PyProof.Rows.kind_sorted PyProof.Rows.plain_sorted PyProof.Rows.entry_sorted (PyProof.Rows.args_sorted1 _) ?_
  unfold Builtin.«sorted»
  refine wpAny_bind (m := checkCount "sorted" 1 1 _) (wpAny_pure ?_)
  refine wpAny_bind (PySem.W.kdu_collect (A := X.A.in1) (kdl_raw hs hx hdt) (I.ok.hd hc) ho (by omega) fun g tk acc hk hacc => ?_)
  have ea : acc.toList = xs.map fun x => Value.ref x.2.1 := by
    have hl : acc.toList.length = xs.length := by rw [Array.length_toList, hacc.1]; exact l1
    apply List.ext_getElem?
    intro j
    rw [List.getElem?_map]
    cases hj : acc.toList[j]? with
    | none =>
      have h1 := List.getElem?_eq_none_iff.mp hj
      rw [List.getElem?_eq_none (by omega)]
      all_goals rfl
    | some v =>
      obtain ⟨en, hen, hv⟩ := hacc.2 j v (by rw [← Array.getElem?_toList]; exact hj)
      have qe := entry_at he j
      rw [hen] at qe
      cases hb : xs[j]? with
      | none =>
        rw [hb] at qe
        exact nomatch (show some en = none from qe)
      | some b =>
        rw [hb] at qe
        have e2 : en = entryOfKey (tupleKind (mixKind X.prog X.w)) b := Option.some.inj qe
        rw [hv, e2]
        all_goals rfl
  obtain ⟨k1, k2⟩ := kt_at pr hks
  have I1 : Inv X pins σ H { s with heap := g, toks := tk } := I.kept hk
  rw [ea]
  generalize xs.map (fun x => Value.ref x.2.1) = vs at k1 k2 ea ⊢
  have hvl : vs.length = kvs.length := by rw [← ea, Array.length_toList, hacc.1]; omega
  have hz : vs.length ≤ sizeLine := by omega
  refine wpAny_bind (wpAny_newList ?_ hz)
  have hoL : (g.push (seqObj "list" vs.toArray 0)).get? g.objs.size = some (seqObj "list" vs.toArray 0) := Heap.get?_push_size _ rfl
  show wpAny _ _ _ _ _ { s with heap := g.push (seqObj "list" vs.toArray 0), toks := tk }
  have hfl : ∀ v ∈ vs, Fl.IsFl (g.push (seqObj "list" vs.toArray 0)) v (datAt H v) := fun v hv => by
    obtain ⟨b, p, rfl, hb⟩ := k2 v hv
    obtain ⟨_, its2, r2, o2, ho2, hc2, n2, hd2⟩ := I1.hok _ _ hb
    refine ⟨b, o2, its2.toArray, n2, rfl, Heap.get?_push_of_some _ ho2, hc2, hd2, ?_⟩
    rw [List.toList_toArray, datAt_key hb]
    exact Fl.fvs_of (ds := datOf p) rfl r2
  have hcn : ∀ v ∈ vs, ∀ u ∈ vs, Fl.Can (datAt H v) (datAt H u) := fun v hv u hu => by
    obtain ⟨b, p, rfl, hb⟩ := k2 v hv
    obtain ⟨c, t, rfl, hc'⟩ := k2 u hu
    rw [datAt_key hb, datAt_key hc']
    exact can_dat p t
  refine wpAny_bind (wpAny_holding (wpAny_call_entry PyProof.Rows.slot_list_sort ⟨_, hoL, rfl⟩ PyProof.Rows.entry_list_sort
    (SrtO.list_sort_ord (s := { s with heap := g.push (seqObj "list" vs.toArray 0), toks := tk }) (Fl.swo_ltD (datAt H)) hoL hz (fun h2 => fl_sortable (s := { s with heap := g.push (seqObj "list" vs.toArray 0), toks := tk }) h2 hfl hcn hoL) fun out o1 o2 => ⟨_, rfl, ?_⟩) (PyProof.Rows.args_list_sort _)))
  obtain ⟨e', he'⟩ := PyProof.Rows.sortedHeap_at (vs := vs) (out := out.toArray) hoL
  have hm : ∀ v ∈ out, ∃ b p, v = .ref b ∧ H b = some (.tup ((keyOf p).map kV)) := fun v m => k2 v (o2.perm.mem_iff.mp m)
  let back : Value → Addr := fun v => match v with
    | .ref b => b
    | _ => 0
  have ev : (out.map fun v => ((back v, hkOf (datAt H v)) : Addr × HK)).map (fun y => V.ref y.1) = out.map fun v => V.ref (back v) := by rw [List.map_map]; rfl
  have rv : ∀ l : List Value, (∀ v ∈ l, ∃ b p, v = .ref b ∧ H b = some (.tup ((keyOf p).map kV))) → Vals (l.map fun v => V.ref (back v)) l := by
    intro l
    induction l with
    | nil => intro _; exact .nil
    | cons v l ih =>
      intro hv
      obtain ⟨b, p, rfl, hb⟩ := hv v List.mem_cons_self
      exact .cons rfl (ih fun u m => hv u (List.mem_cons_of_mem _ m))
  have hlen : (out.map fun v => V.ref (back v)).length ≤ sizeLine := by rw [List.length_map, o2.len]; exact hz
  refine wpAny_pure ⟨_, rfl, .ref g.objs.size, upd H g.objs.size (.lst (out.map fun v => V.ref (back v))), I1.laid (t' := tk) (fun b u e => ?_) (Nat.le_refl _)
    (show ObjOk X.prog X.w _ _ _ (.lst (out.map fun v => V.ref (back v))) from ⟨hlen, out, e', rv out hm, he'⟩), rfl, ?_⟩
  · have hb : b < g.objs.size := Heap.lt_size e
    rw [PyProof.Rows.sortedHeap_old (Nat.ne_of_lt hb) (by rw [size_push']; exact Nat.lt_succ_of_lt hb)]
    exact Heap.get?_push_of_some _ e
  · have := q (out.map fun v => (back v, hkOf (datAt H v))) g.objs.size ?_ ?_ ?_ (I1.hok.fresh (Nat.le_refl _))
    · rw [ev] at this
      exact this
    · rw [List.map_map]
      show (out.map fun v => hkOf (datAt H v)).Perm ks
      rw [← k1]
      exact o2.perm.map _
    · rw [List.map_map]
      show (out.map fun v => hkOf (datAt H v)).Pairwise _
      rw [List.pairwise_map]
      refine List.Pairwise.imp_of_mem (fun {x y} mx my hxy => ?_) o1
      obtain ⟨b, p, rfl, hb⟩ := hm x mx
      obtain ⟨c, t, rfl, hc'⟩ := hm y my
      have hxy : Fl.ltD (datAt H (.ref c)) (datAt H (.ref b)) = false := hxy
      rw [datAt_key hb, datAt_key hc'] at hxy
      rw [datAt_key hb, datAt_key hc', hk_dat, hk_dat]
      exact hxy
    · intro y my
      obtain ⟨v, mv, rfl⟩ := List.mem_map.mp my
      obtain ⟨b, p, rfl, hb⟩ := hm v mv
      show H b = some (.tup ((keyOf (hkOf (datAt H (.ref b)))).map kV))
      rw [datAt_key hb, hk_dat]
      exact hb
/-! ### a call of one of several defs, picked by a subscript -/
structure HeldX (X : Cx) (CX : CXT) (k : Nat) (f : Addr) (sp : Sp) : Prop where
  ex : ∃ (fd : FuncData) (ps : List Str), FnOk X.prog X.w X.K X.mg X.base CX k f fd ps sp ∧ PySem.W.keepIn X.K (.ref f) = true ∧ Binds X.K fd ps []
def tCallE (S : Addr → Prop) (sp : Sp) (E : XK) (tf : TE) (t : TA) : TE := fun σ H Q => tf σ H fun v H1 => ∃ f, v = .ref f ∧ S f ∧ t σ H1 fun vs H2 => sp vs H2 Q E
theorem pe_callE {X : Cx} {CX : CXT} {k : Nat} {S : Addr → Prop} {sp : Sp} {E : XK} {o i e : Expr} {es : List Expr} {p pos : Pos} {tf : TE} {t : TA} (A : ∀ f, S f → HeldX X CX k f sp) (hr : Room k X.A) (hx : Passes CX X E) (hf : PE X (.Subscript o i p) tf) (ha : PA X (e :: es) t)
    (he : starEach (e :: es) X.env = (false, eval e X.env) :: starEach es X.env := by rfl) (hpl : (backTo pos (starEach es X.env)).any (·.1) = false := by rfl) : PE X (.Call (.Subscript o i p) (e :: es) [] pos) (tCallE S sp E tf t) := by
  refine ⟨fun pins s σ H Q I h => ?_⟩
  show wpAny _ _ (do callWith pos (← eval (.Subscript o i p) X.env) [] (backTo pos (starEach (e :: es) X.env)) (backToKw pos (keywordEach [] X.env))) _ _ s
  refine wpAny_bind (thn (hf.run pins s σ H _ I h) fun u s1 ⟨v, H1, I1, r1, f, ev, hS, q1⟩ => ?_)
  subst ev
  obtain rfl : u = Value.ref f := r1
  obtain ⟨fd, ps, F, hk, hb⟩ := (A f hS).ex
  refine PySem.W.callWith_K (h₀ := X.base) I.ok.mod.kin hk (thn (ha.run pos pins s1 σ _ _ I1 q1) fun us s2 ⟨vs, H2, I2, r, q⟩ => ⟨I2.kIn, ?_⟩) he hpl
  exact run_fn F hr hb .nil hx I2 r (by rw [List.append_nil]; exact q)
end Gr
/-! ### the rows of a book, one by one -/
def Row.k : Row → Int
  | .ask _ _ k _ _ _ => k
  | .job _ k _ _ => k
  | .all _ a _ => a
theorem at2 (r : Row) : atI r.vals 2 = some (.int r.k) := by cases r <;> rfl
def Row.key (r : Row) : Gr.HK := (r.h, r.k)
def Rws (H : Hp) (xs : List V) (rs : List Row) : Prop := xs.length = rs.length ∧ ∀ (i : Nat) (r : Row), rs[i]? = some r → ∃ a, xs[i]? = some (.ref a) ∧ RowAt H a r
theorem Rws.same {H H' : Hp} {xs : List V} {rs : List Row} (h : Rws H xs rs) (s : Same H H') : Rws H' xs rs := ⟨h.1, fun i r e => let ⟨a, e1, e2⟩ := h.2 i r e; ⟨a, e1, s _ _ e2⟩⟩
/-! a dict of rows by some key of theirs -/
structure DRow {κ : Type} (key : Row → κ) (H : Hp) (P : Row → Prop) (kvs : List (κ × V)) : Prop where
  own : ∀ kv ∈ kvs, ∃ a r, kv.2 = .ref a ∧ RowAt H a r ∧ P r ∧ kv.1 = key r
  all : ∀ r, P r → ∃ v, (key r, v) ∈ kvs
  nd : (kvs.map (·.1)).Nodup
theorem DRow.same {κ : Type} {key : Row → κ} {H H' : Hp} {P : Row → Prop} {kvs : List (κ × V)} (h : DRow key H P kvs) (s : ∀ a r, RowAt H a r → RowAt H' a r) : DRow key H' P kvs :=
  ⟨fun kv m => let ⟨a, r, e1, e2, e3, e4⟩ := h.own kv m; ⟨a, r, e1, s _ _ e2, e3, e4⟩, h.all, h.nd⟩
section
variable {κ : Type} [DecidableEq κ]
theorem put_mem {kvs : List (κ × V)} {k : κ} {v : V} {x : κ × V} (h : x ∈ putK kvs k v) : (x ∈ kvs ∧ x.1 ≠ k) ∨ x = (k, v) := by
  unfold putK at h
  split at h
  · obtain ⟨y, my, rfl⟩ := List.mem_map.mp h
    by_cases e : y.1 = k
    · rw [if_pos e]
      exact .inr (by rw [← e])
    · rw [if_neg e]
      exact .inl ⟨my, e⟩
  · rename_i hn
    rcases List.mem_append.mp h with m | m
    · refine .inl ⟨m, fun e => hn ?_⟩
      exact List.any_eq_true.mpr ⟨x, m, decide_eq_true e⟩
    · exact .inr (List.mem_singleton.mp m)
theorem put_keys (kvs : List (κ × V)) (k : κ) (v : V) : (putK kvs k v).map (·.1) = kvs.map (·.1) ++ (if k ∈ kvs.map (·.1) then [] else [k]) := by
  unfold putK
  by_cases h : (kvs.any fun kv => decide (kv.1 = k)) = true
  · rw [if_pos h]
    obtain ⟨y, my, ey⟩ := List.any_eq_true.mp h
    have ey := of_decide_eq_true ey
    rw [if_pos (List.mem_map.mpr ⟨y, my, ey⟩), List.append_nil, List.map_map]
    refine List.map_congr_left fun z _ => ?_
    show (if z.1 = k then (z.1, v) else z).1 = z.1
    split <;> rfl
  · rw [if_neg h, if_neg, List.map_append]
    · rfl
    · intro m
      obtain ⟨y, my, ey⟩ := List.mem_map.mp m
      exact h (List.any_eq_true.mpr ⟨y, my, decide_eq_true ey⟩)
theorem put_nd {kvs : List (κ × V)} {k : κ} {v : V} (h : (kvs.map (·.1)).Nodup) : ((putK kvs k v).map (·.1)).Nodup := by
  rw [put_keys]
  split
  · rw [List.append_nil]
    exact h
  · rename_i hn
    rw [List.nodup_append]
    refine ⟨h, (by simp), fun a ma b mb e => hn ?_⟩
    rw [← List.mem_singleton.mp mb, ← e]
    exact ma
theorem put_self (kvs : List (κ × V)) (k : κ) (v : V) : (k, v) ∈ putK kvs k v := by
  have h : k ∈ (putK kvs k v).map (·.1) := by
    rw [put_keys]
    split
    · rename_i h
      rw [List.append_nil]
      exact h
    · exact List.mem_append_right _ (List.mem_singleton.mpr rfl)
  obtain ⟨x, mx, ex⟩ := List.mem_map.mp h
  rcases put_mem mx with ⟨_, n⟩ | e
  · exact absurd ex n
  · rw [← e]
    exact mx
theorem put_keep {kvs : List (κ × V)} {k j : κ} {v u : V} (h : (j, u) ∈ kvs) : ∃ z, (j, z) ∈ putK kvs k v := by
  have h2 : j ∈ (putK kvs k v).map (·.1) := by
    rw [put_keys]
    exact List.mem_append_left _ (List.mem_map.mpr ⟨_, h, rfl⟩)
  obtain ⟨x, mx, ex⟩ := List.mem_map.mp h2
  exact ⟨x.2, by rw [← ex]; exact mx⟩
theorem DRow.put {key : Row → κ} {H : Hp} {P : Row → Prop} {kvs : List (κ × V)} {a : Addr} {r : Row} (h : DRow key H P kvs) (ha : RowAt H a r) : DRow key H (fun x => P x ∨ x = r) (putK kvs (key r) (.ref a)) where
  own := fun kv m => by
    rcases put_mem m with ⟨m, _⟩ | e
    · obtain ⟨b, t, e1, e2, e3, e4⟩ := h.own kv m
      exact ⟨b, t, e1, e2, .inl e3, e4⟩
    · exact ⟨a, r, by rw [e], ha, .inr rfl, by rw [e]⟩
  all := fun x hx => by
    rcases hx with hx | rfl
    · obtain ⟨v, m⟩ := h.all x hx
      exact put_keep m
    · exact ⟨_, put_self _ _ _⟩
  nd := put_nd h.nd
theorem val_mem {kvs : List (κ × V)} {k : κ} {v : V} (h : valV kvs k = some v) : (k, v) ∈ kvs := by
  induction kvs with
  | nil => exact nomatch h
  | cons p r ih =>
    by_cases e : p.1 = k
    · rw [valV_pos e] at h
      obtain rfl := Option.some.inj h
      rw [← e]
      exact List.mem_cons_self
    · rw [valV_neg e] at h
      exact List.mem_cons_of_mem _ (ih h)
theorem val_none {kvs : List (κ × V)} {k : κ} (h : valV kvs k = none) : ∀ v, (k, v) ∉ kvs := by
  induction kvs with
  | nil => exact fun _ m => nomatch m
  | cons p r ih =>
    by_cases e : p.1 = k
    · rw [valV_pos e] at h
      cases h
    · rw [valV_neg e] at h
      intro v m
      rcases List.mem_cons.mp m with z | m
      · exact e (by rw [← z])
      · exact ih h v m
end
theorem DRow.iff {κ : Type} {key : Row → κ} {H : Hp} {P P' : Row → Prop} {kvs : List (κ × V)} (h : DRow key H P kvs) (e : ∀ r, P r ↔ P' r) : DRow key H P' kvs := by
  have : P = P' := funext fun r => propext (e r)
  subst this
  exact h
theorem DRow.nil {κ : Type} {key : Row → κ} {H : Hp} {P : Row → Prop} (h : ∀ r, ¬ P r) : DRow key H P [] := ⟨fun _ m => (nomatch m), fun r p => absurd p (h r), List.nodup_nil⟩
def key2 (r : Row) : List Key := Gr.keyOf r.key
theorem put_len {κ : Type} [DecidableEq κ] {kvs : List (κ × V)} {k : κ} {v : V} {n : Nat} (h : kvs.length ≤ n) : (putK kvs k v).length ≤ n + 1 := Nat.le_trans (length_putK kvs k v) (Nat.succ_le_succ h)
theorem small_line {n : Nat} (h : n ≤ 5000) : n < sizeLine := Nat.lt_of_le_of_lt h (by decide)
theorem of_take {rs : List Row} {i : Nat} {r : Row} (e : rs[i]? = some r) (x : Row) : x ∈ rs.take (i + 1) ↔ x ∈ rs.take i ∨ x = r := by
  rw [List.take_add_one, e, Option.toList_some, List.mem_append, List.mem_singleton]
/-! ### rows by their numbers -/
def sp_by_number : Sp := fun vs H Q _ => ∃ (l : Addr) (wd : Str) (xs : List V) (rs : List Row), vs = [.ref l, .str wd] ∧ H l = some (.lst xs) ∧ Rws H xs rs ∧ rs.length ≤ 1000 ∧
  ∀ (D : Addr) (kvs : List (List Key × V)) (H' : Hp), Same H H' → H D = none → H' D = some (.dT kvs) → DRow key2 H' (fun r => r ∈ rs ∧ r.word = wd) kvs → kvs.length ≤ 1000 → Q (.ref D) H'
theorem ok_rows_by_number (T : Txt K mg af fd) : FnOk P w K mg base CX0 1 (af 20) (fd 20) ["rows", "word"] sp_by_number := by
  refine T.F_rows_by_number.ok sc_rows_by_number (fun vs H Q E h => ?_) (fun cdv A outer s H vs Q E hr h => ?_)
  · obtain ⟨l, wd, xs, rs, rfl, _⟩ := h
    rfl
  · obtain ⟨l, wd, xs, rs, rfl, hl, hrs, hlen, q⟩ := h
    refine ⟨_, (pss_one (ps_ret (Gr.pe_dcd true (own := [("row", 2)]) (g := gName 2) (hu_of hr) (by rfl) sc_rows_by_number.nd (pi_list (pv 0)) (blkOk_by (own := [("row", 2)]) (N := ["rows", "word", "row"]) (sc := defScope s_rows_by_number) (by decide +kernel)) (fun _ _ _ _ _ => pg_name (i := 2) sc_rows_by_number.nd rfl (Or.inl rfl)) (fun _ _ _ _ _ => (pts_one (pt_cmpR op_eq (pe_ix (show IxR _ (rIxT K) from ix_tup) (pv 2) pe_int (fun _ _ => rfl)) (pv 1) (nomark _)))) (fun _ _ _ _ _ => (pe_tup (pa_cons (pe_ix (show IxR _ (rIxT K) from ix_tup) (pv 2) pe_int (fun _ _ => rfl)) (pa_cons (pe_ix (show IxR _ (rIxT K) from ix_tup) (pv 2) pe_int (fun _ _ => rfl)) pa_nil)))) (fun _ _ _ _ _ => (pv 2))))), ?_⟩
    refine ⟨_, rfl, l, rfl, ⟨_, SqL.of hl⟩, fun D nD => ?_⟩
    refine Gr.dcd_it (walk_list (K := K) (a := l) (xs := xs)) (fun i H' => Same H H' ∧ ∃ kvs : List (List Key × V), H' D = some (.dT kvs) ∧ DRow key2 H' (fun r => r ∈ rs.take i ∧ r.word = wd) kvs ∧ kvs.length ≤ i)
      ⟨same_upd nD, [], upd_same, .nil (fun r h => by rw [List.take_zero] at h; exact nomatch h.1), Nat.le_refl _⟩ (fun i H' _ h => SqL.of (h.1 _ _ hl)) ?_ ?_
    · rintro i v H1 H2 hi ⟨g1, kvs, hD, dr, hk⟩ ⟨rfl, hv⟩
      have hir : i < rs.length := by rw [← hrs.1]; exact hi
      have er : rs[i]? = some rs[i] := List.getElem?_eq_getElem hir
      generalize rs[i] = r at er
      obtain ⟨a, ea, ha⟩ := hrs.2 i r er
      obtain rfl : V.ref a = v := Option.some.inj (ea.symm.trans hv)
      have ha1 := g1 _ _ ha
      refine ⟨rfl, _, rfl, a, _, 0, _, rfl, rfl, SqT.of ha1, at0 r, _, rfl, rfl, _, rfl, ?_⟩
      refine ite2 (fun ew => ?_) (fun ew => ?_)
      · have ew : r.word = wd := by simpa using ew
        refine ⟨_, rfl, a, _, 1, _, rfl, rfl, SqT.of ha1, at1 r, _, rfl, a, _, 2, _, rfl, rfl, SqT.of ha1, at2 r, (by show 2 ≤ sizeLine; decide), fun b nb => ⟨_, rfl, ?_⟩⟩
        have hDb : (upd H2 b (.tup [.str r.h, .int r.k])) D = some (.dT kvs) := by rw [upd_ne (ne_of_none hD nb)]; exact hD
        refine ⟨_, DPut.t (k := key2 r) hDb (by rw [upd_same]; rfl) (small_line (by omega)), ?_⟩
        have g3 : Same H2 (upd (upd H2 b (.tup [.str r.h, .int r.k])) D (.dT (putK kvs (key2 r) (.ref a)))) → True := fun _ => trivial
        have rows : ∀ c x, RowAt H2 c x → RowAt (upd (upd H2 b (.tup [.str r.h, .int r.k])) D (.dT (putK kvs (key2 r) (.ref a)))) c x := fun c x hc => by
          show (upd (upd H2 b _) D _) c = _
          rw [upd_ne (ne_of hc hD (fun z => nomatch z)), upd_ne (ne_of_none hc nb)]
          exact hc
        refine ⟨same_mut (same_mut g1 (g1.free nb)) nD, _, upd_same, ?_, put_len hk⟩
        refine ((dr.put (a := a) (r := r) ha1).same rows).iff fun x => ?_
        rw [of_take er]
        constructor
        · rintro (⟨h1, h2⟩ | rfl)
          · exact ⟨.inl h1, h2⟩
          · exact ⟨.inr rfl, ew⟩
        · rintro ⟨h1 | rfl, h2⟩
          · exact .inl ⟨h1, h2⟩
          · exact .inr rfl
      · have ew : r.word ≠ wd := by simpa using ew
        refine ⟨g1, kvs, hD, dr.iff fun x => ?_, Nat.le_succ_of_le hk⟩
        rw [of_take er]
        constructor
        · exact fun h => ⟨.inl h.1, h.2⟩
        · rintro ⟨h1 | rfl, h2⟩
          · exact ⟨h1, h2⟩
          · exact absurd h2 ew
    · rintro H1 ⟨g1, kvs, hD, dr, hk⟩
      rw [hrs.1, List.take_length] at dr
      exact q D kvs H1 g1 nD hD dr (by rw [hrs.1] at hk; omega)
/-! ### the rows of a house -/
def Uniq (P : Row → Prop) : Prop := ∀ r t, P r → P t → r.key = t.key → r = t
structure FldT (C : Addr) (H : Hp) (g : Addr) (f : Str) (P : Row → Prop) : Prop where
  ex : ∃ (dx d : Addr) (fs : List (Str × V)) (kvs : List (List Key × V)), H g = some (.ins C dx fs) ∧ fs.lookup f = some (.ref d) ∧ H d = some (.dT kvs) ∧ DRow key2 H P kvs ∧ kvs.length ≤ 1000
  un : Uniq P
theorem Same.rows {H H' : Hp} (s : Same H H') : ∀ a r, RowAt H a r → RowAt H' a r := fun _ _ h => s _ _ h
theorem FldT.same {C : Addr} {H H' : Hp} {g : Addr} {f : Str} {P : Row → Prop} (h : FldT C H g f P) (s : Same H H') : FldT C H' g f P := by
  obtain ⟨dx, d, fs, kvs, h1, h2, h3, h4, h5⟩ := h.ex
  exact ⟨⟨dx, d, fs, kvs, s _ _ h1, h2, s _ _ h3, h4.same (Same.rows s), h5⟩, h.un⟩
structure Sel (H : Hp) (vs : List V) (S : Row → Prop) : Prop where
  own : ∀ v ∈ vs, ∃ a r, v = .ref a ∧ RowAt H a r ∧ S r
  all : ∀ r, S r → ∃ a, V.ref a ∈ vs ∧ RowAt H a r
  len : vs.length ≤ 1000
theorem Sel.same {H H' : Hp} {vs : List V} {S : Row → Prop} (h : Sel H vs S) (s : Same H H') : Sel H' vs S :=
  ⟨fun v m => let ⟨a, r, e1, e2, e3⟩ := h.own v m; ⟨a, r, e1, s _ _ e2, e3⟩, fun r x => let ⟨a, e1, e2⟩ := h.all r x; ⟨a, e1, s _ _ e2⟩, h.len⟩
theorem key2_inj {r t : Row} (h : key2 r = key2 t) : r.key = t.key := by
  unfold key2 Gr.keyOf at h
  injection h with h1 h2
  injection h2 with h3 h4
  injection h1 with h1
  injection h3 with h3
  exact Prod.ext h1 h3
theorem row_inj {H : Hp} {a : Addr} {r t : Row} (h : RowAt H a r) (h2 : RowAt H a t) : r = t := by
  have e : r.vals = t.vals := HO.tup.inj (Option.some.inj (h.symm.trans h2))
  cases r <;> cases t <;> simp [Row.vals, Row.data, Fl.dV] at e <;> first | (obtain ⟨_, _⟩ := e; simp_all) | simp_all | exact absurd e (by decide +kernel)
def sp_of_house (C : Addr) (f : Str) : Sp := fun vs H Q _ => ∃ (g : Addr) (h : Str) (P : Row → Prop), vs = [.ref g, .str h] ∧ FldT C H g f P ∧
  ∀ (D : Addr) (us : List V) (H' : Hp), Same H H' → H D = none → H' D = some (.lst us) → Sel H' us (fun r => P r ∧ r.h = h) → Q (.ref D) H'
theorem ok_asks_of_house (T : Txt K mg af fd) : FnOk P w K mg base CX0 1 (af 22) (fd 22) ["gaps", "house"] (sp_of_house (af 66) "ask_rows") := by
  refine T.F_asks_of_house.ok sc_asks_of_house (fun vs H Q E h => ?_) (fun cdv A outer s H vs Q E hr h => ?_)
  · obtain ⟨g, h, P, rfl, _⟩ := h
    rfl
  · obtain ⟨g, hh, P, rfl, ⟨⟨dx, d, fs, kvs, h1, h2, h3, h4, h5⟩, un⟩, q⟩ := h
    refine ⟨_, (pss_one (ps_ret (pe_lock (pe_lc (own := [("row", 2)]) (g := gName 2) (by rfl) sc_asks_of_house.nd (Gr.pi_valuesT (pe_fld (pv 0) rfl)) (blkOk_by (own := [("row", 2)]) (N := ["gaps", "house", "row"]) (sc := defScope s_asks_of_house) (by decide +kernel)) (fun _ _ _ _ _ => pg_name (i := 2) sc_asks_of_house.nd rfl (Or.inl rfl)) (fun _ _ _ _ _ => (pts_one (pt_cmpR op_eq (pe_ix (show IxR _ (rIxT K) from ix_tup) (pv 2) pe_int (fun _ _ => rfl)) (pv 1) (nomark _)))) (fun _ _ _ _ _ => (pv 2)))))), ?_⟩
    have ngd : g ≠ d := ne_of h1 h3 (fun z => nomatch z)
    refine ⟨d, _, h3, trivial, fun od => ?_⟩
    refine ⟨_, rfl, g, _, dx, fs, _, rfl, (by rw [upd_ne ngd]; exact h1), T.o_Gaps.c, T.o_Gaps.no _ (by simp), h2, d, od, kvs, rfl, upd_same, fun D nD => ?_⟩
    have nDd : D ≠ d := fun e => by rw [e, upd_same] at nD; cases nD
    have nD0 : H D = none := by rw [upd_ne nDd] at nD; exact nD
    refine lc_it (Gr.walk_valuesT (d := d) (o := od) (kvs := kvs)) (fun i H' => (∀ b o, b ≠ d → H b = some o → H' b = some o) ∧ H' d = some (.frz od (.dT kvs)) ∧ ∃ us : List V, H' D = some (.lst us) ∧ (∀ v ∈ us, ∃ a r, v = .ref a ∧ RowAt H a r ∧ P r ∧ r.h = hh) ∧ (∀ j kv, j < i → kvs[j]? = some kv → ∀ a r, kv.2 = .ref a → RowAt H a r → r.h = hh → kv.2 ∈ us) ∧ us.length ≤ i)
      ⟨fun b o nb e => ?_, ?_, [], upd_same, fun _ m => (nomatch m), fun j _ hj => absurd hj (Nat.not_lt_zero j), Nat.le_refl _⟩ (fun i H' _ h => h.2.1) ?_ ?_
    · rw [upd_ne (ne_of_none e nD0), upd_ne nb]
      exact e
    · rw [upd_ne (Ne.symm nDd), upd_same]
    · rintro i v H1 H2 hi ⟨fr, hd, us, hD, own, all, len⟩ ⟨rfl, k, hk⟩
      obtain ⟨a, r, ev, ha, hP, ek⟩ := h4.own _ (List.mem_of_getElem? hk)
      have ev : v = .ref a := ev
      subst ev
      have ha1 : RowAt H2 a r := fr _ _ (ne_of ha h3 (fun z => nomatch z)) ha
      refine ⟨rfl, _, rfl, a, _, 1, _, rfl, rfl, SqT.of ha1, at1 r, _, rfl, rfl, _, rfl, ite2 (fun ew => ?_) (fun ew => ?_)⟩
      · have ew : r.h = hh := by simpa using ew
        refine ⟨_, rfl, us, hD, small_line (by omega), fun b o nb e => ?_, ?_, _, upd_same, fun v m => ?_, fun j kv hj ej c t e1 e2 e3 => ?_, ?_⟩
        · rw [upd_ne (ne_of_none e nD0)]
          exact fr b o nb e
        · rw [upd_ne (Ne.symm nDd)]
          exact hd
        · rcases List.mem_append.mp m with m | m
          · exact own v m
          · rw [List.mem_singleton.mp m]
            exact ⟨a, r, rfl, ha, hP, ew⟩
        · by_cases e : j = i
          · subst e
            obtain rfl := Option.some.inj (hk.symm.trans ej)
            exact List.mem_append_right _ (List.mem_singleton.mpr rfl)
          · exact List.mem_append_left _ (all j kv (by omega) ej c t e1 e2 e3)
        · rw [List.length_append, List.length_singleton]
          omega
      · have ew : r.h ≠ hh := by simpa using ew
        refine ⟨fr, hd, us, hD, own, fun j kv hj ej c t e1 e2 e3 => ?_, Nat.le_succ_of_le len⟩
        by_cases e : j = i
        · subst e
          obtain rfl := Option.some.inj (hk.symm.trans ej)
          obtain rfl : a = c := V.ref.inj e1
          exact absurd e3 (by rw [← row_inj ha e2]; exact ew)
        · exact all j kv (by omega) ej c t e1 e2 e3
    · rintro H1 ⟨fr, hd, us, hD, own, all, len⟩
      refine ⟨hd, ?_⟩
      have sm : Same H (upd H1 d (.dT kvs)) := fun b o e => by
        by_cases nb : b = d
        · subst nb
          rw [upd_same, ← h3]
          exact e
        · rw [upd_ne nb]
          exact fr b o nb e
      refine q D us _ sm nD0 (by rw [upd_ne nDd]; exact hD) ⟨fun v m => ?_, fun r hr => ?_, by omega⟩
      · obtain ⟨a, r, e1, e2, e3, e4⟩ := own v m
        exact ⟨a, r, e1, sm _ _ e2, e3, e4⟩
      · obtain ⟨v, m⟩ := h4.all r hr.1
        obtain ⟨a, t, e1, e2, e3, e4⟩ := h4.own _ m
        have e1 : v = .ref a := e1
        obtain rfl := un r t hr.1 e3 (key2_inj e4)
        obtain ⟨j, hj⟩ := List.getElem?_of_mem m
        have := all j _ (List.getElem?_eq_some_iff.mp hj).1 hj a r e1 e2 hr.2
        exact ⟨a, by rw [← e1]; exact this, sm _ _ e2⟩
theorem ok_jobs_of_house (T : Txt K mg af fd) : FnOk P w K mg base CX0 1 (af 23) (fd 23) ["gaps", "house"] (sp_of_house (af 66) "job_rows") := by
  refine T.F_jobs_of_house.ok sc_jobs_of_house (fun vs H Q E h => ?_) (fun cdv A outer s H vs Q E hr h => ?_)
  · obtain ⟨g, h, P, rfl, _⟩ := h
    rfl
  · obtain ⟨g, hh, P, rfl, ⟨⟨dx, d, fs, kvs, h1, h2, h3, h4, h5⟩, un⟩, q⟩ := h
    refine ⟨_, (pss_one (ps_ret (pe_lock (pe_lc (own := [("row", 2)]) (g := gName 2) (by rfl) sc_jobs_of_house.nd (Gr.pi_valuesT (pe_fld (pv 0) rfl)) (blkOk_by (own := [("row", 2)]) (N := ["gaps", "house", "row"]) (sc := defScope s_jobs_of_house) (by decide +kernel)) (fun _ _ _ _ _ => pg_name (i := 2) sc_jobs_of_house.nd rfl (Or.inl rfl)) (fun _ _ _ _ _ => (pts_one (pt_cmpR op_eq (pe_ix (show IxR _ (rIxT K) from ix_tup) (pv 2) pe_int (fun _ _ => rfl)) (pv 1) (nomark _)))) (fun _ _ _ _ _ => (pv 2)))))), ?_⟩
    have ngd : g ≠ d := ne_of h1 h3 (fun z => nomatch z)
    refine ⟨d, _, h3, trivial, fun od => ?_⟩
    refine ⟨_, rfl, g, _, dx, fs, _, rfl, (by rw [upd_ne ngd]; exact h1), T.o_Gaps.c, T.o_Gaps.no _ (by simp), h2, d, od, kvs, rfl, upd_same, fun D nD => ?_⟩
    have nDd : D ≠ d := fun e => by rw [e, upd_same] at nD; cases nD
    have nD0 : H D = none := by rw [upd_ne nDd] at nD; exact nD
    refine lc_it (Gr.walk_valuesT (d := d) (o := od) (kvs := kvs)) (fun i H' => (∀ b o, b ≠ d → H b = some o → H' b = some o) ∧ H' d = some (.frz od (.dT kvs)) ∧ ∃ us : List V, H' D = some (.lst us) ∧ (∀ v ∈ us, ∃ a r, v = .ref a ∧ RowAt H a r ∧ P r ∧ r.h = hh) ∧ (∀ j kv, j < i → kvs[j]? = some kv → ∀ a r, kv.2 = .ref a → RowAt H a r → r.h = hh → kv.2 ∈ us) ∧ us.length ≤ i)
      ⟨fun b o nb e => ?_, ?_, [], upd_same, fun _ m => (nomatch m), fun j _ hj => absurd hj (Nat.not_lt_zero j), Nat.le_refl _⟩ (fun i H' _ h => h.2.1) ?_ ?_
    · rw [upd_ne (ne_of_none e nD0), upd_ne nb]
      exact e
    · rw [upd_ne (Ne.symm nDd), upd_same]
    · rintro i v H1 H2 hi ⟨fr, hd, us, hD, own, all, len⟩ ⟨rfl, k, hk⟩
      obtain ⟨a, r, ev, ha, hP, ek⟩ := h4.own _ (List.mem_of_getElem? hk)
      have ev : v = .ref a := ev
      subst ev
      have ha1 : RowAt H2 a r := fr _ _ (ne_of ha h3 (fun z => nomatch z)) ha
      refine ⟨rfl, _, rfl, a, _, 1, _, rfl, rfl, SqT.of ha1, at1 r, _, rfl, rfl, _, rfl, ite2 (fun ew => ?_) (fun ew => ?_)⟩
      · have ew : r.h = hh := by simpa using ew
        refine ⟨_, rfl, us, hD, small_line (by omega), fun b o nb e => ?_, ?_, _, upd_same, fun v m => ?_, fun j kv hj ej c t e1 e2 e3 => ?_, ?_⟩
        · rw [upd_ne (ne_of_none e nD0)]
          exact fr b o nb e
        · rw [upd_ne (Ne.symm nDd)]
          exact hd
        · rcases List.mem_append.mp m with m | m
          · exact own v m
          · rw [List.mem_singleton.mp m]
            exact ⟨a, r, rfl, ha, hP, ew⟩
        · by_cases e : j = i
          · subst e
            obtain rfl := Option.some.inj (hk.symm.trans ej)
            exact List.mem_append_right _ (List.mem_singleton.mpr rfl)
          · exact List.mem_append_left _ (all j kv (by omega) ej c t e1 e2 e3)
        · rw [List.length_append, List.length_singleton]
          omega
      · have ew : r.h ≠ hh := by simpa using ew
        refine ⟨fr, hd, us, hD, own, fun j kv hj ej c t e1 e2 e3 => ?_, Nat.le_succ_of_le len⟩
        by_cases e : j = i
        · subst e
          obtain rfl := Option.some.inj (hk.symm.trans ej)
          obtain rfl : a = c := V.ref.inj e1
          exact absurd e3 (by rw [← row_inj ha e2]; exact ew)
        · exact all j kv (by omega) ej c t e1 e2 e3
    · rintro H1 ⟨fr, hd, us, hD, own, all, len⟩
      refine ⟨hd, ?_⟩
      have sm : Same H (upd H1 d (.dT kvs)) := fun b o e => by
        by_cases nb : b = d
        · subst nb
          rw [upd_same, ← h3]
          exact e
        · rw [upd_ne nb]
          exact fr b o nb e
      refine q D us _ sm nD0 (by rw [upd_ne nDd]; exact hD) ⟨fun v m => ?_, fun r hr => ?_, by omega⟩
      · obtain ⟨a, r, e1, e2, e3, e4⟩ := own v m
        exact ⟨a, r, e1, sm _ _ e2, e3, e4⟩
      · obtain ⟨v, m⟩ := h4.all r hr.1
        obtain ⟨a, t, e1, e2, e3, e4⟩ := h4.own _ m
        have e1 : v = .ref a := e1
        obtain rfl := un r t hr.1 e3 (key2_inj e4)
        obtain ⟨j, hj⟩ := List.getElem?_of_mem m
        have := all j _ (List.getElem?_eq_some_iff.mp hj).1 hj a r e1 e2 hr.2
        exact ⟨a, by rw [← e1]; exact this, sm _ _ e2⟩
/-! ### two walks, one within the other -/
namespace Gr
theorem lc2_it {J : It} {n : Nat} {G : Hp → Prop} {Y : Nat → Hp → V → Hp → Prop} (w : Walk J n G Y) {g g1 : TG} {tt tt1 : TT} {wi1 : TI} {te : TE} {own vs1 : List Nat} {σ : L2.St} {H1 : Hp} {D : Addr} {Qd : Hp → Prop} (Pv : Nat → Hp → Prop) (h0 : Pv 0 (upd H1 D (.lst []))) (hG : ∀ i H, i ≤ n → Pv i H → G H)
    (hs : ∀ i x H H', i < n → Pv i H → Y i H x H' → g x (wipe σ own) H' fun σ2 H2 => wipe σ2 own = wipe σ own ∧ tt σ2 H2 fun b H3 =>
      if b = true then wi1 σ2 H3 fun J1 H4 => ∃ W1 : Nat → Nat → Hp → Prop, (∃ m, W1 0 m H4) ∧ ∀ j k H, W1 j k H →
        (J1.stop j H ∧ Pv (i + 1) H) ∨ (J1.go j H ∧ ∃ Nx1 : Hp → Prop, (∀ H', Nx1 H' → ∃ k', k' < k ∧ W1 (j + 1) k' H') ∧ ∀ x H', J1.yld j H x H' → g1 x (wipe σ2 vs1) H' fun σ3 H5 => wipe σ3 vs1 = wipe σ2 vs1 ∧ tt1 σ3 H5 fun b H6 =>
          if b = true then te σ3 H6 fun y H7 => ∃ acc, H7 D = some (.lst acc) ∧ acc.length < sizeLine ∧ Nx1 (upd H7 D (.lst (acc ++ [y]))) else Nx1 H6)
      else Pv (i + 1) H3) (hd : ∀ H, Pv n H → Qd H) :
    ∃ W : Nat → Nat → Hp → Prop, (∃ m, W 0 m (upd H1 D (.lst []))) ∧ ∀ i m H, W i m H →
      (J.stop i H ∧ Qd H) ∨ (J.go i H ∧ ∃ Nx : Hp → Prop, (∀ H', Nx H' → ∃ m', m' < m ∧ W (i + 1) m' H') ∧ ∀ x H', J.yld i H x H' → g x (wipe σ own) H' fun σ2 H2 => wipe σ2 own = wipe σ own ∧ tt σ2 H2 fun b H3 =>
        if b = true then wi1 σ2 H3 fun J1 H4 => ∃ W1 : Nat → Nat → Hp → Prop, (∃ m, W1 0 m H4) ∧ ∀ j k H, W1 j k H →
          (J1.stop j H ∧ Nx H) ∨ (J1.go j H ∧ ∃ Nx1 : Hp → Prop, (∀ H', Nx1 H' → ∃ k', k' < k ∧ W1 (j + 1) k' H') ∧ ∀ x H', J1.yld j H x H' → g1 x (wipe σ2 vs1) H' fun σ3 H5 => wipe σ3 vs1 = wipe σ2 vs1 ∧ tt1 σ3 H5 fun b H6 =>
            if b = true then te σ3 H6 fun y H7 => ∃ acc, H7 D = some (.lst acc) ∧ acc.length < sizeLine ∧ Nx1 (upd H7 D (.lst (acc ++ [y]))) else Nx1 H6)
        else Nx H3) := by
  refine ⟨fun i m H => m = n - i ∧ i ≤ n ∧ Pv i H, ⟨n, by simp, Nat.zero_le _, h0⟩, ?_⟩
  rintro i m G1 ⟨rfl, hi, p⟩
  have gg := hG i G1 hi p
  by_cases hlt : i < n
  · exact .inr ⟨w.goes i G1 hlt gg, Pv (i + 1), fun G2 p2 => ⟨n - (i + 1), by omega, rfl, hlt, p2⟩, fun x G2 y => hs i x G1 G2 hlt p (w.yields i G1 x G2 hlt gg y)⟩
  · have e : i = n := by omega
    subst e
    exact .inl ⟨w.stops G1 gg, hd G1 p⟩
theorem in_it {J : It} {n : Nat} {G : Hp → Prop} {Y : Nat → Hp → V → Hp → Prop} (w : Walk J n G Y) {g : TG} {tt : TT} {te : TE} {own : List Nat} {σ : L2.St} {H0 : Hp} {D : Addr} {Qd : Hp → Prop} (Pv : Nat → Hp → Prop) (h0 : Pv 0 H0) (hG : ∀ i H, i ≤ n → Pv i H → G H)
    (hs : ∀ i x H H', i < n → Pv i H → Y i H x H' → g x (wipe σ own) H' fun σ3 H5 => wipe σ3 own = wipe σ own ∧ tt σ3 H5 fun b H6 =>
      if b = true then te σ3 H6 fun y H7 => ∃ acc, H7 D = some (.lst acc) ∧ acc.length < sizeLine ∧ Pv (i + 1) (upd H7 D (.lst (acc ++ [y]))) else Pv (i + 1) H6) (hd : ∀ H, Pv n H → Qd H) :
    ∃ W1 : Nat → Nat → Hp → Prop, (∃ m, W1 0 m H0) ∧ ∀ j k H, W1 j k H →
      (J.stop j H ∧ Qd H) ∨ (J.go j H ∧ ∃ Nx1 : Hp → Prop, (∀ H', Nx1 H' → ∃ k', k' < k ∧ W1 (j + 1) k' H') ∧ ∀ x H', J.yld j H x H' → g x (wipe σ own) H' fun σ3 H5 => wipe σ3 own = wipe σ own ∧ tt σ3 H5 fun b H6 =>
        if b = true then te σ3 H6 fun y H7 => ∃ acc, H7 D = some (.lst acc) ∧ acc.length < sizeLine ∧ Nx1 (upd H7 D (.lst (acc ++ [y]))) else Nx1 H6) := by
  refine ⟨fun i m H => m = n - i ∧ i ≤ n ∧ Pv i H, ⟨n, by simp, Nat.zero_le _, h0⟩, ?_⟩
  rintro i m G1 ⟨rfl, hi, p⟩
  have gg := hG i G1 hi p
  by_cases hlt : i < n
  · exact .inr ⟨w.goes i G1 hlt gg, Pv (i + 1), fun G2 p2 => ⟨n - (i + 1), by omega, rfl, hlt, p2⟩, fun x G2 y => hs i x G1 G2 hlt p (w.yields i G1 x G2 hlt gg y)⟩
  · have e : i = n := by omega
    subst e
    exact .inl ⟨w.stops G1 gg, hd G1 p⟩
end Gr
/-! ### (house, number) by tuples -/
inductive HKs (H : Hp) : List V → List Gr.HK → Prop
  | nil : HKs H [] []
  | cons {b : Addr} {k : Gr.HK} {us : List V} {ks : List Gr.HK} : H b = some (.tup ((Gr.keyOf k).map kV)) → HKs H us ks → HKs H (.ref b :: us) (k :: ks)
theorem HKs.len {H : Hp} : ∀ {us : List V} {ks : List Gr.HK}, HKs H us ks → us.length = ks.length
  | _, _, .nil => rfl
  | _, _, .cons _ r => by rw [List.length_cons, List.length_cons, r.len]
theorem HKs.go {H H' : Hp} (s : ∀ b xs, H b = some (.tup xs) → H' b = some (.tup xs)) : ∀ {us : List V} {ks : List Gr.HK}, HKs H us ks → HKs H' us ks
  | _, _, .nil => .nil
  | _, _, .cons h r => .cons (s _ _ h) (r.go s)
theorem HKs.snoc {H : Hp} {b : Addr} {k : Gr.HK} (hb : H b = some (.tup ((Gr.keyOf k).map kV))) : ∀ {us : List V} {ks : List Gr.HK}, HKs H us ks → HKs H (us ++ [.ref b]) (ks ++ [k])
  | _, _, .nil => .cons hb .nil
  | _, _, .cons h r => .cons h (r.snoc hb)
theorem HKs.at {H : Hp} : ∀ {us : List V} {ks : List Gr.HK} {i : Nat} {k : Gr.HK}, HKs H us ks → ks[i]? = some k → ∃ b, us[i]? = some (.ref b) ∧ H b = some (.tup ((Gr.keyOf k).map kV))
  | _, _, 0, _, .cons h _, e => ⟨_, rfl, by obtain rfl := Option.some.inj e; exact h⟩
  | _, _, _ + 1, _, .cons _ r, e => r.at e
def below (hs : List Str) (cnt : Str → Nat) : List Gr.HK := hs.flatMap fun h => (List.range (cnt h)).map fun n : Nat => ((h, (n : Int)) : Gr.HK)
theorem mem_below {hs : List Str} {cnt : Str → Nat} {k : Gr.HK} : k ∈ below hs cnt ↔ k.1 ∈ hs ∧ 0 ≤ k.2 ∧ k.2 < (cnt k.1 : Int) := by
  unfold below
  rw [List.mem_flatMap]
  constructor
  · rintro ⟨h, mh, m⟩
    obtain ⟨n, mn, rfl⟩ := List.mem_map.mp m
    have := List.mem_range.mp mn
    exact ⟨mh, Int.natCast_nonneg n, Int.ofNat_lt.mpr this⟩
  · rintro ⟨h1, h2, h3⟩
    refine ⟨k.1, h1, List.mem_map.mpr ⟨k.2.toNat, List.mem_range.mpr (by omega), Prod.ext rfl ?_⟩⟩
    show (k.2.toNat : Int) = k.2
    omega
theorem below_snoc (hs : List Str) (h : Str) (cnt : Str → Nat) : below (hs ++ [h]) cnt = below hs cnt ++ (List.range (cnt h)).map fun n : Nat => ((h, (n : Int)) : Gr.HK) := by
  unfold below
  rw [List.flatMap_append]
  simp
theorem below_len (cnt : Str → Nat) : ∀ hs : List Str, (∀ h ∈ hs, cnt h ≤ 100) → (below hs cnt).length ≤ hs.length * 100
  | [], _ => Nat.le_refl _
  | h :: hs, b => by
    have ih := below_len cnt hs fun x m => b x (List.mem_cons_of_mem _ m)
    have b1 := b h List.mem_cons_self
    have e : (below (h :: hs) cnt).length = cnt h + (below hs cnt).length := by
      unfold below
      rw [List.flatMap_cons, List.length_append, List.length_map, List.length_range]
    rw [e, List.length_cons]
    omega
def sp_below : Sp := fun vs H Q _ => ∃ (t d : Addr) (hs gs : List Str) (kvs : List (Key × V)) (cnt : Str → Nat), vs = [.ref t, .ref d] ∧ TownAt H t hs gs ∧ H d = some (.dK kvs) ∧ hs.length ≤ 6 ∧ (∀ h ∈ hs, valV kvs (.inr h) = some (.int (cnt h : Nat)) ∧ cnt h ≤ 100) ∧
  ∀ (D : Addr) (us : List V) (H' : Hp), Same H H' → H D = none → H' D = some (.lst us) → HKs H' us (below hs cnt) → Q (.ref D) H'
theorem ok_numbers_below (T : Txt K mg af fd) : FnOk P w K mg base CX0 1 (af 21) (fd 21) ["town", "counts"] sp_below := by
  refine T.F_numbers_below.ok sc_numbers_below (fun vs H Q E h => ?_) (fun cdv A outer s H vs Q E hr h => ?_)
  · obtain ⟨t, d, hs, gs, kvs, cnt, rfl, _⟩ := h
    rfl
  · obtain ⟨t, d, hs, gs, kvs, cnt, rfl, ⟨ta, tb, t1, t2, t3⟩, hd, h6, hv, q⟩ := h
    refine ⟨_, (pss_one (ps_ret (pe_lc2 (own := [("house", 2), ("number", 3)]) (vs1 := [3]) (g := gName 2) (g1 := gName 3) (by rfl) sc_numbers_below.nd (pi_tup (pe_ix ix_tup (pv 0) pe_int (fun _ _ => rfl))) (blkOk_by (own := [("house", 2), ("number", 3)]) (N := ["town", "counts", "house", "number"]) (sc := defScope s_numbers_below) (by decide +kernel)) (by decide) (fun _ _ _ _ _ => pg_name (i := 2) sc_numbers_below.nd rfl (Or.inl rfl)) (fun _ _ _ _ _ => pts_nil) (fun _ _ _ _ _ => (pi_range1 (by rfl) T.m_range (pa_cons (pe_dget (hu_of hr) (pv 1) (pv 2) (fun _ _ => rfl)) pa_nil))) (fun _ _ _ _ _ => pg_name (i := 3) sc_numbers_below.nd rfl (Or.inl rfl)) (fun _ _ _ _ _ => pts_nil) (fun _ _ _ _ _ => (pe_tup (pa_cons (pv 2) (pa_cons (pv 3) pa_nil))))))), ?_⟩
    refine ⟨_, rfl, t, _, 0, _, rfl, rfl, SqT.of t1, rfl, ta, rfl, ⟨_, SqT.of t2⟩, fun D nD => ?_⟩
    refine Gr.lc2_it (walk_tup (K := K) (a := ta) (xs := hs.map V.str)) (fun i H' => Same H H' ∧ ∃ us, H' D = some (.lst us) ∧ HKs H' us (below (hs.take i) cnt))
      ⟨same_upd nD, [], upd_same, by rw [List.take_zero]; exact .nil⟩ (fun i H' _ h => SqT.of (h.1 _ _ t2)) ?_ ?_
    · rintro i v H1 H2 hi ⟨g1, us, hD, hk⟩ ⟨rfl, ev⟩
      rw [List.length_map] at hi
      have eh : hs[i]? = some hs[i] := List.getElem?_eq_getElem hi
      have mh : hs[i] ∈ hs := List.getElem_mem hi
      generalize hs[i] = h at eh mh
      rw [List.getElem?_map, eh] at ev
      obtain rfl : V.str h = v := Option.some.inj ev
      obtain ⟨hv1, hv2⟩ := hv h mh
      have hd2 := g1 _ _ hd
      have blen : (below (hs.take i) cnt).length ≤ 600 := by
        have := below_len cnt (hs.take i) fun x m => (hv x (List.mem_of_mem_take m)).2
        have l2 : (hs.take i).length ≤ 6 := Nat.le_trans (List.length_take_le ..) (by omega)
        omega
      refine ⟨rfl, yes_if ?_⟩
      refine ⟨_, rfl, _, rfl, d, _, rfl, (by rw [← hv1]; exact DGet.k (k := Sum.inr h) hd2), _, rfl, by omega, by omega, ?_⟩
      refine Gr.in_it (walk_range (lo := 0) (n := ((cnt h : Nat) : Int).toNat)) (fun j H' => Same H H' ∧ ∃ us, H' D = some (.lst us) ∧ HKs H' us (below (hs.take i) cnt ++ (List.range j).map fun n : Nat => ((h, (n : Int)) : Gr.HK)))
        ⟨g1, us, hD, by rw [List.range_zero, List.map_nil, List.append_nil]; exact hk⟩ (fun _ _ _ _ => trivial) ?_ ?_
      · rintro j w H3 H4 hj ⟨g3, us3, hD3, hk3⟩ ⟨rfl, rfl⟩
        rw [Int.toNat_natCast] at hj
        refine ⟨rfl, yes_if ⟨_, rfl, _, rfl, (by show 2 ≤ sizeLine; decide), fun b nb => ?_⟩⟩
        have hDb : (upd H4 b (.tup [.str h, .int (0 + (j : Nat))])) D = some (.lst us3) := by rw [upd_ne (ne_of_none hD3 nb)]; exact hD3
        have l3 := hk3.len
        rw [List.length_append, List.length_map, List.length_range] at l3
        refine ⟨us3, hDb, small_line (by omega), same_mut (same_mut g3 (g3.free nb)) nD, _, upd_same, ?_⟩
        rw [List.range_succ, List.map_append, ← List.append_assoc]
        have tup : ∀ c xs, H4 c = some (.tup xs) → (upd (upd H4 b (.tup [.str h, .int (0 + (j : Nat))])) D (.lst (us3 ++ [.ref b]))) c = some (.tup xs) := fun c xs e => by
          rw [upd_ne (ne_of e hD3 (fun z => nomatch z)), upd_ne (ne_of_none e nb)]
          exact e
        refine (hk3.go tup).snoc (k := (h, (j : Int))) ?_
        rw [upd_ne (fun z => by rw [z] at nb; rw [nb] at hD3; cases hD3), upd_same, Int.zero_add]
        rfl
      · rintro H3 ⟨g3, us3, hD3, hk3⟩
        rw [Int.toNat_natCast] at hk3
        refine ⟨g3, us3, hD3, ?_⟩
        rw [List.take_add_one, eh, Option.toList_some, below_snoc]
        exact hk3
    · rintro H1 ⟨g1, us, hD, hk⟩
      rw [List.length_map, List.take_length] at hk
      exact q D us H1 g1 nD hD hk
/-! ### the earliest, the latest -/
def sp_best (le : Int → Int → Prop) : Sp := fun vs H Q _ => ∃ (l : Addr) (ns : List Int), vs = [.ref l] ∧ H l = some (.lst (ns.map V.int)) ∧ ∀ v, Gr.Best le ns .non v → Q v H
theorem ok_earliest (T : Txt K mg af fd) : FnOk P w K mg base CX0 1 (af 26) (fd 26) ["times"] (sp_best fun y m => m ≤ y) := by
  refine T.F_earliest.ok sc_earliest (fun vs H Q E h => ?_) (fun cdv A outer s H vs Q E hr h => ?_)
  · obtain ⟨l, ns, rfl, _⟩ := h
    rfl
  · obtain ⟨l, ns, rfl, hl, q⟩ := h
    refine ⟨_, (pss_one (ps_ret (pe_callBK (Gr.cr_minDf rfl (hu_of hr)) (by rfl) T.m_min (by decide +kernel) (pa_cons (pv 0) pa_nil) (pk_cons pe_non pk_nil)))), ?_⟩
    exact ⟨_, rfl, l, ns, _, rfl, rfl, SqL.of hl, q⟩
theorem ok_latest (T : Txt K mg af fd) : FnOk P w K mg base CX0 1 (af 27) (fd 27) ["times"] (sp_best fun y m => y ≤ m) := by
  refine T.F_latest.ok sc_latest (fun vs H Q E h => ?_) (fun cdv A outer s H vs Q E hr h => ?_)
  · obtain ⟨l, ns, rfl, _⟩ := h
    rfl
  · obtain ⟨l, ns, rfl, hl, q⟩ := h
    refine ⟨_, (pss_one (ps_ret (pe_callBK (Gr.cr_maxDf rfl (hu_of hr)) (by rfl) T.m_max (by decide +kernel) (pa_cons (pv 0) pa_nil) (pk_cons pe_non pk_nil)))), ?_⟩
    exact ⟨_, rfl, l, ns, _, rfl, rfl, SqL.of hl, q⟩
/-! ### what stands in a row, by its place -/
def Row.x3 : Row → Int
  | .ask _ _ _ n _ _ => n
  | .job _ _ o _ => o
  | .all _ _ j => j
def Row.x5 : Row → Int
  | .ask _ _ _ _ o _ => o
  | _ => 0
def Row.x6 : Row → Int
  | .ask _ _ _ _ _ b => b
  | _ => 0
theorem at3 (r : Row) : atI r.vals 3 = some (.int r.x3) := by cases r <;> rfl
theorem w_ja' : ("job" : Str) ≠ ("ask" : Str) := fun e => w_aj e.symm
theorem w_la : ("all" : Str) ≠ ("ask" : Str) := fun e => w_aa e.symm
theorem at5 {r : Row} (h : r.word = "ask") : atI r.vals 5 = some (.int r.x5) := by
  cases r with
  | ask _ _ _ _ _ _ => rfl
  | job _ _ _ _ => exact absurd h w_ja'
  | all _ _ _ => exact absurd h w_la
theorem at6 {r : Row} (h : r.word = "ask") : atI r.vals 6 = some (.int r.x6) := by
  cases r with
  | ask _ _ _ _ _ _ => rfl
  | job _ _ _ _ => exact absurd h w_ja'
  | all _ _ _ => exact absurd h w_la
theorem wipe_one (σ : L2.St) (i : Nat) (v : V) : wipe ((wipe σ [i]).set i (some v)) [i] = wipe σ [i] := by
  show ((σ.set i none).set i (some v)).set i none = σ.set i none
  rw [List.set_set, List.set_set]
/-! a list of ints made of selected rows -/
theorem sel_map {l D : Addr} {us : List V} {S : Row → Prop} {σ : L2.St} {i : Nat} {tt : TT} {te : TE} {H1 : Hp} {Qd : Hp → Prop} (c : Row → Bool) (f : Row → Int) (hl : H1 l = some (.lst us)) (hS : Sel H1 us S) (nD : H1 D = none)
    (htt : ∀ a r H2 (Kt : Bool → Hp → Prop), S r → RowAt H2 a r → Kt (c r) H2 → tt ((wipe σ [i]).set i (some (.ref a))) H2 Kt)
    (hte : ∀ a r H2 (Ke : V → Hp → Prop), S r → c r = true → RowAt H2 a r → Ke (.int (f r)) H2 → te ((wipe σ [i]).set i (some (.ref a))) H2 Ke)
    (hd : ∀ (ns : List Int) (H' : Hp), Same H1 H' → H' D = some (.lst (ns.map V.int)) → (∀ n, n ∈ ns ↔ ∃ r, S r ∧ c r = true ∧ f r = n) → ns.length ≤ 1000 → Qd H') :
    ∃ W : Nat → Nat → Hp → Prop, (∃ m, W 0 m (upd H1 D (.lst []))) ∧ ∀ k m H, W k m H →
      ((Itl K l).stop k H ∧ Qd H) ∨ ((Itl K l).go k H ∧ ∃ Nx : Hp → Prop, (∀ H', Nx H' → ∃ m', m' < m ∧ W (k + 1) m' H') ∧ ∀ x H', (Itl K l).yld k H x H' → gName i x (wipe σ [i]) H' fun σ2 H2 => wipe σ2 [i] = wipe σ [i] ∧ tt σ2 H2 fun b H3 =>
        if b = true then te σ2 H3 fun y H4 => ∃ acc, H4 D = some (.lst acc) ∧ acc.length < sizeLine ∧ Nx (upd H4 D (.lst (acc ++ [y]))) else Nx H3) := by
  refine lc_it (walk_list (K := K) (a := l) (xs := us)) (g := gName i) (fun k H' => Same H1 H' ∧ ∃ ns : List Int, H' D = some (.lst (ns.map V.int)) ∧ (∀ n ∈ ns, ∃ r, S r ∧ c r = true ∧ f r = n) ∧ (∀ j a r, j < k → us[j]? = some (.ref a) → RowAt H1 a r → c r = true → f r ∈ ns) ∧ ns.length ≤ k)
    ⟨same_upd nD, [], upd_same, fun _ m => (nomatch m), fun j _ _ hj => absurd hj (Nat.not_lt_zero j), Nat.le_refl _⟩ (fun k H' _ h => SqL.of (h.1 _ _ hl)) ?_ ?_
  · rintro k v G1 G2 hk ⟨g1, ns, hD, own, all, len⟩ ⟨rfl, ev⟩
    obtain ⟨a, r, rfl, ha, hs⟩ := hS.own v (List.mem_of_getElem? ev)
    refine ⟨wipe_one σ i _, htt a r G2 _ hs (g1 _ _ ha) ?_⟩
    have hlen := hS.len
    cases hc : c r with
    | true =>
      refine iteT (hte a r G2 _ hs hc (g1 _ _ ha) ⟨_, hD, small_line (by rw [List.length_map]; omega), same_mut g1 nD, ns ++ [f r], ?_, fun n m => ?_, fun j b t hj eb hb ht => ?_, ?_⟩)
      · rw [upd_same, List.map_append]
        rfl
      · rcases List.mem_append.mp m with m | m
        · exact own n m
        · exact ⟨r, hs, hc, (List.mem_singleton.mp m).symm⟩
      · by_cases e : j = k
        · subst e
          obtain rfl : a = b := V.ref.inj (Option.some.inj (ev.symm.trans eb))
          obtain rfl := row_inj ha hb
          exact List.mem_append_right _ (List.mem_singleton.mpr rfl)
        · exact List.mem_append_left _ (all j b t (by omega) eb hb ht)
      · rw [List.length_append, List.length_singleton]
        omega
    | false =>
      refine iteF ⟨g1, ns, hD, own, fun j b t hj eb hb ht => ?_, Nat.le_succ_of_le len⟩
      by_cases e : j = k
      · subst e
        obtain rfl : a = b := V.ref.inj (Option.some.inj (ev.symm.trans eb))
        obtain rfl := row_inj ha hb
        rw [hc] at ht
        cases ht
      · exact all j b t (by omega) eb hb ht
  · rintro G1 ⟨g1, ns, hD, own, all, len⟩
    refine hd ns G1 g1 hD (fun n => ⟨own n, ?_⟩) (Nat.le_trans len hS.len)
    rintro ⟨r, hs, hc, rfl⟩
    obtain ⟨a, m, ha⟩ := hS.all r hs
    obtain ⟨j, hj⟩ := List.getElem?_of_mem m
    exact all j a r (List.getElem?_eq_some_iff.mp hj).1 hj ha hc
/-! the best of a set of ints -/
def BestS (le : Int → Int → Prop) (S : Int → Prop) (d v : V) : Prop := ((∀ n, ¬ S n) ∧ v = d) ∨ ∃ m, S m ∧ (∀ y, S y → le y m) ∧ v = .int m
theorem best_of {le : Int → Int → Prop} {S : Int → Prop} {ns : List Int} {d v : V} (h : Gr.Best le ns d v) (e : ∀ n, n ∈ ns ↔ S n) : BestS le S d v := by
  rcases h with ⟨rfl, rfl⟩ | ⟨m, h1, h2, rfl⟩
  · exact .inl ⟨fun n s => (nomatch (e n).mpr s), rfl⟩
  · exact .inr ⟨m, (e m).mp h1, fun y s => h2 y ((e y).mpr s), rfl⟩
abbrev geS := BestS fun y m => y ≤ m
abbrev leS := BestS fun y m => m ≤ y
/-! ### the rows of a book by their word -/
def Bk (rs : List Row) (wd : Str) (r : Row) : Prop := r ∈ rs ∧ r.word = wd
def keyH (r : Row) : Key := .inr r.h
structure FldK (C : Addr) (H : Hp) (g : Addr) (f : Str) (P : Row → Prop) : Prop where
  ex : ∃ (dx d : Addr) (fs : List (Str × V)) (kvs : List (Key × V)), H g = some (.ins C dx fs) ∧ fs.lookup f = some (.ref d) ∧ H d = some (.dK kvs) ∧ DRow keyH H P kvs ∧ kvs.length ≤ 1000
  un : ∀ r t, P r → P t → r.h = t.h → r = t
theorem FldK.same {C : Addr} {H H' : Hp} {g : Addr} {f : Str} {P : Row → Prop} (h : FldK C H g f P) (s : Same H H') : FldK C H' g f P := by
  obtain ⟨dx, d, fs, kvs, h1, h2, h3, h4, h5⟩ := h.ex
  exact ⟨⟨dx, d, fs, kvs, s _ _ h1, h2, s _ _ h3, h4.same (Same.rows s), h5⟩, h.un⟩
/-! the three dicts of rows -/
structure Low (C : Addr) (H : Hp) (g : Addr) (rs : List Row) : Prop where
  a : FldT C H g "ask_rows" (Bk rs "ask")
  j : FldT C H g "job_rows" (Bk rs "job")
  l : FldK C H g "all_rows" (Bk rs "all")
  wf : ∀ r ∈ rs, r.Wf
theorem Low.same {C : Addr} {H H' : Hp} {g : Addr} {rs : List Row} (h : Low C H g rs) (s : Same H H') : Low C H' g rs := ⟨h.a.same s, h.j.same s, h.l.same s, h.wf⟩
def AskOf (rs : List Row) (h : Str) (r : Row) : Prop := Bk rs "ask" r ∧ r.h = h
def JobOf (rs : List Row) (h : Str) (r : Row) : Prop := Bk rs "job" r ∧ r.h = h
def AllOf (rs : List Row) (h : Str) (r : Row) : Prop := Bk rs "all" r ∧ r.h = h
/-! how many asks, how many jobs there were -/
def CntA (rs : List Row) (h : Str) (n : Int) : Prop := (∃ r, AllOf rs h r ∧ n = r.k) ∨ ((∀ r, ¬ AllOf rs h r) ∧ ∃ m, geS (fun x => ∃ r, AskOf rs h r ∧ r.k = x) (.int (-1)) (.int m) ∧ n = 1 + m)
def CntJ (rs : List Row) (h : Str) (n : Int) : Prop := (∃ r, AllOf rs h r ∧ n = r.x3) ∨ ((∀ r, ¬ AllOf rs h r) ∧ ∃ m, geS (fun x => (∃ r, JobOf rs h r ∧ r.k = x) ∨ ∃ r, AskOf rs h r ∧ r.x3 = x) (.int (-1)) (.int m) ∧ n = 1 + m)
theorem best_int {le : Int → Int → Prop} {ns : List Int} {d : Int} {v : V} (h : Gr.Best le ns (.int d) v) : ∃ m, v = .int m ∧ (m = d ∨ m ∈ ns) := by
  rcases h with ⟨_, rfl⟩ | ⟨m, h1, _, rfl⟩
  · exact ⟨d, rfl, .inl rfl⟩
  · exact ⟨m, rfl, .inr h1⟩
theorem wf_k {r : Row} (h : r.Wf) : 0 ≤ r.k ∧ r.k ≤ 15 := by
  cases r with
  | ask h g k n o b =>
    have := h.2.2.1
    exact ⟨this.1, by have := this.2; show k ≤ 15; omega⟩
  | job h k o b =>
    have := h.2.1
    exact ⟨this.1, by have := this.2; show k ≤ 15; omega⟩
  | all h a j => exact h.2.1
theorem wf_x3 {r : Row} (h : r.Wf) (hw : r.word ≠ "job") : 0 ≤ r.x3 ∧ r.x3 ≤ 15 := by
  cases r with
  | ask h g k n o b =>
    have := h.2.2.2.1
    exact ⟨this.1, by have := this.2; show n ≤ 15; omega⟩
  | job h k o b => exact absurd rfl hw
  | all h a j => exact h.2.2
def sp_count (C : Addr) (R : List Row → Str → Int → Prop) : Sp := fun vs H Q _ => ∃ (g : Addr) (h : Str) (rs : List Row), vs = [.ref g, .str h] ∧ Low C H g rs ∧ ∀ (n : Nat) (H' : Hp), Same H H' → n ≤ 16 → R rs h (n : Nat) → Q (.int (n : Nat)) H'
theorem val_row {κ : Type} [DecidableEq κ] {key : Row → κ} {H : Hp} {P : Row → Prop} {kvs : List (κ × V)} (d : DRow key H P kvs) (k : κ) : (∃ a r, valV kvs k = some (.ref a) ∧ RowAt H a r ∧ P r ∧ k = key r) ∨ (valV kvs k = none ∧ ∀ r, P r → key r ≠ k) := by
  cases e : valV kvs k with
  | some v =>
    obtain ⟨a, r, e1, e2, e3, e4⟩ := d.own _ (val_mem e)
    exact .inl ⟨a, r, by rw [← e1], e2, e3, e4⟩
  | none =>
    refine .inr ⟨rfl, fun r hr ek => ?_⟩
    obtain ⟨v, m⟩ := d.all r hr
    rw [ek] at m
    exact val_none e v m
theorem ok_count_asks (T : Txt K mg af fd) : FnOk P w K mg base CX0 2 (af 24) (fd 24) ["gaps", "house"] (sp_count (af 66) CntA) := by
  refine T.F_count_asks.ok sc_count_asks (fun vs H Q E h => ?_) (fun cdv A outer s H vs Q E hr h => ?_)
  · obtain ⟨g, h, rs, rfl, _⟩ := h
    rfl
  · obtain ⟨g, hh, rs, rfl, L, q⟩ := h
    refine ⟨_, (pss_cons (ps_if (pt_cmp (pc_din (hu_of hr) (pv 1) (pe_fld (pv 0) rfl))) (pss_one (ps_ret (pe_ix ix_tup (pe_dget (hu_of hr) (pe_fld (pv 0) rfl) (pv 1) (fun _ _ => rfl)) pe_int (fun _ _ => rfl)))) pss_nil)
        (pss_one (ps_ret (pe_op op_add pe_int (pe_callBK (Gr.cr_maxDf rfl (hu_of hr)) (by rfl) T.m_max (by decide +kernel) (pa_cons (pe_lc (own := [("row", 2)]) (g := gName 2) (by rfl) sc_count_asks.nd (pi_list (pe_call (ok_asks_of_house T) (hr.mono (by first | decide | omega)) (by rfl) T.g_asks_of_house T.F_asks_of_house.kp T.b_asks_of_house .nil pass0 (pa_cons (pv 0) (pa_cons (pv 1) pa_nil)))) (blkOk_by (own := [("row", 2)]) (N := ["gaps", "house", "row"]) (sc := defScope s_count_asks) (by decide +kernel)) (fun _ _ _ _ _ => pg_name (i := 2) sc_count_asks.nd rfl (Or.inl rfl)) (fun _ _ _ _ _ => pts_nil) (fun _ _ _ _ _ => (pe_ix (show IxR _ (rIxT K) from ix_tup) (pv 2) pe_int (fun _ _ => rfl)))) pa_nil) (pk_cons (pe_un un_neg pe_int) pk_nil)))))), ?_⟩
    obtain ⟨dx, d, fs, kvs, l1, l2, l3, l4, l5⟩ := L.l.ex
    refine ⟨_, rfl, _, rfl, g, _, dx, fs, _, rfl, l1, T.o_Gaps.c, T.o_Gaps.no _ (by simp), l2, d, _, rfl, DGet.k (k := Sum.inr hh) l3, _, rfl, ?_⟩
    rcases val_row l4 (Sum.inr hh : Key) with ⟨a, r, e1, e2, e3, e4⟩ | ⟨e1, e2⟩
    · have eh : r.h = hh := (Sum.inr.inj e4).symm
      rw [e1]
      refine iteT ⟨_, rfl, g, _, dx, fs, _, rfl, l1, T.o_Gaps.c, T.o_Gaps.no _ (by simp), l2, _, rfl, d, _, rfl, (by rw [← e1]; exact DGet.k (k := Sum.inr hh) l3), a, _, 2, _, rfl, rfl, SqT.of e2, at2 r, ?_⟩
      obtain ⟨b1, b2⟩ := wf_k (L.wf r e3.1)
      have := q r.k.toNat H (Same.refl _) (by omega) (.inl ⟨r, ⟨e3, eh⟩, by omega⟩)
      rw [show ((r.k.toNat : Nat) : Int) = r.k by omega] at this
      exact this
    · rw [e1]
      refine iteF ?_
      refine ⟨_, rfl, _, rfl, g, hh, _, rfl, L.a, fun D us H1 s1 nD hD hS => ?_⟩
      refine ⟨D, rfl, ⟨_, SqL.of hD⟩, fun D2 nD2 => ?_⟩
      refine sel_map (fun _ => true) Row.k hD hS nD2 (fun a r H2 Kt hs ha hk => hk) (fun a r H2 Ke hs hc ha hk => ⟨_, rfl, a, _, 2, _, rfl, rfl, SqT.of ha, at2 r, hk⟩) (fun ns H2 s2 hD2 hns hlen => ?_)
      refine ⟨_, rfl, D2, ns, _, rfl, rfl, SqL.of hD2, fun v hv => ?_⟩
      obtain ⟨m, rfl, hm⟩ := best_int hv
      refine ⟨_, _, rfl, rfl, ?_⟩
      have hb : -1 ≤ m ∧ m ≤ 15 := by
        rcases hm with rfl | hm
        · exact ⟨by decide, by decide⟩
        · obtain ⟨r, hs, _, rfl⟩ := (hns m).mp hm
          have := wf_k (L.wf r hs.1.1)
          omega
      have := q (1 + m).toNat H2 (s1.trans s2) (by omega) (.inr ⟨fun r hr => e2 r hr.1 (congrArg Sum.inr hr.2), m, best_of hv fun n => ?_, by omega⟩)
      · rw [show (((1 + m).toNat : Nat) : Int) = 1 + m by omega] at this
        exact this
      · rw [hns]
        constructor
        · rintro ⟨r, h1, _, h2⟩
          exact ⟨r, h1, h2⟩
        · rintro ⟨r, h1, h2⟩
          exact ⟨r, h1, rfl, h2⟩
theorem and_ex {S c : Row → Prop} [DecidablePred c] {f : Row → Int} {ns : List Int} (h : ∀ n, n ∈ ns ↔ ∃ r, S r ∧ (decide (c r)) = true ∧ f r = n) (n : Int) : n ∈ ns ↔ ∃ r, S r ∧ c r ∧ f r = n := by
  rw [h]
  constructor
  · rintro ⟨r, h1, h2, h3⟩
    exact ⟨r, h1, of_decide_eq_true h2, h3⟩
  · rintro ⟨r, h1, h2, h3⟩
    exact ⟨r, h1, decide_eq_true h2, h3⟩
theorem all_ex {S : Row → Prop} {f : Row → Int} {ns : List Int} (h : ∀ n, n ∈ ns ↔ ∃ r, S r ∧ (fun _ : Row => true) r = true ∧ f r = n) (n : Int) : n ∈ ns ↔ ∃ r, S r ∧ f r = n := by
  rw [h]
  constructor
  · rintro ⟨r, h1, _, h3⟩
    exact ⟨r, h1, h3⟩
  · rintro ⟨r, h1, h3⟩
    exact ⟨r, h1, rfl, h3⟩
theorem ok_count_jobs (T : Txt K mg af fd) : FnOk P w K mg base CX0 2 (af 25) (fd 25) ["gaps", "house"] (sp_count (af 66) CntJ) := by
  refine T.F_count_jobs.ok sc_count_jobs (fun vs H Q E h => ?_) (fun cdv A outer s H vs Q E hr h => ?_)
  · obtain ⟨g, h, rs, rfl, _⟩ := h
    rfl
  · obtain ⟨g, hh, rs, rfl, L, q⟩ := h
    refine ⟨_, (pss_cons (ps_if (pt_cmp (pc_din (hu_of hr) (pv 1) (pe_fld (pv 0) rfl))) (pss_one (ps_ret (pe_ix ix_tup (pe_dget (hu_of hr) (pe_fld (pv 0) rfl) (pv 1) (fun _ _ => rfl)) pe_int (fun _ _ => rfl)))) pss_nil)
        (pss_cons (ps_setLc (i := 2) (own := [("row", 3)]) (g := gName 3) (by rfl) sc_count_jobs.nd rfl rfl (sw_true rfl rfl rfl (by decide +kernel)) (pi_list (pe_call (ok_jobs_of_house T) (hr.mono (by first | decide | omega)) (by rfl) T.g_jobs_of_house T.F_jobs_of_house.kp T.b_jobs_of_house .nil pass0 (pa_cons (pv 0) (pa_cons (pv 1) pa_nil)))) (blkOk_by (own := [("row", 3)]) (N := ["gaps", "house", "done", "row", "asked_in"]) (sc := defScope s_count_jobs) (by decide +kernel)) (fun _ _ _ _ _ => pg_name (i := 3) sc_count_jobs.nd rfl (Or.inl rfl)) (fun _ _ _ _ _ => pts_nil) (fun _ _ _ _ _ => (pe_ix (show IxR _ (rIxT K) from ix_tup) (pv 3) pe_int (fun _ _ => rfl))))
        (pss_cons (ps_setLc (i := 4) (own := [("row", 3)]) (g := gName 3) (by rfl) sc_count_jobs.nd rfl rfl (sw_true rfl rfl rfl (by decide +kernel)) (pi_list (pe_call (ok_asks_of_house T) (hr.mono (by first | decide | omega)) (by rfl) T.g_asks_of_house T.F_asks_of_house.kp T.b_asks_of_house .nil pass0 (pa_cons (pv 0) (pa_cons (pv 1) pa_nil)))) (blkOk_by (own := [("row", 3)]) (N := ["gaps", "house", "done", "row", "asked_in"]) (sc := defScope s_count_jobs) (by decide +kernel)) (fun _ _ _ _ _ => pg_name (i := 3) sc_count_jobs.nd rfl (Or.inl rfl)) (fun _ _ _ _ _ => pts_nil) (fun _ _ _ _ _ => (pe_ix (show IxR _ (rIxT K) from ix_tup) (pv 3) pe_int (fun _ _ => rfl))))
        (pss_one (ps_ret (pe_op op_add pe_int (pe_callBK (Gr.cr_maxDf rfl (hu_of hr)) (by rfl) T.m_max (by decide +kernel) (pa_cons (pe_op op_cat (pv 2) (pv 4)) pa_nil) (pk_cons (pe_un un_neg pe_int) pk_nil)))))))), ?_⟩
    obtain ⟨dx, d, fs, kvs, l1, l2, l3, l4, l5⟩ := L.l.ex
    refine ⟨_, rfl, _, rfl, g, _, dx, fs, _, rfl, l1, T.o_Gaps.c, T.o_Gaps.no _ (by simp), l2, d, _, rfl, DGet.k (k := Sum.inr hh) l3, _, rfl, ?_⟩
    rcases val_row l4 (Sum.inr hh : Key) with ⟨a, r, e1, e2, e3, e4⟩ | ⟨e1, e2⟩
    · have eh : r.h = hh := (Sum.inr.inj e4).symm
      rw [e1]
      refine iteT ⟨_, rfl, g, _, dx, fs, _, rfl, l1, T.o_Gaps.c, T.o_Gaps.no _ (by simp), l2, _, rfl, d, _, rfl, (by rw [← e1]; exact DGet.k (k := Sum.inr hh) l3), a, _, 3, _, rfl, rfl, SqT.of e2, at3 r, ?_⟩
      obtain ⟨b1, b2⟩ := wf_x3 (L.wf r e3.1) (by rw [e3.2]; exact fun z => w_ja z.symm)
      have := q r.x3.toNat H (Same.refl _) (by omega) (.inl ⟨r, ⟨e3, eh⟩, by omega⟩)
      rw [show ((r.x3.toNat : Nat) : Int) = r.x3 by omega] at this
      exact this
    · rw [e1]
      refine iteF ?_
      refine ⟨_, rfl, _, rfl, g, hh, _, rfl, L.j, fun D us H1 s1 nD hD hS => ?_⟩
      refine ⟨D, rfl, ⟨_, SqL.of hD⟩, fun D2 nD2 => ?_⟩
      refine sel_map (fun _ => true) Row.k hD hS nD2 (fun a r H2 Kt hs ha hk => hk) (fun a r H2 Ke hs hc ha hk => ⟨_, rfl, a, _, 2, _, rfl, rfl, SqT.of ha, at2 r, hk⟩) (fun ns H2 s2 hD2 hns hlen => ?_)
      have s12 := s1.trans s2
      refine ⟨_, rfl, _, rfl, g, hh, _, rfl, L.a.same s12, fun D3 us3 H3 s3 nD3 hD3 hS3 => ?_⟩
      refine ⟨D3, rfl, ⟨_, SqL.of hD3⟩, fun D4 nD4 => ?_⟩
      refine sel_map (fun _ => true) Row.x3 hD3 hS3 nD4 (fun a r H2 Kt hs ha hk => hk) (fun a r H2 Ke hs hc ha hk => ⟨_, rfl, a, _, 3, _, rfl, rfl, SqT.of ha, at3 r, hk⟩) (fun ns4 H4 s4 hD4 hns4 hlen4 => ?_)
      have s34 := s3.trans s4
      refine ⟨_, rfl, _, rfl, D2, D4, _, _, rfl, rfl, s34 _ _ hD2, hD4, (by rw [List.length_map, List.length_map]; exact Nat.le_of_lt (small_line (by omega))), fun D5 nD5 => ?_⟩
      refine ⟨_, rfl, D5, ns ++ ns4, _, rfl, rfl, SqL.of (by rw [upd_same, List.map_append]), fun v hv => ?_⟩
      obtain ⟨m, rfl, hm⟩ := best_int hv
      refine ⟨_, _, rfl, rfl, ?_⟩
      have hb : -1 ≤ m ∧ m ≤ 15 := by
        rcases hm with rfl | hm
        · exact ⟨by decide, by decide⟩
        · rcases List.mem_append.mp hm with hm | hm
          · obtain ⟨r, hs, _, rfl⟩ := (hns m).mp hm
            have := wf_k (L.wf r hs.1.1)
            omega
          · obtain ⟨r, hs, _, rfl⟩ := (hns4 m).mp hm
            have := wf_x3 (L.wf r hs.1.1) (by rw [hs.1.2]; exact w_aj)
            omega
      have := q (1 + m).toNat _ ((s12.trans s34).trans (same_upd (o := .lst (ns.map V.int ++ ns4.map V.int)) nD5)) (by omega) (.inr ⟨fun r hr => e2 r hr.1 (congrArg Sum.inr hr.2), m, best_of hv fun n => ?_, by omega⟩)
      · rw [show (((1 + m).toNat : Nat) : Int) = 1 + m by omega] at this
        exact this
      · rw [List.mem_append, all_ex hns, all_ex hns4]
        exact Iff.rfl
/-! ### from when to when -/
def SpA (rs : List Row) (k : Gr.HK) (low high : V) : Prop := geS (fun x => ∃ r, AskOf rs k.1 r ∧ r.k < k.2 ∧ r.x5 = x) .non low ∧ leS (fun x => ∃ r, AskOf rs k.1 r ∧ k.2 < r.k ∧ r.x5 = x) .non high
def SpJ (rs : List Row) (k : Gr.HK) (low high last : V) : Prop := geS (fun x => ∃ r, JobOf rs k.1 r ∧ r.k < k.2 ∧ r.x3 = x) .non low ∧
  leS (fun x => (∃ r, JobOf rs k.1 r ∧ k.2 < r.k ∧ r.x3 = x) ∨ ∃ r, AskOf rs k.1 r ∧ k.2 ≤ r.x3 ∧ r.x5 - 1 = x) .non high ∧ geS (fun x => ∃ r, AskOf rs k.1 r ∧ r.x3 = k.2 ∧ r.x6 = x) .non last
def Mr (rs : List Row) (h : Str) (ta tj : V) : Prop := geS (fun x => ∃ r, AskOf rs h r ∧ r.x5 = x) .non ta ∧ geS (fun x => ∃ r, JobOf rs h r ∧ r.x3 = x) .non tj
def sp_span_of_ask (C : Addr) : Sp := fun vs H Q _ => ∃ (g b : Addr) (k : Gr.HK) (rs : List Row), vs = [.ref g, .ref b] ∧ H b = some (.tup ((Gr.keyOf k).map kV)) ∧ Low C H g rs ∧ ∀ (p : Addr) (low high : V) (H' : Hp), Same H H' → H p = none → H' p = some (.tup [low, high]) → SpA rs k low high → Q (.ref p) H'
theorem ok_span_of_ask (T : Txt K mg af fd) : FnOk P w K mg base CX0 2 (af 28) (fd 28) ["gaps", "ask"] (sp_span_of_ask (af 66)) := by
  refine T.F_span_of_ask.ok sc_span_of_ask (fun vs H Q E h => ?_) (fun cdv A outer s H vs Q E hr h => ?_)
  · obtain ⟨g, b, k, rs, rfl, _⟩ := h
    rfl
  · obtain ⟨g, b, k, rs, rfl, hb, L, q⟩ := h
    refine ⟨_, (pss_cons (ps_asg (pv 1) (pg_tup rfl (pgs_cons (pg_name (i := 2) sc_span_of_ask.nd rfl (by first | exact Or.inl rfl | exact Or.inr rfl)) (pgs_cons (pg_name (i := 3) sc_span_of_ask.nd rfl (by first | exact Or.inl rfl | exact Or.inr rfl)) pgs_nil))))
        (pss_cons (ps_set (i := 4) sc_span_of_ask.nd rfl (by first | exact Or.inl rfl | exact Or.inr rfl) (pe_call (ok_asks_of_house T) (hr.mono (by first | decide | omega)) (by rfl) T.g_asks_of_house T.F_asks_of_house.kp T.b_asks_of_house .nil pass0 (pa_cons (pv 0) (pa_cons (pv 2) pa_nil))))
        (pss_cons (ps_set (i := 5) sc_span_of_ask.nd rfl (by first | exact Or.inl rfl | exact Or.inr rfl) (pe_call (ok_latest T) (hr.mono (by first | decide | omega)) (by rfl) T.g_latest T.F_latest.kp T.b_latest .nil pass0 (pa_cons (pe_lc (own := [("row", 6)]) (g := gName 6) (by rfl) sc_span_of_ask.nd (pi_list (pv 4)) (blkOk_by (own := [("row", 6)]) (N := ["gaps", "ask", "house", "number", "asks", "low", "row", "high"]) (sc := defScope s_span_of_ask) (by decide +kernel)) (fun _ _ _ _ _ => pg_name (i := 6) sc_span_of_ask.nd rfl (Or.inl rfl)) (fun _ _ _ _ _ => (pts_one (pt_cmpR op_lt (pe_ix (show IxR _ (rIxT K) from ix_tup) (pv 6) pe_int (fun _ _ => rfl)) (pv 3) (nomark _)))) (fun _ _ _ _ _ => (pe_ix (show IxR _ (rIxT K) from ix_tup) (pv 6) pe_int (fun _ _ => rfl)))) pa_nil)))
        (pss_cons (ps_set (i := 7) sc_span_of_ask.nd rfl (by first | exact Or.inl rfl | exact Or.inr rfl) (pe_call (ok_earliest T) (hr.mono (by first | decide | omega)) (by rfl) T.g_earliest T.F_earliest.kp T.b_earliest .nil pass0 (pa_cons (pe_lc (own := [("row", 6)]) (g := gName 6) (by rfl) sc_span_of_ask.nd (pi_list (pv 4)) (blkOk_by (own := [("row", 6)]) (N := ["gaps", "ask", "house", "number", "asks", "low", "row", "high"]) (sc := defScope s_span_of_ask) (by decide +kernel)) (fun _ _ _ _ _ => pg_name (i := 6) sc_span_of_ask.nd rfl (Or.inl rfl)) (fun _ _ _ _ _ => (pts_one (pt_cmpR op_gt (pe_ix (show IxR _ (rIxT K) from ix_tup) (pv 6) pe_int (fun _ _ => rfl)) (pv 3) (nomark _)))) (fun _ _ _ _ _ => (pe_ix (show IxR _ (rIxT K) from ix_tup) (pv 6) pe_int (fun _ _ => rfl)))) pa_nil)))
        (pss_one (ps_ret (pe_tup (pa_cons (pv 5) (pa_cons (pv 7) pa_nil))))))))), ?_⟩
    refine ⟨_, rfl, b, _, rfl, SqT.of hb, rfl, _, _, rfl, _, _, rfl, rfl, ?_⟩
    refine ⟨_, rfl, _, rfl, g, k.1, _, rfl, L.a, fun D us H1 s1 nD hD hS => ?_⟩
    refine ⟨_, rfl, D, rfl, ⟨_, SqL.of hD⟩, fun D2 nD2 => ?_⟩
    refine sel_map (fun r => decide (r.k < k.2)) Row.x5 hD hS nD2 (fun a r H2 Kt hs ha hk => ⟨_, rfl, a, _, 2, _, rfl, rfl, SqT.of ha, at2 r, _, rfl, _, _, rfl, rfl, _, rfl, hk⟩) (fun a r H2 Ke hs hc ha hk => ⟨_, rfl, a, _, 5, _, rfl, rfl, SqT.of ha, at5 hs.1.2, hk⟩) (fun ns H2 s2 hD2 hns hlen => ?_)
    refine ⟨D2, ns, rfl, hD2, fun low hlow => ?_⟩
    have hD' := s2 _ _ hD
    refine ⟨_, rfl, D, rfl, ⟨_, SqL.of hD'⟩, fun D3 nD3 => ?_⟩
    refine sel_map (fun r => decide (r.k > k.2)) Row.x5 hD' (hS.same s2) nD3 (fun a r H2 Kt hs ha hk => ⟨_, rfl, a, _, 2, _, rfl, rfl, SqT.of ha, at2 r, _, rfl, _, _, rfl, rfl, _, rfl, hk⟩) (fun a r H2 Ke hs hc ha hk => ⟨_, rfl, a, _, 5, _, rfl, rfl, SqT.of ha, at5 hs.1.2, hk⟩) (fun ns3 H3 s3 hD3 hns3 hlen3 => ?_)
    refine ⟨D3, ns3, rfl, hD3, fun high hhigh => ?_⟩
    refine ⟨_, rfl, _, rfl, (by show 2 ≤ sizeLine; decide), fun p np => ?_⟩
    have g3 := (s1.trans s2).trans s3
    exact q p low high _ (same_mut g3 (g3.free np)) (g3.free np) upd_same ⟨best_of hlow (and_ex hns), best_of hhigh (and_ex hns3)⟩
def sp_span_of_job (C : Addr) : Sp := fun vs H Q _ => ∃ (g b : Addr) (k : Gr.HK) (rs : List Row), vs = [.ref g, .ref b] ∧ H b = some (.tup ((Gr.keyOf k).map kV)) ∧ Low C H g rs ∧ ∀ (p : Addr) (low high last : V) (H' : Hp), Same H H' → H p = none → H' p = some (.tup [low, high, last]) → SpJ rs k low high last → Q (.ref p) H'
theorem ok_span_of_job (T : Txt K mg af fd) : FnOk P w K mg base CX0 2 (af 29) (fd 29) ["gaps", "job"] (sp_span_of_job (af 66)) := by
  refine T.F_span_of_job.ok sc_span_of_job (fun vs H Q E h => ?_) (fun cdv A outer s H vs Q E hr h => ?_)
  · obtain ⟨g, b, k, rs, rfl, _⟩ := h
    rfl
  · obtain ⟨g, b, k, rs, rfl, hb, L, q⟩ := h
    refine ⟨_, (pss_cons (ps_asg (pv 1) (pg_tup rfl (pgs_cons (pg_name (i := 2) sc_span_of_job.nd rfl (by first | exact Or.inl rfl | exact Or.inr rfl)) (pgs_cons (pg_name (i := 3) sc_span_of_job.nd rfl (by first | exact Or.inl rfl | exact Or.inr rfl)) pgs_nil))))
        (pss_cons (ps_set (i := 4) sc_span_of_job.nd rfl (by first | exact Or.inl rfl | exact Or.inr rfl) (pe_call (ok_asks_of_house T) (hr.mono (by first | decide | omega)) (by rfl) T.g_asks_of_house T.F_asks_of_house.kp T.b_asks_of_house .nil pass0 (pa_cons (pv 0) (pa_cons (pv 2) pa_nil))))
        (pss_cons (ps_set (i := 5) sc_span_of_job.nd rfl (by first | exact Or.inl rfl | exact Or.inr rfl) (pe_call (ok_jobs_of_house T) (hr.mono (by first | decide | omega)) (by rfl) T.g_jobs_of_house T.F_jobs_of_house.kp T.b_jobs_of_house .nil pass0 (pa_cons (pv 0) (pa_cons (pv 2) pa_nil))))
        (pss_cons (ps_set (i := 6) sc_span_of_job.nd rfl (by first | exact Or.inl rfl | exact Or.inr rfl) (pe_call (ok_latest T) (hr.mono (by first | decide | omega)) (by rfl) T.g_latest T.F_latest.kp T.b_latest .nil pass0 (pa_cons (pe_lc (own := [("row", 7)]) (g := gName 7) (by rfl) sc_span_of_job.nd (pi_list (pv 5)) (blkOk_by (own := [("row", 7)]) (N := ["gaps", "job", "house", "number", "asks", "jobs", "low", "row", "begins", "ahead_of_asks", "last"]) (sc := defScope s_span_of_job) (by decide +kernel)) (fun _ _ _ _ _ => pg_name (i := 7) sc_span_of_job.nd rfl (Or.inl rfl)) (fun _ _ _ _ _ => (pts_one (pt_cmpR op_lt (pe_ix (show IxR _ (rIxT K) from ix_tup) (pv 7) pe_int (fun _ _ => rfl)) (pv 3) (nomark _)))) (fun _ _ _ _ _ => (pe_ix (show IxR _ (rIxT K) from ix_tup) (pv 7) pe_int (fun _ _ => rfl)))) pa_nil)))
        (pss_cons (ps_setLc (i := 8) (own := [("row", 7)]) (g := gName 7) (by rfl) sc_span_of_job.nd rfl rfl (sw_true rfl rfl rfl (by decide +kernel)) (pi_list (pv 5)) (blkOk_by (own := [("row", 7)]) (N := ["gaps", "job", "house", "number", "asks", "jobs", "low", "row", "begins", "ahead_of_asks", "last"]) (sc := defScope s_span_of_job) (by decide +kernel)) (fun _ _ _ _ _ => pg_name (i := 7) sc_span_of_job.nd rfl (Or.inl rfl)) (fun _ _ _ _ _ => (pts_one (pt_cmpR op_gt (pe_ix (show IxR _ (rIxT K) from ix_tup) (pv 7) pe_int (fun _ _ => rfl)) (pv 3) (nomark _)))) (fun _ _ _ _ _ => (pe_ix (show IxR _ (rIxT K) from ix_tup) (pv 7) pe_int (fun _ _ => rfl))))
        (pss_cons (ps_setLc (i := 9) (own := [("row", 7)]) (g := gName 7) (by rfl) sc_span_of_job.nd rfl rfl (sw_true rfl rfl rfl (by decide +kernel)) (pi_list (pv 4)) (blkOk_by (own := [("row", 7)]) (N := ["gaps", "job", "house", "number", "asks", "jobs", "low", "row", "begins", "ahead_of_asks", "last"]) (sc := defScope s_span_of_job) (by decide +kernel)) (fun _ _ _ _ _ => pg_name (i := 7) sc_span_of_job.nd rfl (Or.inl rfl)) (fun _ _ _ _ _ => (pts_one (pt_cmpR op_ge (pe_ix (show IxR _ (rIxT K) from ix_tup) (pv 7) pe_int (fun _ _ => rfl)) (pv 3) (nomark _)))) (fun _ _ _ _ _ => (pe_op op_sub (pe_ix (show IxR _ (rIxT K) from ix_tup) (pv 7) pe_int (fun _ _ => rfl)) pe_int)))
        (pss_cons (ps_set (i := 10) sc_span_of_job.nd rfl (by first | exact Or.inl rfl | exact Or.inr rfl) (pe_call (ok_latest T) (hr.mono (by first | decide | omega)) (by rfl) T.g_latest T.F_latest.kp T.b_latest .nil pass0 (pa_cons (pe_lc (own := [("row", 7)]) (g := gName 7) (by rfl) sc_span_of_job.nd (pi_list (pv 4)) (blkOk_by (own := [("row", 7)]) (N := ["gaps", "job", "house", "number", "asks", "jobs", "low", "row", "begins", "ahead_of_asks", "last"]) (sc := defScope s_span_of_job) (by decide +kernel)) (fun _ _ _ _ _ => pg_name (i := 7) sc_span_of_job.nd rfl (Or.inl rfl)) (fun _ _ _ _ _ => (pts_one (pt_cmpR op_eq (pe_ix (show IxR _ (rIxT K) from ix_tup) (pv 7) pe_int (fun _ _ => rfl)) (pv 3) (nomark _)))) (fun _ _ _ _ _ => (pe_ix (show IxR _ (rIxT K) from ix_tup) (pv 7) pe_int (fun _ _ => rfl)))) pa_nil)))
        (pss_one (ps_ret (pe_tup (pa_cons (pv 6) (pa_cons (pe_call (ok_earliest T) (hr.mono (by first | decide | omega)) (by rfl) T.g_earliest T.F_earliest.kp T.b_earliest .nil pass0 (pa_cons (pe_op op_cat (pv 8) (pv 9)) pa_nil)) (pa_cons (pv 10) pa_nil))))))))))))), ?_⟩
    refine ⟨_, rfl, b, _, rfl, SqT.of hb, rfl, _, _, rfl, _, _, rfl, rfl, ?_⟩
    refine ⟨_, rfl, _, rfl, g, k.1, _, rfl, L.a, fun DA us H1 s1 nDA hDA hSA => ?_⟩
    refine ⟨_, rfl, _, rfl, g, k.1, _, rfl, L.j.same s1, fun DJ uj H2 s2 nDJ hDJ hSJ => ?_⟩
    have hDA2 := s2 _ _ hDA
    have hSA2 := hSA.same s2
    refine ⟨_, rfl, DJ, rfl, ⟨_, SqL.of hDJ⟩, fun D3 nD3 => ?_⟩
    refine sel_map (fun r => decide (r.k < k.2)) Row.x3 hDJ hSJ nD3 (fun a r H2 Kt hs ha hk => ⟨_, rfl, a, _, 2, _, rfl, rfl, SqT.of ha, at2 r, _, rfl, _, _, rfl, rfl, _, rfl, hk⟩) (fun a r H2 Ke hs hc ha hk => ⟨_, rfl, a, _, 3, _, rfl, rfl, SqT.of ha, at3 r, hk⟩) (fun n3 H3 s3 hD3 hn3 hl3 => ?_)
    refine ⟨D3, n3, rfl, hD3, fun low hlow => ?_⟩
    have hDJ3 := s3 _ _ hDJ
    refine ⟨_, rfl, DJ, rfl, ⟨_, SqL.of hDJ3⟩, fun D4 nD4 => ?_⟩
    refine sel_map (fun r => decide (r.k > k.2)) Row.x3 hDJ3 (hSJ.same s3) nD4 (fun a r H2 Kt hs ha hk => ⟨_, rfl, a, _, 2, _, rfl, rfl, SqT.of ha, at2 r, _, rfl, _, _, rfl, rfl, _, rfl, hk⟩) (fun a r H2 Ke hs hc ha hk => ⟨_, rfl, a, _, 3, _, rfl, rfl, SqT.of ha, at3 r, hk⟩) (fun n4 H4 s4 hD4 hn4 hl4 => ?_)
    have s34 := s3.trans s4
    have hDA4 := s34 _ _ hDA2
    refine ⟨_, rfl, DA, rfl, ⟨_, SqL.of hDA4⟩, fun D5 nD5 => ?_⟩
    refine sel_map (fun r => decide (r.x3 ≥ k.2)) (fun r => r.x5 - 1) hDA4 (hSA2.same s34) nD5 (fun a r H2 Kt hs ha hk => ⟨_, rfl, a, _, 3, _, rfl, rfl, SqT.of ha, at3 r, _, rfl, _, _, rfl, rfl, _, rfl, hk⟩) (fun a r H2 Ke hs hc ha hk => ⟨_, rfl, a, _, 5, _, rfl, rfl, SqT.of ha, at5 hs.1.2, _, _, rfl, rfl, hk⟩) (fun n5 H5 s5 hD5 hn5 hl5 => ?_)
    have s35 := s34.trans s5
    have hDA5 := s35 _ _ hDA2
    refine ⟨_, rfl, DA, rfl, ⟨_, SqL.of hDA5⟩, fun D6 nD6 => ?_⟩
    refine sel_map (fun r => decide (r.x3 = k.2)) Row.x6 hDA5 (hSA2.same s35) nD6 (fun a r H2 Kt hs ha hk => ⟨_, rfl, a, _, 3, _, rfl, rfl, SqT.of ha, at3 r, _, rfl, rfl, _, rfl, (by rw [show decide (V.int r.x3 = kV (Sum.inl k.2)) = decide (r.x3 = k.2) from decide_eq_decide.mpr ⟨fun e => V.int.inj e, fun e => congrArg V.int e⟩]; exact hk)⟩) (fun a r H2 Ke hs hc ha hk => ⟨_, rfl, a, _, 6, _, rfl, rfl, SqT.of ha, at6 hs.1.2, hk⟩) (fun n6 H6 s6 hD6 hn6 hl6 => ?_)
    refine ⟨D6, n6, rfl, hD6, fun last hlast => ?_⟩
    have s56 := s5.trans s6
    refine ⟨_, rfl, _, rfl, _, rfl, D4, D5, _, _, rfl, rfl, s56 _ _ hD4, s6 _ _ hD5, (by rw [List.length_map, List.length_map]; exact Nat.le_of_lt (small_line (by omega))), fun D7 nD7 => ?_⟩
    refine ⟨D7, n4 ++ n5, rfl, (by rw [upd_same, List.map_append]), fun high hhigh => ?_⟩
    refine ⟨_, rfl, (by show 3 ≤ sizeLine; decide), fun p np => ?_⟩
    have g7 := ((((s1.trans s2).trans s34).trans s56)).trans (same_upd (o := .lst (n4.map V.int ++ n5.map V.int)) nD7)
    refine q p low high last _ (same_mut g7 (g7.free np)) (g7.free np) upd_same ⟨best_of hlow (and_ex hn3), best_of hhigh fun n => ?_, best_of hlast (and_ex hn6)⟩
    rw [List.mem_append, and_ex hn4, and_ex hn5]
    exact Iff.rfl
def sp_more_of (C : Addr) : Sp := fun vs H Q _ => ∃ (g : Addr) (h : Str) (rs : List Row), vs = [.ref g, .str h] ∧ Low C H g rs ∧ ∀ (p : Addr) (ta tj : V) (H' : Hp), Same H H' → H p = none → H' p = some (.tup [ta, tj]) → Mr rs h ta tj → Q (.ref p) H'
theorem ok_more_of (T : Txt K mg af fd) : FnOk P w K mg base CX0 2 (af 30) (fd 30) ["gaps", "house"] (sp_more_of (af 66)) := by
  refine T.F_more_of.ok sc_more_of (fun vs H Q E h => ?_) (fun cdv A outer s H vs Q E hr h => ?_)
  · obtain ⟨g, h, rs, rfl, _⟩ := h
    rfl
  · obtain ⟨g, hh, rs, rfl, L, q⟩ := h
    refine ⟨_, (pss_cons (ps_setLc (i := 2) (own := [("row", 3)]) (g := gName 3) (by rfl) sc_more_of.nd rfl rfl (sw_true rfl rfl rfl (by decide +kernel)) (pi_list (pe_call (ok_asks_of_house T) (hr.mono (by first | decide | omega)) (by rfl) T.g_asks_of_house T.F_asks_of_house.kp T.b_asks_of_house .nil pass0 (pa_cons (pv 0) (pa_cons (pv 1) pa_nil)))) (blkOk_by (own := [("row", 3)]) (N := ["gaps", "house", "outs", "row", "begins"]) (sc := defScope s_more_of) (by decide +kernel)) (fun _ _ _ _ _ => pg_name (i := 3) sc_more_of.nd rfl (Or.inl rfl)) (fun _ _ _ _ _ => pts_nil) (fun _ _ _ _ _ => (pe_ix (show IxR _ (rIxT K) from ix_tup) (pv 3) pe_int (fun _ _ => rfl))))
        (pss_cons (ps_setLc (i := 4) (own := [("row", 3)]) (g := gName 3) (by rfl) sc_more_of.nd rfl rfl (sw_true rfl rfl rfl (by decide +kernel)) (pi_list (pe_call (ok_jobs_of_house T) (hr.mono (by first | decide | omega)) (by rfl) T.g_jobs_of_house T.F_jobs_of_house.kp T.b_jobs_of_house .nil pass0 (pa_cons (pv 0) (pa_cons (pv 1) pa_nil)))) (blkOk_by (own := [("row", 3)]) (N := ["gaps", "house", "outs", "row", "begins"]) (sc := defScope s_more_of) (by decide +kernel)) (fun _ _ _ _ _ => pg_name (i := 3) sc_more_of.nd rfl (Or.inl rfl)) (fun _ _ _ _ _ => pts_nil) (fun _ _ _ _ _ => (pe_ix (show IxR _ (rIxT K) from ix_tup) (pv 3) pe_int (fun _ _ => rfl))))
        (pss_one (ps_ret (pe_tup (pa_cons (pe_call (ok_latest T) (hr.mono (by first | decide | omega)) (by rfl) T.g_latest T.F_latest.kp T.b_latest .nil pass0 (pa_cons (pv 2) pa_nil)) (pa_cons (pe_call (ok_latest T) (hr.mono (by first | decide | omega)) (by rfl) T.g_latest T.F_latest.kp T.b_latest .nil pass0 (pa_cons (pv 4) pa_nil)) pa_nil))))))), ?_⟩
    refine ⟨_, rfl, _, rfl, g, hh, _, rfl, L.a, fun D us H1 s1 nD hD hS => ?_⟩
    refine ⟨D, rfl, ⟨_, SqL.of hD⟩, fun D2 nD2 => ?_⟩
    refine sel_map (fun _ => true) Row.x5 hD hS nD2 (fun a r H2 Kt hs ha hk => hk) (fun a r H2 Ke hs hc ha hk => ⟨_, rfl, a, _, 5, _, rfl, rfl, SqT.of ha, at5 hs.1.2, hk⟩) (fun ns H2 s2 hD2 hns hlen => ?_)
    have s12 := s1.trans s2
    refine ⟨_, rfl, _, rfl, g, hh, _, rfl, L.j.same s12, fun D3 us3 H3 s3 nD3 hD3 hS3 => ?_⟩
    refine ⟨D3, rfl, ⟨_, SqL.of hD3⟩, fun D4 nD4 => ?_⟩
    refine sel_map (fun _ => true) Row.x3 hD3 hS3 nD4 (fun a r H2 Kt hs ha hk => hk) (fun a r H2 Ke hs hc ha hk => ⟨_, rfl, a, _, 3, _, rfl, rfl, SqT.of ha, at3 r, hk⟩) (fun ns4 H4 s4 hD4 hns4 hlen4 => ?_)
    have s34 := s3.trans s4
    refine ⟨_, rfl, D2, ns, rfl, s34 _ _ hD2, fun ta hta => ?_⟩
    refine ⟨_, rfl, D4, ns4, rfl, hD4, fun tj htj => ?_⟩
    refine ⟨(by show 2 ≤ sizeLine; decide), fun p np => ?_⟩
    have g4 := s12.trans s34
    exact q p ta tj _ (same_mut g4 (g4.free np)) (g4.free np) upd_same ⟨best_of hta (all_ex hns), best_of htj (all_ex hns4)⟩
/-! ### books -/
structure Book (hs : List Str) (rs : List Row) : Prop where
  wf : ∀ r ∈ rs, r.Wf
  inn : ∀ r ∈ rs, r.In hs
  nc : ∀ r ∈ rs, ∀ t ∈ rs, ¬ ClashP r t
def rowD (r : Row) : PyData := .tuple r.data
theorem rows_of {P : Row → Prop} : ∀ {ds : List PyData}, (∀ d ∈ ds, ∃ r, d = rowD r ∧ P r) → ∃ rs : List Row, ds = rs.map rowD ∧ ∀ r ∈ rs, P r
  | [], _ => ⟨[], rfl, fun _ m => (nomatch m)⟩
  | d :: ds, h => by
    obtain ⟨rs, e, hp⟩ := rows_of (P := P) (ds := ds) fun x m => h x (List.mem_cons_of_mem _ m)
    obtain ⟨r, rfl, hr⟩ := h d List.mem_cons_self
    refine ⟨r :: rs, by rw [List.map_cons, ← e], fun x m => ?_⟩
    rcases List.mem_cons.mp m with rfl | m
    · exact hr
    · exact hp x m
theorem book_of {Ex : Addr → Prop} {H : Hp} {hs : List Str} {xs : List V} {ds : List PyData} (hok : ∀ h ∈ hs, PyData.strOk h = true) (hd : Dqs Ex H xs ds) (hr : RowsD hs ds ds.length) (hn : NoClash ds ds.length) : ∃ rs : List Row, ds = rs.map rowD ∧ Rws H xs rs ∧ Book hs rs := by
  obtain ⟨rs, rfl, hp⟩ := rows_of (P := fun r => r.Wf ∧ r.In hs) (ds := ds) fun d m => by
    obtain ⟨j, hj⟩ := List.getElem?_of_mem m
    obtain ⟨r, e, w, i⟩ := isRow_wf hok (hr j d (List.getElem?_eq_some_iff.mp hj).1 hj)
    exact ⟨r, e, w, i⟩
  have hat : ∀ {i : Nat} {r : Row}, rs[i]? = some r → (rs.map rowD)[i]? = some (.tuple r.data) := fun e => by rw [List.getElem?_map, e]; rfl
  refine ⟨rs, rfl, ⟨by rw [hd.len, List.length_map], fun i r e => ?_⟩, fun r m => (hp r m).1, fun r m => (hp r m).2, fun r mr t mt hc => ?_⟩
  · obtain ⟨v, hv, dv⟩ := hd.get (hat e)
    obtain ⟨a, rfl, ha⟩ := row_at dv
    exact ⟨a, hv, ha⟩
  · obtain ⟨i, hi⟩ := List.getElem?_of_mem mr
    obtain ⟨j, hj⟩ := List.getElem?_of_mem mt
    have li : i < (rs.map rowD).length := by rw [List.length_map]; exact (List.getElem?_eq_some_iff.mp hi).1
    have lj : j < (rs.map rowD).length := by rw [List.length_map]; exact (List.getElem?_eq_some_iff.mp hj).1
    rcases Nat.lt_trichotomy i j with h | h | h
    · exact hn j lj i h ⟨r, t, hat hi, hat hj, hc⟩
    · subst h
      obtain rfl := Option.some.inj (hi.symm.trans hj)
      cases r <;> simp [ClashP] at hc
    · exact hn i li j h ⟨t, r, hat hj, hat hi, (clash_comm r t).mp hc⟩
theorem Book.uniq {hs : List Str} {rs : List Row} (B : Book hs rs) {wd : Str} (hw : wd = "ask" ∨ wd = "job") : Uniq (Bk rs wd) := fun r t hr ht e => by
  refine Decidable.byContradiction fun ne => B.nc r hr.1 t ht.1 ?_
  have e1 : r.h = t.h := congrArg Prod.fst e
  have e2 : r.k = t.k := congrArg Prod.snd e
  have ew : r.word = t.word := hr.2.trans ht.2.symm
  cases r with
  | ask h g k n o b =>
    cases t with
    | ask h' g' k' n' o' b' => exact ⟨e1, ne, .inl e2⟩
    | job h' k' o' b' => exact absurd ew w_aj
    | all h' a' j' => exact absurd ew w_aa
  | job h k o b =>
    cases t with
    | ask h' g' k' n' o' b' => exact absurd ew.symm w_aj
    | job h' k' o' b' => exact ⟨e1, ne, .inl e2⟩
    | all h' a' j' => exact absurd ew w_ja
  | all h a j =>
    rcases hw with rfl | rfl
    · exact absurd hr.2 w_la
    · exact absurd hr.2 (fun z => w_ja z.symm)
theorem Book.uniqH {hs : List Str} {rs : List Row} (B : Book hs rs) (r t : Row) (hr : Bk rs "all" r) (ht : Bk rs "all" t) (e1 : r.h = t.h) : r = t := by
  refine Decidable.byContradiction fun ne => B.nc r hr.1 t ht.1 ?_
  cases r with
  | ask h g k n o b => exact absurd hr.2 w_aa
  | job h k o b => exact absurd hr.2 w_ja
  | all h a j =>
    cases t with
    | ask h' g' k' n' o' b' => exact absurd ht.2 w_aa
    | job h' k' o' b' => exact absurd ht.2 w_ja
    | all h' a' j' => exact ⟨e1, ne⟩
/-! all but the object at g stands -/
def Frm (g : Addr) (H H' : Hp) : Prop := ∀ b o, b ≠ g → H b = some o → H' b = some o
theorem Frm.trans {g : Addr} {H H1 H2 : Hp} (a : Frm g H H1) (b : Frm g H1 H2) : Frm g H H2 := fun x o n e => b x o n (a x o n e)
theorem Same.frm {g : Addr} {H H' : Hp} (s : Same H H') : Frm g H H' := fun b o _ e => s b o e
theorem frm_upd {g : Addr} {H : Hp} {o : HO} : Frm g H (upd H g o) := fun b u n e => by rw [upd_ne n]; exact e
theorem Frm.row {g : Addr} {H H' : Hp} {C dx : Addr} {fs : List (Str × V)} (f : Frm g H H') (hg : H g = some (.ins C dx fs)) : ∀ a r, RowAt H a r → RowAt H' a r := fun a r h => f _ _ (ne_of h hg (fun z => nomatch z)) h
theorem FldT.go {C g dx dx' : Addr} {H H' : Hp} {f : Str} {P : Row → Prop} {fs fs' : List (Str × V)} (h : FldT C H g f P) (fr : Frm g H H') (hg : H g = some (.ins C dx fs)) (hg' : H' g = some (.ins C dx' fs')) (e : fs'.lookup f = fs.lookup f) : FldT C H' g f P := by
  obtain ⟨dy, d, fy, kvs, h1, h2, h3, h4, h5⟩ := h.ex
  cases hg.symm.trans h1
  exact ⟨⟨dx', d, fs', kvs, hg', by rw [e]; exact h2, fr _ _ (ne_of h3 hg (fun z => nomatch z)) h3, h4.same (fr.row hg), h5⟩, h.un⟩
theorem FldK.go {C g dx dx' : Addr} {H H' : Hp} {f : Str} {P : Row → Prop} {fs fs' : List (Str × V)} (h : FldK C H g f P) (fr : Frm g H H') (hg : H g = some (.ins C dx fs)) (hg' : H' g = some (.ins C dx' fs')) (e : fs'.lookup f = fs.lookup f) : FldK C H' g f P := by
  obtain ⟨dy, d, fy, kvs, h1, h2, h3, h4, h5⟩ := h.ex
  cases hg.symm.trans h1
  exact ⟨⟨dx', d, fs', kvs, hg', by rw [e]; exact h2, fr _ _ (ne_of h3 hg (fun z => nomatch z)) h3, h4.same (fr.row hg), h5⟩, h.un⟩
theorem put_other {f f' : Str} {v : V} {fs : List (Str × V)} (h : f ≠ f') : (putF f' v fs).lookup f = fs.lookup f := by rw [lookup_putF, if_neg h]
theorem put_own {f : Str} {v : V} {fs : List (Str × V)} : (putF f v fs).lookup f = some v := by rw [lookup_putF, if_pos rfl]
theorem Low.go {C g dx : Addr} {H : Hp} {rs : List Row} {fs : List (Str × V)} {f : Str} {v : V} (h : Low C H g rs) (hg : H g = some (.ins C dx fs)) (n1 : "ask_rows" ≠ f) (n2 : "job_rows" ≠ f) (n3 : "all_rows" ≠ f) : Low C (upd H g (.ins C dx (putF f v fs))) g rs :=
  ⟨h.a.go frm_upd hg upd_same (put_other n1), h.j.go frm_upd hg upd_same (put_other n2), h.l.go frm_upd hg upd_same (put_other n3), h.wf⟩
/-! ### the spans, by their keys -/
structure SpD (H : Hp) (R : Gr.HK → List V → Prop) (ks : List Gr.HK) (kvs : List (List Key × V)) : Prop where
  keys : kvs.map (·.1) = ks.map Gr.keyOf
  val : ∀ kv ∈ kvs, ∃ k p us, kv.1 = Gr.keyOf k ∧ kv.2 = .ref p ∧ H p = some (.tup us) ∧ R k us
structure MoD (H : Hp) (R : Str → List V → Prop) (os : List Str) (kvs : List (Key × V)) : Prop where
  keys : kvs.map (·.1) = os.map Sum.inr
  val : ∀ kv ∈ kvs, ∃ h p us, kv.1 = Sum.inr h ∧ kv.2 = .ref p ∧ H p = some (.tup us) ∧ R h us
theorem SpD.go {H H' : Hp} {R : Gr.HK → List V → Prop} {ks : List Gr.HK} {kvs : List (List Key × V)} (h : SpD H R ks kvs) (t : ∀ b us, H b = some (.tup us) → H' b = some (.tup us)) : SpD H' R ks kvs :=
  ⟨h.keys, fun kv m => let ⟨k, p, us, e1, e2, e3, e4⟩ := h.val kv m; ⟨k, p, us, e1, e2, t _ _ e3, e4⟩⟩
theorem MoD.go {H H' : Hp} {R : Str → List V → Prop} {ks : List Str} {kvs : List (Key × V)} (h : MoD H R ks kvs) (t : ∀ b us, H b = some (.tup us) → H' b = some (.tup us)) : MoD H' R ks kvs :=
  ⟨h.keys, fun kv m => let ⟨k, p, us, e1, e2, e3, e4⟩ := h.val kv m; ⟨k, p, us, e1, e2, t _ _ e3, e4⟩⟩
theorem keyOf_inj {a b : Gr.HK} (h : Gr.keyOf a = Gr.keyOf b) : a = b := by
  unfold Gr.keyOf at h
  injection h with h1 h2
  injection h2 with h3 h4
  injection h1 with h1
  injection h3 with h3
  exact Prod.ext h1 h3
theorem SpD.put {H : Hp} {R : Gr.HK → List V → Prop} {ks : List Gr.HK} {kvs : List (List Key × V)} {k : Gr.HK} {p : Addr} {us : List V} (h : SpD H R ks kvs) (n : k ∉ ks) (hp : H p = some (.tup us)) (hR : R k us) : SpD H R (ks ++ [k]) (putK kvs (Gr.keyOf k) (.ref p)) := by
  refine ⟨?_, fun kv m => ?_⟩
  · rw [put_keys, h.keys, if_neg, List.map_append]
    · rfl
    · intro m
      obtain ⟨x, mx, ex⟩ := List.mem_map.mp m
      exact n (by rw [← keyOf_inj ex]; exact mx)
  · rcases put_mem m with ⟨m, _⟩ | rfl
    · exact h.val kv m
    · exact ⟨k, p, us, rfl, rfl, hp, hR⟩
theorem MoD.put {H : Hp} {R : Str → List V → Prop} {ks : List Str} {kvs : List (Key × V)} {k : Str} {p : Addr} {us : List V} (h : MoD H R ks kvs) (n : k ∉ ks) (hp : H p = some (.tup us)) (hR : R k us) : MoD H R (ks ++ [k]) (putK kvs (Sum.inr k) (.ref p)) := by
  refine ⟨?_, fun kv m => ?_⟩
  · rw [put_keys, h.keys, if_neg, List.map_append]
    · rfl
    · intro m
      obtain ⟨x, mx, ex⟩ := List.mem_map.mp m
      exact n (by rw [← Sum.inr.inj ex]; exact mx)
  · rcases put_mem m with ⟨m, _⟩ | rfl
    · exact h.val kv m
    · exact ⟨k, p, us, rfl, rfl, hp, hR⟩
noncomputable def lostOf (rs : List Row) (wd : Str) (ks : List Gr.HK) : List Gr.HK := open Classical in ks.filter fun k => decide (¬ ∃ r, Bk rs wd r ∧ r.key = k)
noncomputable def openOf (rs : List Row) (hs : List Str) : List Str := open Classical in hs.filter fun h => decide (¬ ∃ r, AllOf rs h r)
/-! ### what a book tells, read off once -/
structure GapsAt (C : Addr) (H : Hp) (g : Addr) (hs : List Str) (rs : List Row) : Prop where
  low : Low C H g rs
  more : ∃ (dx d1 d2 d3 : Addr) (fs : List (Str × V)) (k1 k2 : List (List Key × V)) (k3 : List (Key × V)) (cA cJ : Str → Nat), H g = some (.ins C dx fs) ∧
    (∀ h ∈ hs, CntA rs h (cA h : Nat) ∧ cA h ≤ 16) ∧ (∀ h ∈ hs, CntJ rs h (cJ h : Nat) ∧ cJ h ≤ 16) ∧
    fs.lookup ("ask_spans" : Str) = some (.ref d1) ∧ H d1 = some (.dT k1) ∧ SpD H (fun k us => ∃ a b, us = [a, b] ∧ SpA rs k a b) (lostOf rs "ask" (below hs cA)) k1 ∧
    fs.lookup ("job_spans" : Str) = some (.ref d2) ∧ H d2 = some (.dT k2) ∧ SpD H (fun k us => ∃ a b c, us = [a, b, c] ∧ SpJ rs k a b c) (lostOf rs "job" (below hs cJ)) k2 ∧
    fs.lookup ("more_times" : Str) = some (.ref d3) ∧ H d3 = some (.dK k3) ∧ MoD H (fun h us => ∃ a b, us = [a, b] ∧ Mr rs h a b) (openOf rs hs) k3
structure GapsFull (C : Addr) (H : Hp) (g t : Addr) (hs gs : List Str) (rs : List Row) : Prop where
  ex : ∃ (dx dA dJ : Addr) (fs : List (Str × V)) (uA uJ : List V) (cA cJ : Str → Nat), H g = some (.ins C dx fs) ∧ (∀ h ∈ hs, CntA rs h (cA h : Nat) ∧ cA h ≤ 16) ∧ (∀ h ∈ hs, CntJ rs h (cJ h : Nat) ∧ cJ h ≤ 16) ∧
    fs.lookup ("town" : Str) = some (.ref t) ∧ TownAt H t hs gs ∧ fs.lookup ("asks" : Str) = some (.ref dA) ∧ H dA = some (.lst uA) ∧ HKs H uA (below hs cA) ∧ fs.lookup ("jobs" : Str) = some (.ref dJ) ∧ H dJ = some (.lst uJ) ∧ HKs H uJ (below hs cJ)
def sp_init_Gaps (C : Addr) : Sp := fun vs H Q _ => ∃ (g dx t l : Addr) (hs gs : List Str) (xs : List V) (rs : List Row), vs = [.ref g, .ref t, .ref l] ∧ H g = some (.ins C dx []) ∧ TownAt H t hs gs ∧ H l = some (.lst xs) ∧ Rws H xs rs ∧ rs.length ≤ 1000 ∧ Book hs rs ∧ hs.length ≤ 6 ∧ hs.Nodup ∧
  ∀ (H' : Hp), Frm g H H' → GapsAt C H' g hs rs → GapsFull C H' g t hs gs rs → Q .non H'
theorem TownAt.frm {g t C dx : Addr} {H H' : Hp} {hs gs : List Str} {fs : List (Str × V)} (h : TownAt H t hs gs) (f : Frm g H H') (hg : H g = some (.ins C dx fs)) : TownAt H' t hs gs := by
  obtain ⟨a, b, h1, h2, h3⟩ := h
  exact ⟨a, b, f _ _ (ne_of h1 hg (fun z => nomatch z)) h1, f _ _ (ne_of h2 hg (fun z => nomatch z)) h2, f _ _ (ne_of h3 hg (fun z => nomatch z)) h3⟩
theorem Rws.frm {g C dx : Addr} {H H' : Hp} {xs : List V} {rs : List Row} {fs : List (Str × V)} (h : Rws H xs rs) (f : Frm g H H') (hg : H g = some (.ins C dx fs)) : Rws H' xs rs :=
  ⟨h.1, fun i r e => let ⟨a, e1, e2⟩ := h.2 i r e; ⟨a, e1, f.row hg a r e2⟩⟩
theorem take_snoc {A : Type} {xs : List A} {i : Nat} {x : A} (e : xs[i]? = some x) : xs.take (i + 1) = xs.take i ++ [x] := by
  rw [List.take_add_one, e]
  rfl
theorem filter_snoc {A : Type} (p : A → Bool) (xs : List A) (x : A) : (xs ++ [x]).filter p = xs.filter p ++ (if p x = true then [x] else []) := by
  rw [List.filter_append]
  congr 1
  rw [List.filter_cons]
  rfl
/-! counts of the houses, by a dict -/
def CntD (R : Str → Int → Prop) (hs : List Str) (kvs : List (Key × V)) : Prop := ∀ h ∈ hs, ∃ n : Nat, n ≤ 16 ∧ R h (n : Nat) ∧ valV kvs (.inr h) = some (.int (n : Nat))
def cntOf (kvs : List (Key × V)) (h : Str) : Nat := match valV kvs (.inr h) with
  | some (.int n) => n.toNat
  | _ => 0
theorem CntD.of {R : Str → Int → Prop} {hs : List Str} {kvs : List (Key × V)} (h : CntD R hs kvs) {x : Str} (m : x ∈ hs) : valV kvs (.inr x) = some (.int (cntOf kvs x : Nat)) ∧ R x (cntOf kvs x : Nat) ∧ cntOf kvs x ≤ 16 := by
  obtain ⟨n, h1, h2, h3⟩ := h x m
  have e : cntOf kvs x = n := by
    unfold cntOf
    rw [h3]
    rfl
  rw [e]
  exact ⟨h3, h2, h1⟩
theorem CntD.put {R : Str → Int → Prop} {hs : List Str} {kvs : List (Key × V)} {x : Str} {n : Nat} (h : CntD R hs kvs) (h1 : n ≤ 16) (h2 : R x (n : Nat)) : CntD R (hs ++ [x]) (putK kvs (.inr x) (.int (n : Nat))) := fun y m => by
  by_cases e : y = x
  · subst e
    exact ⟨n, h1, h2, by rw [valV_put, if_pos rfl]⟩
  · rcases List.mem_append.mp m with m | m
    · obtain ⟨k, k1, k2, k3⟩ := h y m
      exact ⟨k, k1, k2, by rw [valV_put, if_neg (fun z => e (Sum.inr.inj z))]; exact k3⟩
    · exact absurd (List.mem_singleton.mp m) e
theorem nd_below {hs : List Str} {cnt : Str → Nat} (h : hs.Nodup) : (below hs cnt).Nodup := by
  unfold below
  rw [List.nodup_iff_pairwise_ne, List.pairwise_flatMap]
  refine ⟨fun x _ => ?_, h.imp fun {x y} ne a ha b hb e => ?_⟩
  · rw [List.pairwise_map]
    exact List.nodup_range.imp fun ne e => ne (Int.ofNat.inj (congrArg Prod.snd e))
  · obtain ⟨n, _, rfl⟩ := List.mem_map.mp ha
    obtain ⟨k, _, rfl⟩ := List.mem_map.mp hb
    exact ne (congrArg Prod.fst e)
theorem not_mem_take {A : Type} {xs : List A} {i : Nat} {x : A} (h : xs.Nodup) (e : xs[i]? = some x) : x ∉ xs.take i := by
  intro m
  have h2 : (xs.take (i + 1)).Nodup := h.sublist (List.take_sublist _ _)
  rw [take_snoc e, List.nodup_append] at h2
  exact h2.2.2 x m x (List.mem_singleton.mpr rfl) rfl
theorem key_mem {rs : List Row} {wd : Str} {H : Hp} {kvs : List (List Key × V)} (d : DRow key2 H (Bk rs wd) kvs) (k : Gr.HK) : (∃ v, valV kvs (Gr.keyOf k) = some v ∧ ∃ r, Bk rs wd r ∧ r.key = k) ∨ (valV kvs (Gr.keyOf k) = none ∧ ¬ ∃ r, Bk rs wd r ∧ r.key = k) := by
  rcases val_row d (Gr.keyOf k) with ⟨a, r, e1, e2, e3, e4⟩ | ⟨e1, e2⟩
  · exact .inl ⟨_, e1, r, e3, (keyOf_inj e4).symm⟩
  · exact .inr ⟨e1, fun ⟨r, hr, e⟩ => e2 r hr (by show Gr.keyOf r.key = _; rw [e])⟩
set_option maxHeartbeats 16000000 in
theorem ok_init_Gaps (T : Txt K mg af fd) : FnOk P w K mg base CX0 3 (af 67) (fd 67) ["self", "town", "rows"] (sp_init_Gaps (af 66)) := by
  refine T.o_Gaps.F.ok sc_init_Gaps (fun vs H Q E h => ?_) (fun cdv A outer s H vs Q E hr h => ?_)
  · obtain ⟨g, dx, t, l, hs, gs, xs, rs, rfl, _⟩ := h
    rfl
  · obtain ⟨g, dx, t, l, hs, gs, xs, rs, rfl, hg, ht, hl, hrw, hrl, B, h6, hnd, qQ⟩ := h
    refine ⟨_, (pss_cons (ps_fld (pv 0) (pv 1) rfl)
        (pss_cons (ps_fld (pv 0) (pe_call (ok_rows_by_number T) (hr.mono (by first | decide | omega)) (by rfl) T.g_rows_by_number T.F_rows_by_number.kp T.b_rows_by_number .nil pass0 (pa_cons (pv 2) (pa_cons pe_str pa_nil))) rfl)
        (pss_cons (ps_fld (pv 0) (pe_call (ok_rows_by_number T) (hr.mono (by first | decide | omega)) (by rfl) T.g_rows_by_number T.F_rows_by_number.kp T.b_rows_by_number .nil pass0 (pa_cons (pv 2) (pa_cons pe_str pa_nil))) rfl)
        (pss_cons (ps_fld (pv 0) (Gr.pe_dcd false (own := [("row", 3)]) (g := gName 3) (hu_of hr) (by rfl) sc_init_Gaps.nd (pi_list (pv 2)) (blkOk_by (own := [("row", 3)]) (N := ["self", "town", "rows", "row", "house", "ask", "job"]) (sc := defScope s_i_Gaps) (by decide +kernel)) (fun _ _ _ _ _ => pg_name (i := 3) sc_init_Gaps.nd rfl (Or.inl rfl)) (fun _ _ _ _ _ => (pts_one (pt_cmpR op_eq (pe_ix (show IxR _ (rIxT K) from ix_tup) (pv 3) pe_int (fun _ _ => rfl)) pe_str (nomark _)))) (fun _ _ _ _ _ => (pe_ix (show IxR _ (rIxT K) from ix_tup) (pv 3) pe_int (fun _ _ => rfl))) (fun _ _ _ _ _ => (pv 3))) rfl)
        (pss_cons (ps_fld (pv 0) (pe_call (ok_numbers_below T) (hr.mono (by first | decide | omega)) (by rfl) T.g_numbers_below T.F_numbers_below.kp T.b_numbers_below .nil pass0 (pa_cons (pv 1) (pa_cons (Gr.pe_dcd false (own := [("house", 4)]) (g := gName 4) (hu_of hr) (by rfl) sc_init_Gaps.nd (pi_tup (pe_ix ix_tup (pv 1) pe_int (fun _ _ => rfl))) (blkOk_by (own := [("house", 4)]) (N := ["self", "town", "rows", "row", "house", "ask", "job"]) (sc := defScope s_i_Gaps) (by decide +kernel)) (fun _ _ _ _ _ => pg_name (i := 4) sc_init_Gaps.nd rfl (Or.inl rfl)) (fun _ _ _ _ _ => pts_nil) (fun _ _ _ _ _ => (pv 4)) (fun _ _ _ _ _ => (pe_call (ok_count_asks T) (hr.mono (by first | decide | omega)) (by rfl) T.g_count_asks T.F_count_asks.kp T.b_count_asks .nil pass0 (pa_cons (pv 0) (pa_cons (pv 4) pa_nil))))) pa_nil))) rfl)
        (pss_cons (ps_fld (pv 0) (pe_call (ok_numbers_below T) (hr.mono (by first | decide | omega)) (by rfl) T.g_numbers_below T.F_numbers_below.kp T.b_numbers_below .nil pass0 (pa_cons (pv 1) (pa_cons (Gr.pe_dcd false (own := [("house", 4)]) (g := gName 4) (hu_of hr) (by rfl) sc_init_Gaps.nd (pi_tup (pe_ix ix_tup (pv 1) pe_int (fun _ _ => rfl))) (blkOk_by (own := [("house", 4)]) (N := ["self", "town", "rows", "row", "house", "ask", "job"]) (sc := defScope s_i_Gaps) (by decide +kernel)) (fun _ _ _ _ _ => pg_name (i := 4) sc_init_Gaps.nd rfl (Or.inl rfl)) (fun _ _ _ _ _ => pts_nil) (fun _ _ _ _ _ => (pv 4)) (fun _ _ _ _ _ => (pe_call (ok_count_jobs T) (hr.mono (by first | decide | omega)) (by rfl) T.g_count_jobs T.F_count_jobs.kp T.b_count_jobs .nil pass0 (pa_cons (pv 0) (pa_cons (pv 4) pa_nil))))) pa_nil))) rfl)
        (pss_cons (ps_fld (pv 0) (Gr.pe_dcd true (own := [("ask", 5)]) (g := gName 5) (hu_of hr) (by rfl) sc_init_Gaps.nd (pi_list (pe_fld (pv 0) rfl)) (blkOk_by (own := [("ask", 5)]) (N := ["self", "town", "rows", "row", "house", "ask", "job"]) (sc := defScope s_i_Gaps) (by decide +kernel)) (fun _ _ _ _ _ => pg_name (i := 5) sc_init_Gaps.nd rfl (Or.inl rfl)) (fun _ _ _ _ _ => (pts_one (pt_cmp (pc_dnotin (hu_of hr) (pv 5) (show PE _ _ (tFld K (tVar 0) "ask_rows") from pe_fld (pv 0) rfl))))) (fun _ _ _ _ _ => (pv 5)) (fun _ _ _ _ _ => (pe_call (ok_span_of_ask T) (hr.mono (by first | decide | omega)) (by rfl) T.g_span_of_ask T.F_span_of_ask.kp T.b_span_of_ask .nil pass0 (pa_cons (pv 0) (pa_cons (pv 5) pa_nil))))) rfl)
        (pss_cons (ps_fld (pv 0) (Gr.pe_dcd true (own := [("job", 6)]) (g := gName 6) (hu_of hr) (by rfl) sc_init_Gaps.nd (pi_list (pe_fld (pv 0) rfl)) (blkOk_by (own := [("job", 6)]) (N := ["self", "town", "rows", "row", "house", "ask", "job"]) (sc := defScope s_i_Gaps) (by decide +kernel)) (fun _ _ _ _ _ => pg_name (i := 6) sc_init_Gaps.nd rfl (Or.inl rfl)) (fun _ _ _ _ _ => (pts_one (pt_cmp (pc_dnotin (hu_of hr) (pv 6) (show PE _ _ (tFld K (tVar 0) "job_rows") from pe_fld (pv 0) rfl))))) (fun _ _ _ _ _ => (pv 6)) (fun _ _ _ _ _ => (pe_call (ok_span_of_job T) (hr.mono (by first | decide | omega)) (by rfl) T.g_span_of_job T.F_span_of_job.kp T.b_span_of_job .nil pass0 (pa_cons (pv 0) (pa_cons (pv 6) pa_nil))))) rfl)
        (pss_one (ps_fld (pv 0) (Gr.pe_dcd false (own := [("house", 4)]) (g := gName 4) (hu_of hr) (by rfl) sc_init_Gaps.nd (pi_tup (pe_ix ix_tup (pv 1) pe_int (fun _ _ => rfl))) (blkOk_by (own := [("house", 4)]) (N := ["self", "town", "rows", "row", "house", "ask", "job"]) (sc := defScope s_i_Gaps) (by decide +kernel)) (fun _ _ _ _ _ => pg_name (i := 4) sc_init_Gaps.nd rfl (Or.inl rfl)) (fun _ _ _ _ _ => (pts_one (pt_cmp (pc_dnotin (hu_of hr) (pv 4) (show PE _ _ (tFld K (tVar 0) "all_rows") from pe_fld (pv 0) rfl))))) (fun _ _ _ _ _ => (pv 4)) (fun _ _ _ _ _ => (pe_call (ok_more_of T) (hr.mono (by first | decide | omega)) (by rfl) T.g_more_of T.F_more_of.kp T.b_more_of .nil pass0 (pa_cons (pv 0) (pa_cons (pv 4) pa_nil))))) rfl)))))))))), ?_⟩
    have cls := T.o_Gaps.c
    have no : ∀ f ∈ (["town", "ask_rows", "job_rows", "all_rows", "asks", "jobs", "ask_spans", "job_spans", "more_times"] : List Str), NoAttr K (af 66) f := T.o_Gaps.no
    -- self.town
    refine ⟨_, rfl, _, rfl, g, _, dx, [], rfl, hg, cls, no _ (by simp), (by show 0 < 1000; decide), ?_⟩
    have f2 : Frm g H (upd H g (.ins (af 66) dx (putF "town" (.ref t) []))) := frm_upd
    have hg2 : (upd H g (.ins (af 66) dx (putF "town" (.ref t) []))) g = _ := upd_same
    generalize upd H g (.ins (af 66) dx (putF "town" (.ref t) [])) = H2 at f2 hg2 ⊢
    have len2 : (putF ("town" : Str) (.ref t) []).length ≤ 1 := Nat.le_refl _
    have w2 : (putF ("town" : Str) (.ref t) []).lookup ("town" : Str) = some (.ref t) := put_own
    generalize putF ("town" : Str) (.ref t) [] = fs2 at hg2 len2 w2 ⊢
    have hl2 : H2 l = some (.lst xs) := f2 _ _ (ne_of hl hg (fun z => nomatch z)) hl
    have ht2 := ht.frm f2 hg
    have hrw2 : Rws H2 xs rs := hrw.frm f2 hg
    -- self.ask_rows
    refine ⟨_, rfl, l, "ask", xs, rs, rfl, hl2, hrw2, hrl, fun D3 kA H3 s3 nD3 hD3 dr3 kl3 => ?_⟩
    have hg3 := s3 _ _ hg2
    refine ⟨_, rfl, g, _, dx, fs2, rfl, hg3, cls, no _ (by simp), (by omega), ?_⟩
    have u4 : Frm g H3 (upd H3 g (.ins (af 66) dx (putF "ask_rows" (.ref D3) fs2))) := frm_upd
    have hg4 : (upd H3 g (.ins (af 66) dx (putF "ask_rows" (.ref D3) fs2))) g = _ := upd_same
    generalize upd H3 g (.ins (af 66) dx (putF "ask_rows" (.ref D3) fs2)) = H4 at u4 hg4 ⊢
    have e4 : (putF ("ask_rows" : Str) (.ref D3) fs2).lookup ("ask_rows" : Str) = some (.ref D3) := put_own
    have len4 : (putF ("ask_rows" : Str) (.ref D3) fs2).length ≤ 2 := Nat.le_trans (length_putF _ _ _) (by omega)
    have w4 : (putF ("ask_rows" : Str) (.ref D3) fs2).lookup ("town" : Str) = some (.ref t) := (put_other (by decide +kernel)).trans w2
    generalize putF ("ask_rows" : Str) (.ref D3) fs2 = fs4 at hg4 e4 len4 w4 ⊢
    have A4 : FldT (af 66) H4 g "ask_rows" (Bk rs "ask") := ⟨⟨dx, D3, fs4, kA, hg4, e4, u4 _ _ (ne_of hD3 hg3 (fun z => nomatch z)) hD3, dr3.same (u4.row hg3), kl3⟩, B.uniq (.inl rfl)⟩
    have v4 : Frm g H2 H4 := Frm.trans (fun b o _ e => s3 b o e) u4
    have hl4 : H4 l = some (.lst xs) := v4 _ _ (ne_of hl2 hg2 (fun z => nomatch z)) hl2
    have ht4 := ht2.frm v4 hg2
    have hrw4 := hrw2.frm v4 hg2
    have f4 := f2.trans v4
    -- self.job_rows
    refine ⟨_, rfl, l, "job", xs, rs, rfl, hl4, hrw4, hrl, fun D5 kJ H5 s5 nD5 hD5 dr5 kl5 => ?_⟩
    have hg5 := s5 _ _ hg4
    refine ⟨_, rfl, g, _, dx, fs4, rfl, hg5, cls, no _ (by simp), (by omega), ?_⟩
    have u6 : Frm g H5 (upd H5 g (.ins (af 66) dx (putF "job_rows" (.ref D5) fs4))) := frm_upd
    have hg6 : (upd H5 g (.ins (af 66) dx (putF "job_rows" (.ref D5) fs4))) g = _ := upd_same
    generalize upd H5 g (.ins (af 66) dx (putF "job_rows" (.ref D5) fs4)) = H6 at u6 hg6 ⊢
    have e6 : (putF ("job_rows" : Str) (.ref D5) fs4).lookup ("job_rows" : Str) = some (.ref D5) := put_own
    have o6 : (putF ("job_rows" : Str) (.ref D5) fs4).lookup ("ask_rows" : Str) = fs4.lookup ("ask_rows" : Str) := put_other (by decide +kernel)
    have len6 : (putF ("job_rows" : Str) (.ref D5) fs4).length ≤ 3 := Nat.le_trans (length_putF _ _ _) (by omega)
    have w6 : (putF ("job_rows" : Str) (.ref D5) fs4).lookup ("town" : Str) = some (.ref t) := (put_other (by decide +kernel)).trans w4
    generalize putF ("job_rows" : Str) (.ref D5) fs4 = fs6 at hg6 e6 o6 len6 w6 ⊢
    have J6 : FldT (af 66) H6 g "job_rows" (Bk rs "job") := ⟨⟨dx, D5, fs6, kJ, hg6, e6, u6 _ _ (ne_of hD5 hg5 (fun z => nomatch z)) hD5, dr5.same (u6.row hg5), kl5⟩, B.uniq (.inr rfl)⟩
    have v6 : Frm g H4 H6 := Frm.trans (fun b o _ e => s5 b o e) u6
    have A6 := A4.go v6 hg4 hg6 o6
    have hl6 : H6 l = some (.lst xs) := v6 _ _ (ne_of hl4 hg4 (fun z => nomatch z)) hl4
    have ht6 := ht4.frm v6 hg4
    have hrw6 := hrw4.frm v6 hg4
    have f6 := f4.trans v6
    -- self.all_rows
    refine ⟨_, rfl, l, rfl, ⟨_, SqL.of hl6⟩, fun D7 nD7 => ?_⟩
    refine Gr.dcd_it (walk_list (K := K) (a := l) (xs := xs)) (fun i H' => Same H6 H' ∧ ∃ kvs : List (Key × V), H' D7 = some (.dK kvs) ∧ DRow keyH H' (fun r => r ∈ rs.take i ∧ r.word = "all") kvs ∧ kvs.length ≤ i)
      ⟨same_upd nD7, [], upd_same, .nil (fun r h => by rw [List.take_zero] at h; exact nomatch h.1), Nat.le_refl _⟩ (fun i H' _ h => SqL.of (h.1 _ _ hl6)) ?_ ?_
    · rintro i v G1 G2 hi ⟨g1, kvs, hD, dr, hk⟩ ⟨rfl, hv⟩
      have hir : i < rs.length := by rw [← hrw6.1]; exact hi
      have er : rs[i]? = some rs[i] := List.getElem?_eq_getElem hir
      generalize rs[i] = r at er
      obtain ⟨a, ea, ha⟩ := hrw6.2 i r er
      obtain rfl : V.ref a = v := Option.some.inj (ea.symm.trans hv)
      have ha1 := g1 _ _ ha
      refine ⟨rfl, _, rfl, a, _, 0, _, rfl, rfl, SqT.of ha1, at0 r, rfl, _, rfl, ?_⟩
      refine ite2 (fun ew => ?_) (fun ew => ?_)
      · have ew : r.word = "all" := by simpa using ew
        refine ⟨_, rfl, a, _, 1, _, rfl, rfl, SqT.of ha1, at1 r, _, rfl, ?_⟩
        refine ⟨_, DPut.k (k := keyH r) hD (small_line (by omega)), same_mut g1 nD7, _, upd_same, ?_, put_len hk⟩
        have rows : ∀ c x, RowAt G2 c x → RowAt (upd G2 D7 (.dK (putK kvs (keyH r) (.ref a)))) c x := fun c x hc => by
          show (upd G2 D7 _) c = _
          rw [upd_ne (ne_of hc hD (fun z => nomatch z))]
          exact hc
        refine ((dr.put (a := a) (r := r) ha1).same rows).iff fun x => ?_
        rw [of_take er]
        constructor
        · rintro (⟨h1, h2⟩ | rfl)
          · exact ⟨.inl h1, h2⟩
          · exact ⟨.inr rfl, ew⟩
        · rintro ⟨h1 | rfl, h2⟩
          · exact .inl ⟨h1, h2⟩
          · exact .inr rfl
      · have ew : r.word ≠ "all" := by simpa using ew
        refine ⟨g1, kvs, hD, dr.iff fun x => ?_, Nat.le_succ_of_le hk⟩
        rw [of_take er]
        constructor
        · exact fun h => ⟨.inl h.1, h.2⟩
        · rintro ⟨h1 | rfl, h2⟩
          · exact ⟨h1, h2⟩
          · exact absurd h2 ew
    rintro H7 ⟨s7, kL, hD7, dr7, kl7⟩
    rw [hrw6.1, List.take_length] at dr7
    rw [hrw6.1] at kl7
    have hg7 := s7 _ _ hg6
    refine ⟨_, rfl, g, _, dx, fs6, rfl, hg7, cls, no _ (by simp), (by omega), ?_⟩
    have u8 : Frm g H7 (upd H7 g (.ins (af 66) dx (putF "all_rows" (.ref D7) fs6))) := frm_upd
    have hg8 : (upd H7 g (.ins (af 66) dx (putF "all_rows" (.ref D7) fs6))) g = _ := upd_same
    generalize upd H7 g (.ins (af 66) dx (putF "all_rows" (.ref D7) fs6)) = H8 at u8 hg8 ⊢
    have e8 : (putF ("all_rows" : Str) (.ref D7) fs6).lookup ("all_rows" : Str) = some (.ref D7) := put_own
    have o8 : (putF ("all_rows" : Str) (.ref D7) fs6).lookup ("ask_rows" : Str) = fs6.lookup ("ask_rows" : Str) := put_other (by decide +kernel)
    have p8 : (putF ("all_rows" : Str) (.ref D7) fs6).lookup ("job_rows" : Str) = fs6.lookup ("job_rows" : Str) := put_other (by decide +kernel)
    have len8 : (putF ("all_rows" : Str) (.ref D7) fs6).length ≤ 4 := Nat.le_trans (length_putF _ _ _) (by omega)
    have w8 : (putF ("all_rows" : Str) (.ref D7) fs6).lookup ("town" : Str) = some (.ref t) := (put_other (by decide +kernel)).trans w6
    generalize putF ("all_rows" : Str) (.ref D7) fs6 = fs8 at hg8 e8 o8 p8 len8 w8 ⊢
    have v8 : Frm g H6 H8 := Frm.trans (fun b o _ e => s7 b o e) u8
    have L8 : Low (af 66) H8 g rs := ⟨A6.go v8 hg6 hg8 o8, J6.go v8 hg6 hg8 p8, ⟨⟨dx, D7, fs8, kL, hg8, e8, u8 _ _ (ne_of hD7 hg7 (fun z => nomatch z)) hD7, dr7.same (u8.row hg7), by omega⟩, B.uniqH⟩, B.wf⟩
    have ht8 := ht6.frm v8 hg6
    have f8 := f6.trans v8
    -- self.asks
    obtain ⟨ta9, tb9, t19, t29, t39⟩ := id ht8
    refine ⟨_, rfl, _, rfl, t, _, 0, _, rfl, rfl, SqT.of t19, rfl, ta9, rfl, ⟨_, SqT.of t29⟩, fun C9 nC9 => ?_⟩
    refine Gr.dcd_it (walk_tup (K := K) (a := ta9) (xs := hs.map V.str)) (fun j H' => Same H8 H' ∧ ∃ kvs : List (Key × V), H' C9 = some (.dK kvs) ∧ CntD (CntA rs) (hs.take j) kvs ∧ kvs.length ≤ j)
      ⟨same_upd nC9, [], upd_same, (fun h m => by rw [List.take_zero] at m; exact nomatch m), Nat.le_refl _⟩ (fun j H' _ h => SqT.of (h.1 _ _ t29)) ?_ ?_
    · rintro j v G1 G2 hj ⟨g1, kvs, hD, cd, hk⟩ ⟨rfl, ev⟩
      rw [List.length_map] at hj
      have eh : hs[j]? = some hs[j] := List.getElem?_eq_getElem hj
      generalize hs[j] = h at eh
      rw [List.getElem?_map, eh] at ev
      obtain rfl : V.str h = v := Option.some.inj ev
      refine ⟨rfl, yes_if ⟨_, rfl, _, rfl, _, rfl, g, h, rs, rfl, L8.same g1, fun n G3 g3 hn hR => ?_⟩⟩
      have g13 := g1.trans g3
      refine ⟨_, DPut.k (k := Sum.inr h) (g3 _ _ hD) (small_line (by omega)), same_mut g13 nC9, _, upd_same, ?_, put_len hk⟩
      rw [take_snoc eh]
      exact cd.put hn hR
    rintro G9 ⟨sg9, kc9, hC9, cd9, kcl9⟩
    rw [List.length_map, List.take_length] at cd9
    refine ⟨t, C9, hs, gs, kc9, cntOf kc9, rfl, ht8.same' sg9, hC9, h6, fun h m => ⟨(cd9.of m).1, Nat.le_trans (cd9.of m).2.2 (by decide)⟩, fun D9 us9 M9 sm9 nD9 hD9 hk9 => ?_⟩
    have ss9 := sg9.trans sm9
    have hgm9 := ss9 _ _ hg8
    refine ⟨_, rfl, g, _, dx, fs8, rfl, hgm9, cls, no _ (by simp), (by omega), ?_⟩
    have L9 : Low (af 66) (upd M9 g (.ins (af 66) dx (putF "asks" (.ref D9) fs8))) g rs := (L8.same ss9).go hgm9 (by decide +kernel) (by decide +kernel) (by decide +kernel)
    have u9 : Frm g M9 (upd M9 g (.ins (af 66) dx (putF "asks" (.ref D9) fs8))) := frm_upd
    have hg9 : (upd M9 g (.ins (af 66) dx (putF "asks" (.ref D9) fs8))) g = _ := upd_same
    generalize upd M9 g (.ins (af 66) dx (putF "asks" (.ref D9) fs8)) = H9 at L9 u9 hg9 ⊢
    have e9 : (putF ("asks" : Str) (.ref D9) fs8).lookup ("asks" : Str) = some (.ref D9) := put_own
    
    have len9 : (putF ("asks" : Str) (.ref D9) fs8).length ≤ 4+1 := Nat.le_trans (length_putF _ _ _) (by omega)
    have w9 : (putF ("asks" : Str) (.ref D9) fs8).lookup ("town" : Str) = some (.ref t) := (put_other (by decide +kernel)).trans w8
    generalize putF ("asks" : Str) (.ref D9) fs8 = fs9 at hg9 e9 len9  w9 ⊢
    have v9 : Frm g H8 H9 := Frm.trans (fun b o _ e => ss9 b o e) u9
    have ht9 := ht8.frm v9 hg8
    have f9 := f8.trans v9
    have hDd9 : H9 D9 = some (.lst us9) := u9 _ _ (ne_of hD9 hgm9 (fun z => nomatch z)) hD9
    have hks9 : HKs H9 us9 (below hs (cntOf kc9)) := hk9.go fun b ys e => u9 _ _ (ne_of e hgm9 (fun z => nomatch z)) e
    -- self.jobs
    obtain ⟨ta10, tb10, t110, t210, t310⟩ := id ht9
    refine ⟨_, rfl, _, rfl, t, _, 0, _, rfl, rfl, SqT.of t110, rfl, ta10, rfl, ⟨_, SqT.of t210⟩, fun C10 nC10 => ?_⟩
    refine Gr.dcd_it (walk_tup (K := K) (a := ta10) (xs := hs.map V.str)) (fun j H' => Same H9 H' ∧ ∃ kvs : List (Key × V), H' C10 = some (.dK kvs) ∧ CntD (CntJ rs) (hs.take j) kvs ∧ kvs.length ≤ j)
      ⟨same_upd nC10, [], upd_same, (fun h m => by rw [List.take_zero] at m; exact nomatch m), Nat.le_refl _⟩ (fun j H' _ h => SqT.of (h.1 _ _ t210)) ?_ ?_
    · rintro j v G1 G2 hj ⟨g1, kvs, hD, cd, hk⟩ ⟨rfl, ev⟩
      rw [List.length_map] at hj
      have eh : hs[j]? = some hs[j] := List.getElem?_eq_getElem hj
      generalize hs[j] = h at eh
      rw [List.getElem?_map, eh] at ev
      obtain rfl : V.str h = v := Option.some.inj ev
      refine ⟨rfl, yes_if ⟨_, rfl, _, rfl, _, rfl, g, h, rs, rfl, L9.same g1, fun n G3 g3 hn hR => ?_⟩⟩
      have g13 := g1.trans g3
      refine ⟨_, DPut.k (k := Sum.inr h) (g3 _ _ hD) (small_line (by omega)), same_mut g13 nC10, _, upd_same, ?_, put_len hk⟩
      rw [take_snoc eh]
      exact cd.put hn hR
    rintro G10 ⟨sg10, kc10, hC10, cd10, kcl10⟩
    rw [List.length_map, List.take_length] at cd10
    refine ⟨t, C10, hs, gs, kc10, cntOf kc10, rfl, ht9.same' sg10, hC10, h6, fun h m => ⟨(cd10.of m).1, Nat.le_trans (cd10.of m).2.2 (by decide)⟩, fun D10 us10 M10 sm10 nD10 hD10 hk10 => ?_⟩
    have ss10 := sg10.trans sm10
    have hgm10 := ss10 _ _ hg9
    refine ⟨_, rfl, g, _, dx, fs9, rfl, hgm10, cls, no _ (by simp), (by omega), ?_⟩
    have L10 : Low (af 66) (upd M10 g (.ins (af 66) dx (putF "jobs" (.ref D10) fs9))) g rs := (L9.same ss10).go hgm10 (by decide +kernel) (by decide +kernel) (by decide +kernel)
    have u10 : Frm g M10 (upd M10 g (.ins (af 66) dx (putF "jobs" (.ref D10) fs9))) := frm_upd
    have hg10 : (upd M10 g (.ins (af 66) dx (putF "jobs" (.ref D10) fs9))) g = _ := upd_same
    generalize upd M10 g (.ins (af 66) dx (putF "jobs" (.ref D10) fs9)) = H10 at L10 u10 hg10 ⊢
    have e10 : (putF ("jobs" : Str) (.ref D10) fs9).lookup ("jobs" : Str) = some (.ref D10) := put_own
    have x10 : (putF ("jobs" : Str) (.ref D10) fs9).lookup ("asks" : Str) = some (.ref D9) := (put_other (by decide +kernel)).trans e9
    have len10 : (putF ("jobs" : Str) (.ref D10) fs9).length ≤ 5+1 := Nat.le_trans (length_putF _ _ _) (by omega)
    have w10 : (putF ("jobs" : Str) (.ref D10) fs9).lookup ("town" : Str) = some (.ref t) := (put_other (by decide +kernel)).trans w9
    generalize putF ("jobs" : Str) (.ref D10) fs9 = fs10 at hg10 e10 len10 x10 w10 ⊢
    have v10 : Frm g H9 H10 := Frm.trans (fun b o _ e => ss10 b o e) u10
    have ht10 := ht9.frm v10 hg9
    have f10 := f9.trans v10
    have hDd10 : H10 D10 = some (.lst us10) := u10 _ _ (ne_of hD10 hgm10 (fun z => nomatch z)) hD10
    have hks10 : HKs H10 us10 (below hs (cntOf kc10)) := hk10.go fun b ys e => u10 _ _ (ne_of e hgm10 (fun z => nomatch z)) e
    have hDa10 : H10 D9 = some (.lst us9) := v10 _ _ (ne_of hDd9 hg9 (fun z => nomatch z)) hDd9
    have hka10 : HKs H10 us9 (below hs (cntOf kc9)) := hks9.go fun b ys e => v10 _ _ (ne_of e hg9 (fun z => nomatch z)) e
    have cd11x : ∀ h ∈ hs, cntOf kc9 h ≤ 16 := fun h m => (cd9.of m).2.2
    have cd12x : ∀ h ∈ hs, cntOf kc10 h ≤ 16 := fun h m => (cd10.of m).2.2
    -- self.ask_spans
    refine ⟨_, rfl, g, _, dx, fs10, _, rfl, hg10, cls, no _ (by simp), x10, D9, rfl, ⟨_, SqL.of hDa10⟩, fun E11 nE11 => ?_⟩
    have nb11 := nd_below (cnt := cntOf kc9) hnd
    refine Gr.dcd_it (walk_list (K := K) (a := D9) (xs := us9)) (fun j H' => Same H10 H' ∧ ∃ kvs : List (List Key × V), H' E11 = some (.dT kvs) ∧ SpD H' (fun k us => ∃ a b, us = [a, b] ∧ SpA rs k a b) (lostOf rs "ask" ((below hs (cntOf kc9)).take j)) kvs ∧ kvs.length ≤ j)
      ⟨same_upd nE11, [], upd_same, ⟨by rw [List.take_zero]; rfl, fun _ m => (nomatch m)⟩, Nat.le_refl _⟩ (fun j H' _ h => SqL.of (h.1 _ _ hDa10)) ?_ ?_
    · rintro j v G1 G2 hj ⟨g1, kvs, hDk, sd, hk⟩ ⟨rfl, ev⟩
      have hjb : j < (below hs (cntOf kc9)).length := by rw [← hka10.len]; exact hj
      have eb : (below hs (cntOf kc9))[j]? = some (below hs (cntOf kc9))[j] := List.getElem?_eq_getElem hjb
      generalize (below hs (cntOf kc9))[j] = k at eb
      obtain ⟨b, ebv, hb⟩ := hka10.at eb
      obtain rfl : V.ref b = v := Option.some.inj (ebv.symm.trans ev)
      have hb1 := g1 _ _ hb
      obtain ⟨dy, d, fy, kv, h1, h2, h3, h4, h5⟩ := (L10.same g1).a.ex
      refine ⟨rfl, _, rfl, _, rfl, g, _, dy, fy, _, rfl, h1, cls, no _ (by simp), h2, d, _, rfl, DGet.t (k := Gr.keyOf k) h3 hb1, _, rfl, ?_⟩
      have bl : (below hs (cntOf kc9)).length ≤ 600 := Nat.le_trans (below_len _ hs fun h m => Nat.le_trans (cd11x h m) (by decide)) (by omega)
      rcases key_mem h4 k with ⟨v0, e1, e2⟩ | ⟨e1, e2⟩
      · rw [e1]
        refine iteF ⟨g1, kvs, hDk, ?_, Nat.le_succ_of_le hk⟩
        rw [take_snoc eb]
        unfold lostOf at sd ⊢
        rw [filter_snoc, if_neg (by simpa using e2), List.append_nil]
        exact sd
      · rw [e1]
        refine iteT ⟨_, rfl, _, rfl, _, rfl, g, b, k, rs, rfl, hb1, L10.same g1, fun p low high G3 g3 np hp hsp => ?_⟩
        have g13 := g1.trans g3
        have hDk3 := g3 _ _ hDk
        refine ⟨_, DPut.t (k := Gr.keyOf k) hDk3 (g3 _ _ hb1) (small_line (by omega)), same_mut g13 nE11, _, upd_same, ?_, put_len hk⟩
        rw [take_snoc eb]
        unfold lostOf at sd ⊢
        rw [filter_snoc, if_pos (by simpa using e2)]
        refine ((sd.go fun c ys e => g3 _ _ e).put (us := [low, high]) (fun m => not_mem_take nb11 eb (List.mem_filter.mp m).1) hp ⟨low, high, rfl, hsp⟩).go fun c ys e => ?_
        rw [upd_ne (ne_of e hDk3 (fun z => nomatch z))]
        exact e
    rintro M11 ⟨sm11, ks11, hE11, sd11, kl11⟩
    rw [hka10.len, List.take_length] at sd11
    have hgm11 := sm11 _ _ hg10
    refine ⟨_, rfl, g, _, dx, fs10, rfl, hgm11, cls, no _ (by simp), (by omega), ?_⟩
    have L11 : Low (af 66) (upd M11 g (.ins (af 66) dx (putF "ask_spans" (.ref E11) fs10))) g rs := (L10.same sm11).go hgm11 (by decide +kernel) (by decide +kernel) (by decide +kernel)
    have u11 : Frm g M11 (upd M11 g (.ins (af 66) dx (putF "ask_spans" (.ref E11) fs10))) := frm_upd
    have hg11 : (upd M11 g (.ins (af 66) dx (putF "ask_spans" (.ref E11) fs10))) g = _ := upd_same
    generalize upd M11 g (.ins (af 66) dx (putF "ask_spans" (.ref E11) fs10)) = H11 at L11 u11 hg11 ⊢
    have e11 : (putF ("ask_spans" : Str) (.ref E11) fs10).lookup ("ask_spans" : Str) = some (.ref E11) := put_own
    have x11 : (putF ("ask_spans" : Str) (.ref E11) fs10).lookup ("jobs" : Str) = some (.ref D10) := (put_other (by decide +kernel)).trans e10
    have len11 : (putF ("ask_spans" : Str) (.ref E11) fs10).length ≤ 6+1 := Nat.le_trans (length_putF _ _ _) (by omega)
    have w11 : (putF ("ask_spans" : Str) (.ref E11) fs10).lookup ("town" : Str) = some (.ref t) := (put_other (by decide +kernel)).trans w10
    have y11 : (putF ("ask_spans" : Str) (.ref E11) fs10).lookup ("asks" : Str) = some (.ref D9) := (put_other (by decide +kernel)).trans x10
    generalize putF ("ask_spans" : Str) (.ref E11) fs10 = fs11 at hg11 e11 len11 x11 w11 y11 ⊢
    have v11 : Frm g H10 H11 := Frm.trans (fun b o _ e => sm11 b o e) u11
    have f11 := f10.trans v11
    have hEd11 : H11 E11 = some (.dT ks11) := u11 _ _ (ne_of hE11 hgm11 (fun z => nomatch z)) hE11
    have sdd11 := sd11.go fun b ys (e : M11 b = some (.tup ys)) => u11 _ _ (ne_of e hgm11 (fun z => nomatch z)) e
    have hDj11 : H11 D10 = some (.lst us10) := v11 _ _ (ne_of hDd10 hg10 (fun z => nomatch z)) hDd10
    have hkj11 : HKs H11 us10 (below hs (cntOf kc10)) := hks10.go fun b ys e => v11 _ _ (ne_of e hg10 (fun z => nomatch z)) e
    have ht11 := ht10.frm v11 hg10
    have hAl11 : H11 D9 = some (.lst us9) := v11 _ _ (ne_of hDa10 hg10 (fun z => nomatch z)) hDa10
    have hAk11 : HKs H11 us9 (below hs (cntOf kc9)) := hka10.go fun b ys e => v11 _ _ (ne_of e hg10 (fun z => nomatch z)) e
    -- self.job_spans
    refine ⟨_, rfl, g, _, dx, fs11, _, rfl, hg11, cls, no _ (by simp), x11, D10, rfl, ⟨_, SqL.of hDj11⟩, fun E12 nE12 => ?_⟩
    have nb12 := nd_below (cnt := cntOf kc10) hnd
    refine Gr.dcd_it (walk_list (K := K) (a := D10) (xs := us10)) (fun j H' => Same H11 H' ∧ ∃ kvs : List (List Key × V), H' E12 = some (.dT kvs) ∧ SpD H' (fun k us => ∃ a b c, us = [a, b, c] ∧ SpJ rs k a b c) (lostOf rs "job" ((below hs (cntOf kc10)).take j)) kvs ∧ kvs.length ≤ j)
      ⟨same_upd nE12, [], upd_same, ⟨by rw [List.take_zero]; rfl, fun _ m => (nomatch m)⟩, Nat.le_refl _⟩ (fun j H' _ h => SqL.of (h.1 _ _ hDj11)) ?_ ?_
    · rintro j v G1 G2 hj ⟨g1, kvs, hDk, sd, hk⟩ ⟨rfl, ev⟩
      have hjb : j < (below hs (cntOf kc10)).length := by rw [← hkj11.len]; exact hj
      have eb : (below hs (cntOf kc10))[j]? = some (below hs (cntOf kc10))[j] := List.getElem?_eq_getElem hjb
      generalize (below hs (cntOf kc10))[j] = k at eb
      obtain ⟨b, ebv, hb⟩ := hkj11.at eb
      obtain rfl : V.ref b = v := Option.some.inj (ebv.symm.trans ev)
      have hb1 := g1 _ _ hb
      obtain ⟨dy, d, fy, kv, h1, h2, h3, h4, h5⟩ := (L11.same g1).j.ex
      refine ⟨rfl, _, rfl, _, rfl, g, _, dy, fy, _, rfl, h1, cls, no _ (by simp), h2, d, _, rfl, DGet.t (k := Gr.keyOf k) h3 hb1, _, rfl, ?_⟩
      have bl : (below hs (cntOf kc10)).length ≤ 600 := Nat.le_trans (below_len _ hs fun h m => Nat.le_trans (cd12x h m) (by decide)) (by omega)
      rcases key_mem h4 k with ⟨v0, e1, e2⟩ | ⟨e1, e2⟩
      · rw [e1]
        refine iteF ⟨g1, kvs, hDk, ?_, Nat.le_succ_of_le hk⟩
        rw [take_snoc eb]
        unfold lostOf at sd ⊢
        rw [filter_snoc, if_neg (by simpa using e2), List.append_nil]
        exact sd
      · rw [e1]
        refine iteT ⟨_, rfl, _, rfl, _, rfl, g, b, k, rs, rfl, hb1, L11.same g1, fun p low high last G3 g3 np hp hsp => ?_⟩
        have g13 := g1.trans g3
        have hDk3 := g3 _ _ hDk
        refine ⟨_, DPut.t (k := Gr.keyOf k) hDk3 (g3 _ _ hb1) (small_line (by omega)), same_mut g13 nE12, _, upd_same, ?_, put_len hk⟩
        rw [take_snoc eb]
        unfold lostOf at sd ⊢
        rw [filter_snoc, if_pos (by simpa using e2)]
        refine ((sd.go fun c ys e => g3 _ _ e).put (us := [low, high, last]) (fun m => not_mem_take nb12 eb (List.mem_filter.mp m).1) hp ⟨low, high, last, rfl, hsp⟩).go fun c ys e => ?_
        rw [upd_ne (ne_of e hDk3 (fun z => nomatch z))]
        exact e
    rintro M12 ⟨sm12, ks12, hE12, sd12, kl12⟩
    rw [hkj11.len, List.take_length] at sd12
    have hgm12 := sm12 _ _ hg11
    refine ⟨_, rfl, g, _, dx, fs11, rfl, hgm12, cls, no _ (by simp), (by omega), ?_⟩
    have L12 : Low (af 66) (upd M12 g (.ins (af 66) dx (putF "job_spans" (.ref E12) fs11))) g rs := (L11.same sm12).go hgm12 (by decide +kernel) (by decide +kernel) (by decide +kernel)
    have u12 : Frm g M12 (upd M12 g (.ins (af 66) dx (putF "job_spans" (.ref E12) fs11))) := frm_upd
    have hg12 : (upd M12 g (.ins (af 66) dx (putF "job_spans" (.ref E12) fs11))) g = _ := upd_same
    generalize upd M12 g (.ins (af 66) dx (putF "job_spans" (.ref E12) fs11)) = H12 at L12 u12 hg12 ⊢
    have e12 : (putF ("job_spans" : Str) (.ref E12) fs11).lookup ("job_spans" : Str) = some (.ref E12) := put_own
    have x12 : (putF ("job_spans" : Str) (.ref E12) fs11).lookup ("ask_spans" : Str) = some (.ref E11) := (put_other (by decide +kernel)).trans e11
    have len12 : (putF ("job_spans" : Str) (.ref E12) fs11).length ≤ 7+1 := Nat.le_trans (length_putF _ _ _) (by omega)
    have w12 : (putF ("job_spans" : Str) (.ref E12) fs11).lookup ("town" : Str) = some (.ref t) := (put_other (by decide +kernel)).trans w11
    have y12 : (putF ("job_spans" : Str) (.ref E12) fs11).lookup ("asks" : Str) = some (.ref D9) := (put_other (by decide +kernel)).trans y11
    have z12 : (putF ("job_spans" : Str) (.ref E12) fs11).lookup ("jobs" : Str) = some (.ref D10) := (put_other (by decide +kernel)).trans x11
    generalize putF ("job_spans" : Str) (.ref E12) fs11 = fs12 at hg12 e12 len12 x12 w12 y12 z12 ⊢
    have v12 : Frm g H11 H12 := Frm.trans (fun b o _ e => sm12 b o e) u12
    have f12 := f11.trans v12
    have hEd12 : H12 E12 = some (.dT ks12) := u12 _ _ (ne_of hE12 hgm12 (fun z => nomatch z)) hE12
    have sdd12 := sd12.go fun b ys (e : M12 b = some (.tup ys)) => u12 _ _ (ne_of e hgm12 (fun z => nomatch z)) e
    have hEd12a : H12 E11 = some (.dT ks11) := v12 _ _ (ne_of hEd11 hg11 (fun z => nomatch z)) hEd11
    have sdd12a := sdd11.go fun b ys (e : H11 b = some (.tup ys)) => v12 _ _ (ne_of e hg11 (fun z => nomatch z)) e
    have ht12 := ht11.frm v12 hg11
    have hAl12 : H12 D9 = some (.lst us9) := v12 _ _ (ne_of hAl11 hg11 (fun z => nomatch z)) hAl11
    have hAk12 : HKs H12 us9 (below hs (cntOf kc9)) := hAk11.go fun b ys e => v12 _ _ (ne_of e hg11 (fun z => nomatch z)) e
    have hJl12 : H12 D10 = some (.lst us10) := v12 _ _ (ne_of hDj11 hg11 (fun z => nomatch z)) hDj11
    have hJk12 : HKs H12 us10 (below hs (cntOf kc10)) := hkj11.go fun b ys e => v12 _ _ (ne_of e hg11 (fun z => nomatch z)) e
    -- self.more_times
    obtain ⟨ta, tb, t1, t2, t3⟩ := id ht12
    refine ⟨_, rfl, t, _, 0, _, rfl, rfl, SqT.of t1, rfl, ta, rfl, ⟨_, SqT.of t2⟩, fun E13 nE13 => ?_⟩
    refine Gr.dcd_it (walk_tup (K := K) (a := ta) (xs := hs.map V.str)) (fun j H' => Same H12 H' ∧ ∃ kvs : List (Key × V), H' E13 = some (.dK kvs) ∧ MoD H' (fun h us => ∃ a b, us = [a, b] ∧ Mr rs h a b) (openOf rs (hs.take j)) kvs ∧ kvs.length ≤ j)
      ⟨same_upd nE13, [], upd_same, ⟨by rw [List.take_zero]; rfl, fun _ m => (nomatch m)⟩, Nat.le_refl _⟩ (fun j H' _ h => SqT.of (h.1 _ _ t2)) ?_ ?_
    · rintro j v G1 G2 hj ⟨g1, kvs, hDk, sd, hk⟩ ⟨rfl, ev⟩
      rw [List.length_map] at hj
      have eh : hs[j]? = some hs[j] := List.getElem?_eq_getElem hj
      generalize hs[j] = h at eh
      rw [List.getElem?_map, eh] at ev
      obtain rfl : V.str h = v := Option.some.inj ev
      obtain ⟨dy, d, fy, kv, h1, h2, h3, h4, h5⟩ := (L12.same g1).l.ex
      refine ⟨rfl, _, rfl, _, rfl, g, _, dy, fy, _, rfl, h1, cls, no _ (by simp), h2, d, _, rfl, DGet.k (k := Sum.inr h) h3, _, rfl, ?_⟩
      rcases val_row h4 (Sum.inr h : Key) with ⟨a, r, e1, e2, e3, e4⟩ | ⟨e1, e2⟩
      · have ex : ∃ r, AllOf rs h r := ⟨r, e3, (Sum.inr.inj e4).symm⟩
        rw [e1]
        refine iteF ⟨g1, kvs, hDk, ?_, Nat.le_succ_of_le hk⟩
        rw [take_snoc eh]
        unfold openOf at sd ⊢
        rw [filter_snoc, if_neg (by simpa using ex), List.append_nil]
        exact sd
      · have ex : ¬ ∃ r, AllOf rs h r := fun ⟨r, hr, eh⟩ => e2 r hr (congrArg Sum.inr eh)
        rw [e1]
        refine iteT ⟨_, rfl, _, rfl, _, rfl, g, h, rs, rfl, L12.same g1, fun p ta' tj G3 g3 np hp hsp => ?_⟩
        have g13 := g1.trans g3
        have hDk3 := g3 _ _ hDk
        refine ⟨_, DPut.k (k := Sum.inr h) hDk3 (small_line (by omega)), same_mut g13 nE13, _, upd_same, ?_, put_len hk⟩
        rw [take_snoc eh]
        unfold openOf at sd ⊢
        rw [filter_snoc, if_pos (by simpa using ex)]
        refine ((sd.go fun c ys e => g3 _ _ e).put (us := [ta', tj]) (fun m => not_mem_take hnd eh (List.mem_filter.mp m).1) hp ⟨ta', tj, rfl, hsp⟩).go fun c ys e => ?_
        rw [upd_ne (ne_of e hDk3 (fun z => nomatch z))]
        exact e
    rintro M13 ⟨sm13, ks13, hE13, sd13, kl13⟩
    rw [List.length_map, List.take_length] at sd13
    have hgm13 := sm13 _ _ hg12
    refine ⟨_, rfl, g, _, dx, fs12, rfl, hgm13, cls, no _ (by simp), (by omega), ?_⟩
    have L13 : Low (af 66) (upd M13 g (.ins (af 66) dx (putF "more_times" (.ref E13) fs12))) g rs := (L12.same sm13).go hgm13 (by decide +kernel) (by decide +kernel) (by decide +kernel)
    have u13 : Frm g M13 (upd M13 g (.ins (af 66) dx (putF "more_times" (.ref E13) fs12))) := frm_upd
    have hg13 : (upd M13 g (.ins (af 66) dx (putF "more_times" (.ref E13) fs12))) g = _ := upd_same
    generalize upd M13 g (.ins (af 66) dx (putF "more_times" (.ref E13) fs12)) = H13 at L13 u13 hg13 ⊢
    have v13 : Frm g H12 H13 := Frm.trans (fun b o _ e => sm13 b o e) u13
    have tup13 : ∀ b ys, H12 b = some (.tup ys) → H13 b = some (.tup ys) := fun b ys e => v13 _ _ (ne_of e hg12 (fun z => nomatch z)) e
    refine qQ H13 (f12.trans v13) ⟨L13, dx, E11, E12, E13, _, ks11, ks12, ks13, cntOf kc9, cntOf kc10, hg13, fun h m => (cd9.of m).2, fun h m => (cd10.of m).2, ?_, ?_, ?_, ?_, ?_, ?_, put_own, ?_, ?_⟩ ⟨dx, D9, D10, _, us9, us10, cntOf kc9, cntOf kc10, hg13, fun h m => (cd9.of m).2, fun h m => (cd10.of m).2, (put_other (by decide +kernel)).trans w12, ht12.frm v13 hg12, (put_other (by decide +kernel)).trans y12, v13 _ _ (ne_of hAl12 hg12 (fun z => nomatch z)) hAl12, hAk12.go tup13, (put_other (by decide +kernel)).trans z12, v13 _ _ (ne_of hJl12 hg12 (fun z => nomatch z)) hJl12, hJk12.go tup13⟩
    · exact (put_other (by decide +kernel)).trans x12
    · exact v13 _ _ (ne_of hEd12a hg12 (fun z => nomatch z)) hEd12a
    · exact sdd12a.go tup13
    · exact (put_other (by decide +kernel)).trans e12
    · exact v13 _ _ (ne_of hEd12 hg12 (fun z => nomatch z)) hEd12
    · exact sdd12.go tup13
    · exact u13 _ _ (ne_of hE13 hgm13 (fun z => nomatch z)) hE13
    · exact sd13.go fun b ys e => u13 _ _ (ne_of e hgm13 (fun z => nomatch z)) e
/-! ### the lists that are told -/
def hkInv : List Key → Gr.HK
  | [.inr h, .inl n] => (h, n)
  | _ => ("", 0)
theorem hkInv_keyOf (k : Gr.HK) : hkInv (Gr.keyOf k) = k := rfl
theorem keys_back {kvs : List (List Key × V)} (h : ∀ kv ∈ kvs, ∃ k, kv.1 = Gr.keyOf k) : kvs.map (·.1) = (kvs.map fun kv => hkInv kv.1).map Gr.keyOf := by
  rw [List.map_map]
  refine List.map_congr_left fun kv m => ?_
  obtain ⟨k, e⟩ := h kv m
  show kv.1 = Gr.keyOf (hkInv kv.1)
  rw [e, hkInv_keyOf]
theorem hks_of {H : Hp} : ∀ {ys : List (Addr × Gr.HK)}, (∀ y ∈ ys, H y.1 = some (.tup ((Gr.keyOf y.2).map kV))) → HKs H (ys.map fun y => V.ref y.1) (ys.map (·.2))
  | [], _ => .nil
  | y :: ys, h => .cons (h y List.mem_cons_self) (hks_of fun z m => h z (List.mem_cons_of_mem _ m))
def SrtK (ks : List Gr.HK) : Prop := ks.Pairwise fun x y => Fl.ltD (Gr.datOf y) (Gr.datOf x) = false
/-! a town and a list, and what refuses it -/
structure Ask (Ex : Addr → Prop) (H : Hp) (t l : Addr) (hs gs : List Str) (xs : List V) (ds : List PyData) : Prop where
  town : TownAt H t hs gs
  ok : ∀ h ∈ hs, PyData.strOk h = true
  lst : H l = some (.lst xs)
  thing : Thing Ex H xs ds
  len : ds.length ≤ 1000
  h6 : hs.length ≤ 6
  nd : hs.Nodup
def Refuse (CN CC : Addr) (H : Hp) (hs : List Str) (ds : List PyData) (E : XK) : Prop :=
  (∀ (i : Nat) (dv : PyData) (d : Addr) (H' : Hp), RowsD hs ds i → ds[i]? = some dv → ¬ IsRowD hs dv → Same H H' → H' d = some (.xd [("number", .int (i : Nat))]) → E (.ref CN) (some d) H') ∧
  ∀ (f s : Nat) (d : Addr) (H' : Hp), RowsD hs ds ds.length → FirstClash ds f s → Same H H' → H' d = some (.xd [("second", .int (s : Nat)), ("first", .int (f : Nat))]) → E (.ref CC) (some d) H'
theorem same_two {H : Hp} {x dx : Addr} {o1 o2 : HO} (nx : H x = none) (nd : H dx = none) : Same H (upd (upd H dx o1) x o2) := fun b o e => by
  rw [upd_ne (ne_of_none e nx), upd_ne (ne_of_none e nd)]
  exact e
/-! gaps_of(town, rows) -/
def sp_gaps_of (C CN CC : Addr) : Sp := fun vs H Q E => ∃ (Ex : Addr → Prop) (t l : Addr) (hs gs : List Str) (xs : List V) (ds : List PyData), vs = [.ref t, .ref l] ∧ Ask Ex H t l hs gs xs ds ∧
  (∀ (rs : List Row) (x : Addr) (H' : Hp), Same H H' → RowsD hs ds ds.length → NoClash ds ds.length → Book hs rs → ds = rs.map rowD → GapsAt C H' x hs rs → GapsFull C H' x t hs gs rs → Q (.ref x) H') ∧ Refuse CN CC H hs ds E
theorem ok_gaps_of (T : Txt K mg af fd) : FnOk P w K mg base (L2.CX P w) 8 (af 19) (fd 19) ["town", "rows"] (sp_gaps_of (af 66) (af 60) (af 62)) := by
  refine T.F_gaps_of.okX sc_gaps_of (fun vs H Q E h => ?_) (fun cdv A outer s H vs Q E hr h => ?_)
  · obtain ⟨Ex, t, l, hs, gs, xs, ds, rfl, _⟩ := h
    rfl
  · obtain ⟨Ex, t, l, hs, gs, xs, ds, rfl, a, q, r⟩ := h
    refine ⟨_, (pss_cons (ps_expr (pe_call (ok_need_book T) (hr.mono (by first | decide | omega)) (by rfl) T.g_need_book T.F_need_book.kp T.b_need_book .nil (passes_call (takes_of rfl rfl rfl rfl) (fun _ _ _ _ h => h)) (pa_cons (pv 0) (pa_cons (pv 1) pa_nil))))
        (pss_one (ps_ret (pe_make T.o_Gaps.M (ok_init_Gaps T) (hr.mono (by first | decide | omega)) (by rfl) T.o_Gaps.g T.o_Gaps.b .nil pass0 (pa_cons (pv 0) (pa_cons (pv 1) pa_nil)))))), ?_⟩
    refine ⟨_, rfl, _, rfl, Ex, t, l, hs, gs, xs, ds, rfl, a.town, a.ok, a.lst, a.thing, a.len, fun H1 s1 hrows hno => ?_, r.1, r.2⟩
    obtain ⟨rs, hds, hrw, B⟩ := book_of a.ok (a.thing.1.same s1) hrows hno
    have hrl : rs.length ≤ 1000 := by have h := a.len; rw [hds, List.length_map] at h; exact h
    refine ⟨_, rfl, _, rfl, fun x dx nx nd ne => ?_⟩
    have s0 : Same H1 (upd (upd H1 dx (.own x)) x (.ins (af 66) dx [])) := same_two nx nd
    refine ⟨x, dx, t, l, hs, gs, xs, rs, rfl, upd_same, (a.town.same' s1).same' s0, s0 _ _ (s1 _ _ a.lst), hrw.same s0, hrl, B, a.h6, a.nd, fun H' fr G GF => ⟨rfl, ?_⟩⟩
    exact q rs x H' (s1.trans fun b o e => fr b o (ne_of_none e nx) (s0 b o e)) hrows hno B hds G GF
def sp_list (CN CC : Addr) (R : List Str → List Row → List Gr.HK → Prop) : Sp := fun vs H Q E => ∃ (Ex : Addr → Prop) (t l : Addr) (hs gs : List Str) (xs : List V) (ds : List PyData), vs = [.ref t, .ref l] ∧ Ask Ex H t l hs gs xs ds ∧
  (∀ (rs : List Row) (p : Addr) (us : List V) (ks : List Gr.HK) (H' : Hp), Same H H' → RowsD hs ds ds.length → NoClash ds ds.length → Book hs rs → ds = rs.map rowD → H p = none → H' p = some (.lst us) → HKs H' us ks → SrtK ks → R hs rs ks → Q (.ref p) H') ∧ Refuse CN CC H hs ds E
def KnownR (wd : Str) (hs : List Str) (rs : List Row) (ks : List Gr.HK) : Prop := ks.Nodup ∧ ∀ k, k ∈ ks ↔ ∃ r, Bk rs wd r ∧ r.key = k
def LostR (C : List Row → Str → Int → Prop) (wd : Str) (hs : List Str) (rs : List Row) (ks : List Gr.HK) : Prop := ∃ cnt : Str → Nat, (∀ h ∈ hs, C rs h (cnt h : Nat) ∧ cnt h ≤ 16) ∧ ks.Perm (lostOf rs wd (below hs cnt))
theorem known_keys {H : Hp} {rs : List Row} {wd : Str} {kvs : List (List Key × V)} {ks : List Gr.HK} (d : DRow key2 H (Bk rs wd) kvs) (pm : ks.Perm (kvs.map fun kv => hkInv kv.1)) : KnownR wd [] rs ks := by
  have hk : ∀ kv ∈ kvs, ∃ k, kv.1 = Gr.keyOf k := fun kv m => let ⟨a, r, _, _, _, e⟩ := d.own kv m; ⟨r.key, e⟩
  have e := keys_back hk
  refine ⟨pm.nodup_iff.mpr ?_, fun k => ?_⟩
  · have nd := d.nd
    rw [e, List.nodup_iff_pairwise_ne, List.pairwise_map] at nd
    exact List.nodup_iff_pairwise_ne.mpr (nd.imp fun ne z => ne (congrArg Gr.keyOf z))
  · rw [pm.mem_iff]
    constructor
    · intro m
      obtain ⟨kv, mkv, rfl⟩ := List.mem_map.mp m
      obtain ⟨a, r, _, _, h1, h2⟩ := d.own kv mkv
      exact ⟨r, h1, by rw [h2]; rfl⟩
    · rintro ⟨r, hr, rfl⟩
      obtain ⟨v, m⟩ := d.all r hr
      exact List.mem_map.mpr ⟨_, m, rfl⟩
/-! ### from H to H': all that stood stands, tables of code objects may have grown -/
structure Sm (H H' : Hp) : Prop where
  keep : ∀ b o, H b = some o → (∀ ps, o ≠ .tbl ps) → H' b = some o
  tab : ∀ b ps, H b = some (.tbl ps) → ∃ ps', H' b = some (.tbl ps') ∧ (TriplesOk ps.toList → TriplesOk ps'.toList)
theorem Sm.refl (H : Hp) : Sm H H := ⟨fun _ _ e _ => e, fun _ ps e => ⟨ps, e, id⟩⟩
theorem Sm.trans {H H1 H2 : Hp} (a : Sm H H1) (b : Sm H1 H2) : Sm H H2 := ⟨fun x o e n => b.keep x o (a.keep x o e n) n, fun x ps e => by
  obtain ⟨p1, e1, t1⟩ := a.tab x ps e
  obtain ⟨p2, e2, t2⟩ := b.tab x p1 e1
  exact ⟨p2, e2, fun t => t2 (t1 t)⟩⟩
theorem Sm.of {H H' : Hp} (s : Same H H') : Sm H H' := ⟨fun b o e _ => s b o e, fun b ps e => ⟨ps, s b _ e, id⟩⟩
theorem Sm.tabbed {P : Addr} {H H' : Hp} (h : GxR.TabG H P) (t : GxR.Tabbed P H H') : Sm H H' := by
  obtain ⟨ps0, e0, t0⟩ := h
  obtain ⟨⟨ps1, e1, t1⟩, rest⟩ := t
  refine ⟨fun b o e n => ?_, fun b ps e => ?_⟩
  · by_cases hb : b = P
    · subst hb
      exact absurd (Option.some.inj (e.symm.trans e0)) (n ps0)
    · rw [rest b hb]
      exact e
  · by_cases hb : b = P
    · subst hb
      exact ⟨ps1, e1, fun _ => t1⟩
    · exact ⟨ps, by rw [rest b hb]; exact e, id⟩
theorem Sm.free {H H' : Hp} (s : Sm H H') {b : Addr} (h : H' b = none) : H b = none := by
  cases e : H b with
  | none => rfl
  | some o =>
    by_cases n : ∃ ps, o = .tbl ps
    · obtain ⟨ps, rfl⟩ := n
      obtain ⟨p1, e1, _⟩ := s.tab b ps e
      rw [h] at e1
      cases e1
    · rw [s.keep b o e fun ps z => n ⟨ps, z⟩] at h
      cases h
theorem Sm.mut {H H1 : Hp} {p : Addr} {o : HO} (s : Sm H H1) (h : H p = none) : Sm H (upd H1 p o) :=
  ⟨fun b x e n => by rw [upd_ne (ne_of_none e h)]; exact s.keep b x e n, fun b ps e => by rw [upd_ne (ne_of_none e h)]; exact s.tab b ps e⟩
theorem Sm.tup {H H' : Hp} (s : Sm H H') {b : Addr} {xs : List V} (e : H b = some (.tup xs)) : H' b = some (.tup xs) := s.keep b _ e (fun _ z => nomatch z)
theorem Sm.lst {H H' : Hp} (s : Sm H H') {b : Addr} {xs : List V} (e : H b = some (.lst xs)) : H' b = some (.lst xs) := s.keep b _ e (fun _ z => nomatch z)
theorem Sm.dK {H H' : Hp} (s : Sm H H') {b : Addr} {kvs : List (Key × V)} (e : H b = some (.dK kvs)) : H' b = some (.dK kvs) := s.keep b _ e (fun _ z => nomatch z)
theorem Sm.dT {H H' : Hp} (s : Sm H H') {b : Addr} {kvs : List (List Key × V)} (e : H b = some (.dT kvs)) : H' b = some (.dT kvs) := s.keep b _ e (fun _ z => nomatch z)
theorem Sm.ins {H H' : Hp} (s : Sm H H') {b C dx : Addr} {fs : List (Str × V)} (e : H b = some (.ins C dx fs)) : H' b = some (.ins C dx fs) := s.keep b _ e (fun _ z => nomatch z)
theorem Dq.sm {Ex : Addr → Prop} {H H' : Hp} {v : V} {d : PyData} (h : Dq Ex H v d) (s : Sm H H') : Dq Ex H' v d := h.go (fun _ a b => absurd a b) (fun _ _ _ e => s.lst e) (fun _ _ e => s.tup e)
theorem Dqs.sm {Ex : Addr → Prop} {H H' : Hp} {v : List V} {d : List PyData} (h : Dqs Ex H v d) (s : Sm H H') : Dqs Ex H' v d := h.go (fun _ a b => absurd a b) (fun _ _ _ e => s.lst e) (fun _ _ e => s.tup e)
theorem TownAt.sm {t : Addr} {H H' : Hp} {hs gs : List Str} (h : TownAt H t hs gs) (s : Sm H H') : TownAt H' t hs gs := by
  obtain ⟨a, b, h1, h2, h3⟩ := h
  exact ⟨a, b, s.tup h1, s.tup h2, s.tup h3⟩
theorem Pen.smm {p c : Addr} {H H' : Hp} (h : Pen H p c) (s : Sm H H') : Pen H' p c := by
  obtain ⟨cs, n, st, h1, h2, h3, h4⟩ := h
  exact ⟨cs, n, st, s.lst h1, s.lst h2, h3, h4⟩
/-! the tables of the defs that hold generator expressions -/
def Tbs (af : Nat → Addr) (H : Hp) : Prop := ∀ i ∈ tabIx, GxR.TabG H (af i)
theorem Tbs.sm {af : Nat → Addr} {H H' : Hp} (t : Tbs af H) (s : Sm H H') : Tbs af H' := fun i hi => by
  obtain ⟨ps, e, tr⟩ := t i hi
  obtain ⟨p1, e1, t1⟩ := s.tab _ ps e
  exact ⟨p1, e1, t1 tr⟩
theorem Tbs.same {af : Nat → Addr} {H H' : Hp} (t : Tbs af H) (s : Same H H') : Tbs af H' := t.sm (.of s)
theorem Tbs.stp {af : Nat → Addr} {p c : Addr} {H H' : Hp} (t : Tbs af H) (s : Stp p c H H') (hP : Pen H p c) : Tbs af H' := fun i hi => by
  obtain ⟨ps, e, tr⟩ := t i hi
  obtain ⟨_, _, _, h1, _⟩ := hP
  exact ⟨ps, s.2 _ _ (ne_of e h1 (fun z => nomatch z)) e, tr⟩
/-! ### worlds: jobs and asks as the law lays them -/
structure WJ where
  h : Str
  b : Int
  e : Int
structure WA where
  pl : Nat
  g : Str
  o : Int
  k : Int
  ch : Nat
def WJ.v (j : WJ) : List V := [.str j.h, .int j.b, .int j.e]
def WA.v (x : WA) : List V := [.int (x.pl : Nat), .str x.g, .int x.o, .int x.k, .int (x.ch : Nat)]
def Cells {A : Type} (f : A → List V) (H : Hp) (rs : List Addr) (xs : List A) : Prop := rs.length = xs.length ∧ ∀ (i : Nat) (r : Addr) (x : A), rs[i]? = some r → xs[i]? = some x → H r = some (.lst (f x))
structure WorldAt (H : Hp) (w lj la : Addr) (rs qs : List Addr) (js : List WJ) (as : List WA) (most : Int) : Prop where
  w : H w = some (.lst [.ref lj, .ref la, .int most])
  j : H lj = some (.lst (rs.map V.ref))
  a : H la = some (.lst (qs.map V.ref))
  cj : Cells WJ.v H rs js
  ca : Cells WA.v H qs as
  pl : ∀ x ∈ as, x.pl < js.length
theorem Cells.same {A : Type} {f : A → List V} {H H' : Hp} {rs : List Addr} {xs : List A} (h : Cells f H rs xs) (s : Same H H') : Cells f H' rs xs := ⟨h.1, fun i r x e1 e2 => s _ _ (h.2 i r x e1 e2)⟩
theorem WorldAt.same {H H' : Hp} {w lj la : Addr} {rs qs : List Addr} {js : List WJ} {as : List WA} {most : Int} (h : WorldAt H w lj la rs qs js as most) (s : Same H H') : WorldAt H' w lj la rs qs js as most := ⟨s _ _ h.w, s _ _ h.j, s _ _ h.a, h.cj.same s, h.ca.same s, h.pl⟩
theorem Cells.at {A : Type} {f : A → List V} {H : Hp} {rs : List Addr} {xs : List A} {i : Nat} {x : A} (h : Cells f H rs xs) (e : xs[i]? = some x) : ∃ r, rs[i]? = some r ∧ H r = some (.lst (f x)) := by
  have hi : i < rs.length := by rw [h.1]; exact (List.getElem?_eq_some_iff.mp e).1
  exact ⟨rs[i], List.getElem?_eq_getElem hi, h.2 i _ x (List.getElem?_eq_getElem hi) e⟩
theorem map_ref {rs : List Addr} {i : Nat} {r : Addr} (e : rs[i]? = some r) : (rs.map V.ref)[i]? = some (.ref r) := by
  rw [List.getElem?_map, e]
  rfl
/-! whose an ask is, and how many there are of a house -/
def WA.of (js : List WJ) (x : WA) (h : Str) : Bool := match js[x.pl]? with
  | some j => decide (j.h = h)
  | none => false
def nA (js : List WJ) (as : List WA) (h : Str) : Nat := (as.filter fun x => x.of js h).length
def nJ (js : List WJ) (h : Str) : Nat := (js.filter fun j => decide (j.h = h)).length
def sp_room : Sp := fun vs H Q _ => ∃ (w lj la : Addr) (rs qs : List Addr) (js : List WJ) (as : List WA) (most : Int) (h g : Str), vs = [.ref w, .str h, .str g] ∧ WorldAt H w lj la rs qs js as most ∧ js.length ≤ 500 ∧ as.length ≤ 500 ∧
  ∀ (b : Bool) (H' : Hp), Same H H' → (b = true ↔ nA js as h < 15 ∧ nJ js g < 15 ∧ (js.length : Int) < most) → Q (.bl b) H'
theorem take_succ_filter {A : Type} (f : A → Bool) (xs : List A) {i : Nat} {x : A} (e : xs[i]? = some x) : (xs.take (i + 1)).filter f = (xs.take i).filter f ++ (if f x = true then [x] else []) := by
  rw [List.take_add_one, e, Option.toList_some, List.filter_append]
  congr 1
  rw [List.filter_cons]
  rfl
theorem ok_l_room (T : Txt K mg af fd) : FnOk P w K mg base CX0 1 (af 45) (fd 45) ["world", "house", "goal"] sp_room := by
  refine T.F_l_room.ok sc_l_room (fun vs H Q E h => ?_) (fun cdv A outer s H vs Q E hr h => ?_)
  · obtain ⟨w, lj, la, rs, qs, js, as, most, hh, g, rfl, _⟩ := h
    rfl
  · obtain ⟨w, lj, la, rs, qs, js, as, most, hh, g, rfl, W, lenj, lena, q⟩ := h
    refine ⟨_, (pss_cons (ps_setLc (i := 3) (own := [("ask", 4)]) (g := gName 4) (by rfl) sc_l_room.nd rfl rfl (sw_true rfl rfl rfl (by decide +kernel)) (pi_list (pe_ix ix_list (pv 0) pe_int (fun _ _ => rfl))) (blkOk_by (own := [("ask", 4)]) (N := ["world", "house", "goal", "asks", "ask", "jobs", "job"]) (sc := defScope s_l_room) (by decide +kernel)) (fun _ _ _ _ _ => pg_name (i := 4) sc_l_room.nd rfl (Or.inl rfl)) (fun _ _ _ _ _ => (pts_one (pt_cmpR op_eq (pe_ix (show IxR _ (rIxL K) from ix_list) (pe_ix (show IxR _ (rIxL K) from ix_list) (pe_ix (show IxR _ (rIxL K) from ix_list) (pv 0) pe_int (fun _ _ => rfl)) (pe_ix (show IxR _ (rIxL K) from ix_list) (pv 4) pe_int (fun _ _ => rfl)) (fun _ _ => rfl)) pe_int (fun _ _ => rfl)) (pv 1) (nomark _)))) (fun _ _ _ _ _ => (pv 4)))
        (pss_cons (ps_setLc (i := 5) (own := [("job", 6)]) (g := gName 6) (by rfl) sc_l_room.nd rfl rfl (sw_true rfl rfl rfl (by decide +kernel)) (pi_list (pe_ix (show IxR _ (rIxL K) from ix_list) (pv 0) pe_int (fun _ _ => rfl))) (blkOk_by (own := [("job", 6)]) (N := ["world", "house", "goal", "asks", "ask", "jobs", "job"]) (sc := defScope s_l_room) (by decide +kernel)) (fun _ _ _ _ _ => pg_name (i := 6) sc_l_room.nd rfl (Or.inl rfl)) (fun _ _ _ _ _ => (pts_one (pt_cmpR op_eq (pe_ix (show IxR _ (rIxL K) from ix_list) (pv 6) pe_int (fun _ _ => rfl)) (pv 2) (nomark _)))) (fun _ _ _ _ _ => (pv 6)))
        (pss_one (ps_ret (pe_and (pe_cmpR op_lt (pe_callB call_len_seq (by rfl) T.m_len (by decide +kernel) (pa_cons (pv 3) pa_nil)) pe_int (nomark _)) (pe_and (pe_cmpR op_lt (pe_callB call_len_seq (by rfl) T.m_len (by decide +kernel) (pa_cons (pv 5) pa_nil)) pe_int (nomark _)) (pe_one (pe_cmpR op_lt (pe_callB call_len_seq (by rfl) T.m_len (by decide +kernel) (pa_cons (pe_ix (show IxR _ (rIxL K) from ix_list) (pv 0) pe_int (fun _ _ => rfl)) pa_nil)) (pe_ix ix_list (pv 0) pe_int (fun _ _ => rfl)) (nomark _))))))))), ?_⟩
    refine ⟨_, rfl, w, _, 1, _, rfl, rfl, SqL.of W.w, rfl, la, rfl, ⟨_, SqL.of W.a⟩, fun D nD => ?_⟩
    refine lc_list (K := K) (a := la) (xs := qs.map V.ref) (fun i H' => Same H H' ∧ ∃ vs : List V, H' D = some (.lst vs) ∧ vs.length = ((as.take i).filter fun x => x.of js hh).length)
      ⟨same_upd nD, [], upd_same, rfl⟩ (fun i H' _ h => SqL.of (h.1 _ _ W.a)) ?_ ?_
    · rintro i v H2 hv ⟨g2, vs, hD, hl⟩
      rw [List.getElem?_map] at hv
      obtain ⟨r, hr1, rfl⟩ := Option.map_eq_some_iff.mp hv
      have hi : i < as.length := by rw [← W.ca.1]; exact (List.getElem?_eq_some_iff.mp hr1).1
      have hx : as[i]? = some as[i] := List.getElem?_eq_getElem hi
      generalize as[i] = x at hx
      have W2 := W.same g2
      have hr2 := W2.ca.2 i r x hr1 hx
      have hpl := W.pl x (List.mem_of_getElem? hx)
      have hj : js[x.pl]? = some js[x.pl] := List.getElem?_eq_getElem hpl
      have eof : x.of js hh = decide (js[x.pl].h = hh) := by
        unfold WA.of
        rw [hj]
      generalize js[x.pl] = j at hj eof
      obtain ⟨rj, erj, hrj⟩ := W2.cj.at hj
      refine ⟨rfl, _, rfl, w, _, 0, _, rfl, rfl, SqL.of W2.w, rfl, _, rfl, r, _, 0, _, rfl, rfl, SqL.of hr2, rfl, lj, _, _, _, rfl, rfl, SqL.of W2.j, atI_nat (map_ref erj), rj, _, 0, _, rfl, rfl, SqL.of hrj, rfl, _, rfl, rfl, _, rfl, ?_⟩
      rw [take_succ_filter _ as hx, eof]
      by_cases e : j.h = hh
      · rw [decide_eq_true e]
        refine iteTd (congrArg V.str e) ⟨_, rfl, vs, hD, small1000 ?_, same_mut g2 nD, vs ++ [.ref r], upd_same, ?_⟩
        · rw [hl]
          exact Nat.le_trans (List.length_filter_le _ _) (by rw [List.length_take]; omega)
        · rw [List.length_append, List.length_append, hl, if_pos rfl]
          rfl
      · rw [decide_eq_false e]
        refine iteFd (fun z => e (V.str.inj z)) ⟨g2, vs, hD, ?_⟩
        rw [List.length_append, hl, if_neg (fun z => Bool.noConfusion z)]
        rfl
    · rintro H2 ⟨g2, vs, hD, hl⟩
      rw [List.length_map, W.ca.1, List.take_length] at hl
      have W2 := W.same g2
      refine ⟨_, rfl, w, _, 0, _, rfl, rfl, SqL.of W2.w, rfl, lj, rfl, ⟨_, SqL.of W2.j⟩, fun D2 nD2 => ?_⟩
      refine lc_list (K := K) (a := lj) (xs := rs.map V.ref) (fun i H' => Same H2 H' ∧ ∃ us : List V, H' D2 = some (.lst us) ∧ us.length = ((js.take i).filter fun j => decide (j.h = g)).length)
        ⟨same_upd nD2, [], upd_same, rfl⟩ (fun i H' _ h => SqL.of (h.1 _ _ W2.j)) ?_ ?_
      · rintro i v H3 hv ⟨g3, us, hD3, hl3⟩
        rw [List.getElem?_map] at hv
        obtain ⟨r, hr1, rfl⟩ := Option.map_eq_some_iff.mp hv
        have hi : i < js.length := by rw [← W.cj.1]; exact (List.getElem?_eq_some_iff.mp hr1).1
        have hx : js[i]? = some js[i] := List.getElem?_eq_getElem hi
        generalize js[i] = j at hx
        have hr3 := (W2.same g3).cj.2 i r j hr1 hx
        refine ⟨rfl, _, rfl, r, _, 0, _, rfl, rfl, SqL.of hr3, rfl, _, rfl, rfl, _, rfl, ?_⟩
        rw [take_succ_filter _ js hx]
        by_cases e : j.h = g
        · rw [decide_eq_true e]
          refine iteTd (congrArg V.str e) ⟨_, rfl, us, hD3, small1000 ?_, same_mut g3 nD2, us ++ [.ref r], upd_same, ?_⟩
          · rw [hl3]
            exact Nat.le_trans (List.length_filter_le _ _) (by rw [List.length_take]; omega)
          · rw [List.length_append, List.length_append, hl3, if_pos rfl]
            rfl
        · rw [decide_eq_false e]
          refine iteFd (fun z => e (V.str.inj z)) ⟨g3, us, hD3, ?_⟩
          rw [List.length_append, hl3, if_neg (fun z => Bool.noConfusion z)]
          rfl
      · rintro H3 ⟨g3, us, hD3, hl3⟩
        rw [List.length_map, W.cj.1, List.take_length] at hl3
        have W3 := W2.same g3
        have g13 := g2.trans g3
        refine ⟨_, rfl, D, _, rfl, .inl (SqL.of (g3 _ _ hD)), _, _, rfl, rfl, _, rfl, ?_⟩
        have na : vs.length = nA js as hh := hl
        have nj : us.length = nJ js g := hl3
        refine ite2 (fun e1 => ?_) (fun e1 => ?_)
        · have e1 := of_decide_eq_true e1
          refine ⟨_, rfl, D2, _, rfl, .inl (SqL.of hD3), _, _, rfl, rfl, _, rfl, ite2 (fun e2 => ?_) (fun e2 => ?_)⟩
          · have e2 := of_decide_eq_true e2
            refine ⟨_, rfl, w, _, 0, _, rfl, rfl, SqL.of W3.w, rfl, lj, _, rfl, .inl (SqL.of W3.j), _, rfl, w, _, 2, _, rfl, rfl, SqL.of W3.w, rfl, _, _, rfl, rfl, ?_⟩
            refine q _ _ g13 ?_
            rw [decide_eq_true_iff, List.length_map, W.cj.1]
            exact ⟨fun z => ⟨by omega, by omega, z⟩, fun z => z.2.2⟩
          · have e2 := fun z => e2 (decide_eq_true z)
            exact q _ _ g13 ⟨fun z => Bool.noConfusion z, fun z => absurd (show (us.length : Int) < 15 by have := z.2.1; omega) e2⟩
        · have e1 := fun z => e1 (decide_eq_true z)
          exact q _ _ g13 ⟨fun z => Bool.noConfusion z, fun z => absurd (show (vs.length : Int) < 15 by have := z.1; omega) e1⟩
/-! ### what a job with its asks brings -/
def Dn : Nat → Int
  | 0 => 5
  | n + 1 => 3 * Dn n + 17
theorem nJ_eq (js : List WJ) (h : Str) : nJ js h = (js.map WJ.h).countP fun z => decide (z = h) := by
  unfold nJ
  rw [List.countP_map, List.countP_eq_length_filter]
  rfl
theorem of_eq (js : List WJ) (x : WA) (h : Str) : x.of js h = decide ((js.map WJ.h)[x.pl]? = some h) := by
  unfold WA.of
  rw [List.getElem?_map]
  cases js[x.pl]? with
  | none => simp
  | some j => simp
theorem nA_congr {js js2 : List WJ} (as : List WA) (h : Str) (e : ∀ x ∈ as, (js.map WJ.h)[x.pl]? = (js2.map WJ.h)[x.pl]?) : nA js as h = nA js2 as h := by
  unfold nA
  congr 1
  refine List.filter_congr fun x hx => ?_
  rw [of_eq, of_eq, e x hx]
theorem nJ_snoc (js : List WJ) (j : WJ) (h : Str) : nJ (js ++ [j]) h = nJ js h + (if j.h = h then 1 else 0) := by
  unfold nJ
  rw [List.filter_append, List.length_append]
  congr 1
  by_cases e : j.h = h <;> simp [e]
theorem nA_snoc (js : List WJ) (as : List WA) (x : WA) (h : Str) : nA js (as ++ [x]) h = nA js as h + (if x.of js h = true then 1 else 0) := by
  unfold nA
  rw [List.filter_append, List.length_append]
  congr 1
  by_cases e : x.of js h = true <;> simp [e]
/-! the part of an ask that speaks of the job it led to -/
def ChildOk (n0 : Nat) (nj : List WJ) (x : WA) : Prop := n0 < x.ch ∧ x.pl < x.ch ∧ ∃ j, nj[x.ch - n0]? = some j ∧ j.h = x.g ∧ x.o ≤ j.b ∧ j.e ≤ x.k
structure AskOk (hs : List Str) (n0 : Nat) (nj : List WJ) (x : WA) : Prop where
  g : x.g ∈ hs
  lo : n0 ≤ x.pl
  par : ∃ j, nj[x.pl - n0]? = some j ∧ j.b < x.o ∧ x.o ≤ x.k ∧ x.k < j.e
  ch : ChildOk n0 nj x
structure JobPost (hs : List Str) (n0 : Nat) (start D : Int) (house : Str) (nj : List WJ) (na : List WA) (res : Int) : Prop where
  hd : ∃ j0 rest, nj = j0 :: rest ∧ j0.h = house ∧ j0.e = res
  jb : ∀ j ∈ nj, j.h ∈ hs ∧ start ≤ j.b ∧ j.b ≤ j.e ∧ j.e ≤ res
  rb : res ≤ start + D
  ab : ∀ x ∈ na, AskOk hs n0 nj x
  inc : (na.map WA.ch).Pairwise (· < ·)
  cnt : na.length + 1 = nj.length
theorem ChildOk.app {n0 : Nat} {nj : List WJ} {x : WA} (h : ChildOk n0 nj x) (more : List WJ) : ChildOk n0 (nj ++ more) x := by
  obtain ⟨h1, h2, j, e, r⟩ := h
  exact ⟨h1, h2, j, by rw [List.getElem?_append_left (List.getElem?_eq_some_iff.mp e).1]; exact e, r⟩
theorem AskOk.app {hs : List Str} {n0 : Nat} {nj : List WJ} {x : WA} (h : AskOk hs n0 nj x) (more : List WJ) : AskOk hs n0 (nj ++ more) x := by
  obtain ⟨h1, h2, ⟨j, e, r⟩, h4⟩ := h
  exact ⟨h1, h2, ⟨j, by rw [List.getElem?_append_left (List.getElem?_eq_some_iff.mp e).1]; exact e, r⟩, h4.app more⟩
theorem get_shift {A : Type} {n0 i : Nat} {xs ys : List A} {y : A} (hi : n0 + xs.length ≤ i) (e : ys[i - (n0 + xs.length)]? = some y) : (xs ++ ys)[i - n0]? = some y := by
  rw [List.getElem?_append_right (by omega), show i - n0 - xs.length = i - (n0 + xs.length) by omega]
  exact e
theorem AskOk.shift {hs : List Str} {n0 : Nat} {nj more : List WJ} {x : WA} (h : AskOk hs (n0 + nj.length) more x) : AskOk hs n0 (nj ++ more) x := by
  obtain ⟨h1, h2, ⟨j, e, r⟩, ⟨c1, c2, j', e', r'⟩⟩ := h
  exact ⟨h1, by omega, ⟨j, get_shift h2 e, r⟩, ⟨by omega, c2, j', get_shift (by omega) e', r'⟩⟩
/-! in the making: the asks of the job itself, those of the jobs under it -/
structure Half (hs : List Str) (n0 : Nat) (begin last now lim : Int) (house : Str) (nj : List WJ) (na : List WA) : Prop where
  hd : ∃ rest, nj = ⟨house, begin, begin⟩ :: rest ∧ ∀ j ∈ rest, j.h ∈ hs ∧ begin ≤ j.b ∧ j.b ≤ j.e ∧ j.e ≤ last
  nb : begin ≤ now
  nl : now ≤ last
  ll : last ≤ lim
  ab : ∀ x ∈ na, (x.pl = n0 ∧ x.g ∈ hs ∧ begin < x.o ∧ x.o ≤ x.k ∧ x.k ≤ last ∧ ChildOk n0 nj x) ∨ (n0 < x.pl ∧ AskOk hs n0 nj x)
  inc : (na.map WA.ch).Pairwise (· < ·)
  top : ∀ x ∈ na, x.ch < n0 + nj.length
  cnt : na.length + 1 = nj.length
theorem half_new {hs : List Str} {n0 : Nat} {begin : Int} {house : Str} : Half hs n0 begin begin begin begin house [⟨house, begin, begin⟩] [] :=
  ⟨⟨[], rfl, fun _ m => nomatch m⟩, Int.le_refl _, Int.le_refl _, Int.le_refl _, (fun _ m => nomatch m), List.Pairwise.nil, (fun _ m => nomatch m), rfl⟩
/-! one ask more, with what it led to -/
theorem Half.more {hs : List Str} {n0 : Nat} {begin last now lim out d t : Int} {house g : Str} {nj nj2 : List WJ} {na na2 : List WA} {res : Int} (h : Half hs n0 begin last now lim house nj na) (hg : g ∈ hs) (ho1 : now < out) (ho2 : out ≤ now + 2)
    (J : JobPost hs (n0 + nj.length) out d g nj2 na2 res) (t0 : 0 ≤ t) (t2 : t ≤ 2) (hd : 0 ≤ d) {now' : Int} (hn : now' = out ∨ now' = res + t) :
    Half hs n0 begin (max last (res + t)) now' (lim + d + 4) house (nj ++ nj2) (na ++ ⟨n0, g, out, res + t, n0 + nj.length⟩ :: na2) := by
  obtain ⟨⟨rest, rfl, hrest⟩, nb, nl, ll, ab, inc, top, cnt⟩ := h
  obtain ⟨⟨j0, r2, rfl, hj0, rfl⟩, jb, rb, ab2, inc2, cnt2⟩ := J
  have b0 := jb j0 List.mem_cons_self
  have ch2 : ∀ x ∈ na2, n0 + (⟨house, begin, begin⟩ :: rest : List WJ).length < x.ch := fun x m => (ab2 x m).ch.1
  refine ⟨⟨rest ++ j0 :: r2, rfl, fun j m => ?_⟩, ?_, ?_, ?_, fun x m => ?_, ?_, fun x m => ?_, ?_⟩
  · rcases List.mem_append.mp m with m | m
    · have := hrest j m
      exact ⟨this.1, this.2.1, this.2.2.1, by omega⟩
    · have := jb j m
      exact ⟨this.1, by omega, this.2.2.1, by omega⟩
  · omega
  · omega
  · omega
  · rcases List.mem_append.mp m with m | m
    · rcases ab x m with ⟨e, g1, o1, o2, o3, c1⟩ | ⟨e, a1⟩
      · exact .inl ⟨e, g1, o1, o2, by omega, c1.app _⟩
      · exact .inr ⟨e, a1.app _⟩
    · rcases List.mem_cons.mp m with e | m
      · subst e
        refine .inl ⟨rfl, hg, by show begin < out; omega, by show out ≤ j0.e + t; omega, by show j0.e + t ≤ max last (j0.e + t); omega, ?_, ?_, j0, ?_, hj0, b0.2.1, by show j0.e ≤ j0.e + t; omega⟩
        · show n0 < n0 + (rest.length + 1)
          omega
        · show n0 < n0 + (rest.length + 1)
          omega
        · exact get_shift (Nat.le_refl _) (by rw [Nat.sub_self]; rfl)
      · have a1 := ab2 x m
        have := a1.lo
        rw [List.length_cons] at this
        exact .inr ⟨by omega, a1.shift⟩
  · rw [List.map_append, List.map_cons]
    refine List.pairwise_append.mpr ⟨inc, List.pairwise_cons.mpr ⟨fun z m => ?_, inc2⟩, fun z m y m2 => ?_⟩
    · obtain ⟨x, mx, rfl⟩ := List.mem_map.mp m
      exact ch2 x mx
    · obtain ⟨x, mx, rfl⟩ := List.mem_map.mp m
      have h1 := top x mx
      rcases List.mem_cons.mp m2 with e | m2
      · subst e
        exact h1
      · obtain ⟨x2, mx2, rfl⟩ := List.mem_map.mp m2
        exact Nat.lt_trans h1 (ch2 x2 mx2)
  · rw [List.length_append]
    rcases List.mem_append.mp m with m | m
    · have := top x m
      omega
    · rcases List.mem_cons.mp m with e | m
      · subst e
        show n0 + (rest.length + 1) < n0 + ((rest.length + 1) + (r2.length + 1))
        omega
      · obtain ⟨c1, c2, j', e', _⟩ := (ab2 x m).ch
        have := (List.getElem?_eq_some_iff.mp e').1
        omega
  · rw [List.length_append, List.length_append, List.length_cons]
    omega
/-! the job ends -/
theorem Half.done {hs : List Str} {n0 : Nat} {begin last now lim start t D : Int} {house : Str} {nj : List WJ} {na : List WA} (h : Half hs n0 begin last now lim house nj na) (hh : house ∈ hs) (sb : start ≤ begin) (t0 : 0 ≤ t) (hD : lim + 1 + t ≤ start + D) :
    ∃ rest, nj = ⟨house, begin, begin⟩ :: rest ∧ JobPost hs n0 start D house (⟨house, begin, last + (if last > begin then 1 else 0) + t⟩ :: rest) na (last + (if last > begin then 1 else 0) + t) := by
  obtain ⟨⟨rest, rfl, hrest⟩, nb, nl, ll, ab, inc, top, cnt⟩ := h
  have he : last ≤ last + (if last > begin then 1 else 0) + t := by split <;> omega
  have hu : last + (if last > begin then 1 else 0) + t ≤ lim + 1 + t := by split <;> omega
  have chO : ∀ x : WA, ChildOk n0 (⟨house, begin, begin⟩ :: rest) x → ChildOk n0 (⟨house, begin, last + (if last > begin then 1 else 0) + t⟩ :: rest) x := by
    rintro x ⟨c1, c2, j, e, r⟩
    refine ⟨c1, c2, j, ?_, r⟩
    obtain ⟨k, hk⟩ : ∃ k, x.ch - n0 = k + 1 := ⟨x.ch - n0 - 1, by omega⟩
    rw [hk] at e ⊢
    exact e
  refine ⟨rest, rfl, ⟨_, rest, rfl, rfl, rfl⟩, fun j m => ?_, by omega, fun x m => ?_, inc, cnt⟩
  · rcases List.mem_cons.mp m with e | m
    · subst e
      exact ⟨hh, sb, by show begin ≤ last + (if last > begin then 1 else 0) + t; omega, Int.le_refl _⟩
    · have := hrest j m
      exact ⟨this.1, by omega, this.2.2.1, by omega⟩
  · rcases ab x m with ⟨e, g1, o1, o2, o3, c1⟩ | ⟨e, ⟨g1, lo, ⟨j, ej, r⟩, c1⟩⟩
    · refine ⟨g1, by omega, ⟨⟨house, begin, last + (if last > begin then 1 else 0) + t⟩, ?_, o1, o2, ?_⟩, chO x c1⟩
      · rw [e, Nat.sub_self]
        rfl
      · show x.k < last + (if last > begin then 1 else 0) + t
        rw [if_pos (by omega)]
        omega
    · refine ⟨g1, lo, ⟨j, ?_, r⟩, chO x c1⟩
      obtain ⟨k, hk⟩ : ∃ k, x.pl - n0 = k + 1 := ⟨x.pl - n0 - 1, by omega⟩
      rw [hk] at ej ⊢
      exact ej
/-! ### worlds on the heap -/
def Fr (p lj la : Addr) (H H' : Hp) : Prop := ∀ b o, b ≠ p → b ≠ lj → b ≠ la → H b = some o → H' b = some o
structure Apart (p c lj la : Addr) (rs qs : List Addr) : Prop where
  jl : lj ≠ la
  cj : c ≠ lj
  ca : c ≠ la
  pj : p ≠ lj
  pa : p ≠ la
  rn : rs.Nodup
  qn : qs.Nodup
theorem Fr.refl {p lj la : Addr} {H : Hp} : Fr p lj la H H := fun _ _ _ _ _ e => e
theorem Fr.trans {p lj la : Addr} {H H1 H2 : Hp} (a : Fr p lj la H H1) (b : Fr p lj la H1 H2) : Fr p lj la H H2 := fun x o h1 h2 h3 e => b x o h1 h2 h3 (a x o h1 h2 h3 e)
theorem Fr.stp {p c lj la : Addr} {H H1 : Hp} (s : Stp p c H H1) : Fr p lj la H H1 := fun x o h1 _ _ e => s.2 x o h1 e
theorem Fr.same {p lj la : Addr} {H H1 : Hp} (s : Same H H1) : Fr p lj la H H1 := fun x o _ _ _ e => s x o e
theorem cell_ne {H : Hp} {a b : Addr} {xs ys : List V} (ha : H a = some (.lst xs)) (hb : H b = some (.lst ys)) (h : xs ≠ ys) : a ≠ b := ne_of ha hb fun z => h (HO.lst.inj z)
theorem jv_ne {j : WJ} {v : V} {vs : List V} (h : ∀ x, v ≠ .str x) : j.v ≠ v :: vs := fun z => h _ (List.cons.inj z).1.symm
theorem av_ne {x : WA} {v : V} {vs : List V} (h : ∀ i, v ≠ .int i) : x.v ≠ v :: vs := fun z => h _ (List.cons.inj z).1.symm
theorem jv_av {j : WJ} {x : WA} : j.v ≠ x.v := fun z => by cases (List.cons.inj z).1
theorem refs_jv {rs : List Addr} {j : WJ} : rs.map V.ref ≠ j.v := by
  cases rs with
  | nil => exact fun z => nomatch z
  | cons r rs => exact fun z => by cases (List.cons.inj z).1
theorem refs_av {rs : List Addr} {x : WA} : rs.map V.ref ≠ x.v := by
  cases rs with
  | nil => exact fun z => nomatch z
  | cons r rs => exact fun z => by cases (List.cons.inj z).1
theorem refs_w {rs : List Addr} {a b : Addr} {m : Int} : rs.map V.ref ≠ [.ref a, .ref b, .int m] := by
  match rs with
  | [] => exact fun z => nomatch z
  | [r] => exact fun z => nomatch (List.cons.inj z).2
  | [r, s] => exact fun z => nomatch (List.cons.inj (List.cons.inj z).2).2
  | r :: s :: u :: v => exact fun z => by cases (List.cons.inj (List.cons.inj (List.cons.inj z).2).2).1
/-! any step that keeps all but p, when p is the pen -/
theorem Cells.keep {A : Type} {f : A → List V} {H H' : Hp} {rs : List Addr} {xs : List A} (h : Cells f H rs xs) (k : ∀ (i : Nat) (r : Addr) (x : A), rs[i]? = some r → xs[i]? = some x → H r = some (.lst (f x)) → H' r = some (.lst (f x))) : Cells f H' rs xs := ⟨h.1, fun i r x e1 e2 => k i r x e1 e2 (h.2 i r x e1 e2)⟩
theorem Cells.snoc {A : Type} {f : A → List V} {H : Hp} {rs : List Addr} {xs : List A} {r : Addr} {x : A} (h : Cells f H rs xs) (hr : H r = some (.lst (f x))) : Cells f H (rs ++ [r]) (xs ++ [x]) := by
  refine ⟨by rw [List.length_append, List.length_append, h.1]; rfl, fun i r' x' e1 e2 => ?_⟩
  by_cases hi : i < rs.length
  · rw [List.getElem?_append_left hi] at e1
    rw [List.getElem?_append_left (by rw [← h.1]; exact hi)] at e2
    exact h.2 i r' x' e1 e2
  · rw [List.getElem?_append_right (by omega)] at e1
    rw [List.getElem?_append_right (by rw [← h.1]; omega), ← h.1] at e2
    cases hk : i - rs.length with
    | zero =>
      rw [hk] at e1 e2
      obtain rfl := Option.some.inj e1
      obtain rfl := Option.some.inj e2
      exact hr
    | succ k =>
      rw [hk] at e1
      cases e1
theorem WorldAt.stp {p c w lj la : Addr} {H H' : Hp} {rs qs : List Addr} {js : List WJ} {as : List WA} {most : Int} (h : WorldAt H w lj la rs qs js as most) (hP : Pen H p c) (s : Stp p c H H') (ap : Apart p c lj la rs qs) : WorldAt H' w lj la rs qs js as most := by
  obtain ⟨cs, n, st, h1, _⟩ := hP
  refine ⟨s.2 _ _ (cell_ne h.w h1 fun z => by cases (List.cons.inj (List.cons.inj z).2).1) h.w, s.2 _ _ (Ne.symm ap.pj) h.j, s.2 _ _ (Ne.symm ap.pa) h.a, h.cj.keep fun i r x _ _ e => s.2 _ _ (cell_ne e h1 (jv_ne fun x z => by cases z)) e, h.ca.keep fun i r x _ _ e => s.2 _ _ (cell_ne e h1 (av_ne fun x z => by cases z)) e, h.pl⟩
theorem WorldAt.addJ {w lj la r : Addr} {H : Hp} {rs qs : List Addr} {js : List WJ} {as : List WA} {most : Int} {j : WJ} (h : WorldAt H w lj la rs qs js as most) (hjl : lj ≠ la) (nr : H r = none) : WorldAt (upd (upd H r (.lst j.v)) lj (.lst (rs.map V.ref ++ [.ref r]))) w lj la (rs ++ [r]) qs (js ++ [j]) as most := by
  have s := same_upd (o := .lst j.v) nr
  have rl : r ≠ lj := fun e => ne_of_none h.j nr e.symm
  refine ⟨?_, ?_, ?_, ?_, ?_, fun x m => ?_⟩
  · rw [upd_ne (cell_ne h.w h.j fun z => refs_w z.symm)]
    exact s _ _ h.w
  · rw [upd_same, List.map_append]
    rfl
  · rw [upd_ne (Ne.symm hjl)]
    exact s _ _ h.a
  · refine Cells.snoc (h.cj.keep fun i r' x _ _ e => ?_) ?_
    · rw [upd_ne (cell_ne e h.j fun z => refs_jv z.symm)]
      exact s _ _ e
    · rw [upd_ne rl, upd_same]
  · refine h.ca.keep fun i r' x _ _ e => ?_
    rw [upd_ne (cell_ne e h.j fun z => refs_av z.symm)]
    exact s _ _ e
  · rw [List.length_append]
    exact Nat.lt_of_lt_of_le (h.pl x m) (Nat.le_add_right _ _)
theorem WorldAt.addA {w lj la r : Addr} {H : Hp} {rs qs : List Addr} {js : List WJ} {as : List WA} {most : Int} {x : WA} (h : WorldAt H w lj la rs qs js as most) (hjl : lj ≠ la) (hr : H r = some (.lst x.v)) (hp : x.pl < js.length) : WorldAt (upd H la (.lst (qs.map V.ref ++ [.ref r]))) w lj la rs (qs ++ [r]) js (as ++ [x]) most := by
  refine ⟨?_, ?_, ?_, ?_, ?_, fun y m => ?_⟩
  · rw [upd_ne (cell_ne h.w h.a fun z => refs_w z.symm)]
    exact h.w
  · rw [upd_ne hjl]
    exact h.j
  · rw [upd_same, List.map_append]
    rfl
  · refine h.cj.keep fun i r' x _ _ e => ?_
    rw [upd_ne (cell_ne e h.a fun z => refs_jv z.symm)]
    exact e
  · refine Cells.snoc (h.ca.keep fun i r' x _ _ e => ?_) ?_
    · rw [upd_ne (cell_ne e h.a fun z => refs_av z.symm)]
      exact e
    · rw [upd_ne (cell_ne hr h.a fun z => refs_av z.symm)]
      exact hr
  · rcases List.mem_append.mp m with m | m
    · exact h.pl y m
    · rw [List.mem_singleton.mp m]
      exact hp
theorem Cells.put {A : Type} {f : A → List V} {H : Hp} {rs : List Addr} {xs : List A} {r : Addr} {x : A} {k : Nat} (h : Cells f H rs xs) (nd : rs.Nodup) (hr : rs[k]? = some r) : Cells f (upd H r (.lst (f x))) rs (xs.set k x) := by
  refine ⟨by rw [List.length_set]; exact h.1, fun i r' x' e1 e2 => ?_⟩
  by_cases hi : i = k
  · subst hi
    obtain rfl : r = r' := Option.some.inj (hr.symm.trans e1)
    have hk : i < xs.length := by rw [← h.1]; exact (List.getElem?_eq_some_iff.mp e1).1
    rw [List.getElem?_set_self hk] at e2
    rw [upd_same, Option.some.inj e2]
  · rw [List.getElem?_set_ne (Ne.symm hi)] at e2
    have hne : r' ≠ r := fun z => by
      subst z
      obtain ⟨a1, a2⟩ := List.getElem?_eq_some_iff.mp e1
      obtain ⟨b1, b2⟩ := List.getElem?_eq_some_iff.mp hr
      exact hi ((List.getElem_inj nd).mp (a2.trans b2.symm))
    rw [upd_ne hne]
    exact h.2 i r' x' e1 e2
theorem WorldAt.setJ {w lj la r : Addr} {H : Hp} {rs qs : List Addr} {js : List WJ} {as : List WA} {most : Int} {j j0 : WJ} {k : Nat} (h : WorldAt H w lj la rs qs js as most) (nd : rs.Nodup) (hr : rs[k]? = some r) (hj : js[k]? = some j0) : WorldAt (upd H r (.lst j.v)) w lj la rs qs (js.set k j) as most := by
  have hH := h.cj.2 k r j0 hr hj
  refine ⟨?_, ?_, ?_, h.cj.put nd hr, ?_, fun x m => ?_⟩
  · rw [upd_ne (cell_ne h.w hH fun z => jv_ne (fun x z => by cases z) z.symm)]
    exact h.w
  · rw [upd_ne (cell_ne h.j hH refs_jv)]
    exact h.j
  · rw [upd_ne (cell_ne h.a hH refs_jv)]
    exact h.a
  · refine h.ca.keep fun i r' x _ _ e => ?_
    rw [upd_ne (cell_ne e hH fun z => jv_av z.symm)]
    exact e
  · rw [List.length_set]
    exact h.pl x m
theorem WorldAt.setA {w lj la r : Addr} {H : Hp} {rs qs : List Addr} {js : List WJ} {as : List WA} {most : Int} {x x0 : WA} {k : Nat} (h : WorldAt H w lj la rs qs js as most) (nd : qs.Nodup) (hr : qs[k]? = some r) (hx : as[k]? = some x0) (hp : x.pl = x0.pl) : WorldAt (upd H r (.lst x.v)) w lj la rs qs js (as.set k x) most := by
  have hH := h.ca.2 k r x0 hr hx
  refine ⟨?_, ?_, ?_, ?_, h.ca.put nd hr, fun y m => ?_⟩
  · rw [upd_ne (cell_ne h.w hH fun z => av_ne (fun x z => by cases z) z.symm)]
    exact h.w
  · rw [upd_ne (cell_ne h.j hH refs_av)]
    exact h.j
  · rw [upd_ne (cell_ne h.a hH refs_av)]
    exact h.a
  · refine h.cj.keep fun i r' y _ _ e => ?_
    rw [upd_ne (cell_ne e hH jv_av)]
    exact e
  · rcases List.mem_or_eq_of_mem_set m with m | e
    · exact h.pl y m
    · rw [e, hp]
      exact h.pl x0 (List.mem_of_getElem? hx)
theorem Pen.put {p c l : Addr} {H : Hp} {o : HO} (h : Pen H p c) (hp : p ≠ l) (hc : c ≠ l) : Pen (upd H l o) p c := by
  obtain ⟨cs, n, st, h1, h2, h3, h4⟩ := h
  exact ⟨cs, n, st, by rw [upd_ne hp]; exact h1, by rw [upd_ne hc]; exact h2, h3, h4⟩
theorem Cells.nin {A : Type} {f : A → List V} {H : Hp} {rs : List Addr} {xs : List A} {r : Addr} (h : Cells f H rs xs) (nr : H r = none) : r ∉ rs := fun m => by
  obtain ⟨i, hi, e⟩ := List.getElem_of_mem m
  have hi' : i < xs.length := by rw [← h.1]; exact hi
  have := h.2 i r xs[i] (by rw [List.getElem?_eq_getElem hi, e]) (List.getElem?_eq_getElem hi')
  rw [nr] at this
  cases this
theorem nodup_snoc {rs : List Addr} {r : Addr} (nd : rs.Nodup) (h : r ∉ rs) : (rs ++ [r]).Nodup := List.nodup_append.mpr ⟨nd, List.pairwise_singleton _ _, fun a ha b hb e => h (by rw [List.mem_singleton.mp hb] at e; rw [← e]; exact ha)⟩
theorem nA_more (js more : List WJ) (as : List WA) (h : Str) (hp : ∀ x ∈ as, x.pl < js.length) : nA (js ++ more) as h = nA js as h := nA_congr as h fun x m => by rw [List.map_append, List.getElem?_append_left (by rw [List.length_map]; exact hp x m)]
theorem Pen.cellJ {p c r : Addr} {H : Hp} {j : WJ} {o : HO} (h : Pen H p c) (hr : H r = some (.lst j.v)) : Pen (upd H r o) p c := by
  have h' := h
  obtain ⟨cs, n, st, h1, h2, _⟩ := h'
  refine h.put (Ne.symm (cell_ne hr h1 (jv_ne fun x z => by cases z))) (Ne.symm (cell_ne hr h2 ?_))
  cases cs with
  | nil => exact fun z => nomatch z
  | cons x xs => exact fun z => by cases (List.cons.inj z).1
theorem Pen.cellA {p c r : Addr} {H : Hp} {x : WA} {o : HO} (h : Pen H p c) (hr : H r = some (.lst x.v)) : Pen (upd H r o) p c := by
  have h' := h
  obtain ⟨cs, n, st, h1, h2, _⟩ := h'
  refine h.put (Ne.symm (cell_ne hr h1 (av_ne fun x z => by cases z))) (Ne.symm (cell_ne hr h2 ?_))
  match cs with
  | [] => exact fun z => nomatch z
  | [y] => exact fun z => nomatch (List.cons.inj z).2
  | y :: z :: ys => exact fun z => by cases (List.cons.inj (List.cons.inj z).2).1
theorem set_at {A : Type} (xs ys : List A) (y z : A) : (xs ++ y :: ys).set xs.length z = xs ++ z :: ys := by
  rw [List.set_append_right _ _ (Nat.le_refl _), Nat.sub_self]
  rfl
theorem get_at {A : Type} (xs ys : List A) (y : A) : (xs ++ y :: ys)[xs.length]? = some y := by
  rw [List.getElem?_append_right (Nat.le_refl _), Nat.sub_self]
  rfl
def Fresh (H : Hp) (l : List Addr) : Prop := ∀ r ∈ l, H r = none
theorem Fresh.back {p c lj la : Addr} {H H1 : Hp} {l : List Addr} {xs ys : List V} (f : Fresh H1 l) (fr : Fr p lj la H H1) (hP : Pen H1 p c) (hj : H1 lj = some (.lst xs)) (ha : H1 la = some (.lst ys)) : Fresh H l := fun r m => by
  have n1 := f r m
  cases e : H r with
  | none => rfl
  | some o =>
    have k1 : r ≠ p := fun z => hP.neP n1 z.symm
    have k2 : r ≠ lj := fun z => ne_of_none hj n1 z.symm
    have k3 : r ≠ la := fun z => ne_of_none ha n1 z.symm
    rw [fr r o k1 k2 k3 e] at n1
    cases n1
theorem Fr.town {p c lj la t : Addr} {H H1 : Hp} {hs gs : List Str} {xs ys : List V} (fr : Fr p lj la H H1) (hP : Pen H p c) (hj : H lj = some (.lst xs)) (ha : H la = some (.lst ys)) (ht : TownAt H t hs gs) : TownAt H1 t hs gs := by
  have key : ∀ (b : Addr) (zs : List V), H b = some (.tup zs) → H1 b = some (.tup zs) := fun b zs e => fr b _ (hP.tup e) (ne_of e hj fun z => nomatch z) (ne_of e ha fun z => nomatch z) e
  obtain ⟨ta, tb, t1, t2, t3⟩ := ht
  exact ⟨ta, tb, key _ _ t1, key _ _ t2, key _ _ t3⟩
theorem Half.up {hs : List Str} {n0 : Nat} {begin last now lim lim' : Int} {house : Str} {nj : List WJ} {na : List WA} (h : Half hs n0 begin last now lim house nj na) (l : lim ≤ lim') : Half hs n0 begin last now lim' house nj na := ⟨h.hd, h.nb, h.nl, Int.le_trans h.ll l, h.ab, h.inc, h.top, h.cnt⟩
theorem Pen.sm {p c : Addr} {H H' : Hp} (h : Pen H p c) (s : Same H H') : Pen H' p c := by
  obtain ⟨cs, n, st, h1, h2, h3, h4⟩ := h
  exact ⟨cs, n, st, s _ _ h1, s _ _ h2, h3, h4⟩
theorem nA_swap (js : List WJ) (as1 as2 : List WA) {x x' : WA} (h : Str) (e : x.pl = x'.pl) : nA js (as1 ++ x :: as2) h = nA js (as1 ++ x' :: as2) h := by
  have eo : x.of js h = x'.of js h := by
    unfold WA.of
    rw [e]
  unfold nA
  rw [List.filter_append, List.filter_append, List.length_append, List.length_append, List.filter_cons, List.filter_cons, eo]
  split <;> rfl
/-! ### a job -/
def Cnt (js : List WJ) (as : List WA) : Prop := ∀ h, nJ js h ≤ 15 ∧ nA js as h ≤ 15
def sp_job (n : Nat) : Sp := fun vs H Q _ => ∃ (p c w lj la t : Addr) (hs gs : List Str) (rs qs : List Addr) (js : List WJ) (as : List WA) (most : Int) (house : Str) (start : Int) (deep : Nat), vs = [.ref p, .ref w, .ref t, .str house, .int start, .int (deep : Nat)] ∧ deep < n ∧
  Pen H p c ∧ TownAt H t hs gs ∧ 1 ≤ hs.length ∧ hs.length ≤ 6 ∧ WorldAt H w lj la rs qs js as most ∧ Apart p c lj la rs qs ∧ house ∈ hs ∧ (js.length : Int) < most ∧ most ≤ 100 ∧ as.length ≤ js.length ∧ Cnt js as ∧ nJ js house < 15 ∧
  ∀ (nr nq : List Addr) (nj : List WJ) (na : List WA) (res : Int) (H' : Hp), Fr p lj la H H' → Fresh H (nr ++ nq) → Pen H' p c → WorldAt H' w lj la (rs ++ nr) (qs ++ nq) (js ++ nj) (as ++ na) most → Apart p c lj la (rs ++ nr) (qs ++ nq) → JobPost hs js.length start (Dn deep) house nj na res → Cnt (js ++ nj) (as ++ na) → ((js ++ nj).length : Int) ≤ most → Q (.int res) H'
theorem ok_job_n (T : Txt K mg af fd) : ∀ n : Nat, FnOk P w K mg base CX0 (n + 3) (af 46) (fd 46) ["pen", "world", "town", "house", "start", "deep"] (sp_job n) := by
  intro n
  induction n with
  | zero => exact ⟨fun vs H Q E ⟨_, _, _, _, _, _, _, _, _, _, _, _, _, _, _, _, _, h, _⟩ => absurd h (Nat.not_lt_zero _), fun A outer s H args us vs Q E hr he hb hv ⟨_, _, _, _, _, _, _, _, _, _, _, _, _, _, _, _, _, h, _⟩ => absurd h (Nat.not_lt_zero _)⟩
  | succ n ih =>
    refine T.F_l_job.ok sc_l_job (fun vs H Q E h => ?_) (fun cdv A outer s H vs Q E hr h => ?_)
    · obtain ⟨p, c, w, lj, la, t, hs, gs, rs, qs, js, as, most, house, start, deep, rfl, _⟩ := h
      rfl
    · obtain ⟨p, c, w, lj, la, t, hs, gs, rs, qs, js, as, most, house, start, deep, rfl, hdn, hP, ht, l1, l6, W, ap, hh, hm, hm100, hal, hC, hJ, q⟩ := h
      refine ⟨_, (pss_cons (ps_set (i := 6) sc_l_job.nd rfl (by first | exact Or.inl rfl | exact Or.inr rfl) (pe_callB call_len_seq (by rfl) T.m_len (by decide +kernel) (pa_cons (pe_ix ix_list (pv 1) pe_int (fun _ _ => rfl)) pa_nil)))
        (pss_cons (ps_set (i := 7) sc_l_job.nd rfl (by first | exact Or.inl rfl | exact Or.inr rfl) (pe_op op_add (pv 4) (pe_call (ok_l_take T) (hr.mono (by first | decide | omega)) (by rfl) T.g_l_take T.F_l_take.kp T.b_l_take .nil pass0 (pa_cons (pv 0) (pa_cons pe_int pa_nil)))))
        (pss_cons (ps_set (i := 8) sc_l_job.nd rfl (by first | exact Or.inl rfl | exact Or.inr rfl) (pv 7))
        (pss_cons (ps_set (i := 9) sc_l_job.nd rfl (by first | exact Or.inl rfl | exact Or.inr rfl) (pv 7))
        (pss_cons (ps_expr (pe_bm PySem.F.plainAttrs_list PySem.F.slot_list_append PySem.F.type_list_append mt_append (pe_ix ix_list (pv 1) pe_int (fun _ _ => rfl)) (pa_cons (pe_lst (pa_cons (pv 3) (pa_cons (pv 7) (pa_cons (pv 7) pa_nil)))) pa_nil)))
        (pss_cons (ps_for PassesOwn.never rfl (pi_range1 (by rfl) T.m_range (pa_cons (pe_op op_mul (pe_call (ok_l_take T) (hr.mono (by first | decide | omega)) (by rfl) T.g_l_take T.F_l_take.kp T.b_l_take .nil pass0 (pa_cons (pv 0) (pa_cons pe_int pa_nil))) (pe_callTy call_int1 (by rfl) T.m_int (by decide +kernel) (pa_cons (pe_cmpR op_gt (pv 5) pe_int (nomark _)) pa_nil))) pa_nil)) (pg_name (i := 10) sc_l_job.nd rfl (by first | exact Or.inl rfl | exact Or.inr rfl)) (pss_cons (ps_set (i := 11) sc_l_job.nd rfl (by first | exact Or.inl rfl | exact Or.inr rfl) (pe_ix ix_tup (pe_ix ix_tup (pv 2) pe_int (fun _ _ => rfl)) (pe_call (ok_l_take T) (hr.mono (by first | decide | omega)) (by rfl) T.g_l_take T.F_l_take.kp T.b_l_take .nil pass0 (pa_cons (pv 0) (pa_cons (pe_callB call_len_seq (by rfl) T.m_len (by decide +kernel) (pa_cons (pe_ix ix_tup (pv 2) pe_int (fun _ _ => rfl)) pa_nil)) pa_nil))) (fun _ _ => rfl)))
        (pss_one (ps_if (pt_val (pe_call (ok_l_room T) (hr.mono (by first | decide | omega)) (by rfl) T.g_l_room T.F_l_room.kp T.b_l_room .nil pass0 (pa_cons (pv 1) (pa_cons (pv 3) (pa_cons (pv 11) pa_nil))))) (pss_cons (ps_set (i := 12) sc_l_job.nd rfl (by first | exact Or.inl rfl | exact Or.inr rfl) (pe_op op_add (pe_op op_add (pv 9) pe_int) (pe_call (ok_l_take T) (hr.mono (by first | decide | omega)) (by rfl) T.g_l_take T.F_l_take.kp T.b_l_take .nil pass0 (pa_cons (pv 0) (pa_cons pe_int pa_nil)))))
        (pss_cons (ps_set (i := 13) sc_l_job.nd rfl (by first | exact Or.inl rfl | exact Or.inr rfl) (pe_lst (pa_cons (pv 6) (pa_cons (pv 11) (pa_cons (pv 12) (pa_cons (pv 12) (pa_cons (pe_callB call_len_seq (by rfl) T.m_len (by decide +kernel) (pa_cons (pe_ix ix_list (pv 1) pe_int (fun _ _ => rfl)) pa_nil)) pa_nil)))))))
        (pss_cons (ps_expr (pe_bm PySem.F.plainAttrs_list PySem.F.slot_list_append PySem.F.type_list_append mt_append (pe_ix ix_list (pv 1) pe_int (fun _ _ => rfl)) (pa_cons (pv 13) pa_nil)))
        (pss_cons (ps_asg (pe_op op_add (pe_call ih (hr.mono (by omega)) (by rfl) T.g_l_job T.F_l_job.kp T.b_l_job .nil pass0 (pa_cons (pv 0) (pa_cons (pv 1) (pa_cons (pv 2) (pa_cons (pv 11) (pa_cons (pv 12) (pa_cons (pe_op op_sub (pv 5) pe_int) pa_nil))))))) (pe_call (ok_l_take T) (hr.mono (by first | decide | omega)) (by rfl) T.g_l_take T.F_l_take.kp T.b_l_take .nil pass0 (pa_cons (pv 0) (pa_cons pe_int pa_nil)))) (pg_sub (pv 13) pe_int set_list))
        (pss_cons (ps_set (i := 8) sc_l_job.nd rfl (by first | exact Or.inl rfl | exact Or.inr rfl) (pe_callB (call_max2 rfl) (by rfl) T.m_max (by decide +kernel) (pa_cons (pv 8) (pa_cons (pe_ix ix_list (pv 13) pe_int (fun _ _ => rfl)) pa_nil))))
        (pss_one (ps_set (i := 9) sc_l_job.nd rfl (by first | exact Or.inl rfl | exact Or.inr rfl) (pe_ix ix_list (pe_lst (pa_cons (pv 12) (pa_cons (pe_ix ix_list (pv 13) pe_int (fun _ _ => rfl)) pa_nil))) (pe_call (ok_l_take T) (hr.mono (by first | decide | omega)) (by rfl) T.g_l_take T.F_l_take.kp T.b_l_take .nil pass0 (pa_cons (pv 0) (pa_cons pe_int pa_nil))) (fun _ _ => rfl))))))))) pss_nil))))
        (pss_cons (ps_asg (pe_op op_add (pe_op op_add (pv 8) (pe_callTy call_int1 (by rfl) T.m_int (by decide +kernel) (pa_cons (pe_cmpR op_gt (pv 8) (pv 7) (nomark _)) pa_nil))) (pe_call (ok_l_take T) (hr.mono (by first | decide | omega)) (by rfl) T.g_l_take T.F_l_take.kp T.b_l_take .nil pass0 (pa_cons (pv 0) (pa_cons pe_int pa_nil)))) (pg_sub (pe_ix ix_list (pe_ix ix_list (pv 1) pe_int (fun _ _ => rfl)) (pv 6) (fun _ _ => rfl)) pe_int set_list))
        (pss_one (ps_ret (pe_ix ix_list (pe_ix ix_list (pe_ix ix_list (pv 1) pe_int (fun _ _ => rfl)) (pv 6) (fun _ _ => rfl)) pe_int (fun _ _ => rfl))))))))))), ?_⟩
      have hlr : (rs.map V.ref).length = js.length := by rw [List.length_map]; exact W.cj.1
      refine ⟨_, rfl, w, _, 0, _, rfl, rfl, SqL.of W.w, rfl, lj, _, rfl, .inl (SqL.of W.j), ?_⟩
      rw [hlr]
      refine ⟨_, rfl, _, rfl, p, c, 3, rfl, hP, by decide, by decide, fun r1 H1 r10 r11 s1 => ⟨_, _, rfl, rfl, ?_⟩⟩
      have W1 := W.stp hP s1 ap
      refine ⟨_, rfl, _, rfl, ?_⟩
      refine ⟨_, rfl, w, _, 0, _, rfl, rfl, SqL.of W1.w, rfl, .inl ⟨rfl, _, SqL.of W1.j⟩, _, rfl, _, rfl, _, rfl, (by show 3 ≤ sizeLine; decide), fun r nr => ⟨lj, _, _, rfl, rfl, same_upd nr _ _ W1.j, small1000 (by omega), ?_⟩⟩
      have W2 := W1.addJ (j := ⟨house, start + r1, start + r1⟩) ap.jl nr
      have hP2 : Pen (upd (upd H1 r (.lst (WJ.v ⟨house, start + r1, start + r1⟩))) lj (.lst (rs.map V.ref ++ [.ref r]))) p c := ((s1.1).put (s1.1.neP nr) (s1.1.neC nr)).put ap.pj ap.cj
      have fr2 : Fr p lj la H (upd (upd H1 r (.lst (WJ.v ⟨house, start + r1, start + r1⟩))) lj (.lst (rs.map V.ref ++ [.ref r]))) := fun b o hbp hbj hba e => by
        rw [upd_ne hbj]
        exact same_upd nr _ _ (s1.2 b o hbp e)
      have ap2 : Apart p c lj la (rs ++ [r]) qs := ⟨ap.jl, ap.cj, ap.ca, ap.pj, ap.pa, nodup_snoc ap.rn (W1.cj.nin nr), ap.qn⟩
      show tSeq _ _ _ _ (upd (upd H1 r (.lst (WJ.v ⟨house, start + r1, start + r1⟩))) lj (.lst (rs.map V.ref ++ [.ref r])))
      generalize upd (upd H1 r (.lst (WJ.v ⟨house, start + r1, start + r1⟩))) lj (.lst (rs.map V.ref ++ [.ref r])) = H2 at W2 hP2 fr2 ⊢
      refine ⟨_, rfl, p, c, 4, rfl, hP2, by decide, by decide, fun m H3 m0 m1 s3 => ?_⟩
      refine ⟨_, rfl, _, _, rfl, rfl, .inr ⟨_, rfl, _, _, rfl, rfl, .inl ⟨by omega, by omega⟩, ?_⟩⟩
      have ht3 : TownAt H3 t hs gs := by
        obtain ⟨ta, tb, t1, t2, t3⟩ := s1.town hP ht
        have key : ∀ (b : Addr) (xs : List V), H b = some (.tup xs) → H3 b = some (.tup xs) := fun b xs e => s3.tup hP2 (fr2 b _ (hP.tup e) (ne_of e W.j fun z => nomatch z) (ne_of e W.a fun z => nomatch z) e)
        obtain ⟨ta, tb, t1, t2, t3⟩ := ht
        exact ⟨ta, tb, key _ _ t1, key _ _ t2, key _ _ t3⟩
      have W3 := W2.stp hP2 s3 ap2
      have cnt0 : Cnt (js ++ [⟨house, start + r1, start + r1⟩]) as := fun h => ⟨by
        rw [nJ_snoc]
        by_cases e : house = h
        · subst e
          rw [if_pos rfl]
          omega
        · rw [if_neg e]
          exact (hC h).1, by
        rw [nA_more _ _ _ _ W.pl]
        exact (hC h).2⟩
      have nar : ∀ deep' : Nat, (Dn deep' : Int) ≥ 4 := fun d => by
        induction d with
        | zero => exact (by decide : (5 : Int) ≥ 4)
        | succ d ihd => show 3 * Dn d + 17 ≥ 4; omega
      refine ⟨_, rfl, ?_, ?_, for_range (lo := 0) (n := (m * (if decide ((0 : Int) < (deep : Nat)) = true then 1 else 0)).toNat) (fun i σ H' => ∃ (last now : Int), (∃ v10 v11 v12 v13 : Option V, σ = [some (.ref p), some (.ref w), some (.ref t), some (.str house), some (.int start), some (.int (deep : Nat)), some (.int (js.length : Nat)), some (.int (start + r1)), some (.int last), some (.int now), v10, v11, v12, v13]) ∧
          ∃ nr nq nj na, Fr p lj la H H' ∧ Fresh H (nr ++ nq) ∧ Pen H' p c ∧ WorldAt H' w lj la (rs ++ nr) (qs ++ nq) (js ++ nj) (as ++ na) most ∧ Apart p c lj la (rs ++ nr) (qs ++ nq) ∧ Half hs js.length (start + r1) last now (start + r1 + (i : Nat) * (Dn (deep - 1) + 4)) house nj na ∧ Cnt (js ++ nj) (as ++ na) ∧ ((js ++ nj).length : Int) ≤ most)
        ⟨start + r1, start + r1, ⟨none, none, none, none, rfl⟩, [r], [], [_], [], fr2.trans (Fr.stp s3), (fun z mz => by rw [List.append_nil] at mz; rw [List.mem_singleton.mp mz]; exact s1.back hP nr), s3.1, by rw [List.append_nil, List.append_nil]; exact W3, by rw [List.append_nil]; exact ap2, ?_, by rw [List.append_nil]; exact cnt0, ?_⟩ ?_ ?_⟩
      · split <;> omega
      · split <;> omega
      · have h := half_new (hs := hs) (n0 := js.length) (begin := start + r1) (house := house)
        rw [show start + r1 + ((0 : Nat) : Int) * (Dn (deep - 1) + 4) = start + r1 by omega]
        exact h
      · rw [List.length_append]
        show ((js.length + 1 : Nat) : Int) ≤ most
        omega
      · rintro i σ G hi ⟨last, now, ⟨v10, v11, v12, v13, rfl⟩, nr', nq, nj, na, fr, frs, hPG, WG, apG, hH, cG, lG⟩
        have hdp : 0 < deep := by
          rcases Nat.eq_zero_or_pos deep with e | e
          · subst e
            simp at hi
          · exact e
        have D4 := nar (deep - 1)
        have estep : start + r1 + ((i + 1 : Nat) : Int) * (Dn (deep - 1) + 4) = start + r1 + (i : Nat) * (Dn (deep - 1) + 4) + Dn (deep - 1) + 4 := by
          rw [Int.natCast_add, Int.add_mul]
          show start + r1 + (_ + 1 * (Dn (deep - 1) + 4)) = _
          omega
        obtain ⟨ta, tb, t1, t2, t3⟩ := fr.town hP W.j W.a ht
        have lb : 0 < ((hs.map V.str).length : Int) := by rw [List.length_map]; omega
        have lc : ((hs.map V.str).length : Int).natAbs < 2 ^ 100 := by
          rw [List.length_map]
          exact Nat.lt_of_le_of_lt (show _ ≤ 6 by omega) (by decide)
        have hcnt := hH.cnt
        have lJ : (js ++ nj).length = js.length + nj.length := List.length_append
        have lA : (as ++ na).length = as.length + na.length := List.length_append
        refine ⟨_, rfl, t, _, 0, _, rfl, rfl, SqT.of t1, rfl, _, rfl, _, rfl, t, _, 0, _, rfl, rfl, SqT.of t1, rfl, ta, _, rfl, .inr (SqT.of t2), p, c, _, rfl, hPG, lb, lc, fun z G1 z0 z1 s5 => ?_⟩
        obtain ⟨g, mg2, eg⟩ := pick_house z0 z1
        refine ⟨ta, _, z, _, rfl, rfl, SqT.of (s5.tup hPG t2), eg, ?_⟩
        have W5 := WG.stp hPG s5 apG
        refine ⟨_, rfl, _, rfl, _, rfl, w, lj, la, _, _, _, _, most, house, g, rfl, W5, by omega, by omega, fun b G2 g2 hb => ⟨b, rfl, ?_⟩⟩
        have W6 := W5.same g2
        have hP6 := s5.1.sm g2
        have fr6 := (fr.trans (Fr.stp s5)).trans (Fr.same g2)
        cases b with
        | false => exact iteF ⟨last, now, ⟨_, _, _, _, rfl⟩, nr', nq, nj, na, fr6, frs, hP6, W6, apG, hH.up (by omega), cG, lG⟩
        | true =>
          obtain ⟨ra, rj, rm⟩ := hb.mp rfl
          refine iteT ⟨_, rfl, _, _, rfl, rfl, _, rfl, p, c, 2, rfl, hP6, by decide, by decide, fun o2 G3 o20 o21 s6 => ⟨_, _, rfl, rfl, ?_⟩⟩
          have W7 := W6.stp hP6 s6 apG
          have fr7 := fr6.trans (Fr.stp s6)
          refine ⟨_, rfl, _, rfl, _, rfl, _, rfl, _, rfl, w, _, 0, _, rfl, rfl, SqL.of W7.w, rfl, lj, _, rfl, .inl (SqL.of W7.j), (by show 5 ≤ sizeLine; decide), fun qa nqa => ?_⟩
          have eln : ((rs ++ nr').map V.ref).length = (js ++ nj).length := by rw [List.length_map]; exact WG.cj.1
          rw [eln]
          obtain ⟨x, ex⟩ : ∃ x : WA, x = ⟨js.length, g, now + 1 + o2, now + 1 + o2, (js ++ nj).length⟩ := ⟨_, rfl⟩
          obtain ⟨G4, eG4, g4, hqa⟩ : ∃ G4, upd G3 qa (.lst x.v) = G4 ∧ Same G3 G4 ∧ G4 qa = some (.lst x.v) := ⟨_, rfl, same_upd nqa, upd_same⟩
          have eG4' : upd G3 qa (.lst [.int (js.length : Nat), .str g, .int (now + 1 + o2), .int (now + 1 + o2), .int ((js ++ nj).length : Nat)]) = G4 := by rw [← eG4, ex]; rfl
          dsimp only
          rw [eG4']
          have W8 := W7.same g4
          refine ⟨_, rfl, w, _, 1, _, rfl, rfl, SqL.of W8.w, rfl, .inl ⟨rfl, _, SqL.of W8.a⟩, _, rfl, la, _, _, rfl, rfl, W8.a, small1000 (by rw [List.length_map, WG.ca.1]; omega), ?_⟩
          have W9 := W8.addA apG.jl hqa (by rw [ex]; show js.length < (js ++ nj).length; omega)
          have hqn : qa ∉ qs ++ nq := W7.ca.nin nqa
          have ap9 : Apart p c lj la (rs ++ nr') (qs ++ nq ++ [qa]) := ⟨apG.jl, apG.cj, apG.ca, apG.pj, apG.pa, apG.rn, nodup_snoc apG.qn hqn⟩
          have hP9 : Pen (upd G4 la (.lst ((qs ++ nq).map V.ref ++ [.ref qa]))) p c := (s6.1.sm g4).put apG.pa apG.ca
          have fr9 : Fr p lj la H (upd G4 la (.lst ((qs ++ nq).map V.ref ++ [.ref qa]))) := fun b o h1 h2 h3 e => by
            rw [upd_ne h3]
            exact g4 _ _ (fr7 b o h1 h2 h3 e)
          have qaH : H qa = none := by
            have := Fresh.back (l := [qa]) (fun r m => by rw [List.mem_singleton.mp m]; exact nqa) fr7 s6.1 W7.j W7.a
            exact this qa List.mem_cons_self
          have hq9 : (upd G4 la (.lst ((qs ++ nq).map V.ref ++ [.ref qa]))) qa = some (.lst x.v) := by
            rw [upd_ne (cell_ne hqa W8.a fun z => refs_av z.symm)]
            exact hqa
          generalize upd G4 la (.lst ((qs ++ nq).map V.ref ++ [.ref qa])) = G5 at W9 hP9 fr9 hq9 ⊢
          have cnt9 : Cnt (js ++ nj) (as ++ na ++ [x]) := fun h => ⟨(cG h).1, by
            rw [nA_snoc]
            by_cases e : x.of (js ++ nj) h = true
            · rw [if_pos e]
              have eh : h = house := by
                rw [of_eq, decide_eq_true_eq, ex] at e
                obtain ⟨rest, rfl, _⟩ := hH.hd
                rw [List.getElem?_map, get_at] at e
                exact (Option.some.inj e).symm
              rw [eh]
              exact ra
            · rw [if_neg e]
              exact (cG h).2⟩
          refine ⟨_, rfl, _, rfl, _, rfl, _, rfl, _, rfl, _, rfl, _, _, rfl, rfl, p, c, w, lj, la, t, hs, gs, rs ++ nr', qs ++ nq ++ [qa], js ++ nj, as ++ na ++ [x], most, g, now + 1 + o2, deep - 1, ?_, by omega, hP9, fr9.town hP W.j W.a ht, l1, l6, W9, ap9, mg2, rm, hm100, ?_, cnt9, rj, fun nr2 nq2 nj2 na2 res G6 fr10 frs10 hP10 W10 ap10 JP c10 l10 => ?_⟩
          · show [V.ref p, .ref w, .ref t, .str g, .int (now + 1 + o2), .int ((deep : Nat) - 1)] = _
            rw [show ((deep : Nat) : Int) - 1 = ((deep - 1 : Nat) : Int) by omega]
          · rw [List.length_append, List.length_singleton]
            omega
          refine ⟨_, rfl, p, c, 3, rfl, hP10, by decide, by decide, fun t4 G7 t40 t41 s7 => ⟨_, _, rfl, rfl, ?_⟩⟩
          have W11 := W10.stp hP10 s7 ap10
          have eq1 : qs ++ nq ++ [qa] ++ nq2 = (qs ++ nq) ++ qa :: nq2 := by rw [List.append_assoc (qs ++ nq)]; rfl
          have eq2 : as ++ na ++ [x] ++ na2 = (as ++ na) ++ x :: na2 := by rw [List.append_assoc (as ++ na)]; rfl
          rw [eq1, eq2] at W11
          rw [eq1] at ap10
          rw [eq2] at c10
          subst ex
          have eqa : ((qs ++ nq) ++ qa :: nq2)[(as ++ na).length]? = some qa := by rw [← WG.ca.1]; exact get_at _ _ _
          have eax := get_at (as ++ na) na2 ⟨js.length, g, now + 1 + o2, now + 1 + o2, (js ++ nj).length⟩
          have hq11 := W11.ca.2 _ _ _ eqa eax
          refine ⟨_, rfl, qa, _, 3, 3, rfl, rfl, hq11, rfl, ?_⟩
          have W12 := W11.setA (x := ⟨js.length, g, now + 1 + o2, res + t4, (js ++ nj).length⟩) ap10.qn eqa eax rfl
          rw [set_at] at W12
          have hP12 := s7.1.cellA (o := .lst (WA.v ⟨js.length, g, now + 1 + o2, res + t4, (js ++ nj).length⟩)) hq11
          have fr12 : Fr p lj la H (upd G7 qa (.lst (WA.v ⟨js.length, g, now + 1 + o2, res + t4, (js ++ nj).length⟩))) := fun b o h1 h2 h3 e => by
            rw [upd_ne (ne_of_none e qaH)]
            exact s7.2 b o h1 ((fr9.trans fr10) b o h1 h2 h3 e)
          have hq12 : (upd G7 qa (.lst (WA.v ⟨js.length, g, now + 1 + o2, res + t4, (js ++ nj).length⟩))) qa = some (.lst (WA.v ⟨js.length, g, now + 1 + o2, res + t4, (js ++ nj).length⟩)) := upd_same
          show tSeq _ _ _ _ (upd G7 qa (.lst (WA.v ⟨js.length, g, now + 1 + o2, res + t4, (js ++ nj).length⟩)))
          generalize upd G7 qa (.lst (WA.v ⟨js.length, g, now + 1 + o2, res + t4, (js ++ nj).length⟩)) = G8 at W12 hP12 fr12 hq12 ⊢
          refine ⟨_, rfl, _, rfl, qa, _, 3, _, rfl, rfl, SqL.of hq12, rfl, _, _, rfl, ?_⟩
          refine ⟨_, rfl, _, rfl, qa, _, 3, _, rfl, rfl, SqL.of hq12, rfl, (by show 2 ≤ sizeLine; decide), fun ln nln => ?_⟩
          obtain ⟨G9, eG9, g9, hln⟩ : ∃ G9, upd G8 ln (.lst [.int (now + 1 + o2), .int (res + t4)]) = G9 ∧ Same G8 G9 ∧ G9 ln = some (.lst [.int (now + 1 + o2), .int (res + t4)]) := ⟨_, rfl, same_upd nln, upd_same⟩
          rw [eG9]
          have hP13 := hP12.sm g9
          have W13 := W12.same g9
          have lnp : ln ≠ p := fun e => hP12.neP nln e.symm
          refine ⟨_, rfl, p, c, 2, rfl, hP13, by decide, by decide, fun z2 Ga z20 z21 s8 => ?_⟩
          obtain ⟨nw, enw, hnw⟩ : ∃ nw : Int, atI [V.int (now + 1 + o2), .int (res + t4)] z2 = some (.int nw) ∧ (nw = now + 1 + o2 ∨ nw = res + t4) := by
            have hz : z2 = 0 ∨ z2 = 1 := by omega
            rcases hz with rfl | rfl
            · exact ⟨_, rfl, .inl rfl⟩
            · exact ⟨_, rfl, .inr rfl⟩
          have W14 := W13.stp hP13 s8 ap10
          rw [lJ] at JP
          have hH2 := hH.more mg2 (by omega) (by omega) JP t40 (by omega) (by omega) hnw
          rw [← lJ, show max last (res + t4) = if res + t4 > last then res + t4 else last by split <;> omega] at hH2
          rw [List.append_assoc rs, List.append_assoc qs, List.append_assoc js, List.append_assoc as] at W14
          rw [List.append_assoc rs, List.append_assoc qs] at ap10
          have fb := Fresh.back frs10 fr9 hP9 W9.j W9.a
          refine ⟨ln, _, z2, _, rfl, rfl, SqL.of (s8.2 ln _ lnp hln), enw, _, nw, ⟨_, _, _, _, rfl⟩, nr' ++ nr2, nq ++ qa :: nq2, nj ++ nj2, na ++ ⟨js.length, g, now + 1 + o2, res + t4, (js ++ nj).length⟩ :: na2, (fr12.trans (Fr.same g9)).trans (Fr.stp s8), fun r' m' => ?_, s8.1, W14, ap10, ?_, fun h => ⟨?_, ?_⟩, ?_⟩
          · rcases List.mem_append.mp m' with m' | m'
            · rcases List.mem_append.mp m' with m' | m'
              · exact frs _ (List.mem_append_left _ m')
              · exact fb _ (List.mem_append_left _ m')
            · rcases List.mem_append.mp m' with m' | m'
              · exact frs _ (List.mem_append_right _ m')
              · rcases List.mem_cons.mp m' with e | m'
                · rw [e]
                  exact qaH
                · exact fb _ (List.mem_append_right _ m')
          · rw [estep]
            exact hH2
          · rw [← List.append_assoc]
            exact (c10 h).1
          · rw [← List.append_assoc, ← List.append_assoc, nA_swap (x := ⟨js.length, g, now + 1 + o2, res + t4, (js ++ nj).length⟩) (x' := ⟨js.length, g, now + 1 + o2, now + 1 + o2, (js ++ nj).length⟩) _ _ _ _ rfl]
            exact (c10 h).2
          · rw [← List.append_assoc]
            exact l10
      · rintro σ G ⟨last, now, ⟨v10, v11, v12, v13, rfl⟩, nr', nq, nj, na, fr, frs, hPG, WG, apG, hH, cG, lG⟩
        obtain ⟨rest, rfl, _⟩ := hH.hd
        have ej := get_at js rest ⟨house, start + r1, start + r1⟩
        obtain ⟨r0, er0, hr0⟩ := WG.cj.at ej
        refine ⟨_, rfl, _, rfl, _, rfl, _, _, rfl, rfl, .inr ⟨_, rfl, _, _, rfl, rfl, _, rfl, p, c, 3, rfl, hPG, by decide, by decide, fun t3 G1 t30 t31 s4 => ⟨_, _, rfl, rfl, ?_⟩⟩⟩
        have W4 := WG.stp hPG s4 apG
        have hr4 := W4.cj.2 _ _ _ er0 ej
        refine ⟨_, rfl, w, _, 0, _, rfl, rfl, SqL.of W4.w, rfl, _, rfl, lj, _, _, .ref r0, rfl, rfl, SqL.of W4.j, atI_nat (map_ref er0), r0, _, 2, 2, rfl, rfl, hr4, rfl, ?_⟩
        have W5 := W4.setJ (j := ⟨house, start + r1, last + (if decide (start + r1 < last) = true then 1 else 0) + t3⟩) apG.rn er0 ej
        rw [set_at] at W5
        have r0n : H r0 = none := by
          refine frs r0 (List.mem_append_left _ ?_)
          rw [List.getElem?_append_right (by rw [W.cj.1]; exact Nat.le_refl _)] at er0
          exact List.mem_of_getElem? er0
        have ev : last + (if decide (start + r1 < last) = true then 1 else 0) + t3 = last + (if last > start + r1 then 1 else 0) + t3 := by simp only [decide_eq_true_eq, gt_iff_lt]
        obtain ⟨rest', er, JP⟩ := hH.done (start := start) (t := t3) (D := Dn deep) hh (by omega) t30 (by
          cases deep with
          | zero =>
            have : (m * (if decide ((0 : Int) < ((0 : Nat) : Int)) = true then 1 else 0)).toNat = 0 := by simp
            rw [this]
            show start + r1 + ((0 : Nat) : Int) * _ + 1 + t3 ≤ start + 5
            omega
          | succ d =>
            have hm3 : (m * (if decide ((0 : Int) < ((d + 1 : Nat) : Int)) = true then 1 else 0)).toNat ≤ 3 := by
              split <;> omega
            show start + r1 + _ * (Dn d + 4) + 1 + t3 ≤ start + (3 * Dn d + 17)
            have h4 := nar d
            have : (((m * (if decide ((0 : Int) < ((d + 1 : Nat) : Int)) = true then 1 else 0)).toNat : Nat) : Int) * (Dn d + 4) ≤ 3 * (Dn d + 4) := Int.mul_le_mul_of_nonneg_right (by omega) (by omega)
            omega)
        obtain rfl := (List.cons.inj er).2
        rw [← ev] at JP
        refine ⟨_, rfl, w, _, 0, _, rfl, rfl, SqL.of W5.w, rfl, _, rfl, lj, _, _, .ref r0, rfl, rfl, SqL.of W5.j, atI_nat (map_ref er0), r0, _, 2, _, rfl, rfl, SqL.of upd_same, rfl, ?_⟩
        have emap : (js ++ ⟨house, start + r1, start + r1⟩ :: rest).map WJ.h = (js ++ ⟨house, start + r1, last + (if decide (start + r1 < last) = true then 1 else 0) + t3⟩ :: rest).map WJ.h := by
          rw [List.map_append, List.map_append]
          rfl
        refine q nr' nq _ na _ _ (fun b o h1 h2 h3 e => ?_) frs (s4.1.cellJ hr4) W5 apG JP (fun h => ⟨?_, ?_⟩) ?_
        · rw [upd_ne (ne_of_none e r0n)]
          exact s4.2 b o h1 (fr b o h1 h2 h3 e)
        · rw [nJ_eq, ← emap, ← nJ_eq]
          exact (cG h).1
        · rw [← nA_congr (as ++ na) h fun x _ => by rw [emap]]
          exact (cG h).2
        · rw [List.length_append] at lG ⊢
          exact lG
theorem ok_l_job (T : Txt K mg af fd) : FnOk P w K mg base CX0 7 (af 46) (fd 46) ["pen", "world", "town", "house", "start", "deep"] (sp_job 4) := ok_job_n T 4
/-! ### a world -/
structure WOk (hs : List Str) (js : List WJ) (as : List WA) : Prop where
  jb : ∀ j ∈ js, j.h ∈ hs ∧ 0 ≤ j.b ∧ j.b ≤ j.e ∧ j.e ≤ 400
  ab : ∀ x ∈ as, AskOk hs 0 js x
  inc : (as.map WA.ch).Pairwise (· < ·)
  cnt : Cnt js as
  len : as.length ≤ js.length
theorem WOk.more {hs : List Str} {js nj : List WJ} {as na : List WA} {start res : Int} {house : Str} (h : WOk hs js as) (J : JobPost hs js.length start (Dn 3) house nj na res) (s0 : 0 ≤ start) (s1 : start ≤ 11) (c : Cnt (js ++ nj) (as ++ na)) : WOk hs (js ++ nj) (as ++ na) := by
  have d3 : Dn 3 = 356 := by decide
  have rb := J.rb
  have c2 := J.cnt
  refine ⟨fun j m => ?_, fun x m => ?_, ?_, c, ?_⟩
  · rcases List.mem_append.mp m with m | m
    · exact h.jb j m
    · have := J.jb j m
      exact ⟨this.1, by omega, this.2.2.1, by omega⟩
  · rcases List.mem_append.mp m with m | m
    · exact (h.ab x m).app nj
    · have a := J.ab x m
      exact AskOk.shift (n0 := 0) (by rw [Nat.zero_add]; exact a)
  · rw [List.map_append]
    refine List.pairwise_append.mpr ⟨h.inc, J.inc, fun z m y m2 => ?_⟩
    obtain ⟨x, mx, rfl⟩ := List.mem_map.mp m
    obtain ⟨x2, mx2, rfl⟩ := List.mem_map.mp m2
    obtain ⟨_, _, j, e, _⟩ := (h.ab x mx).ch
    have h1 := (List.getElem?_eq_some_iff.mp e).1
    have h2 := (J.ab x2 mx2).ch.1
    omega
  · rw [List.length_append, List.length_append]
    have := h.len
    omega
def sp_world : Sp := fun vs H Q _ => ∃ (p c t : Addr) (hs gs : List Str) (tops most stray : Int), vs = [.ref p, .ref t, .int tops, .int 3, .int most, .int stray] ∧ Pen H p c ∧ TownAt H t hs gs ∧ 1 ≤ hs.length ∧ hs.length ≤ 6 ∧ gs.Sublist hs ∧ (∀ h ∈ hs, HouseS h) ∧ 0 < tops ∧ tops ≤ 10 ∧ 0 ≤ most ∧ most ≤ 100 ∧
  ∀ (w lj la : Addr) (rs qs : List Addr) (js : List WJ) (as : List WA) (H' : Hp), Stp p c H H' → H w = none → WorldAt H' w lj la rs qs js as most → Apart p c lj la rs qs → WOk hs js as → (js.length : Int) ≤ most → Q (.ref w) H'
theorem ok_l_world (T : Txt K mg af fd) : FnOk P w K mg base CX0 8 (af 47) (fd 47) ["pen", "town", "tops", "deep", "most", "stray"] sp_world := by
  refine T.F_l_world.ok sc_l_world (fun vs H Q E h => ?_) (fun cdv A outer s H vs Q E hr h => ?_)
  · obtain ⟨p, c, t, hs, gs, tops, most, stray, rfl, _⟩ := h
    rfl
  · obtain ⟨p, c, t, hs, gs, tops, most, stray, rfl, hP, ht, l1, l6, hsub, hou, to0, to1, mo0, mo1, q⟩ := h
    refine ⟨_, (pss_cons (ps_set (i := 6) sc_l_world.nd rfl (by first | exact Or.inl rfl | exact Or.inr rfl) (pe_lst (pa_cons (pe_lst pa_nil) (pa_cons (pe_lst pa_nil) (pa_cons (pv 4) pa_nil)))))
        (pss_cons (ps_for PassesOwn.never rfl (pi_range1 (by rfl) T.m_range (pa_cons (pe_op op_add pe_int (pe_call (ok_l_take T) (hr.mono (by first | decide | omega)) (by rfl) T.g_l_take T.F_l_take.kp T.b_l_take .nil pass0 (pa_cons (pv 0) (pa_cons (pv 2) pa_nil)))) pa_nil)) (pg_name (i := 7) sc_l_world.nd rfl (by first | exact Or.inl rfl | exact Or.inr rfl)) (pss_cons (ps_set (i := 8) sc_l_world.nd rfl (by first | exact Or.inl rfl | exact Or.inr rfl) (pe_ix ix_tup (pv 1) pe_int (fun _ _ => rfl)))
        (C8.pss_cut (ps_if (PW.pt (pw_or (pt_cmpR (op_eqD hr.units) (pv 8) (pe_tup pa_nil) (nomark _)) (pw_or1 (pt_cmpR op_lt (pe_call (ok_l_take T) (hr.mono (by first | decide | omega)) (by rfl) T.g_l_take T.F_l_take.kp T.b_l_take .nil pass0 (pa_cons (pv 0) (pa_cons pe_int pa_nil))) (pv 5) (nomark _))))) (pss_one (ps_set (i := 8) sc_l_world.nd rfl (by first | exact Or.inl rfl | exact Or.inr rfl) (pe_ix ix_tup (pv 1) pe_int (fun _ _ => rfl)))) pss_nil)
        (pss_cons (ps_set (i := 9) sc_l_world.nd rfl (by first | exact Or.inl rfl | exact Or.inr rfl) (pe_ix ix_tup (pv 8) (pe_call (ok_l_take T) (hr.mono (by first | decide | omega)) (by rfl) T.g_l_take T.F_l_take.kp T.b_l_take .nil pass0 (pa_cons (pv 0) (pa_cons (pe_callB call_len_seq (by rfl) T.m_len (by decide +kernel) (pa_cons (pv 8) pa_nil)) pa_nil))) (fun _ _ => rfl)))
        (pss_one (ps_if (pt_val (pe_call (ok_l_room T) (hr.mono (by first | decide | omega)) (by rfl) T.g_l_room T.F_l_room.kp T.b_l_room .nil pass0 (pa_cons (pv 6) (pa_cons pe_str (pa_cons (pv 9) pa_nil))))) (pss_one (ps_expr (pe_call (ok_l_job T) (hr.mono (by first | decide | omega)) (by rfl) T.g_l_job T.F_l_job.kp T.b_l_job .nil pass0 (pa_cons (pv 0) (pa_cons (pv 6) (pa_cons (pv 1) (pa_cons (pv 9) (pa_cons (pe_call (ok_l_take T) (hr.mono (by first | decide | omega)) (by rfl) T.g_l_take T.F_l_take.kp T.b_l_take .nil pass0 (pa_cons (pv 0) (pa_cons pe_int pa_nil))) (pa_cons (pv 3) pa_nil))))))))) pss_nil))))))
        (pss_one (ps_ret (pv 6))))), ?_⟩
    refine ⟨Nat.zero_le _, fun lj nlj => ⟨Nat.zero_le _, fun la nla => ⟨_, rfl, (by show 3 ≤ sizeLine; decide), fun w nw => ?_⟩⟩⟩
    obtain ⟨H0, e0, s0, w0, j0, a0⟩ : ∃ H0, upd (upd (upd H lj (.lst [])) la (.lst [])) w (.lst [.ref lj, .ref la, .int most]) = H0 ∧ Same H H0 ∧ H0 w = some (.lst [.ref lj, .ref la, .int most]) ∧ H0 lj = some (.lst []) ∧ H0 la = some (.lst []) :=
      ⟨_, rfl, ((same_upd nlj).trans (same_upd nla)).trans (same_upd nw), upd_same, same_upd nw _ _ (same_upd nla _ _ upd_same), same_upd nw _ _ upd_same⟩
    rw [e0]
    have hjl : lj ≠ la := ne_of_none upd_same nla
    have nlaH : H la = none := (same_upd nlj).free nla
    have nwH : H w = none := ((same_upd nlj).trans (same_upd nla)).free nw
    have hP0 := hP.sm s0
    have W0 : WorldAt H0 w lj la [] [] [] [] most := ⟨w0, j0, a0, ⟨rfl, fun i r x e => by cases e⟩, ⟨rfl, fun i r x e => by cases e⟩, fun x m => nomatch m⟩
    have ap0 : Apart p c lj la [] [] := ⟨hjl, hP.neC nlj, hP.neC nlaH, hP.neP nlj, hP.neP nlaH, List.Pairwise.nil, List.Pairwise.nil⟩
    have wok0 : WOk hs [] [] := ⟨fun j m => (nomatch m), fun x m => (nomatch m), List.Pairwise.nil, fun h => ⟨Nat.zero_le _, Nat.zero_le _⟩, Nat.le_refl _⟩
    refine ⟨_, rfl, _, rfl, p, c, tops, rfl, hP0, to0, Nat.lt_of_le_of_lt (show tops.natAbs ≤ 10 by omega) (by decide), fun k H1 k0 k1 s1 => ⟨_, _, rfl, rfl, ?_⟩⟩
    refine ⟨_, rfl, by omega, by omega, for_range (lo := 0) (n := (1 + k).toNat) (fun i σ H' => (∃ v7 v8 v9 : Option V, σ = [some (.ref p), some (.ref t), some (.int tops), some (.int 3), some (.int most), some (.int stray), some (.ref w), v7, v8, v9]) ∧
      ∃ rs qs js as, Fr p lj la H0 H' ∧ Pen H' p c ∧ WorldAt H' w lj la rs qs js as most ∧ Apart p c lj la rs qs ∧ WOk hs js as ∧ (js.length : Int) ≤ most)
      ⟨⟨none, none, none, rfl⟩, [], [], [], [], Fr.stp s1, s1.1, W0.stp hP0 s1 ap0, ap0, wok0, mo0⟩ ?_ ?_⟩
    · rintro i σ G hi ⟨⟨v7, v8, v9, rfl⟩, rs, qs, js, as, fr, hPG, WG, apG, wok, lG⟩
      obtain ⟨ta, tb, t1, t2, t3⟩ := fr.town hP0 j0 a0 (show TownAt H0 t hs gs from let ⟨a, b, h1, h2, h3⟩ := ht; ⟨a, b, s0 _ _ h1, s0 _ _ h2, s0 _ _ h3⟩)
      have gok : ∀ h ∈ gs, PyData.strOk h = true := fun h m => (hou h (hsub.subset m)).ok
      refine ⟨_, rfl, t, _, 1, _, rfl, rfl, SqT.of t1, rfl, ?_⟩
      refine ⟨fun σ' H' => ∃ (dr : Addr) (ds : List Str), (∃ v7 v9 : Option V, σ' = [some (.ref p), some (.ref t), some (.int tops), some (.int 3), some (.int most), some (.int stray), some (.ref w), v7, some (.ref dr), v9]) ∧ Stp p c G H' ∧ H' dr = some (.tup (ds.map V.str)) ∧ 1 ≤ ds.length ∧ ds.length ≤ 6 ∧ ∀ h ∈ ds, h ∈ hs, ?_, ?_⟩
      · refine ⟨_, rfl, Nat.zero_le _, fun e ne => ?_⟩
        have s2 := (Stp.refl hPG).new (o := .tup []) hPG ne
        have u2 := s2.tup hPG t2
        have u3 := s2.tup hPG t3
        have u1 := s2.tup hPG t1
        have ue : (upd G e (.tup [])) e = some (.tup []) := upd_same
        generalize upd G e (.tup []) = G1 at s2 u1 u2 u3 ue ⊢
        refine ⟨.tuple (gs.map PyData.str), .tuple [], Dp.tup (SqT.of u3) (dp_strs gs), Dp.tup (SqT.of ue) .nil, ?_, rfl, _, rfl, ite2 (fun e1 => iteT ?_) (fun e1 => ?_)⟩
        · unfold SeqAt.shaped
          rw [Bool.and_eq_true, decide_eq_true_eq]
          refine ⟨canLay_strs gok, ?_⟩
          show PyData.depthAll (gs.map PyData.str) + 1 ≤ 64
          rw [depth_strs]
          decide
        · exact ⟨_, rfl, t, _, 0, _, rfl, rfl, SqT.of u1, rfl, ta, hs, ⟨_, _, rfl⟩, s2, u2, l1, l6, fun h m => m⟩
        · have gne : gs ≠ [] := fun z => by
            subst z
            exact e1 rfl
          refine ⟨_, rfl, p, c, 8, rfl, s2.1, by decide, by decide, fun r G2 r0 r1 s3 => ?_⟩
          have s23 := s2.trans s3
          refine ⟨_, rfl, _, _, rfl, rfl, _, rfl, ite2 (fun e2 => ?_) (fun e2 => ?_)⟩
          · exact ⟨_, rfl, t, _, 0, _, rfl, rfl, SqT.of (s3.tup s2.1 u1), rfl, ta, hs, ⟨_, _, rfl⟩, s23, s3.tup s2.1 u2, l1, l6, fun h m => m⟩
          · exact ⟨tb, gs, ⟨_, _, rfl⟩, s23, s3.tup s2.1 u3, List.length_pos_iff.mpr gne, Nat.le_trans hsub.length_le l6, fun h m => hsub.subset m⟩
      · rintro σ' G1 ⟨dr, ds, ⟨v7', v9', rfl⟩, s2, hdr, d1, d6, hds⟩
        have lb : 0 < ((ds.map V.str).length : Int) := by rw [List.length_map]; omega
        have lc : ((ds.map V.str).length : Int).natAbs < 2 ^ 100 := by
          rw [List.length_map]
          exact Nat.lt_of_le_of_lt (show _ ≤ 6 by omega) (by decide)
        refine ⟨_, rfl, _, rfl, _, rfl, dr, _, rfl, .inr (SqT.of hdr), p, c, _, rfl, s2.1, lb, lc, fun z G2 z0 z1 s3 => ?_⟩
        obtain ⟨h, mh, eh⟩ := pick_house z0 z1
        have s23 := s2.trans s3
        refine ⟨dr, _, z, _, rfl, rfl, SqT.of (s3.tup s2.1 hdr), eh, ?_⟩
        have W3 := WG.stp hPG s23 apG
        have fr3 := fr.trans (Fr.stp s23)
        refine ⟨_, rfl, _, rfl, w, lj, la, _, _, _, _, most, "", h, rfl, W3, by omega, by have := wok.len; omega, fun b G3 g3 hb => ⟨b, rfl, ?_⟩⟩
        have W4 := W3.same g3
        have hP4 := s3.1.sm g3
        have fr4 := fr3.trans (Fr.same g3)
        cases b with
        | false => exact iteF ⟨⟨_, _, _, rfl⟩, rs, qs, js, as, fr4, hP4, W4, apG, wok, lG⟩
        | true =>
          obtain ⟨ra, rj, rm⟩ := hb.mp rfl
          refine iteT ⟨_, rfl, _, rfl, _, rfl, _, rfl, _, rfl, p, c, 12, rfl, hP4, by decide, by decide, fun st G4 st0 st1 s5 => ?_⟩
          have W5 := W4.stp hP4 s5 apG
          have fr5 := fr4.trans (Fr.stp s5)
          have ht5 : TownAt G4 t hs gs := fr5.town hP0 j0 a0 (let ⟨a, b, h1, h2, h3⟩ := ht; ⟨a, b, s0 _ _ h1, s0 _ _ h2, s0 _ _ h3⟩)
          refine ⟨_, rfl, p, c, w, lj, la, t, hs, gs, rs, qs, js, as, most, h, st, 3, rfl, by decide, s5.1, ht5, l1, l6, W5, apG, hds h mh, rm, mo1, wok.len, wok.cnt, rj, fun nr nq nj na res G5 fr6 frs6 hP6 W6 ap6 JP c6 l6' => ?_⟩
          exact ⟨⟨_, _, _, rfl⟩, rs ++ nr, qs ++ nq, js ++ nj, as ++ na, fr5.trans fr6, hP6, W6, ap6, wok.more JP st0 (by omega) c6, l6'⟩
    · rintro σ G ⟨⟨v7, v8, v9, rfl⟩, rs, qs, js, as, fr, hPG, WG, apG, wok, lG⟩
      refine ⟨_, rfl, q w lj la rs qs js as G ⟨hPG, fun b o hb e => ?_⟩ nwH WG apG wok lG⟩
      exact fr b o hb (ne_of_none e nlj) (ne_of_none e nlaH) (s0 _ _ e)
/-! ### what is left of the rows -/
def sp_left : Sp := fun vs H Q _ => ∃ (p c lr : Addr) (fewer : Int) (xs : List V) (ds : List PyData), vs = [.ref p, .ref lr, .int fewer] ∧ Pen H p c ∧ lr ≠ p ∧ H lr = some (.lst xs) ∧ Dqs (fun _ => True) H xs ds ∧ Ths ds ∧ (∀ d ∈ ds, RowW d) ∧ 0 ≤ fewer ∧ fewer ≤ 100 ∧ ds.length ≤ 200 ∧
  ∀ (l : Addr) (ys : List V) (es : List PyData) (H' : Hp), Stp p c H H' → H l = none → H' l = some (.lst ys) → Dqs (AtL p l) H' ys es → (∀ d ∈ es, d ∈ ds) → es.length ≤ ds.length + 2 → Q (.ref l) H'
theorem Dqs.any {Ex : Addr → Prop} {H : Hp} {vs : List V} {ds : List PyData} (h : Dqs (fun _ => True) H vs ds) : Dqs Ex H vs ds := h.go (fun _ _ n => absurd trivial n) (fun _ _ n _ => absurd trivial n) (fun _ _ e => e)
theorem Dq.any {Ex : Addr → Prop} {H : Hp} {v : V} {d : PyData} (h : Dq (fun _ => True) H v d) : Dq Ex H v d := h.go (fun _ _ n => absurd trivial n) (fun _ _ n _ => absurd trivial n) (fun _ _ e => e)
theorem ok_l_left (T : Txt K mg af fd) : FnOk P w K mg base CX0 3 (af 51) (fd 51) ["pen", "rows", "fewer"] sp_left := by
  refine T.F_l_left.ok sc_l_left (fun vs H Q E h => ?_) (fun cdv A outer s H vs Q E hr h => ?_)
  · obtain ⟨p, c, lr, fewer, xs, ds, rfl, _⟩ := h
    rfl
  · obtain ⟨p, c, lr, fewer, xs, ds, rfl, hP, lrp, hlr, hds, hth, hrw, f0, f1, hlen, q⟩ := h
    refine ⟨_, (pss_cons (ps_set (i := 3) sc_l_left.nd rfl (by first | exact Or.inl rfl | exact Or.inr rfl) (pe_lst (pa_cons (pe_call (ok_l_take T) (hr.mono (by first | decide | omega)) (by rfl) T.g_l_take T.F_l_take.kp T.b_l_take .nil pass0 (pa_cons (pv 0) (pa_cons (pe_op op_add (pv 2) pe_int) pa_nil))) (pa_cons (pe_ix ix_list (pe_lst (pa_cons pe_int (pa_cons pe_int (pa_cons pe_int (pa_cons pe_int pa_nil))))) (pe_call (ok_l_take T) (hr.mono (by first | decide | omega)) (by rfl) T.g_l_take T.F_l_take.kp T.b_l_take .nil pass0 (pa_cons (pv 0) (pa_cons pe_int pa_nil))) (fun _ _ => rfl)) pa_nil))))
        (pss_cons (ps_set (i := 4) sc_l_left.nd rfl (by first | exact Or.inl rfl | exact Or.inr rfl) (pe_lst pa_nil))
        (pss_cons (ps_for PassesOwn.never rfl (pi_list (pv 1)) (pg_name (i := 5) sc_l_left.nd rfl (by first | exact Or.inl rfl | exact Or.inr rfl)) (pss_one (ps_if (pt_cmpR op_ge (pe_call (ok_l_take T) (hr.mono (by first | decide | omega)) (by rfl) T.g_l_take T.F_l_take.kp T.b_l_take .nil pass0 (pa_cons (pv 0) (pa_cons pe_int pa_nil))) (pe_ix ix_list (pv 3) (pe_callTy call_int1 (by rfl) T.m_int (by decide +kernel) (pa_cons (pe_cmpR op_eq (pe_ix ix_tup (pv 5) pe_int (fun _ _ => rfl)) pe_str (nomark _)) pa_nil)) (fun _ _ => rfl)) (nomark _)) (pss_one (ps_expr (pe_bm PySem.F.plainAttrs_list PySem.F.slot_list_insert PySem.F.type_list_insert mt_insert (pv 4) (pa_cons (pe_call (ok_l_take T) (hr.mono (by first | decide | omega)) (by rfl) T.g_l_take T.F_l_take.kp T.b_l_take .nil pass0 (pa_cons (pv 0) (pa_cons (pe_op op_add (pe_callB call_len_seq (by rfl) T.m_len (by decide +kernel) (pa_cons (pv 4) pa_nil)) pe_int) pa_nil))) (pa_cons (pv 5) pa_nil))))) pss_nil)))
        (pss_cons (ps_for PassesOwn.never rfl (pi_range1 (by rfl) T.m_range (pa_cons (pe_op op_mul (pe_call (ok_l_take T) (hr.mono (by first | decide | omega)) (by rfl) T.g_l_take T.F_l_take.kp T.b_l_take .nil pass0 (pa_cons (pv 0) (pa_cons pe_int pa_nil))) (pe_callTy call_int1 (by rfl) T.m_int (by decide +kernel) (pa_cons (pe_cmpR (op_neD hr.units) (pv 4) (pe_lst pa_nil) (nomark _)) pa_nil))) pa_nil)) (pg_name (i := 6) sc_l_left.nd rfl (by first | exact Or.inl rfl | exact Or.inr rfl)) (pss_one (ps_expr (pe_bm PySem.F.plainAttrs_list PySem.F.slot_list_insert PySem.F.type_list_insert mt_insert (pv 4) (pa_cons (pe_call (ok_l_take T) (hr.mono (by first | decide | omega)) (by rfl) T.g_l_take T.F_l_take.kp T.b_l_take .nil pass0 (pa_cons (pv 0) (pa_cons (pe_op op_add (pe_callB call_len_seq (by rfl) T.m_len (by decide +kernel) (pa_cons (pv 4) pa_nil)) pe_int) pa_nil))) (pa_cons (pe_ix ix_list (pv 4) (pe_call (ok_l_take T) (hr.mono (by first | decide | omega)) (by rfl) T.g_l_take T.F_l_take.kp T.b_l_take .nil pass0 (pa_cons (pv 0) (pa_cons (pe_callB call_len_seq (by rfl) T.m_len (by decide +kernel) (pa_cons (pv 4) pa_nil)) pa_nil))) (fun _ _ => rfl)) pa_nil))))))
        (pss_one (ps_ret (pv 4))))))), ?_⟩
    refine ⟨_, rfl, _, rfl, _, _, rfl, rfl, p, c, _, rfl, hP, by omega, Nat.lt_of_le_of_lt (show _ ≤ 101 by omega) (by decide), fun r1 H1 r10 r11 s1 => ?_⟩
    refine ⟨(by show 4 ≤ sizeLine; decide), fun lb nlb => ?_⟩
    have s2 := s1.new (o := .lst [.int 0, .int 2, .int 4, .int 6]) hP nlb
    refine ⟨_, rfl, p, c, 4, rfl, s2.1, by decide, by decide, fun r2 H2 r20 r21 s3 => ?_⟩
    have hlb : H2 lb = some (.lst [.int 0, .int 2, .int 4, .int 6]) := s3.2 lb _ (fun e => s1.1.neP nlb e.symm) upd_same
    obtain ⟨v2, e2⟩ : ∃ v : Int, atI [V.int 0, .int 2, .int 4, .int 6] r2 = some (.int v) := by
      have hz : r2 = 0 ∨ r2 = 1 ∨ r2 = 2 ∨ r2 = 3 := by omega
      rcases hz with rfl | rfl | rfl | rfl <;> exact ⟨_, rfl⟩
    refine ⟨lb, _, r2, _, rfl, rfl, SqL.of hlb, e2, (by show 2 ≤ sizeLine; decide), fun ls nls => ?_⟩
    have s23 := s2.trans s3
    have s4 := s23.new (o := .lst [.int r1, .int v2]) hP nls
    have nlsH := s23.back hP nls
    have lsp : ls ≠ p := fun e => hP.neP nlsH e.symm
    have hls : (upd H2 ls (.lst [.int r1, .int v2])) ls = some (.lst [.int r1, .int v2]) := upd_same
    generalize upd H2 ls (.lst [.int r1, .int v2]) = H3 at s4 hls ⊢
    refine ⟨Nat.zero_le _, fun l nl => ?_⟩
    have nlH := s4.back hP nl
    have lp : l ≠ p := fun e => hP.neP nlH e.symm
    have s5 := s4.new (o := .lst []) hP nl
    have hls5 : (upd H3 l (.lst [])) ls = some (.lst [.int r1, .int v2]) := same_upd nl _ _ hls
    have hl5 : (upd H3 l (.lst [])) l = some (.lst []) := upd_same
    generalize upd H3 l (.lst []) = H4 at s5 hls5 hl5 ⊢
    have hlr4 := s5.2 lr _ lrp hlr
    have lsl : ls ≠ l := cell_ne hls5 hl5 (fun z => nomatch z)
    have lrl : lr ≠ l := ne_of_none hlr nlH
    refine ⟨_, rfl, lr, rfl, ⟨_, SqL.of hlr4⟩, for_list (K := K) (a := lr) (xs := xs) (fun i σ H' => (∃ v5 v6 : Option V, σ = [some (.ref p), some (.ref lr), some (.int fewer), some (.ref ls), some (.ref l), v5, v6]) ∧ H' lr = some (.lst xs) ∧ H' ls = some (.lst [.int r1, .int v2]) ∧ Lst p c l H (fun d => d ∈ ds) i H')
      ⟨⟨none, none, rfl⟩, hlr4, hls5, s5, [], [], hl5, .nil, (fun _ m => nomatch m), (fun _ m => nomatch m), Nat.le_refl _⟩ (fun i σ H' _ h => SqL.of h.2.1) ?_ ?_⟩
    · rintro i v σ G hv ⟨⟨v5, v6, rfl⟩, hlrG, hlsG, sG, ys, es, hlG, hdG, thG, hRG, lenG⟩
      have hil : i < ds.length := by rw [← hds.len]; exact (List.getElem?_eq_some_iff.mp hv).1
      have hdi : ds[i]? = some ds[i] := List.getElem?_eq_getElem hil
      generalize ds[i] = d at hdi
      have md := List.mem_of_getElem? hdi
      obtain ⟨v', hv', dv⟩ := hds.get hdi
      obtain rfl : v' = v := Option.some.inj (hv'.symm.trans hv)
      obtain ⟨r, rfl, wr⟩ := hrw d md
      cases dv with
      | @tup a zs _ ha hzs =>
        have hw : r.data[0]? = some (.str r.word) := by cases r <;> rfl
        obtain ⟨z, hz, dz⟩ := hzs.get hw
        obtain rfl : z = .str r.word := by cases dz; rfl
        refine ⟨_, rfl, p, c, 6, rfl, sG.1, by decide, by decide, fun r6 G1 r60 r61 s6 => ?_⟩
        have sG1 := sG.trans s6
        have haG := sG1.tup hP ha
        obtain ⟨vv, evv⟩ : ∃ vv : Int, atI [V.int r1, .int v2] (if decide (V.str r.word = V.str "all") = true then 1 else 0) = some (.int vv) := by split <;> exact ⟨_, rfl⟩
        have hlG1 := s6.2 l _ lp hlG
        have hdG1 := hdG.stp (.inl rfl) sG.1 s6
        have hlr1 := s6.2 lr _ lrp hlrG
        have hls1 := s6.2 ls _ lsp hlsG
        refine ⟨_, rfl, _, rfl, a, _, 0, _, rfl, rfl, SqT.of haG, atI_nat hz, rfl, .inr ⟨_, rfl, ls, _, _, _, rfl, rfl, SqL.of hls1, evv, _, _, rfl, rfl, _, rfl, ite2 (fun e => ?_) (fun e => ?_)⟩⟩
        · have hyl := hdG1.len
          refine ⟨_, rfl, .inl ⟨rfl, _, SqL.of hlG1⟩, _, rfl, _, rfl, l, _, rfl, .inl (SqL.of hlG1), _, _, rfl, rfl, p, c, _, rfl, s6.1, by omega, Nat.lt_of_le_of_lt (show _ ≤ 1000 by omega) (by decide), fun a1 G2 a10 a11 s7 => ?_⟩
          have hlG2 := s7.2 l _ lp hlG1
          have hdG2 := hdG1.stp (.inl rfl) s6.1 s7
          have sG2 := sG1.trans s7
          refine ⟨_, rfl, l, _, a1, _, rfl, rfl, hlG2, Nat.lt_of_lt_of_le (show ys.length < 1000 by omega) (by decide), a10, by omega, ⟨_, _, rfl⟩, ?_, ?_, ?_⟩
          · rw [upd_ne lrl]
            exact s7.2 lr _ lrp hlr1
          · rw [upd_ne lsl]
            exact s7.2 ls _ lsp hls1
          · exact lst_ins hP nlH sG2 hlG2 hdG2 thG hRG lenG (.tup (sG2.tup hP ha) (hzs.go (fun _ _ n => absurd trivial n) (fun _ _ n _ => absurd trivial n) (fun _ _ e => sG2.tup hP e))) (hth _ md) md _
        · exact ⟨⟨_, _, rfl⟩, hlr1, hls1, sG1, ys, es, hlG1, hdG1, thG, hRG, Nat.le_succ_of_le lenG⟩
    · rintro σ G ⟨⟨v5, v6, rfl⟩, hlrG, hlsG, sG, ys, es, hlG, hdG, thG, hRG, lenG⟩
      rw [hds.len] at lenG
      refine ⟨_, rfl, p, c, 3, rfl, sG.1, by decide, by decide, fun m G1 m0 m1 s6 => ?_⟩
      refine ⟨_, rfl, Nat.zero_le _, fun b nb => ?_⟩
      have sG1 := sG.trans s6
      have s7 := (Stp.refl s6.1).new (o := .lst []) s6.1 nb
      have hb7 : (upd G1 b (.lst [])) b = some (.lst []) := upd_same
      generalize upd G1 b (.lst []) = G2 at s7 hb7 ⊢
      have s67 := s6.trans s7
      have hlG2 := s67.2 l _ lp hlG
      have hdG2 := hdG.stp (.inl rfl) sG.1 s67
      refine ⟨.list es, .list [], Dp.lst (SqL.of hlG2) hdG2.dp, Dp.lst (SqL.of hb7) .nil, ths_lst thG (by omega), rfl, .inr ⟨_, rfl, _, _, rfl, rfl, .inl ⟨by omega, by omega⟩, ?_⟩⟩
      have sG2 := sG.trans s67
      refine ⟨_, rfl, ?_, ?_, for_range (lo := 0) (n := (m * (if (!PyData.eqv (.list es) (.list [])) = true then 1 else 0)).toNat) (fun i σ H' => (∃ v5 v6 : Option V, σ = [some (.ref p), some (.ref lr), some (.int fewer), some (.ref ls), some (.ref l), v5, v6]) ∧ Lst p c l H (fun d => d ∈ ds) (ds.length + i) H' ∧ ∀ us, H' l = some (.lst us) → es.length ≤ us.length)
        ⟨⟨_, _, rfl⟩, ⟨sG2, ys, es, hlG2, hdG2, thG, hRG, lenG⟩, fun us e => by rw [hlG2] at e; rw [← HO.lst.inj (Option.some.inj e), hdG2.len]; exact Nat.le_refl _⟩ ?_ ?_⟩
      · split <;> omega
      · split <;> omega
      · rintro i σ F hi ⟨⟨v5, v6, rfl⟩, ⟨sF, us, fs, hlF, hdF, thF, hRF, lenF⟩, hlow⟩
        have hes : 0 < es.length := by
          cases es with
          | nil => exact absurd hi (by simp [PyData.eqv, PyData.eqvAll])
          | cons x y => exact Nat.succ_pos _
        have hus := hlow us hlF
        have hul := hdF.len
        have him : i < 2 := by
          have : (m * (if (!PyData.eqv (.list es) (.list [])) = true then 1 else 0)).toNat ≤ 2 := by split <;> omega
          omega
        refine ⟨_, rfl, .inl ⟨rfl, _, SqL.of hlF⟩, _, rfl, _, rfl, l, _, rfl, .inl (SqL.of hlF), _, _, rfl, rfl, p, c, _, rfl, sF.1, by omega, Nat.lt_of_le_of_lt (show _ ≤ 1000 by omega) (by decide), fun a1 F1 a10 a11 u1 => ?_⟩
        have hlF1 := u1.2 l _ lp hlF
        have hdF1 := hdF.stp (.inl rfl) sF.1 u1
        refine ⟨_, rfl, _, rfl, _, rfl, l, _, rfl, .inl (SqL.of hlF1), p, c, _, rfl, u1.1, by omega, Nat.lt_of_le_of_lt (show _ ≤ 1000 by omega) (by decide), fun a2 F2 a20 a21 u2 => ?_⟩
        have hlF2 := u2.2 l _ lp hlF1
        have hdF2 := hdF1.stp (.inl rfl) u1.1 u2
        have hlt : a2.toNat < fs.length := by omega
        obtain ⟨v, hv, dv⟩ := hdF2.get (List.getElem?_eq_getElem hlt)
        refine ⟨l, _, a2, v, rfl, rfl, SqL.of hlF2, at_any (j := a2.toNat) (by omega) hv, ?_⟩
        refine ⟨l, _, a1, v, rfl, rfl, hlF2, Nat.lt_of_lt_of_le (show us.length < 1000 by omega) (by decide), a10, by omega, ⟨_, _, rfl⟩, ?_, fun ws e => ?_⟩
        · exact lst_ins hP nlH ((sF.trans u1).trans u2) hlF2 hdF2 thF hRF lenF dv (thF _ (List.getElem_mem hlt)) (hRF _ (List.getElem_mem hlt)) _
        · rw [upd_same] at e
          rw [← HO.lst.inj (Option.some.inj e), List.length_append, List.length_append, List.length_take, List.length_drop, List.length_singleton]
          omega
      · rintro σ F ⟨⟨v5, v6, rfl⟩, ⟨sF, us, fs, hlF, hdF, thF, hRF, lenF⟩, hlow⟩
        have him : (m * (if (!PyData.eqv (.list es) (.list [])) = true then 1 else 0)).toNat ≤ 2 := by split <;> omega
        exact ⟨_, rfl, q l us fs F sF nlH hlF hdF hRF (by omega)⟩
/-! ### numbers by order: among the things of one house, by time, then by place -/
def lx (ti : Nat → Int) (i j : Nat) : Bool := decide (ti i < ti j ∨ (ti i = ti j ∧ i < j))
def rk (N : Nat) (ho : Nat → Str) (ti : Nat → Int) (a : Nat) : Nat := ((List.range N).filter fun j => decide (ho j = ho a) && lx ti j a).length
def itemsOf (N : Nat) (ho : Nat → Str) (h : Str) : List Nat := (List.range N).filter fun j => decide (ho j = h)
theorem mem_items {N : Nat} {ho : Nat → Str} {h : Str} {j : Nat} : j ∈ itemsOf N ho h ↔ j < N ∧ ho j = h := by
  unfold itemsOf
  rw [List.mem_filter, List.mem_range, decide_eq_true_eq]
theorem rk_eq {N : Nat} {ho : Nat → Str} {ti : Nat → Int} {a : Nat} : rk N ho ti a = ((itemsOf N ho (ho a)).filter fun j => lx ti j a).length := by
  unfold rk itemsOf
  rw [List.filter_filter]
  congr 1
  refine List.filter_congr fun j _ => ?_
  rw [Bool.and_comm]
theorem rk_lt {N : Nat} {ho : Nat → Str} {ti : Nat → Int} {a : Nat} (ha : a < N) : rk N ho ti a < (itemsOf N ho (ho a)).length := by
  rw [rk_eq]
  refine Nat.lt_of_le_of_ne (List.length_filter_le _ _) fun e => ?_
  have := List.length_filter_eq_length_iff.mp e a (mem_items.mpr ⟨ha, rfl⟩)
  unfold lx at this
  have := of_decide_eq_true this
  omega
theorem filter_le {A : Type} (p q : A → Bool) (h : ∀ x, p x = true → q x = true) : ∀ l : List A, (l.filter p).length ≤ (l.filter q).length
  | [] => Nat.le_refl _
  | x :: l => by
    have ih := filter_le p q h l
    rw [List.filter_cons, List.filter_cons]
    by_cases hp : p x = true
    · rw [if_pos hp, if_pos (h x hp), List.length_cons, List.length_cons]
      omega
    · rw [if_neg hp]
      split
      · rw [List.length_cons]
        omega
      · exact ih
theorem filter_lt {A : Type} (p q : A → Bool) (h : ∀ x, p x = true → q x = true) {y : A} (hy : p y = false) (hq : q y = true) : ∀ {l : List A}, y ∈ l → (l.filter p).length < (l.filter q).length
  | x :: l, m => by
    have ih := filter_le p q h l
    rw [List.filter_cons, List.filter_cons]
    rcases List.mem_cons.mp m with rfl | m
    · rw [hy, hq, if_neg (by decide), if_pos rfl, List.length_cons]
      omega
    · have i2 := filter_lt p q h hy hq m
      by_cases hp : p x = true
      · rw [if_pos hp, if_pos (h x hp), List.length_cons, List.length_cons]
        omega
      · rw [if_neg hp]
        split
        · rw [List.length_cons]
          omega
        · exact i2
theorem lx_trans {ti : Nat → Int} {i j k : Nat} (h1 : lx ti i j = true) (h2 : lx ti j k = true) : lx ti i k = true := by
  unfold lx at *
  have h1 := of_decide_eq_true h1
  have h2 := of_decide_eq_true h2
  exact decide_eq_true (by omega)
theorem lx_irrefl {ti : Nat → Int} {i : Nat} : lx ti i i = false := by
  unfold lx
  exact decide_eq_false (by omega)
theorem lx_total {ti : Nat → Int} {i j : Nat} (h : i ≠ j) : lx ti i j = true ∨ lx ti j i = true := by
  unfold lx
  rw [decide_eq_true_eq, decide_eq_true_eq]
  omega
theorem rk_mono {N : Nat} {ho : Nat → Str} {ti : Nat → Int} {a b : Nat} (ha : a < N) (e : ho a = ho b) (h : lx ti a b = true) : rk N ho ti a < rk N ho ti b := by
  rw [rk_eq, rk_eq, e]
  exact filter_lt (fun j => lx ti j a) (fun j => lx ti j b) (fun x hx => lx_trans hx h) (y := a) lx_irrefl h (mem_items.mpr ⟨ha, e⟩)
theorem rk_inj {N : Nat} {ho : Nat → Str} {ti : Nat → Int} {a b : Nat} (ha : a < N) (hb : b < N) (e : ho a = ho b) (h : rk N ho ti a = rk N ho ti b) : a = b := by
  refine Decidable.byContradiction fun ne => ?_
  rcases lx_total (ti := ti) ne with l | l
  · have := rk_mono ha e l
    omega
  · have := rk_mono hb e.symm l
    omega
theorem rk_time {N : Nat} {ho : Nat → Str} {ti : Nat → Int} {a b : Nat} (ha : a < N) (hb : b < N) (e : ho a = ho b) (h : rk N ho ti a ≤ rk N ho ti b) : ti a ≤ ti b := by
  by_cases ne : a = b
  · rw [ne]
    exact Int.le_refl _
  · rcases lx_total (ti := ti) ne with l | l
    · unfold lx at l
      have := of_decide_eq_true l
      omega
    · have := rk_mono hb e.symm l
      omega
/-! the things of a house, sorted: each stands at its number -/
theorem sorted_rank {N : Nat} {ho : Nat → Str} {ti : Nat → Int} {h : Str} {S : List Nat} (pm : S.Perm (itemsOf N ho h)) (srt : S.Pairwise fun x y => lx ti y x = false) {i a : Nat} (e : S[i]? = some a) : a < N ∧ ho a = h ∧ rk N ho ti a = i := by
  have ma := mem_items.mp (pm.mem_iff.mp (List.mem_of_getElem? e))
  refine ⟨ma.1, ma.2, ?_⟩
  have nd : S.Nodup := pm.nodup_iff.mpr (List.nodup_range.sublist List.filter_sublist)
  have hi := (List.getElem?_eq_some_iff.mp e).1
  rw [rk_eq, ma.2, ← (pm.filter fun j => lx ti j a).length_eq]
  have es : S = S.take i ++ a :: S.drop (i + 1) := by
    have e2 : S.drop i = a :: S.drop (i + 1) := by rw [List.drop_eq_getElem_cons hi, (List.getElem?_eq_some_iff.mp e).2]
    rw [← e2, List.take_append_drop]
  rw [es] at srt nd
  rw [es, List.filter_append, List.length_append]
  have h1 : ((S.take i).filter fun j => lx ti j a) = S.take i := by
    rw [List.filter_eq_self]
    intro x mx
    have ne : x ≠ a := fun z => by
      rw [List.nodup_append] at nd
      exact nd.2.2 x mx a List.mem_cons_self z
    rcases lx_total (ti := ti) ne with l | l
    · exact l
    · have := (List.pairwise_append.mp srt).2.2 x mx a List.mem_cons_self
      rw [l] at this
      cases this
  have h2 : ((a :: S.drop (i + 1)).filter fun j => lx ti j a) = [] := by
    rw [List.filter_eq_nil_iff]
    intro x mx
    rcases List.mem_cons.mp mx with rfl | mx
    · rw [lx_irrefl]
      decide
    · have := (List.pairwise_cons.mp (List.pairwise_append.mp srt).2.1).1 x mx
      rw [this]
      decide
  rw [h1, h2, List.length_take]
  simp
  omega
theorem sorted_has {N : Nat} {ho : Nat → Str} {ti : Nat → Int} {h : Str} {S : List Nat} (pm : S.Perm (itemsOf N ho h)) (srt : S.Pairwise fun x y => lx ti y x = false) {a : Nat} (ha : a < N) (e : ho a = h) : S[rk N ho ti a]? = some a := by
  obtain ⟨i, hi⟩ := List.getElem?_of_mem (pm.mem_iff.mpr (mem_items.mpr ⟨ha, e⟩))
  rw [(sorted_rank pm srt hi).2.2]
  exact hi
/-! ### pairs of a time and a place -/
inductive Prs (H : Hp) : List V → List (Int × Nat) → Prop
  | nil : Prs H [] []
  | cons {t : Addr} {q : Int × Nat} {us : List V} {qs : List (Int × Nat)} : H t = some (.tup [.int q.1, .int (q.2 : Nat)]) → Prs H us qs → Prs H (.ref t :: us) (q :: qs)
theorem Prs.go {H H' : Hp} (s : ∀ b xs, H b = some (.tup xs) → H' b = some (.tup xs)) : ∀ {us : List V} {ks : List (Int × Nat)}, Prs H us ks → Prs H' us ks
  | _, _, .nil => .nil
  | _, _, .cons h r => .cons (s _ _ h) (r.go s)
theorem Prs.snoc {H : Hp} {b : Addr} {k : Int × Nat} (hb : H b = some (.tup [.int k.1, .int (k.2 : Nat)])) : ∀ {us : List V} {ks : List (Int × Nat)}, Prs H us ks → Prs H (us ++ [.ref b]) (ks ++ [k])
  | _, _, .nil => .cons hb .nil
  | _, _, .cons h r => .cons h (r.snoc hb)
theorem Prs.len {H : Hp} : ∀ {us : List V} {ks : List (Int × Nat)}, Prs H us ks → us.length = ks.length
  | _, _, .nil => rfl
  | _, _, .cons _ r => by rw [List.length_cons, List.length_cons, r.len]
def kp (H : Hp) : V → Int × Int
  | .ref t => match H t with
    | some (.tup [.int a, .int b]) => (a, b)
    | _ => (0, 0)
  | _ => (0, 0)
theorem kp_at {H : Hp} {t : Addr} {a b : Int} (h : H t = some (.tup [.int a, .int b])) : kp H (.ref t) = (a, b) := by
  show (match H t with
    | some (.tup [.int a, .int b]) => (a, b)
    | _ => ((0, 0) : Int × Int)) = (a, b)
  rw [h]
def q2 (q : Int × Int) : Int × Nat := (q.1, q.2.toNat)
theorem Prs.each {H : Hp} : ∀ {us : List V} {ks : List (Int × Nat)}, Prs H us ks → (∀ x ∈ us, ∃ t, x = .ref t ∧ H t = some (.tup [.int (kp H x).1, .int (kp H x).2])) ∧ us.map (fun x => q2 (kp H x)) = ks ∧ ∀ x ∈ us, 0 ≤ (kp H x).2
  | _, _, .nil => ⟨fun _ m => (nomatch m), rfl, fun _ m => (nomatch m)⟩
  | _, _, .cons (t := t) (q := q) h r => by
    obtain ⟨r1, r2, r3⟩ := r.each
    have e := kp_at h
    refine ⟨fun x m => ?_, ?_, fun x m => ?_⟩
    · rcases List.mem_cons.mp m with rfl | m
      · exact ⟨t, rfl, by rw [e]; exact h⟩
      · exact r1 x m
    · rw [List.map_cons, r2, e]
      rfl
    · rcases List.mem_cons.mp m with rfl | m
      · rw [e]
        exact Int.natCast_nonneg _
      · exact r3 x m
theorem prs_of {H : Hp} : ∀ {us : List V}, (∀ x ∈ us, ∃ t, x = .ref t ∧ H t = some (.tup [.int (kp H x).1, .int (kp H x).2]) ∧ 0 ≤ (kp H x).2) → Prs H us (us.map fun x => q2 (kp H x))
  | [], _ => .nil
  | x :: us, h => by
    obtain ⟨t, rfl, ht, h0⟩ := h x List.mem_cons_self
    refine .cons ?_ (prs_of fun y m => h y (List.mem_cons_of_mem _ m))
    show H t = some (.tup [.int (kp H (.ref t)).1, .int (((kp H (.ref t)).2.toNat : Nat) : Int)])
    rw [Int.toNat_of_nonneg h0]
    exact ht
/-! the sorted pairs of a house's things stand by their numbers -/
theorem prs_sorted {H : Hp} {N : Nat} {ho : Nat → Str} {ti : Nat → Int} {h : Str} {us ys : List V} (p : Prs H us ((itemsOf N ho h).map fun j => (ti j, j))) (srt : SrtO.Srtd (L2.ltP (kp H)) ys) (stb : SrtO.Stb (L2.ltP (kp H)) ys us) :
    ∃ S : List Nat, Prs H ys (S.map fun j => (ti j, j)) ∧ S.Perm (itemsOf N ho h) ∧ S.Pairwise fun x y => lx ti y x = false := by
  obtain ⟨p1, p2, p3⟩ := p.each
  have hm : ∀ x ∈ ys, x ∈ us := fun x m => stb.perm.mem_iff.mp m
  have py := prs_of (H := H) (us := ys) fun x m => let ⟨t, e1, e2⟩ := p1 x (hm x m); ⟨t, e1, e2, p3 x (hm x m)⟩
  have pe : (ys.map fun x => q2 (kp H x)).Perm ((itemsOf N ho h).map fun j => (ti j, j)) := by
    rw [← p2]
    exact stb.perm.map _
  have each : ∀ q ∈ ys.map fun x => q2 (kp H x), q = (ti q.2, q.2) := fun q m => by
    obtain ⟨j, _, rfl⟩ := List.mem_map.mp (pe.mem_iff.mp m)
    rfl
  refine ⟨(ys.map fun x => q2 (kp H x)).map (·.2), ?_, ?_, ?_⟩
  · have e : ((ys.map fun x => q2 (kp H x)).map (·.2)).map (fun j => (ti j, j)) = ys.map fun x => q2 (kp H x) := by
      rw [List.map_map]
      conv => rhs; rw [← List.map_id (ys.map fun x => q2 (kp H x))]
      exact List.map_congr_left fun q m => (each q m).symm
    rw [e]
    exact py
  · have := pe.map (·.2)
    rw [List.map_map (l := itemsOf N ho h)] at this
    have e : (itemsOf N ho h).map ((fun x : Int × Nat => x.2) ∘ fun j => (ti j, j)) = itemsOf N ho h := by
      conv => rhs; rw [← List.map_id (itemsOf N ho h)]
      rfl
    rw [e] at this
    exact this
  · rw [List.map_map, List.pairwise_map]
    refine List.Pairwise.imp_of_mem (fun {x y} mx my hxy => ?_) srt
    have ex := each _ (List.mem_map.mpr ⟨x, mx, rfl⟩)
    have ey := each _ (List.mem_map.mpr ⟨y, my, rfl⟩)
    have x0 := p3 x (hm x mx)
    have y0 := p3 y (hm y my)
    show lx ti (q2 (kp H y)).2 (q2 (kp H x)).2 = false
    have hx : ti (q2 (kp H x)).2 = (kp H x).1 := (congrArg Prod.fst ex).symm
    have hy : ti (q2 (kp H y)).2 = (kp H y).1 := (congrArg Prod.fst ey).symm
    unfold lx
    rw [hx, hy]
    refine decide_eq_false fun z => ?_
    have hl : ¬ (SrtO.lexB (kp H y) (kp H x) = true) := by
      have : SrtO.lexB (kp H y) (kp H x) = false := hxy
      rw [this]
      decide
    refine hl (SrtO.lexB_iff.mpr ?_)
    rcases z with z | ⟨z1, z2⟩
    · exact .inl z
    · refine .inr ⟨z1, ?_⟩
      have z2 : (kp H y).2.toNat < (kp H x).2.toNat := z2
      omega
theorem nodup_len {A : Type} [DecidableEq A] : ∀ {xs ys : List A}, xs.Nodup → (∀ x ∈ xs, x ∈ ys) → xs.length ≤ ys.length
  | [], _, _, _ => Nat.zero_le _
  | x :: xs, ys, nd, h => by
    have hx := h x List.mem_cons_self
    have nd2 := List.nodup_cons.mp nd
    have ih := nodup_len (ys := ys.erase x) nd2.2 fun y m => (List.mem_erase_of_ne (fun z => nd2.1 (by rw [← z]; exact m))).mpr (h y (List.mem_cons_of_mem _ m))
    rw [List.length_erase_of_mem hx] at ih
    have := List.length_pos_of_mem hx
    rw [List.length_cons]
    omega
/-! ### dicts from places to numbers -/
structure NumD (H : Hp) (N : Nat) (ho : Nat → Str) (ti : Nat → Int) (done : Nat → Prop) (kvs : List (Key × V)) : Prop where
  own : ∀ kv ∈ kvs, ∃ (a : Nat) (b : Addr), kv.1 = .inl (a : Int) ∧ a < N ∧ done a ∧ kv.2 = .ref b ∧ H b = some (.tup [.str (ho a), .int (rk N ho ti a : Nat)])
  all : ∀ a, a < N → done a → ∃ v, ((.inl (a : Int) : Key), v) ∈ kvs
  nd : (kvs.map (·.1)).Nodup
theorem NumD.go {H H' : Hp} {N : Nat} {ho : Nat → Str} {ti : Nat → Int} {done : Nat → Prop} {kvs : List (Key × V)} (h : NumD H N ho ti done kvs) (s : ∀ b xs, H b = some (.tup xs) → H' b = some (.tup xs)) : NumD H' N ho ti done kvs :=
  ⟨fun kv m => let ⟨a, b, e1, e2, e3, e4, e5⟩ := h.own kv m; ⟨a, b, e1, e2, e3, e4, s _ _ e5⟩, h.all, h.nd⟩
theorem NumD.iff {H : Hp} {N : Nat} {ho : Nat → Str} {ti : Nat → Int} {done done' : Nat → Prop} {kvs : List (Key × V)} (h : NumD H N ho ti done kvs) (e : ∀ a, a < N → (done a ↔ done' a)) : NumD H N ho ti done' kvs :=
  ⟨fun kv m => let ⟨a, b, e1, e2, e3, e4, e5⟩ := h.own kv m; ⟨a, b, e1, e2, (e a e2).mp e3, e4, e5⟩, fun a ha hd => h.all a ha ((e a ha).mpr hd), h.nd⟩
theorem NumD.put {H : Hp} {N : Nat} {ho : Nat → Str} {ti : Nat → Int} {done : Nat → Prop} {kvs : List (Key × V)} {a : Nat} {b : Addr} (h : NumD H N ho ti done kvs) (ha : a < N) (hb : H b = some (.tup [.str (ho a), .int (rk N ho ti a : Nat)])) : NumD H N ho ti (fun x => done x ∨ x = a) (putK kvs (.inl (a : Int)) (.ref b)) where
  own := fun kv m => by
    rcases put_mem m with ⟨m, _⟩ | rfl
    · obtain ⟨x, c, e1, e2, e3, e4, e5⟩ := h.own kv m
      exact ⟨x, c, e1, e2, .inl e3, e4, e5⟩
    · exact ⟨a, b, rfl, ha, .inr rfl, rfl, hb⟩
  all := fun x hx hd => by
    rcases hd with hd | rfl
    · obtain ⟨v, m⟩ := h.all x hx hd
      exact put_keep m
    · exact ⟨_, put_self _ _ _⟩
  nd := put_nd h.nd
theorem NumD.len {H : Hp} {N : Nat} {ho : Nat → Str} {ti : Nat → Int} {done : Nat → Prop} {kvs : List (Key × V)} (h : NumD H N ho ti done kvs) : kvs.length ≤ N := by
  have hs : ∀ k ∈ kvs.map (·.1), k ∈ (List.range N).map fun a : Nat => (Sum.inl (a : Int) : Key) := fun k m => by
    obtain ⟨kv, mk, rfl⟩ := List.mem_map.mp m
    obtain ⟨a, b, e1, e2, _⟩ := h.own kv mk
    rw [e1]
    exact List.mem_map.mpr ⟨a, List.mem_range.mpr e2, rfl⟩
  have := nodup_len h.nd hs
  rw [List.length_map, List.length_map, List.length_range] at this
  exact this
theorem NumD.at {H : Hp} {N : Nat} {ho : Nat → Str} {ti : Nat → Int} {done : Nat → Prop} {kvs : List (Key × V)} (h : NumD H N ho ti done kvs) {a : Nat} (ha : a < N) (hd : done a) : ∃ b, valV kvs (.inl (a : Int)) = some (.ref b) ∧ H b = some (.tup [.str (ho a), .int (rk N ho ti a : Nat)]) := by
  cases e : valV kvs (.inl (a : Int)) with
  | none =>
    obtain ⟨v, m⟩ := h.all a ha hd
    exact absurd m (val_none e v)
  | some v =>
    obtain ⟨x, b, e1, e2, e3, e4, e5⟩ := h.own _ (val_mem e)
    have e1 : (a : Int) = (x : Int) := Sum.inl.inj e1
    obtain rfl : a = x := Int.ofNat.inj e1
    exact ⟨b, by rw [← e4], e5⟩
def hoJ (js : List WJ) (i : Nat) : Str := match js[i]? with
  | some j => j.h
  | none => ""
def tiJ (js : List WJ) (i : Nat) : Int := match js[i]? with
  | some j => j.b
  | none => 0
def hoA (js : List WJ) (as : List WA) (i : Nat) : Str := match as[i]? with
  | some x => hoJ js x.pl
  | none => ""
def tiA (as : List WA) (i : Nat) : Int := match as[i]? with
  | some x => x.o
  | none => 0
def sp_called : Sp := fun vs H Q _ => ∃ (t w lj la : Addr) (hs gs : List Str) (rs qs : List Addr) (js : List WJ) (as : List WA) (most : Int), vs = [.ref t, .ref w] ∧ TownAt H t hs gs ∧ WorldAt H w lj la rs qs js as most ∧ js.length ≤ 500 ∧ as.length ≤ 500 ∧
  ∀ (p dA dJ : Addr) (kA kJ : List (Key × V)) (H' : Hp), Same H H' → H' p = some (.tup [.ref dA, .ref dJ]) → H' dA = some (.dK kA) → H' dJ = some (.dK kJ) → H dA = none → H dJ = none → NumD H' as.length (hoA js as) (tiA as) (fun a => hoA js as a ∈ hs) kA → NumD H' js.length (hoJ js) (tiJ js) (fun a => hoJ js a ∈ hs) kJ → Q (.ref p) H'
theorem items_succ (k : Nat) (ho : Nat → Str) (h : Str) : itemsOf (k + 1) ho h = itemsOf k ho h ++ (if ho k = h then [k] else []) := by
  unfold itemsOf
  rw [List.range_succ, filter_snoc]
  congr 1
  by_cases e : ho k = h <;> simp [e]
theorem items_len (k : Nat) (ho : Nat → Str) (h : Str) : (itemsOf k ho h).length ≤ k := by
  unfold itemsOf
  exact Nat.le_trans (List.length_filter_le _ _) (by rw [List.length_range]; exact Nat.le_refl _)
theorem Prs.at {H : Hp} : ∀ {us : List V} {ks : List (Int × Nat)} {i : Nat} {k : Int × Nat}, Prs H us ks → ks[i]? = some k → ∃ t, us[i]? = some (.ref t) ∧ H t = some (.tup [.int k.1, .int (k.2 : Nat)])
  | _, _, 0, _, .cons h _, e => ⟨_, rfl, by obtain rfl := Option.some.inj e; exact h⟩
  | _, _, _ + 1, _, .cons _ r, e => r.at e
def Kp (d : Addr) (H H' : Hp) : Prop := ∀ b o, b ≠ d → H b = some o → H' b = some o
set_option maxHeartbeats 16000000 in
theorem ok_l_called (T : Txt K mg af fd) : FnOk P w K mg base CX0 1 (af 48) (fd 48) ["town", "world"] sp_called := by
  refine T.F_l_called.ok sc_l_called (fun vs H Q E h => ?_) (fun cdv A outer s H vs Q E hr h => ?_)
  · obtain ⟨t, w, lj, la, hs, gs, rs, qs, js, as, most, rfl, _⟩ := h
    rfl
  · obtain ⟨t, w, lj, la, hs, gs, rs, qs, js, as, most, rfl, ⟨ta, tb, t1, t2, t3⟩, W, lenj, lena, q⟩ := h
    refine ⟨_, (pss_cons (ps_set (i := 2) sc_l_called.nd rfl (by first | exact Or.inl rfl | exact Or.inr rfl) pe_dnewK)
        (pss_cons (ps_set (i := 3) sc_l_called.nd rfl (by first | exact Or.inl rfl | exact Or.inr rfl) pe_dnewK)
        (pss_cons (ps_for PassesOwn.never rfl (pi_tup (pe_ix ix_tup (pv 0) pe_int (fun _ _ => rfl))) (pg_name (i := 4) sc_l_called.nd rfl (by first | exact Or.inl rfl | exact Or.inr rfl)) (pss_cons (ps_set (i := 5) sc_l_called.nd rfl (by first | exact Or.inl rfl | exact Or.inr rfl) (pe_callB cr_sortedPO (by rfl) T.m_sorted (by decide +kernel) (pa_cons (pe_lc (own := [("at", 6), ("ask", 7)]) (g := gTup K 2 (gCons (gName 6) (gCons (gName 7) gNil))) (by rfl) sc_l_called.nd (pi_enum (by rfl) T.m_enumerate (pa_cons (pe_ix ix_list (pv 1) pe_int (fun _ _ => rfl)) pa_nil)) (blkOk_by (own := [("at", 6), ("ask", 7)]) (N := ["town", "world", "asks", "jobs", "house", "outs", "at", "ask", "begins", "place", "job", "number"]) (sc := defScope s_l_called) (by decide +kernel)) (fun _ _ _ _ _ => pg_tup rfl (pgs_cons (pg_name (i := 6) sc_l_called.nd rfl (Or.inl rfl)) (pgs_cons (pg_name (i := 7) sc_l_called.nd rfl (Or.inl rfl)) pgs_nil))) (fun _ _ _ _ _ => (pts_one (pt_cmpR op_eq (pe_ix (show IxR _ (rIxL K) from ix_list) (pe_ix (show IxR _ (rIxL K) from ix_list) (pe_ix (show IxR _ (rIxL K) from ix_list) (pv 1) pe_int (fun _ _ => rfl)) (pe_ix (show IxR _ (rIxL K) from ix_list) (pv 7) pe_int (fun _ _ => rfl)) (fun _ _ => rfl)) pe_int (fun _ _ => rfl)) (pv 4) (nomark _)))) (fun _ _ _ _ _ => (pe_tup (pa_cons (pe_ix (show IxR _ (rIxL K) from ix_list) (pv 7) pe_int (fun _ _ => rfl)) (pa_cons (pv 6) pa_nil))))) pa_nil)))
        (pss_cons (ps_set (i := 8) sc_l_called.nd rfl (by first | exact Or.inl rfl | exact Or.inr rfl) (pe_callB cr_sortedPO (by rfl) T.m_sorted (by decide +kernel) (pa_cons (pe_lc (own := [("place", 9), ("job", 10)]) (g := gTup K 2 (gCons (gName 9) (gCons (gName 10) gNil))) (by rfl) sc_l_called.nd (pi_enum (by rfl) T.m_enumerate (pa_cons (pe_ix (show IxR _ (rIxL K) from ix_list) (pv 1) pe_int (fun _ _ => rfl)) pa_nil)) (blkOk_by (own := [("place", 9), ("job", 10)]) (N := ["town", "world", "asks", "jobs", "house", "outs", "at", "ask", "begins", "place", "job", "number"]) (sc := defScope s_l_called) (by decide +kernel)) (fun _ _ _ _ _ => pg_tup rfl (pgs_cons (pg_name (i := 9) sc_l_called.nd rfl (Or.inl rfl)) (pgs_cons (pg_name (i := 10) sc_l_called.nd rfl (Or.inl rfl)) pgs_nil))) (fun _ _ _ _ _ => (pts_one (pt_cmpR op_eq (pe_ix (show IxR _ (rIxL K) from ix_list) (pv 10) pe_int (fun _ _ => rfl)) (pv 4) (nomark _)))) (fun _ _ _ _ _ => (pe_tup (pa_cons (pe_ix (show IxR _ (rIxL K) from ix_list) (pv 10) pe_int (fun _ _ => rfl)) (pa_cons (pv 9) pa_nil))))) pa_nil)))
        (pss_cons (ps_for PassesOwn.never rfl (pi_range1 (by rfl) T.m_range (pa_cons (pe_callB call_len_seq (by rfl) T.m_len (by decide +kernel) (pa_cons (pv 5) pa_nil)) pa_nil)) (pg_name (i := 11) sc_l_called.nd rfl (by first | exact Or.inl rfl | exact Or.inr rfl)) (pss_one (ps_dput (hu_of hr) (pv 2) (pe_ix ix_tup (pe_ix ix_list (pv 5) (pv 11) (fun _ _ => rfl)) pe_int (fun _ _ => rfl)) (pe_tup (pa_cons (pv 4) (pa_cons (pv 11) pa_nil))) rfl)))
        (pss_one (ps_for PassesOwn.never rfl (pi_range1 (by rfl) T.m_range (pa_cons (pe_callB call_len_seq (by rfl) T.m_len (by decide +kernel) (pa_cons (pv 8) pa_nil)) pa_nil)) (pg_name (i := 11) sc_l_called.nd rfl (by first | exact Or.inl rfl | exact Or.inr rfl)) (pss_one (ps_dput (hu_of hr) (pv 3) (pe_ix ix_tup (pe_ix ix_list (pv 8) (pv 11) (fun _ _ => rfl)) pe_int (fun _ _ => rfl)) (pe_tup (pa_cons (pv 4) (pa_cons (pv 11) pa_nil))) rfl))))))))
        (pss_one (ps_ret (pe_tup (pa_cons (pv 2) (pa_cons (pv 3) pa_nil)))))))), ?_⟩
    intro dA ndA dJ ndJ
    have ndJ0 : H dJ = none := (same_upd ndA).free ndJ
    have neAJ : dA ≠ dJ := ne_of_none upd_same ndJ
    have s0 : Same H (upd (upd H dA (.dK [])) dJ (.dK [])) := (same_upd ndA).trans (same_upd ndJ)
    have hA0 : (upd (upd H dA (.dK [])) dJ (.dK [])) dA = some (.dK []) := by rw [upd_ne neAJ, upd_same]
    have hJ0 : (upd (upd H dA (.dK [])) dJ (.dK [])) dJ = some (.dK []) := upd_same
    generalize upd (upd H dA (.dK [])) dJ (.dK []) = H0 at s0 hA0 hJ0 ⊢
    refine ⟨_, rfl, t, _, 0, _, rfl, rfl, SqT.of (s0 _ _ t1), rfl, ta, rfl, ⟨_, SqT.of (s0 _ _ t2)⟩, ?_⟩
    refine for_it (walk_tup (K := K) (a := ta) (xs := hs.map V.str)) (fun i σ H' => (∃ v4 v5 v6 v7 v8 v9 v10 v11 : Option V, σ = [some (.ref t), some (.ref w), some (.ref dA), some (.ref dJ), v4, v5, v6, v7, v8, v9, v10, v11]) ∧ Same H H' ∧ ∃ kA kJ, H' dA = some (.dK kA) ∧ H' dJ = some (.dK kJ) ∧ NumD H' as.length (hoA js as) (tiA as) (fun a => hoA js as a ∈ hs.take i) kA ∧ NumD H' js.length (hoJ js) (tiJ js) (fun a => hoJ js a ∈ hs.take i) kJ)
      ⟨⟨none, none, none, none, none, none, none, none, rfl⟩, s0, [], [], hA0, hJ0, ⟨fun _ m => (nomatch m), (fun a _ h => by rw [List.take_zero] at h; exact nomatch h), List.nodup_nil⟩, ⟨fun _ m => (nomatch m), (fun a _ h => by rw [List.take_zero] at h; exact nomatch h), List.nodup_nil⟩⟩ (fun i σ H' _ h => SqT.of (h.2.1 _ _ t2)) ?_ ?_
    · rintro i v σ H1 H2 hi ⟨⟨v4, v5, v6, v7, v8, v9, v10, v11, rfl⟩, s1, kA, kJ, hA, hJ, nA, nJ⟩ ⟨rfl, ev⟩
      rw [List.length_map] at hi
      have eh : hs[i]? = some hs[i] := List.getElem?_eq_getElem hi
      generalize hs[i] = h at eh
      rw [List.getElem?_map, eh] at ev
      obtain rfl : V.str h = v := Option.some.inj ev
      have W1 := W.same s1
      -- outs
      refine ⟨_, rfl, w, _, 1, _, rfl, rfl, SqL.of W1.w, rfl, la, qs.map V.ref, rfl, SqL.of W1.a, fun D nD => ?_⟩
      refine lc_it (walk_enum (K := K) (a := la) (xs := qs.map V.ref)) (fun k H' => Same H2 H' ∧ ∃ us, H' D = some (.lst us) ∧ Prs H' us ((itemsOf k (hoA js as) h).map fun j => (tiA as j, j)))
        ⟨same_upd nD, [], upd_same, .nil⟩ (fun k H' _ h => SqL.of (h.1 _ _ W1.a)) ?_ ?_
      · rintro k v G1 G2 hk ⟨g1, us, hD, pr⟩ ⟨Tp, x1, x2, rfl, nT, rfl, e1, e2⟩
        obtain rfl : V.int (k : Nat) = x1 := Option.some.inj e1
        have e2 : (qs.map V.ref)[k]? = some x2 := e2
        rw [List.getElem?_map] at e2
        obtain ⟨r, hr1, rfl⟩ := Option.map_eq_some_iff.mp e2
        have hka : k < as.length := by rw [← W.ca.1]; exact (List.getElem?_eq_some_iff.mp hr1).1
        have hx : as[k]? = some as[k] := List.getElem?_eq_getElem hka
        generalize as[k] = x at hx
        have g2 : Same H2 (upd G1 Tp (.tup [.int (k : Nat), .ref r])) := same_mut g1 (g1.free nT)
        have hDT : (upd G1 Tp (.tup [.int (k : Nat), .ref r])) D = some (.lst us) := by rw [upd_ne (ne_of_none hD nT)]; exact hD
        have prT := pr.go (H' := upd G1 Tp (.tup [.int (k : Nat), .ref r])) fun b ys e => (same_upd nT) _ _ e
        refine ⟨Tp, _, rfl, SqT.of upd_same, rfl, _, _, rfl, _, _, rfl, rfl, rfl, ?_⟩
        generalize upd G1 Tp (.tup [.int (k : Nat), .ref r]) = G3 at g2 hDT prT ⊢
        have W2 := W1.same g2
        have hr2 := W2.ca.2 k r x hr1 hx
        have hpl := W.pl x (List.mem_of_getElem? hx)
        have hj : js[x.pl]? = some js[x.pl] := List.getElem?_eq_getElem hpl
        generalize js[x.pl] = j at hj
        obtain ⟨rj, erj, hrj⟩ := W2.cj.at hj
        have eho : hoA js as k = j.h := by unfold hoA hoJ; rw [hx]; show (match js[x.pl]? with | some j => j.h | none => "") = _; rw [hj]
        have eti : tiA as k = x.o := by unfold tiA; rw [hx]
        have l1 := prT.len
        rw [List.length_map] at l1
        have l2 := items_len k (hoA js as) h
        refine ⟨_, rfl, w, _, 0, _, rfl, rfl, SqL.of W2.w, rfl, _, rfl, r, _, 0, _, rfl, rfl, SqL.of hr2, rfl, lj, _, _, _, rfl, rfl, SqL.of W2.j, atI_nat (map_ref erj), rj, _, 0, _, rfl, rfl, SqL.of hrj, rfl, _, rfl, rfl, _, rfl, ?_⟩
        by_cases e : j.h = h
        · refine iteTd (congrArg V.str e) ⟨_, rfl, r, _, 2, _, rfl, rfl, SqL.of hr2, rfl, _, rfl, (by show 2 ≤ sizeLine; decide), fun b nb => ?_⟩
          have hDb : (upd G3 b (.tup [.int x.o, .int (k : Nat)])) D = some (.lst us) := by rw [upd_ne (ne_of_none hDT nb)]; exact hDT
          refine ⟨us, hDb, small_line (by omega), same_mut (same_mut g2 (g2.free nb)) nD, _, upd_same, ?_⟩
          rw [items_succ, if_pos (eho.trans e), List.map_append]
          refine (prT.go fun c ys ec => ?_).snoc (k := (tiA as k, k)) ?_
          · rw [upd_ne (ne_of ec hDT (fun z => nomatch z)), upd_ne (ne_of_none ec nb)]
            exact ec
          · rw [upd_ne (fun z => by rw [z] at nb; rw [nb] at hDT; cases hDT), upd_same, eti]
        · refine iteFd (fun z => e (V.str.inj z)) ⟨g2, us, hDT, ?_⟩
          rw [items_succ, if_neg (fun z => e (eho.symm.trans z)), List.append_nil]
          exact prT
      rintro G1 ⟨g1, us, hD, pr⟩
      rw [List.length_map, W.ca.1] at pr
      obtain ⟨pe1, _, _⟩ := pr.each
      refine ⟨D, us, kp G1, rfl, SqL.of hD, pe1, fun ys pO srt stb npO => ?_⟩
      obtain ⟨SA, pA, pmA, srA⟩ := prs_sorted pr srt stb
      have g2 := g1.trans (same_upd (o := .lst ys) npO)
      have hO : (upd G1 pO (.lst ys)) pO = some (.lst ys) := upd_same
      have pA := pA.go (H' := upd G1 pO (.lst ys)) fun b zs e => (same_upd npO) _ _ e
      generalize upd G1 pO (.lst ys) = G2 at g2 hO pA ⊢
      have W2 := W1.same g2
      -- begins
      refine ⟨_, rfl, w, _, 0, _, rfl, rfl, SqL.of W2.w, rfl, lj, rs.map V.ref, rfl, SqL.of W2.j, fun D nD => ?_⟩
      refine lc_it (walk_enum (K := K) (a := lj) (xs := rs.map V.ref)) (fun k H' => Same G2 H' ∧ ∃ us, H' D = some (.lst us) ∧ Prs H' us ((itemsOf k (hoJ js) h).map fun j => (tiJ js j, j)))
        ⟨same_upd nD, [], upd_same, .nil⟩ (fun k H' _ h => SqL.of (h.1 _ _ W2.j)) ?_ ?_
      · rintro k v F1 F2 hk ⟨f1, us, hD, pr⟩ ⟨Tp, x1, x2, rfl, nT, rfl, e1, e2⟩
        obtain rfl : V.int (k : Nat) = x1 := Option.some.inj e1
        have e2 : (rs.map V.ref)[k]? = some x2 := e2
        rw [List.getElem?_map] at e2
        obtain ⟨r, hr1, rfl⟩ := Option.map_eq_some_iff.mp e2
        have hkj : k < js.length := by rw [← W.cj.1]; exact (List.getElem?_eq_some_iff.mp hr1).1
        have hx : js[k]? = some js[k] := List.getElem?_eq_getElem hkj
        generalize js[k] = j at hx
        have f2 : Same G2 (upd F1 Tp (.tup [.int (k : Nat), .ref r])) := same_mut f1 (f1.free nT)
        have hDT : (upd F1 Tp (.tup [.int (k : Nat), .ref r])) D = some (.lst us) := by rw [upd_ne (ne_of_none hD nT)]; exact hD
        have prT := pr.go (H' := upd F1 Tp (.tup [.int (k : Nat), .ref r])) fun b ys e => (same_upd nT) _ _ e
        refine ⟨Tp, _, rfl, SqT.of upd_same, rfl, _, _, rfl, _, _, rfl, rfl, rfl, ?_⟩
        generalize upd F1 Tp (.tup [.int (k : Nat), .ref r]) = F3 at f2 hDT prT ⊢
        have hr2 := (W2.same f2).cj.2 k r j hr1 hx
        have eho : hoJ js k = j.h := by unfold hoJ; rw [hx]
        have eti : tiJ js k = j.b := by unfold tiJ; rw [hx]
        have l1 := prT.len
        rw [List.length_map] at l1
        have l2 := items_len k (hoJ js) h
        refine ⟨_, rfl, r, _, 0, _, rfl, rfl, SqL.of hr2, rfl, _, rfl, rfl, _, rfl, ?_⟩
        by_cases e : j.h = h
        · refine iteTd (congrArg V.str e) ⟨_, rfl, r, _, 1, _, rfl, rfl, SqL.of hr2, rfl, _, rfl, (by show 2 ≤ sizeLine; decide), fun b nb => ?_⟩
          have hDb : (upd F3 b (.tup [.int j.b, .int (k : Nat)])) D = some (.lst us) := by rw [upd_ne (ne_of_none hDT nb)]; exact hDT
          refine ⟨us, hDb, small_line (by omega), same_mut (same_mut f2 (f2.free nb)) nD, _, upd_same, ?_⟩
          rw [items_succ, if_pos (eho.trans e), List.map_append]
          refine (prT.go fun c ys ec => ?_).snoc (k := (tiJ js k, k)) ?_
          · rw [upd_ne (ne_of ec hDT (fun z => nomatch z)), upd_ne (ne_of_none ec nb)]
            exact ec
          · rw [upd_ne (fun z => by rw [z] at nb; rw [nb] at hDT; cases hDT), upd_same, eti]
        · refine iteFd (fun z => e (V.str.inj z)) ⟨f2, us, hDT, ?_⟩
          rw [items_succ, if_neg (fun z => e (eho.symm.trans z)), List.append_nil]
          exact prT
      rintro F1 ⟨f1, us, hD, pr⟩
      rw [List.length_map, W.cj.1] at pr
      obtain ⟨pe1, _, _⟩ := pr.each
      refine ⟨D, us, kp F1, rfl, SqL.of hD, pe1, fun zs pB srt stb npB => ?_⟩
      obtain ⟨SJ, pJ, pmJ, srJ⟩ := prs_sorted pr srt stb
      have f2 := f1.trans (same_upd (o := .lst zs) npB)
      have hB : (upd F1 pB (.lst zs)) pB = some (.lst zs) := upd_same
      have pJ := pJ.go (H' := upd F1 pB (.lst zs)) fun b ys e => (same_upd npB) _ _ e
      generalize upd F1 pB (.lst zs) = F2 at f2 hB pJ ⊢
      have gF := g2.trans f2
      have hO := f2 _ _ hO
      have pA := pA.go (H' := F2) fun b xs e => f2 _ _ e
      have hA := gF _ _ hA
      have hJ := gF _ _ hJ
      have nA := nA.go (H' := F2) fun b xs e => gF _ _ e
      have nJ := nJ.go (H' := F2) fun b xs e => gF _ _ e
      have sF := s1.trans gF
      have lA := pA.len
      rw [List.length_map] at lA
      have lA2 : SA.length ≤ 500 := by rw [pmA.length_eq]; exact Nat.le_trans (items_len _ _ _) lena
      have lJ := pJ.len
      rw [List.length_map] at lJ
      have lJ2 : SJ.length ≤ 500 := by rw [pmJ.length_eq]; exact Nat.le_trans (items_len _ _ _) lenj
      clear hD pr pe1 srt stb npB f1
      -- the asks
      refine ⟨_, rfl, pO, _, rfl, .inl (SqL.of hO), _, rfl, by omega, by omega, for_range (lo := 0) (n := ((ys.length : Int)).toNat) (fun n σ H' => (∃ v6 v7 v9 v10 v11 : Option V, σ = [some (.ref t), some (.ref w), some (.ref dA), some (.ref dJ), some (.str h), some (.ref pO), v6, v7, some (.ref pB), v9, v10, v11]) ∧ Kp dA F2 H' ∧ ∃ kA, H' dA = some (.dK kA) ∧ NumD H' as.length (hoA js as) (tiA as) (fun a => hoA js as a ∈ hs.take i ∨ (hoA js as a = h ∧ rk as.length (hoA js as) (tiA as) a < n)) kA)
        ⟨⟨_, _, _, _, _, rfl⟩, fun b o _ e => e, kA, hA, nA.iff fun a _ => ⟨fun z => .inl z, fun z => z.elim (fun z => z) fun z => absurd z.2 (Nat.not_lt_zero _)⟩⟩ ?_ ?_⟩
      · rintro n σ G hn ⟨⟨v6, v7, v9, v10, v11, rfl⟩, kG, kA2, hA2, nA2⟩
        rw [Int.toNat_natCast] at hn
        have hnS : n < SA.length := by omega
        have eS : SA[n]? = some SA[n] := List.getElem?_eq_getElem hnS
        generalize SA[n] = a at eS
        obtain ⟨a1, a2, a3⟩ := sorted_rank pmA srA eS
        obtain ⟨tq, etq, htq⟩ := pA.at (i := n) (k := (tiA as a, a)) (by rw [List.getElem?_map, eS]; rfl)
        have hOG : G pO = some (.lst ys) := kG _ _ (ne_of hO hA (fun z => nomatch z)) hO
        have htG := kG _ _ (ne_of htq hA (fun z => nomatch z)) htq
        refine ⟨_, rfl, _, rfl, (by show 2 ≤ sizeLine; decide), fun b nb => ?_⟩
        have sb : Same G (upd G b (.tup [.str h, .int (0 + (n : Nat))])) := same_upd nb
        have hbb : (upd G b (.tup [.str h, .int (0 + (n : Nat))])) b = some (.tup [.str (hoA js as a), .int (rk as.length (hoA js as) (tiA as) a : Nat)]) := by rw [upd_same, a2, a3, Int.zero_add]
        generalize upd G b (.tup [.str h, .int (0 + (n : Nat))]) = G2 at sb hbb ⊢
        have hk2 := nA2.len
        refine ⟨_, rfl, _, rfl, _, rfl, pO, _, _, .ref tq, rfl, rfl, SqL.of (sb _ _ hOG), at_any (j := n) (by omega) etq, tq, _, 1, _, rfl, rfl, SqT.of (sb _ _ htG), rfl, dA, _, rfl, DPut.k (k := Sum.inl (a : Int)) (sb _ _ hA2) (small_line (by omega)), ?_⟩
        have tup : ∀ c xs, G2 c = some (.tup xs) → (upd G2 dA (.dK (putK kA2 (Sum.inl (a : Int)) (.ref b)))) c = some (.tup xs) := fun c xs e => by
          rw [upd_ne (ne_of e (sb _ _ hA2) (fun z => nomatch z))]
          exact e
        refine ⟨⟨_, _, _, _, _, rfl⟩, fun c o nc e => by rw [upd_ne nc]; exact sb _ _ (kG c o nc e), _, upd_same, ?_⟩
        refine ((((nA2.go fun c xs e => sb _ _ e).put a1 hbb).go tup).iff fun x hx => ?_)
        constructor
        · rintro ((h1 | ⟨h1, h2⟩) | rfl)
          · exact .inl h1
          · exact .inr ⟨h1, by omega⟩
          · exact .inr ⟨a2, by omega⟩
        · rintro (h1 | ⟨h1, h2⟩)
          · exact .inl (.inl h1)
          · by_cases e : rk as.length (hoA js as) (tiA as) x = n
            · exact .inr (rk_inj hx a1 (h1.trans a2.symm) (e.trans a3.symm))
            · exact .inl (.inr ⟨h1, by omega⟩)
      rintro σ G ⟨⟨v6, v7, v9, v10, v11, rfl⟩, kG, kA2, hA2, nA2⟩
      rw [Int.toNat_natCast, lA] at nA2
      have nA3 : NumD G as.length (hoA js as) (tiA as) (fun a => hoA js as a ∈ hs.take (i + 1)) kA2 := nA2.iff fun a ha => by
        rw [take_snoc eh, List.mem_append, List.mem_singleton]
        constructor
        · exact fun z => z.elim .inl fun z => .inr z.1
        · refine fun z => z.elim .inl fun z => .inr ⟨z, ?_⟩
          rw [pmA.length_eq, ← z]
          exact rk_lt ha
      have hBG : G pB = some (.lst zs) := kG _ _ (ne_of hB hA (fun z => nomatch z)) hB
      have hJG : G dJ = some (.dK kJ) := kG _ _ (Ne.symm neAJ) hJ
      have nJG := nJ.go (H' := G) fun b xs e => kG _ _ (ne_of e hA (fun z => nomatch z)) e
      have pJG := pJ.go (H' := G) fun b xs e => kG _ _ (ne_of e hA (fun z => nomatch z)) e
      have sG : Same H G := fun b o e => kG b o (ne_of_none e ndA) (sF b o e)
      -- the jobs
      refine ⟨_, rfl, pB, _, rfl, .inl (SqL.of hBG), _, rfl, by omega, by omega, for_range (lo := 0) (n := ((zs.length : Int)).toNat) (fun n σ H' => (∃ v6 v7 v9 v10 v11 : Option V, σ = [some (.ref t), some (.ref w), some (.ref dA), some (.ref dJ), some (.str h), some (.ref pO), v6, v7, some (.ref pB), v9, v10, v11]) ∧ Kp dJ G H' ∧ ∃ kJ, H' dJ = some (.dK kJ) ∧ NumD H' js.length (hoJ js) (tiJ js) (fun a => hoJ js a ∈ hs.take i ∨ (hoJ js a = h ∧ rk js.length (hoJ js) (tiJ js) a < n)) kJ)
        ⟨⟨_, _, _, _, _, rfl⟩, fun b o _ e => e, kJ, hJG, nJG.iff fun a _ => ⟨fun z => .inl z, fun z => z.elim (fun z => z) fun z => absurd z.2 (Nat.not_lt_zero _)⟩⟩ ?_ ?_⟩
      · rintro n σ M hn ⟨⟨v6, v7, v9, v10, v11, rfl⟩, kM, kJ2, hJ2, nJ2⟩
        rw [Int.toNat_natCast] at hn
        have hnS : n < SJ.length := by omega
        have eS : SJ[n]? = some SJ[n] := List.getElem?_eq_getElem hnS
        generalize SJ[n] = a at eS
        obtain ⟨a1, a2, a3⟩ := sorted_rank pmJ srJ eS
        obtain ⟨tq, etq, htq⟩ := pJG.at (i := n) (k := (tiJ js a, a)) (by rw [List.getElem?_map, eS]; rfl)
        have hBM : M pB = some (.lst zs) := kM _ _ (ne_of hBG hJG (fun z => nomatch z)) hBG
        have htM := kM _ _ (ne_of htq hJG (fun z => nomatch z)) htq
        refine ⟨_, rfl, _, rfl, (by show 2 ≤ sizeLine; decide), fun b nb => ?_⟩
        have sb : Same M (upd M b (.tup [.str h, .int (0 + (n : Nat))])) := same_upd nb
        have hbb : (upd M b (.tup [.str h, .int (0 + (n : Nat))])) b = some (.tup [.str (hoJ js a), .int (rk js.length (hoJ js) (tiJ js) a : Nat)]) := by rw [upd_same, a2, a3, Int.zero_add]
        generalize upd M b (.tup [.str h, .int (0 + (n : Nat))]) = M2 at sb hbb ⊢
        have hk2 := nJ2.len
        refine ⟨_, rfl, _, rfl, _, rfl, pB, _, _, .ref tq, rfl, rfl, SqL.of (sb _ _ hBM), at_any (j := n) (by omega) etq, tq, _, 1, _, rfl, rfl, SqT.of (sb _ _ htM), rfl, dJ, _, rfl, DPut.k (k := Sum.inl (a : Int)) (sb _ _ hJ2) (small_line (by omega)), ?_⟩
        have tup : ∀ c xs, M2 c = some (.tup xs) → (upd M2 dJ (.dK (putK kJ2 (Sum.inl (a : Int)) (.ref b)))) c = some (.tup xs) := fun c xs e => by
          rw [upd_ne (ne_of e (sb _ _ hJ2) (fun z => nomatch z))]
          exact e
        refine ⟨⟨_, _, _, _, _, rfl⟩, fun c o nc e => by rw [upd_ne nc]; exact sb _ _ (kM c o nc e), _, upd_same, ?_⟩
        refine ((((nJ2.go fun c xs e => sb _ _ e).put a1 hbb).go tup).iff fun x hx => ?_)
        constructor
        · rintro ((h1 | ⟨h1, h2⟩) | rfl)
          · exact .inl h1
          · exact .inr ⟨h1, by omega⟩
          · exact .inr ⟨a2, by omega⟩
        · rintro (h1 | ⟨h1, h2⟩)
          · exact .inl (.inl h1)
          · by_cases e : rk js.length (hoJ js) (tiJ js) x = n
            · exact .inr (rk_inj hx a1 (h1.trans a2.symm) (e.trans a3.symm))
            · exact .inl (.inr ⟨h1, by omega⟩)
      rintro σ M ⟨⟨v6, v7, v9, v10, v11, rfl⟩, kM, kJ2, hJ2, nJ2⟩
      rw [Int.toNat_natCast, lJ] at nJ2
      refine ⟨⟨_, _, _, _, _, _, _, _, rfl⟩, fun b o e => kM b o (ne_of_none e ndJ0) (sG b o e), kA2, kJ2, kM _ _ neAJ hA2, hJ2, nA3.go fun b xs e => kM _ _ (ne_of e hJG (fun z => nomatch z)) e, nJ2.iff fun a ha => ?_⟩
      rw [take_snoc eh, List.mem_append, List.mem_singleton]
      constructor
      · exact fun z => z.elim .inl fun z => .inr z.1
      · refine fun z => z.elim .inl fun z => .inr ⟨z, ?_⟩
        rw [pmJ.length_eq, ← z]
        exact rk_lt ha
    · rintro σ H1 ⟨⟨v4, v5, v6, v7, v8, v9, v10, v11, rfl⟩, s1, kA, kJ, hA, hJ, nA, nJ⟩
      rw [List.length_map, List.take_length] at nA nJ
      refine ⟨_, rfl, _, rfl, (by show 2 ≤ sizeLine; decide), fun p np => ?_⟩
      have sp := same_upd (o := .tup [.ref dA, .ref dJ]) np
      exact q p dA dJ kA kJ _ (s1.trans sp) upd_same (sp _ _ hA) (sp _ _ hJ) ndA ndJ0 (nA.go fun b xs e => sp _ _ e) (nJ.go fun b xs e => sp _ _ e)
/-! ### the houses' first times -/
def BasI (b : Int) : Prop := -1000000000000 ≤ b ∧ b ≤ 1000000000000 - 4000
theorem merge_each {P : Key × V → Prop} : ∀ {more kvs : List (Key × V)}, (∀ x ∈ kvs, P x) → (∀ x ∈ more, P x) → ∀ x ∈ mergeK kvs more, P x
  | [], _, h, _, x, m => h x m
  | p :: r, kvs, h, h2, x, m => by
    refine merge_each (more := r) (kvs := putK kvs p.1 p.2) (fun y my => ?_) (fun y my => h2 y (List.mem_cons_of_mem _ my)) x m
    rcases put_mem my with ⟨my, _⟩ | rfl
    · exact h y my
    · exact h2 p List.mem_cons_self
theorem merge_keys : ∀ {more kvs : List (Key × V)} {k : Key}, k ∈ kvs.map (·.1) ∨ k ∈ more.map (·.1) → k ∈ (mergeK kvs more).map (·.1)
  | [], _, _, h => h.elim (fun z => z) fun z => nomatch z
  | p :: r, kvs, k, h => by
    refine merge_keys (more := r) (kvs := putK kvs p.1 p.2) ?_
    rcases h with h | h
    · refine .inl ?_
      rw [put_keys]
      exact List.mem_append_left _ h
    · rcases List.mem_cons.mp h with rfl | h
      · exact .inl (List.mem_map.mpr ⟨_, put_self kvs p.1 p.2, rfl⟩)
      · exact .inr h
/-! a dict from the houses to ints -/
def BasD (hs : List Str) (bs : Str → Int) (kvs : List (Key × V)) : Prop := ∀ h ∈ hs, valV kvs (.inr h) = some (.int (bs h)) ∧ BasI (bs h)
def basOf (kvs : List (Key × V)) (h : Str) : Int := match valV kvs (.inr h) with
  | some (.int n) => n
  | _ => 0
inductive Pkv (H : Hp) : List Addr → List (Key × V) → Prop
  | nil : Pkv H [] []
  | cons {p : Addr} {kv : Key × V} {ps : List Addr} {kvs : List (Key × V)} : H p = some (.tup [kV kv.1, kv.2]) → Pkv H ps kvs → Pkv H (p :: ps) (kv :: kvs)
theorem Pkv.go {H H' : Hp} (s : ∀ b xs, H b = some (.tup xs) → H' b = some (.tup xs)) : ∀ {us : List Addr} {ks : List (Key × V)}, Pkv H us ks → Pkv H' us ks
  | _, _, .nil => .nil
  | _, _, .cons h r => .cons (s _ _ h) (r.go s)
theorem Pkv.snoc {H : Hp} {b : Addr} {k : Key × V} (hb : H b = some (.tup [kV k.1, k.2])) : ∀ {us : List Addr} {ks : List (Key × V)}, Pkv H us ks → Pkv H (us ++ [b]) (ks ++ [k])
  | _, _, .nil => .cons hb .nil
  | _, _, .cons h r => .cons h (r.snoc hb)
theorem Pkv.len {H : Hp} : ∀ {us : List Addr} {ks : List (Key × V)}, Pkv H us ks → us.length = ks.length
  | _, _, .nil => rfl
  | _, _, .cons _ r => by rw [List.length_cons, List.length_cons, r.len]
theorem Pkv.pair {H : Hp} : ∀ {us : List Addr} {ks : List (Key × V)}, Pkv H us ks → Paired (fun p kv => SqT K H p [kV kv.1, kv.2]) us ks
  | _, _, .nil => .nil
  | _, _, .cons h r => .cons (SqT.of h) r.pair
def sp_bases : Sp := fun vs H Q _ => ∃ (p c t : Addr) (hs gs : List Str) (many : Int), vs = [.ref p, .ref t, .int many] ∧ Pen H p c ∧ TownAt H t hs gs ∧ hs.length ≤ 6 ∧ 0 < many ∧ many ≤ 1000 ∧
  ∀ (d : Addr) (bs : Str → Int) (kvs : List (Key × V)) (H' : Hp), Stp p c H H' → H d = none → H' d = some (.dK kvs) → BasD hs bs kvs → (∃ b0 : Int, ∀ h ∈ hs, b0 ≤ bs h ∧ bs h < b0 + many) → Q (.ref d) H'
theorem ok_l_bases (T : Txt K mg af fd) : FnOk P w K mg base CX0 3 (af 49) (fd 49) ["pen", "town", "many"] sp_bases := by
  refine T.F_l_bases.ok sc_l_bases (fun vs H Q E h => ?_) (fun cdv A outer s H vs Q E hr h => ?_)
  · obtain ⟨p, c, t, hs, gs, many, rfl, _⟩ := h
    rfl
  · obtain ⟨p, c, t, hs, gs, many, rfl, hP, ht, l6, m0, m1, q⟩ := h
    refine ⟨_, (pss_cons (ps_set (i := 3) sc_l_bases.nd rfl (by first | exact Or.inl rfl | exact Or.inr rfl) (pe_ix ix_list (pe_lst (pa_cons pe_int (pa_cons (pe_un un_neg pe_int) (pa_cons (pe_op op_sub (pe_op op_pow pe_int pe_int) pe_int) (pa_cons (pe_op op_sub pe_int (pe_op op_pow pe_int pe_int)) pa_nil))))) (pe_call (ok_l_take T) (hr.mono (by first | decide | omega)) (by rfl) T.g_l_take T.F_l_take.kp T.b_l_take .nil pass0 (pa_cons (pv 0) (pa_cons pe_int pa_nil))) (fun _ _ => rfl)))
        (pss_one (ps_ret (pe_callTy (call_dictP rfl) (by rfl) T.m_dict (by decide +kernel) (pa_cons (pe_lc (own := [("house", 4)]) (g := gName 4) (by rfl) sc_l_bases.nd (pi_tup (pe_ix ix_tup (pv 1) pe_int (fun _ _ => rfl))) (blkOk_by (own := [("house", 4)]) (N := ["pen", "town", "many", "base", "house"]) (sc := defScope s_l_bases) (by decide +kernel)) (fun _ _ _ _ _ => pg_name (i := 4) sc_l_bases.nd rfl (Or.inl rfl)) (fun _ _ _ _ _ => pts_nil) (fun _ _ _ _ _ => (pe_tup (pa_cons (pv 4) (pa_cons (pe_op op_add (pv 3) (pe_call (ok_l_take T) (hr.mono (by first | decide | omega)) (by rfl) T.g_l_take T.F_l_take.kp T.b_l_take .nil pass0 (pa_cons (pv 0) (pa_cons (pv 2) pa_nil)))) pa_nil))))) pa_nil))))), ?_⟩
    have e12 : (10 : Int) ^ (12 : Int).toNat = 1000000000000 := by decide
    refine ⟨_, rfl, _, _, rfl, rfl, ⟨by decide, by decide, by decide⟩, _, _, rfl, rfl, _, _, rfl, rfl, ⟨by decide, by decide, by decide⟩, _, _, rfl, rfl, (by show 4 ≤ sizeLine; decide), fun l nl => ?_⟩
    rw [e12]
    have s1 := (Stp.refl hP).new (o := .lst [.int 0, .int (-7), .int (1000000000000 - 5000), .int (0 - 1000000000000)]) hP nl
    have nlp : l ≠ p := fun e => hP.neP nl e.symm
    refine ⟨_, rfl, p, c, 4, rfl, s1.1, by decide, by decide, fun z H2 z0 z1 s2 => ?_⟩
    have hl2 := s2.2 l _ nlp upd_same
    obtain ⟨b0, eb, b1, b2⟩ : ∃ b0 : Int, atI [V.int 0, .int (-7), .int (1000000000000 - 5000), .int (0 - 1000000000000)] z = some (.int b0) ∧ -1000000000000 ≤ b0 ∧ b0 ≤ 1000000000000 - 5000 := by
      have hz : z = 0 ∨ z = 1 ∨ z = 2 ∨ z = 3 := by omega
      rcases hz with rfl | rfl | rfl | rfl
      · exact ⟨_, rfl, by decide, by decide⟩
      · exact ⟨_, rfl, by decide, by decide⟩
      · exact ⟨_, rfl, by decide, by decide⟩
      · exact ⟨_, rfl, by decide, by decide⟩
    refine ⟨l, _, z, _, rfl, rfl, SqL.of hl2, eb, ?_⟩
    have s12 := s1.trans s2
    obtain ⟨ta, tb, t1, t2, t3⟩ := s12.town hP ht
    refine ⟨_, rfl, t, _, 0, _, rfl, rfl, SqT.of t1, rfl, ta, rfl, ⟨_, SqT.of t2⟩, fun D nD => ?_⟩
    have nD0 := s12.back hP nD
    have nDp : D ≠ p := fun e => hP.neP nD0 e.symm
    refine lc_it (walk_tup (K := K) (a := ta) (xs := hs.map V.str)) (fun i H' => Stp p c H2 H' ∧ ∃ (us : List Addr) (kvs : List (Key × V)), H' D = some (.lst (us.map V.ref)) ∧ Pkv H' us kvs ∧ kvs.map (·.1) = (hs.take i).map Sum.inr ∧ ∀ kv ∈ kvs, ∃ n : Int, kv.2 = .int n ∧ BasI n ∧ b0 ≤ n ∧ n < b0 + many)
      ⟨(Stp.refl s2.1).new s2.1 nD, [], [], upd_same, .nil, by rw [List.take_zero]; rfl, fun _ m => nomatch m⟩ (fun i H' _ h => SqT.of (h.1.tup s2.1 t2)) ?_ ?_
    · rintro i v G1 G2 hi ⟨g1, us, kvs, hD, pk, ek, hb⟩ ⟨rfl, ev⟩
      rw [List.length_map] at hi
      have eh : hs[i]? = some hs[i] := List.getElem?_eq_getElem hi
      generalize hs[i] = h at eh
      rw [List.getElem?_map, eh] at ev
      obtain rfl : V.str h = v := Option.some.inj ev
      refine ⟨rfl, yes_if ⟨_, rfl, _, rfl, _, rfl, _, rfl, p, c, many, rfl, g1.1, m0, Nat.lt_of_le_of_lt (show many.natAbs ≤ 1000 by omega) (by decide), fun r G3 r0 r1 g3 => ⟨_, _, rfl, rfl, (by show 2 ≤ sizeLine; decide), fun b nb => ?_⟩⟩⟩
      have g13 := g1.trans g3
      have hD3 := g3.2 D _ nDp hD
      have hDb : (upd G3 b (.tup [.str h, .int (b0 + r)])) D = some (.lst (us.map V.ref)) := by rw [upd_ne (ne_of_none hD3 nb)]; exact hD3
      have l1 := pk.len
      have l2 : kvs.length ≤ 6 := by
        have := congrArg List.length ek
        rw [List.length_map, List.length_map, List.length_take] at this
        omega
      refine ⟨_, hDb, small_line (by rw [List.length_map]; omega), ((g13.new s2.1 nb).mut s2.1 nD), us ++ [b], kvs ++ [(.inr h, .int (b0 + r))], by rw [upd_same, List.map_append]; rfl, ?_, ?_, fun kv m => ?_⟩
      · refine (pk.go fun c ys e => ?_).snoc ?_
        · have e3 := g3.tup g1.1 e
          rw [upd_ne (ne_of e3 hD3 (fun z => nomatch z)), upd_ne (ne_of_none e3 nb)]
          exact e3
        · rw [upd_ne (fun z => by rw [z] at nb; rw [nb] at hD3; cases hD3), upd_same]
          rfl
      · rw [List.map_append, ek, take_snoc eh, List.map_append]
        rfl
      · rcases List.mem_append.mp m with m | m
        · exact hb kv m
        · rw [List.mem_singleton.mp m]
          exact ⟨_, rfl, by unfold BasI; omega, by omega, by omega⟩
    · rintro G ⟨g, us, kvs, hD, pk, ek, hb⟩
      rw [List.length_map, List.take_length] at ek
      refine ⟨D, us, kvs, rfl, SqL.of hD, pk.pair, fun d nd => ?_⟩
      have sG := s12.trans g
      have key : ∀ h ∈ hs, valV (mergeK [] kvs) (.inr h : Key) = some (.int (basOf (mergeK [] kvs) h)) ∧ BasI (basOf (mergeK [] kvs) h) ∧ b0 ≤ basOf (mergeK [] kvs) h ∧ basOf (mergeK [] kvs) h < b0 + many := fun h mh => by
        have mk : (.inr h : Key) ∈ (mergeK [] kvs).map (·.1) := merge_keys (.inr (by rw [ek]; exact List.mem_map.mpr ⟨h, mh, rfl⟩))
        cases e : valV (mergeK [] kvs) (.inr h : Key) with
        | none =>
          obtain ⟨x, mx, ex⟩ := List.mem_map.mp mk
          exact absurd (show ((.inr h : Key), x.2) ∈ mergeK [] kvs by rw [← ex]; exact mx) (val_none e _)
        | some v =>
          obtain ⟨n, e1, e2⟩ := merge_each (P := fun kv => ∃ n : Int, kv.2 = .int n ∧ BasI n ∧ b0 ≤ n ∧ n < b0 + many) (kvs := []) (fun _ m => nomatch m) hb _ (val_mem e)
          have e1 : v = .int n := e1
          subst e1
          have eb : basOf (mergeK [] kvs) h = n := by
            unfold basOf
            rw [e]
          rw [eb]
          exact ⟨rfl, e2⟩
      exact q d (basOf (mergeK [] kvs)) _ _ (sG.new hP nd) (sG.back hP nd) upd_same (fun h mh => ⟨(key h mh).1, (key h mh).2.1⟩) ⟨b0, fun h mh => (key h mh).2.2⟩
/-! ### the rows of a world -/
def rkJ (js : List WJ) (i : Nat) : Nat := rk js.length (hoJ js) (tiJ js) i
def rkA (js : List WJ) (as : List WA) (i : Nat) : Nat := rk as.length (hoA js as) (tiA as) i
def jobRow (js : List WJ) (bs : Str → Int) (i : Nat) : Row := match js[i]? with
  | some j => .job j.h (rkJ js i : Nat) (bs j.h + j.b) (bs j.h + j.e)
  | none => .all "" 0 0
def askRow (js : List WJ) (as : List WA) (bs : Str → Int) (i : Nat) : Row := match as[i]? with
  | some x => .ask (hoA js as i) x.g (rkA js as i : Nat) (rkJ js x.pl : Nat) (bs (hoA js as i) + x.o) (bs (hoA js as i) + x.k)
  | none => .all "" 0 0
def allRow (js : List WJ) (as : List WA) (h : Str) : Row := .all h ((itemsOf as.length (hoA js as) h).length : Nat) ((itemsOf js.length (hoJ js) h).length : Nat)
def wRows (hs : List Str) (js : List WJ) (as : List WA) (bs : Str → Int) : List Row := ((List.range js.length).map (jobRow js bs) ++ (List.range as.length).map (askRow js as bs)) ++ hs.map (allRow js as)
theorem Rws.go {H H' : Hp} {xs : List V} {rs : List Row} (h : Rws H xs rs) (s : ∀ b ys, H b = some (.tup ys) → H' b = some (.tup ys)) : Rws H' xs rs := ⟨h.1, fun i r e => let ⟨a, e1, e2⟩ := h.2 i r e; ⟨a, e1, s _ _ e2⟩⟩
theorem Rws.snoc {H : Hp} {xs : List V} {rs : List Row} {b : Addr} {r : Row} (h : Rws H xs rs) (hb : RowAt H b r) : Rws H (xs ++ [.ref b]) (rs ++ [r]) := by
  refine ⟨by rw [List.length_append, List.length_append, h.1]; rfl, fun i t e => ?_⟩
  by_cases hi : i < rs.length
  · rw [List.getElem?_append_left hi] at e
    obtain ⟨a, e1, e2⟩ := h.2 i t e
    exact ⟨a, by rw [List.getElem?_append_left (by rw [h.1]; exact hi)]; exact e1, e2⟩
  · have hl := (List.getElem?_eq_some_iff.mp e).1
    rw [List.length_append, List.length_singleton] at hl
    have ei : i = rs.length := by omega
    subst ei
    rw [List.getElem?_append_right (Nat.le_refl _), Nat.sub_self] at e
    obtain rfl := Option.some.inj e
    exact ⟨b, by rw [List.getElem?_append_right (by rw [h.1]; exact Nat.le_refl _), h.1, Nat.sub_self]; rfl, hb⟩
def keyN (k : Key) : Nat := match k with
  | .inl z => z.toNat
  | _ => 0
/-! how many places of a house a dict holds -/
theorem num_count {H : Hp} {N : Nat} {ho : Nat → Str} {ti : Nat → Int} {done : Nat → Prop} {kvs : List (Key × V)} (d : NumD H N ho ti done kvs) (hd : ∀ a, a < N → done a) (h : Str) : (kvs.filter fun kv => decide (ho (keyN kv.1) = h)).length = (itemsOf N ho h).length := by
  have hk : ∀ kv ∈ kvs, ∃ a, kv.1 = .inl ((a : Nat) : Int) ∧ a < N := fun kv m => let ⟨a, _, e1, e2, _⟩ := d.own kv m; ⟨a, e1, e2⟩
  have nd : ((kvs.filter fun kv => decide (ho (keyN kv.1) = h)).map fun kv => keyN kv.1).Nodup := by
    have n1 : ((kvs.filter fun kv => decide (ho (keyN kv.1) = h)).map (·.1)).Nodup := d.nd.sublist (List.filter_sublist.map _)
    rw [List.nodup_iff_pairwise_ne, List.pairwise_map] at n1 ⊢
    refine List.Pairwise.imp_of_mem (fun {x y} mx my ne z => ne ?_) n1
    obtain ⟨a, ea, _⟩ := hk x (List.mem_filter.mp mx).1
    obtain ⟨b, eb, _⟩ := hk y (List.mem_filter.mp my).1
    rw [ea, eb] at z ⊢
    have z : a = b := z
    rw [z]
  refine Nat.le_antisymm ?_ ?_
  · have := nodup_len nd (ys := itemsOf N ho h) fun a m => by
      obtain ⟨kv, mk, rfl⟩ := List.mem_map.mp m
      obtain ⟨m1, m2⟩ := List.mem_filter.mp mk
      obtain ⟨a, ea, la⟩ := hk kv m1
      have e : keyN kv.1 = a := by rw [ea]; rfl
      rw [e] at m2 ⊢
      exact mem_items.mpr ⟨la, of_decide_eq_true m2⟩
    rw [List.length_map] at this
    exact this
  · have n2 : (itemsOf N ho h).Nodup := List.nodup_range.sublist List.filter_sublist
    have := nodup_len n2 (ys := (kvs.filter fun kv => decide (ho (keyN kv.1) = h)).map fun kv => keyN kv.1) fun a m => by
      obtain ⟨la, ea⟩ := mem_items.mp m
      obtain ⟨v, mv⟩ := d.all a la (hd a la)
      exact List.mem_map.mpr ⟨_, List.mem_filter.mpr ⟨mv, decide_eq_true ea⟩, rfl⟩
    rw [List.length_map] at this
    exact this
def sp_all_rows : Sp := fun vs H Q _ => ∃ (t w d lj la : Addr) (hs gs : List Str) (rs qs : List Addr) (js : List WJ) (as : List WA) (most : Int) (bs : Str → Int) (kB : List (Key × V)), vs = [.ref t, .ref w, .ref d] ∧ TownAt H t hs gs ∧ WorldAt H w lj la rs qs js as most ∧ WOk hs js as ∧ js.length ≤ 100 ∧ hs.length ≤ 6 ∧ H d = some (.dK kB) ∧ BasD hs bs kB ∧
  ∀ (l : Addr) (us : List V) (H' : Hp), Same H H' → H l = none → H' l = some (.lst us) → Rws H' us (wRows hs js as bs) → Q (.ref l) H'
theorem snoc_step {l b : Addr} {H G : Hp} {us : List V} {rs : List Row} {r : Row} (g : Same H G) (nl : H l = none) (hl : G l = some (.lst us)) (hr : Rws G us rs) (hb : RowAt G b r) : Same H (upd G l (.lst (us ++ [.ref b]))) ∧ (upd G l (.lst (us ++ [.ref b]))) l = some (.lst (us ++ [.ref b])) ∧ Rws (upd G l (.lst (us ++ [.ref b]))) (us ++ [.ref b]) (rs ++ [r]) :=
  ⟨same_mut g nl, upd_same, (hr.snoc hb).go fun c ys e => by rw [upd_ne (ne_of e hl (fun z => nomatch z))]; exact e⟩
theorem wok_ho {hs : List Str} {js : List WJ} {as : List WA} (h : WOk hs js as) : (∀ a, a < js.length → hoJ js a ∈ hs) ∧ ∀ a, a < as.length → hoA js as a ∈ hs := by
  have h1 : ∀ a, a < js.length → hoJ js a ∈ hs := fun a ha => by
    unfold hoJ
    rw [List.getElem?_eq_getElem ha]
    exact (h.jb _ (List.getElem_mem ha)).1
  refine ⟨h1, fun a ha => ?_⟩
  unfold hoA
  rw [List.getElem?_eq_getElem ha]
  obtain ⟨j, ej, _⟩ := (h.ab _ (List.getElem_mem ha)).par
  exact h1 _ (List.getElem?_eq_some_iff.mp ej).1
theorem rws_nil {H : Hp} : Rws H [] [] := ⟨rfl, fun i r e => by rw [List.getElem?_nil] at e; cases e⟩
theorem range_snoc {A : Type} (f : Nat → A) (k : Nat) : (List.range (k + 1)).map f = (List.range k).map f ++ [f k] := by
  rw [List.range_succ, List.map_append]
  rfl
def Slots (t w d dA dJ l : Addr) (σ : L2.St) : Prop := ∃ v6 v7 v8 v9 v10 v11 v12 v13 v14 v15 v16 : Option V, σ = [some (.ref t), some (.ref w), some (.ref d), some (.ref dA), some (.ref dJ), some (.ref l), v6, v7, v8, v9, v10, v11, v12, v13, v14, v15, v16]
theorem frz_get {H : Hp} {a : Addr} {od : Obj} {kvs : List (Key × V)} {k : Key} (h : H a = some (.frz od (.dK kvs))) : DGet H a (kV k) (valV kvs k) := .inl ⟨kvs, k, .inr ⟨od, h⟩, rfl, rfl⟩
set_option maxHeartbeats 16000000 in
theorem ok_l_all_rows (T : Txt K mg af fd) : FnOk P w K mg base CX0 2 (af 50) (fd 50) ["town", "world", "bases"] sp_all_rows := by
  refine T.F_l_all_rows.ok sc_l_all_rows (fun vs H Q E h => ?_) (fun cdv A outer s H vs Q E hr h => ?_)
  · obtain ⟨t, w, d, lj, la, hs, gs, rs, qs, js, as, most, bs, kB, rfl, _⟩ := h
    rfl
  · obtain ⟨t, w, d, lj, la, hs, gs, rs, qs, js, as, most, bs, kB, rfl, ht, W, wok, lenj, h6, hd, hbd, q⟩ := h
    refine ⟨_, (pss_cons (ps_asg (pe_call (ok_l_called T) (hr.mono (by first | decide | omega)) (by rfl) T.g_l_called T.F_l_called.kp T.b_l_called .nil pass0 (pa_cons (pv 0) (pa_cons (pv 1) pa_nil))) (pg_tup rfl (pgs_cons (pg_name (i := 3) sc_l_all_rows.nd rfl (by first | exact Or.inl rfl | exact Or.inr rfl)) (pgs_cons (pg_name (i := 4) sc_l_all_rows.nd rfl (by first | exact Or.inl rfl | exact Or.inr rfl)) pgs_nil))))
        (pss_cons (ps_set (i := 5) sc_l_all_rows.nd rfl (by first | exact Or.inl rfl | exact Or.inr rfl) (pe_lst pa_nil))
        (pss_cons (ps_for PassesOwn.never rfl (pi_enum (by rfl) T.m_enumerate (pa_cons (pe_ix ix_list (pv 1) pe_int (fun _ _ => rfl)) pa_nil)) (pg_tup rfl (pgs_cons (pg_name (i := 6) sc_l_all_rows.nd rfl (by first | exact Or.inl rfl | exact Or.inr rfl)) (pgs_cons (pg_unl rfl (pgs_cons (pg_name (i := 7) sc_l_all_rows.nd rfl (by first | exact Or.inl rfl | exact Or.inr rfl)) (pgs_cons (pg_name (i := 8) sc_l_all_rows.nd rfl (by first | exact Or.inl rfl | exact Or.inr rfl)) (pgs_cons (pg_name (i := 9) sc_l_all_rows.nd rfl (by first | exact Or.inl rfl | exact Or.inr rfl)) pgs_nil)))) pgs_nil))) (pss_one (ps_expr (pe_bm PySem.F.plainAttrs_list PySem.F.slot_list_append PySem.F.type_list_append mt_append (pv 5) (pa_cons (pe_op op_catT (pe_op op_catT (pe_tup (pa_cons pe_str pa_nil)) (pe_dget (hu_of hr) (pv 4) (pv 6) (fun _ _ => rfl))) (pe_tup (pa_cons (pe_op op_add (pe_dget (hu_of hr) (pv 2) (pv 7) (fun _ _ => rfl)) (pv 8)) (pa_cons (pe_op op_add (pe_dget (hu_of hr) (pv 2) (pv 7) (fun _ _ => rfl)) (pv 9)) pa_nil)))) pa_nil)))))
        (pss_cons (ps_for PassesOwn.never rfl (pi_enum (by rfl) T.m_enumerate (pa_cons (pe_ix ix_list (pv 1) pe_int (fun _ _ => rfl)) pa_nil)) (pg_tup rfl (pgs_cons (pg_name (i := 10) sc_l_all_rows.nd rfl (by first | exact Or.inl rfl | exact Or.inr rfl)) (pgs_cons (pg_unl rfl (pgs_cons (pg_name (i := 6) sc_l_all_rows.nd rfl (by first | exact Or.inl rfl | exact Or.inr rfl)) (pgs_cons (pg_name (i := 11) sc_l_all_rows.nd rfl (by first | exact Or.inl rfl | exact Or.inr rfl)) (pgs_cons (pg_name (i := 12) sc_l_all_rows.nd rfl (by first | exact Or.inl rfl | exact Or.inr rfl)) (pgs_cons (pg_name (i := 13) sc_l_all_rows.nd rfl (by first | exact Or.inl rfl | exact Or.inr rfl)) (pgs_cons (pg_name (i := 14) sc_l_all_rows.nd rfl (by first | exact Or.inl rfl | exact Or.inr rfl)) pgs_nil)))))) pgs_nil))) (pss_cons (ps_asg (pe_dget (hu_of hr) (pv 3) (pv 10) (fun _ _ => rfl)) (pg_tup rfl (pgs_cons (pg_name (i := 7) sc_l_all_rows.nd rfl (by first | exact Or.inl rfl | exact Or.inr rfl)) (pgs_cons (pg_name (i := 15) sc_l_all_rows.nd rfl (by first | exact Or.inl rfl | exact Or.inr rfl)) pgs_nil))))
        (pss_one (ps_expr (pe_bm PySem.F.plainAttrs_list PySem.F.slot_list_append PySem.F.type_list_append mt_append (pv 5) (pa_cons (pe_tup (pa_cons pe_str (pa_cons (pv 7) (pa_cons (pv 15) (pa_cons (pe_ix ix_tup (pe_dget (hu_of hr) (pv 4) (pv 6) (fun _ _ => rfl)) pe_int (fun _ _ => rfl)) (pa_cons (pv 11) (pa_cons (pe_op op_add (pe_dget (hu_of hr) (pv 2) (pv 7) (fun _ _ => rfl)) (pv 12)) (pa_cons (pe_op op_add (pe_dget (hu_of hr) (pv 2) (pv 7) (fun _ _ => rfl)) (pv 13)) pa_nil)))))))) pa_nil))))))
        (pss_cons (ps_for PassesOwn.never rfl (pi_tup (pe_ix ix_tup (pv 0) pe_int (fun _ _ => rfl))) (pg_name (i := 7) sc_l_all_rows.nd rfl (by first | exact Or.inl rfl | exact Or.inr rfl)) (pss_cons (ps_set (i := 16) sc_l_all_rows.nd rfl (by first | exact Or.inl rfl | exact Or.inr rfl) (pe_callB call_len_seq (by rfl) T.m_len (by decide +kernel) (pa_cons (pe_lock (pe_lc (own := [("at", 10)]) (g := gName 10) (by rfl) sc_l_all_rows.nd (pi_keys (pv 3)) (blkOk_by (own := [("at", 10)]) (N := ["town", "world", "bases", "asks", "jobs", "rows", "place", "house", "begin", "end", "at", "goal", "out", "back", "child", "number", "many"]) (sc := defScope s_l_all_rows) (by decide +kernel)) (fun _ _ _ _ _ => pg_name (i := 10) sc_l_all_rows.nd rfl (Or.inl rfl)) (fun _ _ _ _ _ => (pts_one (pt_cmpR op_eq (pe_ix (show IxR _ (rIxT K) from ix_tup) (pe_dget (hu_of hr) (pv 3) (pv 10) (fun _ _ => rfl)) pe_int (fun _ _ => rfl)) (pv 7) (nomark _)))) (fun _ _ _ _ _ => (pv 10)))) pa_nil)))
        (pss_one (ps_expr (pe_bm PySem.F.plainAttrs_list PySem.F.slot_list_append PySem.F.type_list_append mt_append (pv 5) (pa_cons (pe_tup (pa_cons pe_str (pa_cons (pv 7) (pa_cons (pv 16) (pa_cons (pe_callB call_len_seq (by rfl) T.m_len (by decide +kernel) (pa_cons (pe_lock (pe_lc (own := [("place", 6)]) (g := gName 6) (by rfl) sc_l_all_rows.nd (pi_keys (pv 4)) (blkOk_by (own := [("place", 6)]) (N := ["town", "world", "bases", "asks", "jobs", "rows", "place", "house", "begin", "end", "at", "goal", "out", "back", "child", "number", "many"]) (sc := defScope s_l_all_rows) (by decide +kernel)) (fun _ _ _ _ _ => pg_name (i := 6) sc_l_all_rows.nd rfl (Or.inl rfl)) (fun _ _ _ _ _ => (pts_one (pt_cmpR op_eq (pe_ix (show IxR _ (rIxT K) from ix_tup) (pe_dget (hu_of hr) (pv 4) (pv 6) (fun _ _ => rfl)) pe_int (fun _ _ => rfl)) (pv 7) (nomark _)))) (fun _ _ _ _ _ => (pv 6)))) pa_nil)) pa_nil))))) pa_nil))))))
        (pss_one (ps_ret (pv 5)))))))), ?_⟩
    have lena : as.length ≤ 100 := Nat.le_trans wok.len lenj
    obtain ⟨hoj, hoa⟩ := wok_ho wok
    refine ⟨_, rfl, _, rfl, t, w, lj, la, hs, gs, rs, qs, js, as, most, rfl, ht, W, by omega, by omega, fun p dA dJ kA kJ H1 s1 hp hA hJ ndA ndJ nA nJ => ?_⟩
    refine ⟨p, _, rfl, SqT.of hp, rfl, _, _, rfl, _, _, rfl, rfl, ?_⟩
    refine ⟨Nat.zero_le _, fun l nl1 => ?_⟩
    have nl : H l = none := s1.free nl1
    have s2 : Same H1 (upd H1 l (.lst [])) := same_upd nl1
    have hl2 : (upd H1 l (.lst [])) l = some (.lst []) := upd_same
    generalize upd H1 l (.lst []) = H2 at s2 hl2 ⊢
    have W1 := W.same s1
    have hd1 := s1 _ _ hd
    have ht1 := ht.same' s1
    -- jobs
    refine ⟨_, rfl, w, _, 0, _, rfl, rfl, SqL.of (s2 _ _ W1.w), rfl, lj, rs.map V.ref, rfl, SqL.of (s2 _ _ W1.j), ?_⟩
    refine for_it (walk_enum (K := K) (a := lj) (xs := rs.map V.ref)) (fun k σ H' => Slots t w d dA dJ l σ ∧ Same H1 H' ∧ ∃ us, H' l = some (.lst us) ∧ Rws H' us ((List.range k).map (jobRow js bs)))
      ⟨⟨none, none, none, none, none, none, none, none, none, none, none, rfl⟩, s2, [], hl2, rws_nil⟩ (fun k σ H' _ h => SqL.of (h.2.1 _ _ W1.j)) ?_ ?_
    · rintro k v σ G1 G2 hk ⟨⟨v6, v7, v8, v9, v10, v11, v12, v13, v14, v15, v16, rfl⟩, g1, us, hl, hrw⟩ ⟨Tp, x1, x2, rfl, nT, rfl, e1, e2⟩
      obtain rfl : V.int (k : Nat) = x1 := Option.some.inj e1
      have e2 : (rs.map V.ref)[k]? = some x2 := e2
      rw [List.getElem?_map] at e2
      obtain ⟨r, hr1, rfl⟩ := Option.map_eq_some_iff.mp e2
      have hkj : k < js.length := by rw [← W.cj.1]; exact (List.getElem?_eq_some_iff.mp hr1).1
      have hx : js[k]? = some js[k] := List.getElem?_eq_getElem hkj
      generalize js[k] = j at hx
      have sT : Same G1 (upd G1 Tp (.tup [.int (k : Nat), .ref r])) := same_upd nT
      have g3 := g1.trans sT
      have hl3 := sT _ _ hl
      have hrw3 := hrw.go (H' := upd G1 Tp (.tup [.int (k : Nat), .ref r])) fun b ys e => sT _ _ e
      have hT : (upd G1 Tp (.tup [.int (k : Nat), .ref r])) Tp = some (.tup [.int (k : Nat), .ref r]) := upd_same
      generalize upd G1 Tp (.tup [.int (k : Nat), .ref r]) = G3 at sT g3 hl3 hrw3 hT ⊢
      have hr3 := (W1.same g3).cj.2 k r j hr1 hx
      have eho : hoJ js k = j.h := by unfold hoJ; rw [hx]
      have hjh : j.h ∈ hs := by rw [← eho]; exact hoj k hkj
      obtain ⟨b, eb, hb⟩ := nJ.at hkj (hoj k hkj)
      rw [eho] at hb
      obtain ⟨bv1, bv2⟩ := hbd j.h hjh
      refine ⟨Tp, _, rfl, SqT.of hT, rfl, _, _, rfl, _, _, rfl, r, _, rfl, SqL.of hr3, rfl, _, _, rfl, _, _, rfl, _, _, rfl, rfl, rfl, ?_⟩
      refine ⟨_, rfl, .inl ⟨rfl, _, SqL.of hl3⟩, (by show 1 ≤ sizeLine; decide), fun c1 n1 => ?_⟩
      have u1 : Same G3 (upd G3 c1 (.tup [.str "job"])) := same_upd n1
      have hc1 : (upd G3 c1 (.tup [.str "job"])) c1 = some (.tup [.str "job"]) := upd_same
      generalize upd G3 c1 (.tup [.str "job"]) = G4 at u1 hc1 ⊢
      have g4 := g3.trans u1
      refine ⟨_, rfl, _, rfl, dJ, _, rfl, (by rw [← eb]; exact DGet.k (k := Sum.inl (k : Int)) (g4 _ _ hJ)), c1, b, _, _, rfl, rfl, SqT.of hc1, SqT.of (g4 _ _ hb), (fun z => nomatch z), (by show 3 ≤ sizeLine; decide), (fun z => nomatch z), fun _ c2 n2 => ?_⟩
      have u2 : Same G4 (upd G4 c2 (.tup ([.str "job"] ++ [.str j.h, .int (rk js.length (hoJ js) (tiJ js) k : Nat)]))) := same_upd n2
      have hc2 : (upd G4 c2 (.tup ([.str "job"] ++ [.str j.h, .int (rk js.length (hoJ js) (tiJ js) k : Nat)]))) c2 = some (.tup ([.str "job"] ++ [.str j.h, .int (rk js.length (hoJ js) (tiJ js) k : Nat)])) := upd_same
      generalize upd G4 c2 (.tup ([.str "job"] ++ [.str j.h, .int (rk js.length (hoJ js) (tiJ js) k : Nat)])) = G5 at u2 hc2 ⊢
      have g5 := g4.trans u2
      have dg := DGet.k (k := Sum.inr j.h) (g5 _ _ hd1)
      rw [bv1] at dg
      refine ⟨_, rfl, _, rfl, d, _, rfl, dg, _, rfl, _, _, rfl, rfl, _, rfl, _, rfl, d, _, rfl, dg, _, rfl, _, _, rfl, rfl, (by show 2 ≤ sizeLine; decide), fun c3 n3 => ?_⟩
      have u3 : Same G5 (upd G5 c3 (.tup [.int (bs j.h + j.b), .int (bs j.h + j.e)])) := same_upd n3
      have hc3 : (upd G5 c3 (.tup [.int (bs j.h + j.b), .int (bs j.h + j.e)])) c3 = some (.tup [.int (bs j.h + j.b), .int (bs j.h + j.e)]) := upd_same
      generalize upd G5 c3 (.tup [.int (bs j.h + j.b), .int (bs j.h + j.e)]) = G6 at u3 hc3 ⊢
      refine ⟨c2, c3, _, _, rfl, rfl, SqT.of (u3 _ _ hc2), SqT.of hc3, (fun z => nomatch z), (by show 5 ≤ sizeLine; decide), (fun z => nomatch z), fun _ c4 n4 => ?_⟩
      have u4 : Same G6 (upd G6 c4 (.tup (([.str "job"] ++ [.str j.h, .int (rk js.length (hoJ js) (tiJ js) k : Nat)]) ++ [.int (bs j.h + j.b), .int (bs j.h + j.e)]))) := same_upd n4
      have hc4 : (upd G6 c4 (.tup (([.str "job"] ++ [.str j.h, .int (rk js.length (hoJ js) (tiJ js) k : Nat)]) ++ [.int (bs j.h + j.b), .int (bs j.h + j.e)]))) c4 = _ := upd_same
      generalize upd G6 c4 (.tup (([.str "job"] ++ [.str j.h, .int (rk js.length (hoJ js) (tiJ js) k : Nat)]) ++ [.int (bs j.h + j.b), .int (bs j.h + j.e)])) = G7 at u4 hc4 ⊢
      have v := ((u1.trans u2).trans u3).trans u4
      have rw4 : RowAt G7 c4 (jobRow js bs k) := by
        show G7 c4 = some (.tup (jobRow js bs k).vals)
        rw [hc4]
        unfold jobRow
        rw [hx]
        rfl
      obtain ⟨z1, z2, z3⟩ := snoc_step (g3.trans v) nl1 (v _ _ hl3) (hrw3.go fun c ys e => v _ _ e) rw4
      have ll := hrw3.1
      rw [List.length_map, List.length_range] at ll
      refine ⟨l, _, _, rfl, rfl, v _ _ hl3, small_line (by omega), ⟨_, _, _, _, _, _, _, _, _, _, _, rfl⟩, z1, _, z2, ?_⟩
      rw [range_snoc]
      exact z3
    rintro σ G1 ⟨⟨v6, v7, v8, v9, v10, v11, v12, v13, v14, v15, v16, rfl⟩, g1, us1, hl1, hrw1⟩
    rw [List.length_map, W.cj.1] at hrw1
    -- asks
    refine ⟨_, rfl, w, _, 1, _, rfl, rfl, SqL.of (g1 _ _ W1.w), rfl, la, qs.map V.ref, rfl, SqL.of (g1 _ _ W1.a), ?_⟩
    refine for_it (walk_enum (K := K) (a := la) (xs := qs.map V.ref)) (fun k σ H' => Slots t w d dA dJ l σ ∧ Same H1 H' ∧ ∃ us, H' l = some (.lst us) ∧ Rws H' us ((List.range js.length).map (jobRow js bs) ++ (List.range k).map (askRow js as bs)))
      ⟨⟨_, _, _, _, _, _, _, _, _, _, _, rfl⟩, g1, us1, hl1, by rw [List.range_zero, List.map_nil, List.append_nil]; exact hrw1⟩ (fun k σ H' _ h => SqL.of (h.2.1 _ _ W1.a)) ?_ ?_
    · rintro k v σ G1 G2 hk ⟨⟨v6, v7, v8, v9, v10, v11, v12, v13, v14, v15, v16, rfl⟩, g1, us, hl, hrw⟩ ⟨Tp, x1, x2, rfl, nT, rfl, e1, e2⟩
      obtain rfl : V.int (k : Nat) = x1 := Option.some.inj e1
      have e2 : (qs.map V.ref)[k]? = some x2 := e2
      rw [List.getElem?_map] at e2
      obtain ⟨r, hr1, rfl⟩ := Option.map_eq_some_iff.mp e2
      have hka : k < as.length := by rw [← W.ca.1]; exact (List.getElem?_eq_some_iff.mp hr1).1
      have hx : as[k]? = some as[k] := List.getElem?_eq_getElem hka
      generalize as[k] = x at hx
      have sT : Same G1 (upd G1 Tp (.tup [.int (k : Nat), .ref r])) := same_upd nT
      have g3 := g1.trans sT
      have hl3 := sT _ _ hl
      have hrw3 := hrw.go (H' := upd G1 Tp (.tup [.int (k : Nat), .ref r])) fun b ys e => sT _ _ e
      have hT : (upd G1 Tp (.tup [.int (k : Nat), .ref r])) Tp = some (.tup [.int (k : Nat), .ref r]) := upd_same
      generalize upd G1 Tp (.tup [.int (k : Nat), .ref r]) = G3 at sT g3 hl3 hrw3 hT ⊢
      have hr3 := (W1.same g3).ca.2 k r x hr1 hx
      have hpl := W.pl x (List.mem_of_getElem? hx)
      obtain ⟨bj, ebj, hbj⟩ := nJ.at hpl (hoj x.pl hpl)
      obtain ⟨b, eb, hb⟩ := nA.at hka (hoa k hka)
      obtain ⟨bv1, bv2⟩ := hbd (hoA js as k) (hoa k hka)
      generalize eho : hoA js as k = ho at hb bv1
      refine ⟨Tp, _, rfl, SqT.of hT, rfl, _, _, rfl, _, _, rfl, r, _, rfl, SqL.of hr3, rfl, _, _, rfl, _, _, rfl, _, _, rfl, _, _, rfl, _, _, rfl, rfl, rfl, ?_⟩
      refine ⟨_, rfl, _, rfl, dA, _, rfl, (by rw [← eb]; exact DGet.k (k := Sum.inl (k : Int)) (g3 _ _ hA)), b, _, rfl, SqT.of (g3 _ _ hb), rfl, _, _, rfl, _, _, rfl, rfl, ?_⟩
      have dg := DGet.k (k := Sum.inr ho) (g3 _ _ hd1)
      rw [bv1] at dg
      refine ⟨_, rfl, .inl ⟨rfl, _, SqL.of hl3⟩, _, rfl, _, rfl, _, rfl, _, rfl, dJ, _, rfl, (by rw [← ebj]; exact DGet.k (k := Sum.inl (x.pl : Int)) (g3 _ _ hJ)), bj, _, 1, _, rfl, rfl, SqT.of (g3 _ _ hbj), rfl, _, rfl, _, rfl, _, rfl, d, _, rfl, dg, _, rfl, _, _, rfl, rfl, _, rfl, _, rfl, d, _, rfl, dg, _, rfl, _, _, rfl, rfl, (by show 7 ≤ sizeLine; decide), fun c4 n4 => ?_⟩
      have u4 : Same G3 (upd G3 c4 (.tup [.str "ask", .str ho, .int (rk as.length (hoA js as) (tiA as) k : Nat), .int (rk js.length (hoJ js) (tiJ js) x.pl : Nat), .str x.g, .int (bs ho + x.o), .int (bs ho + x.k)])) := same_upd n4
      have hc4 : (upd G3 c4 (.tup [.str "ask", .str ho, .int (rk as.length (hoA js as) (tiA as) k : Nat), .int (rk js.length (hoJ js) (tiJ js) x.pl : Nat), .str x.g, .int (bs ho + x.o), .int (bs ho + x.k)])) c4 = _ := upd_same
      generalize upd G3 c4 (.tup [.str "ask", .str ho, .int (rk as.length (hoA js as) (tiA as) k : Nat), .int (rk js.length (hoJ js) (tiJ js) x.pl : Nat), .str x.g, .int (bs ho + x.o), .int (bs ho + x.k)]) = G7 at u4 hc4 ⊢
      have rw4 : RowAt G7 c4 (askRow js as bs k) := by
        show G7 c4 = some (.tup (askRow js as bs k).vals)
        rw [hc4]
        unfold askRow
        rw [hx, eho]
        rfl
      obtain ⟨z1, z2, z3⟩ := snoc_step (g3.trans u4) nl1 (u4 _ _ hl3) (hrw3.go fun c ys e => u4 _ _ e) rw4
      have ll := hrw3.1
      rw [List.length_append, List.length_map, List.length_range, List.length_map, List.length_range] at ll
      refine ⟨l, _, _, rfl, rfl, u4 _ _ hl3, small_line (by omega), ⟨_, _, _, _, _, _, _, _, _, _, _, rfl⟩, z1, _, z2, ?_⟩
      rw [range_snoc, ← List.append_assoc]
      exact z3
    rintro σ G2 ⟨⟨v6, v7, v8, v9, v10, v11, v12, v13, v14, v15, v16, rfl⟩, g2, us2, hl2', hrw2⟩
    rw [List.length_map, W.ca.1] at hrw2
    -- the counts
    obtain ⟨ta, tb, t1, t2, t3⟩ := id ht1
    refine ⟨_, rfl, t, _, 0, _, rfl, rfl, SqT.of (g2 _ _ t1), rfl, ta, rfl, ⟨_, SqT.of (g2 _ _ t2)⟩, ?_⟩
    refine for_it (walk_tup (K := K) (a := ta) (xs := hs.map V.str)) (fun k σ H' => Slots t w d dA dJ l σ ∧ Same H1 H' ∧ ∃ us, H' l = some (.lst us) ∧ Rws H' us (((List.range js.length).map (jobRow js bs) ++ (List.range as.length).map (askRow js as bs)) ++ (hs.take k).map (allRow js as)))
      ⟨⟨_, _, _, _, _, _, _, _, _, _, _, rfl⟩, g2, us2, hl2', by rw [List.take_zero, List.map_nil, List.append_nil]; exact hrw2⟩ (fun k σ H' _ h => SqT.of (h.2.1 _ _ t2)) ?_ ?_
    · rintro k v σ G1 G2 hk ⟨⟨v6, v7, v8, v9, v10, v11, v12, v13, v14, v15, v16, rfl⟩, g1, us, hl, hrw⟩ ⟨rfl, ev⟩
      rw [List.length_map] at hk
      have eh : hs[k]? = some hs[k] := List.getElem?_eq_getElem hk
      generalize hs[k] = h at eh
      rw [List.getElem?_map, eh] at ev
      obtain rfl : V.str h = v := Option.some.inj ev
      refine ⟨dA, _, g1 _ _ hA, trivial, fun od => ?_⟩
      have fz0 : ∀ b o, b ≠ dA → G2 b = some o → (upd G2 dA (.frz od (.dK kA))) b = some o := fun b o nb e => by rw [upd_ne nb]; exact e
      have fz1 : (upd G2 dA (.frz od (.dK kA))) dA = some (.frz od (.dK kA)) := upd_same
      generalize upd G2 dA (.frz od (.dK kA)) = Z at fz0 fz1 ⊢
      refine ⟨_, rfl, dA, od, rfl, .inl ⟨kA, fz1, fun D nD => ?_⟩⟩
      have nDd : D ≠ dA := fun e => by rw [e, fz1] at nD; cases nD
      have nDG : G2 D = none := by
        cases e : G2 D with
        | none => rfl
        | some o =>
          rw [fz0 D o nDd e] at nD
          cases nD
      refine lc_it (walk_keys (d := dA) (o := od) (kvs := kA)) (fun i H' => (∀ b o, b ≠ dA → G2 b = some o → H' b = some o) ∧ H' dA = some (.frz od (.dK kA)) ∧ ∃ vs : List V, H' D = some (.lst vs) ∧ vs.length = ((kA.take i).filter fun kv => decide ((hoA js as) (keyN kv.1) = h)).length)
        ⟨fun b o nb e => by rw [upd_ne (ne_of_none e nDG)]; exact fz0 b o nb e, by rw [upd_ne (Ne.symm nDd)]; exact fz1, [], upd_same, by rw [List.take_zero]; rfl⟩ (fun i H' _ h => h.2.1) ?_ ?_
      · rintro i v F1 F2 hi ⟨fr, hfz, vs, hD, hlv⟩ ⟨rfl, kk, v0, ek, rfl⟩
        obtain ⟨a, b0, ea, la, _, _, _⟩ := nA.own _ (List.mem_of_getElem? ek)
        have ea : kk = .inl (a : Int) := ea
        subst ea
        obtain ⟨b, eb, hb⟩ := nA.at la (hoa a la)
        have hbF : F2 b = some (.tup [.str ((hoA js as) a), .int (rk as.length (hoA js as) (tiA as) a : Nat)]) := fr _ _ (ne_of hb hA (fun z => nomatch z)) (g1 _ _ hb)
        have lk := nA.len
        have lf : ((kA.take i).filter fun kv => decide ((hoA js as) (keyN kv.1) = h)).length ≤ kA.length := Nat.le_trans (List.length_filter_le _ _) (by rw [List.length_take]; omega)
        refine ⟨rfl, _, rfl, _, rfl, dA, _, rfl, (by rw [← eb]; exact frz_get (k := Sum.inl (a : Int)) hfz), b, _, 0, _, rfl, rfl, SqT.of hbF, rfl, _, rfl, rfl, _, rfl, ?_⟩
        rw [take_succ_filter _ kA ek]
        have ekn : keyN (.inl (a : Int)) = a := rfl
        by_cases e : (hoA js as) a = h
        · rw [show decide ((hoA js as) (keyN ((.inl (a : Int) : Key), v0).1) = h) = true from decide_eq_true e]
          refine iteTd (congrArg V.str e) ⟨_, rfl, vs, hD, small_line (by omega), fun c o nc ec => by rw [upd_ne (ne_of_none ec nDG)]; exact fr c o nc ec, by rw [upd_ne (Ne.symm nDd)]; exact hfz, _, upd_same, ?_⟩
          rw [List.length_append, List.length_append, hlv, if_pos rfl]
          rfl
        · rw [show decide ((hoA js as) (keyN ((.inl (a : Int) : Key), v0).1) = h) = false from decide_eq_false e]
          refine iteFd (fun z => e (V.str.inj z)) ⟨fr, hfz, vs, hD, ?_⟩
          rw [List.length_append, hlv, if_neg (fun z => Bool.noConfusion z)]
          rfl
      rintro F ⟨fr, hfz, vs, hD, hlv⟩
      rw [List.take_length, num_count nA hoa h] at hlv
      refine ⟨hfz, ?_⟩
      have smM1 : Same G2 (upd F dA (.dK kA)) := fun b o e => by
        by_cases nb : b = dA
        · subst nb
          rw [upd_same, ← g1 _ _ hA]
          exact e
        · rw [upd_ne nb]
          exact fr b o nb e
      have hDf : (upd F dA (.dK kA)) D = some (.lst vs) := by rw [upd_ne nDd]; exact hD
      generalize upd F dA (.dK kA) = M1 at smM1 hDf ⊢
      refine ⟨D, _, rfl, .inl (SqL.of hDf), ?_⟩
      rw [hlv]
      clear fz0 fz1 nD fr hfz hD hlv hDf
      have g4 := g1.trans smM1
      refine ⟨_, rfl, .inl ⟨rfl, _, SqL.of (smM1 _ _ hl)⟩, _, rfl, _, rfl, ?_⟩
      refine ⟨dJ, _, g4 _ _ hJ, trivial, fun od => ?_⟩
      have fz0 : ∀ b o, b ≠ dJ → M1 b = some o → (upd M1 dJ (.frz od (.dK kJ))) b = some o := fun b o nb e => by rw [upd_ne nb]; exact e
      have fz1 : (upd M1 dJ (.frz od (.dK kJ))) dJ = some (.frz od (.dK kJ)) := upd_same
      generalize upd M1 dJ (.frz od (.dK kJ)) = Z at fz0 fz1 ⊢
      refine ⟨_, rfl, dJ, od, rfl, .inl ⟨kJ, fz1, fun D nD => ?_⟩⟩
      have nDd : D ≠ dJ := fun e => by rw [e, fz1] at nD; cases nD
      have nDG : M1 D = none := by
        cases e : M1 D with
        | none => rfl
        | some o =>
          rw [fz0 D o nDd e] at nD
          cases nD
      refine lc_it (walk_keys (d := dJ) (o := od) (kvs := kJ)) (fun i H' => (∀ b o, b ≠ dJ → M1 b = some o → H' b = some o) ∧ H' dJ = some (.frz od (.dK kJ)) ∧ ∃ vs : List V, H' D = some (.lst vs) ∧ vs.length = ((kJ.take i).filter fun kv => decide ((hoJ js) (keyN kv.1) = h)).length)
        ⟨fun b o nb e => by rw [upd_ne (ne_of_none e nDG)]; exact fz0 b o nb e, by rw [upd_ne (Ne.symm nDd)]; exact fz1, [], upd_same, by rw [List.take_zero]; rfl⟩ (fun i H' _ h => h.2.1) ?_ ?_
      · rintro i v F1 F2 hi ⟨fr, hfz, vs, hD, hlv⟩ ⟨rfl, kk, v0, ek, rfl⟩
        obtain ⟨a, b0, ea, la, _, _, _⟩ := nJ.own _ (List.mem_of_getElem? ek)
        have ea : kk = .inl (a : Int) := ea
        subst ea
        obtain ⟨b, eb, hb⟩ := nJ.at la (hoj a la)
        have hbF : F2 b = some (.tup [.str ((hoJ js) a), .int (rk js.length (hoJ js) (tiJ js) a : Nat)]) := fr _ _ (ne_of hb hJ (fun z => nomatch z)) (g4 _ _ hb)
        have lk := nJ.len
        have lf : ((kJ.take i).filter fun kv => decide ((hoJ js) (keyN kv.1) = h)).length ≤ kJ.length := Nat.le_trans (List.length_filter_le _ _) (by rw [List.length_take]; omega)
        refine ⟨rfl, _, rfl, _, rfl, dJ, _, rfl, (by rw [← eb]; exact frz_get (k := Sum.inl (a : Int)) hfz), b, _, 0, _, rfl, rfl, SqT.of hbF, rfl, _, rfl, rfl, _, rfl, ?_⟩
        rw [take_succ_filter _ kJ ek]
        have ekn : keyN (.inl (a : Int)) = a := rfl
        by_cases e : (hoJ js) a = h
        · rw [show decide ((hoJ js) (keyN ((.inl (a : Int) : Key), v0).1) = h) = true from decide_eq_true e]
          refine iteTd (congrArg V.str e) ⟨_, rfl, vs, hD, small_line (by omega), fun c o nc ec => by rw [upd_ne (ne_of_none ec nDG)]; exact fr c o nc ec, by rw [upd_ne (Ne.symm nDd)]; exact hfz, _, upd_same, ?_⟩
          rw [List.length_append, List.length_append, hlv, if_pos rfl]
          rfl
        · rw [show decide ((hoJ js) (keyN ((.inl (a : Int) : Key), v0).1) = h) = false from decide_eq_false e]
          refine iteFd (fun z => e (V.str.inj z)) ⟨fr, hfz, vs, hD, ?_⟩
          rw [List.length_append, hlv, if_neg (fun z => Bool.noConfusion z)]
          rfl
      rintro F ⟨fr, hfz, vs, hD, hlv⟩
      rw [List.take_length, num_count nJ hoj h] at hlv
      refine ⟨hfz, ?_⟩
      have smM2 : Same M1 (upd F dJ (.dK kJ)) := fun b o e => by
        by_cases nb : b = dJ
        · subst nb
          rw [upd_same, ← g4 _ _ hJ]
          exact e
        · rw [upd_ne nb]
          exact fr b o nb e
      have hDf : (upd F dJ (.dK kJ)) D = some (.lst vs) := by rw [upd_ne nDd]; exact hD
      generalize upd F dJ (.dK kJ) = M2 at smM2 hDf ⊢
      refine ⟨D, _, rfl, .inl (SqL.of hDf), ?_⟩
      rw [hlv]
      clear fz0 fz1 nD fr hfz hD hlv hDf
      refine ⟨(by show 4 ≤ sizeLine; decide), fun c4 n4 => ?_⟩
      have u4 : Same M2 (upd M2 c4 (.tup [.str "all", .str h, .int ((itemsOf as.length (hoA js as) h).length : Nat), .int ((itemsOf js.length (hoJ js) h).length : Nat)])) := same_upd n4
      have hc4 : RowAt (upd M2 c4 (.tup [.str "all", .str h, .int ((itemsOf as.length (hoA js as) h).length : Nat), .int ((itemsOf js.length (hoJ js) h).length : Nat)])) c4 (allRow js as h) := upd_same
      generalize upd M2 c4 (.tup [.str "all", .str h, .int ((itemsOf as.length (hoA js as) h).length : Nat), .int ((itemsOf js.length (hoJ js) h).length : Nat)]) = G7 at u4 hc4 ⊢
      have v := (smM1.trans smM2).trans u4
      obtain ⟨z1, z2, z3⟩ := snoc_step (g1.trans v) nl1 (v _ _ hl) (hrw.go fun c ys e => v _ _ e) hc4
      have ll := hrw.1
      rw [List.length_append, List.length_append, List.length_map, List.length_range, List.length_map, List.length_range, List.length_map, List.length_take] at ll
      have lh : hs.length ≤ 6 := h6
      refine ⟨l, _, _, rfl, rfl, v _ _ hl, small_line (by omega), ⟨_, _, _, _, _, _, _, _, _, _, _, rfl⟩, z1, _, z2, ?_⟩
      rw [take_snoc eh, List.map_append, ← List.append_assoc]
      exact z3
    · rintro σ G3 ⟨⟨v6, v7, v8, v9, v10, v11, v12, v13, v14, v15, v16, rfl⟩, g3, us3, hl3, hrw3⟩
      rw [List.length_map, List.take_length] at hrw3
      exact ⟨_, rfl, q l us3 G3 (s1.trans g3) nl hl3 hrw3⟩
/-! ### the rows of a world are a book -/
theorem count_range {A : Type} (xs : List A) (p : A → Bool) (f : Nat → Bool) (h : ∀ i x, xs[i]? = some x → f i = p x) : ∀ k, k ≤ xs.length → ((List.range k).filter f).length = ((xs.take k).filter p).length
  | 0, _ => by rw [List.take_zero]; rfl
  | k + 1, hk => by
    have ih := count_range xs p f h k (Nat.le_of_succ_le hk)
    have e : xs[k]? = some xs[k] := List.getElem?_eq_getElem hk
    rw [List.range_succ, filter_snoc, take_snoc e, filter_snoc, List.length_append, List.length_append, ih, h k _ e]
    split <;> rfl
theorem items_nJ (js : List WJ) (h : Str) : (itemsOf js.length (hoJ js) h).length = nJ js h := by
  unfold itemsOf nJ
  rw [count_range js (fun j => decide (j.h = h)) _ (fun i x e => by unfold hoJ; rw [e]) _ (Nat.le_refl _), List.take_length]
theorem items_nA (js : List WJ) (as : List WA) (h : Str) (hp : ∀ x ∈ as, x.pl < js.length) : (itemsOf as.length (hoA js as) h).length = nA js as h := by
  unfold itemsOf nA
  rw [count_range as (fun x => x.of js h) _ (fun i x e => ?_) _ (Nat.le_refl _), List.take_length]
  have hpl := hp x (List.mem_of_getElem? e)
  have ej : js[x.pl]? = some js[x.pl] := List.getElem?_eq_getElem hpl
  generalize js[x.pl] = j at ej
  have e1 : hoA js as i = j.h := by
    unfold hoA hoJ
    rw [e]
    show (match js[x.pl]? with | some j => j.h | none => "") = _
    rw [ej]
  unfold WA.of
  rw [e1, ej]
theorem WOk.pl {hs : List Str} {js : List WJ} {as : List WA} (w : WOk hs js as) : ∀ x ∈ as, x.pl < js.length := fun x m => by
  obtain ⟨j, e, _⟩ := (w.ab x m).par
  exact (List.getElem?_eq_some_iff.mp e).1
/-! what each row says -/
inductive WRow (hs : List Str) (js : List WJ) (as : List WA) (bs : Str → Int) : Row → Prop
  | job (i : Nat) (j : WJ) : js[i]? = some j → WRow hs js as bs (.job j.h (rkJ js i : Nat) (bs j.h + j.b) (bs j.h + j.e))
  | ask (i : Nat) (x : WA) (j : WJ) : as[i]? = some x → js[x.pl]? = some j → WRow hs js as bs (.ask j.h x.g (rkA js as i : Nat) (rkJ js x.pl : Nat) (bs j.h + x.o) (bs j.h + x.k))
  | all (h : Str) : h ∈ hs → WRow hs js as bs (.all h ((itemsOf as.length (hoA js as) h).length : Nat) ((itemsOf js.length (hoJ js) h).length : Nat))
theorem hoA_at {js : List WJ} {as : List WA} {i : Nat} {x : WA} {j : WJ} (e : as[i]? = some x) (ej : js[x.pl]? = some j) : hoA js as i = j.h := by
  unfold hoA hoJ
  rw [e]
  show (match js[x.pl]? with | some j => j.h | none => "") = _
  rw [ej]
theorem hoJ_at {js : List WJ} {i : Nat} {j : WJ} (e : js[i]? = some j) : hoJ js i = j.h := by
  unfold hoJ
  rw [e]
theorem tiJ_at {js : List WJ} {i : Nat} {j : WJ} (e : js[i]? = some j) : tiJ js i = j.b := by
  unfold tiJ
  rw [e]
theorem tiA_at {as : List WA} {i : Nat} {x : WA} (e : as[i]? = some x) : tiA as i = x.o := by
  unfold tiA
  rw [e]
theorem wrow_of {hs : List Str} {js : List WJ} {as : List WA} {bs : Str → Int} (w : WOk hs js as) {r : Row} (m : r ∈ wRows hs js as bs) : WRow hs js as bs r := by
  unfold wRows at m
  rcases List.mem_append.mp m with m | m
  · rcases List.mem_append.mp m with m | m
    · obtain ⟨i, mi, rfl⟩ := List.mem_map.mp m
      have li := List.mem_range.mp mi
      have e : js[i]? = some js[i] := List.getElem?_eq_getElem li
      generalize js[i] = j at e
      unfold jobRow
      rw [e]
      exact .job i _ e
    · obtain ⟨i, mi, rfl⟩ := List.mem_map.mp m
      have li := List.mem_range.mp mi
      have e : as[i]? = some as[i] := List.getElem?_eq_getElem li
      generalize as[i] = x at e
      have lp := w.pl x (List.mem_of_getElem? e)
      have ej : js[x.pl]? = some js[x.pl] := List.getElem?_eq_getElem lp
      generalize js[x.pl] = j at ej
      unfold askRow
      rw [e]
      show WRow hs js as bs (.ask (hoA js as i) _ _ _ (bs (hoA js as i) + _) (bs (hoA js as i) + _))
      rw [hoA_at e ej]
      exact .ask i _ _ e ej
  · obtain ⟨h, mh, rfl⟩ := List.mem_map.mp m
    exact .all h mh
theorem rkJ_lt {js : List WJ} {i : Nat} {j : WJ} (e : js[i]? = some j) : rkJ js i < (itemsOf js.length (hoJ js) j.h).length := by
  rw [← hoJ_at e]
  exact rk_lt (List.getElem?_eq_some_iff.mp e).1
theorem rkA_lt {js : List WJ} {as : List WA} {i : Nat} {x : WA} {j : WJ} (e : as[i]? = some x) (ej : js[x.pl]? = some j) : rkA js as i < (itemsOf as.length (hoA js as) j.h).length := by
  rw [← hoA_at e ej]
  exact rk_lt (List.getElem?_eq_some_iff.mp e).1
theorem world_book {hs : List Str} {js : List WJ} {as : List WA} {bs : Str → Int} (w : WOk hs js as) (hb : ∀ h ∈ hs, BasI (bs h)) (hok : ∀ h ∈ hs, PyData.strOk h = true) : Book hs (wRows hs js as bs) := by
  have cJ : ∀ h, (itemsOf js.length (hoJ js) h).length ≤ 15 := fun h => by rw [items_nJ]; exact (w.cnt h).1
  have cA : ∀ h, (itemsOf as.length (hoA js as) h).length ≤ 15 := fun h => by rw [items_nA js as h w.pl]; exact (w.cnt h).2
  have jb : ∀ {i : Nat} {j : WJ}, js[i]? = some j → j.h ∈ hs ∧ 0 ≤ j.b ∧ j.b ≤ j.e ∧ j.e ≤ 400 := fun e => w.jb _ (List.mem_of_getElem? e)
  have ab : ∀ {i : Nat} {x : WA} {j : WJ}, as[i]? = some x → js[x.pl]? = some j → x.g ∈ hs ∧ j.b < x.o ∧ x.o ≤ x.k ∧ x.k < j.e := fun {i x j} e ej => by
    have a := w.ab x (List.mem_of_getElem? e)
    obtain ⟨j', ej', h1, h2, h3⟩ := a.par
    rw [Nat.sub_zero] at ej'
    obtain rfl := Option.some.inj (ej.symm.trans ej')
    exact ⟨a.g, h1, h2, h3⟩
  refine ⟨fun r m => ?_, fun r m => ?_, fun r mr t mt => ?_⟩
  · cases wrow_of w m with
    | job i j e =>
      obtain ⟨h1, h2, h3, h4⟩ := jb e
      have b := hb j.h h1
      unfold BasI at b
      have k1 := rkJ_lt e
      have k2 := cJ j.h
      exact ⟨hok _ h1, ⟨Int.natCast_nonneg _, by omega⟩, by unfold TimeI; omega, by unfold TimeI; omega, by omega⟩
    | ask i x j e ej =>
      obtain ⟨h1, h2, h3, h4⟩ := jb ej
      obtain ⟨g1, g2, g3, g4⟩ := ab e ej
      have b := hb j.h h1
      unfold BasI at b
      have k1 := rkA_lt e ej
      have k2 := cA j.h
      have k3 := rkJ_lt ej
      have k4 := cJ j.h
      exact ⟨hok _ h1, hok _ g1, ⟨Int.natCast_nonneg _, by omega⟩, ⟨Int.natCast_nonneg _, by omega⟩, by unfold TimeI; omega, by unfold TimeI; omega, by omega⟩
    | all h mh =>
      have k2 := cA h
      have k4 := cJ h
      exact ⟨hok _ mh, ⟨Int.natCast_nonneg _, by omega⟩, ⟨Int.natCast_nonneg _, by omega⟩⟩
  · cases wrow_of w m with
    | job i j e => exact (jb e).1
    | ask i x j e ej => exact ⟨(jb ej).1, (ab e ej).1⟩
    | all h mh => exact mh
  · have jj : ∀ {i i' : Nat} {j j' : WJ}, js[i]? = some j → js[i']? = some j' → j.h = j'.h → (rkJ js i = rkJ js i' → i = i') ∧ (rkJ js i ≤ rkJ js i' → j.b ≤ j'.b) := fun {i i' j j'} e e' eh => by
      have l := (List.getElem?_eq_some_iff.mp e).1
      have l' := (List.getElem?_eq_some_iff.mp e').1
      have eho : hoJ js i = hoJ js i' := by rw [hoJ_at e, hoJ_at e', eh]
      refine ⟨fun z => rk_inj l l' eho z, fun z => ?_⟩
      have := rk_time (ti := tiJ js) l l' eho z
      rw [tiJ_at e, tiJ_at e'] at this
      exact this
    have aa : ∀ {i i' : Nat} {x x' : WA} {j j' : WJ}, as[i]? = some x → js[x.pl]? = some j → as[i']? = some x' → js[x'.pl]? = some j' → j.h = j'.h → (rkA js as i = rkA js as i' → i = i') ∧ (rkA js as i ≤ rkA js as i' → x.o ≤ x'.o) := fun {i i' x x' j j'} e ej e' ej' eh => by
      have l := (List.getElem?_eq_some_iff.mp e).1
      have l' := (List.getElem?_eq_some_iff.mp e').1
      have eho : hoA js as i = hoA js as i' := by rw [hoA_at e ej, hoA_at e' ej', eh]
      refine ⟨fun z => rk_inj l l' eho z, fun z => ?_⟩
      have := rk_time (ti := tiA as) l l' eho z
      rw [tiA_at e, tiA_at e'] at this
      exact this
    have ja : ∀ {i i' : Nat} {j j' : WJ} {x : WA}, js[i]? = some j → as[i']? = some x → js[x.pl]? = some j' → ¬ ClashP (.job j.h (rkJ js i : Nat) (bs j.h + j.b) (bs j.h + j.e)) (.ask j'.h x.g (rkA js as i' : Nat) (rkJ js x.pl : Nat) (bs j'.h + x.o) (bs j'.h + x.k)) := fun {i i' j j' x} e e' ej' z => by
      obtain ⟨eh, z⟩ := z
      obtain ⟨g1, g2, g3, g4⟩ := ab e' ej'
      obtain ⟨q1, q2⟩ := jj e ej' eh
      rw [eh] at z
      rcases z with ⟨z1, z2⟩ | ⟨z1, z2⟩
      · have := q2 (by omega)
        omega
      · have ei := q1 (by omega)
        subst ei
        obtain rfl := Option.some.inj (e.symm.trans ej')
        omega
    have la : ∀ {i' : Nat} {j' : WJ} {x : WA} {h : Str}, as[i']? = some x → js[x.pl]? = some j' → ¬ ClashP (.all h ((itemsOf as.length (hoA js as) h).length : Nat) ((itemsOf js.length (hoJ js) h).length : Nat)) (.ask j'.h x.g (rkA js as i' : Nat) (rkJ js x.pl : Nat) (bs j'.h + x.o) (bs j'.h + x.k)) := fun {i' j' x h} e' ej' z => by
      obtain ⟨eh, z⟩ := z
      subst eh
      have k1 := rkA_lt e' ej'
      have k3 := rkJ_lt ej'
      omega
    have lj : ∀ {i : Nat} {j : WJ} {h : Str}, js[i]? = some j → ¬ ClashP (.all h ((itemsOf as.length (hoA js as) h).length : Nat) ((itemsOf js.length (hoJ js) h).length : Nat)) (.job j.h (rkJ js i : Nat) (bs j.h + j.b) (bs j.h + j.e)) := fun {i j h} e z => by
      obtain ⟨eh, z⟩ := z
      subst eh
      have k3 := rkJ_lt e
      omega
    cases wrow_of w mr with
    | job i j e =>
      cases wrow_of w mt with
      | job i' j' e' =>
        rintro ⟨eh, ne, z⟩
        obtain ⟨q1, q2⟩ := jj e e' eh
        obtain ⟨q3, q4⟩ := jj e' e eh.symm
        rcases z with z | ⟨z1, z2⟩ | ⟨z1, z2⟩
        · have ei := q1 (by omega)
          subst ei
          obtain rfl := Option.some.inj (e.symm.trans e')
          exact ne rfl
        · have := q2 (by omega)
          rw [eh] at z2
          omega
        · have := q4 (by omega)
          rw [eh] at z2
          omega
      | ask i' x j' e' ej' => exact ja e e' ej'
      | all h mh => exact fun z => lj e ((clash_comm _ _).mp z)
    | ask i x j e ej =>
      cases wrow_of w mt with
      | job i' j' e' => exact fun z => ja e' e ej ((clash_comm _ _).mp z)
      | ask i' x' j' e' ej' =>
        rintro ⟨eh, ne, z⟩
        obtain ⟨q1, q2⟩ := aa e ej e' ej' eh
        obtain ⟨q3, q4⟩ := aa e' ej' e ej eh.symm
        rcases z with z | ⟨z1, z2⟩ | ⟨z1, z2⟩
        · have ei := q1 (by omega)
          subst ei
          obtain rfl := Option.some.inj (e.symm.trans e')
          obtain rfl := Option.some.inj (ej.symm.trans ej')
          exact ne rfl
        · have := q2 (by omega)
          rw [eh] at z2
          omega
        · have := q4 (by omega)
          rw [eh] at z2
          omega
      | all h mh => exact fun z => la e ej ((clash_comm _ _).mp z)
    | all h mh =>
      cases wrow_of w mt with
      | job i' j' e' => exact lj e'
      | ask i' x' j' e' ej' => exact la e' ej'
      | all h' mh' =>
        rintro ⟨eh, ne⟩
        subst eh
        exact ne rfl
/-! ### what there was, by the law -/
def CntW (wd : Str) (rs : List Row) (h : Str) (n : Int) : Prop := (wd = "job" → CntJ rs h n) ∧ (wd ≠ "job" → CntA rs h n)
theorem below_congr {hs : List Str} {c d : Str → Nat} (h : ∀ x ∈ hs, c x = d x) : below hs c = below hs d := by
  unfold below
  induction hs with
  | nil => rfl
  | cons x hs ih =>
    rw [List.flatMap_cons, List.flatMap_cons, h x List.mem_cons_self, ih fun y m => h y (List.mem_cons_of_mem _ m)]
theorem HKs.app {H : Hp} : ∀ {us ws : List V} {ks ls : List Gr.HK}, HKs H us ks → HKs H ws ls → HKs H (us ++ ws) (ks ++ ls)
  | _, _, _, _, .nil, q => q
  | _, _, _, _, .cons h r, q => .cons h (r.app q)
noncomputable def knownOf (rs : List Row) (wd : Str) (ks : List Gr.HK) : List Gr.HK := open Classical in ks.filter fun k => decide (∃ r, Bk rs wd r ∧ r.key = k)
/-! ### (house, number) in order -/
theorem cps_lt_of {a b : Str} (h : ¬ b.cps.toList < a.cps.toList) (ne : a ≠ b) : a.cps.toList < b.cps.toList := by
  refine Decidable.byContradiction fun n => ne ?_
  have e : a.cps.toList = b.cps.toList := List.le_antisymm (List.not_lt.mp h) (List.not_lt.mp n)
  cases a
  cases b
  simp at e
  rw [e]
theorem rising_pair : ∀ {r : List Str} {p : Str}, risingS p r = true → (∀ x ∈ r, ¬ x.cps.toList < p.cps.toList) ∧ r.Pairwise fun a b => ¬ b.cps.toList < a.cps.toList
  | [], _, _ => ⟨fun _ m => (nomatch m), List.Pairwise.nil⟩
  | x :: r, p, h => by
    have h : (!ltCps x.cps.toList p.cps.toList && risingS x r) = true := h
    rw [Bool.and_eq_true] at h
    obtain ⟨i1, i2⟩ := rising_pair h.2
    have hx : ¬ x.cps.toList < p.cps.toList := by
      have := h.1
      rw [ltCps_eq] at this
      simpa using this
    refine ⟨fun y m => ?_, List.pairwise_cons.mpr ⟨i1, i2⟩⟩
    rcases List.mem_cons.mp m with rfl | m
    · exact hx
    · exact List.not_lt.mpr (List.le_trans (List.not_lt.mp hx) (List.not_lt.mp (i1 y m)))
theorem up_pair {hs : List Str} (h : sortedS hs = true) (nd : hs.Nodup) : hs.Pairwise fun a b => a.cps.toList < b.cps.toList := by
  cases hs with
  | nil => exact List.Pairwise.nil
  | cons x r =>
    obtain ⟨h1, h2⟩ := rising_pair (show risingS x r = true from h)
    have p : (x :: r).Pairwise fun a b => ¬ b.cps.toList < a.cps.toList := List.pairwise_cons.mpr ⟨h1, h2⟩
    have both := p.and (List.nodup_iff_pairwise_ne.mp nd)
    exact both.imp fun z => cps_lt_of z.1 z.2
theorem hk_lt_ne {a b : Gr.HK} (h : a.1 ≠ b.1) : Fl.ltD (Gr.datOf a) (Gr.datOf b) = decide (a.1.cps.toList < b.1.cps.toList) := by
  have e4 : PyData.eqv (.str a.1) (.str b.1) = false := by simpa [PyData.eqv] using h
  unfold Fl.ltD Gr.datOf
  rw [PySem.W.dataLt_all_no (by rfl) e4, PySem.W.dataLt_str]
theorem hk_lt_eq {h : Str} {n m : Int} : Fl.ltD (Gr.datOf (h, n)) (Gr.datOf (h, m)) = decide (n < m) := by
  unfold Fl.ltD Gr.datOf
  rw [PySem.W.dataLt_all_yes (by rfl) (by simp [PyData.eqv])]
  by_cases e : n = m
  · subst e
    rw [PySem.W.dataLt_all_yes (by rfl) (by simp [PyData.eqv])]
    have e1 : decide (n < n) = false := decide_eq_false (by omega)
    rw [e1]
    rfl
  · rw [PySem.W.dataLt_all_no (by rfl) (by simpa [PyData.eqv] using e), PySem.W.dataLt_int]
theorem hk_anti {a b : Gr.HK} (h1 : Fl.ltD (Gr.datOf b) (Gr.datOf a) = false) (h2 : Fl.ltD (Gr.datOf a) (Gr.datOf b) = false) : a = b := by
  by_cases e : a.1 = b.1
  · obtain ⟨x, n⟩ := a
    obtain ⟨y, m⟩ := b
    have e : x = y := e
    subst e
    rw [hk_lt_eq] at h1 h2
    have := of_decide_eq_false h1
    have := of_decide_eq_false h2
    exact Prod.ext rfl (by show n = m; omega)
  · rw [hk_lt_ne (Ne.symm e)] at h1
    rw [hk_lt_ne e] at h2
    exact absurd (cps_lt_of (of_decide_eq_false h1) e) (of_decide_eq_false h2)
theorem srt_below {hs : List Str} {cnt : Str → Nat} (h : sortedS hs = true) (nd : hs.Nodup) : SrtK (below hs cnt) := by
  unfold SrtK below
  rw [List.pairwise_flatMap]
  refine ⟨fun x _ => ?_, (up_pair h nd).imp fun {x y} lt a ha b hb => ?_⟩
  · rw [List.pairwise_map]
    refine List.pairwise_lt_range.imp fun {i j} lt => ?_
    rw [hk_lt_eq]
    exact decide_eq_false (by omega)
  · obtain ⟨n, _, rfl⟩ := List.mem_map.mp ha
    obtain ⟨k, _, rfl⟩ := List.mem_map.mp hb
    have ne : y ≠ x := fun e => by
      rw [e] at lt
      exact absurd lt (List.lt_irrefl _)
    rw [hk_lt_ne ne]
    refine decide_eq_false fun z => ?_
    exact absurd (List.lt_trans lt z) (List.lt_irrefl _)
theorem srt_eq {ks ls : List Gr.HK} (h1 : SrtK ks) (h2 : SrtK ls) (pm : ks.Perm ls) : ks = ls := List.Perm.eq_of_pairwise (fun a b _ _ x y => hk_anti x y) h1 h2 pm
theorem SrtK.filter {ks : List Gr.HK} (h : SrtK ks) (p : Gr.HK → Bool) : SrtK (ks.filter p) := List.Pairwise.sublist List.filter_sublist h
/-! what is known was there -/
theorem known_below {hs : List Str} {rs : List Row} {cnt : Str → Nat} {wd : Str} (B : Book hs rs) (hw : wd = "ask" ∨ wd = "job") (hc : ∀ h ∈ hs, CntW wd rs h (cnt h : Nat) ∧ cnt h ≤ 16) {r : Row} (hr : Bk rs wd r) : r.key ∈ below hs cnt := by
  have hin : r.h ∈ hs := by
    have := B.inn r hr.1
    cases r
    · exact this.1
    · exact this
    · exact this
  refine mem_below.mpr ⟨hin, (wf_k (B.wf r hr.1)).1, ?_⟩
  obtain ⟨cw, _⟩ := hc r.h hin
  show r.k < (cnt r.h : Int)
  rcases hw with rfl | rfl
  · rcases cw.2 w_aj with ⟨t, ht, e⟩ | ⟨_, m, hm, e⟩
    · have nc := B.nc t ht.1.1 r hr.1
      rw [e]
      cases r with
      | ask h g k n o b =>
        cases t with
        | all h' a j =>
          have eh : h' = h := ht.2
          subst eh
          refine Decidable.byContradiction fun z => nc ⟨rfl, .inl ?_⟩
          have z : ¬ k < a := z
          omega
        | ask _ _ _ _ _ _ => exact absurd ht.1.2 w_aa
        | job _ _ _ _ => exact absurd ht.1.2 w_ja
      | job _ _ _ _ => exact absurd hr.2 w_ja'
      | all _ _ _ => exact absurd hr.2 w_la
    · rcases hm with ⟨no, _⟩ | ⟨k, _, hk, ek⟩
      · exact absurd ⟨r, ⟨hr, rfl⟩, rfl⟩ (no r.k)
      · obtain rfl := V.int.inj ek
        have := hk r.k ⟨r, ⟨hr, rfl⟩, rfl⟩
        omega
  · rcases cw.1 rfl with ⟨t, ht, e⟩ | ⟨_, m, hm, e⟩
    · have nc := B.nc t ht.1.1 r hr.1
      rw [e]
      cases r with
      | job h k o b =>
        cases t with
        | all h' a j =>
          have eh : h' = h := ht.2
          subst eh
          refine Decidable.byContradiction fun z => nc ⟨rfl, ?_⟩
          have z : ¬ k < j := z
          omega
        | ask _ _ _ _ _ _ => exact absurd ht.1.2 w_aa
        | job _ _ _ _ => exact absurd ht.1.2 w_ja
      | ask _ _ _ _ _ _ => exact absurd hr.2 w_aj
      | all _ _ _ => exact absurd hr.2 (fun z => w_ja z.symm)
    · rcases hm with ⟨no, _⟩ | ⟨k, _, hk, ek⟩
      · exact absurd (.inl ⟨r, ⟨hr, rfl⟩, rfl⟩) (no r.k)
      · obtain rfl := V.int.inj ek
        have := hk r.k (.inl ⟨r, ⟨hr, rfl⟩, rfl⟩)
        omega
/-! the counts are one -/
theorem geS_one {S : Int → Prop} {d v u : V} (h1 : geS S d v) (h2 : geS S d u) : v = u := by
  rcases h1 with ⟨n1, e1⟩ | ⟨m, a1, a2, rfl⟩
  · rcases h2 with ⟨n2, e2⟩ | ⟨k, b1, _, _⟩
    · rw [e1, e2]
    · exact absurd b1 (n1 k)
  · rcases h2 with ⟨n2, _⟩ | ⟨k, b1, b2, rfl⟩
    · exact absurd a1 (n2 m)
    · have := a2 k b1
      have := b2 m a1
      rw [show m = k by omega]
theorem leS_one {S : Int → Prop} {d v u : V} (h1 : leS S d v) (h2 : leS S d u) : v = u := by
  rcases h1 with ⟨n1, e1⟩ | ⟨m, a1, a2, rfl⟩
  · rcases h2 with ⟨n2, e2⟩ | ⟨k, b1, _, _⟩
    · rw [e1, e2]
    · exact absurd b1 (n1 k)
  · rcases h2 with ⟨n2, _⟩ | ⟨k, b1, b2, rfl⟩
    · exact absurd a1 (n2 m)
    · have := a2 k b1
      have := b2 m a1
      rw [show m = k by omega]
theorem cntA_one {hs : List Str} {rs : List Row} (B : Book hs rs) {h : Str} {n m : Int} (h1 : CntA rs h n) (h2 : CntA rs h m) : n = m := by
  rcases h1 with ⟨r, hr, e⟩ | ⟨no, k, hk, e⟩
  · rcases h2 with ⟨t, ht, e2⟩ | ⟨no, _⟩
    · rw [e, e2, B.uniqH r t hr.1 ht.1 (hr.2.trans ht.2.symm)]
    · exact absurd hr (no r)
  · rcases h2 with ⟨t, ht, _⟩ | ⟨_, j, hj, e2⟩
    · exact absurd ht (no t)
    · have := V.int.inj (geS_one hk hj)
      omega
theorem cntJ_one {hs : List Str} {rs : List Row} (B : Book hs rs) {h : Str} {n m : Int} (h1 : CntJ rs h n) (h2 : CntJ rs h m) : n = m := by
  rcases h1 with ⟨r, hr, e⟩ | ⟨no, k, hk, e⟩
  · rcases h2 with ⟨t, ht, e2⟩ | ⟨no, _⟩
    · rw [e, e2, B.uniqH r t hr.1 ht.1 (hr.2.trans ht.2.symm)]
    · exact absurd hr (no r)
  · rcases h2 with ⟨t, ht, _⟩ | ⟨_, j, hj, e2⟩
    · exact absurd ht (no t)
    · have := V.int.inj (geS_one hk hj)
      omega
theorem known_eq {hs : List Str} {rs : List Row} {cnt : Str → Nat} {wd : Str} {ks : List Gr.HK} (B : Book hs rs) (up : sortedS hs = true) (nd : hs.Nodup) (hw : wd = "ask" ∨ wd = "job") (hc : ∀ h ∈ hs, CntW wd rs h (cnt h : Nat) ∧ cnt h ≤ 16) (hk : KnownR wd hs rs ks) (hs' : SrtK ks) : ks = knownOf rs wd (below hs cnt) := by
  refine srt_eq hs' ((srt_below up nd).filter _) ((List.perm_ext_iff_of_nodup hk.1 ((nd_below nd).sublist List.filter_sublist)).mpr fun k => ?_)
  rw [hk.2]
  rw [List.mem_filter]
  constructor
  · rintro ⟨r, hr, rfl⟩
    exact ⟨known_below B hw hc hr, by simpa using ⟨r, hr, rfl⟩⟩
  · rintro ⟨_, h⟩
    simpa using h
theorem lost_eq {hs : List Str} {rs : List Row} {cnt : Str → Nat} {wd : Str} {C : List Row → Str → Int → Prop} {ks : List Gr.HK} (up : sortedS hs = true) (nd : hs.Nodup) (hone : ∀ h n m, C rs h n → C rs h m → n = m) (hc : ∀ h ∈ hs, C rs h (cnt h : Nat)) (hk : LostR C wd hs rs ks) (hs' : SrtK ks) : ks = lostOf rs wd (below hs cnt) := by
  obtain ⟨c2, h2, pm⟩ := hk
  have e : below hs c2 = below hs cnt := below_congr fun x m => Int.ofNat.inj (hone x _ _ (h2 x m).1 (hc x m))
  rw [e] at pm
  exact srt_eq hs' ((srt_below up nd).filter _) pm
def Row.x4 : Row → Int
  | .job _ _ _ b => b
  | _ => 0
/-! ### what the rows tell of one ask, of one job, as functions of the rows -/
def Row.g : Row → Str
  | .ask _ g _ _ _ _ => g
  | _ => ""
theorem at4j {r : Row} (h : r.word = "job") : atI r.vals 4 = some (.int r.x4) := by
  cases r with
  | job _ _ _ _ => rfl
  | ask _ _ _ _ _ _ => exact absurd h w_aj
  | all _ _ _ => exact absurd h.symm w_ja
theorem at4a {r : Row} (h : r.word = "ask") : atI r.vals 4 = some (.str r.g) := by
  cases r with
  | ask _ _ _ _ _ _ => rfl
  | job _ _ _ _ => exact absurd h w_ja'
  | all _ _ _ => exact absurd h w_la
noncomputable def grS (S : Int → Prop) : V := open Classical in if h : ∃ v, geS S .non v then Classical.choose h else .non
noncomputable def lsS (S : Int → Prop) : V := open Classical in if h : ∃ v, leS S .non v then Classical.choose h else .non
theorem grS_of {S : Int → Prop} {v : V} (h : geS S .non v) : grS S = v := by
  have e : ∃ v, geS S .non v := ⟨v, h⟩
  unfold grS
  rw [dif_pos e]
  exact geS_one (Classical.choose_spec e) h
theorem lsS_of {S : Int → Prop} {v : V} (h : leS S .non v) : lsS S = v := by
  have e : ∃ v, leS S .non v := ⟨v, h⟩
  unfold lsS
  rw [dif_pos e]
  exact leS_one (Classical.choose_spec e) h
/-! of two times; None bars nothing -/
def NA (a b : V) : Bool := match a, b with
  | .int x, .int y => decide (x ≤ y)
  | _, _ => true
def TimV (v : V) : Prop := v = .non ∨ ∃ n, v = .int n
theorem geS_tim {S : Int → Prop} {v : V} (h : geS S .non v) : TimV v := by
  rcases h with ⟨_, e⟩ | ⟨m, _, _, e⟩
  · exact .inl e
  · exact .inr ⟨m, e⟩
theorem leS_tim {S : Int → Prop} {v : V} (h : leS S .non v) : TimV v := by
  rcases h with ⟨_, e⟩ | ⟨m, _, _, e⟩
  · exact .inl e
  · exact .inr ⟨m, e⟩
def rowOf (rs : List Row) (wd : Str) (k : Gr.HK) : Option Row := rs.find? fun r => decide (r.word = wd ∧ r.key = k)
theorem rowOf_some {rs : List Row} {wd : Str} {k : Gr.HK} {r : Row} (h : rowOf rs wd k = some r) : Bk rs wd r ∧ r.key = k := by
  have h1 := List.find?_some h
  have h2 := of_decide_eq_true h1
  exact ⟨⟨List.mem_of_find?_eq_some h, h2.1⟩, h2.2⟩
theorem rowOf_none {rs : List Row} {wd : Str} {k : Gr.HK} (h : rowOf rs wd k = none) : ¬ ∃ r, Bk rs wd r ∧ r.key = k := by
  rintro ⟨r, hr, e⟩
  have := List.find?_eq_none.mp h r hr.1
  exact this (decide_eq_true ⟨hr.2, e⟩)
theorem rowOf_is {rs : List Row} {wd : Str} {r : Row} (un : Uniq (Bk rs wd)) (hr : Bk rs wd r) : rowOf rs wd r.key = some r := by
  cases e : rowOf rs wd r.key with
  | none => exact absurd ⟨r, hr, rfl⟩ (rowOf_none e)
  | some t =>
    obtain ⟨h1, h2⟩ := rowOf_some e
    rw [un t r h1 hr h2]
noncomputable def loA (rs : List Row) (k : Gr.HK) : V := grS fun x => ∃ r, AskOf rs k.1 r ∧ r.k < k.2 ∧ r.x5 = x
noncomputable def hiA (rs : List Row) (k : Gr.HK) : V := lsS fun x => ∃ r, AskOf rs k.1 r ∧ k.2 < r.k ∧ r.x5 = x
theorem spA_fun {rs : List Row} {k : Gr.HK} {lo hi : V} (h : SpA rs k lo hi) : lo = loA rs k ∧ hi = hiA rs k := ⟨(grS_of h.1).symm, (lsS_of h.2).symm⟩
noncomputable def loJ (rs : List Row) (k : Gr.HK) : V := grS fun x => ∃ r, JobOf rs k.1 r ∧ r.k < k.2 ∧ r.x3 = x
noncomputable def hiJ (rs : List Row) (k : Gr.HK) : V := lsS fun x => (∃ r, JobOf rs k.1 r ∧ k.2 < r.k ∧ r.x3 = x) ∨ ∃ r, AskOf rs k.1 r ∧ k.2 ≤ r.x3 ∧ r.x5 - 1 = x
noncomputable def laJ (rs : List Row) (k : Gr.HK) : V := grS fun x => ∃ r, AskOf rs k.1 r ∧ r.x3 = k.2 ∧ r.x6 = x
theorem spJ_fun {rs : List Row} {k : Gr.HK} {lo hi la : V} (h : SpJ rs k lo hi la) : lo = loJ rs k ∧ hi = hiJ rs k ∧ la = laJ rs k := ⟨(grS_of h.1).symm, (lsS_of h.2.1).symm, (grS_of h.2.2).symm⟩
noncomputable def mrA (rs : List Row) (h : Str) : V := grS fun x => ∃ r, AskOf rs h r ∧ r.x5 = x
noncomputable def mrJ (rs : List Row) (h : Str) : V := grS fun x => ∃ r, JobOf rs h r ∧ r.x3 = x
theorem mr_fun {rs : List Row} {h : Str} {a b : V} (m : Mr rs h a b) : a = mrA rs h ∧ b = mrJ rs h := ⟨(grS_of m.1).symm, (grS_of m.2).symm⟩
/-! when a known job began, or the latest that a lost one may have -/
noncomputable def lateB (rs : List Row) (j : Gr.HK) : V := match rowOf rs "job" j with
  | some r => .int r.x3
  | none => hiJ rs j
def NLt (a : V) (b : Int) : Bool := match a with
  | .int x => decide (x < b)
  | _ => true
noncomputable def inTime (rs : List Row) (o b : Int) (j : Gr.HK) : Bool := match rowOf rs "job" j with
  | some r => decide (o ≤ r.x3) && decide (r.x4 ≤ b)
  | none => NA (loJ rs j) (.int b) && NA (.int o) (hiJ rs j) && NLt (laJ rs j) b
noncomputable def mayB (rs : List Row) (a j : Gr.HK) : Bool := match rowOf rs "ask" a with
  | some r => decide (j.1 = r.g) && inTime rs r.x5 r.x6 j
  | none => NA (loA rs a) (lateB rs j)
noncomputable def moreJ (hs : List Str) (rs : List Row) (a : Gr.HK) : Bool := match rowOf rs "ask" a with
  | some r => decide (r.g ∈ openOf rs hs) && NA (mrJ rs r.g) (.int r.x6)
  | none => decide (openOf rs hs ≠ [])
noncomputable def moreA (hs : List Str) (rs : List Row) (j : Gr.HK) : Bool := (openOf rs hs).any fun h => NA (mrA rs h) (lateB rs j)
/-! an ask, a job that there was -/
def WasA (hs : List Str) (rs : List Row) (k : Gr.HK) : Prop := k.1 ∈ hs ∧ 0 ≤ k.2 ∧ ∃ n, CntA rs k.1 n ∧ k.2 < n
def WasJ (hs : List Str) (rs : List Row) (k : Gr.HK) : Prop := k.1 ∈ hs ∧ 0 ≤ k.2 ∧ ∃ n, CntJ rs k.1 n ∧ k.2 < n
theorem lost_in {rs : List Row} {wd : Str} {ks : List Gr.HK} {k : Gr.HK} (h : k ∈ ks) (e : rowOf rs wd k = none) : k ∈ lostOf rs wd ks := by
  unfold lostOf
  exact List.mem_filter.mpr ⟨h, by simpa using rowOf_none e⟩
theorem WasA.below {hs : List Str} {rs : List Row} {k : Gr.HK} {c : Str → Nat} (h : WasA hs rs k) (B : Book hs rs) (hc : ∀ h ∈ hs, CntA rs h (c h : Nat) ∧ c h ≤ 16) : k ∈ below hs c := by
  obtain ⟨h1, h2, n, h3, h4⟩ := h
  have := cntA_one B h3 (hc _ h1).1
  exact mem_below.mpr ⟨h1, h2, by omega⟩
theorem WasJ.below {hs : List Str} {rs : List Row} {k : Gr.HK} {c : Str → Nat} (h : WasJ hs rs k) (B : Book hs rs) (hc : ∀ h ∈ hs, CntJ rs h (c h : Nat) ∧ c h ≤ 16) : k ∈ below hs c := by
  obtain ⟨h1, h2, n, h3, h4⟩ := h
  have := cntJ_one B h3 (hc _ h1).1
  exact mem_below.mpr ⟨h1, h2, by omega⟩
/-! how many there were, as functions of the rows -/
noncomputable def cnA (rs : List Row) (h : Str) : Nat := open Classical in if e : ∃ n : Nat, CntA rs h (n : Nat) then Classical.choose e else 0
noncomputable def cnJ (rs : List Row) (h : Str) : Nat := open Classical in if e : ∃ n : Nat, CntJ rs h (n : Nat) then Classical.choose e else 0
theorem cnA_of {hs : List Str} {rs : List Row} (B : Book hs rs) {h : Str} {n : Nat} (c : CntA rs h (n : Nat)) : cnA rs h = n := by
  have e : ∃ n : Nat, CntA rs h (n : Nat) := ⟨n, c⟩
  unfold cnA
  rw [dif_pos e]
  have := cntA_one B (Classical.choose_spec e) c
  omega
theorem cnJ_of {hs : List Str} {rs : List Row} (B : Book hs rs) {h : Str} {n : Nat} (c : CntJ rs h (n : Nat)) : cnJ rs h = n := by
  have e : ∃ n : Nat, CntJ rs h (n : Nat) := ⟨n, c⟩
  unfold cnJ
  rw [dif_pos e]
  have := cntJ_one B (Classical.choose_spec e) c
  omega
/-! what is got out of the dicts of the gaps -/
theorem DRow.find {H : Hp} {rs : List Row} {wd : Str} {kvs : List (List Key × V)} (un : Uniq (Bk rs wd)) (d : DRow key2 H (Bk rs wd) kvs) (k : Gr.HK) : (∃ a r, rowOf rs wd k = some r ∧ r.word = wd ∧ valV kvs (Gr.keyOf k) = some (.ref a) ∧ RowAt H a r) ∨ (rowOf rs wd k = none ∧ valV kvs (Gr.keyOf k) = none) := by
  rcases val_row d (Gr.keyOf k) with ⟨a, r, e1, e2, e3, e4⟩ | ⟨e1, e2⟩
  · refine .inl ⟨a, r, ?_, e3.2, e1, e2⟩
    rw [keyOf_inj e4]
    exact rowOf_is un e3
  · refine .inr ⟨?_, e1⟩
    cases e : rowOf rs wd k with
    | none => rfl
    | some t =>
      obtain ⟨h1, h2⟩ := rowOf_some e
      exact absurd (show Gr.keyOf t.key = _ by rw [h2]) (e2 t h1)
theorem SpD.get {H : Hp} {R : Gr.HK → List V → Prop} {ks : List Gr.HK} {kvs : List (List Key × V)} (h : SpD H R ks kvs) {k : Gr.HK} (m : k ∈ ks) : ∃ p us, valV kvs (Gr.keyOf k) = some (.ref p) ∧ H p = some (.tup us) ∧ R k us := by
  cases e : valV kvs (Gr.keyOf k) with
  | none =>
    have mk : Gr.keyOf k ∈ kvs.map (·.1) := by
      rw [h.keys]
      exact List.mem_map.mpr ⟨k, m, rfl⟩
    obtain ⟨x, mx, ex⟩ := List.mem_map.mp mk
    exact absurd (show (Gr.keyOf k, x.2) ∈ kvs by rw [← ex]; exact mx) (val_none e _)
  | some v =>
    obtain ⟨k', p, us, e1, e2, e3, e4⟩ := h.val _ (val_mem e)
    have e2 : v = .ref p := e2
    subst e2
    rw [← keyOf_inj e1] at e4
    exact ⟨p, us, rfl, e3, e4⟩
theorem MoD.get {H : Hp} {R : Str → List V → Prop} {ks : List Str} {kvs : List (Key × V)} (h : MoD H R ks kvs) {k : Str} (m : k ∈ ks) : ∃ p us, valV kvs (Sum.inr k : Key) = some (.ref p) ∧ H p = some (.tup us) ∧ R k us := by
  cases e : valV kvs (Sum.inr k : Key) with
  | none =>
    have mk : (Sum.inr k : Key) ∈ kvs.map (·.1) := by
      rw [h.keys]
      exact List.mem_map.mpr ⟨k, m, rfl⟩
    obtain ⟨x, mx, ex⟩ := List.mem_map.mp mk
    exact absurd (show ((Sum.inr k : Key), x.2) ∈ kvs by rw [← ex]; exact mx) (val_none e _)
  | some v =>
    obtain ⟨k', p, us, e1, e2, e3, e4⟩ := h.val _ (val_mem e)
    have e2 : v = .ref p := e2
    subst e2
    rw [← Sum.inr.inj e1] at e4
    exact ⟨p, us, rfl, e3, e4⟩
theorem MoD.not {H : Hp} {R : Str → List V → Prop} {ks : List Str} {kvs : List (Key × V)} (h : MoD H R ks kvs) {k : Str} (m : k ∉ ks) : valV kvs (Sum.inr k : Key) = none := by
  cases e : valV kvs (Sum.inr k : Key) with
  | none => rfl
  | some v =>
    have : (Sum.inr k : Key) ∈ kvs.map (·.1) := List.mem_map.mpr ⟨_, val_mem e, rfl⟩
    rw [h.keys] at this
    obtain ⟨x, mx, ex⟩ := List.mem_map.mp this
    exact absurd (by rw [← Sum.inr.inj ex]; exact mx) m
/-! ### x is True, x is not True, of any value -/
theorem is_bool_gen {M : Model} {A : Around} {E : Value → Shared → Prop} {s : Shared} {Q : Value → Shared → Prop} {v : Value} {b : Bool} (hb : ∀ i, v ≠ .builtin i) (h : Q (.bool (v == .bool b)) s) : wpAny M A (compareOp .Is v (.bool b)) Q E s := by
  cases v <;> first | exact wpAny_pure h | exact absurd rfl (hb _)
theorem op_isB {X : Cx} (b : Bool) : OpR X (compareOp .Is) (fun x y H Q => y = .bl b ∧ Q (.bl (decide (x = .bl b))) H) := by
  intro pins s σ H x y v u Q I rx ry h
  obtain ⟨rfl, q⟩ := h
  obtain rfl : u = Value.bool b := ry
  refine is_bool_gen (fun i z => ?_) ⟨.bl (decide (x = .bl b)), H, I, ?_, q⟩
  · subst z
    cases x <;> first
      | (cases rx; done)
      | (obtain ⟨t, e⟩ := rx; cases e; done)
  show Value.bool (v == .bool b) = Value.bool (decide (x = .bl b))
  congr 1
  cases x with
  | bl c =>
    obtain rfl : v = .bool c := rx
    by_cases e : c = b
    · subst e
      rw [decide_eq_true rfl, beq_self_eq_true]
    · rw [decide_eq_false (fun z => e (V.bl.inj z)), beq_eq_false_iff_ne.mpr (fun z => e (Value.bool.inj z))]
  | _ =>
    rw [decide_eq_false (fun z => by cases z)]
    refine beq_eq_false_iff_ne.mpr fun z => ?_
    subst z
    first
      | (cases rx; done)
      | (obtain ⟨t, e⟩ := rx; cases e; done)
def rIsB (b : Bool) : R2 := fun x y H Q => y = .bl b ∧ Q (.bl (decide (x = .bl b))) H
theorem isnot_bool_gen {M : Model} {A : Around} {E : Value → Shared → Prop} {s : Shared} {Q : Value → Shared → Prop} {v : Value} {b : Bool} (hb : ∀ i, v ≠ .builtin i) (h : Q (.bool (!(v == .bool b))) s) : wpAny M A (compareOp .IsNot v (.bool b)) Q E s := by
  cases v <;> first | exact wpAny_pure h | exact absurd rfl (hb _)
theorem op_notB {X : Cx} (b : Bool) : OpR X (compareOp .IsNot) (fun x y H Q => y = .bl b ∧ Q (.bl (!decide (x = .bl b))) H) := by
  intro pins s σ H x y v u Q I rx ry h
  obtain ⟨rfl, q⟩ := h
  obtain rfl : u = Value.bool b := ry
  refine isnot_bool_gen (fun i z => ?_) ⟨.bl (!decide (x = .bl b)), H, I, ?_, q⟩
  · subst z
    cases x <;> first
      | (cases rx; done)
      | (obtain ⟨t, e⟩ := rx; cases e; done)
  show Value.bool (!(v == .bool b)) = Value.bool (!decide (x = .bl b))
  congr 2
  cases x with
  | bl c =>
    obtain rfl : v = .bool c := rx
    by_cases e : c = b
    · subst e
      rw [decide_eq_true rfl, beq_self_eq_true]
    · rw [decide_eq_false (fun z => e (V.bl.inj z)), beq_eq_false_iff_ne.mpr (fun z => e (Value.bool.inj z))]
  | _ =>
    rw [decide_eq_false (fun z => by cases z)]
    refine beq_eq_false_iff_ne.mpr fun z => ?_
    subst z
    first
      | (cases rx; done)
      | (obtain ⟨t, e⟩ := rx; cases e; done)
theorem dqs_rows {Ex : Addr → Prop} {H : Hp} : ∀ {xs : List V} {rs : List Row}, Rws H xs rs → Dqs Ex H xs (rs.map rowD)
  | [], [], _ => .nil
  | [], _ :: _, h => nomatch h.1
  | _ :: _, [], h => nomatch h.1
  | v :: xs, r :: rs, h => by
    obtain ⟨a, e, ha⟩ := h.2 0 r rfl
    obtain rfl : v = .ref a := Option.some.inj e
    exact .cons (.tup ha (dqs_row r)) (dqs_rows ⟨Nat.succ.inj h.1, fun i t e => h.2 (i + 1) t e⟩)
theorem rws_of {Ex : Addr → Prop} {H : Hp} {xs : List V} {rs : List Row} (h : Dqs Ex H xs (rs.map rowD)) : Rws H xs rs := by
  refine ⟨by rw [h.len, List.length_map], fun i r e => ?_⟩
  obtain ⟨v, hv, dv⟩ := h.get (show (rs.map rowD)[i]? = some (.tuple r.data) by rw [List.getElem?_map, e]; rfl)
  obtain ⟨a, rfl, ha⟩ := row_at dv
  exact ⟨a, hv, ha⟩
theorem Book.sub {hs : List Str} {rs ts : List Row} (B : Book hs rs) (h : ∀ r ∈ ts, r ∈ rs) : Book hs ts := ⟨fun r m => B.wf r (h r m), fun r m => B.inn r (h r m), fun r m t mt => B.nc r (h r m) t (h t mt)⟩
/-! ### a book is refused by none -/
theorem Book.rowsD {hs : List Str} {rs : List Row} (B : Book hs rs) (n : Nat) : RowsD hs (rs.map rowD) n := fun j d _ e => by
  rw [List.getElem?_map] at e
  obtain ⟨r, er, rfl⟩ := Option.map_eq_some_iff.mp e
  have m := List.mem_of_getElem? er
  refine ⟨r, rfl, B.inn r m, ?_⟩
  have w := B.wf r m
  cases r with
  | ask h g k n o b => exact w.2.2
  | job h k o b => exact w.2
  | all h a j => exact w.2
theorem Book.noClash {hs : List Str} {rs : List Row} (B : Book hs rs) (n : Nat) : NoClash (rs.map rowD) n := fun s _ f _ ⟨r, t, e1, e2, hc⟩ => by
  rw [List.getElem?_map] at e1 e2
  obtain ⟨r', er, e3⟩ := Option.map_eq_some_iff.mp e1
  obtain ⟨t', et, e4⟩ := Option.map_eq_some_iff.mp e2
  obtain rfl := data_inj (PyData.tuple.inj e3)
  obtain rfl := data_inj (PyData.tuple.inj e4)
  exact B.nc _ (List.mem_of_getElem? er) _ (List.mem_of_getElem? et) hc
theorem rowD_inj {rs ts : List Row} (h : rs.map rowD = ts.map rowD) : rs = ts := by
  induction rs generalizing ts with
  | nil =>
    cases ts with
    | nil => rfl
    | cons _ _ => exact nomatch h
  | cons r rs ih =>
    cases ts with
    | nil => exact nomatch h
    | cons t ts =>
      rw [List.map_cons, List.map_cons] at h
      injection h with h1 h2
      rw [data_inj (PyData.tuple.inj h1), ih h2]
theorem Book.refuse {hs : List Str} {rs : List Row} (B : Book hs rs) {CN CC : Addr} {H : Hp} {E : XK} : Refuse CN CC H hs (rs.map rowD) E :=
  ⟨fun i dv d H' h1 h2 h3 _ _ => absurd (B.rowsD (rs.map rowD).length i dv (List.getElem?_eq_some_iff.mp h2).1 h2) h3, fun f s d H' h1 h2 _ _ => absurd h2.at_ (B.noClash _ s h2.len f h2.lt)⟩
/-! a town and its book, at hand -/
structure Hand (H : Hp) (t l : Addr) (hs gs : List Str) (xs : List V) (rs : List Row) : Prop where
  town : TownAt H t hs gs
  up : sortedS hs = true
  nd : hs.Nodup
  ok : ∀ h ∈ hs, PyData.strOk h = true
  h6 : hs.length ≤ 6
  lst : H l = some (.lst xs)
  rows : Rws H xs rs
  book : Book hs rs
  ths : Ths (rs.map rowD)
  len : rs.length ≤ 900
theorem Hand.same {H H' : Hp} {t l : Addr} {hs gs : List Str} {xs : List V} {rs : List Row} (h : Hand H t l hs gs xs rs) (s : Same H H') : Hand H' t l hs gs xs rs :=
  ⟨h.town.same' s, h.up, h.nd, h.ok, h.h6, s _ _ h.lst, h.rows.same s, h.book, h.ths, h.len⟩
theorem Hand.ask {H : Hp} {t l m : Addr} {hs gs : List Str} {xs : List V} {rs : List Row} (h : Hand H t l hs gs xs rs) (hm : H m = some (.lst xs)) : Ask (fun _ => False) H t m hs gs xs (rs.map rowD) :=
  ⟨h.town, h.ok, hm, ⟨dqs_rows h.rows, fun d m => (h.ths d m).sh (by decide)⟩, by rw [List.length_map]; have := h.len; omega, h.h6, h.nd⟩
theorem Hand.shaped {H : Hp} {t l : Addr} {hs gs : List Str} {xs : List V} {rs : List Row} (h : Hand H t l hs gs xs rs) : SeqAt.shaped (.list (rs.map rowD)) = true := ths_lst h.ths (by rw [List.length_map]; have := h.len; omega)
theorem Hand.lay {H : Hp} {t l : Addr} {hs gs : List Str} {xs : List V} {rs : List Row} (h : Hand H t l hs gs xs rs) : (PyData.list (rs.map rowD)).canLay0 = true := (th_lst (m := 1000) h.ths (by rw [List.length_map]; have := h.len; omega)).lay
/-! handed != rows -/
theorem Hand.ne {H : Hp} {t l m : Addr} {hs gs : List Str} {xs : List V} {rs : List Row} {Q : VK} (h : Hand H t l hs gs xs rs) (hm : H m = some (.lst xs)) (q : Q (.bl false) H) : rNeD K (.ref m) (.ref l) H Q := by
  refine ⟨.list (rs.map rowD), .list (rs.map rowD), Dp.lst (SqL.of hm) (dqs_rows (Ex := fun _ => False) h.rows).dp, Dp.lst (SqL.of h.lst) (dqs_rows (Ex := fun _ => False) h.rows).dp, h.shaped, h.shaped, ?_⟩
  rw [PySem.SeqAt.eqv_refl _ h.lay]
  exact q
def hkD (k : Gr.HK) : PyData := .tuple [.str k.1, .int k.2]
theorem HKs.dqs {Ex : Addr → Prop} {H : Hp} : ∀ {us : List V} {ks : List Gr.HK}, HKs H us ks → Dqs Ex H us (ks.map hkD)
  | _, _, .nil => .nil
  | _, _, .cons h r => .cons (.tup h (.cons (.str _) (.cons (.int _) .nil))) r.dqs
theorem hk_dep : ∀ ks : List Gr.HK, PyData.depthAll (ks.map hkD) ≤ 1
  | [] => Nat.zero_le _
  | k :: ks => by
    show max (hkD k).depth (PyData.depthAll (ks.map hkD)) ≤ 1
    have := hk_dep ks
    have e : (hkD k).depth = 1 := rfl
    omega
/-! ### links, sums and rings: lowering sums round after round -/
namespace Bf
abbrev Lk (α : Type) := α × α × Int
section
variable {α : Type} [DecidableEq α]
structure St (α : Type) where
  S : α → Option Int
  V : α → Option (Lk α)
  T : α → Nat
def put {β : Type} (f : α → β) (a : α) (b : β) : α → β := fun x => if x = a then b else f x
theorem put_eq {β : Type} (f : α → β) (a : α) (b : β) : put f a b a = b := if_pos rfl
theorem put_ne {β : Type} (f : α → β) {a x : α} (b : β) (h : x ≠ a) : put f a b x = f x := if_neg h
/-- what a link lowers its one's sum to -/
def low (s : St α) (l : Lk α) : Option Int :=
  match s.S l.2.1 with
  | none => none
  | some x => match s.S l.1 with
    | none => some (x + l.2.2)
    | some y => if x + l.2.2 < y then some (x + l.2.2) else none
def lower (s : St α) (t : Nat) (l : Lk α) (z : Int) : St α := ⟨put s.S l.1 (some z), put s.V l.1 (some l), put s.T l.1 t⟩
def step (s : St α) (t : Nat) (l : Lk α) : St α :=
  match low s l with
  | none => s
  | some z => lower s t l z
theorem low_some {s : St α} {l : Lk α} {z : Int} (h : low s l = some z) : ∃ x, s.S l.2.1 = some x ∧ z = x + l.2.2 ∧ ∀ y, s.S l.1 = some y → z < y := by
  unfold low at h
  cases hx : s.S l.2.1 with
  | none => rw [hx] at h; cases h
  | some x =>
    rw [hx] at h
    cases hy : s.S l.1 with
    | none =>
      rw [hy] at h
      exact ⟨x, rfl, (Option.some.inj h).symm, fun y e => nomatch e⟩
    | some y =>
      rw [hy] at h
      dsimp only at h
      split at h
      · rename_i hlt
        obtain rfl := Option.some.inj h
        exact ⟨x, rfl, rfl, fun y' e => by cases e; exact hlt⟩
      · cases h
theorem low_none {s : St α} {l : Lk α} {x : Int} (h : low s l = none) (hx : s.S l.2.1 = some x) : ∃ y, s.S l.1 = some y ∧ y ≤ x + l.2.2 := by
  unfold low at h
  rw [hx] at h
  cases hy : s.S l.1 with
  | none => rw [hy] at h; cases h
  | some y =>
    rw [hy] at h
    dsimp only at h
    split at h
    · cases h
    · exact ⟨y, rfl, by omega⟩
def sumL (k : List (Lk α)) : Int := (k.map fun l => l.2.2).sum
theorem sumL_cons (l : Lk α) (k : List (Lk α)) : sumL (l :: k) = l.2.2 + sumL k := by unfold sumL; rw [List.map_cons, List.sum_cons]
theorem sumL_nil : sumL ([] : List (Lk α)) = 0 := rfl
/-- links, one behind the other, from a house to another -/
def Chain (ls : List (Lk α)) : α → α → List (Lk α) → Prop
  | a, b, [] => a = b
  | a, b, l :: k => l ∈ ls ∧ l.1 = a ∧ Chain ls l.2.1 b k
theorem Chain.app {ls : List (Lk α)} : ∀ {k k' : List (Lk α)} {a b c : α}, Chain ls a b k → Chain ls b c k' → Chain ls a c (k ++ k')
  | [], _, _, _, _, h, h' => by cases h; exact h'
  | _ :: _, _, _, _, _, h, h' => ⟨h.1, h.2.1, h.2.2.app h'⟩
/-- what holds of a state after t steps, the links of the last m of them in p -/
structure Ok (ls : List (Lk α)) (S0 : α → Option Int) (s : St α) (t : Nat) : Prop where
  none0 : ∀ v, s.V v = none → s.T v = 0 ∧ s.S v = S0 v
  some0 : ∀ v l, s.V v = some l → 0 < s.T v ∧ l.1 = v ∧ l ∈ ls ∧ ∃ x y, s.S v = some y ∧ s.S l.2.1 = some x ∧ x + l.2.2 ≤ y ∧ (x + l.2.2 < y ∨ s.T l.2.1 < s.T v)
  pos : ∀ v, S0 v ≠ none → s.S v ≠ none
  inj : ∀ v u, 0 < s.T v → s.T v = s.T u → v = u
  le : ∀ v, s.T v ≤ t
  less : ∀ v l y0, s.V v = some l → S0 v = some y0 → ∃ y, s.S v = some y ∧ y < y0
  way : ∀ v y, s.S v = some y → ∃ u y0 k, S0 u = some y0 ∧ Chain ls v u k ∧ y = y0 + sumL k
theorem Ok.start (ls : List (Lk α)) (S0 : α → Option Int) : Ok ls S0 ⟨S0, fun _ => none, fun _ => 0⟩ 0 where
  none0 := fun v _ => ⟨rfl, rfl⟩
  some0 := fun v l h => nomatch h
  pos := fun v h => h
  inj := fun v u h => absurd h (Nat.lt_irrefl 0)
  le := fun v => Nat.le_refl _
  less := fun v l y0 h => nomatch h
  way := fun v y h => ⟨v, y, [], h, rfl, (Int.add_zero y).symm⟩
theorem Ok.step {ls : List (Lk α)} {S0 : α → Option Int} {s : St α} {t : Nat} (h : Ok ls S0 s t) {l : Lk α} (hl : l ∈ ls) : Ok ls S0 (Bf.step s (t + 1) l) (t + 1) := by
  unfold Bf.step
  cases hz : low s l with
  | none => exact ⟨h.none0, h.some0, h.pos, h.inj, fun v => Nat.le_succ_of_le (h.le v), h.less, h.way⟩
  | some z =>
    obtain ⟨x, hx, rfl, hy⟩ := low_some hz
    show Ok ls S0 (lower s (t + 1) l (x + l.2.2)) (t + 1)
    refine ⟨fun v hv => ?_, fun v k hv => ?_, fun v hv => ?_, fun v u h1 h2 => ?_, fun v => ?_, fun v k y0 hv h0 => ?_, fun v y hv => ?_⟩
    · by_cases e : v = l.1
      · have hv : put s.V l.1 (some l) v = none := hv
        rw [e, put_eq] at hv
        cases hv
      · have hv : put s.V l.1 (some l) v = none := hv
        rw [put_ne _ _ e] at hv
        obtain ⟨h1, h2⟩ := h.none0 v hv
        exact ⟨(put_ne s.T _ e).trans h1, (put_ne s.S _ e).trans h2⟩
    · have hv : put s.V l.1 (some l) v = some k := hv
      show 0 < put s.T l.1 (t + 1) v ∧ k.1 = v ∧ k ∈ ls ∧ ∃ x' y', put s.S l.1 (some (x + l.2.2)) v = some y' ∧ put s.S l.1 (some (x + l.2.2)) k.2.1 = some x' ∧ x' + k.2.2 ≤ y' ∧ (x' + k.2.2 < y' ∨ put s.T l.1 (t + 1) k.2.1 < put s.T l.1 (t + 1) v)
      by_cases e : v = l.1
      · subst e
        rw [put_eq] at hv
        obtain rfl := Option.some.inj hv
        rw [put_eq, put_eq]
        refine ⟨Nat.succ_pos _, rfl, hl, ?_⟩
        by_cases e2 : l.2.1 = l.1
        · rw [e2, put_eq]
          have := hy x (by rw [← e2]; exact hx)
          exact ⟨_, _, rfl, rfl, by omega, .inl (by omega)⟩
        · rw [put_ne _ _ e2, put_ne _ _ e2]
          exact ⟨x, _, rfl, hx, Int.le_refl _, .inr (Nat.lt_succ_of_le (h.le _))⟩
      · rw [put_ne _ _ e] at hv
        obtain ⟨p, q, r, x1, y1, h1, h2, h3, h4⟩ := h.some0 v k hv
        rw [put_ne _ _ e, put_ne _ _ e]
        refine ⟨p, q, r, ?_⟩
        by_cases e2 : k.2.1 = l.1
        · rw [e2, put_eq]
          have := hy x1 (by rw [← e2]; exact h2)
          exact ⟨_, y1, h1, rfl, by omega, .inl (by omega)⟩
        · rw [put_ne _ _ e2, put_ne _ _ e2]
          exact ⟨x1, y1, h1, h2, h3, h4⟩
    · show put s.S l.1 (some (x + l.2.2)) v ≠ none
      by_cases e : v = l.1
      · rw [e, put_eq]; exact fun z => nomatch z
      · rw [put_ne _ _ e]; exact h.pos v hv
    · have h1 : 0 < put s.T l.1 (t + 1) v := h1
      have h2 : put s.T l.1 (t + 1) v = put s.T l.1 (t + 1) u := h2
      by_cases e : v = l.1
      · by_cases e2 : u = l.1
        · rw [e, e2]
        · rw [e, put_eq, put_ne _ _ e2] at h2
          have := h.le u
          omega
      · by_cases e2 : u = l.1
        · rw [e2, put_eq, put_ne _ _ e] at h2
          have := h.le v
          omega
        · rw [put_ne _ _ e] at h1 h2
          rw [put_ne _ _ e2] at h2
          exact h.inj v u h1 h2
    · show put s.T l.1 (t + 1) v ≤ t + 1
      by_cases e : v = l.1
      · rw [e, put_eq]; exact Nat.le_refl _
      · rw [put_ne _ _ e]; exact Nat.le_succ_of_le (h.le v)
    · have hv : put s.V l.1 (some l) v = some k := hv
      show ∃ y, put s.S l.1 (some (x + l.2.2)) v = some y ∧ y < y0
      by_cases e : v = l.1
      · subst e
        rw [put_eq]
        refine ⟨_, rfl, ?_⟩
        cases hv0 : s.V l.1 with
        | none => exact hy y0 ((h.none0 _ hv0).2.trans h0)
        | some k0 =>
          obtain ⟨y, e1, e2⟩ := h.less _ _ _ hv0 h0
          have := hy y e1
          omega
      · rw [put_ne _ _ e] at hv ⊢
        exact h.less v k y0 hv h0
    · have hv : put s.S l.1 (some (x + l.2.2)) v = some y := hv
      by_cases e : v = l.1
      · subst e
        rw [put_eq] at hv
        obtain rfl := Option.some.inj hv
        obtain ⟨u, y0, k, e1, e2, e3⟩ := h.way _ _ hx
        exact ⟨u, y0, l :: k, e1, ⟨hl, rfl, e2⟩, by rw [sumL_cons]; omega⟩
      · rw [put_ne _ _ e] at hv
        exact h.way v y hv
/-! ways of vias -/
inductive Wf (V : α → Option (Lk α)) (e : α) : α → List (Lk α) → Prop
  | one {v : α} {l : Lk α} : V v = some l → l.2.1 = e → Wf V e v [l]
  | cons {v : α} {l : Lk α} {k : List (Lk α)} : V v = some l → l.2.1 ≠ e → Wf V e l.2.1 k → Wf V e v (l :: k)
theorem Wf.chain {ls : List (Lk α)} {S0 : α → Option Int} {s : St α} {t : Nat} (h : Ok ls S0 s t) {e v : α} {k : List (Lk α)} (w : Wf s.V e v k) : Chain ls v e k ∧ k ≠ [] := by
  induction w with
  | one h1 h2 =>
    obtain ⟨_, p, q, _⟩ := h.some0 _ _ h1
    exact ⟨⟨q, p, h2⟩, fun z => nomatch z⟩
  | cons h1 h2 _ ih =>
    obtain ⟨_, p, q, _⟩ := h.some0 _ _ h1
    exact ⟨⟨q, p, ih.1⟩, fun z => nomatch z⟩
theorem Wf.sums {ls : List (Lk α)} {S0 : α → Option Int} {s : St α} {t : Nat} (h : Ok ls S0 s t) {e v : α} {k : List (Lk α)} (w : Wf s.V e v k) : ∃ x y, s.S v = some y ∧ s.S e = some x ∧ x + sumL k ≤ y ∧ (x + sumL k < y ∨ s.T e < s.T v) := by
  induction w with
  | one h1 h2 =>
    obtain ⟨_, p, q, x, y, e1, e2, e3, e4⟩ := h.some0 _ _ h1
    rw [h2] at e2 e4
    refine ⟨x, y, e1, e2, ?_⟩
    rw [sumL_cons, sumL_nil, Int.add_zero]
    exact ⟨e3, e4⟩
  | cons h1 h2 _ ih =>
    obtain ⟨_, p, q, x, y, e1, e2, e3, e4⟩ := h.some0 _ _ h1
    obtain ⟨x1, y1, f1, f2, f3, f4⟩ := ih
    rw [e2] at f1
    obtain rfl := Option.some.inj f1
    refine ⟨x1, y, e1, f2, ?_⟩
    rw [sumL_cons]
    refine ⟨by omega, ?_⟩
    rcases e4 with e4 | e4
    · exact .inl (by omega)
    · rcases f4 with f4 | f4
      · exact .inl (by omega)
      · exact .inr (by omega)
theorem Wf.ring {ls : List (Lk α)} {S0 : α → Option Int} {s : St α} {t : Nat} (h : Ok ls S0 s t) {v : α} {k : List (Lk α)} (w : Wf s.V v v k) : sumL k < 0 := by
  obtain ⟨x, y, e1, e2, e3, e4⟩ := w.sums h
  rw [e1] at e2
  obtain rfl := Option.some.inj e2
  rcases e4 with e4 | e4 <;> omega
/-! steps of vias -/
def it (V : α → Option (Lk α)) : Nat → α → Option α
  | 0, v => some v
  | k + 1, v => (V v).bind fun l => it V k l.2.1
theorem it_add (V : α → Option (Lk α)) : ∀ (i j : Nat) (v : α), it V (i + j) v = (it V i v).bind (it V j)
  | 0, j, v => by rw [Nat.zero_add]; rfl
  | i + 1, j, v => by
    rw [Nat.succ_add]
    show (V v).bind _ = ((V v).bind _).bind _
    cases V v with
    | none => rfl
    | some l => exact it_add V i j l.2.1
theorem wf_of (V : α → Option (Lk α)) {e : α} : ∀ (p : Nat) (v : α), it V (p + 1) v = some e → ∃ k, Wf V e v k ∧ k.length ≤ p + 1
  | p, v, h => by
    cases hl : V v with
    | none =>
      have h : (V v).bind _ = some e := h
      rw [hl] at h
      cases h
    | some l =>
      by_cases hne : l.2.1 = e
      · exact ⟨_, .one hl hne, by show 1 ≤ p + 1; omega⟩
      · have h : (V v).bind _ = some e := h
        rw [hl] at h
        have h : it V p l.2.1 = some e := h
        cases p with
        | zero => exact absurd (Option.some.inj h) hne
        | succ p =>
          obtain ⟨k, w, hk⟩ := wf_of V p l.2.1 h
          exact ⟨_, .cons hl hne w, by rw [List.length_cons]; omega⟩
/-! two of n + 1 things of n are the same -/
theorem nodup_len : ∀ (l m : List α), l.Nodup → (∀ x ∈ l, x ∈ m) → l.length ≤ m.length
  | [], m, _, _ => Nat.zero_le _
  | a :: l, m, hn, hs => by
    have ha : a ∈ m := hs a List.mem_cons_self
    have h := nodup_len l (m.erase a) (List.nodup_cons.mp hn).2 fun x hx => (List.mem_erase_of_ne fun e => (List.nodup_cons.mp hn).1 (by rw [← e]; exact hx)).mpr (hs x (List.mem_cons_of_mem _ hx))
    rw [List.length_erase_of_mem ha] at h
    have := List.length_pos_of_mem ha
    rw [List.length_cons]
    omega
theorem two_same (hs : List α) (f : Nat → α) (h : ∀ i, i ≤ hs.length → f i ∈ hs) : ∃ i j, i < j ∧ j ≤ hs.length ∧ f i = f j := by
  apply Classical.byContradiction
  intro n
  have hn : ((List.range (hs.length + 1)).map f).Nodup := by
    unfold List.Nodup
    rw [List.pairwise_map]
    refine List.Pairwise.imp_of_mem ?_ List.pairwise_lt_range
    intro a b ma mb hab e
    exact n ⟨a, b, hab, by have := List.mem_range.mp mb; omega, e⟩
  have := nodup_len _ hs hn fun x mx => by
    obtain ⟨i, mi, rfl⟩ := List.mem_map.mp mx
    exact h i (by have := List.mem_range.mp mi; omega)
  rw [List.length_map, List.length_range] at this
  omega
/-- as many steps as houses: there is a ring, and the last one stands in it -/
theorem on_ring {V : α → Option (Lk α)} {hs : List α} (hV : ∀ v l, V v = some l → v ∈ hs ∧ l.2.1 ∈ hs) {v : α} (h : ∀ i, i ≤ hs.length → ∃ u, it V i v = some u) (hv : v ∈ hs) : ∃ u k, it V hs.length v = some u ∧ Wf V u u k ∧ k.length ≤ hs.length := by
  have hin : ∀ i u, it V i v = some u → u ∈ hs := by
    intro i
    cases i with
    | zero => intro u e; cases e; exact hv
    | succ i =>
      intro u e
      rw [it_add] at e
      cases e1 : it V i v with
      | none => rw [e1] at e; cases e
      | some w =>
        rw [e1] at e
        have e : (V w).bind (fun l => some l.2.1) = some u := e
        cases e2 : V w with
        | none => rw [e2] at e; cases e
        | some l =>
          rw [e2] at e
          cases e
          exact (hV w l e2).2
  have hf : ∀ i, ∃ u, i ≤ hs.length → it V i v = some u := fun i => by
    by_cases hi : i ≤ hs.length
    · obtain ⟨u, e⟩ := h i hi
      exact ⟨u, fun _ => e⟩
    · exact ⟨v, fun z => absurd z hi⟩
  obtain ⟨f, hf⟩ := Classical.axiomOfChoice hf
  obtain ⟨i, j, hij, hj, e⟩ := two_same hs f fun i hi => hin i _ (hf i hi)
  have ei := hf i (by omega)
  have ej := hf j hj
  have en := hf _ (Nat.le_refl hs.length)
  refine ⟨f hs.length, ?_⟩
  have per : it V (j - i) (f i) = some (f i) := by
    have := it_add V i (j - i) v
    rw [ei, show i + (j - i) = j by omega, ej, ← e] at this
    exact this.symm
  have e2 : it V (hs.length - i) (f i) = some (f hs.length) := by
    have := it_add V i (hs.length - i) v
    rw [ei, show i + (hs.length - i) = hs.length by omega, en] at this
    exact this.symm
  have e3 : it V (j - i) (f hs.length) = some (f hs.length) := by
    have h1 := it_add V (j - i) (hs.length - i) (f i)
    have h2 := it_add V (hs.length - i) (j - i) (f i)
    rw [per] at h1
    rw [e2] at h2
    rw [Nat.add_comm] at h1
    rw [h1] at h2
    exact h2.symm.trans e2
  obtain ⟨k, w, hk⟩ := wf_of V (j - i - 1) (f hs.length) (by rw [show j - i - 1 + 1 = j - i by omega]; exact e3)
  exact ⟨k, en, w, by omega⟩
/-! rounds -/
def pass (s : St α) (t : Nat) : List (Lk α) → St α
  | [] => s
  | l :: ls => pass (step s (t + 1) l) (t + 1) ls
def lastLow (s : St α) (t : Nat) : List (Lk α) → Option α → Option α
  | [], o => o
  | l :: ls, o => lastLow (step s (t + 1) l) (t + 1) ls (match low s l with | none => o | some _ => some l.1)
theorem pass_snoc : ∀ (ls : List (Lk α)) (s : St α) (t : Nat) (l : Lk α), pass s t (ls ++ [l]) = step (pass s t ls) (t + ls.length + 1) l
  | [], s, t, l => rfl
  | k :: ls, s, t, l => by
    show pass _ _ (ls ++ [l]) = _
    rw [pass_snoc ls, List.length_cons]
    show step _ (t + 1 + ls.length + 1) l = step _ (t + (ls.length + 1) + 1) l
    rw [show t + 1 + ls.length = t + (ls.length + 1) by omega]
    rfl
theorem last_snoc : ∀ (ls : List (Lk α)) (s : St α) (t : Nat) (l : Lk α) (o : Option α), lastLow s t (ls ++ [l]) o = match low (pass s t ls) l with | none => lastLow s t ls o | some _ => some l.1
  | [], s, t, l, o => rfl
  | k :: ls, s, t, l, o => by
    show lastLow _ _ (ls ++ [l]) _ = _
    rw [last_snoc ls]
    rfl
theorem last_none : ∀ (ls : List (Lk α)) (s : St α) (t : Nat) (o : Option α), lastLow s t ls o = none → o = none ∧ pass s t ls = s ∧ ∀ l ∈ ls, low s l = none
  | [], s, t, o, h => ⟨h, rfl, fun l m => nomatch m⟩
  | k :: ls, s, t, o, h => by
    have h : lastLow (step s (t + 1) k) (t + 1) ls (match low s k with | none => o | some _ => some k.1) = none := h
    obtain ⟨h1, h2, h3⟩ := last_none ls _ _ _ h
    cases hk : low s k with
    | some z => rw [hk] at h1; cases h1
    | none =>
      rw [hk] at h1
      have es : step s (t + 1) k = s := by unfold step; rw [hk]
      rw [es] at h2 h3
      refine ⟨h1, ?_, fun l m => ?_⟩
      · show pass (step s (t + 1) k) (t + 1) ls = s
        rw [es]
        exact h2
      · rcases List.mem_cons.mp m with rfl | m
        · exact hk
        · exact h3 l m
theorem step_T {s : St α} {t : Nat} (h : ∀ v, s.T v ≤ t) (l : Lk α) (v : α) : s.T v ≤ (step s (t + 1) l).T v ∧ (step s (t + 1) l).T v ≤ t + 1 := by
  unfold step
  cases low s l with
  | none => exact ⟨Nat.le_refl _, Nat.le_succ_of_le (h v)⟩
  | some z =>
    show s.T v ≤ put s.T l.1 (t + 1) v ∧ put s.T l.1 (t + 1) v ≤ t + 1
    by_cases e : v = l.1
    · rw [e, put_eq]; exact ⟨Nat.le_succ_of_le (h _), Nat.le_refl _⟩
    · rw [put_ne _ _ e]; exact ⟨Nat.le_refl _, Nat.le_succ_of_le (h v)⟩
theorem last_some : ∀ (ls : List (Lk α)) (s : St α) (t t0 : Nat) (o : Option α) (a : α), (∀ v, s.T v ≤ t) → t0 ≤ t → (∀ b, o = some b → t0 < s.T b) → lastLow s t ls o = some a → t0 < (pass s t ls).T a
  | [], s, t, t0, o, a, h, h0, ho, e => ho a e
  | k :: ls, s, t, t0, o, a, h, h0, ho, e => by
    refine last_some ls (step s (t + 1) k) (t + 1) t0 _ a (fun v => (step_T h k v).2) (by omega) (fun b hb => ?_) e
    cases hk : low s k with
    | none =>
      rw [hk] at hb
      have := ho b hb
      have := (step_T h k b).1
      omega
    | some z =>
      rw [hk] at hb
      obtain rfl : k.1 = b := Option.some.inj hb
      have es : step s (t + 1) k = lower s (t + 1) k z := by unfold step; rw [hk]
      rw [es]
      show t0 < put s.T k.1 (t + 1) k.1
      rw [put_eq]
      omega
def Sat (s : St α) (l : Lk α) (τ : Nat) : Prop := ∀ x, s.S l.2.1 = some x → (∃ y, s.S l.1 = some y ∧ y ≤ x + l.2.2) ∨ τ ≤ s.T l.2.1
structure Rd (ls : List (Lk α)) (S0 : α → Option Int) (s : St α) (k j : Nat) : Prop where
  ok : Ok ls S0 s (k * ls.length + j)
  sat : ∀ i l, ls[i]? = some l → Sat s l (if i < j then k * ls.length + i + 1 else k * ls.length + i + 1 - ls.length)
  near : ∀ v l, s.V v = some l → s.T v ≤ s.T l.2.1 + ls.length
theorem Rd.start (ls : List (Lk α)) (S0 : α → Option Int) : Rd ls S0 ⟨S0, fun _ => none, fun _ => 0⟩ 0 0 where
  ok := by rw [Nat.zero_mul]; exact Ok.start ls S0
  sat := fun i l h x hx => .inr (by
    have := (List.getElem?_eq_some_iff.mp h).1
    rw [if_neg (Nat.not_lt_zero i), Nat.zero_mul]
    omega)
  near := fun v l h => nomatch h
theorem Rd.next {ls : List (Lk α)} {S0 : α → Option Int} {s : St α} {k : Nat} (h : Rd ls S0 s k ls.length) : Rd ls S0 s (k + 1) 0 where
  ok := by rw [Nat.succ_mul, Nat.add_zero]; exact h.ok
  sat := fun i l e => by
    have hi := (List.getElem?_eq_some_iff.mp e).1
    have := h.sat i l e
    rw [if_pos hi] at this
    rw [if_neg (Nat.not_lt_zero i), Nat.succ_mul, show k * ls.length + ls.length + i + 1 - ls.length = k * ls.length + i + 1 by omega]
    exact this
  near := h.near
theorem Rd.step {ls : List (Lk α)} {S0 : α → Option Int} {s : St α} {k j : Nat} (h : Rd ls S0 s k j) {l : Lk α} (hl : ls[j]? = some l) : Rd ls S0 (Bf.step s (k * ls.length + j + 1) l) k (j + 1) := by
  have hok := h.ok.step (List.mem_of_getElem? hl)
  have hs := h.sat j l hl
  rw [if_neg (Nat.lt_irrefl j)] at hs
  refine ⟨hok, ?_, ?_⟩
  · unfold Bf.step
    cases hz : low s l with
    | none =>
      intro i l' e
      by_cases hij : i = j
      · subst hij
        obtain rfl : l = l' := Option.some.inj (hl.symm.trans e)
        intro x hx
        exact .inl (low_none hz hx)
      · have := h.sat i l' e
        by_cases h2 : i < j
        · rw [if_pos h2] at this
          rw [if_pos (by omega)]
          exact this
        · rw [if_neg h2] at this
          rw [if_neg (by omega)]
          exact this
    | some z =>
      obtain ⟨x0, hx0, rfl, hy⟩ := low_some hz
      intro i l' e x hx0'
      have hx : put s.S l.1 (some (x0 + l.2.2)) l'.2.1 = some x := hx0'
      clear hx0'
      show (∃ y, put s.S l.1 (some (x0 + l.2.2)) l'.1 = some y ∧ y ≤ x + l'.2.2) ∨ _ ≤ put s.T l.1 (k * ls.length + j + 1) l'.2.1
      have hi := (List.getElem?_eq_some_iff.mp e).1
      by_cases e2 : l'.2.1 = l.1
      · refine .inr ?_
        rw [e2, put_eq]
        split
        · omega
        · omega
      · rw [put_ne _ _ e2] at hx ⊢
        by_cases hij : i = j
        · subst hij
          obtain rfl : l = l' := Option.some.inj (hl.symm.trans e)
          rw [put_eq]
          rw [hx0] at hx
          obtain rfl := Option.some.inj hx
          exact .inl ⟨_, rfl, Int.le_refl _⟩
        · have hs := h.sat i l' e x hx
          rw [show (if i < j + 1 then k * ls.length + i + 1 else k * ls.length + i + 1 - ls.length) = (if i < j then k * ls.length + i + 1 else k * ls.length + i + 1 - ls.length) by
            by_cases h2 : i < j
            · rw [if_pos h2, if_pos (by omega)]
            · rw [if_neg h2, if_neg (by omega)]]
          rcases hs with ⟨y, h1, h2⟩ | hs
          · refine .inl ?_
            by_cases e3 : l'.1 = l.1
            · rw [e3] at h1 ⊢
              rw [put_eq]
              have := hy y h1
              exact ⟨_, rfl, by omega⟩
            · rw [put_ne _ _ e3]
              exact ⟨y, h1, h2⟩
          · exact .inr hs
  · unfold Bf.step
    cases hz : low s l with
    | none => exact h.near
    | some z =>
      obtain ⟨x0, hx0, rfl, hy⟩ := low_some hz
      intro v l' e
      have e : put s.V l.1 (some l) v = some l' := e
      show put s.T l.1 (k * ls.length + j + 1) v ≤ put s.T l.1 (k * ls.length + j + 1) l'.2.1 + ls.length
      by_cases e1 : v = l.1
      · subst e1
        rw [put_eq] at e
        obtain rfl := Option.some.inj e
        rw [put_eq]
        by_cases e2 : l.2.1 = l.1
        · rw [e2, put_eq]; omega
        · rw [put_ne _ _ e2]
          rcases hs x0 hx0 with ⟨y, h1, h2⟩ | hs
          · have := hy y h1
            omega
          · omega
      · rw [put_ne _ _ e1] at e ⊢
        have h1 := h.near v l' e
        have h2 := h.ok.le v
        by_cases e2 : l'.2.1 = l.1
        · rw [e2, put_eq]; omega
        · rw [put_ne _ _ e2]; exact h1
theorem Rd.take {ls : List (Lk α)} {S0 : α → Option Int} {s : St α} {k : Nat} (h : Rd ls S0 s k 0) : ∀ j, j ≤ ls.length → Rd ls S0 (pass s (k * ls.length) (ls.take j)) k j
  | 0, _ => by rw [List.take_zero]; exact h
  | j + 1, hj => by
    have hr := h.take j (by omega)
    have e : ls[j]? = some ls[j] := List.getElem?_eq_getElem (by omega)
    rw [List.take_succ, e]
    show Rd ls S0 (pass s _ (ls.take j ++ [ls[j]])) k (j + 1)
    rw [pass_snoc, List.length_take, Nat.min_eq_left (by omega)]
    exact hr.step e
theorem Rd.pass {ls : List (Lk α)} {S0 : α → Option Int} {s : St α} {k : Nat} (h : Rd ls S0 s k 0) : Rd ls S0 (Bf.pass s (k * ls.length) ls) (k + 1) 0 := by
  have := h.take ls.length (Nat.le_refl _)
  rw [List.take_length] at this
  exact this.next
/-! lowered to the last: a ring -/
theorem Rd.ring {ls : List (Lk α)} {S0 : α → Option Int} {s : St α} {hs : List α} (h : Rd ls S0 s hs.length 0) (hin : ∀ l ∈ ls, l.1 ∈ hs ∧ l.2.1 ∈ hs) {a : α} (ha : (hs.length - 1) * ls.length < s.T a) : ∃ u k, it s.V hs.length a = some u ∧ Wf s.V u u k ∧ k.length ≤ hs.length := by
  have hV : ∀ v l, s.V v = some l → v ∈ hs ∧ l.2.1 ∈ hs := fun v l e => by
    obtain ⟨_, p, q, _⟩ := h.ok.some0 v l e
    have := hin l q
    rw [p] at this
    exact this
  have hpos : ∀ v, 0 < s.T v → ∃ l, s.V v = some l := fun v hv => by
    cases e : s.V v with
    | none =>
      have := (h.ok.none0 v e).1
      omega
    | some l => exact ⟨l, rfl⟩
  obtain ⟨l0, e0⟩ := hpos a (by omega)
  have hn : 0 < hs.length := List.length_pos_of_mem (hV a l0 e0).1
  have walk : ∀ i, i ≤ hs.length → ∃ u, it s.V i a = some u ∧ (hs.length - 1) * ls.length < s.T u + i * ls.length := by
    intro i
    induction i with
    | zero => intro _; exact ⟨a, rfl, by omega⟩
    | succ i ih =>
      intro hi
      obtain ⟨u, e1, e2⟩ := ih (by omega)
      have : i * ls.length ≤ (hs.length - 1) * ls.length := Nat.mul_le_mul_right _ (by omega)
      obtain ⟨l, e3⟩ := hpos u (by omega)
      refine ⟨l.2.1, ?_, ?_⟩
      · rw [it_add, e1]
        show (s.V u).bind (fun l => some l.2.1) = _
        rw [e3]
        rfl
      · have := h.near u l e3
        rw [Nat.succ_mul]
        omega
  exact on_ring hV (fun i hi => let ⟨u, e, _⟩ := walk i hi; ⟨u, e⟩) (hV a l0 e0).1
/-! shifts that keep to all links -/
def Keeps (ls : List (Lk α)) (f : α → Int) : Prop := ∀ l ∈ ls, f l.1 ≤ f l.2.1 + l.2.2
theorem Keeps.chain {ls : List (Lk α)} {f : α → Int} (h : Keeps ls f) : ∀ {k : List (Lk α)} {a b : α}, Chain ls a b k → f a ≤ f b + sumL k
  | [], a, b, c => by cases c; rw [sumL_nil]; omega
  | l :: k, a, b, c => by
    have h1 := h l c.1
    have h2 := h.chain c.2.2
    rw [c.2.1] at h1
    rw [sumL_cons]
    omega
theorem Keeps.ring {ls : List (Lk α)} {f : α → Int} (h : Keeps ls f) {k : List (Lk α)} {a : α} (c : Chain ls a a k) : 0 ≤ sumL k := by
  have := h.chain c
  omega
theorem keeps_of {ls : List (Lk α)} {s : St α} (h : ∀ l ∈ ls, low s l = none) {f : α → Int} (hf : ∀ l ∈ ls, s.S l.1 = some (f l.1) ∧ s.S l.2.1 = some (f l.2.1)) : Keeps ls f := fun l m => by
  obtain ⟨h1, h2⟩ := hf l m
  obtain ⟨y, e, hy⟩ := low_none (h l m) h2
  rw [h1] at e
  obtain rfl := Option.some.inj e
  exact hy
/-! the greatest between two -/
section
variable {ls : List (Lk α)} {c : α} {s : St α} {hs : List α} {f : α → Int}
theorem home (hk : Keeps ls f) {t : Nat} (h : Ok ls (put (fun _ => none) c (some 0)) s t) : s.S c = some 0 ∧ s.V c = none := by
  have hc : put (fun _ => none) c (some (0 : Int)) c = some 0 := put_eq _ _ _
  cases e : s.V c with
  | none => exact ⟨(h.none0 c e).2.trans hc, rfl⟩
  | some l =>
    obtain ⟨y, e1, e2⟩ := h.less c l 0 e hc
    obtain ⟨u, y0, k, h1, h2, h3⟩ := h.way c y e1
    by_cases eu : u = c
    · subst eu
      rw [put_eq] at h1
      obtain rfl := Option.some.inj h1
      have := hk.ring h2
      omega
    · rw [put_ne _ _ eu] at h1
      cases h1
theorem least (hk : Keeps ls f) (h : Rd ls (put (fun _ => none) c (some 0)) s hs.length 0) (hin : ∀ l ∈ ls, l.1 ∈ hs ∧ l.2.1 ∈ hs) (hl : ∀ a, s.T a ≤ (hs.length - 1) * ls.length) (hlow : (∀ a, s.T a ≤ (hs.length - 1) * ls.length) → ∀ l ∈ ls, low s l = none) :
    ∀ {k : List (Lk α)} {a : α}, Chain ls a c k → ∃ y, s.S a = some y ∧ y ≤ sumL k
  | [], a, hc => by cases hc; exact ⟨0, (home hk h.ok).1, Int.le_refl _⟩
  | l :: k, a, hc => by
    obtain ⟨x, e, hx⟩ := least hk h hin hl hlow hc.2.2
    obtain ⟨y, e2, hy⟩ := low_none (hlow hl l hc.1) e
    rw [hc.2.1] at e2
    exact ⟨y, e2, by rw [sumL_cons]; omega⟩
theorem noLast (hk : Keeps ls f) {S0 : α → Option Int} (h : Rd ls S0 s hs.length 0) (hin : ∀ l ∈ ls, l.1 ∈ hs ∧ l.2.1 ∈ hs) (a : α) : s.T a ≤ (hs.length - 1) * ls.length := by
  apply Classical.byContradiction
  intro n
  obtain ⟨u, k, _, w, _⟩ := h.ring hin (a := a) (by omega)
  have h1 := w.ring h.ok
  have h2 := hk.ring (w.chain h.ok).1
  omega
theorem reach (hk : Keeps ls f) (h : Rd ls (put (fun _ => none) c (some 0)) s hs.length 0) (hin : ∀ l ∈ ls, l.1 ∈ hs ∧ l.2.1 ∈ hs) {a : α} (ha : a ≠ c) {y : Int} (e : s.S a = some y) : ∃ k, Wf s.V c a k ∧ k.length ≤ hs.length := by
  have hV : ∀ v l, s.V v = some l → v ∈ hs ∧ l.2.1 ∈ hs := fun v l e => by
    obtain ⟨_, p, q, _⟩ := h.ok.some0 v l e
    have := hin l q
    rw [p] at this
    exact this
  have hs1 : ∀ v z, v ≠ c → s.S v = some z → ∃ l, s.V v = some l := fun v z hv hz => by
    cases e : s.V v with
    | none =>
      have := (h.ok.none0 v e).2
      rw [hz, put_ne _ _ hv] at this
      cases this
    | some l => exact ⟨l, rfl⟩
  by_cases hp : ∃ p, p ≤ hs.length ∧ it s.V p a = some c
  · obtain ⟨p, hp, e⟩ := hp
    cases p with
    | zero => exact absurd (Option.some.inj e) ha
    | succ p =>
      obtain ⟨k, w, hk⟩ := wf_of s.V p a e
      exact ⟨k, w, by omega⟩
  · have walk : ∀ i, i ≤ hs.length → ∃ u z, it s.V i a = some u ∧ s.S u = some z := by
      intro i
      induction i with
      | zero => intro _; exact ⟨a, y, rfl, e⟩
      | succ i ih =>
        intro hi
        obtain ⟨u, z, e1, e2⟩ := ih (by omega)
        obtain ⟨l, e3⟩ := hs1 u z (fun eu => hp ⟨i, by omega, by rw [e1, eu]⟩) e2
        obtain ⟨_, _, _, x1, _, _, e4, _⟩ := h.ok.some0 u l e3
        refine ⟨l.2.1, x1, ?_, e4⟩
        rw [it_add, e1]
        show (s.V u).bind (fun l => some l.2.1) = _
        rw [e3]
        rfl
    obtain ⟨l, el⟩ := hs1 a y ha e
    obtain ⟨u, k, _, w, _⟩ := on_ring hV (fun i hi => let ⟨u, _, e, _⟩ := walk i hi; ⟨u, e⟩) (hV a l el).1
    have h1 := w.ring h.ok
    have h2 := hk.ring (w.chain h.ok).1
    omega
end
/-! ways whose inner houses are some: the law's closing up -/
inductive Wy (ls : List (Lk α)) (M : α → Prop) : α → α → Int → Prop
  | one {l : Lk α} : l ∈ ls → Wy ls M l.1 l.2.1 l.2.2
  | cons {l : Lk α} {b : α} {x : Int} : l ∈ ls → M l.2.1 → Wy ls M l.2.1 b x → Wy ls M l.1 b (l.2.2 + x)
theorem Wy.mono {ls : List (Lk α)} {M M' : α → Prop} (h : ∀ a, M a → M' a) {a b : α} {x : Int} (w : Wy ls M a b x) : Wy ls M' a b x := by
  induction w with
  | one m => exact .one m
  | cons m hm _ ih => exact .cons m (h _ hm) ih
theorem Wy.app {ls : List (Lk α)} {M : α → Prop} {a b c : α} {x y : Int} (w : Wy ls M a b x) (hb : M b) (w' : Wy ls M b c y) : Wy ls M a c (x + y) := by
  induction w with
  | one m => exact .cons m hb w'
  | cons m hm _ ih => rw [Int.add_assoc]; exact .cons m hm (ih hb w')
theorem Wy.chain {ls : List (Lk α)} {M : α → Prop} {a b : α} {x : Int} (w : Wy ls M a b x) : ∃ k, Chain ls a b k ∧ k ≠ [] ∧ x = sumL k := by
  induction w with
  | @one l m => exact ⟨[l], ⟨m, rfl, rfl⟩, (fun z => nomatch z), by rw [sumL_cons, sumL_nil, Int.add_zero]⟩
  | @cons l _ _ m _ _ ih =>
    obtain ⟨k, h1, _, rfl⟩ := ih
    exact ⟨l :: k, ⟨m, rfl, h1⟩, (fun z => nomatch z), by rw [sumL_cons]⟩
theorem Chain.wy {ls : List (Lk α)} {M : α → Prop} (hM : ∀ l ∈ ls, M l.1) : ∀ {k : List (Lk α)} {a b : α}, Chain ls a b k → k ≠ [] → Wy ls M a b (sumL k)
  | [], _, _, _, h => absurd rfl h
  | [l], a, b, c, _ => by
    obtain ⟨h1, rfl, rfl⟩ := c
    rw [sumL_cons, sumL_nil, Int.add_zero]
    exact .one h1
  | l :: l' :: k, a, b, c, _ => by
    obtain ⟨h1, rfl, h3⟩ := c
    rw [sumL_cons]
    refine .cons h1 ?_ (Chain.wy hM h3 fun z => nomatch z)
    rw [← h3.2.1]
    exact hM _ h3.1
theorem Wy.split {ls : List (Lk α)} {M : α → Prop} {c : α} (hc : ∀ y, Wy ls M c c y → 0 ≤ y) {a b : α} {x : Int} (w : Wy ls (fun v => M v ∨ v = c) a b x) :
    (∃ x', Wy ls M a b x' ∧ x' ≤ x) ∨ ∃ y z, Wy ls M a c y ∧ Wy ls M c b z ∧ y + z ≤ x := by
  induction w with
  | one m => exact .inl ⟨_, .one m, Int.le_refl _⟩
  | @cons l b x m hm w ih =>
    rcases hm with hm | hm
    · rcases ih with ⟨x', h1, h2⟩ | ⟨y, z, h1, h2, h3⟩
      · exact .inl ⟨_, .cons m hm h1, by omega⟩
      · exact .inr ⟨_, z, .cons m hm h1, h2, by omega⟩
    · have hm : l.2.1 = c := hm
      have w1 : Wy ls M l.1 c l.2.2 := by rw [← hm]; exact .one m
      rw [hm] at ih
      rcases ih with ⟨x', h1, h2⟩ | ⟨y, z, h1, h2, h3⟩
      · exact .inr ⟨_, x', w1, h1, by omega⟩
      · have := hc y h1
        exact .inr ⟨_, z, w1, h2, by omega⟩
/-- one middle more -/
theorem Wy.more {ls : List (Lk α)} {M : α → Prop} {c : α} {B B' : α → α → Option Int} (hB : ∀ a b x, Wy ls M a b x → ∃ y, B a b = some y ∧ y ≤ x) (hcc : ∀ y, B c c = some y → 0 ≤ y)
    (hd : ∀ a b y, B a b = some y → ∃ z, B' a b = some z ∧ z ≤ y) (hm : ∀ a b x y, B a c = some x → B c b = some y → ∃ z, B' a b = some z ∧ z ≤ x + y) {a b : α} {x : Int} (w : Wy ls (fun v => M v ∨ v = c) a b x) : ∃ y, B' a b = some y ∧ y ≤ x := by
  have hc : ∀ y, Wy ls M c c y → 0 ≤ y := fun y w => by
    obtain ⟨z, e, hz⟩ := hB c c y w
    have := hcc z e
    omega
  rcases w.split hc with ⟨x', h1, h2⟩ | ⟨y, z, h1, h2, h3⟩
  · obtain ⟨y, e, hy⟩ := hB _ _ _ h1
    obtain ⟨z, e2, hz⟩ := hd _ _ _ e
    exact ⟨z, e2, by omega⟩
  · obtain ⟨y1, e1, hy1⟩ := hB _ _ _ h1
    obtain ⟨z1, e2, hz1⟩ := hB _ _ _ h2
    obtain ⟨u, e3, hu⟩ := hm _ _ _ _ e1 e2
    exact ⟨u, e3, by omega⟩
end
end Bf
/-! ### sorted of pairs of tuples (text, int) -/
namespace Nt
open PySem PySem.W PyProof.Rows
abbrev PK := Gr.HK × Gr.HK
def datP (p : PK) : List PyData := [.tuple (Gr.datOf p.1), .tuple (Gr.datOf p.2)]
def IsPr (h : Heap) (v : Value) (p : PK) : Prop := ∃ a o its n x y, v = .ref a ∧ h.get? a = some o ∧ o.cls = .type "tuple" ∧ o.data = .seq its n ∧ its.toList = [x, y] ∧ Fl.IsFl h x (Gr.datOf p.1) ∧ Fl.IsFl h y (Gr.datOf p.2)
theorem IsPr.keeps {h h' : Heap} {v : Value} {p : PK} (q : IsPr h v p) (k : ∀ b o, h.get? b = some o → o.cls = .type "tuple" → h'.get? b = some o) : IsPr h' v p := by
  obtain ⟨a, o, its, n, x, y, e, ho, hc, hd, hi, h1, h2⟩ := q
  exact ⟨a, o, its, n, x, y, e, k a o ho hc, hc, hd, hi, h1.keeps k, h2.keeps k⟩
theorem fl_reads {h : Heap} {v : Value} {p : Gr.HK} (q : Fl.IsFl h v (Gr.datOf p)) : ∃ as, Reads h v (.tuple (Gr.datOf p)) as := by
  obtain ⟨a, o, its, n, rfl, ho, hc, hd, f⟩ := q
  have : ∃ as, ReadsAll h its.toList (Gr.datOf p) as := by
    generalize its.toList = us at f
    obtain ⟨x, i⟩ := p
    cases f with
    | cons f1 f2 =>
      cases f1
      cases f2 with
      | cons g1 g2 =>
        cases g1
        cases g2
        exact ⟨_, .cons (.str _ _) (.cons (.int _ _) .nil)⟩
  obtain ⟨as, r⟩ := this
  exact ⟨as, .tuple ho hc hd r⟩
section
variable {prog : Program} {w : World} {A : Around} {E : Value → Shared → Prop} {s : Shared}
theorem pr_cmp {vs : List Value} {k : Value → PK} (hu : A.units + 4 < cLine) (hp : ∀ v ∈ vs, IsPr s.heap v (k v)) : SrtO.Cmp prog w A s (tuples' false) (fun p => p.1 ∈ vs) (SrtO.lt2 fun v u => Fl.ltD (datP (k v)) (datP (k u))) := by
  intro p q hm hm'
  obtain ⟨a, o, its, n, x, y, e, ho, _, hd, hi, f1, f2⟩ := hp _ hm
  obtain ⟨a', o', its', n', x', y', e', ho', _, hd', hi', g1, g2⟩ := hp _ hm'
  show wpAny (model prog w) A (keyLt' (tuples' false) p.1 q.1) (fun r s' => s' = s ∧ r = Fl.ltD (datP (k p.1)) (datP (k q.1))) (fun _ _ => False) s
  generalize k p.1 = kp at *
  generalize k q.1 = kq at *
  rw [e, e']
  refine kat_lt ho hd ho' hd' ?_
  have z1 : its.size = 2 := by rw [← Array.length_toList, hi]; rfl
  have z2 : its'.size = 2 := by rw [← Array.length_toList, hi']; rfl
  rw [z1, z2, hi, hi']
  obtain ⟨a1, r1⟩ := fl_reads f1
  obtain ⟨a2, r2⟩ := fl_reads f2
  obtain ⟨b1, q1⟩ := fl_reads g1
  obtain ⟨b2, q2⟩ := fl_reads g2
  refine katLex_alike (datP kp) (datP kq) 0 [x, y] [x', y'] _ _ (.cons r1 (.cons r2 .nil)) (.cons q1 (.cons q2 .nil)) (by rfl) ?_ (fun z => nomatch z) rfl ⟨rfl, rfl⟩
  have h1 : PyData.depthAll (datP kp) ≤ 1 := by
    show max 1 (max 1 0) ≤ 1
    decide
  have := Nat.min_le_left (PyData.depthAll (datP kp)) (PyData.depthAll (datP kq))
  omega
theorem firsts_pr {h : Heap} {k : Value → PK} : ∀ {vs : List Value}, (∀ v ∈ vs, IsPr h v (k v)) → ∃ fs : List Value, KatTups h vs fs ∧ fs.length = vs.length ∧ ∀ f ∈ fs, ∃ p, Fl.IsFl h f (Gr.datOf p)
  | [], _ => ⟨[], KatTups.nil, rfl, fun _ hm => by simp at hm⟩
  | v :: vs, hp => by
    obtain ⟨fs, h1, h2, h3⟩ := firsts_pr (vs := vs) fun v' hm => hp v' (List.mem_cons_of_mem _ hm)
    obtain ⟨a, o, its, n, x, y, e, ho, hc, hd, hi, f1, f2⟩ := hp v (List.mem_cons_self ..)
    subst e
    refine ⟨x :: fs, KatTups.cons ho hc hd ?_ h1, by rw [List.length_cons, List.length_cons, h2], fun f hm => ?_⟩
    · rw [← Array.getElem?_toList, hi]
      rfl
    · rcases List.mem_cons.mp hm with rfl | hm
      · exact ⟨_, f1⟩
      · exact h3 f hm
theorem sorted_pr {l : Addr} {vs : List Value} {k : Value → PK} {Q : Value → Shared → Prop} (hu : A.units + 6 < cLine) (hl : s.heap.IsList l vs.toArray) (hz : vs.length ≤ sizeLine) (hp : ∀ v ∈ vs, IsPr s.heap v (k v))
    (h : ∀ (h' : Heap) (d : Addr) (out : List Value), SrtO.Srtd (fun v u => Fl.ltD (datP (k v)) (datP (k u))) out → SrtO.Stb (fun v u => Fl.ltD (datP (k v)) (datP (k u))) out vs → (∀ b o, s.heap.get? b = some o → h'.get? b = some o) → s.heap.objs.size ≤ d → (∃ n, h'.get? d = some (seqObj "list" out.toArray n)) → Q (.ref d) { s with heap := h' }) :
    wpAny (model prog w) A (call (.builtin "sorted") [.ref l]) Q E s := by
  refine SrtO.sorted_ord (Fl.swo_ltD fun v => datP (k v)) hl hz (fun h2 h1 a ha kk => ?_) fun out hs hb => ?_
  · intro h' keep
    have hne : ∀ o, h1.get? a = some o → o.cls ≠ .type "tuple" := fun o e => by
      have e' : some o = some (seqObj "list" vs.toArray 0) := e.symm.trans ha
      cases e'
      intro c
      exact absurd (Value.type.inj c) (by decide)
    have hp' : ∀ v ∈ vs, IsPr h' v (k v) := fun v hm => (hp v hm).keeps fun b o e c => keep b o (fun z => by subst z; exact hne o (kk b o e).2 c) (kk b o e).2
    obtain ⟨fs, f1, f2, f3⟩ := firsts_pr (vs := vs) (k := k) hp'
    refine ⟨tuples' false, fun Q E hq => ?_, pr_cmp (by show A.units + 1 + 1 + 4 < cLine; omega) hp'⟩
    refine kat_kind (T := .type "tuple") f1 (by omega) (fun f hm => ?_) (by rfl) ?_
    · obtain ⟨p, a, o, its, n, rfl, ho, hc, _⟩ := f3 f hm
      exact fun A Q E s k q => wpAny_typeOf_ref (k _ _ ho) (by rw [hc]; exact q)
    · have e : (Value.type "tuple" != Value.type "tuple") = false := by first | decide +kernel | rfl | decide
      rw [e]
      exact hq
  · exact h _ _ out hs hb (fun b o e => sortedAll_old e) (Nat.le_succ _) (sortedAll_at s.heap vs out.toArray)
end
def AtP (H : Hp) (v : V) (p : PK) : Prop := ∃ b x y, v = .ref b ∧ H b = some (.tup [.ref x, .ref y]) ∧ H x = some (.tup ((Gr.keyOf p.1).map kV)) ∧ H y = some (.tup ((Gr.keyOf p.2).map kV))
def rSortedPr (K : PySem.W.Frag) : List V → Hp → VK → Prop := fun vs H Q => ∃ (a : Addr) (xs : List V) (k : V → PK), vs = [V.ref a] ∧ SqL K H a xs ∧ (∀ x ∈ xs, AtP H x (k x)) ∧
  ∀ ys p, SrtO.Srtd (fun x y => Fl.ltD (datP (k x)) (datP (k y))) ys → SrtO.Stb (fun x y => Fl.ltD (datP (k x)) (datP (k y))) ys xs → H p = none → Q (.ref p) (upd H p (.lst ys))
theorem cr_sortedPr {X : Cx} (hu : X.A.units + 64 < cLine) : CallR X (.builtin "sorted") (rSortedPr X.K) := by
  intro pins s σ H vs us Q I r h
  obtain ⟨a, xs, k, rfl, hs, hx, q⟩ := h
  obtain ⟨its, rv, hl, hz⟩ := I.list hs
  obtain ⟨u, rfl, ru⟩ := vals1 r
  obtain rfl : u = Value.ref a := ru
  obtain ⟨e1, e2⟩ := refs_back rv fun x m => by
    obtain ⟨t, _, _, e, _⟩ := hx x m
    exact ⟨t, e⟩
  have fl : ∀ (b : Addr) (p : Gr.HK), H b = some (.tup ((Gr.keyOf p).map kV)) → Fl.IsFl s.heap (.ref b) (Gr.datOf p) := fun b p hb => by
    obtain ⟨_, its2, r2, o, ho, hc, n, hd⟩ := I.hok _ _ hb
    exact ⟨b, o, its2.toArray, n, rfl, ho, hc, hd, by rw [List.toList_toArray]; exact Fl.fvs_of (ds := Gr.datOf p) (by rfl) r2⟩
  refine sorted_pr (k := fun u => k (backV u)) (by omega) hl.isList (by rw [← rv.length]; exact hz) (fun v hv => ?_) fun h' d out h1 h2 kp hd hn => ?_
  · obtain ⟨t, rfl⟩ := e2 v hv
    have hm : V.ref t ∈ xs := by rw [e1]; exact List.mem_map.mpr ⟨_, hv, rfl⟩
    obtain ⟨t', x, y, e, ht, hx1, hy1⟩ := hx _ hm
    cases e
    obtain ⟨_, its2, r2, o, ho, hc, n, hd⟩ := I.hok _ _ ht
    cases r2 with
    | cons ra rb =>
      cases rb with
      | cons rb rc =>
        cases rc
        obtain rfl := ra
        obtain rfl := rb
        exact ⟨t, o, _, n, _, _, rfl, ho, hc, hd, by rw [List.toList_toArray], fl _ _ hx1, fl _ _ hy1⟩
  · have h3 : ∀ u ∈ out, ∃ a, u = Value.ref a := fun u hu => e2 u (h2.perm.mem_iff.mp hu)
    obtain ⟨n, hn⟩ := hn
    have hb : SrtO.Stb (fun x y => Fl.ltD (datP (k x)) (datP (k y))) (out.map backV) xs := by
      rw [e1]
      exact SrtO.Stb.map (Fl.swo_ltD fun x => datP (k x)) backV h2
    refine ⟨.ref d, upd H d (.lst (out.map backV)), I.laid (t' := s.toks) kp hd ⟨?_, out, n, vals_back h3, hn⟩, rfl, q _ d (SrtO.srtd_map h1) hb (I.hok.fresh hd)⟩
    rw [hb.len]
    exact hz
end Nt
/-! ### links that come of pairs -/
abbrev PrK := Gr.HK × Gr.HK
abbrev LkS := Str × Str × Int
def Pks (H : Hp) (us : List V) (ps : List PrK) : Prop := us.length = ps.length ∧ ∀ (i : Nat) (p : PrK), ps[i]? = some p → ∃ b x y : Addr, us[i]? = some (V.ref b) ∧ H b = some (.tup [.ref x, .ref y]) ∧ H x = some (.tup ((Gr.keyOf p.1).map kV)) ∧ H y = some (.tup ((Gr.keyOf p.2).map kV))
theorem Pks.go {H H' : Hp} {us : List V} {ps : List PrK} (h : Pks H us ps) (s : ∀ b xs, H b = some (.tup xs) → H' b = some (.tup xs)) : Pks H' us ps :=
  ⟨h.1, fun i p e => let ⟨b, x, y, e1, e2, e3, e4⟩ := h.2 i p e; ⟨b, x, y, e1, s _ _ e2, s _ _ e3, s _ _ e4⟩⟩
theorem Pks.same {H H' : Hp} {us : List V} {ps : List PrK} (h : Pks H us ps) (s : Same H H') : Pks H' us ps := h.go fun b xs e => s b _ e
def lkV (l : LkS) : List V := [.str l.1, .str l.2.1, .int l.2.2]
def Lks (H : Hp) (us : List V) (ls : List LkS) : Prop := us.length = ls.length ∧ ∀ (i : Nat) (l : LkS), ls[i]? = some l → ∃ b : Addr, us[i]? = some (V.ref b) ∧ H b = some (.tup (lkV l))
theorem Lks.go {H H' : Hp} {us : List V} {ls : List LkS} (h : Lks H us ls) (s : ∀ b xs, H b = some (.tup xs) → H' b = some (.tup xs)) : Lks H' us ls :=
  ⟨h.1, fun i l e => let ⟨b, e1, e2⟩ := h.2 i l e; ⟨b, e1, s _ _ e2⟩⟩
theorem Lks.same {H H' : Hp} {us : List V} {ls : List LkS} (h : Lks H us ls) (s : Same H H') : Lks H' us ls := h.go fun b xs e => s b _ e
theorem Lks.nil {H : Hp} : Lks H [] [] := ⟨rfl, fun i l e => nomatch e⟩
theorem Lks.app {H : Hp} {us vs : List V} {ls ks : List LkS} (h : Lks H us ls) (g : Lks H vs ks) : Lks H (us ++ vs) (ls ++ ks) := by
  refine ⟨by rw [List.length_append, List.length_append, h.1, g.1], fun i l e => ?_⟩
  by_cases hi : i < ls.length
  · rw [List.getElem?_append_left hi] at e
    rw [List.getElem?_append_left (by rw [h.1]; exact hi)]
    exact h.2 i l e
  · rw [List.getElem?_append_right (by omega)] at e
    rw [List.getElem?_append_right (by rw [h.1]; omega), h.1]
    exact g.2 _ l e
theorem Lks.one {H : Hp} {b : Addr} {l : LkS} (e : H b = some (.tup (lkV l))) : Lks H [.ref b] [l] := ⟨rfl, fun i k h => by
  cases i with
  | zero => cases h; exact ⟨b, rfl, e⟩
  | succ i => cases h⟩
def lkOf (rs : List Row) (p : PrK) : List LkS := match rowOf rs "ask" p.1, rowOf rs "job" p.2 with
  | some r, some q => [(r.h, r.g, q.x3 - r.x5), (r.g, r.h, r.x6 - q.x4)]
  | _, _ => []
def linksOf (rs : List Row) (ps : List PrK) : List LkS := ps.flatMap (lkOf rs)
/-- the pairs are of a known ask and a known job of its house -/
def Kn (rs : List Row) (p : PrK) : Prop := ∃ r q, rowOf rs "ask" p.1 = some r ∧ rowOf rs "job" p.2 = some q ∧ q.h = r.g
theorem links_take {rs : List Row} {ps : List PrK} {i : Nat} {p : PrK} (e : ps[i]? = some p) : linksOf rs (ps.take (i + 1)) = linksOf rs (ps.take i) ++ lkOf rs p := by
  unfold linksOf
  rw [take_snoc e, List.flatMap_append]
  show _ ++ (lkOf rs p ++ []) = _
  rw [List.append_nil]
theorem links_len {rs : List Row} : ∀ {ps : List PrK}, (linksOf rs ps).length ≤ 2 * ps.length
  | [] => Nat.zero_le _
  | p :: ps => by
    have h : linksOf rs (p :: ps) = lkOf rs p ++ linksOf rs ps := rfl
    rw [h, List.length_append, List.length_cons]
    have h1 : (lkOf rs p).length ≤ 2 := by
      unfold lkOf
      split
      · exact Nat.le_refl _
      · exact Nat.zero_le _
    have := links_len (rs := rs) (ps := ps)
    omega
def sp_links_of (CN CC : Addr) : Sp := fun vs H Q E => ∃ (Ex : Addr → Prop) (t l p : Addr) (hs gs : List Str) (xs us : List V) (ds : List PyData) (ps : List PrK), vs = [.ref t, .ref l, .ref p] ∧ Ask Ex H t l hs gs xs ds ∧ H p = some (.lst us) ∧ Pks H us ps ∧ ps.length ≤ 1000 ∧
  (∀ rs : List Row, Book hs rs → ds = rs.map rowD → ∀ p ∈ ps, Kn rs p) ∧ (∀ (rs : List Row) (L : Addr) (ws : List V) (H' : Hp), Same H H' → RowsD hs ds ds.length → NoClash ds ds.length → Book hs rs → ds = rs.map rowD → H L = none → H' L = some (.lst ws) → Lks H' ws (linksOf rs ps) → Q (.ref L) H') ∧ Refuse CN CC H hs ds E
theorem ok_links_of (T : Txt K mg af fd) : FnOk P w K mg base (L2.CX P w) 9 (af 31) (fd 31) ["town", "rows", "pairs"] (sp_links_of (af 60) (af 62)) := by
  refine T.F_links_of.okX sc_links_of (fun vs H Q E h => ?_) (fun cdv A outer s H vs Q E hr h => ?_)
  · obtain ⟨Ex, t, l, p, hs, gs, xs, us, ds, ps, rfl, _⟩ := h
    rfl
  · obtain ⟨Ex, t, l, p, hs, gs, xs, us, ds, ps, rfl, hA, hp, hps, hlen, hk, q, r⟩ := h
    refine ⟨_, (pss_cons (ps_set (i := 3) sc_links_of.nd rfl (by first | exact Or.inl rfl | exact Or.inr rfl) (pe_call (ok_gaps_of T) (hr.mono (by first | decide | omega)) (by rfl) T.g_gaps_of T.F_gaps_of.kp T.b_gaps_of .nil (passes_call (takes_of rfl rfl rfl rfl) (fun _ _ _ _ h => h)) (pa_cons (pv 0) (pa_cons (pv 1) pa_nil))))
        (pss_cons (ps_set (i := 4) sc_links_of.nd rfl (by first | exact Or.inl rfl | exact Or.inr rfl) (pe_lst pa_nil))
        (pss_cons (ps_for (passes_of rfl) rfl (pi_list (pv 2)) (pg_tup rfl (pgs_cons (pg_name (i := 5) sc_links_of.nd rfl (by first | exact Or.inl rfl | exact Or.inr rfl)) (pgs_cons (pg_name (i := 6) sc_links_of.nd rfl (by first | exact Or.inl rfl | exact Or.inr rfl)) pgs_nil))) (pss_cons (ps_asg (pe_dget (hu_of hr) (pe_fld (pv 3) rfl) (pv 5) (fun _ _ => rfl)) (pg_tup rfl (pgs_cons (pg_name (i := 7) sc_links_of.nd rfl (by first | exact Or.inl rfl | exact Or.inr rfl)) (pgs_cons (pg_name (i := 8) sc_links_of.nd rfl (by first | exact Or.inl rfl | exact Or.inr rfl)) (pgs_cons (pg_name (i := 9) sc_links_of.nd rfl (by first | exact Or.inl rfl | exact Or.inr rfl)) (pgs_cons (pg_name (i := 10) sc_links_of.nd rfl (by first | exact Or.inl rfl | exact Or.inr rfl)) (pgs_cons (pg_name (i := 11) sc_links_of.nd rfl (by first | exact Or.inl rfl | exact Or.inr rfl)) (pgs_cons (pg_name (i := 12) sc_links_of.nd rfl (by first | exact Or.inl rfl | exact Or.inr rfl)) (pgs_cons (pg_name (i := 13) sc_links_of.nd rfl (by first | exact Or.inl rfl | exact Or.inr rfl)) pgs_nil)))))))))
        (pss_cons (ps_par (i := 14) (j := 15) (by rfl) sc_links_of.nd rfl rfl (by decide) rfl rfl (pa_cons (pe_ix ix_tup (pe_dget (hu_of hr) (pe_fld (pv 3) rfl) (pv 6) (fun _ _ => rfl)) pe_int (fun _ _ => rfl)) (pa_cons (pe_ix ix_tup (pe_dget (hu_of hr) (pe_fld (pv 3) rfl) (pv 6) (fun _ _ => rfl)) pe_int (fun _ _ => rfl)) pa_nil)) (by rfl))
        (pss_cons (ps_expr (pe_bm PySem.F.plainAttrs_list PySem.F.slot_list_append PySem.F.type_list_append mt_append (pv 4) (pa_cons (pe_tup (pa_cons (pv 8) (pa_cons (pv 11) (pa_cons (pe_op op_sub (pv 14) (pv 12)) pa_nil)))) pa_nil)))
        (pss_one (ps_expr (pe_bm PySem.F.plainAttrs_list PySem.F.slot_list_append PySem.F.type_list_append mt_append (pv 4) (pa_cons (pe_tup (pa_cons (pv 11) (pa_cons (pv 8) (pa_cons (pe_op op_sub (pv 13) (pv 15)) pa_nil)))) pa_nil))))))))
        (pss_one (ps_ret (pv 4)))))), ?_⟩
    refine ⟨_, rfl, _, rfl, Ex, t, l, hs, gs, xs, ds, rfl, hA, (fun rs x H1 s1 h1 h2 B hd G _ => ?_), r⟩
    have hkk := hk rs B hd
    refine ⟨Nat.zero_le _, fun L nL => ?_⟩
    have s2 : Same H1 (upd H1 L (.lst [])) := same_upd nL
    have nL0 := s1.free nL
    have hL : (upd H1 L (.lst [])) L = some (.lst []) := upd_same
    generalize upd H1 L (.lst []) = H2 at s2 hL ⊢
    have s02 := s1.trans s2
    refine ⟨_, rfl, p, rfl, ⟨_, SqL.of (s02 _ _ hp)⟩, ?_⟩
    refine for_it (walk_list (K := K) (a := p) (xs := us)) (fun i σ H' => (∃ v5 v6 v7 v8 v9 v10 v11 v12 v13 v14 v15 : Option V, σ = [some (.ref t), some (.ref l), some (.ref p), some (.ref x), some (.ref L), v5, v6, v7, v8, v9, v10, v11, v12, v13, v14, v15]) ∧ Same H1 H' ∧ ∃ ws, H' L = some (.lst ws) ∧ Lks H' ws (linksOf rs (ps.take i)))
      ⟨⟨none, none, none, none, none, none, none, none, none, none, none, rfl⟩, s2, [], hL, by rw [List.take_zero]; exact Lks.nil⟩ (fun i σ H' _ h => SqL.of (h.2.1 _ _ (s1 _ _ hp))) ?_ ?_
    · rintro i v σ H3 H4 hi ⟨⟨v5, v6, v7, v8, v9, v10, v11, v12, v13, v14, v15, rfl⟩, g1, ws, hL3, lk⟩ ⟨rfl, hv⟩
      have hir : i < ps.length := by rw [← hps.1]; exact hi
      have er : ps[i]? = some ps[i] := List.getElem?_eq_getElem hir
      generalize ps[i] = pr at er
      obtain ⟨b, y, z, e1, e2, e3, e4⟩ := hps.2 i pr er
      obtain rfl : V.ref b = v := Option.some.inj (e1.symm.trans hv)
      have g0 := s1.trans g1
      obtain ⟨R, S, k1, k2, k3⟩ := hkk pr (List.mem_of_getElem? er)
      refine ⟨b, _, rfl, SqT.of (g0 _ _ e2), rfl, _, _, rfl, _, _, rfl, rfl, ?_⟩
      obtain ⟨dx, dA, fs, kA, l1, l2, l3, l4, l5⟩ := G.low.a.ex
      obtain ⟨dx', dJ, fs', kJ, j1, j2, j3, j4, j5⟩ := G.low.j.ex
      cases l1.symm.trans j1
      rcases l4.find G.low.a.un pr.1 with ⟨aA, r1, f1, f2, f3, f4⟩ | ⟨f1, _⟩
      rotate_left
      · rw [k1] at f1; cases f1
      rcases j4.find G.low.j.un pr.2 with ⟨aJ, q1, i1, i2, i3, i4⟩ | ⟨i1, _⟩
      rotate_left
      · rw [k2] at i1; cases i1
      cases k1.symm.trans f1
      cases k2.symm.trans i1
      have gw := g1 _ _ l1
      have gA := DGet.t (k := Gr.keyOf pr.1) (g1 _ _ l3) (g0 _ _ e3)
      have gJ := DGet.t (k := Gr.keyOf pr.2) (g1 _ _ j3) (g0 _ _ e4)
      rw [f3] at gA
      rw [i3] at gJ
      have hlk : lkOf rs pr = [(R.h, R.g, S.x3 - R.x5), (R.g, R.h, R.x6 - S.x4)] := by unfold lkOf; rw [k1, k2]
      have fA := g1 _ _ f4
      have fJ := g1 _ _ i4
      refine ⟨_, rfl, x, _, dx, fs, _, rfl, gw, T.o_Gaps.c, T.o_Gaps.no _ (by simp), l2, _, rfl, dA, _, rfl, gA, aA, _, rfl, SqT.of fA, ?_⟩
      cases R with
      | job _ _ _ _ => exact absurd f2 w_ja'
      | all _ _ _ => exact absurd f2 w_la
      | ask h gg k n o bk =>
        refine ⟨rfl, _, _, rfl, _, _, rfl, _, _, rfl, _, _, rfl, _, _, rfl, _, _, rfl, _, _, rfl, rfl, ?_⟩
        refine ⟨_, rfl, x, _, dx, fs, _, rfl, gw, T.o_Gaps.c, T.o_Gaps.no _ (by simp), j2, _, rfl, dJ, _, rfl, gJ, aJ, _, 3, _, rfl, rfl, SqT.of fJ, at3 S, ?_⟩
        refine ⟨_, rfl, x, _, dx, fs, _, rfl, gw, T.o_Gaps.c, T.o_Gaps.no _ (by simp), j2, _, rfl, dJ, _, rfl, gJ, aJ, _, 4, _, rfl, rfl, SqT.of fJ, at4j i2, ?_⟩
        refine ⟨_, _, rfl, ?_⟩
        have ll : ws.length ≤ 2 * i := by
          rw [lk.1]
          have := links_len (rs := rs) (ps := ps.take i)
          rw [List.length_take] at this
          omega
        refine ⟨_, rfl, .inl ⟨rfl, _, SqL.of hL3⟩, _, rfl, _, rfl, _, rfl, _, rfl, _, _, rfl, rfl, (by show 3 ≤ sizeLine; decide), fun b1 nb1 => ?_⟩
        have u1 : Same H4 (upd H4 b1 (.tup (lkV (h, gg, S.x3 - o)))) := same_upd nb1
        have hb1 : (upd H4 b1 (.tup (lkV (h, gg, S.x3 - o)))) b1 = some (.tup (lkV (h, gg, S.x3 - o))) := upd_same
        refine ⟨L, ws, _, rfl, rfl, u1 _ _ hL3, small_line (by omega), ?_⟩
        have m1 : Same H1 (upd (upd H4 b1 (.tup (lkV (h, gg, S.x3 - o)))) L (.lst (ws ++ [.ref b1]))) := same_mut (g1.trans u1) nL
        have hL6 : (upd (upd H4 b1 (.tup (lkV (h, gg, S.x3 - o)))) L (.lst (ws ++ [.ref b1]))) L = some (.lst (ws ++ [.ref b1])) := upd_same
        have lk6 : Lks (upd (upd H4 b1 (.tup (lkV (h, gg, S.x3 - o)))) L (.lst (ws ++ [.ref b1]))) (ws ++ [.ref b1]) (linksOf rs (ps.take i) ++ [(h, gg, S.x3 - o)]) := ((lk.same u1).app (.one hb1)).go fun c ys e => by rw [upd_ne (ne_of e (u1 _ _ hL3) (fun z => nomatch z))]; exact e
        refine ⟨_, rfl, .inl ⟨rfl, _, SqL.of hL6⟩, _, rfl, _, rfl, _, rfl, _, rfl, _, _, rfl, rfl, (by show 3 ≤ sizeLine; decide), fun b2 nb2 => ?_⟩
        have u2 : Same (upd (upd H4 b1 (.tup (lkV (h, gg, S.x3 - o)))) L (.lst (ws ++ [.ref b1]))) (upd (upd (upd H4 b1 (.tup (lkV (h, gg, S.x3 - o)))) L (.lst (ws ++ [.ref b1]))) b2 (.tup (lkV (gg, h, bk - S.x4)))) := same_upd nb2
        have hb2 : (upd (upd (upd H4 b1 (.tup (lkV (h, gg, S.x3 - o)))) L (.lst (ws ++ [.ref b1]))) b2 (.tup (lkV (gg, h, bk - S.x4)))) b2 = some (.tup (lkV (gg, h, bk - S.x4))) := upd_same
        refine ⟨L, _, _, rfl, rfl, u2 _ _ hL6, small_line (by rw [List.length_append]; show ws.length + 1 ≤ 5000; omega), ⟨_, _, _, _, _, _, _, _, _, _, _, rfl⟩, same_mut (m1.trans u2) nL, _, upd_same, ?_⟩
        rw [links_take er, hlk]
        have e9 := ((lk6.same u2).app (.one hb2)).go (H' := upd (upd (upd (upd H4 b1 (.tup (lkV (h, gg, S.x3 - o)))) L (.lst (ws ++ [.ref b1]))) b2 (.tup (lkV (gg, h, bk - S.x4)))) L (.lst ((ws ++ [.ref b1]) ++ [.ref b2]))) fun c ys e => by rw [upd_ne (ne_of e (u2 _ _ hL6) (fun z => nomatch z))]; exact e
        rw [List.append_assoc (linksOf rs (ps.take i))] at e9
        exact e9
    · rintro σ H3 ⟨⟨v5, v6, v7, v8, v9, v10, v11, v12, v13, v14, v15, rfl⟩, g1, ws, hL3, lk⟩
      rw [hps.1, List.take_length] at lk
      exact ⟨_, rfl, q rs L ws H3 (s1.trans g1) h1 h2 B hd nL0 hL3 lk⟩
theorem strs_one {os ls : List Str} (h1 : sortedS os = true) (h2 : ls.Pairwise fun a b => a.cps.toList < b.cps.toList) (pm : os.Perm ls) : os = ls := by
  have nd : os.Nodup := pm.nodup_iff.mpr (List.nodup_iff_pairwise_ne.mpr (h2.imp fun lt e => by rw [e] at lt; exact absurd lt (List.lt_irrefl _)))
  refine List.Perm.eq_of_pairwise (le := fun a b : Str => ¬ b.cps.toList < a.cps.toList) (fun a b _ _ x y => ?_) ?_ ?_ pm
  · refine Decidable.byContradiction fun ne => y ?_
    exact cps_lt_of x ne
  · exact (up_pair h1 nd).imp fun lt z => absurd (List.lt_trans lt z) (List.lt_irrefl _)
  · exact h2.imp fun lt z => absurd (List.lt_trans lt z) (List.lt_irrefl _)
theorem eqv_strs : ∀ ys hs : List Str, PyData.eqvAll (ys.map PyData.str) (hs.map PyData.str) = decide (ys = hs)
  | [], [] => by simp [PyData.eqvAll]
  | [], _ :: _ => by simp [PyData.eqvAll]
  | _ :: _, [] => by simp [PyData.eqvAll]
  | y :: ys, h :: hs => by
    rw [List.map_cons, List.map_cons, PySem.W.eqv_all_cons, eqv_strs ys hs]
    have : PyData.eqv (.str y) (.str h) = decide (y = h) := by
      simp only [PyData.eqv]
      exact Bool.eq_iff_iff.mpr (by simp)
    rw [this, ← Bool.decide_and]
    exact decide_eq_decide.mpr (by simp)
theorem dp_lstS {H : Hp} {a : Addr} {ys : List Str} (h : H a = some (.lst (ys.map V.str))) : Dp K H (.ref a) (.list (ys.map PyData.str)) := .lst (SqL.of h) (dp_strs ys)
/-! sorted(d) against list(town[0]) -/
theorem srt_ne {H : Hp} {a b : Addr} {ys ks hs : List Str} {Q : VK} (ha : H a = some (.lst (ys.map V.str))) (hb : H b = some (.lst (hs.map V.str))) (srt : sortedS ys = true) (pm : ys.Perm ks) (up : sortedS hs = true) (nd : hs.Nodup) (ok : ∀ h ∈ hs, PyData.strOk h = true) (okk : ∀ k ∈ ks, PyData.strOk k = true)
    (q1 : ks.Perm hs → Q (.bl false) H) (q2 : ¬ ks.Perm hs → Q (.bl true) H) : rNeD K (.ref a) (.ref b) H Q := by
  refine ⟨_, _, dp_lstS ha, dp_lstS hb, shaped_strs fun h m => okk h (pm.mem_iff.mp m), shaped_strs ok, ?_⟩
  have e : PyData.eqv (.list (ys.map PyData.str)) (.list (hs.map PyData.str)) = decide (ys = hs) := by
    rw [PyData.eqv, eqv_strs]
  rw [e]
  by_cases h : ks.Perm hs
  · rw [decide_eq_true (strs_one srt (up_pair up nd) (pm.trans h))]
    exact q1 h
  · rw [decide_eq_false fun z => h (by rw [← z]; exact pm.symm)]
    exact q2 h
/-! ### whether pairs are in time by shifts -/
noncomputable def bearB (hs ks : List Str) (ls : List LkS) (f : Str → Int) : Bool := open Classical in decide (ks.Perm hs) && ls.all fun l => decide (f l.1 - f l.2.1 ≤ l.2.2)
theorem links_in {hs : List Str} {rs : List Row} (B : Book hs rs) : ∀ (ps : List PrK) (l : LkS), l ∈ linksOf rs ps → l.1 ∈ hs ∧ l.2.1 ∈ hs := fun ps l m => by
  obtain ⟨p, _, mp⟩ := List.mem_flatMap.mp m
  unfold lkOf at mp
  split at mp
  · rename_i r q e1 e2
    obtain ⟨⟨h1, h2⟩, _⟩ := rowOf_some e1
    have hi := B.inn r h1
    cases r with
    | ask h g k n o b =>
      rcases List.mem_cons.mp mp with rfl | mp
      · exact hi
      · rw [List.mem_singleton.mp mp]
        exact ⟨hi.2, hi.1⟩
    | job _ _ _ _ => exact absurd h2 w_ja'
    | all _ _ _ => exact absurd h2 w_la
  · exact nomatch mp
/-! a dict from texts to whole numbers -/
structure DSh (kvs : List (Key × V)) (ks : List Str) (f : Str → Int) : Prop where
  keys : kvs.map (·.1) = ks.map Sum.inr
  val : ∀ k ∈ ks, valV kvs (Sum.inr k) = some (.int (f k))
  ok : ∀ k ∈ ks, PyData.strOk k = true
  few : ks.length < 64
  nd : ks.Nodup
def sp_intime (af : Nat → Addr) (CN CC : Addr) : Sp := fun vs H Q E => ∃ (Ex : Addr → Prop) (t l p d : Addr) (hs gs ks : List Str) (xs us : List V) (ds : List PyData) (ps : List PrK) (kvs : List (Key × V)) (f : Str → Int), vs = [.ref t, .ref l, .ref p, .ref d] ∧ Ask Ex H t l hs gs xs ds ∧ H p = some (.lst us) ∧ Pks H us ps ∧ ps.length ≤ 1000 ∧
  (∀ rs : List Row, Book hs rs → ds = rs.map rowD → ∀ p ∈ ps, Kn rs p) ∧ sortedS hs = true ∧ H d = some (.dK kvs) ∧ DSh kvs ks f ∧ Tbs af H ∧ (∀ (rs : List Row) (H' : Hp), Sm H H' → RowsD hs ds ds.length → NoClash ds ds.length → Book hs rs → ds = rs.map rowD → Q (.bl (bearB hs ks (linksOf rs ps) f)) H') ∧ Refuse CN CC H hs ds E
theorem ok_in_time (T : Txt K mg af fd) (B : TxtB base mg af) : FnOk P w K mg base (L2.CX P w) 10 (af 35) (fd 35) ["town", "rows", "pairs", "shifts"] (sp_intime af (af 60) (af 62)) := by
  refine Gx.okCX T.F_in_time T.d_in_time sc_in_time (fun vs H Q E h => ?_) (fun A outer s H vs Q E hr h => ?_)
  · obtain ⟨Ex, t, l, p, d, hs, gs, ks, xs, us, ds, ps, kvs, f, rfl, _⟩ := h
    rfl
  · obtain ⟨Ex, t, l, p, d, hs, gs, ks, xs, us, ds, ps, kvs, f, rfl, hA, hp, hps, hlen, hk, up, hd, D, tb, q, r⟩ := h
    refine ⟨_, (pss_cons (ps_set (i := 4) sc_in_time.nd rfl (by first | exact Or.inl rfl | exact Or.inr rfl) (pe_call (ok_links_of T) (hr.mono (by first | decide | omega)) (by rfl) T.g_links_of T.F_links_of.kp T.b_links_of .nil (passes_call (takes_of rfl rfl rfl rfl) (fun _ _ _ _ h => h)) (pa_cons (pv 0) (pa_cons (pv 1) (pa_cons (pv 2) pa_nil)))))
        (pss_cons (ps_if (pt_cmpR (op_neD hr.units) (pe_callB (call_sortedD rfl) (by rfl) T.m_sorted (by decide +kernel) (pa_cons (pv 3) pa_nil)) (pe_callTy call_list_of (by rfl) T.m_list (by decide +kernel) (pa_cons (pe_ix ix_tup (pv 0) pe_int (fun _ _ => rfl)) pa_nil)) (nomark _)) (pss_one (ps_ret pe_bl)) pss_nil)
        (pss_one (ps_ret (Gx.pe_all (k := 8) (own := [("one", 5), ("other", 6), ("most", 7)]) (gt := gTup K 3 (gCons (gName 5) (gCons (gName 6) (gCons (gName 7) gNil)))) (hr.mono (by first | decide | omega)) (by rfl) T.m_all B.t_in_time rfl sc_in_time.nd (pi_list (pv 4)) (blkOk_by (own := [("one", 5), ("other", 6), ("most", 7)]) (N := ["town", "rows", "pairs", "shifts", "links", "one", "other", "most"]) (sc := defScope s_in_time) (by decide +kernel)) (fun _ _ _ _ _ _ _ hr => pg_tup rfl (pgs_cons (pg_name (i := 5) sc_in_time.nd rfl (Or.inl rfl)) (pgs_cons (pg_name (i := 6) sc_in_time.nd rfl (Or.inl rfl)) (pgs_cons (pg_name (i := 7) sc_in_time.nd rfl (Or.inl rfl)) pgs_nil)))) (fun _ _ _ _ _ _ _ hr => (pe_cmpR op_le (pe_op op_sub (pe_dget (hu_of hr) (pv 3) (pv 5) (fun _ _ => rfl)) (pe_dget (hu_of hr) (pv 3) (pv 6) (fun _ _ => rfl))) (pv 7) (nomark _)))))))), ?_⟩
    refine ⟨_, rfl, _, rfl, _, rfl, Ex, t, l, p, hs, gs, xs, us, ds, ps, rfl, hA, hp, hps, hlen, hk, (fun rs L ws H1 s1 h1 h2 Bk hds nL hL lk => ?_), r⟩
    have q1 := fun H' (s : Sm H1 H') => q rs H' ((Sm.of s1).trans s) h1 h2 Bk hds
    have hd1 := s1 _ _ hd
    refine ⟨_, rfl, d, kvs, ks, rfl, .inl hd1, D.keys, D.few, fun ys y1 pm srt ny1 => ?_⟩
    obtain ⟨th, tg, ht, hth, htg⟩ := hA.town
    have sy : Same H1 (upd H1 y1 (.lst (ys.map V.str))) := same_upd ny1
    have hy1 : (upd H1 y1 (.lst (ys.map V.str))) y1 = some (.lst (ys.map V.str)) := upd_same
    generalize upd H1 y1 (.lst (ys.map V.str)) = H2 at sy hy1 ⊢
    have s2 := s1.trans sy
    refine ⟨_, rfl, t, _, 0, _, rfl, rfl, SqT.of (s2 _ _ ht), rfl, th, _, rfl, .inr (SqT.of (s2 _ _ hth)), fun y2 ny2 => ?_⟩
    have sz : Same H2 (upd H2 y2 (.lst (hs.map V.str))) := same_upd ny2
    have hy2 : (upd H2 y2 (.lst (hs.map V.str))) y2 = some (.lst (hs.map V.str)) := upd_same
    generalize upd H2 y2 (.lst (hs.map V.str)) = H3 at sz hy2 ⊢
    have s3 := sy.trans sz
    have q3 := fun H' (s : Sm H3 H') => q1 H' ((Sm.of s3).trans s)
    refine srt_ne (sz _ _ hy1) hy2 srt pm up hA.nd hA.ok D.ok (fun hpm => ?_) (fun hpm => ?_)
    rotate_left
    · refine ⟨_, rfl, iteT ?_⟩
      have := q3 H3 (.refl H3)
      unfold bearB at this
      rw [decide_eq_false hpm, Bool.false_and] at this
      exact this
    refine ⟨_, rfl, iteF ?_⟩
    have hL3 := s3 _ _ hL
    have lk3 := lk.same s3
    have tb3 : Tbs af H3 := (tb.same s1).same s3
    refine ⟨_, rfl, L, rfl, ⟨_, SqL.of hL3⟩, tb3 _ (by decide), fun H4 tb4 => ?_⟩
    have s4 := Sm.tabbed (tb3 _ (by decide)) tb4
    have hL4 := s4.lst hL3
    have hd4 := s4.dK (s3 _ _ hd1)
    refine Gx.gx_it (walk_list (K := K) (a := L) (xs := ws)) (fun i H' => H' = H4 ∧ ∀ x ∈ (linksOf rs ps).take i, f x.1 - f x.2.1 ≤ x.2.2) ⟨rfl, fun h m => by rw [List.take_zero] at m; exact nomatch m⟩ (fun _ _ _ z => by rw [z.1]; exact SqL.of hL4) ?_ ?_
    · rintro i v G1 G2 hi ⟨rfl, hall⟩ ⟨rfl, hv⟩
      have hir : i < (linksOf rs ps).length := by rw [← lk.1]; exact hi
      have er : (linksOf rs ps)[i]? = some (linksOf rs ps)[i] := List.getElem?_eq_getElem hir
      generalize (linksOf rs ps)[i] = x at er
      obtain ⟨b, e1, e2⟩ := lk3.2 i x er
      obtain rfl : V.ref b = v := Option.some.inj (e1.symm.trans hv)
      obtain ⟨m1, m2⟩ := links_in Bk ps x (List.mem_of_getElem? er)
      have v1 := DGet.k (k := Sum.inr x.1) hd4
      have v2 := DGet.k (k := Sum.inr x.2.1) hd4
      rw [D.val _ (hpm.mem_iff.mpr m1)] at v1
      rw [D.val _ (hpm.mem_iff.mpr m2)] at v2
      refine ⟨b, _, rfl, SqT.of (s4.tup e2), rfl, _, _, rfl, _, _, rfl, _, _, rfl, rfl, ?_⟩
      refine ⟨rfl, _, rfl, _, rfl, d, _, rfl, v1, _, rfl, _, rfl, d, _, rfl, v2, _, _, rfl, rfl, _, rfl, _, _, rfl, rfl, _, rfl, ?_⟩
      by_cases hle : f x.1 - f x.2.1 ≤ x.2.2
      · rw [decide_eq_true hle]
        refine ⟨rfl, fun y m => ?_⟩
        rw [take_snoc er] at m
        rcases List.mem_append.mp m with m | m
        · exact hall y m
        · rw [List.mem_singleton.mp m]
          exact hle
      · rw [decide_eq_false hle]
        have := q3 _ s4
        have e : bearB hs ks (linksOf rs ps) f = false := by
          unfold bearB
          rw [decide_eq_true hpm, Bool.true_and]
          exact List.all_eq_false.mpr ⟨x, List.mem_of_getElem? er, by rw [decide_eq_false hle]; decide⟩
        rw [e] at this
        exact this
    · rintro G1 ⟨rfl, hall⟩
      rw [lk.1, List.take_length] at hall
      have := q3 _ s4
      have e : bearB hs ks (linksOf rs ps) f = true := by
        unfold bearB
        rw [decide_eq_true hpm, Bool.true_and]
        exact List.all_eq_true.mpr fun x m => decide_eq_true (hall x m)
      rw [e] at this
      exact this
theorem un65 {k : Nat} {A : Around} (r : Room k A) : A.units + 65 < cLine := by
  have := r.un
  omega
/-! ### a row's first three -/
theorem vals47 (r : Row) : 4 ≤ r.vals.length ∧ r.vals.length ≤ 7 := by
  cases r
  · exact ⟨(by decide : 4 ≤ 7), (by decide : 7 ≤ 7)⟩
  · exact ⟨(by decide : 4 ≤ 5), (by decide : 5 ≤ 7)⟩
  · exact ⟨(by decide : 4 ≤ 4), (by decide : 4 ≤ 7)⟩
theorem take3 (r : Row) : cutV r.vals none (some 3) = [.str r.word, .str r.h, .int r.k] := by
  rw [show (3 : Int) = ((3 : Nat) : Int) from rfl, cut_to]
  cases r <;> rfl
theorem nw3 (r : Row) : ¬ (HT.sIx r.vals.length 0 none = 0 ∧ HT.sIx r.vals.length r.vals.length (some 3) = r.vals.length) := by
  rintro ⟨_, h⟩
  rw [show (3 : Int) = ((3 : Nat) : Int) from rfl, HT.sIx_nat] at h
  have := (vals47 r).1
  omega
theorem cut13 (r : Row) : cutV r.vals (some 1) (some 3) = (Gr.keyOf r.key).map kV := by
  cases r <;> rfl
theorem nw13 (r : Row) : ¬ (HT.sIx r.vals.length 0 (some 1) = 0 ∧ HT.sIx r.vals.length r.vals.length (some 3) = r.vals.length) := by
  rintro ⟨h, _⟩
  rw [show (1 : Int) = ((1 : Nat) : Int) from rfl, HT.sIx_nat] at h
  have := (vals47 r).1
  omega
def hd3 (r : Row) : PyData := .tuple [.str r.word, .str r.h, .int r.k]
theorem hd3_sh {r : Row} (h : PyData.strOk r.h = true) : Sh (hd3 r) := by
  refine ⟨?_, by show 1 ≤ 60; decide⟩
  show (PyData.strOk r.word && (PyData.strOk r.h && (true && true))) = true
  have hw : PyData.strOk r.word = true := by
    cases r
    · show PyData.strOk "ask" = true
      decide +kernel
    · show PyData.strOk "job" = true
      decide +kernel
    · show PyData.strOk "all" = true
      decide +kernel
  rw [h, hw]
  rfl
theorem hd3s_sh {rs : List Row} (h : ∀ r ∈ rs, PyData.strOk r.h = true) : Sh (.list (rs.map hd3)) := by
  refine ⟨?_, ?_⟩
  · show PyData.canLayAll0 (rs.map hd3) = true
    induction rs with
    | nil => rfl
    | cons k ks ih =>
      show ((hd3 k).canLay0 && PyData.canLayAll0 (ks.map hd3)) = true
      rw [ih fun x m => h x (List.mem_cons_of_mem _ m), (hd3_sh (h k List.mem_cons_self)).1]
      rfl
  · have key : ∀ rs : List Row, PyData.depthAll (rs.map hd3) ≤ 1 := fun rs => by
      induction rs with
      | nil => exact Nat.zero_le _
      | cons k ks ih =>
        show max (hd3 k).depth (PyData.depthAll (ks.map hd3)) ≤ 1
        have e : (hd3 k).depth = 1 := rfl
        omega
    have := key rs
    show PyData.depthAll (rs.map hd3) + 1 ≤ 60
    omega
theorem hd3_eqv (r : Row) : PyData.eqv (hd3 r) (hd3 r) = true := by simp [hd3, PyData.eqv, PyData.eqvAll]
/-! [row[:3] for row in rows] -/
theorem lc_heads {l D : Addr} {xs : List V} {rs : List Row} {σ : L2.St} {i : Nat} {tt : TT} {te : TE} {H0 : Hp} {Qd : Hp → Prop} (hl : H0 l = some (.lst xs)) (hr : Rws H0 xs rs) (lr : rs.length ≤ 1000) (nD : H0 D = none)
    (htt : ∀ v H2 (Kt : Bool → Hp → Prop), Kt true H2 → tt ((wipe σ [i]).set i (some v)) H2 Kt)
    (hte : ∀ a r H2 (Ke : V → Hp → Prop), RowAt H2 a r → (∀ b, H2 b = none → Ke (.ref b) (upd H2 b (.tup [.str r.word, .str r.h, .int r.k]))) → te ((wipe σ [i]).set i (some (.ref a))) H2 Ke)
    (hq : ∀ (us : List V) (H' : Hp), Same H0 H' → H' D = some (.lst us) → Dqs (fun _ => False) H' us (rs.map hd3) → Qd H') :
    ∃ W : Nat → Nat → Hp → Prop, (∃ m, W 0 m (upd H0 D (.lst []))) ∧ ∀ k m H, W k m H →
      ((Itl K l).stop k H ∧ Qd H) ∨ ((Itl K l).go k H ∧ ∃ Nx : Hp → Prop, (∀ H', Nx H' → ∃ m', m' < m ∧ W (k + 1) m' H') ∧ ∀ x H', (Itl K l).yld k H x H' → gName i x (wipe σ [i]) H' fun σ2 H2 => wipe σ2 [i] = wipe σ [i] ∧ tt σ2 H2 fun b H3 =>
        if b = true then te σ2 H3 fun y H4 => ∃ acc, H4 D = some (.lst acc) ∧ acc.length < sizeLine ∧ Nx (upd H4 D (.lst (acc ++ [y]))) else Nx H3) := by
  refine lc_it (walk_list (K := K) (a := l) (xs := xs)) (g := gName i) (fun k H' => Same H0 H' ∧ ∃ us, us.length ≤ k ∧ H' D = some (.lst us) ∧ ∃ bs : List Addr, us = bs.map V.ref ∧ bs.length = (rs.take k).length ∧ ∀ (j : Nat) (b : Addr) (r : Row), bs[j]? = some b → (rs.take k)[j]? = some r → H' b = some (.tup [.str r.word, .str r.h, .int r.k]))
    ⟨same_upd nD, [], Nat.le_refl _, upd_same, [], rfl, by rw [List.take_zero]; rfl, fun j b r e => nomatch e⟩ (fun k H' _ h => SqL.of (h.1 _ _ hl)) ?_ ?_
  · rintro k v G1 G2 hk ⟨g, us, hu, hD, bs, eu, lb, hb⟩ ⟨rfl, ev⟩
    have hkr : k < rs.length := by rw [← hr.1]; exact hk
    have er : rs[k]? = some rs[k] := List.getElem?_eq_getElem hkr
    generalize rs[k] = r at er
    obtain ⟨a, ea, ha⟩ := hr.2 k r er
    obtain rfl : V.ref a = v := Option.some.inj (ea.symm.trans ev)
    refine ⟨wipe_one σ i _, htt _ G2 _ (iteT (hte a r G2 _ (g _ _ ha) fun b nb => ?_))⟩
    have sb : Same G2 (upd G2 b (.tup [.str r.word, .str r.h, .int r.k])) := same_upd nb
    have hb' : (upd G2 b (.tup [.str r.word, .str r.h, .int r.k])) b = some (.tup [.str r.word, .str r.h, .int r.k]) := upd_same
    generalize upd G2 b (.tup [.str r.word, .str r.h, .int r.k]) = G3 at sb hb' ⊢
    have hD3 := sb _ _ hD
    have tup : ∀ c ys, G3 c = some (.tup ys) → (upd G3 D (.lst (us ++ [.ref b]))) c = some (.tup ys) := fun c ys e => by
      rw [upd_ne (ne_of e hD3 (fun z => nomatch z))]
      exact e
    refine ⟨us, hD3, small_line (by omega), same_mut (g.trans sb) nD, us ++ [.ref b], by rw [List.length_append, List.length_singleton]; omega, upd_same, bs ++ [b], by rw [eu, List.map_append]; rfl, by rw [take_snoc er, List.length_append, List.length_append, lb]; rfl, fun j c t ec et => ?_⟩
    rw [take_snoc er] at et
    by_cases hj : j < bs.length
    · rw [List.getElem?_append_left hj] at ec
      rw [List.getElem?_append_left (by omega)] at et
      exact tup _ _ (sb _ _ (hb j c t ec et))
    · have ej : j = bs.length := by
        have := (List.getElem?_eq_some_iff.mp ec).1
        rw [List.length_append, List.length_singleton] at this
        omega
      subst ej
      rw [List.getElem?_append_right (Nat.le_refl _), Nat.sub_self] at ec
      rw [lb, List.getElem?_append_right (Nat.le_refl _), Nat.sub_self] at et
      obtain rfl : b = c := Option.some.inj ec
      obtain rfl : r = t := Option.some.inj et
      exact tup _ _ hb'
  · rintro G ⟨g, us, lu, hD, bs, rfl, lb, hb⟩
    rw [hr.1, List.take_length] at lb hb
    refine hq _ G g hD ?_
    clear hD hq hte htt lr hr hl lu
    induction bs generalizing rs with
    | nil =>
      cases rs with
      | nil => exact .nil
      | cons _ _ => exact nomatch lb
    | cons b bs ih =>
      cases rs with
      | nil => exact nomatch lb
      | cons r rs =>
        refine .cons (.tup (hb 0 b r rfl rfl) (.cons (.str _) (.cons (.str _) (.cons (.int _) .nil)))) (ih (Nat.succ.inj lb) fun j c t e1 e2 => hb (j + 1) c t e1 e2)
/-! ### pairs that were -/
theorem book_h {hs : List Str} {rs : List Row} (B : Book hs rs) {r : Row} (m : r ∈ rs) : r.h ∈ hs := by
  have := B.inn r m
  cases r with
  | ask _ _ _ _ _ _ => exact this.1
  | job _ _ _ _ => exact this
  | all _ _ _ => exact this
def keyA (js : List WJ) (as : List WA) (i : Nat) : Gr.HK := (hoA js as i, ((rkA js as i : Nat) : Int))
def keyJ (js : List WJ) (i : Nat) : Gr.HK := (hoJ js i, ((rkJ js i : Nat) : Int))
structure WasP (js : List WJ) (as : List WA) (rs : List Row) (p : PrK) : Prop where
  was : ∃ i x, as[i]? = some x ∧ p = (keyA js as i, keyJ js x.ch)
  ka : ∃ r, Bk rs "ask" r ∧ r.key = p.1
  kj : ∃ r, Bk rs "job" r ∧ r.key = p.2
theorem hd_in {rs : List Row} {wd : Str} {k : Gr.HK} : ((rs.map hd3).any fun z => PyData.eqv z (.tuple [.str wd, .str k.1, .int k.2])) = true ↔ ∃ r, Bk rs wd r ∧ r.key = k := by
  rw [List.any_eq_true]
  constructor
  · rintro ⟨z, mz, ez⟩
    obtain ⟨r, mr, rfl⟩ := List.mem_map.mp mz
    have : r.word = wd ∧ r.h = k.1 ∧ r.k = k.2 := by simpa [hd3, PyData.eqv, PyData.eqvAll] using ez
    exact ⟨r, ⟨mr, this.1⟩, Prod.ext this.2.1 this.2.2⟩
  · rintro ⟨r, hr, rfl⟩
    refine ⟨hd3 r, List.mem_map.mpr ⟨r, hr.1, rfl⟩, ?_⟩
    have e : hd3 r = .tuple [.str wd, .str r.h, .int r.k] := by unfold hd3; rw [hr.2]
    have := hd3_eqv r
    rw [e] at this ⊢
    exact this
theorem hd_sh {wd : Str} {k : Gr.HK} (h1 : PyData.strOk wd = true) (h : PyData.strOk k.1 = true) : SeqAt.shaped (.tuple [.str wd, .str k.1, .int k.2]) = true := by
  have : Sh (.tuple [.str wd, .str k.1, .int k.2]) := by
    refine ⟨?_, by show 1 ≤ 60; decide⟩
    show (PyData.strOk wd && (PyData.strOk k.1 && (true && true))) = true
    rw [h, h1]
    rfl
  exact this.shaped
theorem Pks.nil {H : Hp} : Pks H [] [] := ⟨rfl, fun i l e => nomatch e⟩
theorem Pks.snoc {H : Hp} {us : List V} {ps : List PrK} (h : Pks H us ps) {b x y : Addr} {p : PrK} (e1 : H b = some (.tup [.ref x, .ref y])) (e2 : H x = some (.tup ((Gr.keyOf p.1).map kV))) (e3 : H y = some (.tup ((Gr.keyOf p.2).map kV))) : Pks H (us ++ [.ref b]) (ps ++ [p]) := by
  refine ⟨by rw [List.length_append, List.length_append, h.1]; rfl, fun i t e => ?_⟩
  by_cases hi : i < ps.length
  · rw [List.getElem?_append_left hi] at e
    rw [List.getElem?_append_left (by rw [h.1]; exact hi)]
    exact h.2 i t e
  · rw [List.getElem?_append_right (by omega)] at e
    rw [List.getElem?_append_right (by rw [h.1]; omega), h.1]
    cases hj : i - ps.length with
    | zero =>
      rw [hj] at e
      cases e
      exact ⟨b, x, y, rfl, e1, e2, e3⟩
    | succ j =>
      rw [hj] at e
      cases e
def sp_true_pairs : Sp := fun vs H Q _ => ∃ (t w l lj la : Addr) (hs gs : List Str) (rs qs : List Addr) (js : List WJ) (as : List WA) (most : Int) (xs : List V) (rws : List Row), vs = [.ref t, .ref w, .ref l] ∧ TownAt H t hs gs ∧ WorldAt H w lj la rs qs js as most ∧ WOk hs js as ∧ js.length ≤ 100 ∧ hs.length ≤ 6 ∧ (∀ h ∈ hs, PyData.strOk h = true) ∧ H l = some (.lst xs) ∧ Rws H xs rws ∧ rws.length ≤ 900 ∧ Book hs rws ∧
  ∀ (L : Addr) (us : List V) (ps : List PrK) (H' : Hp), Same H H' → H L = none → H' L = some (.lst us) → Pks H' us ps → (∀ p ∈ ps, WasP js as rws p) → ps.length ≤ as.length → Q (.ref L) H'
theorem ok_l_true_pairs (T : Txt K mg af fd) : FnOk P w K mg base CX0 2 (af 52) (fd 52) ["town", "world", "rows"] sp_true_pairs := by
  refine T.F_l_true_pairs.ok sc_l_true_pairs (fun vs H Q E h => ?_) (fun cdv A outer s H vs Q E hr h => ?_)
  · obtain ⟨t, w, l, lj, la, hs, gs, rs, qs, js, as, most, xs, rws, rfl, _⟩ := h
    rfl
  · obtain ⟨t, w, l, lj, la, hs, gs, rs, qs, js, as, most, xs, rws, rfl, ht, W, wok, lenj, h6, hok, hl, hrw, hrl, B, q⟩ := h
    refine ⟨_, (pss_cons (ps_asg (pe_call (ok_l_called T) (hr.mono (by first | decide | omega)) (by rfl) T.g_l_called T.F_l_called.kp T.b_l_called .nil pass0 (pa_cons (pv 0) (pa_cons (pv 1) pa_nil))) (pg_tup rfl (pgs_cons (pg_name (i := 3) sc_l_true_pairs.nd rfl (by first | exact Or.inl rfl | exact Or.inr rfl)) (pgs_cons (pg_name (i := 4) sc_l_true_pairs.nd rfl (by first | exact Or.inl rfl | exact Or.inr rfl)) pgs_nil))))
        (pss_cons (ps_setLc (i := 5) (own := [("row", 6)]) (g := gName 6) (by rfl) sc_l_true_pairs.nd rfl rfl (sw_true rfl rfl rfl (by decide +kernel)) (pi_list (pv 2)) (blkOk_by (own := [("row", 6)]) (N := ["town", "world", "rows", "asks", "jobs", "known", "row", "pairs", "at", "ask"]) (sc := defScope s_l_true_pairs) (by decide +kernel)) (fun _ _ _ _ _ => pg_name (i := 6) sc_l_true_pairs.nd rfl (Or.inl rfl)) (fun _ _ _ _ _ => pts_nil) (fun _ _ _ _ _ => (pe_slice (show SlR _ (rSlT K) from sl_tup) (pv 6) po_none (po_some pe_int))))
        (pss_cons (ps_set (i := 7) sc_l_true_pairs.nd rfl (by first | exact Or.inl rfl | exact Or.inr rfl) (pe_lst pa_nil))
        (pss_cons (ps_for PassesOwn.never rfl (pi_enum (by rfl) T.m_enumerate (pa_cons (pe_ix ix_list (pv 1) pe_int (fun _ _ => rfl)) pa_nil)) (pg_tup rfl (pgs_cons (pg_name (i := 8) sc_l_true_pairs.nd rfl (by first | exact Or.inl rfl | exact Or.inr rfl)) (pgs_cons (pg_name (i := 9) sc_l_true_pairs.nd rfl (by first | exact Or.inl rfl | exact Or.inr rfl)) pgs_nil))) (pss_one (ps_if (PW.pt (pw_and (pt_cmpR (op_inD (un65 hr)) (pe_op op_catT (pe_tup (pa_cons pe_str pa_nil)) (pe_dget (hu_of hr) (pv 3) (pv 8) (fun _ _ => rfl))) (pv 5) (by rfl)) (pw_and1 (pt_cmpR (op_inD (un65 hr)) (pe_op op_catT (pe_tup (pa_cons pe_str pa_nil)) (pe_dget (hu_of hr) (pv 4) (pe_ix ix_list (pv 9) pe_int (fun _ _ => rfl)) (fun _ _ => rfl))) (pv 5) (by rfl))))) (pss_one (ps_expr (pe_bm PySem.F.plainAttrs_list PySem.F.slot_list_append PySem.F.type_list_append mt_append (pv 7) (pa_cons (pe_tup (pa_cons (pe_dget (hu_of hr) (pv 3) (pv 8) (fun _ _ => rfl)) (pa_cons (pe_dget (hu_of hr) (pv 4) (pe_ix ix_list (pv 9) pe_int (fun _ _ => rfl)) (fun _ _ => rfl)) pa_nil))) pa_nil)))) pss_nil)))
        (pss_one (ps_ret (pe_callB (Nt.cr_sortedPr hr.units) (by rfl) T.m_sorted (by decide +kernel) (pa_cons (pv 7) pa_nil)))))))), ?_⟩
    have lena : as.length ≤ js.length := wok.len
    refine ⟨_, rfl, _, rfl, t, w, lj, la, hs, gs, rs, qs, js, as, most, rfl, ht, W, by omega, by omega, fun pc dA dJ kA kJ H1 s1 hpc hA hJ ndA ndJ nA nJ => ?_⟩
    refine ⟨pc, _, rfl, SqT.of hpc, rfl, _, _, rfl, _, _, rfl, rfl, ?_⟩
    refine ⟨_, rfl, l, rfl, ⟨_, SqL.of (s1 _ _ hl)⟩, fun D nD => ?_⟩
    refine lc_heads (s1 _ _ hl) (hrw.same s1) (by omega) nD (fun v H2 Kt k => k) (fun a r H2 Ke ha hk => ?_) (fun us H2 s2 hD dq => ?_)
    · refine ⟨_, rfl, ?_⟩
      dsimp only [tNoPart]
      refine ⟨3, rfl, a, _, rfl, SqT.of ha, nw3 r, fun b nb => ?_⟩
      rw [take3]
      exact hk b nb
    have s12 := s1.trans s2
    refine ⟨Nat.zero_le _, fun L nL => ?_⟩
    have s3 : Same H2 (upd H2 L (.lst [])) := same_upd nL
    have hL : (upd H2 L (.lst [])) L = some (.lst []) := upd_same
    generalize upd H2 L (.lst []) = H3 at s3 hL ⊢
    have s13 := s12.trans s3
    refine ⟨_, rfl, w, _, 1, _, rfl, rfl, SqL.of (s13 _ _ W.w), rfl, la, qs.map V.ref, rfl, SqL.of (s13 _ _ W.a), ?_⟩
    have nLH := s12.free nL
    have okh : ∀ r ∈ rws, PyData.strOk r.h = true := fun r m => hok _ (book_h B m)
    refine for_it (walk_enum (K := K) (a := la) (xs := qs.map V.ref)) (fun k σ H' => (∃ v8 v9 : Option V, σ = [some (.ref t), some (.ref w), some (.ref l), some (.ref dA), some (.ref dJ), some (.ref D), none, some (.ref L), v8, v9]) ∧ Same H2 H' ∧ ∃ us ps, H' L = some (.lst us) ∧ Pks H' us ps ∧ (∀ p ∈ ps, WasP js as rws p) ∧ ps.length ≤ k)
      ⟨⟨none, none, rfl⟩, s3, [], [], hL, Pks.nil, (fun p m => nomatch m), Nat.le_refl _⟩ (fun k σ H' _ h => SqL.of (h.2.1 _ _ (s12 _ _ W.a))) ?_ ?_
    · rintro k v σ G1 G2 hk ⟨⟨u8, u9, rfl⟩, g1, vs, ps, hLg, pk, hw, hlen⟩ ⟨Tp, x1, x2, rfl, nT, rfl, e1, e2⟩
      obtain rfl : V.int (k : Nat) = x1 := Option.some.inj e1
      have e2 : (qs.map V.ref)[k]? = some x2 := e2
      rw [List.getElem?_map] at e2
      obtain ⟨r, hr1, rfl⟩ := Option.map_eq_some_iff.mp e2
      have hka : k < as.length := by rw [← W.ca.1]; exact (List.getElem?_eq_some_iff.mp hr1).1
      have hx : as[k]? = some as[k] := List.getElem?_eq_getElem hka
      generalize as[k] = x at hx
      have sT : Same G1 (upd G1 Tp (.tup [.int (k : Nat), .ref r])) := same_upd nT
      have hT : (upd G1 Tp (.tup [.int (k : Nat), .ref r])) Tp = some (.tup [.int (k : Nat), .ref r]) := upd_same
      generalize upd G1 Tp (.tup [.int (k : Nat), .ref r]) = G3 at sT hT ⊢
      have g3 := g1.trans sT
      have a3 := s12.trans g3
      have W3 := W.same a3
      have hr3 := W3.ca.2 k r x hr1 hx
      have hch : x.ch < js.length := by
        obtain ⟨_, _, j, ej, _⟩ := (wok.ab x (List.mem_of_getElem? hx)).ch
        have := (List.getElem?_eq_some_iff.mp ej).1
        omega
      obtain ⟨wo1, wo2⟩ := wok_ho wok
      obtain ⟨ba, eba, hba⟩ := nA.at hka (wo2 k hka)
      obtain ⟨bj, ebj, hbj⟩ := nJ.at hch (wo1 _ hch)
      have t13 := s2.trans g3
      have gA : ∀ G, Same G3 G → DGet G dA (.int (k : Int)) (some (.ref ba)) := fun G s => by rw [← eba]; exact DGet.k (k := Sum.inl (k : Int)) (s _ _ (t13 _ _ hA))
      have gJ : ∀ G, Same G3 G → DGet G dJ (.int (x.ch : Int)) (some (.ref bj)) := fun G s => by rw [← ebj]; exact DGet.k (k := Sum.inl (x.ch : Int)) (s _ _ (t13 _ _ hJ))
      refine ⟨Tp, _, rfl, SqT.of hT, rfl, _, _, rfl, _, _, rfl, rfl, ?_⟩
      refine ⟨(by show 1 ≤ sizeLine; decide), fun c nc => ?_⟩
      have uc : Same G3 (upd G3 c (.tup [.str "ask"])) := same_upd nc
      have hc : (upd G3 c (.tup [.str "ask"])) c = some (.tup [.str "ask"]) := upd_same
      generalize upd G3 c (.tup [.str "ask"]) = G4 at uc hc ⊢
      have skip : ∀ G, Same G3 G → (∃ v8 v9 : Option V, [some (V.ref t), some (.ref w), some (.ref l), some (.ref dA), some (.ref dJ), some (.ref D), none, some (.ref L), some (.int (k : Nat)), some (.ref r)] = [some (V.ref t), some (.ref w), some (.ref l), some (.ref dA), some (.ref dJ), some (.ref D), none, some (.ref L), v8, v9]) ∧ Same H2 G ∧ ∃ us ps, G L = some (.lst us) ∧ Pks G us ps ∧ (∀ p ∈ ps, WasP js as rws p) ∧ ps.length ≤ k + 1 :=
        fun G s => ⟨⟨_, _, rfl⟩, g3.trans s, vs, ps, s _ _ (sT _ _ hLg), pk.same (sT.trans s), hw, by omega⟩
      refine ⟨_, rfl, _, rfl, dA, _, rfl, gA _ uc, c, ba, _, _, rfl, rfl, SqT.of hc, SqT.of (uc _ _ (t13 _ _ hba)), (fun z => nomatch z), (by show 3 ≤ sizeLine; decide), (fun z => nomatch z), fun _ e ne => ?_⟩
      have ue : Same G4 (upd G4 e (.tup [.str "ask", .str (keyA js as k).1, .int (keyA js as k).2])) := same_upd ne
      have he : (upd G4 e (.tup [.str "ask", .str (keyA js as k).1, .int (keyA js as k).2])) e = some (.tup [.str "ask", .str (keyA js as k).1, .int (keyA js as k).2]) := upd_same
      have v4 := uc.trans ue
      have dq5 := dq.same (g3.trans v4)
      have hD5 := (g3.trans v4) _ _ hD
      refine ⟨_, rfl, .tuple [.str "ask", .str (keyA js as k).1, .int (keyA js as k).2], rws.map hd3, Dp.tup (SqT.of he) (.cons (.str _) (.cons (.str _) (.cons (.int _) .nil))), Dp.lst (SqL.of hD5) dq5.dp, hd_sh (by decide +kernel) (hok _ (wo2 k hka)), (hd3s_sh okh).shaped, _, rfl, ite2 (fun z1 => ?_) (fun _ => iteF (skip _ v4))⟩
      have ka := hd_in.mp z1
      refine ⟨(by show 1 ≤ sizeLine; decide), fun c2 nc2 => ?_⟩
      have u5 : Same (upd G4 e (.tup [.str "ask", .str (keyA js as k).1, .int (keyA js as k).2])) (upd (upd G4 e (.tup [.str "ask", .str (keyA js as k).1, .int (keyA js as k).2])) c2 (.tup [.str "job"])) := same_upd nc2
      have hc2 : (upd (upd G4 e (.tup [.str "ask", .str (keyA js as k).1, .int (keyA js as k).2])) c2 (.tup [.str "job"])) c2 = some (.tup [.str "job"]) := upd_same
      have v5 := v4.trans u5
      refine ⟨_, rfl, _, rfl, r, _, 4, _, rfl, rfl, SqL.of (v5 _ _ hr3), rfl, dJ, _, rfl, gJ _ v5, c2, bj, _, _, rfl, rfl, SqT.of hc2, SqT.of (v5 _ _ (t13 _ _ hbj)), (fun z => nomatch z), (by show 3 ≤ sizeLine; decide), (fun z => nomatch z), fun _ e2 ne2 => ?_⟩
      generalize eG5 : upd (upd G4 e (.tup [.str "ask", .str (keyA js as k).1, .int (keyA js as k).2])) c2 (.tup [.str "job"]) = G5 at u5 hc2 v5
      have ne2 : G5 e2 = none := by rw [← eG5]; exact ne2
      have u6 : Same G5 (upd G5 e2 (.tup [.str "job", .str (keyJ js x.ch).1, .int (keyJ js x.ch).2])) := same_upd ne2
      have he2 : (upd G5 e2 (.tup [.str "job", .str (keyJ js x.ch).1, .int (keyJ js x.ch).2])) e2 = some (.tup [.str "job", .str (keyJ js x.ch).1, .int (keyJ js x.ch).2]) := upd_same
      have v6 := v5.trans u6
      have dq6 := dq.same (g3.trans v6)
      have hD6 := (g3.trans v6) _ _ hD
      have inn : ∀ {Qn : VK}, (∀ z : Bool, (z = true ↔ ∃ r, Bk rws "job" r ∧ r.key = keyJ js x.ch) → Qn (.bl z) (upd G5 e2 (.tup [.str "job", .str (keyJ js x.ch).1, .int (keyJ js x.ch).2]))) → rInD K (.ref e2) (.ref D) (upd G5 e2 (.tup [.str "job", .str (keyJ js x.ch).1, .int (keyJ js x.ch).2])) Qn := fun qn =>
        ⟨.tuple [.str "job", .str (keyJ js x.ch).1, .int (keyJ js x.ch).2], rws.map hd3, Dp.tup (SqT.of he2) (.cons (.str _) (.cons (.str _) (.cons (.int _) .nil))), Dp.lst (SqL.of hD6) dq6.dp, hd_sh (by decide +kernel) (hok _ (wo1 _ hch)), (hd3s_sh okh).shaped, qn _ hd_in⟩
      generalize eG6 : upd G5 e2 (.tup [.str "job", .str (keyJ js x.ch).1, .int (keyJ js x.ch).2]) = G6 at u6 he2 v6 dq6 hD6 inn
      refine ⟨_, rfl, ?_⟩
      subst eG5
      have inn' := @inn
      rw [← eG6] at inn'
      refine inn' fun z hz => ⟨z, rfl, ?_⟩
      refine ite2 (fun z1 => ?_) (fun _ => skip _ (by rw [← eG6] at v6; exact v6))
      have kj := hz.mp z1
      rw [← eG6] at v6
      have hLg6 := v6 _ _ (sT _ _ hLg)
      refine ⟨_, rfl, .inl ⟨rfl, _, SqL.of hLg6⟩, _, rfl, _, rfl, dA, _, rfl, gA _ v6, _, rfl, _, rfl, r, _, 4, _, rfl, rfl, SqL.of (v6 _ _ hr3), rfl, dJ, _, rfl, gJ _ v6, (by show 2 ≤ sizeLine; decide), fun f nf => ?_⟩
      have uf := same_upd (o := .tup [.ref ba, .ref bj]) nf
      have v7 := v6.trans uf
      have pk7 := (pk.same (sT.trans v7)).snoc (p := (keyA js as k, keyJ js x.ch)) (upd_same : (upd _ f (.tup [.ref ba, .ref bj])) f = _) (v7 _ _ (t13 _ _ hba)) (v7 _ _ (t13 _ _ hbj))
      have hL7 := uf _ _ hLg6
      refine ⟨L, vs, _, rfl, rfl, hL7, small_line (by rw [pk.1]; omega), ⟨_, _, rfl⟩, same_mut (g3.trans v7) nL, _, _, upd_same, pk7.go fun c ys e => ?_, fun p m => ?_, ?_⟩
      · rw [upd_ne (ne_of e hL7 (fun z => nomatch z))]
        exact e
      · rcases List.mem_append.mp m with m | m
        · exact hw p m
        · rw [List.mem_singleton.mp m]
          exact ⟨⟨k, x, hx, rfl⟩, ka, kj⟩
      · rw [List.length_append]
        show ps.length + 1 ≤ k + 1
        omega
    · rintro σ G1 ⟨⟨u8, u9, rfl⟩, g1, vs, ps, hLg, pk, hw, hlen⟩
      have : ∀ v : V, ∃ p : PrK, v ∈ vs → Nt.AtP G1 v p ∧ WasP js as rws p := fun v => by
        by_cases m : v ∈ vs
        · obtain ⟨i, hi⟩ := List.getElem?_of_mem m
          have hip : i < ps.length := by rw [← pk.1]; exact (List.getElem?_eq_some_iff.mp hi).1
          have ep : ps[i]? = some ps[i] := List.getElem?_eq_getElem hip
          obtain ⟨b, x, y, e1, e2, e3, e4⟩ := pk.2 i _ ep
          obtain rfl : V.ref b = v := Option.some.inj (e1.symm.trans hi)
          exact ⟨ps[i], fun _ => ⟨⟨b, x, y, rfl, e2, e3, e4⟩, hw _ (List.mem_of_getElem? ep)⟩⟩
        · exact ⟨((("", 0), ("", 0)) : PrK), fun z => absurd z m⟩
      obtain ⟨f, hf⟩ := Classical.axiomOfChoice this
      refine ⟨_, rfl, L, vs, f, rfl, SqL.of hLg, fun x m => (hf x m).1, fun ys L2 _ stb nL2 => ?_⟩
      have pm := stb.perm
      have g2 := g1.trans (same_upd (o := .lst ys) nL2)
      refine q L2 ys (ys.map f) _ (s12.trans g2) ((s12.trans g1).free nL2) upd_same ⟨by rw [List.length_map], fun i p e => ?_⟩ (fun p m => ?_) (by rw [List.length_map, pm.length_eq, pk.1]; rw [List.length_map, W.ca.1] at hlen; exact hlen)
      · rw [List.getElem?_map] at e
        obtain ⟨v, ev, rfl⟩ := Option.map_eq_some_iff.mp e
        obtain ⟨b, x, y, rfl, e2, e3, e4⟩ := (hf v (pm.mem_iff.mp (List.mem_of_getElem? ev))).1
        exact ⟨b, x, y, ev, same_upd nL2 _ _ e2, same_upd nL2 _ _ e3, same_upd nL2 _ _ e4⟩
      · obtain ⟨v, mv, rfl⟩ := List.mem_map.mp m
        exact (hf v (pm.mem_iff.mp mv)).2
/-! ### a town that has a gate -/
def sp_gated : Sp := fun vs H Q _ => ∃ (p c : Addr) (most : Nat), vs = [.ref p, .int most] ∧ Pen H p c ∧ 1 ≤ most ∧ most ≤ 6 ∧
  ∀ (t : Addr) (hs gs : List Str) (H' : Hp), Stp p c H H' → TownAt H' t hs gs → Good hs gs most → Q (.ref t) H'
theorem ok_l_gated (T : Txt K mg af fd) : FnOk P w K mg base CX0 5 (af 53) (fd 53) ["pen", "most"] sp_gated := by
  refine T.F_l_gated.ok sc_l_gated (fun vs H Q E h => ?_) (fun cdv A outer s H vs Q E hr h => ?_)
  · obtain ⟨p, c, most, rfl, _⟩ := h
    rfl
  · obtain ⟨p, c, most, rfl, hP, m1, m6, q⟩ := h
    refine ⟨_, (pss_cons (ps_set (i := 2) sc_l_gated.nd rfl (by first | exact Or.inl rfl | exact Or.inr rfl) (pe_call (ok_l_town T) (hr.mono (by first | decide | omega)) (by rfl) T.g_l_town T.F_l_town.kp T.b_l_town .nil pass0 (pa_cons (pv 0) (pa_cons (pv 1) pa_nil))))
        (pss_cons (ps_if (pt_cmpR (op_eqD hr.units) (pe_ix ix_tup (pv 2) pe_int (fun _ _ => rfl)) (pe_tup pa_nil) (nomark _)) (pss_one (ps_ret (pe_tup (pa_cons (pe_ix ix_tup (pv 2) pe_int (fun _ _ => rfl)) (pa_cons (pe_slice sl_tupA (pe_ix ix_tup (pv 2) pe_int (fun _ _ => rfl)) po_none (po_some pe_int)) pa_nil))))) pss_nil)
        (pss_one (ps_ret (pv 2))))), ?_⟩
    refine ⟨_, rfl, _, rfl, p, c, most, rfl, hP, m1, m6, fun t hs gs H1 s1 ht hg => ?_⟩
    have ht0 := ht
    obtain ⟨a, b, h1, h2, h3⟩ := ht
    have hok : ∀ h ∈ gs, PyData.strOk h = true := fun h m => (hg.hou h (hg.sub.subset m)).ok
    refine ⟨_, rfl, t, _, 1, _, rfl, rfl, SqT.of h1, rfl, Nat.zero_le _, fun e ne => ?_⟩
    have P1 := s1.1
    have s2 := (Stp.refl P1).new (o := .tup []) P1 ne
    have u1 := s2.tup P1 h1
    have u2 := s2.tup P1 h2
    have u3 := s2.tup P1 h3
    have ue : (upd H1 e (.tup [])) e = some (.tup []) := upd_same
    generalize upd H1 e (.tup []) = G1 at s2 u1 u2 u3 ue ⊢
    have P2 := s2.1
    have s12 := s1.trans s2
    refine ⟨.tuple (gs.map PyData.str), .tuple [], Dp.tup (SqT.of u3) (dp_strs gs), Dp.tup (SqT.of ue) .nil, shaped_tup_strs hok, rfl, _, rfl, ite2 (fun e1 => ?_) (fun e1 => ?_)⟩
    · refine ⟨_, rfl, t, _, 0, _, rfl, rfl, SqT.of u1, rfl, _, rfl, t, _, 0, _, rfl, rfl, SqT.of u1, rfl, ?_⟩
      dsimp only [tNoPart]
      have ec : cutV (hs.map V.str) none (some 1) = (hs.take 1).map V.str := by
        rw [show (1 : Int) = ((1 : Nat) : Int) from rfl, cut_to, List.map_take]
      have good : Good hs (hs.take 1) most := ⟨hg.one, hg.few, hg.nd, hg.up, hg.hou, List.take_sublist 1 hs⟩
      refine ⟨1, rfl, a, _, rfl, SqT.of u2, fun w => ?_, fun w b2 nb2 => ?_⟩
      · refine ⟨(by show 2 ≤ sizeLine; decide), fun t2 nt2 => ?_⟩
        have s3 := (Stp.refl P2).new (o := .tup [.ref a, .ref a]) P2 nt2
        have e1 : hs.length = 1 := by
          have := w.2
          rw [List.length_map, show (1 : Int) = ((1 : Nat) : Int) from rfl, HT.sIx_nat] at this
          have := hg.one
          omega
        have e2 : hs.take 1 = hs := by rw [← e1, List.take_length]
        rw [e2] at good
        exact q t2 hs hs _ (s12.trans s3) ⟨a, a, upd_same, s3.tup P2 u2, s3.tup P2 u2⟩ good
      · have s3 := (Stp.refl P2).new (o := .tup (cutV (hs.map V.str) none (some 1))) P2 nb2
        refine ⟨(by show 2 ≤ sizeLine; decide), fun t2 nt2 => ?_⟩
        have s4 := (Stp.refl s3.1).new (o := .tup [.ref a, .ref b2]) s3.1 nt2
        refine q t2 hs (hs.take 1) _ ((s12.trans s3).trans s4) ⟨a, b2, upd_same, s4.tup s3.1 (s3.tup P2 u2), s4.tup s3.1 (by rw [← ec]; exact upd_same)⟩ good
    · exact ⟨_, rfl, q t hs gs _ s12 ⟨a, b, u1, u2, u3⟩ hg⟩
theorem ask_in {hs : List Str} {js : List WJ} {as : List WA} {bs : Str → Int} {i : Nat} {x : WA} {j : WJ} (e : as[i]? = some x) (ej : js[x.pl]? = some j) : Bk (wRows hs js as bs) "ask" (.ask j.h x.g (rkA js as i : Nat) (rkJ js x.pl : Nat) (bs j.h + x.o) (bs j.h + x.k)) := by
  refine ⟨List.mem_append_left _ (List.mem_append_right _ (List.mem_map.mpr ⟨i, List.mem_range.mpr (List.getElem?_eq_some_iff.mp e).1, ?_⟩)), rfl⟩
  unfold askRow
  rw [e]
  show Row.ask (hoA js as i) _ _ _ (bs (hoA js as i) + _) (bs (hoA js as i) + _) = _
  rw [hoA_at e ej]
theorem job_in {hs : List Str} {js : List WJ} {as : List WA} {bs : Str → Int} {i : Nat} {j : WJ} (e : js[i]? = some j) : Bk (wRows hs js as bs) "job" (.job j.h (rkJ js i : Nat) (bs j.h + j.b) (bs j.h + j.e)) := by
  refine ⟨List.mem_append_left _ (List.mem_append_left _ (List.mem_map.mpr ⟨i, List.mem_range.mpr (List.getElem?_eq_some_iff.mp e).1, ?_⟩)), rfl⟩
  unfold jobRow
  rw [e]
/-! the times of a world's rows lie at their house's base and up to 400 on -/
def InB (bs : Str → Int) : Row → Prop
  | .ask h _ _ _ o b => bs h ≤ o ∧ o ≤ b ∧ b ≤ bs h + 400
  | .job h _ o b => bs h ≤ o ∧ o ≤ b ∧ b ≤ bs h + 400
  | .all _ _ _ => True
theorem w_inb {hs : List Str} {js : List WJ} {as : List WA} {bs : Str → Int} (w : WOk hs js as) {r : Row} (m : r ∈ wRows hs js as bs) : InB bs r := by
  have jb : ∀ {i : Nat} {j : WJ}, js[i]? = some j → j.h ∈ hs ∧ 0 ≤ j.b ∧ j.b ≤ j.e ∧ j.e ≤ 400 := fun e => w.jb _ (List.mem_of_getElem? e)
  have ab : ∀ {i : Nat} {x : WA} {j : WJ}, as[i]? = some x → js[x.pl]? = some j → x.g ∈ hs ∧ j.b < x.o ∧ x.o ≤ x.k ∧ x.k < j.e := fun {i x j} e ej => by
    have a := w.ab x (List.mem_of_getElem? e)
    obtain ⟨j', ej', h1, h2, h3⟩ := a.par
    rw [Nat.sub_zero] at ej'
    obtain rfl := Option.some.inj (ej.symm.trans ej')
    exact ⟨a.g, h1, h2, h3⟩
  cases wrow_of w m with
  | job i j e =>
    obtain ⟨h1, h2, h3, h4⟩ := jb e
    exact ⟨by omega, by omega, by omega⟩
  | ask i x j e ej =>
    obtain ⟨h1, h2, h3, h4⟩ := jb ej
    obtain ⟨g1, g2, g3, g4⟩ := ab e ej
    exact ⟨by omega, by omega, by omega⟩
  | all h mh => trivial
/-! ### a book whose houses' clocks are off, and the pairs that were -/
structure TrB (bs : Str → Int) (rs : List Row) (p : PrK) : Prop where
  ex : ∃ r q, rowOf rs "ask" p.1 = some r ∧ rowOf rs "job" p.2 = some q ∧ q.h = r.g ∧ r.x5 - bs r.h ≤ q.x3 - bs q.h ∧ q.x4 - bs q.h ≤ r.x6 - bs r.h
theorem TrB.kn {bs : Str → Int} {rs : List Row} {p : PrK} (h : TrB bs rs p) : Kn rs p := by
  obtain ⟨r, q, h1, h2, h3, _⟩ := h.ex
  exact ⟨r, q, h1, h2, h3⟩
theorem was_tr {hs : List Str} {js : List WJ} {as : List WA} {bs : Str → Int} {rs : List Row} {p : PrK} (w : WOk hs js as) (BW : Book hs (wRows hs js as bs)) (sub : ∀ r ∈ rs, r ∈ wRows hs js as bs) (h : WasP js as rs p) : TrB bs rs p := by
  obtain ⟨⟨i, x, e, rfl⟩, ⟨r, hr, kr⟩, ⟨q, hq, kq⟩⟩ := h
  have ax := w.ab x (List.mem_of_getElem? e)
  obtain ⟨j, ej, p1, p2, p3⟩ := ax.par
  obtain ⟨c1, c2, k, ek, k1, k2, k3⟩ := ax.ch
  rw [Nat.sub_zero] at ej ek
  have mj := w.jb j (List.mem_of_getElem? ej)
  have mk := w.jb k (List.mem_of_getElem? ek)
  have er : r = .ask j.h x.g (rkA js as i : Nat) (rkJ js x.pl : Nat) (bs j.h + x.o) (bs j.h + x.k) := by
    refine BW.uniq (.inl rfl) r _ ⟨sub r hr.1, hr.2⟩ (ask_in e ej) ?_
    rw [kr]
    show (hoA js as i, _) = _
    rw [hoA_at e ej]
    rfl
  have eq : q = .job k.h (rkJ js x.ch : Nat) (bs k.h + k.b) (bs k.h + k.e) := by
    refine BW.uniq (.inr rfl) q _ ⟨sub q hq.1, hq.2⟩ (job_in ek) ?_
    rw [kq]
    show (hoJ js x.ch, _) = _
    rw [hoJ_at ek]
    rfl
  have B : Book hs rs := BW.sub sub
  refine ⟨r, q, ?_, ?_, ?_, ?_, ?_⟩
  · rw [← kr]
    exact rowOf_is (B.uniq (.inl rfl)) hr
  · rw [← kq]
    exact rowOf_is (B.uniq (.inr rfl)) hq
  · rw [er, eq]
    exact k1
  · rw [er, eq]
    show bs j.h + x.o - bs j.h ≤ bs k.h + k.b - bs k.h
    omega
  · rw [er, eq]
    show bs k.h + k.e - bs k.h ≤ bs j.h + x.k - bs j.h
    omega
structure ClkAt (H : Hp) (p t l d L : Addr) (hs gs : List Str) (xs us : List V) (rws : List Row) (bs : Str → Int) (kB : List (Key × V)) (ps : List PrK) : Prop where
  hand : Hand H t l hs gs xs rws
  few : rws.length ≤ 40
  hou : ∀ h ∈ hs, HouseS h
  one : 1 ≤ hs.length
  bas : H d = some (.dK kB)
  basd : BasD hs bs kB
  lst : H L = some (.lst us)
  prs : Pks H us ps
  tru : ∀ p ∈ ps, TrB bs rws p
  len : ps.length ≤ 14
  lp : l ≠ p
  Lp : L ≠ p
def sp_clock : Sp := fun vs H Q _ => ∃ (p c : Addr) (houses most : Nat), vs = [.ref p, .int houses, .int most] ∧ Pen H p c ∧ 1 ≤ houses ∧ houses ≤ 6 ∧ most ≤ 14 ∧
  ∀ (Tp t l d L : Addr) (hs gs : List Str) (xs us : List V) (rws : List Row) (bs : Str → Int) (kB : List (Key × V)) (ps : List PrK) (H' : Hp), Stp p c H H' → H' Tp = some (.tup [.ref t, .ref l, .ref d, .ref L]) → ClkAt H' p t l d L hs gs xs us rws bs kB ps → hs.length ≤ houses → (∃ b0 : Int, ∀ h ∈ hs, b0 ≤ bs h ∧ bs h < b0 + 60) → (∀ r ∈ rws, InB bs r) → Q (.ref Tp) H'
theorem ok_l_clock_book (T : Txt K mg af fd) : FnOk P w K mg base CX0 9 (af 54) (fd 54) ["pen", "houses", "most"] sp_clock := by
  refine T.F_l_clock_book.ok sc_l_clock_book (fun vs H Q E h => ?_) (fun cdv A outer s H vs Q E hr h => ?_)
  · obtain ⟨p, c, houses, most, rfl, _⟩ := h
    rfl
  · obtain ⟨p, c, houses, most, rfl, hP, m1, m6, m14, q⟩ := h
    refine ⟨_, (pss_cons (ps_set (i := 3) sc_l_clock_book.nd rfl (by first | exact Or.inl rfl | exact Or.inr rfl) (pe_call (ok_l_gated T) (hr.mono (by first | decide | omega)) (by rfl) T.g_l_gated T.F_l_gated.kp T.b_l_gated .nil pass0 (pa_cons (pv 0) (pa_cons (pv 1) pa_nil))))
        (pss_cons (ps_set (i := 4) sc_l_clock_book.nd rfl (by first | exact Or.inl rfl | exact Or.inr rfl) (pe_call (ok_l_world T) (hr.mono (by first | decide | omega)) (by rfl) T.g_l_world T.F_l_world.kp T.b_l_world .nil pass0 (pa_cons (pv 0) (pa_cons (pv 3) (pa_cons pe_int (pa_cons pe_int (pa_cons (pv 2) (pa_cons pe_int pa_nil))))))))
        (pss_cons (ps_set (i := 5) sc_l_clock_book.nd rfl (by first | exact Or.inl rfl | exact Or.inr rfl) (pe_call (ok_l_bases T) (hr.mono (by first | decide | omega)) (by rfl) T.g_l_bases T.F_l_bases.kp T.b_l_bases .nil pass0 (pa_cons (pv 0) (pa_cons (pv 3) (pa_cons pe_int pa_nil)))))
        (pss_cons (ps_set (i := 6) sc_l_clock_book.nd rfl (by first | exact Or.inl rfl | exact Or.inr rfl) (pe_call (ok_l_left T) (hr.mono (by first | decide | omega)) (by rfl) T.g_l_left T.F_l_left.kp T.b_l_left .nil pass0 (pa_cons (pv 0) (pa_cons (pe_call (ok_l_all_rows T) (hr.mono (by first | decide | omega)) (by rfl) T.g_l_all_rows T.F_l_all_rows.kp T.b_l_all_rows .nil pass0 (pa_cons (pv 3) (pa_cons (pv 4) (pa_cons (pv 5) pa_nil)))) (pa_cons pe_int pa_nil)))))
        (pss_one (ps_ret (pe_tup (pa_cons (pv 3) (pa_cons (pv 6) (pa_cons (pv 5) (pa_cons (pe_call (ok_l_true_pairs T) (hr.mono (by first | decide | omega)) (by rfl) T.g_l_true_pairs T.F_l_true_pairs.kp T.b_l_true_pairs .nil pass0 (pa_cons (pv 3) (pa_cons (pv 4) (pa_cons (pv 6) pa_nil)))) pa_nil))))))))))), ?_⟩
    refine ⟨_, rfl, _, rfl, p, c, houses, rfl, hP, m1, m6, fun t hs gs H2 s2 ht hg => ?_⟩
    have P2 := s2.1
    have l6 : hs.length ≤ 6 := Nat.le_trans hg.few m6
    have hok : ∀ h ∈ hs, PyData.strOk h = true := fun h m => (hg.hou h m).ok
    refine ⟨_, rfl, _, rfl, _, rfl, p, c, t, hs, gs, 3, most, 0, rfl, P2, ht, hg.one, l6, hg.sub, hg.hou, by decide, by decide, by omega, by omega, fun w lj la rs qs js as H5 s5 nw W ap wok lm => ?_⟩
    have P5 := s5.1
    have ht5 := s5.town P2 ht
    have lena : as.length ≤ js.length := wok.len
    refine ⟨_, rfl, _, rfl, p, c, t, hs, gs, 60, rfl, P5, ht5, l6, by decide, by decide, fun d bs kB H7 s7 nd hd hbd heq => ?_⟩
    have P7 := s7.1
    have ht7 := s7.town P5 ht5
    have W7 := W.stp P5 s7 ap
    refine ⟨_, rfl, _, rfl, _, rfl, _, rfl, t, w, d, lj, la, hs, gs, rs, qs, js, as, most, bs, kB, rfl, ht7, W7, wok, by omega, l6, hd, hbd, fun l0 us H8 s8 nl0 hl0 hrw => ?_⟩
    have BW := world_book (bs := bs) wok (fun h m => (hbd h m).2) hok
    have lw : (wRows hs js as bs).length ≤ 34 := by
      unfold wRows
      rw [List.length_append, List.length_append, List.length_map, List.length_range, List.length_map, List.length_range, List.length_map]
      omega
    have th : ∀ r ∈ wRows hs js as bs, Th 3 3000 (rowD r) := fun r m => (th_tup (row_th hg.hou (BW.wf r m) (BW.inn r m)) (row_len7 r).2).mono (by decide) (by decide)
    have P8 := P7.sm s8
    have nlp8 : l0 ≠ p := fun e => P7.neP nl0 e.symm
    refine ⟨p, c, l0, 2, us, (wRows hs js as bs).map rowD, rfl, P8, nlp8, hl0, dqs_rows hrw, (fun x m => ?_), (fun x m => ?_), by decide, by decide, (by rw [List.length_map]; omega), fun l ys es H9 s9 nl hl dq9 sub9 len9 => ?_⟩
    · obtain ⟨r, mr, rfl⟩ := List.mem_map.mp m
      exact th r mr
    · obtain ⟨r, mr, rfl⟩ := List.mem_map.mp m
      exact ⟨r, rfl, BW.wf r mr⟩
    obtain ⟨rws, rfl, hsub⟩ := rows_of (P := fun r => r ∈ wRows hs js as bs) (ds := es) fun x m => by
      obtain ⟨r, mr, rfl⟩ := List.mem_map.mp (sub9 x m)
      exact ⟨r, rfl, mr⟩
    rw [List.length_map, List.length_map] at len9
    have st8 : Stp p c H7 H8 := ⟨P8, fun b o _ e => s8 b o e⟩
    have st79 := st8.trans s9
    have P9 := s9.1
    have ht9 := st79.town P7 ht7
    have W9 := W7.stp P7 st79 ap
    have Br : Book hs rws := BW.sub hsub
    have hd9 : Hand H9 t l hs gs ys rws := ⟨ht9, hg.up, hg.nd, hok, l6, hl, rws_of dq9, Br, (fun x m => by obtain ⟨r, mr, rfl⟩ := List.mem_map.mp m; exact th r (hsub r mr)), by omega⟩
    obtain ⟨pcs, pn, pst, pp1, _⟩ := P7
    have hdd : H9 d = some (.dK kB) := st79.2 _ _ (ne_of hd pp1 (fun z => nomatch z)) hd
    have nlp : l ≠ p := fun e => P8.neP nl e.symm
    refine ⟨_, rfl, _, rfl, _, rfl, _, rfl, _, rfl, _, rfl, t, w, l, lj, la, hs, gs, rs, qs, js, as, most, ys, rws, rfl, ht9, W9, wok, by omega, l6, hok, hl, hd9.rows, by omega, Br, fun L us2 ps H10 s10 nL hL pk hw hlen => ?_⟩
    have P10 := P9.sm s10
    refine ⟨(by show 4 ≤ sizeLine; decide), fun Tp nT => ?_⟩
    have sT : Same H10 (upd H10 Tp (.tup [.ref t, .ref l, .ref d, .ref L])) := same_upd nT
    have s911 := s10.trans sT
    have nLp : L ≠ p := fun e => P9.neP nL e.symm
    have st9 : Stp p c H9 (upd H10 Tp (.tup [.ref t, .ref l, .ref d, .ref L])) := ⟨P9.sm s911, fun b o _ e => s911 b o e⟩
    exact q Tp t l d L hs gs ys us2 rws bs kB ps _ ((((s2.trans s5).trans s7).trans st79).trans st9) upd_same ⟨hd9.same s911, by omega, hg.hou, hg.one, s911 _ _ hdd, hbd, sT _ _ hL, pk.same sT, fun p m => was_tr wok BW hsub (hw p m), by omega, nlp, nLp⟩ hg.few heq (fun r m => w_inb wok (hsub r m))
/-! a list comprehension over a list: what is true of each thing that is taken -/
theorem lc_some {l D : Addr} {xs : List V} {σ : L2.St} {i : Nat} {tt : TT} {te : TE} {H0 : Hp} {Qd : Hp → Prop} (C : Hp → V → Prop) (hl : H0 l = some (.lst xs)) (lx : xs.length ≤ 1000000) (nD : H0 D = none)
    (mono : ∀ H H' v, (∀ b ys, H b = some (.tup ys) → H' b = some (.tup ys)) → C H v → C H' v)
    (hte : ∀ v H2 (Ke : V → Hp → Prop) (Kn : Hp → Prop), v ∈ xs → Same H0 H2 → (∀ y H3, Same H2 H3 → C H3 y → Ke y H3) → Kn H2 → tt ((wipe σ [i]).set i (some v)) H2 fun b H3 => if b = true then te ((wipe σ [i]).set i (some v)) H3 Ke else Kn H3)
    (hq : ∀ (us : List V) (H' : Hp), Same H0 H' → H' D = some (.lst us) → us.length ≤ xs.length → (∀ v ∈ us, C H' v) → Qd H') :
    ∃ W : Nat → Nat → Hp → Prop, (∃ m, W 0 m (upd H0 D (.lst []))) ∧ ∀ k m H, W k m H →
      ((Itl K l).stop k H ∧ Qd H) ∨ ((Itl K l).go k H ∧ ∃ Nx : Hp → Prop, (∀ H', Nx H' → ∃ m', m' < m ∧ W (k + 1) m' H') ∧ ∀ x H', (Itl K l).yld k H x H' → gName i x (wipe σ [i]) H' fun σ2 H2 => wipe σ2 [i] = wipe σ [i] ∧ tt σ2 H2 fun b H3 =>
        if b = true then te σ2 H3 fun y H4 => ∃ acc, H4 D = some (.lst acc) ∧ acc.length < sizeLine ∧ Nx (upd H4 D (.lst (acc ++ [y]))) else Nx H3) := by
  refine lc_it (walk_list (K := K) (a := l) (xs := xs)) (g := gName i) (fun k H' => Same H0 H' ∧ ∃ us, us.length ≤ k ∧ H' D = some (.lst us) ∧ ∀ v ∈ us, C H' v)
    ⟨same_upd nD, [], Nat.le_refl _, upd_same, fun v m => nomatch m⟩ (fun k H' _ h => SqL.of (h.1 _ _ hl)) ?_ ?_
  · rintro k v G1 G2 hk ⟨g, us, hu, hD, hc⟩ ⟨rfl, ev⟩
    refine ⟨wipe_one σ i _, hte v G2 _ _ (List.mem_of_getElem? ev) g (fun y G3 s3 hy => ?_) ⟨g, us, by omega, hD, hc⟩⟩
    have hD3 := s3 _ _ hD
    have keep : ∀ b ys, G3 b = some (.tup ys) → (upd G3 D (.lst (us ++ [y]))) b = some (.tup ys) := fun b ys e => by rw [upd_ne (ne_of e hD3 (fun z => nomatch z))]; exact e
    refine ⟨us, hD3, Nat.lt_of_le_of_lt (show us.length ≤ 1000000 by omega) (by decide), same_mut (g.trans s3) nD, us ++ [y], by rw [List.length_append]; show us.length + 1 ≤ k + 1; omega, upd_same, fun z m => ?_⟩
    rcases List.mem_append.mp m with m | m
    · exact mono _ _ _ (fun b ys e => keep b ys (s3 _ _ e)) (hc z m)
    · rw [List.mem_singleton.mp m]
      exact mono _ _ _ keep hy
  · rintro H1 ⟨g, us, hu, hD, hc⟩
    exact hq us H1 g hD hu hc
/-! ### some pairs -/
def prD (p : PrK) : PyData := .tuple [hkD p.1, hkD p.2]
theorem prs_sh {ps : List PrK} (h : ∀ p ∈ ps, PyData.strOk p.1.1 = true ∧ PyData.strOk p.2.1 = true) : Sh (.list (ps.map prD)) := by
  refine ⟨?_, ?_⟩
  · show PyData.canLayAll0 (ps.map prD) = true
    induction ps with
    | nil => rfl
    | cons k ks ih =>
      show ((prD k).canLay0 && PyData.canLayAll0 (ks.map prD)) = true
      rw [ih fun x m => h x (List.mem_cons_of_mem _ m)]
      show (((PyData.strOk k.1.1 && (true && true)) && ((PyData.strOk k.2.1 && (true && true)) && true)) && true) = true
      rw [(h k List.mem_cons_self).1, (h k List.mem_cons_self).2]
      rfl
  · have : PyData.depthAll (ps.map prD) ≤ 2 := by
      induction ps with
      | nil => exact Nat.zero_le _
      | cons k ks ih =>
        have := ih fun x m => h x (List.mem_cons_of_mem _ m)
        show max (prD k).depth (PyData.depthAll (ks.map prD)) ≤ 2
        have e : (prD k).depth = 2 := rfl
        omega
    show PyData.depthAll (ps.map prD) + 1 ≤ 60
    omega
theorem Pks.dqs {Ex : Addr → Prop} {H : Hp} : ∀ {us : List V} {ps : List PrK}, Pks H us ps → Dqs Ex H us (ps.map prD)
  | [], [], _ => .nil
  | [], _ :: _, h => nomatch h.1
  | _ :: _, [], h => nomatch h.1
  | v :: us, p :: ps, h => by
    obtain ⟨b, x, y, e, h1, h2, h3⟩ := h.2 0 p rfl
    obtain rfl : v = .ref b := Option.some.inj e
    exact .cons (.tup h1 (.cons (.tup h2 (.cons (.str _) (.cons (.int _) .nil))) (.cons (.tup h3 (.cons (.str _) (.cons (.int _) .nil))) .nil))) (Pks.dqs ⟨Nat.succ.inj h.1, fun i t e => h.2 (i + 1) t e⟩)
theorem pks_of {H : Hp} {C : PrK → Prop} : ∀ {us : List V}, (∀ v ∈ us, ∃ p, Nt.AtP H v p ∧ C p) → ∃ ps, Pks H us ps ∧ ∀ p ∈ ps, C p
  | [], _ => ⟨[], Pks.nil, fun p m => nomatch m⟩
  | v :: us, h => by
    obtain ⟨ps, h1, h2⟩ := pks_of (us := us) fun x m => h x (List.mem_cons_of_mem _ m)
    obtain ⟨p, ⟨b, x, y, rfl, e1, e2, e3⟩, hp⟩ := h v List.mem_cons_self
    refine ⟨p :: ps, ⟨by rw [List.length_cons, List.length_cons, h1.1], fun i t e => ?_⟩, fun t m => ?_⟩
    · cases i with
      | zero => cases e; exact ⟨b, x, y, rfl, e1, e2, e3⟩
      | succ i => exact h1.2 i t e
    · rcases List.mem_cons.mp m with rfl | m
      · exact hp
      · exact h2 t m
theorem pks_at {H : Hp} {us : List V} {ps : List PrK} (h : Pks H us ps) {v : V} (m : v ∈ us) : ∃ p ∈ ps, Nt.AtP H v p := by
  obtain ⟨i, hi⟩ := List.getElem?_of_mem m
  have hip : i < ps.length := by rw [← h.1]; exact (List.getElem?_eq_some_iff.mp hi).1
  have ep : ps[i]? = some ps[i] := List.getElem?_eq_getElem hip
  obtain ⟨b, x, y, e1, e2, e3, e4⟩ := h.2 i _ ep
  obtain rfl : V.ref b = v := Option.some.inj (e1.symm.trans hi)
  exact ⟨ps[i], List.mem_of_getElem? ep, b, x, y, rfl, e2, e3, e4⟩
theorem atp_go {H H' : Hp} {v : V} {p : PrK} (h : Nt.AtP H v p) (s : ∀ b ys, H b = some (.tup ys) → H' b = some (.tup ys)) : Nt.AtP H' v p := by
  obtain ⟨b, x, y, e, e1, e2, e3⟩ := h
  exact ⟨b, x, y, e, s _ _ e1, s _ _ e2, s _ _ e3⟩
theorem kn_ok {hs : List Str} {rs : List Row} (B : Book hs rs) (ok : ∀ h ∈ hs, PyData.strOk h = true) {p : PrK} (h : Kn rs p) : PyData.strOk p.1.1 = true ∧ PyData.strOk p.2.1 = true := by
  obtain ⟨r, q, h1, h2, _⟩ := h
  obtain ⟨a1, a2⟩ := rowOf_some h1
  obtain ⟨b1, b2⟩ := rowOf_some h2
  rw [← a2, ← b2]
  exact ⟨ok _ (book_h B a1.1), ok _ (book_h B b1.1)⟩
def IsA (rs : List Row) (H : Hp) (v : V) : Prop := ∃ (a : Addr) (r : Row), v = .ref a ∧ H a = some (.tup r.vals) ∧ Bk rs "ask" r
def IsJ (rs : List Row) (H : Hp) (v : V) : Prop := ∃ (b : Addr) (q : Row), v = .ref b ∧ H b = some (.tup ((Gr.keyOf q.key).map kV)) ∧ Bk rs "job" q
def IsP (rs : List Row) (H : Hp) (v : V) : Prop := ∃ p, Nt.AtP H v p ∧ Kn rs p
theorem IsA.go {rs : List Row} {H H' : Hp} {v : V} (s : ∀ b ys, H b = some (.tup ys) → H' b = some (.tup ys)) : IsA rs H v → IsA rs H' v := fun ⟨a, r, e, e1, e2⟩ => ⟨a, r, e, s _ _ e1, e2⟩
theorem IsJ.go {rs : List Row} {H H' : Hp} {v : V} (s : ∀ b ys, H b = some (.tup ys) → H' b = some (.tup ys)) : IsJ rs H v → IsJ rs H' v := fun ⟨a, r, e, e1, e2⟩ => ⟨a, r, e, s _ _ e1, e2⟩
theorem IsP.go {rs : List Row} {H H' : Hp} {v : V} (s : ∀ b ys, H b = some (.tup ys) → H' b = some (.tup ys)) : IsP rs H v → IsP rs H' v := fun ⟨p, e, h⟩ => ⟨p, atp_go e s, h⟩
def sp_some_pairs : Sp := fun vs H Q _ => ∃ (p c l L : Addr) (wrong : Int) (hs : List Str) (xs us : List V) (rs : List Row) (ps : List PrK), vs = [.ref p, .ref l, .ref L, .int wrong] ∧ Pen H p c ∧ H l = some (.lst xs) ∧ l ≠ p ∧ Rws H xs rs ∧ rs.length ≤ 200 ∧ Book hs rs ∧ (∀ h ∈ hs, PyData.strOk h = true) ∧ H L = some (.lst us) ∧ L ≠ p ∧ Pks H us ps ∧ ps.length ≤ 1000 ∧ (∀ p ∈ ps, Kn rs p) ∧
  ∀ (F : Addr) (ws : List V) (qs : List PrK) (H' : Hp), Stp p c H H' → H F = none → H' F = some (.lst ws) → Pks H' ws qs → (∀ p ∈ qs, Kn rs p) → qs.length ≤ 10 → Q (.ref F) H'
theorem ok_l_some_pairs (T : Txt K mg af fd) : FnOk P w K mg base CX0 3 (af 55) (fd 55) ["pen", "rows", "true_pairs", "wrong"] sp_some_pairs := by
  refine T.F_l_some_pairs.ok sc_l_some_pairs (fun vs H Q E h => ?_) (fun cdv A outer s H vs Q E hr h => ?_)
  · obtain ⟨p, c, l, L, wrong, hs, xs, us, rs, ps, rfl, _⟩ := h
    rfl
  · obtain ⟨p, c, l, L, wrong, hs, xs, us, rs, ps, rfl, hP, hl, lp, hrw, hrl, B, ok, hL, Lp, pk, hlen, hk, q⟩ := h
    refine ⟨_, (pss_cons (ps_setLc (i := 4) (own := [("row", 5)]) (g := gName 5) (by rfl) sc_l_some_pairs.nd rfl rfl (sw_true rfl rfl rfl (by decide +kernel)) (pi_list (pv 1)) (blkOk_by (own := [("row", 5)]) (N := ["pen", "rows", "true_pairs", "wrong", "asks", "row", "jobs", "others", "ask", "job", "found", "k", "some"]) (sc := defScope s_l_some_pairs) (by decide +kernel)) (fun _ _ _ _ _ => pg_name (i := 5) sc_l_some_pairs.nd rfl (Or.inl rfl)) (fun _ _ _ _ _ => (pts_one (pt_cmpR op_eq (pe_ix (show IxR _ (rIxT K) from ix_tup) (pv 5) pe_int (fun _ _ => rfl)) pe_str (nomark _)))) (fun _ _ _ _ _ => (pv 5)))
        (pss_cons (ps_setLc (i := 6) (own := [("row", 5)]) (g := gName 5) (by rfl) sc_l_some_pairs.nd rfl rfl (sw_true rfl rfl rfl (by decide +kernel)) (pi_list (pv 1)) (blkOk_by (own := [("row", 5)]) (N := ["pen", "rows", "true_pairs", "wrong", "asks", "row", "jobs", "others", "ask", "job", "found", "k", "some"]) (sc := defScope s_l_some_pairs) (by decide +kernel)) (fun _ _ _ _ _ => pg_name (i := 5) sc_l_some_pairs.nd rfl (Or.inl rfl)) (fun _ _ _ _ _ => (pts_one (pt_cmpR op_eq (pe_ix (show IxR _ (rIxT K) from ix_tup) (pv 5) pe_int (fun _ _ => rfl)) pe_str (nomark _)))) (fun _ _ _ _ _ => (pe_slice (show SlR _ (rSlT K) from sl_tup) (pv 5) (po_some pe_int) (po_some pe_int))))
        (pss_cons (ps_set (i := 7) sc_l_some_pairs.nd rfl (by first | exact Or.inl rfl | exact Or.inr rfl) (pe_lst pa_nil))
        (pss_cons (ps_for PassesOwn.never rfl (pi_list (pv 4)) (pg_name (i := 8) sc_l_some_pairs.nd rfl (by first | exact Or.inl rfl | exact Or.inr rfl)) (pss_one (ps_set (i := 7) sc_l_some_pairs.nd rfl (by first | exact Or.inl rfl | exact Or.inr rfl) (pe_op op_cat (pv 7) (pe_lc (own := [("job", 9)]) (g := gName 9) (by rfl) sc_l_some_pairs.nd (pi_list (pv 6)) (blkOk_by (own := [("job", 9)]) (N := ["pen", "rows", "true_pairs", "wrong", "asks", "row", "jobs", "others", "ask", "job", "found", "k", "some"]) (sc := defScope s_l_some_pairs) (by decide +kernel)) (fun _ _ _ _ _ => pg_name (i := 9) sc_l_some_pairs.nd rfl (Or.inl rfl)) (fun _ _ _ _ _ => (pts_one (pt_cmpR op_eq (pe_ix (show IxR _ (rIxT K) from ix_tup) (pv 9) pe_int (fun _ _ => rfl)) (pe_ix (show IxR _ (rIxT K) from ix_tup) (pv 8) pe_int (fun _ _ => rfl)) (nomark _)))) (fun _ _ _ _ _ => (pe_tup (pa_cons (pe_slice (show SlR _ (rSlT K) from sl_tup) (pv 8) (po_some pe_int) (po_some pe_int)) (pa_cons (pv 9) pa_nil)))))))))
        (pss_cons (ps_set (i := 10) sc_l_some_pairs.nd rfl (by first | exact Or.inl rfl | exact Or.inr rfl) (pe_lst pa_nil))
        (pss_cons (ps_for PassesOwn.never rfl (pi_range1 (by rfl) T.m_range (pa_cons (pe_call (ok_l_take T) (hr.mono (by first | decide | omega)) (by rfl) T.g_l_take T.F_l_take.kp T.b_l_take .nil pass0 (pa_cons (pv 0) (pa_cons pe_int pa_nil))) pa_nil)) (pg_name (i := 11) sc_l_some_pairs.nd rfl (by first | exact Or.inl rfl | exact Or.inr rfl)) (pss_cons (ps_set (i := 12) sc_l_some_pairs.nd rfl (by first | exact Or.inl rfl | exact Or.inr rfl) (pv 2))
        (C8.pss_cut (ps_if (PW.pt (pw_or (pt_cmpR (op_eqD hr.units) (pv 2) (pe_lst pa_nil) (nomark _)) (pw_or1 (pt_cmpR op_lt (pe_call (ok_l_take T) (hr.mono (by first | decide | omega)) (by rfl) T.g_l_take T.F_l_take.kp T.b_l_take .nil pass0 (pa_cons (pv 0) (pa_cons pe_int pa_nil))) (pv 3) (nomark _))))) (pss_one (ps_set (i := 12) sc_l_some_pairs.nd rfl (by first | exact Or.inl rfl | exact Or.inr rfl) (pv 7))) pss_nil)
        (pss_one (ps_if (pt_cmpR (op_neD hr.units) (pv 12) (pe_lst pa_nil) (nomark _)) (pss_one (ps_expr (pe_bm PySem.F.plainAttrs_list PySem.F.slot_list_append PySem.F.type_list_append mt_append (pv 10) (pa_cons (pe_ix ix_list (pv 12) (pe_call (ok_l_take T) (hr.mono (by first | decide | omega)) (by rfl) T.g_l_take T.F_l_take.kp T.b_l_take .nil pass0 (pa_cons (pv 0) (pa_cons (pe_callB call_len_seq (by rfl) T.m_len (by decide +kernel) (pa_cons (pv 12) pa_nil)) pa_nil))) (fun _ _ => rfl)) pa_nil)))) pss_nil)))))
        (pss_one (ps_ret (pv 10))))))))), ?_⟩
    have rat : ∀ v ∈ xs, ∃ a r, v = .ref a ∧ H a = some (.tup r.vals) ∧ r ∈ rs := fun v m => by
      obtain ⟨i, hi⟩ := List.getElem?_of_mem m
      have hir : i < rs.length := by rw [← hrw.1]; exact (List.getElem?_eq_some_iff.mp hi).1
      have er : rs[i]? = some rs[i] := List.getElem?_eq_getElem hir
      obtain ⟨a, e1, e2⟩ := hrw.2 i _ er
      exact ⟨a, _, Option.some.inj (hi.symm.trans e1), e2, List.mem_of_getElem? er⟩
    refine ⟨_, rfl, l, rfl, ⟨_, SqL.of hl⟩, fun D1 nD1 => ?_⟩
    refine lc_some (IsA rs) hl (by rw [hrw.1]; omega) nD1 (fun _ _ _ => IsA.go) (fun v H2 Ke Kn m s2 ke kn => ?_) (fun ua H1 s1 hD1 lua hua => ?_)
    · obtain ⟨a, r, rfl, ha, mr⟩ := rat v m
      refine ⟨_, rfl, a, _, 0, _, rfl, rfl, SqT.of (s2 _ _ ha), at0 r, rfl, _, rfl, ite2 (fun e1 => ?_) (fun _ => kn)⟩
      exact ⟨_, rfl, ke _ H2 (Same.refl H2) ⟨a, r, rfl, s2 _ _ ha, mr, by simpa using e1⟩⟩
    refine ⟨_, rfl, l, rfl, ⟨_, SqL.of (s1 _ _ hl)⟩, fun D2 nD2 => ?_⟩
    refine lc_some (IsJ rs) (s1 _ _ hl) (by rw [hrw.1]; omega) nD2 (fun _ _ _ => IsJ.go) (fun v H2 Ke Kn m s2 ke kn => ?_) (fun uj H2 s2 hD2 luj huj => ?_)
    · obtain ⟨a, r, rfl, ha, mr⟩ := rat v m
      have ha := s2 _ _ (s1 _ _ ha)
      refine ⟨_, rfl, a, _, 0, _, rfl, rfl, SqT.of ha, at0 r, rfl, _, rfl, ite2 (fun e1 => ?_) (fun _ => kn)⟩
      refine ⟨_, rfl, ?_⟩
      refine ⟨1, rfl, 3, rfl, a, _, rfl, SqT.of ha, nw13 r, fun b nb => ?_⟩
      rw [cut13]
      exact ke _ _ (same_upd nb) ⟨b, r, rfl, upd_same, mr, by simpa using e1⟩
    have s12 := s1.trans s2
    refine ⟨Nat.zero_le _, fun O0 nO0 => ?_⟩
    have s3 : Same H2 (upd H2 O0 (.lst [])) := same_upd nO0
    have hO0 : (upd H2 O0 (.lst [])) O0 = some (.lst []) := upd_same
    generalize upd H2 O0 (.lst []) = H3 at s3 hO0 ⊢
    have s13 := s12.trans s3
    refine ⟨_, rfl, D1, rfl, ⟨_, SqL.of ((s2.trans s3) _ _ hD1)⟩, ?_⟩
    refine for_it (walk_list (K := K) (a := D1) (xs := ua)) (fun i σ H' => (∃ (O : Addr) (v8 v9 : Option V) (ws : List V), σ = [some (.ref p), some (.ref l), some (.ref L), some (.int wrong), some (.ref D1), none, some (.ref D2), some (.ref O), v8, v9, none, none, none] ∧ H O = none ∧ H' O = some (.lst ws) ∧ ws.length ≤ i * uj.length ∧ ∀ v ∈ ws, IsP rs H' v) ∧ Same H2 H')
      ⟨⟨O0, none, none, [], rfl, s12.free nO0, hO0, Nat.zero_le _, fun v m => nomatch m⟩, s3⟩ (fun i σ H' _ h => SqL.of (h.2 _ _ (s2 _ _ hD1))) ?_ ?_
    · rintro i v σ G1 G2 hi ⟨⟨O, v8, v9, ws, rfl, nO, hO, lw, hw⟩, g1⟩ ⟨rfl, hv⟩
      obtain ⟨a, r, rfl, ha, br⟩ := hua v (List.mem_of_getElem? hv)
      have ha := g1 _ _ (s2 _ _ ha)
      refine ⟨_, rfl, _, rfl, D2, rfl, ⟨_, SqL.of (g1 _ _ hD2)⟩, fun D3 nD3 => ?_⟩
      refine lc_some (IsP rs) (g1 _ _ hD2) (by rw [hrw.1] at luj; omega) nD3 (fun _ _ _ => IsP.go) (fun v G3 Ke Kn m s3 ke kn => ?_) (fun un G3 s3 hD3 lun hun => ?_)
      · obtain ⟨b, q, rfl, hb, bq⟩ := huj v m
        have hb := s3 _ _ (g1 _ _ hb)
        have ha := s3 _ _ ha
        refine ⟨_, rfl, b, _, 0, _, rfl, rfl, SqT.of hb, rfl, _, rfl, a, _, 4, _, rfl, rfl, SqT.of ha, at4a br.2, rfl, _, rfl, ite2 (fun e1 => ?_) (fun _ => kn)⟩
        refine ⟨_, rfl, ?_⟩
        refine ⟨1, rfl, 3, rfl, a, _, rfl, SqT.of ha, nw13 r, fun b1 nb1 => ?_⟩
        rw [cut13]
        refine ⟨_, rfl, (by show 2 ≤ sizeLine; decide), fun b2 nb2 => ?_⟩
        refine ke _ _ ((same_upd nb1).trans (same_upd nb2)) ⟨(r.key, q.key), ⟨b2, b1, b, rfl, upd_same, same_upd nb2 _ _ upd_same, same_upd nb2 _ _ (same_upd nb1 _ _ hb)⟩, r, q, rowOf_is (B.uniq (.inl rfl)) br, rowOf_is (B.uniq (.inr rfl)) bq, ?_⟩
        have e1 : V.str q.h = V.str r.g := of_decide_eq_true e1
        exact V.str.inj e1
      have g3 := g1.trans s3
      have hO3 := s3 _ _ hO
      refine ⟨O, D3, ws, un, rfl, rfl, hO3, hD3, ?_, fun O2 nO2 => ?_⟩
      · show ws.length + un.length ≤ sizeLine
        have h1 : i * uj.length ≤ 200 * 200 := Nat.mul_le_mul (by rw [hrw.1] at lua; have : i < ua.length := hi; omega) (by rw [hrw.1] at luj; omega)
        have h2 : (60000 : Nat) ≤ sizeLine := by decide
        rw [hrw.1] at luj
        omega
      have s4 := same_upd (o := .lst (ws ++ un)) nO2
      refine ⟨⟨O2, _, _, ws ++ un, rfl, (s12.trans g3).free nO2, upd_same, ?_, fun v m => ?_⟩, g3.trans s4⟩
      · rw [List.length_append, Nat.succ_mul]
        omega
      · rcases List.mem_append.mp m with m | m
        · exact IsP.go (fun b ys e => s4 _ _ (s3 _ _ e)) (hw v m)
        · exact IsP.go (fun b ys e => s4 _ _ e) (hun v m)
    · rintro σ G1 ⟨⟨O, v8, v9, ow, rfl, nO, hO, lw, hw⟩, g1⟩
      have t1 := s12.trans g1
      have P1 : Pen G1 p c := hP.sm t1
      obtain ⟨os, po, ho⟩ := pks_of hw
      have Op : O ≠ p := fun e => hP.neP nO e.symm
      refine ⟨Nat.zero_le _, fun F nF => ?_⟩
      have Fp : F ≠ p := fun e => P1.neP nF e.symm
      have nFH : H F = none := t1.free nF
      have f1 : Same G1 (upd G1 F (.lst [])) := same_upd nF
      have hF0 : (upd G1 F (.lst [])) F = some (.lst []) := upd_same
      generalize upd G1 F (.lst []) = G2 at f1 hF0 ⊢
      have P2 := P1.sm f1
      refine ⟨_, rfl, p, c, 11, rfl, P2, by decide, by decide, fun m G3 m0 m1 s3 => ?_⟩
      have hF3 := s3.2 _ _ Fp hF0
      refine ⟨_, rfl, by omega, by omega, for_range (lo := 0) (n := m.toNat) (fun i σ H' => (∃ v11 v12 : Option V, σ = [some (.ref p), some (.ref l), some (.ref L), some (.int wrong), some (.ref D1), none, some (.ref D2), some (.ref O), v8, v9, some (.ref F), v11, v12]) ∧ Pen H' p c ∧ (∀ b o, b ≠ p → b ≠ F → G1 b = some o → H' b = some o) ∧ ∃ ws, H' F = some (.lst ws) ∧ ws.length ≤ i ∧ ∀ v ∈ ws, IsP rs H' v)
        ⟨⟨none, none, rfl⟩, s3.1, fun b o n1 _ e => s3.2 _ _ n1 (f1 _ _ e), [], hF3, Nat.le_refl _, fun v m => nomatch m⟩ ?_ ?_⟩
      · rintro i σ G4 hi ⟨⟨v11, v12, rfl⟩, P4, fr, ws, hF4, lw4, hw4⟩
        have tupk : ∀ b ys, G1 b = some (.tup ys) → G4 b = some (.tup ys) := fun b ys e => fr b _ (fun z => by subst z; obtain ⟨_, _, _, h1, _⟩ := P1; rw [e] at h1; cases h1) (fun z => by subst z; rw [nF] at e; cases e) e
        have nLF : L ≠ F := fun z => by subst z; rw [t1 _ _ hL] at nF; cases nF
        have nOF : O ≠ F := fun z => by subst z; rw [hO] at nF; cases nF
        have hL4 := fr _ _ Lp nLF (t1 _ _ hL)
        have hO4 := fr _ _ Op nOF hO
        have pL4 : Pks G4 us ps := (pk.same t1).go tupk
        have pO4 : Pks G4 ow os := po.go tupk
        refine ⟨_, rfl, ?_⟩
        refine ⟨fun σ' H' => ∃ (S : Addr) (su : List V) (sp : List PrK), σ' = [some (.ref p), some (.ref l), some (.ref L), some (.int wrong), some (.ref D1), none, some (.ref D2), some (.ref O), v8, v9, some (.ref F), some (.int (0 + (i : Nat))), some (.ref S)] ∧ Stp p c G4 H' ∧ S ≠ p ∧ H' S = some (.lst su) ∧ Pks H' su sp ∧ (∀ p ∈ sp, Kn rs p) ∧ sp.length ≤ 1000000, ?_, ?_⟩
        · have los : os.length ≤ 1000000 := by
            rw [← po.1]
            have h1 : ua.length * uj.length ≤ 200 * 200 := Nat.mul_le_mul (by rw [hrw.1] at lua; omega) (by rw [hrw.1] at luj; omega)
            omega
          have oth : ∀ G, Stp p c G4 G → ∃ (S : Addr) (su : List V) (sp : List PrK), [some (V.ref p), some (.ref l), some (.ref L), some (.int wrong), some (.ref D1), none, some (.ref D2), some (.ref O), v8, v9, some (.ref F), some (.int (0 + (i : Nat))), some (.ref O)] = [some (V.ref p), some (.ref l), some (.ref L), some (.int wrong), some (.ref D1), none, some (.ref D2), some (.ref O), v8, v9, some (.ref F), some (.int (0 + (i : Nat))), some (.ref S)] ∧ Stp p c G4 G ∧ S ≠ p ∧ G S = some (.lst su) ∧ Pks G su sp ∧ (∀ p ∈ sp, Kn rs p) ∧ sp.length ≤ 1000000 :=
            fun G sG => ⟨O, ow, os, rfl, sG, Op, sG.2 _ _ Op hO4, pO4.go fun b ys e => sG.tup P4 e, ho, los⟩
          refine ⟨_, rfl, Nat.zero_le _, fun e ne => ?_⟩
          have s5 := (Stp.refl P4).new (o := .lst []) P4 ne
          have he : (upd G4 e (.lst [])) e = some (.lst []) := upd_same
          generalize upd G4 e (.lst []) = G5 at s5 he ⊢
          have hL5 := s5.2 _ _ Lp hL4
          have pL5 : Pks G5 us ps := pL4.go fun b ys e => s5.tup P4 e
          refine ⟨.list (ps.map prD), .list [], Dp.lst (SqL.of hL5) (pL5.dqs (Ex := fun _ => False)).dp, Dp.lst (SqL.of he) .nil, (prs_sh fun p m => kn_ok B ok (hk p m)).shaped, rfl, _, rfl, ite2 (fun e1 => iteT ?_) (fun e1 => ?_)⟩
          · exact ⟨_, rfl, oth _ s5⟩
          · refine ⟨_, rfl, p, c, 8, rfl, s5.1, by decide, by decide, fun z G6 z0 z1 s6 => ?_⟩
            refine ⟨_, rfl, _, _, rfl, rfl, _, rfl, ite2 (fun e2 => ?_) (fun e2 => ?_)⟩
            · exact ⟨_, rfl, oth _ (s5.trans s6)⟩
            · have s46 := s5.trans s6
              exact ⟨L, us, ps, rfl, s46, Lp, s46.2 _ _ Lp hL4, pL4.go fun b ys e => s46.tup P4 e, hk, by omega⟩
        · rintro σ' G6 ⟨S, su, sp, rfl, s6, Sp', hS, pS, hkS, lS⟩
          have P6 := s6.1
          have go : ∀ G, Stp p c G4 G → Pen G p c ∧ (∀ b o, b ≠ p → b ≠ F → G1 b = some o → G b = some o) := fun G sG => ⟨sG.1, fun b o n1 n2 e => sG.2 _ _ n1 (fr b o n1 n2 e)⟩
          refine ⟨_, rfl, Nat.zero_le _, fun e ne => ?_⟩
          have s7 := (Stp.refl P6).new (o := .lst []) P6 ne
          have he : (upd G6 e (.lst [])) e = some (.lst []) := upd_same
          generalize upd G6 e (.lst []) = G7 at s7 he ⊢
          have hS7 := s7.2 _ _ Sp' hS
          have pS7 : Pks G7 su sp := pS.go fun b ys e => s7.tup P6 e
          have s47 := s6.trans s7
          refine ⟨.list (sp.map prD), .list [], Dp.lst (SqL.of hS7) (pS7.dqs (Ex := fun _ => False)).dp, Dp.lst (SqL.of he) .nil, (prs_sh fun p m => kn_ok B ok (hkS p m)).shaped, rfl, _, rfl, ite2 (fun e1 => ?_) (fun e1 => ?_)⟩
          · have hF7 := s47.2 _ _ Fp hF4
            have hne : 0 < su.length := by
              rw [pS.1]
              cases sp with
              | nil => exact absurd e1 (by decide)
              | cons x y => exact Nat.succ_pos _
            have lsu : su.length ≤ 1000000 := by rw [pS.1]; exact lS
            refine ⟨_, rfl, .inl ⟨rfl, _, SqL.of hF7⟩, _, rfl, _, rfl, _, rfl, S, _, rfl, .inl (SqL.of hS7), p, c, (su.length : Int), rfl, s7.1, by omega, by omega, fun z G8 z0 z1 s8 => ?_⟩
            have hS8 := s8.2 _ _ Sp' hS7
            obtain ⟨n, rfl⟩ : ∃ n : Nat, z = (n : Int) := ⟨z.toNat, by omega⟩
            have hn : n < su.length := by omega
            have ev : su[n]? = some su[n] := List.getElem?_eq_getElem hn
            generalize su[n] = v at ev
            obtain ⟨pr, mp, av⟩ := pks_at pS (List.mem_of_getElem? ev)
            have s48 := s47.trans s8
            have s68 := s7.trans s8
            have hF8 := s48.2 _ _ Fp hF4
            refine ⟨S, _, _, v, rfl, rfl, SqL.of hS8, (by rw [atI_nat]; exact ev), F, ws, v, rfl, rfl, hF8, small_line (by omega), ⟨_, _, rfl⟩, ?_⟩
            have kF : ∀ b ys, G8 b = some (.tup ys) → (upd G8 F (.lst (ws ++ [v]))) b = some (.tup ys) := fun b ys e => by rw [upd_ne (ne_of e hF8 (fun z => nomatch z))]; exact e
            obtain ⟨g1', g2'⟩ := go _ s48
            refine ⟨g1'.put (fun z => Fp z.symm) (P1.neC nF), fun b o n1 n2 e => by rw [upd_ne n2]; exact g2' b o n1 n2 e, _, upd_same, by rw [List.length_append]; show ws.length + 1 ≤ i + 1; omega, fun y m => ?_⟩
            rcases List.mem_append.mp m with m | m
            · exact IsP.go (fun b ys e => kF _ _ (s48.tup P4 e)) (hw4 y m)
            · rw [List.mem_singleton.mp m]
              exact ⟨pr, atp_go (atp_go av fun b ys e => s68.tup P6 e) kF, hkS pr mp⟩
          · obtain ⟨g1', g2'⟩ := go _ s47
            exact ⟨⟨_, _, rfl⟩, g1', g2', ws, s47.2 _ _ Fp hF4, by omega, fun v m => IsP.go (fun b ys e => s47.tup P4 e) (hw4 v m)⟩
      · rintro σ G4 ⟨⟨v11, v12, rfl⟩, P4, fr, ws, hF4, lw4, hw4⟩
        obtain ⟨qs, pq, hq⟩ := pks_of hw4
        exact ⟨_, rfl, q F ws qs G4 ⟨P4, fun b o nb e => fr b o nb (fun z => by subst z; rw [nFH] at e; cases e) (t1 _ _ e)⟩ nFH hF4 pq hq (by rw [← pq.1]; omega)⟩
theorem Hand.stp {H H' : Hp} {p c t l : Addr} {hs gs : List Str} {xs : List V} {rs : List Row} (h : Hand H t l hs gs xs rs) (hP : Pen H p c) (s : Stp p c H H') (lp : l ≠ p) : Hand H' t l hs gs xs rs :=
  ⟨s.town hP h.town, h.up, h.nd, h.ok, h.h6, s.2 _ _ lp h.lst, h.rows.go fun _ _ e => s.tup hP e, h.book, h.ths, h.len⟩
section
variable {H H' : Hp} {p c t l d L : Addr} {hs gs : List Str} {xs us : List V} {rws : List Row} {bs : Str → Int} {kB : List (Key × V)} {ps : List PrK}
theorem ClkAt.bas_ne (h : ClkAt H p t l d L hs gs xs us rws bs kB ps) (hP : Pen H p c) : d ≠ p := by
  obtain ⟨_, _, _, h1, _⟩ := hP
  exact ne_of h.bas h1 (fun z => nomatch z)
theorem ClkAt.stp (h : ClkAt H p t l d L hs gs xs us rws bs kB ps) (hP : Pen H p c) (s : Stp p c H H') : ClkAt H' p t l d L hs gs xs us rws bs kB ps :=
  ⟨h.hand.stp hP s h.lp, h.few, h.hou, h.one, s.2 _ _ (h.bas_ne hP) h.bas, h.basd, s.2 _ _ h.Lp h.lst, h.prs.go fun _ _ e => s.tup hP e, h.tru, h.len, h.lp, h.Lp⟩
theorem ClkAt.sm (h : ClkAt H p t l d L hs gs xs us rws bs kB ps) (s : Sm H H') : ClkAt H' p t l d L hs gs xs us rws bs kB ps :=
  ⟨⟨h.hand.town.sm s, h.hand.up, h.hand.nd, h.hand.ok, h.hand.h6, s.lst h.hand.lst, h.hand.rows.go fun _ _ e => s.tup e, h.hand.book, h.hand.ths, h.hand.len⟩, h.few, h.hou, h.one, s.dK h.bas, h.basd, s.lst h.lst, h.prs.go fun _ _ e => s.tup e, h.tru, h.len, h.lp, h.Lp⟩
end
theorem val_of_in {κ : Type} [DecidableEq κ] : ∀ {kvs : List (κ × V)} {k : κ} {v : V}, (kvs.map (·.1)).Nodup → (k, v) ∈ kvs → valV kvs k = some v
  | [], _, _, _, m => nomatch m
  | kv :: kvs, k, v, nd, m => by
    have nd' := List.nodup_cons.mp nd
    unfold valV
    rw [List.find?_cons]
    by_cases e : kv.1 = k
    · rcases List.mem_cons.mp m with rfl | m
      · rw [decide_eq_true e]
        rfl
      · exact absurd (List.mem_map.mpr ⟨_, m, rfl⟩) (by rw [← e] ; exact nd'.1)
    · rw [decide_eq_false e]
      rcases List.mem_cons.mp m with rfl | m
      · exact absurd rfl e
      · exact val_of_in nd'.2 m
theorem merge_new : ∀ {more kvs : List (Key × V)}, (more.map (·.1)).Nodup → (∀ x ∈ more, valV kvs x.1 = none) → mergeK kvs more = kvs ++ more
  | [], kvs, _, _ => (List.append_nil kvs).symm
  | x :: more, kvs, nd, h => by
    rw [List.map_cons, List.nodup_cons] at nd
    show mergeK (putK kvs x.1 x.2) more = _
    rw [putK_new _ (h x List.mem_cons_self), merge_new nd.2 fun y m => ?_, List.append_assoc]
    · rfl
    · rw [valV_snoc _ _ _ _ (h x List.mem_cons_self), if_neg]
      · exact h y (List.mem_cons_of_mem _ m)
      · intro e
        exact nd.1 (by rw [← e]; exact List.mem_map.mpr ⟨y, m, rfl⟩)
/-! ### dicts from texts to whole numbers: put, dropped, made of pairs -/
theorem DSh.mem {kvs : List (Key × V)} {ks : List Str} {f : Str → Int} (h : DSh kvs ks f) {k : Str} : (Sum.inr k : Key) ∈ kvs.map (·.1) ↔ k ∈ ks := by
  rw [h.keys]
  constructor
  · intro m
    obtain ⟨x, mx, e⟩ := List.mem_map.mp m
    rw [← Sum.inr.inj e]
    exact mx
  · exact fun m => List.mem_map.mpr ⟨k, m, rfl⟩
theorem DSh.put {kvs : List (Key × V)} {ks : List Str} {f : Str → Int} (h : DSh kvs ks f) (k : Str) (n : Int) (okk : PyData.strOk k = true) (few : ks.length < 63) : DSh (putK kvs (Sum.inr k) (.int n)) (if k ∈ ks then ks else ks ++ [k]) (fun x => if x = k then n else f x) where
  keys := by
    rw [put_keys, h.keys]
    by_cases m : k ∈ ks
    · rw [if_pos m, if_pos (by rw [← h.keys]; exact h.mem.mpr m), List.append_nil]
    · rw [if_neg m, if_neg (by rw [← h.keys]; exact fun z => m (h.mem.mp z)), List.map_append]
      rfl
  val := fun x m => by
    by_cases e : x = k
    · subst e
      rw [if_pos rfl]
      rw [valV_put, if_pos rfl]
    · rw [if_neg e, valV_put, if_neg (fun z => e (Sum.inr.inj z))]
      refine h.val x ?_
      by_cases mk : k ∈ ks
      · rw [if_pos mk] at m
        exact m
      · rw [if_neg mk] at m
        rcases List.mem_append.mp m with m | m
        · exact m
        · exact absurd (List.mem_singleton.mp m) e
  ok := fun x m => by
    by_cases mk : k ∈ ks
    · rw [if_pos mk] at m
      exact h.ok x m
    · rw [if_neg mk] at m
      rcases List.mem_append.mp m with m | m
      · exact h.ok x m
      · rw [List.mem_singleton.mp m]
        exact okk
  few := by
    split
    · omega
    · rw [List.length_append]
      show ks.length + 1 < 64
      omega
  nd := by
    split
    · exact h.nd
    · rename_i n
      refine List.nodup_append.mpr ⟨h.nd, List.nodup_cons.mpr ⟨(fun z => nomatch z), List.nodup_nil⟩, fun a ma b mb e => n ?_⟩
      rw [List.mem_singleton.mp mb] at e
      rw [← e]
      exact ma
theorem val_drop {kvs : List (Key × V)} {k j : Key} (n : j ≠ k) : valV (dropK kvs k) j = valV kvs j := by
  unfold dropK
  induction kvs with
  | nil => rfl
  | cons x l ih =>
    rw [List.filter_cons]
    by_cases c : x.1 = k
    · rw [if_neg (by simp [c]), ih, valV_neg (fun z => n (z.symm.trans c))]
    · rw [if_pos (decide_eq_true c)]
      by_cases e : x.1 = j
      · rw [valV_pos e, valV_pos e]
      · rw [valV_neg e, valV_neg e, ih]
theorem DSh.drop {kvs : List (Key × V)} {ks : List Str} {f : Str → Int} (h : DSh kvs ks f) (k : Str) : DSh (dropK kvs (Sum.inr k)) (ks.filter fun x => decide (x ≠ k)) f where
  keys := by
    unfold dropK
    have : ∀ (l : List (Key × V)) (m : List Str), l.map (·.1) = m.map Sum.inr → (l.filter fun kv => decide (kv.1 ≠ (Sum.inr k : Key))).map (·.1) = (m.filter fun x => decide (x ≠ k)).map Sum.inr := by
      intro l
      induction l with
      | nil =>
        intro m e
        cases m with
        | nil => rfl
        | cons => cases e
      | cons kv l ih =>
        intro m e
        cases m with
        | nil => cases e
        | cons x m =>
          injection e with e1 e2
          have e1 : kv.1 = Sum.inr x := e1
          rw [List.filter_cons, List.filter_cons]
          by_cases c : x = k
          · rw [if_neg (by simp [e1, c]), if_neg (by simp [c])]
            exact ih m e2
          · rw [if_pos (by rw [e1]; exact decide_eq_true fun z => c (Sum.inr.inj z)), if_pos (decide_eq_true c), List.map_cons, List.map_cons, ih m e2, e1]
    exact this kvs ks h.keys
  val := fun x m => by
    obtain ⟨m1, m2⟩ := List.mem_filter.mp m
    rw [val_drop (fun z => (of_decide_eq_true m2) (Sum.inr.inj z))]
    exact h.val x m1
  ok := fun x m => h.ok x (List.mem_filter.mp m).1
  few := Nat.lt_of_le_of_lt (List.length_filter_le _ _) h.few
  nd := h.nd.sublist List.filter_sublist
theorem DSh.own {kvs : List (Key × V)} {ks : List Str} {f : Str → Int} (h : DSh kvs ks f) : ∀ x ∈ kvs, ∃ u, valV kvs x.1 = some u ∧ x.2 = u ∧ flatB x.2 = true := fun x m => by
  have nd : (kvs.map (·.1)).Nodup := by
    rw [h.keys, List.nodup_iff_pairwise_ne, List.pairwise_map]
    exact (List.nodup_iff_pairwise_ne.mp h.nd).imp fun ne z => ne (Sum.inr.inj z)
  have e := val_of_in nd m
  have mk : x.1 ∈ ks.map Sum.inr := by rw [← h.keys]; exact List.mem_map.mpr ⟨x, m, rfl⟩
  obtain ⟨k, mk, ek⟩ := List.mem_map.mp mk
  have e2 := h.val k mk
  rw [ek] at e2
  refine ⟨x.2, e, rfl, ?_⟩
  rw [Option.some.inj (e.symm.trans e2)]
  rfl
theorem dsh_of {kvs : List (Key × V)} {hs : List Str} {R : Str → Int → Prop} (ek : kvs.map (·.1) = hs.map Sum.inr) (nd : hs.Nodup) (ok : ∀ h ∈ hs, PyData.strOk h = true) (l6 : hs.length ≤ 6) (hv : ∀ kv ∈ kvs, ∃ h n, kv = (Sum.inr h, V.int n) ∧ R h n) :
    mergeK [] kvs = kvs ∧ DSh kvs hs (basOf kvs) ∧ ∀ h ∈ hs, R h (basOf kvs h) := by
  have ndk : (kvs.map (·.1)).Nodup := by
    rw [ek, List.nodup_iff_pairwise_ne, List.pairwise_map]
    exact (List.nodup_iff_pairwise_ne.mp nd).imp fun ne z => ne (Sum.inr.inj z)
  have key : ∀ h ∈ hs, ∃ n, valV kvs (Sum.inr h) = some (.int n) ∧ R h n := fun h m => by
    have mk : (Sum.inr h : Key) ∈ kvs.map (·.1) := by rw [ek]; exact List.mem_map.mpr ⟨h, m, rfl⟩
    obtain ⟨kv, mkv, e⟩ := List.mem_map.mp mk
    obtain ⟨h', n, rfl, hr⟩ := hv kv mkv
    obtain rfl : h' = h := Sum.inr.inj e
    exact ⟨n, val_of_in ndk mkv, hr⟩
  refine ⟨(merge_new ndk fun x _ => rfl).trans (List.nil_append _), ⟨ek, fun h m => ?_, ok, by omega, nd⟩, fun h m => ?_⟩
  · obtain ⟨n, e, _⟩ := key h m
    unfold basOf
    rw [e]
  · obtain ⟨n, e, hr⟩ := key h m
    unfold basOf
    rw [e]
    exact hr
/-! [(house, ..) for house in town[0]] -/
theorem lc_pairs {p c ta D : Addr} {hs : List Str} {σ : L2.St} {i : Nat} {te : TE} {H0 : Hp} {Qd : Hp → Prop} (R : Str → Int → Prop) (hta : H0 ta = some (.tup (hs.map V.str))) (l6 : hs.length ≤ 6) (P0 : Pen H0 p c) (nD : H0 D = none)
    (hte : ∀ h G (Ke : V → Hp → Prop), h ∈ hs → Stp p c H0 G → (∀ (n : Int) (b : Addr) (G' : Hp), Stp p c G G' → G b = none → G' b = some (.tup [.str h, .int n]) → R h n → Ke (.ref b) G') → te ((wipe σ [i]).set i (some (.str h))) G Ke)
    (hq : ∀ (us : List Addr) (kvs : List (Key × V)) (G : Hp), Stp p c H0 G → G D = some (.lst (us.map V.ref)) → Pkv G us kvs → kvs.map (·.1) = hs.map Sum.inr → (∀ kv ∈ kvs, ∃ h n, kv = (Sum.inr h, V.int n) ∧ R h n) → Qd G) :
    ∃ W : Nat → Nat → Hp → Prop, (∃ m, W 0 m (upd H0 D (.lst []))) ∧ ∀ k m H, W k m H →
      ((Itt K ta).stop k H ∧ Qd H) ∨ ((Itt K ta).go k H ∧ ∃ Nx : Hp → Prop, (∀ H', Nx H' → ∃ m', m' < m ∧ W (k + 1) m' H') ∧ ∀ x H', (Itt K ta).yld k H x H' → gName i x (wipe σ [i]) H' fun σ2 H2 => wipe σ2 [i] = wipe σ [i] ∧ tYes σ2 H2 fun b H3 =>
        if b = true then te σ2 H3 fun y H4 => ∃ acc, H4 D = some (.lst acc) ∧ acc.length < sizeLine ∧ Nx (upd H4 D (.lst (acc ++ [y]))) else Nx H3) := by
  have nDp : D ≠ p := fun e => P0.neP nD e.symm
  refine lc_it (walk_tup (K := K) (a := ta) (xs := hs.map V.str)) (g := gName i) (fun i H' => Stp p c H0 H' ∧ ∃ (us : List Addr) (kvs : List (Key × V)), H' D = some (.lst (us.map V.ref)) ∧ Pkv H' us kvs ∧ kvs.map (·.1) = (hs.take i).map Sum.inr ∧ ∀ kv ∈ kvs, ∃ h n, kv = (Sum.inr h, V.int n) ∧ R h n)
    ⟨(Stp.refl P0).new P0 nD, [], [], upd_same, .nil, by rw [List.take_zero]; rfl, fun _ m => nomatch m⟩ (fun i H' _ h => SqT.of (h.1.tup P0 hta)) ?_ ?_
  · rintro k v G1 G2 hi ⟨g1, us, kvs, hD, pk, ek, hb⟩ ⟨rfl, ev⟩
    rw [List.length_map] at hi
    have eh : hs[k]? = some hs[k] := List.getElem?_eq_getElem hi
    generalize hs[k] = h at eh
    rw [List.getElem?_map, eh] at ev
    obtain rfl : V.str h = v := Option.some.inj ev
    refine ⟨wipe_one σ i _, yes_if (hte h G2 _ (List.mem_of_getElem? eh) g1 fun n b G3 g3 nb hb3 hr => ?_)⟩
    have g13 := g1.trans g3
    have hD3 := g3.2 D _ nDp hD
    have l1 := pk.len
    have l2 : kvs.length ≤ 6 := by
      have := congrArg List.length ek
      rw [List.length_map, List.length_map, List.length_take] at this
      omega
    refine ⟨_, hD3, small_line (by rw [List.length_map]; omega), g13.mut P0 nD, us ++ [b], kvs ++ [(.inr h, .int n)], by rw [upd_same, List.map_append]; rfl, ?_, ?_, fun kv m => ?_⟩
    · refine (pk.go fun c ys e => ?_).snoc ?_
      · have e3 := g3.tup g1.1 e
        rw [upd_ne (ne_of e3 hD3 (fun z => nomatch z))]
        exact e3
      · rw [upd_ne (ne_of hb3 hD3 (fun z => nomatch z))]
        exact hb3
    · rw [List.map_append, ek, take_snoc eh, List.map_append]
      rfl
    · rcases List.mem_append.mp m with m | m
      · exact hb kv m
      · rw [List.mem_singleton.mp m]
        exact ⟨h, n, rfl, hr⟩
  · rintro G ⟨g, us, kvs, hD, pk, ek, hb⟩
    rw [List.length_map, List.take_length] at ek
    exact hq us kvs G g hD pk ek hb
def Ring (ls : List LkS) : Prop := ∃ u k, Bf.Chain ls u u k ∧ k ≠ [] ∧ Bf.sumL k < 0
def IsRing (ls ch : List LkS) : Prop := ch ≠ [] ∧ ∃ u, Bf.Chain ls u u ch ∧ Bf.sumL ch < 0
theorem keeps_no {ls : List LkS} {f : Str → Int} (h : Bf.Keeps ls f) : ¬ Ring ls := fun ⟨_, _, h1, _, h3⟩ => by
  have := h.ring h1
  omega
theorem IsRing.ring {ls k : List LkS} (h : IsRing ls k) : Ring ls := by
  obtain ⟨h1, u, h2, h3⟩ := h
  exact ⟨u, k, h2, h1, h3⟩
theorem chain_mem {ls : List LkS} : ∀ {k : List LkS} {a b : Str}, Bf.Chain ls a b k → ∀ l ∈ k, l ∈ ls
  | [], _, _, _, l, m => nomatch m
  | x :: k, _, _, h, l, m => by
    rcases List.mem_cons.mp m with rfl | m
    · exact h.1
    · exact chain_mem h.2.2 l m
/-! ### sums lowered, and the links by which -/
structure BfAt (H : Hp) (S D : Addr) (kS kT : List (Key × V)) (s : Bf.St Str) (n : Nat) : Prop where
  hs : H S = some (.dK kS)
  hv : H D = some (.dK kT)
  vs : ∀ h, valV kS (Sum.inr h) = (s.S h).map V.int
  v0 : ∀ h, s.V h = none → valV kT (Sum.inr h) = none
  v1 : ∀ h l, s.V h = some l → ∃ b, valV kT (Sum.inr h) = some (.ref b) ∧ H b = some (.tup (lkV l))
  ls : kS.length ≤ n
  lv : kT.length ≤ n
def lowV : Option Str → V
  | none => .non
  | some h => .str h
theorem BfAt.go {H H' : Hp} {S D : Addr} {kS kT : List (Key × V)} {s : Bf.St Str} {n m : Nat} (b : BfAt H S D kS kT s n) (s' : Same H H') (hm : n ≤ m) : BfAt H' S D kS kT s m :=
  ⟨s' _ _ b.hs, s' _ _ b.hv, b.vs, b.v0, fun h l e => let ⟨x, h1, h2⟩ := b.v1 h l e; ⟨x, h1, s' _ _ h2⟩, by have := b.ls; omega, by have := b.lv; omega⟩
theorem big_line {n : Nat} (h : n ≤ 1000000) : n < sizeLine := Nat.lt_of_le_of_lt h (by decide)
theorem BfAt.low {H : Hp} {S D : Addr} {kS kT : List (Key × V)} {s : Bf.St Str} {n t : Nat} {l : LkS} {z : Int} {b : Addr} (h : BfAt H S D kS kT s n) (e : Bf.low s l = some z) (hb : H b = some (.tup (lkV l))) (ne : S ≠ D) :
    BfAt (upd (upd H S (.dK (putK kS (Sum.inr l.1) (.int z)))) D (.dK (putK kT (Sum.inr l.1) (.ref b)))) S D (putK kS (Sum.inr l.1) (.int z)) (putK kT (Sum.inr l.1) (.ref b)) (Bf.step s t l) (n + 1) := by
  have es : Bf.step s t l = Bf.lower s t l z := by unfold Bf.step; rw [e]
  have keep : ∀ a ys, H a = some (.tup ys) → (upd (upd H S (.dK (putK kS (Sum.inr l.1) (.int z)))) D (.dK (putK kT (Sum.inr l.1) (.ref b)))) a = some (.tup ys) := fun a ys ea => by
    rw [upd_ne (ne_of ea h.hv (fun z => nomatch z)), upd_ne (ne_of ea h.hs (fun z => nomatch z))]
    exact ea
  rw [es]
  refine ⟨by rw [upd_ne ne, upd_same], upd_same, fun x => ?_, fun x ex => ?_, fun x k ex => ?_, put_len h.ls, put_len h.lv⟩
  · rw [valV_put]
    show _ = (Bf.put s.S l.1 (some z) x).map V.int
    by_cases c : x = l.1
    · rw [c, if_pos rfl, Bf.put_eq]
      rfl
    · rw [if_neg (fun q => c (Sum.inr.inj q)), Bf.put_ne _ _ c]
      exact h.vs x
  · have ex : Bf.put s.V l.1 (some l) x = none := ex
    by_cases c : x = l.1
    · rw [c, Bf.put_eq] at ex
      cases ex
    · rw [Bf.put_ne _ _ c] at ex
      rw [valV_put, if_neg (fun q => c (Sum.inr.inj q))]
      exact h.v0 x ex
  · have ex : Bf.put s.V l.1 (some l) x = some k := ex
    by_cases c : x = l.1
    · rw [c, Bf.put_eq] at ex
      cases ex
      rw [c]
      exact ⟨b, by rw [valV_put, if_pos rfl], keep _ _ hb⟩
    · rw [Bf.put_ne _ _ c] at ex
      obtain ⟨a, h1, h2⟩ := h.v1 x k ex
      exact ⟨a, by rw [valV_put, if_neg (fun q => c (Sum.inr.inj q))]; exact h1, keep _ _ h2⟩
def sp_tighten : Sp := fun vs H Q _ => ∃ (L S D : Addr) (ws : List V) (ls : List LkS) (kS kT : List (Key × V)) (s : Bf.St Str) (n t : Nat), vs = [.ref L, .ref S, .ref D] ∧ H L = some (.lst ws) ∧ Lks H ws ls ∧ BfAt H S D kS kT s n ∧ S ≠ D ∧ n + ls.length ≤ 1000000 ∧
  ∀ (kS' kT' : List (Key × V)) (H' : Hp), (∀ b o, b ≠ S → b ≠ D → H b = some o → H' b = some o) → BfAt H' S D kS' kT' (Bf.pass s t ls) (n + ls.length) → ((∀ l ∈ ls, s.S l.1 ≠ none) → kS'.map (·.1) = kS.map (·.1)) → Q (lowV (Bf.lastLow s t ls none)) H'
theorem ok_tighten (T : Txt K mg af fd) : FnOk P w K mg base CX0 1 (af 32) (fd 32) ["links", "sums", "via"] sp_tighten := by
  refine T.F_tighten.ok sc_tighten (fun vs H Q E h => ?_) (fun cdv A outer s H vs Q E hr h => ?_)
  · obtain ⟨L, S, D, ws, ls, kS, kT, s, n, t, rfl, _⟩ := h
    rfl
  · obtain ⟨L, S, D, ws, ls, kS, kT, st, n, t, rfl, hL, lk, bf, ne, hn, q⟩ := h
    refine ⟨_, (pss_cons (ps_set (i := 3) sc_tighten.nd rfl (by first | exact Or.inl rfl | exact Or.inr rfl) pe_non)
        (pss_cons (ps_for PassesOwn.never rfl (pi_list (pv 0)) (pg_name (i := 4) sc_tighten.nd rfl (by first | exact Or.inl rfl | exact Or.inr rfl)) (pss_cons (ps_asg (pv 4) (pg_tup rfl (pgs_cons (pg_name (i := 5) sc_tighten.nd rfl (by first | exact Or.inl rfl | exact Or.inr rfl)) (pgs_cons (pg_name (i := 6) sc_tighten.nd rfl (by first | exact Or.inl rfl | exact Or.inr rfl)) (pgs_cons (pg_name (i := 7) sc_tighten.nd rfl (by first | exact Or.inl rfl | exact Or.inr rfl)) pgs_nil)))))
        (pss_one (ps_if (PW.pt (pw_and (pt_cmp (pc_din (hu_of hr) (pv 6) (pv 1))) (pw_and1 (PW.pt (pw_or (pt_cmp (pc_dnotin (hu_of hr) (pv 5) (pv 1))) (pw_or1 (pt_cmpR op_lt (pe_op op_add (pe_dget (hu_of hr) (pv 1) (pv 6) (fun _ _ => rfl)) (pv 7)) (pe_dget (hu_of hr) (pv 1) (pv 5) (fun _ _ => rfl)) (nomark _)))))))) (pss_cons (ps_dput (hu_of hr) (pv 1) (pv 5) (pe_op op_add (pe_dget (hu_of hr) (pv 1) (pv 6) (fun _ _ => rfl)) (pv 7)) rfl)
        (pss_cons (ps_dput (hu_of hr) (pv 2) (pv 5) (pv 4) rfl)
        (pss_one (ps_set (i := 3) sc_tighten.nd rfl (by first | exact Or.inl rfl | exact Or.inr rfl) (pv 5))))) pss_nil))))
        (pss_one (ps_ret (pv 3))))), ?_⟩
    refine ⟨_, rfl, L, rfl, ⟨_, SqL.of hL⟩, ?_⟩
    have nLS : L ≠ S := ne_of hL bf.hs (fun z => nomatch z)
    have nLD : L ≠ D := ne_of hL bf.hv (fun z => nomatch z)
    refine for_it (walk_list (K := K) (a := L) (xs := ws)) (fun i σ G => (∃ v4 v5 v6 v7 : Option V, σ = [some (.ref L), some (.ref S), some (.ref D), some (lowV (Bf.lastLow st t (ls.take i) none)), v4, v5, v6, v7]) ∧ (∀ b o, b ≠ S → b ≠ D → H b = some o → G b = some o) ∧ ∃ kS' kT', BfAt G S D kS' kT' (Bf.pass st t (ls.take i)) (n + i) ∧ ((∀ l ∈ ls, st.S l.1 ≠ none) → kS'.map (·.1) = kS.map (·.1)))
      ⟨⟨none, none, none, none, by rw [List.take_zero]; rfl⟩, fun b o _ _ e => e, kS, kT, by rw [List.take_zero]; exact bf, fun _ => rfl⟩ (fun i σ G _ h => SqL.of (h.2.1 _ _ nLS nLD hL)) ?_ ?_
    · rintro i v σ G1 G2 hi ⟨⟨v4, v5, v6, v7, rfl⟩, fr, kS', kT', b, hk⟩ ⟨rfl, hv⟩
      have hir : i < ls.length := by rw [← lk.1]; exact hi
      have er : ls[i]? = some ls[i] := List.getElem?_eq_getElem hir
      generalize ls[i] = l at er
      obtain ⟨a, e1, e2⟩ := lk.2 i l er
      obtain rfl : V.ref a = v := Option.some.inj (e1.symm.trans hv)
      have ha : G2 a = some (.tup (lkV l)) := fr _ _ (ne_of e2 bf.hs (fun z => nomatch z)) (ne_of e2 bf.hv (fun z => nomatch z)) e2
      have lt : (ls.take i).length = i := by rw [List.length_take]; omega
      have ep : Bf.pass st t (ls.take (i + 1)) = Bf.step (Bf.pass st t (ls.take i)) (t + i + 1) l := by rw [take_snoc er, Bf.pass_snoc, lt]
      have el : Bf.lastLow st t (ls.take (i + 1)) none = match Bf.low (Bf.pass st t (ls.take i)) l with | none => Bf.lastLow st t (ls.take i) none | some _ => some l.1 := by
        rw [take_snoc er, Bf.last_snoc]
        try (cases Bf.low (Bf.pass st t (ls.take i)) l <;> rfl)
      rw [ep, el]
      generalize Bf.pass st t (ls.take i) = s1 at b ⊢
      have skip : Bf.low s1 l = none → (∃ v4 v5 v6 v7 : Option V, [some (V.ref L), some (.ref S), some (.ref D), some (lowV (Bf.lastLow st t (ls.take i) none)), some (.ref a), some (.str l.1), some (.str l.2.1), some (.int l.2.2)] = [some (V.ref L), some (.ref S), some (.ref D), some (lowV (match Bf.low s1 l with | none => Bf.lastLow st t (ls.take i) none | some _ => some l.1)), v4, v5, v6, v7]) ∧ (∀ b o, b ≠ S → b ≠ D → H b = some o → G2 b = some o) ∧ ∃ kS' kT', BfAt G2 S D kS' kT' (Bf.step s1 (t + i + 1) l) (n + (i + 1)) ∧ ((∀ l ∈ ls, st.S l.1 ≠ none) → kS'.map (·.1) = kS.map (·.1)) := fun e => by
        have es : Bf.step s1 (t + i + 1) l = s1 := by unfold Bf.step; rw [e]
        rw [e, es]
        exact ⟨⟨_, _, _, _, rfl⟩, fr, kS', kT', b.go (Same.refl G2) (by omega), hk⟩
      have gO := DGet.k (k := Sum.inr l.2.1) b.hs
      have g1 := DGet.k (k := Sum.inr l.1) b.hs
      have keysame : (∀ l ∈ ls, st.S l.1 ≠ none) → ∀ z : Int, (putK kS' (Sum.inr l.1) (.int z)).map (·.1) = kS.map (·.1) := fun hl z => by
        rw [put_keys, hk hl, if_pos, List.append_nil]
        have h1 := hl l (List.mem_of_getElem? er)
        cases e : st.S l.1 with
        | none => exact absurd e h1
        | some y =>
          have := bf.vs l.1
          rw [e] at this
          exact List.mem_map.mpr ⟨_, val_mem this, rfl⟩
      refine ⟨_, rfl, a, _, rfl, SqT.of ha, rfl, _, _, rfl, _, _, rfl, _, _, rfl, rfl, ?_⟩
      rw [b.vs] at gO g1
      refine ⟨_, rfl, _, rfl, S, _, rfl, gO, _, rfl, ?_⟩
      cases ex : s1.S l.2.1 with
      | none => exact iteF (iteF (skip (by unfold Bf.low; rw [ex])))
      | some x =>
        rw [ex] at gO
        refine iteT ⟨_, rfl, _, rfl, S, _, rfl, g1, _, rfl, ?_⟩
        cases ey : s1.S l.1 with
        | none =>
          have elo : Bf.low s1 l = some (x + l.2.2) := by unfold Bf.low; rw [ex, ey]
          refine iteT (iteT ?_)
          refine ⟨_, rfl, _, rfl, S, _, rfl, gO, _, rfl, _, _, rfl, rfl, _, rfl, _, rfl, S, _, rfl, DPut.k (k := Sum.inr l.1) b.hs (big_line (by have := b.ls; omega)), ?_⟩
          refine ⟨_, rfl, _, rfl, _, rfl, D, _, rfl, DPut.k (k := Sum.inr l.1) (by rw [upd_ne (fun z => ne z.symm)]; exact b.hv) (big_line (by have := b.lv; omega)), ?_⟩
          rw [elo]
          exact ⟨_, rfl, ⟨_, _, _, _, rfl⟩, fun c o n1 n2 e => (by rw [upd_ne n2, upd_ne n1]; exact fr c o n1 n2 e), _, _, b.low elo ha ne, fun hl => keysame hl _⟩
        | some y =>
          rw [ey] at g1
          refine iteF ⟨_, rfl, _, rfl, S, _, rfl, gO, _, rfl, _, _, rfl, rfl, _, rfl, _, rfl, S, _, rfl, g1, _, _, rfl, rfl, _, rfl, ite2 (fun e => ?_) (fun e => skip ?_)⟩
          · have elo : Bf.low s1 l = some (x + l.2.2) := by unfold Bf.low; rw [ex, ey]; exact if_pos (of_decide_eq_true e)
            refine ⟨_, rfl, _, rfl, S, _, rfl, gO, _, rfl, _, _, rfl, rfl, _, rfl, _, rfl, S, _, rfl, DPut.k (k := Sum.inr l.1) b.hs (big_line (by have := b.ls; omega)), ?_⟩
            refine ⟨_, rfl, _, rfl, _, rfl, D, _, rfl, DPut.k (k := Sum.inr l.1) (by rw [upd_ne (fun z => ne z.symm)]; exact b.hv) (big_line (by have := b.lv; omega)), ?_⟩
            rw [elo]
            exact ⟨_, rfl, ⟨_, _, _, _, rfl⟩, fun c o n1 n2 e => (by rw [upd_ne n2, upd_ne n1]; exact fr c o n1 n2 e), _, _, b.low elo ha ne, fun hl => keysame hl _⟩
          · unfold Bf.low
            rw [ex, ey]
            exact if_neg (fun z => e (decide_eq_true z))
    · rintro σ G1 ⟨⟨v4, v5, v6, v7, rfl⟩, fr, kS', kT', b, hk⟩
      rw [lk.1, List.take_length] at b
      rw [lk.1, List.take_length]
      exact ⟨_, rfl, q kS' kT' G1 fr b hk⟩
theorem at_last {α : Type} (us : List α) (x : α) : atI (us ++ [x]) (-1) = some x := by
  unfold atI ixN
  have hl : (us ++ [x]).length = us.length + 1 := by rw [List.length_append]; rfl
  rw [hl, if_neg (by decide), if_pos (by omega)]
  show (us ++ [x])[_]? = some x
  rw [show ((-1 : Int) + ((us.length + 1 : Nat) : Int)).toNat = us.length by omega, List.getElem?_append_right (Nat.le_refl _), Nat.sub_self]
  rfl
/-! ### the links from a house on, until one leads to the end -/
def Rest (Vi : Str → Option LkS) (e : Str) (l : LkS) (r : List LkS) : Prop := (l.2.1 = e ∧ r = []) ∨ (l.2.1 ≠ e ∧ Bf.Wf Vi e l.2.1 r)
theorem wf_head {Vi : Str → Option LkS} {e v : Str} {k : List LkS} (h : Bf.Wf Vi e v k) : ∃ l r, Vi v = some l ∧ k = l :: r ∧ Rest Vi e l r := by
  cases h with
  | one h1 h2 => exact ⟨_, [], h1, rfl, .inl ⟨h2, rfl⟩⟩
  | cons h1 h2 h3 => exact ⟨_, _, h1, rfl, .inr ⟨h2, h3⟩⟩
theorem lks_last {H : Hp} {ws : List V} {pre : List LkS} {l : LkS} (h : Lks H ws (pre ++ [l])) : ∃ us b, ws = us ++ [V.ref b] ∧ H b = some (.tup (lkV l)) := by
  obtain ⟨b, e, hb⟩ := h.2 pre.length l (by rw [List.getElem?_append_right (Nat.le_refl _), Nat.sub_self]; rfl)
  have hl : ws.length = pre.length + 1 := by rw [h.1, List.length_append]; rfl
  refine ⟨ws.take pre.length, b, ?_, hb⟩
  have := List.take_append_drop pre.length ws
  rw [← this, List.take_append_of_le_length (by rw [List.length_take]; omega), List.take_take, Nat.min_self]
  congr 1
  refine List.ext_getElem? fun i => ?_
  rw [List.getElem?_drop]
  cases i with
  | zero => exact e
  | succ i =>
    rw [List.getElem?_eq_none (by omega)]
    rfl
def WInv (H : Hp) (v e : Str) (D L : Addr) (Vi : Str → Option LkS) (k : List LkS) (m : Nat) (σ : L2.St) (G : Hp) : Prop := ∃ (ws : List V) (pre : List LkS) (l : LkS) (r : List LkS), σ = [some (.str v), some (.str e), some (.ref D), some (.ref L)] ∧ Same H G ∧ G L = some (.lst ws) ∧ Lks G ws (pre ++ [l]) ∧ k = pre ++ l :: r ∧ Rest Vi e l r ∧ r.length = m
def sp_way_from : Sp := fun vs H Q _ => ∃ (v e : Str) (D : Addr) (kT : List (Key × V)) (Vi : Str → Option LkS) (k : List LkS), vs = [.str v, .str e, .ref D] ∧ H D = some (.dK kT) ∧ (∀ h l, Vi h = some l → ∃ b, valV kT (Sum.inr h) = some (.ref b) ∧ H b = some (.tup (lkV l))) ∧ Bf.Wf Vi e v k ∧ k.length ≤ 1000 ∧
  ∀ (L : Addr) (ws : List V) (H' : Hp), Same H H' → H L = none → H' L = some (.lst ws) → Lks H' ws k → Q (.ref L) H'
theorem ok_way_from (T : Txt K mg af fd) : FnOk P w K mg base CX0 1 (af 33) (fd 33) ["house", "end", "via"] sp_way_from := by
  refine T.F_way_from.ok sc_way_from (fun vs H Q E h => ?_) (fun cdv A outer s H vs Q E hr h => ?_)
  · obtain ⟨v, e, D, kT, Vi, k, rfl, _⟩ := h
    rfl
  · obtain ⟨v, e, D, kT, Vi, k, rfl, hD, hv, wf, lk, q⟩ := h
    refine ⟨_, (pss_cons (ps_set (i := 3) sc_way_from.nd rfl (by first | exact Or.inl rfl | exact Or.inr rfl) (pe_lst (pa_cons (pe_dget (hu_of hr) (pv 2) (pv 0) (fun _ _ => rfl)) pa_nil)))
        (pss_cons (ps_while PassesOwn.never (pt_cmpR op_ne (pe_ix ix_tup (pe_ix ix_list (pv 3) (pe_un un_neg pe_int) (fun _ _ => rfl)) pe_int (fun _ _ => rfl)) (pv 1) (nomark _)) (pss_one (ps_expr (pe_bm PySem.F.plainAttrs_list PySem.F.slot_list_append PySem.F.type_list_append mt_append (pv 3) (pa_cons (pe_dget (hu_of hr) (pv 2) (pe_ix ix_tup (pe_ix ix_list (pv 3) (pe_un un_neg pe_int) (fun _ _ => rfl)) pe_int (fun _ _ => rfl)) (fun _ _ => rfl)) pa_nil)))))
        (pss_one (ps_ret (pv 3))))), ?_⟩
    obtain ⟨l0, r0, e0, ek, rest0⟩ := wf_head wf
    obtain ⟨b0, ev0, hb0⟩ := hv v l0 e0
    have g0 := DGet.k (k := Sum.inr v) hD
    rw [ev0] at g0
    refine ⟨_, rfl, _, rfl, D, _, rfl, g0, (by show 1 ≤ sizeLine; decide), fun L nL => ?_⟩
    have s1 : Same H (upd H L (.lst [.ref b0])) := same_upd nL
    have hL : (upd H L (.lst [.ref b0])) L = some (.lst [.ref b0]) := upd_same
    generalize upd H L (.lst [.ref b0]) = H1 at s1 hL ⊢
    refine ⟨WInv H v e D L Vi k, ⟨_, [.ref b0], [], l0, r0, rfl, s1, hL, Lks.one (s1 _ _ hb0), ek, rest0, rfl⟩, ?_⟩
    rintro m σ G ⟨ws, pre, l, r, rfl, g, hLg, lkg, ekg, rest, hm⟩
    obtain ⟨us, b, rfl, hb⟩ := lks_last lkg
    refine ⟨_, rfl, _, rfl, L, _, -1, _, rfl, rfl, SqL.of hLg, at_last us _, b, _, 1, _, rfl, rfl, SqT.of hb, rfl, _, rfl, rfl, _, rfl, ?_⟩
    rcases rest with ⟨e1, rfl⟩ | ⟨e1, wf2⟩
    · have eb : (!decide (V.str l.2.1 = V.str e)) = false := by rw [decide_eq_true (congrArg V.str e1)]; rfl
      rw [eb]
      exact iteF ⟨_, rfl, q L _ G g nL hLg (by rw [ekg]; exact lkg)⟩
    · have eb : (!decide (V.str l.2.1 = V.str e)) = true := by rw [decide_eq_false fun z => e1 (V.str.inj z)]; rfl
      rw [eb]
      obtain ⟨l2, r2, e2, rfl, rest2⟩ := wf_head wf2
      obtain ⟨b2, ev2, hb2⟩ := hv _ l2 e2
      have g2 := DGet.k (k := Sum.inr l.2.1) (g _ _ hD)
      rw [ev2] at g2
      have hlen : pre.length + 1 + (r2.length + 1) = k.length := by rw [ekg, List.length_append, List.length_cons, List.length_cons]; omega
      have lws : us.length + 1 = pre.length + 1 := by
        have := lkg.1
        rw [List.length_append, List.length_append] at this
        exact this
      refine iteT ⟨WInv H v e D L Vi k r2.length, fun σ' H' h => ⟨_, by rw [← hm, List.length_cons]; omega, h⟩, ?_⟩
      refine ⟨_, rfl, .inl ⟨rfl, _, SqL.of hLg⟩, _, rfl, _, rfl, _, rfl, L, _, -1, _, rfl, rfl, SqL.of hLg, at_last us _, b, _, 1, _, rfl, rfl, SqT.of hb, rfl, D, _, rfl, g2, L, _, _, rfl, rfl, hLg, small_line (by rw [List.length_append]; show us.length + 1 ≤ 5000; omega), ?_⟩
      refine ⟨_, pre ++ [l], l2, r2, rfl, same_mut g nL, upd_same, ((lkg.app (.one (g _ _ hb2))).go fun c ys ec => ?_), ?_, rest2, rfl⟩
      · rw [upd_ne (ne_of ec hLg (fun z => nomatch z))]
        exact ec
      · rw [ekg, List.append_assoc]
        rfl
/-! ### shifts, or a ring -/
def rdS (ls : List LkS) (S0 : Str → Option Int) : Nat → Bf.St Str
  | 0 => ⟨S0, fun _ => none, fun _ => 0⟩
  | k + 1 => Bf.pass (rdS ls S0 k) (k * ls.length) ls
theorem rd_ok (ls : List LkS) (S0 : Str → Option Int) : ∀ k, Bf.Rd ls S0 (rdS ls S0 k) k 0
  | 0 => Bf.Rd.start ls S0
  | k + 1 => (rd_ok ls S0 k).pass
def zeros (hs : List Str) : Str → Option Int := fun h => if h ∈ hs then some 0 else none
theorem it_pre {V' : Str → Option LkS} {n i : Nat} {h u : Str} (e : Bf.it V' n h = some u) (hi : i < n) : ∃ v l, Bf.it V' i h = some v ∧ V' v = some l ∧ Bf.it V' (i + 1) h = some l.2.1 := by
  have e1 := Bf.it_add V' i (n - i) h
  rw [show i + (n - i) = n by omega, e] at e1
  cases ev : Bf.it V' i h with
  | none => rw [ev] at e1; cases e1
  | some v =>
    rw [ev] at e1
    obtain ⟨m, hm⟩ : ∃ m, n - i = m + 1 := ⟨n - i - 1, by omega⟩
    rw [hm] at e1
    have e1 : some u = (V' v).bind _ := e1
    cases el : V' v with
    | none => rw [el] at e1; cases e1
    | some l =>
      refine ⟨v, l, rfl, el, ?_⟩
      rw [Bf.it_add, ev]
      show (V' v).bind _ = _
      rw [el]
      rfl
def lastOf (ls : List LkS) (S0 : Str → Option Int) : Nat → V
  | 0 => .non
  | k + 1 => lowV (Bf.lastLow (rdS ls S0 k) (k * ls.length) ls none)
def SetOk (ls : List LkS) (f : Str → Int) (k : List LkS) : Prop := (k = [] ∧ Bf.Keeps ls f) ∨ (k ≠ [] ∧ ∃ u, Bf.Chain ls u u k ∧ Bf.sumL k < 0)
def sp_settle : Sp := fun vs H Q _ => ∃ (th L : Addr) (hs : List Str) (ws : List V) (ls : List LkS), vs = [.ref th, .ref L] ∧ H th = some (.tup (hs.map V.str)) ∧ H L = some (.lst ws) ∧ Lks H ws ls ∧ ls.length ≤ 5000 ∧ (∀ l ∈ ls, l.1 ∈ hs ∧ l.2.1 ∈ hs) ∧ hs.Nodup ∧ 1 ≤ hs.length ∧ hs.length ≤ 6 ∧ (∀ h ∈ hs, PyData.strOk h = true) ∧
  ∀ (P S R : Addr) (kS : List (Key × V)) (f : Str → Int) (rs : List V) (k : List LkS) (H' : Hp), Same H H' → H' P = some (.tup [.ref S, .ref R]) → H S = none → H R = none → H' S = some (.dK kS) → DSh kS hs f → H' R = some (.lst rs) → Lks H' rs k → SetOk ls f k → k.length ≤ 6 → Q (.ref P) H'
theorem ok_settle (T : Txt K mg af fd) : FnOk P w K mg base CX0 2 (af 34) (fd 34) ["houses", "links"] sp_settle := by
  refine T.F_settle.ok sc_settle (fun vs H Q E h => ?_) (fun cdv A outer s H vs Q E hr h => ?_)
  · obtain ⟨th, L, hs, ws, ls, rfl, _⟩ := h
    rfl
  · obtain ⟨th, L, hs, ws, ls, rfl, ht, hL, lk, ll, lin, nd, h1, h6, ok, q⟩ := h
    refine ⟨_, (pss_cons (Gr.ps_setDc (i := 2) false (own := [("house", 3)]) (g := gName 3) (hu_of hr) (by rfl) sc_settle.nd rfl rfl (Gr.sw_trueD rfl rfl rfl (by decide +kernel)) (pi_tup (pv 0)) (blkOk_by (own := [("house", 3)]) (N := ["houses", "links", "sums", "house", "via", "lowered", "turn"]) (sc := defScope s_settle) (by decide +kernel)) (fun _ _ _ _ _ => pg_name (i := 3) sc_settle.nd rfl (Or.inl rfl)) (fun _ _ _ _ _ => pts_nil) (fun _ _ _ _ _ => (pv 3)) (fun _ _ _ _ _ => pe_int))
        (pss_cons (ps_set (i := 4) sc_settle.nd rfl (by first | exact Or.inl rfl | exact Or.inr rfl) pe_dnewK)
        (pss_cons (ps_set (i := 5) sc_settle.nd rfl (by first | exact Or.inl rfl | exact Or.inr rfl) pe_non)
        (pss_cons (ps_for PassesOwn.never rfl (pi_tup (pv 0)) (pg_name (i := 6) sc_settle.nd rfl (by first | exact Or.inl rfl | exact Or.inr rfl)) (pss_one (ps_set (i := 5) sc_settle.nd rfl (by first | exact Or.inl rfl | exact Or.inr rfl) (pe_call (ok_tighten T) (hr.mono (by first | decide | omega)) (by rfl) T.g_tighten T.F_tighten.kp T.b_tighten .nil pass0 (pa_cons (pv 1) (pa_cons (pv 2) (pa_cons (pv 4) pa_nil)))))))
        (pss_cons (ps_if (pt_cmpR op_isN (pv 5) pe_non (nomark _)) (pss_one (ps_ret (pe_tup (pa_cons (pv 2) (pa_cons (pe_lst pa_nil) pa_nil))))) pss_nil)
        (pss_cons (ps_set (i := 3) sc_settle.nd rfl (by first | exact Or.inl rfl | exact Or.inr rfl) (pv 5))
        (pss_cons (ps_for PassesOwn.never rfl (pi_tup (pv 0)) (pg_name (i := 6) sc_settle.nd rfl (by first | exact Or.inl rfl | exact Or.inr rfl)) (pss_one (ps_set (i := 3) sc_settle.nd rfl (by first | exact Or.inl rfl | exact Or.inr rfl) (pe_ix ix_tup (pe_dget (hu_of hr) (pv 4) (pv 3) (fun _ _ => rfl)) pe_int (fun _ _ => rfl)))))
        (pss_one (ps_ret (pe_tup (pa_cons (pv 2) (pa_cons (pe_call (ok_way_from T) (hr.mono (by first | decide | omega)) (by rfl) T.g_way_from T.F_way_from.kp T.b_way_from .nil pass0 (pa_cons (pv 3) (pa_cons (pv 3) (pa_cons (pv 4) pa_nil)))) pa_nil)))))))))))), ?_⟩
    refine ⟨_, rfl, th, rfl, ⟨_, SqT.of ht⟩, fun S nS => ?_⟩
    refine Gr.dcd_it (walk_tup (K := K) (a := th) (xs := hs.map V.str)) (fun j H' => Same H H' ∧ ∃ kvs : List (Key × V), H' S = some (.dK kvs) ∧ kvs.map (·.1) = (hs.take j).map Sum.inr ∧ ∀ kv ∈ kvs, kv.2 = .int 0)
      ⟨same_upd nS, [], upd_same, (by rw [List.take_zero]; rfl), fun kv m => nomatch m⟩ (fun j H' _ h => SqT.of (h.1 _ _ ht)) ?_ ?_
    · rintro j v G1 G2 hj ⟨g1, kvs, hD, ek, hz⟩ ⟨rfl, ev⟩
      rw [List.length_map] at hj
      have eh : hs[j]? = some hs[j] := List.getElem?_eq_getElem hj
      generalize hs[j] = h at eh
      rw [List.getElem?_map, eh] at ev
      obtain rfl : V.str h = v := Option.some.inj ev
      have lk : kvs.length ≤ 6 := by
        have := congrArg List.length ek
        rw [List.length_map, List.length_map, List.length_take] at this
        omega
      refine ⟨rfl, yes_if ⟨_, rfl, _, DPut.k (k := Sum.inr h) hD (small_line (by omega)), same_mut g1 nS, _, upd_same, ?_, fun kv m => ?_⟩⟩
      · have nm : (Sum.inr h : Key) ∉ kvs.map (·.1) := by
          rw [ek]
          intro m
          obtain ⟨x, mx, ex⟩ := List.mem_map.mp m
          rw [Sum.inr.inj ex] at mx
          have nd2 : (hs.take (j + 1)).Nodup := nd.sublist (List.take_sublist _ _)
          rw [take_snoc eh] at nd2
          exact (List.nodup_append.mp nd2).2.2 h mx h List.mem_cons_self rfl
        rw [put_keys, if_neg nm, ek, take_snoc eh, List.map_append]
        rfl
      · rcases put_mem m with ⟨m, _⟩ | rfl
        · exact hz kv m
        · rfl
    rintro H1 ⟨s1, k0, hS1, ek0, hz0⟩
    rw [List.length_map, List.take_length] at ek0
    intro D nD
    have s2 : Same H1 (upd H1 D (.dK [])) := same_upd nD
    have hD2 : (upd H1 D (.dK [])) D = some (.dK []) := upd_same
    generalize upd H1 D (.dK []) = H2 at s2 hD2 ⊢
    have nDH := s1.free nD
    have hS2 := s2 _ _ hS1
    have nSD : S ≠ D := fun z => by rw [z] at hS1; rw [hS1] at nD; cases nD
    have s12 := s1.trans s2
    have l0 : k0.length ≤ 6 := by
      have := congrArg List.length ek0
      rw [List.length_map, List.length_map] at this
      omega
    have nd0 : (k0.map (·.1)).Nodup := by
      rw [ek0, List.nodup_iff_pairwise_ne, List.pairwise_map]
      exact (List.nodup_iff_pairwise_ne.mp nd).imp fun ne z => ne (Sum.inr.inj z)
    have bf0 : BfAt H2 S D k0 [] (rdS ls (zeros hs) 0) 6 := by
      refine ⟨hS2, hD2, fun h => ?_, fun h _ => rfl, (fun h l e => nomatch e), l0, Nat.zero_le _⟩
      show valV k0 (Sum.inr h) = (zeros hs h).map V.int
      unfold zeros
      by_cases m : h ∈ hs
      · rw [if_pos m]
        have mk : (Sum.inr h : Key) ∈ k0.map (·.1) := by rw [ek0]; exact List.mem_map.mpr ⟨h, m, rfl⟩
        obtain ⟨kv, mkv, e⟩ := List.mem_map.mp mk
        have e2 := hz0 kv mkv
        obtain ⟨a, b⟩ := kv
        have e : a = Sum.inr h := e
        have e2 : b = .int 0 := e2
        subst e e2
        exact val_of_in nd0 mkv
      · rw [if_neg m]
        cases e : valV k0 (Sum.inr h : Key) with
        | none => rfl
        | some v =>
          have : (Sum.inr h : Key) ∈ k0.map (·.1) := List.mem_map.mpr ⟨_, val_mem e, rfl⟩
          rw [ek0] at this
          obtain ⟨x, mx, ex⟩ := List.mem_map.mp this
          rw [Sum.inr.inj ex] at mx
          exact absurd mx m
    have hpos : ∀ k, ∀ l ∈ ls, (rdS ls (zeros hs) k).S l.1 ≠ none := fun k l m => (rd_ok ls (zeros hs) k).ok.pos l.1 (by unfold zeros; rw [if_pos (lin l m).1]; exact fun z => nomatch z)
    have frame : ∀ {G : Hp}, (∀ b o, b ≠ S → b ≠ D → H2 b = some o → G b = some o) → Same H G := fun fr b o e => fr b o (ne_of_none e nS) (ne_of_none e nDH) (s12 b o e)
    refine ⟨_, rfl, th, rfl, ⟨_, SqT.of (s12 _ _ ht)⟩, ?_⟩
    refine for_it (walk_tup (K := K) (a := th) (xs := hs.map V.str)) (fun i σ G => (∃ v3 v6 : Option V, σ = [some (.ref th), some (.ref L), some (.ref S), v3, some (.ref D), some (lastOf ls (zeros hs) i), v6]) ∧ (∀ b o, b ≠ S → b ≠ D → H2 b = some o → G b = some o) ∧ ∃ kS kT, BfAt G S D kS kT (rdS ls (zeros hs) i) (6 + i * ls.length) ∧ kS.map (·.1) = hs.map Sum.inr)
      ⟨⟨_, _, rfl⟩, fun b o _ _ e => e, k0, [], by rw [Nat.zero_mul]; exact bf0, ek0⟩ (fun i σ G _ h => SqT.of (frame h.2.1 _ _ ht)) ?_ ?_
    · rintro i v σ G1 G2 hi ⟨⟨v3, v6, rfl⟩, fr, kS, kT, b, ek⟩ ⟨rfl, ev⟩
      rw [List.length_map] at hi
      have g := frame fr
      have hb : 6 + i * ls.length + ls.length ≤ 1000000 := by
        have : i * ls.length ≤ 6 * 5000 := Nat.mul_le_mul (by omega) ll
        omega
      refine ⟨_, rfl, _, rfl, _, rfl, L, S, D, ws, ls, kS, kT, rdS ls (zeros hs) i, 6 + i * ls.length, i * ls.length, rfl, g _ _ hL, lk.same g, b, nSD, hb, fun kS' kT' G3 fr3 b3 hk => ?_⟩
      refine ⟨⟨_, _, rfl⟩, fun c o n1 n2 e => fr3 c o n1 n2 (fr c o n1 n2 e), kS', kT', ?_, (hk (hpos i)).trans ek⟩
      rw [Nat.succ_mul, ← Nat.add_assoc]
      exact b3
    rintro σ G1 ⟨⟨v3, v6, rfl⟩, fr, kS, kT, b, ek⟩
    rw [List.length_map] at b ⊢
    have g := frame fr
    obtain ⟨n, hn⟩ : ∃ n, hs.length = n + 1 := ⟨hs.length - 1, by omega⟩
    have RD := rd_ok ls (zeros hs) hs.length
    have hval : ∀ h ∈ hs, ∃ y, (rdS ls (zeros hs) hs.length).S h = some y := fun h m => by
      have := RD.ok.pos h (by unfold zeros; rw [if_pos m]; exact fun z => nomatch z)
      cases e : (rdS ls (zeros hs) hs.length).S h with
      | none => exact absurd e this
      | some y => exact ⟨y, rfl⟩
    have dsh : DSh kS hs (fun h => ((rdS ls (zeros hs) hs.length).S h).getD 0) := ⟨ek, fun h m => by
      obtain ⟨y, e⟩ := hval h m
      rw [b.vs, e]
      rfl, ok, by omega, nd⟩
    have elast : lastOf ls (zeros hs) hs.length = lowV (Bf.lastLow (rdS ls (zeros hs) n) (n * ls.length) ls none) := by rw [hn]; rfl
    have erd : rdS ls (zeros hs) hs.length = Bf.pass (rdS ls (zeros hs) n) (n * ls.length) ls := by rw [hn]; rfl
    rw [elast]
    cases hl : Bf.lastLow (rdS ls (zeros hs) n) (n * ls.length) ls none with
    | none =>
      obtain ⟨_, h2, h3⟩ := Bf.last_none _ _ _ _ hl
      rw [h2] at erd
      refine ⟨_, rfl, rfl, _, rfl, iteTd rfl ?_⟩
      refine ⟨_, rfl, Nat.zero_le _, fun R nR => ?_⟩
      have s3 : Same G1 (upd G1 R (.lst [])) := same_upd nR
      have hR : (upd G1 R (.lst [])) R = some (.lst []) := upd_same
      generalize upd G1 R (.lst []) = G2 at s3 hR ⊢
      refine ⟨(by show 2 ≤ sizeLine; decide), fun P nP => ?_⟩
      have s4 := same_upd (o := .tup [.ref S, .ref R]) nP
      have keeps : Bf.Keeps ls (fun h => ((rdS ls (zeros hs) hs.length).S h).getD 0) := by
        refine Bf.keeps_of (s := rdS ls (zeros hs) n) h3 fun l m => ?_
        obtain ⟨y1, e1⟩ := hval l.1 (lin l m).1
        obtain ⟨y2, e2⟩ := hval l.2.1 (lin l m).2
        rw [← erd, e1, e2]
        exact ⟨rfl, rfl⟩
      exact q P S R kS _ [] [] _ ((g.trans s3).trans s4) upd_same nS (g.free nR) (s4 _ _ (s3 _ _ b.hs)) dsh (s4 _ _ hR) Lks.nil (.inl ⟨rfl, keeps⟩) (by decide)
    | some a =>
      have hT := Bf.last_some ls (rdS ls (zeros hs) n) (n * ls.length) (n * ls.length) none a (fun v => by have := (rd_ok ls (zeros hs) n).ok.le v; omega) (Nat.le_refl _) (fun b hb => nomatch hb) hl
      rw [← erd] at hT
      obtain ⟨u, k, eit, wf, lkk⟩ := RD.ring lin (a := a) (by rw [show hs.length - 1 = n by omega]; exact hT)
      refine ⟨_, rfl, rfl, _, rfl, iteFd (fun z => nomatch z) ?_⟩
      refine ⟨_, rfl, ?_⟩
      refine ⟨_, rfl, th, rfl, ⟨_, SqT.of (g _ _ ht)⟩, ?_⟩
      refine for_it (walk_tup (K := K) (a := th) (xs := hs.map V.str)) (fun i σ G => ∃ (x : Str) (v6 : Option V), σ = [some (.ref th), some (.ref L), some (.ref S), some (.str x), some (.ref D), some (.str a), v6] ∧ G = G1 ∧ Bf.it (rdS ls (zeros hs) hs.length).V i a = some x)
        ⟨a, _, rfl, rfl, rfl⟩ (fun i σ G _ h => by obtain ⟨_, _, _, e, _⟩ := h; rw [e]; exact SqT.of (g _ _ ht)) ?_ ?_
      · rintro i v σ G2 G3 hi ⟨x, v6, rfl, rfl, ex⟩ ⟨rfl, ev⟩
        rw [List.length_map] at hi
        obtain ⟨y, l, e1, e2, e3⟩ := it_pre eit hi
        rw [ex] at e1
        obtain rfl := Option.some.inj e1
        obtain ⟨c, ec, hc⟩ := b.v1 _ l e2
        have gd := DGet.k (k := Sum.inr x) b.hv
        rw [ec] at gd
        exact ⟨_, rfl, _, rfl, D, _, rfl, gd, c, _, 1, _, rfl, rfl, SqT.of hc, rfl, l.2.1, _, rfl, rfl, e3⟩
      · rintro σ G2 ⟨x, v6, rfl, rfl, ex⟩
        rw [List.length_map, eit] at ex
        obtain rfl := Option.some.inj ex
        refine ⟨_, rfl, _, rfl, _, rfl, _, rfl, u, u, D, kT, _, k, rfl, b.hv, b.v1, wf, by omega, fun R rs G3 s3 nR hR lkR => ?_⟩
        refine ⟨(by show 2 ≤ sizeLine; decide), fun P nP => ?_⟩
        have s4 := same_upd (o := .tup [.ref S, .ref R]) nP
        have wc := wf.chain RD.ok
        exact q P S R kS _ rs k _ ((g.trans s3).trans s4) upd_same nS (g.free nR) (s4 _ _ (s3 _ _ b.hs)) dsh (s4 _ _ hR) (lkR.same s4) (.inr ⟨wc.2, u, wc.1, wf.ring RD.ok⟩) (by omega)
def sp_shifts (CN CC : Addr) : Sp := fun vs H Q E => ∃ (Ex : Addr → Prop) (t l p : Addr) (hs gs : List Str) (xs us : List V) (ds : List PyData) (ps : List PrK), vs = [.ref t, .ref l, .ref p] ∧ Ask Ex H t l hs gs xs ds ∧ 1 ≤ hs.length ∧ H p = some (.lst us) ∧ Pks H us ps ∧ ps.length ≤ 1000 ∧
  (∀ rs : List Row, Book hs rs → ds = rs.map rowD → ∀ p ∈ ps, Kn rs p) ∧
  (∀ (rs : List Row) (P R : Addr) (ws : List V) (k : List LkS) (H' : Hp), Same H H' → RowsD hs ds ds.length → NoClash ds ds.length → Book hs rs → ds = rs.map rowD → H' P = some (.tup [.str "ring", .ref R]) → H R = none → H' R = some (.lst ws) → Lks H' ws k → k ≠ [] → (∃ u, Bf.Chain (linksOf rs ps) u u k ∧ Bf.sumL k < 0) → k.length ≤ 6 → Q (.ref P) H') ∧
  (∀ (rs : List Row) (P S : Addr) (kS : List (Key × V)) (f : Str → Int) (H' : Hp), Same H H' → RowsD hs ds ds.length → NoClash ds ds.length → Book hs rs → ds = rs.map rowD → H' P = some (.tup [.str "shifts", .ref S]) → H S = none → H' S = some (.dK kS) → DSh kS hs f → Bf.Keeps (linksOf rs ps) f → Q (.ref P) H') ∧ Refuse CN CC H hs ds E
theorem ok_shifts (T : Txt K mg af fd) : FnOk P w K mg base (L2.CX P w) 10 (af 37) (fd 37) ["town", "rows", "pairs"] (sp_shifts (af 60) (af 62)) := by
  refine T.F_shifts.okX sc_shifts (fun vs H Q E h => ?_) (fun cdv A outer s H vs Q E hr h => ?_)
  · obtain ⟨Ex, t, l, p, hs, gs, xs, us, ds, ps, rfl, _⟩ := h
    rfl
  · obtain ⟨Ex, t, l, p, hs, gs, xs, us, ds, ps, rfl, hA, h1, hp, hps, hlen, hk, q1, q2, r⟩ := h
    refine ⟨_, (pss_cons (ps_asg (pe_call (ok_settle T) (hr.mono (by first | decide | omega)) (by rfl) T.g_settle T.F_settle.kp T.b_settle .nil pass0 (pa_cons (pe_ix ix_tup (pv 0) pe_int (fun _ _ => rfl)) (pa_cons (pe_call (ok_links_of T) (hr.mono (by first | decide | omega)) (by rfl) T.g_links_of T.F_links_of.kp T.b_links_of .nil (passes_call (takes_of rfl rfl rfl rfl) (fun _ _ _ _ h => h)) (pa_cons (pv 0) (pa_cons (pv 1) (pa_cons (pv 2) pa_nil)))) pa_nil))) (pg_tup rfl (pgs_cons (pg_name (i := 3) sc_shifts.nd rfl (by first | exact Or.inl rfl | exact Or.inr rfl)) (pgs_cons (pg_name (i := 4) sc_shifts.nd rfl (by first | exact Or.inl rfl | exact Or.inr rfl)) pgs_nil))))
        (pss_one (ps_ret (pe_ifExp (pt_truth (pv 4) (by intro _; rfl)) (pe_tup (pa_cons pe_str (pa_cons (pv 4) pa_nil))) (pe_tup (pa_cons pe_str (pa_cons (pv 3) pa_nil))))))), ?_⟩
    obtain ⟨th, tg, ht, hth, htg⟩ := hA.town
    refine ⟨_, rfl, t, _, 0, _, rfl, rfl, SqT.of ht, rfl, _, rfl, _, rfl, _, rfl, Ex, t, l, p, hs, gs, xs, us, ds, ps, rfl, hA, hp, hps, hlen, hk, (fun rs L ws H1 s1 d1 d2 B hds nL hL lk => ?_), r⟩
    have ll : (linksOf rs ps).length ≤ 5000 := by have := links_len (rs := rs) (ps := ps); omega
    refine ⟨th, L, hs, ws, linksOf rs ps, rfl, s1 _ _ hth, hL, lk, ll, links_in B ps, hA.nd, h1, hA.h6, hA.ok, fun P S R kS f rs2 k H2 s2 hP nS nR hS D hR lkR so l6 => ?_⟩
    refine ⟨P, _, rfl, SqT.of hP, rfl, _, _, rfl, _, _, rfl, rfl, ?_⟩
    have s12 := s1.trans s2
    refine ⟨_, rfl, _, .inl ⟨rs2, SqL.of hR, rfl⟩, ?_⟩
    rcases so with ⟨rfl, hk2⟩ | ⟨hne, hring⟩
    · obtain rfl : rs2 = [] := List.eq_nil_of_length_eq_zero lkR.1
      refine iteF ⟨_, rfl, (by show 2 ≤ sizeLine; decide), fun P2 nP2 => ?_⟩
      have s3 := same_upd (o := .tup [.str "shifts", .ref S]) nP2
      exact q2 rs P2 S kS f _ (s12.trans s3) d1 d2 B hds upd_same (s1.free nS) (s3 _ _ hS) D hk2
    · have : rs2 ≠ [] := fun z => hne (List.eq_nil_of_length_eq_zero (by rw [← lkR.1, z]; rfl))
      cases rs2 with
      | nil => exact absurd rfl this
      | cons v vs =>
        refine iteT ⟨_, rfl, (by show 2 ≤ sizeLine; decide), fun P2 nP2 => ?_⟩
        have s3 := same_upd (o := .tup [.str "ring", .ref R]) nP2
        exact q1 rs P2 R _ k _ (s12.trans s3) d1 d2 B hds upd_same (s1.free nR) (s3 _ _ hR) (lkR.same s3) hne hring l6
/-! ### OffTime is made -/
def sp_own_copy : Sp := fun vs H Q _ => ∃ (l : Addr) (xs : List V), vs = [.ref l] ∧ H l = some (.lst xs) ∧ ∀ m, H m = none → Q (.ref m) (upd H m (.lst xs))
theorem ok_own_copy (T : Txt K mg af fd) : FnOk P w K mg base CX0 1 (af 0) (fd 0) ["things"] sp_own_copy := by
  refine T.F_own_copy.ok sc_own_copy (fun vs H Q E h => ?_) (fun cdv A outer s H vs Q E hr h => ?_)
  · obtain ⟨l, xs, rfl, _⟩ := h
    rfl
  · obtain ⟨l, xs, rfl, hl, q⟩ := h
    refine ⟨_, (pss_one (ps_ret (pe_ifExp (pt_val (pe_callB call_isi (by rfl) T.m_isinstance (by decide +kernel) (pa_cons (pv 0) (pa_cons (pe_bltn (v := .ty "list") (by rfl) T.m_list (by decide +kernel) rfl) pa_nil)))) (pe_callTy call_list_of (by rfl) T.m_list (by decide +kernel) (pa_cons (pv 0) pa_nil)) (pv 0)))), ?_⟩
    refine ⟨_, rfl, _, _, _, _, true, rfl, ClsV.ty "list", TyX.base (.lst hl), kit_ty (by decide +kernel), _, rfl, iteT ?_⟩
    exact ⟨_, rfl, l, _, rfl, .inl (SqL.of hl), q⟩
def Kept (a : Addr) (H H2 : Hp) : Prop := ∀ b o, b ≠ a → H b = some o → H2 b = some o
def sp_iO (C : Addr) : Sp := fun vs H Q _ => ∃ (a l : Addr) (xs : List V), vs = [.ref a, .ref l] ∧ H a = some (exo a C none) ∧ H l = some (.lst xs) ∧ ∀ d m H2, Kept a H H2 → H d = none → d ≠ a → H2 a = some (exo a C (some d)) → H2 d = some (exd d [("links", .ref m)]) → H2 m = some (.lst xs) → Q .non H2
theorem exo_lst {e C : Addr} {d : Option Addr} {xs : List V} : exo e C d ≠ .lst xs := fun z => by
  have y : HO.ext _ = HO.lst xs := z
  cases y
theorem exd_lst {e : Addr} {fs : List (Str × V)} {xs : List V} : exd e fs ≠ .lst xs := fun z => by
  have y : HO.ext _ = HO.lst xs := z
  cases y
theorem kept1 {H : Hp} {a d : Addr} {o1 o2 : HO} (nd : H d = none) : Kept a H (upd (upd H d o1) a o2) := fun b o hb e => by
  rw [upd_ne hb, upd_ne (ne_of_none e nd)]
  exact e
theorem at1' {H : Hp} {a d : Addr} {o1 o2 : HO} (ne : d ≠ a) : (upd (upd H d o1) a o2) d = some o1 := by
  rw [upd_ne ne, upd_same]
theorem ok_init_OffTime (T : Txt K mg af fd) : FnOk P w K mg base CX0 2 (af 65) (fd 65) ["self", "links"] (sp_iO (af 64)) := by
  refine T.e_OffTime.F.ok sc_init_OffTime (fun vs H Q E h => ?_) (fun cdv A outer s H vs Q E hr h => ?_)
  · obtain ⟨a, l, xs, rfl, _⟩ := h
    rfl
  · obtain ⟨a, l, xs, rfl, ha, hl, q⟩ := h
    refine ⟨_, (pss_one (ps_ost (pv 0) (pe_call (ok_own_copy T) (hr.mono (by first | decide | omega)) (by rfl) T.g_own_copy T.F_own_copy.kp T.b_own_copy .nil pass0 (pa_cons (pv 1) pa_nil)))), ?_⟩
    refine ⟨_, rfl, l, xs, rfl, hl, fun m nm => ?_⟩
    have nma : a ≠ m := ne_of_none ha nm
    refine ⟨_, rfl, a, _, rfl, T.e_OffTime.T, T.e_OffTime.no _ List.mem_cons_self, .inl ⟨by rw [upd_ne nma]; exact ha, fun d nd ne => ?_⟩⟩
    have nd0 : H d = none := (same_upd nm).free nd
    refine q d m _ (fun b o hb e => kept1 nd b o hb (same_upd nm _ _ e)) nd0 ne upd_same (at1' ne) ?_
    exact kept1 nd m _ (Ne.symm nma) upd_same
/-! ### the greatest between two -/
inductive GrR (H : Hp) (ls : List LkS) (one other : Str) : V → Prop
  | same (P R : Addr) : one = other → H P = some (.tup [.int 0, .ref R]) → H R = some (.lst []) → GrR H ls one other (.ref P)
  | way (P R : Addr) (ws : List V) (k : List LkS) (n : Int) : one ≠ other → H P = some (.tup [.int n, .ref R]) → H R = some (.lst ws) → Lks H ws k → Bf.Chain ls one other k → n = Bf.sumL k → (∀ k', Bf.Chain ls one other k' → n ≤ Bf.sumL k') → k.length ≤ 6 → GrR H ls one other (.ref P)
  | none : one ≠ other → (∀ k, ¬ Bf.Chain ls one other k) → GrR H ls one other .non
theorem GrR.go {H H' : Hp} {ls : List LkS} {one other : Str} {v : V} (h : GrR H ls one other v) (s : Same H H') : GrR H' ls one other v := by
  cases h with
  | same P R e h1 h2 => exact .same P R e (s _ _ h1) (s _ _ h2)
  | way P R ws k n e h1 h2 h3 h4 h5 h6 h7 => exact .way P R ws k n e (s _ _ h1) (s _ _ h2) (h3.same s) h4 h5 h6 h7
  | none e h => exact .none e h
def homeS (c : Str) : Str → Option Int := Bf.put (fun _ => none) c (some 0)
theorem settled {ls : List LkS} {hs : List Str} {S0 : Str → Option Int} {f : Str → Int} (hk : Bf.Keeps ls f) (lin : ∀ l ∈ ls, l.1 ∈ hs ∧ l.2.1 ∈ hs) (h1 : 1 ≤ hs.length) : ∀ l ∈ ls, Bf.low (rdS ls S0 hs.length) l = none := by
  obtain ⟨n, hn⟩ : ∃ n, hs.length = n + 1 := ⟨hs.length - 1, by omega⟩
  have RD := rd_ok ls S0 hs.length
  have erd : rdS ls S0 hs.length = Bf.pass (rdS ls S0 n) (n * ls.length) ls := by rw [hn]; rfl
  cases hl : Bf.lastLow (rdS ls S0 n) (n * ls.length) ls none with
  | none =>
    obtain ⟨_, h2, h3⟩ := Bf.last_none _ _ _ _ hl
    rw [h2] at erd
    rw [erd]
    exact h3
  | some a =>
    have hT := Bf.last_some ls (rdS ls S0 n) (n * ls.length) (n * ls.length) none a (fun v => by have := (rd_ok ls S0 n).ok.le v; omega) (Nat.le_refl _) (fun b hb => nomatch hb) hl
    rw [← erd] at hT
    have := Bf.noLast hk RD lin a
    rw [show hs.length - 1 = n by omega] at this
    omega
theorem great_some {ls : List LkS} {hs : List Str} {f : Str → Int} {one other : Str} {y : Int} (hk : Bf.Keeps ls f) (lin : ∀ l ∈ ls, l.1 ∈ hs ∧ l.2.1 ∈ hs) (h1 : 1 ≤ hs.length) (ne : one ≠ other) (e : (rdS ls (homeS other) hs.length).S one = some y) :
    ∃ k, Bf.Wf (rdS ls (homeS other) hs.length).V other one k ∧ k.length ≤ hs.length ∧ Bf.Chain ls one other k ∧ y = Bf.sumL k ∧ ∀ k', Bf.Chain ls one other k' → y ≤ Bf.sumL k' := by
  have RD := rd_ok ls (homeS other) hs.length
  have least : ∀ k', Bf.Chain ls one other k' → y ≤ Bf.sumL k' := fun k' hc => by
    obtain ⟨z, ez, hz⟩ := Bf.least hk RD lin (Bf.noLast hk RD lin) (fun _ => settled hk lin h1) hc
    rw [e] at ez
    cases ez
    exact hz
  obtain ⟨k, wf, lk⟩ := Bf.reach hk RD lin ne e
  have ch := (wf.chain RD.ok).1
  obtain ⟨x, y', e1, e2, e3, _⟩ := wf.sums RD.ok
  rw [(Bf.home hk RD.ok).1] at e2
  rw [e] at e1
  cases e1
  cases e2
  have := least k ch
  exact ⟨k, wf, lk, ch, by omega, least⟩
theorem great_none {ls : List LkS} {hs : List Str} {f : Str → Int} {one other : Str} (hk : Bf.Keeps ls f) (lin : ∀ l ∈ ls, l.1 ∈ hs ∧ l.2.1 ∈ hs) (h1 : 1 ≤ hs.length) (e : (rdS ls (homeS other) hs.length).S one = none) : ∀ k, ¬ Bf.Chain ls one other k := fun k hc => by
  have RD := rd_ok ls (homeS other) hs.length
  obtain ⟨z, ez, _⟩ := Bf.least hk RD lin (Bf.noLast hk RD lin) (fun _ => settled hk lin h1) hc
  rw [e] at ez
  cases ez
theorem raisedK {H H3 : Hp} {a d : Addr} {o1 : HO} {fs : List (Str × V)} (na : H a = none) (nd : H d = none) (k : Kept a (upd H a o1) H3) : Same H (upd (del H3 a) d (.xd fs)) := fun b o e => by
  have hb : b ≠ a := ne_of_none e na
  rw [upd_ne (ne_of_none e nd), del_ne hb]
  exact k b o hb (by rw [upd_ne hb]; exact e)
def sp_greatest (CN CC CO : Addr) : Sp := fun vs H Q E => ∃ (Ex : Addr → Prop) (t l p : Addr) (one other : Str) (hs gs : List Str) (xs us : List V) (ds : List PyData) (ps : List PrK), vs = [.ref t, .ref l, .ref p, .str one, .str other] ∧ Ask Ex H t l hs gs xs ds ∧ 1 ≤ hs.length ∧ H p = some (.lst us) ∧ Pks H us ps ∧ ps.length ≤ 1000 ∧
  (∀ rs : List Row, Book hs rs → ds = rs.map rowD → ∀ p ∈ ps, Kn rs p) ∧
  (∀ (rs : List Row) (v : V) (H' : Hp), Same H H' → RowsD hs ds ds.length → NoClash ds ds.length → Book hs rs → ds = rs.map rowD → ¬ Ring (linksOf rs ps) → GrR H' (linksOf rs ps) one other v → Q v H') ∧
  (∀ (rs : List Row) (d m : Addr) (ws : List V) (k : List LkS) (H' : Hp), Same H H' → RowsD hs ds ds.length → NoClash ds ds.length → Book hs rs → ds = rs.map rowD → H' d = some (.xd [("links", .ref m)]) → H' m = some (.lst ws) → Lks H' ws k → IsRing (linksOf rs ps) k → k.length ≤ 6 → E (.ref CO) (some d) H') ∧ Refuse CN CC H hs ds E
theorem ok_greatest (T : Txt K mg af fd) : FnOk P w K mg base (L2.CX P w) 10 (af 38) (fd 38) ["town", "rows", "pairs", "one", "other"] (sp_greatest (af 60) (af 62) (af 64)) := by
  refine T.F_greatest.okX sc_greatest (fun vs H Q E h => ?_) (fun cdv A outer s H vs Q E hr h => ?_)
  · obtain ⟨Ex, t, l, p, one, other, hs, gs, xs, us, ds, ps, rfl, _⟩ := h
    rfl
  · obtain ⟨Ex, t, l, p, one, other, hs, gs, xs, us, ds, ps, rfl, hA, h1, hp, hps, hlen, hk, q, qx, r⟩ := h
    refine ⟨_, (pss_cons (ps_set (i := 5) sc_greatest.nd rfl (by first | exact Or.inl rfl | exact Or.inr rfl) (pe_call (ok_links_of T) (hr.mono (by first | decide | omega)) (by rfl) T.g_links_of T.F_links_of.kp T.b_links_of .nil (passes_call (takes_of rfl rfl rfl rfl) (fun _ _ _ _ h => h)) (pa_cons (pv 0) (pa_cons (pv 1) (pa_cons (pv 2) pa_nil)))))
        (pss_cons (ps_asg (pe_call (ok_settle T) (hr.mono (by first | decide | omega)) (by rfl) T.g_settle T.F_settle.kp T.b_settle .nil pass0 (pa_cons (pe_ix ix_tup (pv 0) pe_int (fun _ _ => rfl)) (pa_cons (pv 5) pa_nil))) (pg_tup rfl (pgs_cons (pg_name (i := 6) sc_greatest.nd rfl (by first | exact Or.inl rfl | exact Or.inr rfl)) (pgs_cons (pg_name (i := 7) sc_greatest.nd rfl (by first | exact Or.inl rfl | exact Or.inr rfl)) pgs_nil))))
        (pss_cons (ps_if (pt_truth (pv 7) (by intro _; rfl)) (pss_one (ps_raise rfl (takes_of rfl rfl rfl rfl) (pmk_oex T.e_OffTime.T T.e_OffTime.iC T.e_OffTime.tI (ok_init_OffTime T) (hr.mono (by decide)) T.e_OffTime.b .nil pass0 (by rfl) T.e_OffTime.g (pa_cons (pv 7) pa_nil)))) pss_nil)
        (pss_cons (ps_if (pt_cmpR op_eq (pv 3) (pv 4) (nomark _)) (pss_one (ps_ret (pe_tup (pa_cons pe_int (pa_cons (pe_lst pa_nil) pa_nil))))) pss_nil)
        (pss_cons (ps_set (i := 8) sc_greatest.nd rfl (by first | exact Or.inl rfl | exact Or.inr rfl) (pe_disp (pps_cons (pv 4) pe_int pps_nil) (by rfl) (by rfl) (fun z => by cases z) (by decide)))
        (pss_cons (ps_set (i := 9) sc_greatest.nd rfl (by first | exact Or.inl rfl | exact Or.inr rfl) pe_dnewK)
        (pss_cons (ps_for (passes_of rfl) rfl (pi_tup (pe_ix ix_tup (pv 0) pe_int (fun _ _ => rfl))) (pg_name (i := 10) sc_greatest.nd rfl (by first | exact Or.inl rfl | exact Or.inr rfl)) (pss_one (ps_expr (pe_call (ok_tighten T) (hr.mono (by first | decide | omega)) (by rfl) T.g_tighten T.F_tighten.kp T.b_tighten .nil pass0 (pa_cons (pv 5) (pa_cons (pv 8) (pa_cons (pv 9) pa_nil)))))))
        (pss_one (ps_ret (pe_ifExp (pt_cmp (pc_din (hu_of hr) (pv 3) (pv 8))) (pe_tup (pa_cons (pe_dget (hu_of hr) (pv 8) (pv 3) (fun _ _ => rfl)) (pa_cons (pe_call (ok_way_from T) (hr.mono (by first | decide | omega)) (by rfl) T.g_way_from T.F_way_from.kp T.b_way_from .nil pass0 (pa_cons (pv 3) (pa_cons (pv 4) (pa_cons (pv 9) pa_nil)))) pa_nil))) pe_non)))))))))), ?_⟩
    obtain ⟨th, tg, ht, hth, htg⟩ := hA.town
    refine ⟨_, rfl, _, rfl, _, rfl, Ex, t, l, p, hs, gs, xs, us, ds, ps, rfl, hA, hp, hps, hlen, hk, (fun rs L ws H1 s1 d1 d2 B hds nL hL lk => ?_), r⟩
    have ll : (linksOf rs ps).length ≤ 5000 := by have := links_len (rs := rs) (ps := ps); omega
    have lin := links_in B ps
    refine ⟨_, rfl, t, _, 0, _, rfl, rfl, SqT.of (s1 _ _ ht), rfl, _, rfl, th, L, hs, ws, linksOf rs ps, rfl, s1 _ _ hth, hL, lk, ll, lin, hA.nd, h1, hA.h6, hA.ok, fun P S R kS f rs2 k H2 s2 hP nS nR hS D hR lkR so l6 => ?_⟩
    refine ⟨P, _, rfl, SqT.of hP, rfl, _, _, rfl, _, _, rfl, rfl, ?_⟩
    have s12 := s1.trans s2
    refine ⟨_, rfl, _, .inl ⟨rs2, SqL.of hR, rfl⟩, ?_⟩
    rcases so with ⟨rfl, keeps⟩ | ⟨hne, hring⟩
    rotate_left
    · have : rs2 ≠ [] := fun z => hne (List.eq_nil_of_length_eq_zero (by rw [← lkR.1, z]; rfl))
      cases rs2 with
      | nil => exact absurd rfl this
      | cons v vs =>
        refine iteT ⟨_, rfl, (by show 1 ≤ 1000; decide), fun a na => ⟨a, R, v :: vs, rfl, upd_same, same_upd na _ _ hR, fun d m H3 kept nd ne ha hd hm => ⟨rfl, d, [("links", .ref m)], ha, hd, ?_, ?_⟩⟩⟩
        · exact (same_upd na).free nd
        · have nd2 : H2 d = none := (same_upd na).free nd
          have nma : m ≠ a := fun z => by rw [z, ha] at hm; exact exo_lst (Option.some.inj hm)
          have nmd : m ≠ d := fun z => by rw [z, hd] at hm; exact exd_lst (Option.some.inj hm)
          have s3 : Same H2 (upd (del H3 a) d (.xd [("links", .ref m)])) := raisedK na nd2 kept
          refine qx rs d m (v :: vs) k _ (s12.trans s3) d1 d2 B hds upd_same ?_ (lkR.same s3) ⟨hne, hring⟩ l6
          rw [upd_ne nmd, del_ne nma]
          exact hm
    obtain rfl : rs2 = [] := List.eq_nil_of_length_eq_zero lkR.1
    refine iteF ?_
    have nring : ¬ Ring (linksOf rs ps) := keeps_no keeps
    refine ⟨_, rfl, _, rfl, rfl, _, rfl, ite2 (fun e => ?_) (fun e => ?_)⟩
    · have e : one = other := V.str.inj (of_decide_eq_true e)
      refine ⟨Nat.zero_le _, fun R2 nR2 => ?_⟩
      have s3 := same_upd (o := .lst []) nR2
      refine ⟨(by show 2 ≤ sizeLine; decide), fun P2 nP2 => ?_⟩
      have s4 := same_upd (o := .tup [.int 0, .ref R2]) nP2
      exact q rs (.ref P2) _ ((s12.trans s3).trans s4) d1 d2 B hds nring (.same P2 R2 e upd_same (s4 _ _ upd_same))
    have ne : one ≠ other := fun z => e (decide_eq_true (congrArg V.str z))
    intro S2 nS2
    refine ⟨_, rfl, upd_same, [((Sum.inr other : Key), V.int 0)], rfl, (by show 1 ≤ 15; decide), ?_⟩
    have em : mergeK [] [((Sum.inr other : Key), V.int 0)] = [((Sum.inr other : Key), V.int 0)] := rfl
    rw [em]
    have s3 : Same H2 (upd (upd H2 S2 (.dK [])) S2 (.dK [((Sum.inr other : Key), V.int 0)])) := same_mut (same_upd nS2) nS2
    have hS3 : (upd (upd H2 S2 (.dK [])) S2 (.dK [((Sum.inr other : Key), V.int 0)])) S2 = some (.dK [((Sum.inr other : Key), V.int 0)]) := upd_same
    generalize upd (upd H2 S2 (.dK [])) S2 (.dK [((Sum.inr other : Key), V.int 0)]) = H3 at s3 hS3 ⊢
    intro D2 nD2
    have s4 : Same H3 (upd H3 D2 (.dK [])) := same_upd nD2
    have hD4 : (upd H3 D2 (.dK [])) D2 = some (.dK []) := upd_same
    generalize upd H3 D2 (.dK []) = H4 at s4 hD4 ⊢
    have nSD : S2 ≠ D2 := fun z => by rw [z] at hS3; rw [hS3] at nD2; cases nD2
    have s34 := s3.trans s4
    have nD2' := s3.free nD2
    have s04 := s12.trans s34
    have bf0 : BfAt H4 S2 D2 [((Sum.inr other : Key), V.int 0)] [] (rdS (linksOf rs ps) (homeS other) 0) 1 := by
      refine ⟨s4 _ _ hS3, hD4, fun h => ?_, fun h _ => rfl, (fun h l e => nomatch e), Nat.le_refl _, Nat.zero_le _⟩
      show valV [((Sum.inr other : Key), V.int 0)] (Sum.inr h) = (homeS other h).map V.int
      unfold homeS
      by_cases c : h = other
      · rw [c, Bf.put_eq, valV_pos rfl]
        rfl
      · rw [Bf.put_ne _ _ c, valV_neg (fun z => c (Sum.inr.inj z).symm)]
        rfl
    have frame : ∀ {G : Hp}, (∀ b o, b ≠ S2 → b ≠ D2 → H4 b = some o → G b = some o) → Same H2 G := fun fr b o e => fr b o (ne_of_none e nS2) (ne_of_none e nD2') (s34 b o e)
    refine ⟨_, rfl, t, _, 0, _, rfl, rfl, SqT.of (s04 _ _ ht), rfl, th, rfl, ⟨_, SqT.of (s04 _ _ hth)⟩, ?_⟩
    refine for_it (walk_tup (K := K) (a := th) (xs := hs.map V.str)) (fun i σ G => (∃ v10 : Option V, σ = [some (.ref t), some (.ref l), some (.ref p), some (.str one), some (.str other), some (.ref L), some (.ref S), some (.ref R), some (.ref S2), some (.ref D2), v10]) ∧ (∀ b o, b ≠ S2 → b ≠ D2 → H4 b = some o → G b = some o) ∧ ∃ kS kT, BfAt G S2 D2 kS kT (rdS (linksOf rs ps) (homeS other) i) (1 + i * (linksOf rs ps).length))
      ⟨⟨none, rfl⟩, fun b o _ _ e => e, _, _, by rw [Nat.zero_mul]; exact bf0⟩ (fun i σ G _ h => SqT.of (frame h.2.1 _ _ (s12 _ _ hth))) ?_ ?_
    · rintro i v σ G1 G2 hi ⟨⟨v10, rfl⟩, fr, kS', kT', b⟩ ⟨rfl, ev⟩
      rw [List.length_map] at hi
      have g := frame fr
      have g2 := s2.trans g
      have hb : 1 + i * (linksOf rs ps).length + (linksOf rs ps).length ≤ 1000000 := by
        have h6 := hA.h6
        have : i * (linksOf rs ps).length ≤ 6 * 5000 := Nat.mul_le_mul (by omega) ll
        omega
      refine ⟨_, rfl, _, rfl, _, rfl, L, S2, D2, ws, linksOf rs ps, kS', kT', rdS (linksOf rs ps) (homeS other) i, 1 + i * (linksOf rs ps).length, i * (linksOf rs ps).length, rfl, g2 _ _ hL, lk.same g2, b, nSD, hb, fun kS2 kT2 G3 fr3 b3 _ => ?_⟩
      refine ⟨⟨_, rfl⟩, fun c o n1 n2 e => fr3 c o n1 n2 (fr c o n1 n2 e), kS2, kT2, ?_⟩
      rw [Nat.succ_mul, ← Nat.add_assoc]
      exact b3
    · rintro σ G1 ⟨⟨v10, rfl⟩, fr, kS', kT', b⟩
      rw [List.length_map] at b
      have g := s12.trans (frame fr)
      have gd := DGet.k (k := Sum.inr one) b.hs
      rw [b.vs] at gd
      refine ⟨_, rfl, _, rfl, S2, _, rfl, gd, _, rfl, ?_⟩
      cases eo : (rdS (linksOf rs ps) (homeS other) hs.length).S one with
      | none => exact iteF (q rs .non G1 g d1 d2 B hds nring (.none ne (great_none keeps lin h1 eo)))
      | some y =>
        rw [eo] at gd
        obtain ⟨k, wf, lkk, ch, ey, least⟩ := great_some keeps lin h1 ne eo
        refine iteT ⟨_, rfl, _, rfl, S2, _, rfl, gd, _, rfl, _, rfl, _, rfl, one, other, D2, kT', _, k, rfl, b.hv, b.v1, wf, by have := hA.h6; omega, fun R3 rs3 G3 s5 nR3 hR3 lkR3 => ?_⟩
        refine ⟨(by show 2 ≤ sizeLine; decide), fun P2 nP2 => ?_⟩
        have s6 := same_upd (o := .tup [.int y, .ref R3]) nP2
        exact q rs (.ref P2) _ ((g.trans s5).trans s6) d1 d2 B hds nring (.way P2 R3 rs3 k y ne upd_same (s6 _ _ hR3) (lkR3.same s6) ch ey least (by have := hA.h6; omega))
/-! ### whether links are a ring -/
def keyL (l : LkS) : List Key := [Sum.inr l.1, Sum.inr l.2.1, Sum.inl l.2.2]
theorem keyL_inj {l k : LkS} (h : keyL l = keyL k) : l = k := by
  injection h with h1 h2
  injection h2 with h2 h3
  injection h3 with h3 _
  obtain ⟨a, b, c⟩ := l
  obtain ⟨x, y, z⟩ := k
  obtain rfl : a = x := Sum.inr.inj h1
  obtain rfl : b = y := Sum.inr.inj h2
  obtain rfl : c = z := Sum.inl.inj h3
  rfl
/-- the one ahead of number i, in a round -/
def prevI (n i : Nat) : Nat := if i = 0 then n - 1 else i - 1
def Cyc (ch : List LkS) (i : Nat) : Prop := ∀ x y, ch[prevI ch.length i]? = some x → ch[i]? = some y → x.2.1 = y.1
theorem chain_iff {ls : List LkS} : ∀ {k : List LkS} {a b : Str}, k ≠ [] → (Bf.Chain ls a b k ↔ (∀ x ∈ k, x ∈ ls) ∧ (∀ x, k[0]? = some x → x.1 = a) ∧ (∀ i x y, k[i]? = some x → k[i + 1]? = some y → x.2.1 = y.1) ∧ ∀ x, k[k.length - 1]? = some x → x.2.1 = b)
  | [], _, _, h => absurd rfl h
  | [l], a, b, _ => by
    constructor
    · rintro ⟨h1, h2, h3⟩
      refine ⟨fun x m => by rw [List.mem_singleton.mp m]; exact h1, fun x e => by cases e; exact h2, (fun i x y _ e => by cases i <;> cases e), fun x e => by cases e; exact h3⟩
    · rintro ⟨h1, h2, _, h4⟩
      exact ⟨h1 l List.mem_cons_self, h2 l rfl, h4 l rfl⟩
  | l :: l' :: k, a, b, _ => by
    have ih := chain_iff (ls := ls) (k := l' :: k) (a := l.2.1) (b := b) (fun z => nomatch z)
    constructor
    · rintro ⟨h1, h2, h3⟩
      obtain ⟨i1, i2, i3, i4⟩ := ih.mp h3
      refine ⟨fun x m => ?_, fun x e => by cases e; exact h2, fun i x y e1 e2 => ?_, fun x e => i4 x e⟩
      · rcases List.mem_cons.mp m with rfl | m
        · exact h1
        · exact i1 x m
      · cases i with
        | zero =>
          cases e1
          exact (i2 y e2).symm
        | succ i => exact i3 i x y e1 e2
    · rintro ⟨h1, h2, h3, h4⟩
      exact ⟨h1 l List.mem_cons_self, h2 l rfl, ih.mpr ⟨fun x m => h1 x (List.mem_cons_of_mem _ m), fun x e => (h3 0 l x rfl e).symm, fun i x y e1 e2 => h3 (i + 1) x y e1 e2, fun x e => h4 x e⟩⟩
theorem ring_cyc {ls ch : List LkS} (ne : ch ≠ []) : (∃ u, Bf.Chain ls u u ch) ↔ (∀ x ∈ ch, x ∈ ls) ∧ ∀ i, i < ch.length → Cyc ch i := by
  have hl : 0 < ch.length := List.length_pos_iff.mpr ne
  have e0 : ch[0]? = some ch[0] := List.getElem?_eq_getElem hl
  constructor
  · rintro ⟨u, h⟩
    obtain ⟨h1, h2, h3, h4⟩ := (chain_iff ne).mp h
    refine ⟨h1, fun i hi x y e1 e2 => ?_⟩
    unfold prevI at e1
    by_cases c : i = 0
    · rw [if_pos c] at e1
      subst c
      rw [h4 x e1, h2 y e2]
    · rw [if_neg c] at e1
      exact h3 (i - 1) x y e1 (by rw [show i - 1 + 1 = i by omega]; exact e2)
  · rintro ⟨h1, h2⟩
    refine ⟨(ch[0]).1, (chain_iff ne).mpr ⟨h1, fun x e => by rw [e0] at e; cases e; rfl, fun i x y e1 e2 => ?_, fun x e => ?_⟩⟩
    · have hi := (List.getElem?_eq_some_iff.mp e2).1
      exact h2 (i + 1) hi x y (by unfold prevI; rw [if_neg (by omega), Nat.add_sub_cancel]; exact e1) e2
    · exact h2 0 hl x _ (by unfold prevI; rw [if_pos rfl]; exact e) e0
theorem sum_snoc (k : List LkS) (l : LkS) : Bf.sumL (k ++ [l]) = Bf.sumL k + l.2.2 := by
  unfold Bf.sumL
  rw [List.map_append, List.sum_append]
  show _ + (l.2.2 + 0) = _
  omega
theorem at_nat {α : Type} {xs : List α} {i : Nat} {x : α} (h : xs[i]? = some x) : atI xs (i : Int) = some x := by
  exact atI_nat h
theorem at_prev {α : Type} {xs : List α} {i : Nat} (hi : i < xs.length) : atI xs (0 + (i : Nat) - 1) = xs[prevI xs.length i]? := by
  unfold prevI
  by_cases c : i = 0
  · rw [if_pos c]
    subst c
    unfold atI ixN
    rw [if_neg (by omega), if_pos (by omega)]
    show xs[_]? = _
    congr 1
    omega
  · rw [if_neg c]
    have e : xs[i - 1]? = some xs[i - 1] := List.getElem?_eq_getElem (by omega)
    rw [show (0 + (i : Int) - 1) = ((i - 1 : Nat) : Int) by omega, atI_nat e, e]
def sp_is_ring (af : Nat → Addr) (CN CC : Addr) : Sp := fun vs H Q E => ∃ (Ex : Addr → Prop) (t l p C : Addr) (hs gs : List Str) (xs us cs : List V) (ds : List PyData) (ps : List PrK) (ch : List LkS), vs = [.ref t, .ref l, .ref p, .ref C] ∧ Ask Ex H t l hs gs xs ds ∧ H p = some (.lst us) ∧ Pks H us ps ∧ ps.length ≤ 1000 ∧
  (∀ rs : List Row, Book hs rs → ds = rs.map rowD → ∀ p ∈ ps, Kn rs p) ∧ H C = some (.lst cs) ∧ Lks H cs ch ∧ ch.length ≤ 1000 ∧ Tbs af H ∧ (∀ (rs : List Row) (z : Bool) (H' : Hp), Sm H H' → RowsD hs ds ds.length → NoClash ds ds.length → Book hs rs → ds = rs.map rowD → (z = true ↔ IsRing (linksOf rs ps) ch) → Q (.bl z) H') ∧ Refuse CN CC H hs ds E
theorem ok_is_ring (T : Txt K mg af fd) (B : TxtB base mg af) : FnOk P w K mg base (L2.CX P w) 10 (af 36) (fd 36) ["town", "rows", "pairs", "links"] (sp_is_ring af (af 60) (af 62)) := by
  refine Gx.okCX T.F_is_ring T.d_is_ring sc_is_ring (fun vs H Q E h => ?_) (fun A outer s H vs Q E hr h => ?_)
  · obtain ⟨Ex, t, l, p, C, hs, gs, xs, us, cs, ds, ps, ch, rfl, _⟩ := h
    rfl
  · obtain ⟨Ex, t, l, p, C, hs, gs, xs, us, cs, ds, ps, ch, rfl, hA, hp, hps, hlen, hk, hC, ck, lc, tb, q, r⟩ := h
    refine ⟨_, (pss_cons (ps_set (i := 4) sc_is_ring.nd rfl (by first | exact Or.inl rfl | exact Or.inr rfl) (Gr.pe_dcd true (own := [("link", 5)]) (g := gName 5) (hu_of hr) (by rfl) sc_is_ring.nd (pi_list (pe_call (ok_links_of T) (hr.mono (by first | decide | omega)) (by rfl) T.g_links_of T.F_links_of.kp T.b_links_of .nil (passes_call (takes_of rfl rfl rfl rfl) (fun _ _ _ _ h => h)) (pa_cons (pv 0) (pa_cons (pv 1) (pa_cons (pv 2) pa_nil))))) (blkOk_by (own := [("link", 5)]) (N := ["town", "rows", "pairs", "links", "own", "link", "at", "one", "other", "most"]) (sc := defScope s_is_ring) (by decide +kernel)) (fun _ _ _ _ _ => pg_name (i := 5) sc_is_ring.nd rfl (Or.inl rfl)) (fun _ _ _ _ _ => pts_nil) (fun _ _ _ _ _ => (pv 5)) (fun _ _ _ _ _ => pe_bl)))
        (pss_cons (ps_if (PW.pt (pw_or (pt_not (pt_truth (pv 3) (by intro _; rfl))) (pw_or1 (pt_not (pt_val (Gx.pe_all (k := 8) (own := [("link", 5)]) (gt := gName 5) (hr.mono (by first | decide | omega)) (by rfl) T.m_all B.t_is_ring rfl sc_is_ring.nd (pi_list (pv 3)) (blkOk_by (own := [("link", 5)]) (N := ["town", "rows", "pairs", "links", "own", "link", "at", "one", "other", "most"]) (sc := defScope s_is_ring) (by decide +kernel)) (fun _ _ _ _ _ _ _ hr => pg_name (i := 5) sc_is_ring.nd rfl (Or.inl rfl)) (fun _ _ _ _ _ _ _ hr => (pe_cmp (pc_din (hu_of hr) (pv 5) (pv 4)))))))))) (pss_one (ps_ret pe_bl)) pss_nil)
        (pss_cons (ps_if (pt_not (pt_val (Gx.pe_all (k := 8) (own := [("at", 6)]) (gt := gName 6) (hr.mono (by first | decide | omega)) (by rfl) T.m_all B.t_is_ring rfl sc_is_ring.nd (pi_range1 (by rfl) T.m_range (pa_cons (pe_callB call_len_seq (by rfl) T.m_len (by decide +kernel) (pa_cons (pv 3) pa_nil)) pa_nil)) (blkOk_by (own := [("at", 6)]) (N := ["town", "rows", "pairs", "links", "own", "link", "at", "one", "other", "most"]) (sc := defScope s_is_ring) (by decide +kernel)) (fun _ _ _ _ _ _ _ hr => pg_name (i := 6) sc_is_ring.nd rfl (Or.inl rfl)) (fun _ _ _ _ _ _ _ hr => (pe_cmpR op_eq (pe_ix (show IxR _ (rIxT K) from ix_tup) (pe_ix (show IxR _ (rIxL K) from ix_list) (pv 3) (pe_op op_sub (pv 6) pe_int) (fun _ _ => rfl)) pe_int (fun _ _ => rfl)) (pe_ix (show IxR _ (rIxT K) from ix_tup) (pe_ix (show IxR _ (rIxL K) from ix_list) (pv 3) (pv 6) (fun _ _ => rfl)) pe_int (fun _ _ => rfl)) (nomark _)))))) (pss_one (ps_ret pe_bl)) pss_nil)
        (pss_one (ps_ret (pe_cmpR op_lt (Gx.pe_sum (k := 8) (own := [("one", 7), ("other", 8), ("most", 9)]) (gt := gTup K 3 (gCons (gName 7) (gCons (gName 8) (gCons (gName 9) gNil)))) (hr.mono (by first | decide | omega)) (by rfl) T.m_sum B.t_is_ring rfl sc_is_ring.nd (pi_list (pv 3)) (blkOk_by (own := [("one", 7), ("other", 8), ("most", 9)]) (N := ["town", "rows", "pairs", "links", "own", "link", "at", "one", "other", "most"]) (sc := defScope s_is_ring) (by decide +kernel)) (fun _ _ _ _ _ _ _ hr => pg_tup rfl (pgs_cons (pg_name (i := 7) sc_is_ring.nd rfl (Or.inl rfl)) (pgs_cons (pg_name (i := 8) sc_is_ring.nd rfl (Or.inl rfl)) (pgs_cons (pg_name (i := 9) sc_is_ring.nd rfl (Or.inl rfl)) pgs_nil)))) (fun _ _ _ _ _ _ _ hr => (pv 9))) pe_int (nomark _))))))), ?_⟩
    refine ⟨_, rfl, _, rfl, _, rfl, Ex, t, l, p, hs, gs, xs, us, ds, ps, rfl, hA, hp, hps, hlen, hk, (fun rs L ws H1 s1 h1 h2 Bk hds nL hL lk => ?_), r⟩
    have q0 := fun z H' (s : Sm H1 H') => q rs z H' ((Sm.of s1).trans s) h1 h2 Bk hds
    have ll : (linksOf rs ps).length ≤ 5000 := by have := links_len (rs := rs) (ps := ps); omega
    generalize linksOf rs ps = ls at lk q0 ll
    refine ⟨L, rfl, ⟨_, SqL.of hL⟩, fun D nD => ?_⟩
    refine Gr.dcd_it (walk_list (K := K) (a := L) (xs := ws)) (fun i G => Same H1 G ∧ ∃ kvs : List (List Key × V), G D = some (.dT kvs) ∧ kvs.length ≤ i ∧ ∀ l, (valV kvs (keyL l)).isSome = true ↔ l ∈ ls.take i)
      ⟨same_upd nD, [], upd_same, Nat.le_refl _, fun l => by rw [List.take_zero]; exact ⟨(fun z => nomatch z), fun z => nomatch z⟩⟩ (fun i G _ h => SqL.of (h.1 _ _ hL)) ?_ ?_
    · rintro i v G1 G2 hi ⟨g, kvs, hD, lk1, hm⟩ ⟨rfl, hv⟩
      have hir : i < ls.length := by rw [← lk.1]; exact hi
      have er : ls[i]? = some ls[i] := List.getElem?_eq_getElem hir
      generalize ls[i] = x at er
      obtain ⟨b, e1, e2⟩ := lk.2 i x er
      obtain rfl : V.ref b = v := Option.some.inj (e1.symm.trans hv)
      refine ⟨rfl, yes_if ⟨_, rfl, _, DPut.t (k := keyL x) hD (g _ _ e2) (small_line (by omega)), same_mut g nD, _, upd_same, put_len lk1, fun l => ?_⟩⟩
      rw [valV_put, take_snoc er]
      by_cases c : l = x
      · rw [if_pos (congrArg keyL c), c]
        exact ⟨fun _ => List.mem_append_right _ List.mem_cons_self, fun _ => rfl⟩
      · rw [if_neg (fun z => c (keyL_inj z)), hm l]
        constructor
        · exact fun m => List.mem_append_left _ m
        · intro m
          rcases List.mem_append.mp m with m | m
          · exact m
          · exact absurd (List.mem_singleton.mp m) c
    rintro H2 ⟨s2, kvs, hD, _, hm⟩
    rw [lk.1, List.take_length] at hm
    have s12 := s1.trans s2
    have hC2 := s12 _ _ hC
    have ck2 := ck.same s12
    have q1 := fun z H' (s : Sm H2 H') => q0 z H' ((Sm.of s2).trans s)
    refine ⟨_, rfl, _, .inl ⟨cs, SqL.of hC2, rfl⟩, ?_⟩
    by_cases ne : ch = []
    · subst ne
      obtain rfl : cs = [] := List.eq_nil_of_length_eq_zero ck.1
      exact iteT (iteT (q1 false H2 (.refl H2) ⟨(fun z => nomatch z), fun z => absurd rfl z.1⟩))
    have ece : (!cs.isEmpty) = true := by
      cases cs with
      | nil => exact absurd (List.eq_nil_of_length_eq_zero ck.1.symm) ne
      | cons _ _ => rfl
    rw [ece]
    have tb2 : Tbs af H2 := tb.same s12
    refine iteF ⟨_, rfl, C, rfl, ⟨_, SqL.of hC2⟩, tb2 _ (by decide), fun H3 tb3 => ?_⟩
    have s3 := Sm.tabbed (tb2 _ (by decide)) tb3
    have hC3 := s3.lst hC2
    have hD3 := s3.dT hD
    have ck3 := ck2.go fun b ys e => s3.tup e
    have q2 := fun z H' (s : Sm H3 H') => q1 z H' (s3.trans s)
    have rc := ring_cyc (ls := ls) ne
    refine Gx.gx_it (walk_list (K := K) (a := C) (xs := cs)) (fun i G => G = H3 ∧ ∀ x ∈ ch.take i, x ∈ ls) ⟨rfl, fun x m => by rw [List.take_zero] at m; exact nomatch m⟩ (fun _ _ _ z => by rw [z.1]; exact SqL.of hC3) ?_ ?_
    · rintro i v G1 G2 hi ⟨rfl, hall⟩ ⟨rfl, hv⟩
      have hir : i < ch.length := by rw [← ck.1]; exact hi
      have er : ch[i]? = some ch[i] := List.getElem?_eq_getElem hir
      generalize ch[i] = x at er
      obtain ⟨b, e1, e2⟩ := ck3.2 i x er
      obtain rfl : V.ref b = v := Option.some.inj (e1.symm.trans hv)
      have gd := DGet.t (k := keyL x) hD3 e2
      refine ⟨rfl, _, rfl, _, rfl, D, _, rfl, gd, _, rfl, ?_⟩
      by_cases mx : x ∈ ls
      · rw [(hm x).mpr mx]
        refine ⟨rfl, fun y m => ?_⟩
        rw [take_snoc er] at m
        rcases List.mem_append.mp m with m | m
        · exact hall y m
        · rw [List.mem_singleton.mp m]
          exact mx
      · have e0 : (valV kvs (keyL x)).isSome = false := by
          cases e : (valV kvs (keyL x)).isSome with
          | false => rfl
          | true => exact absurd ((hm x).mp e) mx
        rw [e0]
        refine ⟨_, rfl, iteT ?_⟩
        refine q2 false _ (.refl _) ⟨(fun z => nomatch z), fun z => ?_⟩
        exact absurd ((rc.mp ⟨_, z.2.choose_spec.1⟩).1 x (List.mem_of_getElem? er)) mx
    rintro G1 ⟨rfl, hall⟩
    rw [ck.1, List.take_length] at hall
    refine ⟨_, rfl, iteF ?_⟩
    have tb3' : Tbs af G1 := tb2.sm s3
    refine ⟨_, rfl, C, _, rfl, .inl (SqL.of hC3), _, rfl, by omega, ?_, tb3' _ (by decide), fun H4 tb4 => ?_⟩
    · have := ck.1
      omega
    have s4 := Sm.tabbed (tb3' _ (by decide)) tb4
    have hC4 := s4.lst hC3
    have ck4 := ck3.go fun b ys e => s4.tup e
    have q3 := fun z H' (s : Sm H4 H') => q2 z H' (s4.trans s)
    have eN : ((cs.length : Int)).toNat = ch.length := by rw [ck.1]; omega
    refine Gx.gx_it (walk_range (lo := 0) (n := ((cs.length : Int)).toNat)) (fun i G => G = H4 ∧ ∀ j, j < i → Cyc ch j) ⟨rfl, fun j hj => absurd hj (Nat.not_lt_zero j)⟩ (fun _ _ _ _ => trivial) ?_ ?_
    · rintro i v G2 G3 hi ⟨rfl, hall⟩ hy
      obtain ⟨rfl, rfl⟩ := hy
      rw [eN] at hi
      have hpi : prevI ch.length i < ch.length := by unfold prevI; split <;> omega
      have ex : ch[prevI ch.length i]? = some ch[prevI ch.length i] := List.getElem?_eq_getElem hpi
      have ey : ch[i]? = some ch[i] := List.getElem?_eq_getElem hi
      generalize ch[prevI ch.length i] = x at ex
      generalize ch[i] = y at ey
      obtain ⟨b1, f1, f2⟩ := ck4.2 _ x ex
      obtain ⟨b2, f3, f4⟩ := ck4.2 _ y ey
      have a1 : atI cs (0 + (i : Nat) - 1) = some (.ref b1) := by rw [at_prev (by rw [ck.1]; exact hi), ck.1]; exact f1
      have a2 : atI cs (0 + (i : Nat)) = some (.ref b2) := by rw [Int.zero_add]; exact at_nat f3
      refine ⟨rfl, _, rfl, _, rfl, _, _, rfl, rfl, C, _, _, _, rfl, rfl, SqL.of hC4, a1, b1, _, 1, _, rfl, rfl, SqT.of f2, rfl, _, rfl, _, rfl, C, _, _, _, rfl, rfl, SqL.of hC4, a2, b2, _, 0, _, rfl, rfl, SqT.of f4, rfl, rfl, _, rfl, ?_⟩
      by_cases c : x.2.1 = y.1
      · rw [decide_eq_true (congrArg V.str c)]
        refine ⟨rfl, fun j hj => ?_⟩
        by_cases cj : j = i
        · subst cj
          intro x' y' e1 e2
          rw [ex] at e1
          rw [ey] at e2
          cases e1
          cases e2
          exact c
        · exact hall j (by omega)
      · rw [decide_eq_false (fun z => c (V.str.inj z))]
        refine ⟨_, rfl, iteT ?_⟩
        refine q3 false _ (.refl _) ⟨(fun z => nomatch z), fun z => ?_⟩
        exact absurd ((rc.mp ⟨_, z.2.choose_spec.1⟩).2 i hi x y ex ey) c
    rintro G2 ⟨rfl, hcyc⟩
    rw [eN] at hcyc
    refine ⟨_, rfl, iteF ?_⟩
    have chain := rc.mpr ⟨hall, hcyc⟩
    have tb4' : Tbs af G2 := tb3'.sm s4
    refine ⟨_, rfl, C, rfl, ⟨_, SqL.of hC4⟩, tb4' _ (by decide), fun H5 tb5 => ?_⟩
    have s5 := Sm.tabbed (tb4' _ (by decide)) tb5
    have hC5 := s5.lst hC4
    have ck5 := ck4.go fun b ys e => s5.tup e
    refine Gx.gs_it (walk_list (K := K) (a := C) (xs := cs)) (fun i => Bf.sumL (ch.take i)) (by rw [List.take_zero]; rfl) (fun i G => G = H5) rfl (fun _ _ _ z => by rw [z]; exact SqL.of hC5) ?_ ?_
    · rintro i v G3 G4 hi rfl ⟨rfl, hv⟩
      have hir : i < ch.length := by rw [← ck.1]; exact hi
      have er : ch[i]? = some ch[i] := List.getElem?_eq_getElem hir
      generalize ch[i] = x at er
      obtain ⟨b, e1, e2⟩ := ck5.2 i x er
      obtain rfl : V.ref b = v := Option.some.inj (e1.symm.trans hv)
      refine ⟨b, _, rfl, SqT.of e2, rfl, _, _, rfl, _, _, rfl, _, _, rfl, rfl, rfl, _, rfl, ?_, rfl⟩
      rw [take_snoc er, sum_snoc]
      congr 1
      omega
    · rintro G3 rfl
      rw [ck.1, List.take_length]
      refine ⟨_, _, rfl, rfl, q3 _ _ s5 ?_⟩
      rw [decide_eq_true_eq]
      constructor
      · exact fun h => ⟨ne, chain.choose, chain.choose_spec, h⟩
      · exact fun ⟨_, _, _, h⟩ => h
/-! ### rows whose houses' clocks are set on -/
def setR (m : Str → Int) : Row → Row
  | .ask h g k n o b => .ask h g k n (o + m h) (b + m h)
  | .job h k o b => .job h k (o + m h) (b + m h)
  | .all h a j => .all h a j
theorem clash_set {m : Str → Int} : ∀ {r t : Row}, ClashP (setR m r) (setR m t) → ClashP r t
  | .ask h g k n o b, .ask h' g' k' n' o' b', ⟨e, ne, c⟩ => by
    subst e
    exact ⟨rfl, fun z => ne (congrArg (setR m) z), by omega⟩
  | .job h k o b, .job h' k' o' b', ⟨e, ne, c⟩ => by
    subst e
    exact ⟨rfl, fun z => ne (congrArg (setR m) z), by omega⟩
  | .all h a j, .all h' a' j', c => c
  | .job h k o b, .ask h' _ _ n o' b', ⟨e, c⟩ => by
    subst e
    exact ⟨rfl, by omega⟩
  | .ask h' _ _ n o' b', .job h k o b, ⟨e, c⟩ => by
    subst e
    exact ⟨rfl, by omega⟩
  | .all h a j, .ask h' _ k n _ _, c => c
  | .ask h' _ k n _ _, .all h a j, c => c
  | .all h _ j, .job h' k _ _, c => c
  | .job h' k _ _, .all h _ j, c => c
/-- a world's rows, set on by no more than the times bear, are a book -/
theorem book_set {hs : List Str} {rs : List Row} {bs m : Str → Int} (B : Book hs rs) (hb : ∀ r ∈ rs, InB bs r) (hm : ∀ h ∈ hs, -1000000000000 ≤ bs h + m h ∧ bs h + m h + 400 ≤ 1000000000000) : Book hs (rs.map (setR m)) := by
  refine ⟨fun r mr => ?_, fun r mr => ?_, fun r mr t mt c => ?_⟩
  · obtain ⟨r, mr', rfl⟩ := List.mem_map.mp mr
    replace mr := mr'
    have w := B.wf r mr
    have i := hb r mr
    have n := B.inn r mr
    cases r with
    | ask h g k n' o b =>
      obtain ⟨w1, w2, w3, w4, w5, w6, w7⟩ := w
      have := hm h n.1
      obtain ⟨i1, i2, i3⟩ := i
      exact ⟨w1, w2, w3, w4, by unfold TimeI; omega, by unfold TimeI; omega, by omega⟩
    | job h k o b =>
      obtain ⟨w1, w2, w3, w4, w5⟩ := w
      have := hm h n
      obtain ⟨i1, i2, i3⟩ := i
      exact ⟨w1, w2, by unfold TimeI; omega, by unfold TimeI; omega, by omega⟩
    | all h a j => exact w
  · obtain ⟨r, mr', rfl⟩ := List.mem_map.mp mr
    replace mr := mr'
    have n := B.inn r mr
    cases r <;> exact n
  · obtain ⟨r, mr', rfl⟩ := List.mem_map.mp mr
    replace mr := mr'
    obtain ⟨t, mt', rfl⟩ := List.mem_map.mp mt
    replace mt := mt'
    exact B.nc r mr t mt (clash_set c)
/-! links, turned likewise -/
def mvL (m : Str → Int) (l : LkS) : LkS := (l.1, l.2.1, l.2.2 + m l.2.1 - m l.1)
theorem sum_mv (m : Str → Int) {ls : List LkS} : ∀ {k : List LkS} {a b : Str}, Bf.Chain ls a b k → Bf.sumL (k.map (mvL m)) = Bf.sumL k + m b - m a
  | [], a, b, c => by
    obtain rfl : a = b := c
    show (0 : Int) = 0 + m a - m a
    omega
  | l :: k, a, b, c => by
    have ih := sum_mv m (k := k) c.2.2
    rw [List.map_cons, Bf.sumL_cons, Bf.sumL_cons, ih]
    have e : l.1 = a := c.2.1
    subst e
    show l.2.2 + m l.2.1 - m l.1 + _ = _
    omega
theorem chain_mv (m : Str → Int) {ls : List LkS} : ∀ {k : List LkS} {a b : Str}, Bf.Chain ls a b k → Bf.Chain (ls.map (mvL m)) a b (k.map (mvL m))
  | [], _, _, c => c
  | l :: _, _, _, c => ⟨List.mem_map.mpr ⟨l, c.1, rfl⟩, c.2.1, chain_mv m c.2.2⟩
theorem chain_un (m : Str → Int) {ls : List LkS} : ∀ {k : List LkS} {a b : Str}, Bf.Chain (ls.map (mvL m)) a b k → ∃ k', k = k'.map (mvL m) ∧ Bf.Chain ls a b k'
  | [], _, _, c => ⟨[], rfl, c⟩
  | l :: k, a, b, c => by
    obtain ⟨l', ml, rfl⟩ := List.mem_map.mp c.1
    obtain ⟨k', rfl, ck⟩ := chain_un m (k := k) c.2.2
    exact ⟨l' :: k', rfl, ml, c.2.1, ck⟩
theorem ring_mv (m : Str → Int) {ls : List LkS} : Ring (ls.map (mvL m)) ↔ Ring ls := by
  constructor
  · rintro ⟨u, k, c, ne, lt⟩
    obtain ⟨k', rfl, ck⟩ := chain_un m c
    rw [sum_mv m ck] at lt
    exact ⟨u, k', ck, fun z => ne (by rw [z]; rfl), by omega⟩
  · rintro ⟨u, k, c, ne, lt⟩
    exact ⟨u, k.map (mvL m), chain_mv m c, fun z => ne (List.map_eq_nil_iff.mp z), by rw [sum_mv m c]; omega⟩
theorem isring_mv (m : Str → Int) {ls k : List LkS} (h : IsRing ls k) : IsRing (ls.map (mvL m)) (k.map (mvL m)) := by
  obtain ⟨ne, u, c, lt⟩ := h
  exact ⟨fun z => ne (List.map_eq_nil_iff.mp z), u, chain_mv m c, by rw [sum_mv m c]; omega⟩
theorem keeps_mv (m : Str → Int) {ls : List LkS} {f : Str → Int} (h : Bf.Keeps ls f) : Bf.Keeps (ls.map (mvL m)) (fun x => f x - m x) := fun l ml => by
  obtain ⟨l', ml', rfl⟩ := List.mem_map.mp ml
  have := h l' ml'
  show f l'.1 - m l'.1 ≤ f l'.2.1 - m l'.2.1 + (l'.2.2 + m l'.2.1 - m l'.1)
  omega
theorem set_word {m : Str → Int} (r : Row) : (setR m r).word = r.word := by cases r <;> rfl
theorem set_key {m : Str → Int} (r : Row) : (setR m r).key = r.key := by cases r <;> rfl
theorem rowOf_set (m : Str → Int) {wd : Str} {k : Gr.HK} : ∀ {rs : List Row}, rowOf (rs.map (setR m)) wd k = (rowOf rs wd k).map (setR m)
  | [] => rfl
  | r :: rs => by
    have ih := rowOf_set m (wd := wd) (k := k) (rs := rs)
    unfold rowOf at ih ⊢
    rw [List.map_cons, List.find?_cons, List.find?_cons, set_word, set_key]
    by_cases c : r.word = wd ∧ r.key = k
    · rw [decide_eq_true c]
      rfl
    · rw [decide_eq_false c]
      exact ih
theorem lk_set (m : Str → Int) {rs : List Row} {p : PrK} (h : Kn rs p) : lkOf (rs.map (setR m)) p = (lkOf rs p).map (mvL m) := by
  obtain ⟨r, q, h1, h2, h3⟩ := h
  have w1 := (rowOf_some h1).1.2
  have w2 := (rowOf_some h2).1.2
  unfold lkOf
  rw [rowOf_set, rowOf_set, h1, h2]
  cases r with
  | ask h g k n o b =>
    cases q with
    | job h' k' o' b' =>
      obtain rfl : h' = g := h3
      show [(h, h', o' + m h' - (o + m h)), (h', h, b + m h - (b' + m h'))] = [(h, h', o' - o + m h' - m h), (h', h, b - b' + m h - m h')]
      rw [show o' + m h' - (o + m h) = o' - o + m h' - m h by omega, show b + m h - (b' + m h') = b - b' + m h - m h' by omega]
    | ask _ _ _ _ _ _ => exact absurd w2 (by show ¬ ("ask" : Str) = "job"; decide)
    | all _ _ _ => exact absurd w2 (by show ¬ ("all" : Str) = "job"; decide)
  | job _ _ _ _ => exact absurd w1 (by show ¬ ("job" : Str) = "ask"; decide)
  | all _ _ _ => exact absurd w1 (by show ¬ ("all" : Str) = "ask"; decide)
theorem links_set (m : Str → Int) {rs : List Row} : ∀ {ps : List PrK}, (∀ p ∈ ps, Kn rs p) → linksOf (rs.map (setR m)) ps = (linksOf rs ps).map (mvL m)
  | [], _ => rfl
  | p :: ps, h => by
    have ih := links_set m (ps := ps) fun x mx => h x (List.mem_cons_of_mem _ mx)
    unfold linksOf at ih ⊢
    rw [List.flatMap_cons, List.flatMap_cons, List.map_append, ih, lk_set m (h p List.mem_cons_self)]
theorem kn_set (m : Str → Int) {rs : List Row} {p : PrK} (h : Kn rs p) : Kn (rs.map (setR m)) p := by
  obtain ⟨r, q, h1, h2, h3⟩ := h
  refine ⟨setR m r, setR m q, by rw [rowOf_set, h1]; rfl, by rw [rowOf_set, h2]; rfl, ?_⟩
  rw [show (setR m q).h = q.h by cases q <;> rfl, show (setR m r).g = r.g by cases r <;> rfl]
  exact h3
def sp_set_on : Sp := fun vs H Q _ => ∃ (l bD : Addr) (hs : List Str) (xs : List V) (rs : List Row) (kB : List (Key × V)) (m : Str → Int), vs = [.ref l, .ref bD] ∧ H l = some (.lst xs) ∧ Rws H xs rs ∧ rs.length ≤ 1000 ∧ H bD = some (.dK kB) ∧ DSh kB hs m ∧ (∀ r ∈ rs, r.h ∈ hs) ∧
  ∀ (L : Addr) (ys : List V) (H' : Hp), Same H H' → H L = none → H' L = some (.lst ys) → Rws H' ys (rs.map (setR m)) → Q (.ref L) H'
theorem ok_l_set_on (T : Txt K mg af fd) : FnOk P w K mg base CX0 1 (af 56) (fd 56) ["rows", "by"] sp_set_on := by
  refine T.F_l_set_on.ok sc_l_set_on (fun vs H Q E h => ?_) (fun cdv A outer s H vs Q E hr h => ?_)
  · obtain ⟨l, bD, hs, xs, rs, kB, m, rfl, _⟩ := h
    rfl
  · obtain ⟨l, bD, hs, xs, rs, kB, m, rfl, hl, rw', lrs, hB, ds, inn, q⟩ := h
    refine ⟨_, (pss_cons (ps_set (i := 2) sc_l_set_on.nd rfl (by first | exact Or.inl rfl | exact Or.inr rfl) (pe_lst pa_nil))
        (pss_cons (ps_for PassesOwn.never rfl (pi_list (pv 0)) (pg_name (i := 3) sc_l_set_on.nd rfl (by first | exact Or.inl rfl | exact Or.inr rfl)) (pss_cons (ps_set (i := 4) sc_l_set_on.nd rfl (by first | exact Or.inl rfl | exact Or.inr rfl) (pe_dget (hu_of hr) (pv 1) (pe_ix ix_tup (pv 3) pe_int (fun _ _ => rfl)) (fun _ _ => rfl)))
        (C8.pss_cut (ps_if (pt_cmpR op_eq (pe_ix ix_tup (pv 3) pe_int (fun _ _ => rfl)) pe_str (nomark _)) (pss_one (ps_set (i := 3) sc_l_set_on.nd rfl (by first | exact Or.inl rfl | exact Or.inr rfl) (pe_op op_catT (pe_slice sl_tup (pv 3) po_none (po_some pe_int)) (pe_tup (pa_cons (pe_op op_add (pe_ix ix_tup (pv 3) pe_int (fun _ _ => rfl)) (pv 4)) (pa_cons (pe_op op_add (pe_ix ix_tup (pv 3) pe_int (fun _ _ => rfl)) (pv 4)) pa_nil)))))) (pss_one (ps_if (pt_cmpR op_eq (pe_ix ix_tup (pv 3) pe_int (fun _ _ => rfl)) pe_str (nomark _)) (pss_one (ps_set (i := 3) sc_l_set_on.nd rfl (by first | exact Or.inl rfl | exact Or.inr rfl) (pe_op op_catT (pe_slice sl_tup (pv 3) po_none (po_some pe_int)) (pe_tup (pa_cons (pe_op op_add (pe_ix ix_tup (pv 3) pe_int (fun _ _ => rfl)) (pv 4)) (pa_cons (pe_op op_add (pe_ix ix_tup (pv 3) pe_int (fun _ _ => rfl)) (pv 4)) pa_nil)))))) pss_nil)))
        (pss_one (ps_expr (pe_bm PySem.F.plainAttrs_list PySem.F.slot_list_append PySem.F.type_list_append mt_append (pv 2) (pa_cons (pv 3) pa_nil)))))))
        (pss_one (ps_ret (pv 2))))), ?_⟩
    refine ⟨Nat.zero_le _, fun D nD => ?_⟩
    have s0 : Same H (upd H D (.lst [])) := same_upd nD
    have hD0 : (upd H D (.lst [])) D = some (.lst []) := upd_same
    generalize upd H D (.lst []) = H0 at s0 hD0 ⊢
    refine ⟨_, rfl, l, rfl, ⟨_, SqL.of (s0 _ _ hl)⟩, ?_⟩
    refine for_it (walk_list (K := K) (a := l) (xs := xs)) (fun i σ G => (∃ v3 v4 : Option V, σ = [some (.ref l), some (.ref bD), some (.ref D), v3, v4]) ∧ Same H G ∧ ∃ ys, G D = some (.lst ys) ∧ Rws G ys ((rs.take i).map (setR m)))
      ⟨⟨none, none, rfl⟩, s0, [], hD0, by rw [List.take_zero]; exact ⟨rfl, fun i r e => nomatch e⟩⟩ (fun i σ G _ h => SqL.of (h.2.1 _ _ hl)) ?_ ?_
    · rintro i v σ G1 G2 hi ⟨⟨v3, v4, rfl⟩, g1, ys, hD1, ry⟩ ⟨rfl, ev⟩
      have hir : i < rs.length := by rw [← rw'.1]; exact hi
      have er : rs[i]? = some rs[i] := List.getElem?_eq_getElem hir
      generalize rs[i] = r at er
      have mr := List.mem_of_getElem? er
      obtain ⟨a, e1, e2⟩ := rw'.2 i r er
      obtain rfl : V.ref a = v := Option.some.inj (e1.symm.trans ev)
      have ha : RowAt G2 a r := g1 _ _ e2
      have gd := DGet.k (k := Sum.inr r.h) (g1 _ _ hB)
      rw [ds.val r.h (inn r mr)] at gd
      refine ⟨_, rfl, _, rfl, a, _, 1, _, rfl, rfl, SqT.of ha, at1 r, bD, _, rfl, gd, ?_⟩
      refine ⟨fun σ' G' => ∃ b, σ' = [some (.ref l), some (.ref bD), some (.ref D), some (.ref b), some (.int (m r.h))] ∧ Same G2 G' ∧ RowAt G' b (setR m r), ?_, ?_⟩
      · refine ⟨_, rfl, a, _, 0, _, rfl, rfl, SqT.of ha, at0 r, rfl, _, rfl, ?_⟩
        cases r with
        | ask h g k n o b =>
          refine iteTd rfl ?_
          refine ⟨_, rfl, ?_⟩
          dsimp only [tNoPart]
          have e5 : cutV (Row.ask h g k n o b).vals none (some 5) = [.str "ask", .str h, .int k, .int n, .str g] := by
            rw [show (5 : Int) = ((5 : Nat) : Int) from rfl, cut_to]
            rfl
          refine ⟨5, rfl, a, _, rfl, SqT.of ha, (fun z => absurd z.2 (by show ¬ HT.sIx 7 7 (some 5) = 7; decide)), fun b1 nb1 => ?_⟩
          rw [e5]
          have s1 : Same G2 (upd G2 b1 (.tup [.str "ask", .str h, .int k, .int n, .str g])) := same_upd nb1
          have hb1 : (upd G2 b1 (.tup [.str "ask", .str h, .int k, .int n, .str g])) b1 = some (.tup [.str "ask", .str h, .int k, .int n, .str g]) := upd_same
          generalize upd G2 b1 (.tup [.str "ask", .str h, .int k, .int n, .str g]) = G3 at s1 hb1 ⊢
          refine ⟨_, rfl, a, _, 5, _, rfl, rfl, SqT.of (s1 _ _ ha), rfl, _, rfl, _, _, rfl, rfl, _, rfl, a, _, 6, _, rfl, rfl, SqT.of (s1 _ _ ha), rfl, _, rfl, _, _, rfl, rfl, (by show 2 ≤ sizeLine; decide), fun b2 nb2 => ?_⟩
          have s2 := same_upd (o := .tup [.int (o + m h), .int (b + m h)]) nb2
          have hb2 : (upd G3 b2 (.tup [.int (o + m h), .int (b + m h)])) b2 = some (.tup [.int (o + m h), .int (b + m h)]) := upd_same
          refine ⟨b1, b2, _, _, rfl, rfl, SqT.of (s2 _ _ hb1), SqT.of hb2, (fun z => nomatch z), (by show 7 ≤ sizeLine; decide), (fun z => nomatch z), fun _ e ne => ?_⟩
          exact ⟨e, rfl, (s1.trans s2).trans (same_upd ne), upd_same⟩
        | job h k o b =>
          refine iteFd (fun z => absurd (V.str.inj z) (by show ¬ ("job" : Str) = "ask"; decide)) ?_
          refine ⟨_, rfl, a, _, 0, _, rfl, rfl, SqT.of ha, at0 _, rfl, _, rfl, iteTd rfl ?_⟩
          refine ⟨_, rfl, ?_⟩
          dsimp only [tNoPart]
          have e3 : cutV (Row.job h k o b).vals none (some 3) = [.str "job", .str h, .int k] := take3 _
          refine ⟨3, rfl, a, _, rfl, SqT.of ha, nw3 (.job h k o b), fun b1 nb1 => ?_⟩
          rw [e3]
          have s1 : Same G2 (upd G2 b1 (.tup [.str "job", .str h, .int k])) := same_upd nb1
          have hb1 : (upd G2 b1 (.tup [.str "job", .str h, .int k])) b1 = some (.tup [.str "job", .str h, .int k]) := upd_same
          generalize upd G2 b1 (.tup [.str "job", .str h, .int k]) = G3 at s1 hb1 ⊢
          refine ⟨_, rfl, a, _, 3, _, rfl, rfl, SqT.of (s1 _ _ ha), rfl, _, rfl, _, _, rfl, rfl, _, rfl, a, _, 4, _, rfl, rfl, SqT.of (s1 _ _ ha), rfl, _, rfl, _, _, rfl, rfl, (by show 2 ≤ sizeLine; decide), fun b2 nb2 => ?_⟩
          have s2 := same_upd (o := .tup [.int (o + m h), .int (b + m h)]) nb2
          have hb2 : (upd G3 b2 (.tup [.int (o + m h), .int (b + m h)])) b2 = some (.tup [.int (o + m h), .int (b + m h)]) := upd_same
          refine ⟨b1, b2, _, _, rfl, rfl, SqT.of (s2 _ _ hb1), SqT.of hb2, (fun z => nomatch z), (by show 5 ≤ sizeLine; decide), (fun z => nomatch z), fun _ e ne => ?_⟩
          exact ⟨e, rfl, (s1.trans s2).trans (same_upd ne), upd_same⟩
        | all h x y =>
          refine iteFd (fun z => absurd (V.str.inj z) (by show ¬ ("all" : Str) = "ask"; decide)) ?_
          refine ⟨_, rfl, a, _, 0, _, rfl, rfl, SqT.of ha, at0 _, rfl, _, rfl, iteFd (fun z => absurd (V.str.inj z) (by show ¬ ("all" : Str) = "job"; decide)) ?_⟩
          exact ⟨a, rfl, Same.refl _, ha⟩
      rintro σ' G3 ⟨b, rfl, g2, hb⟩
      have hD3 := g2 _ _ hD1
      have keep : ∀ b' ys', G3 b' = some (.tup ys') → (upd G3 D (.lst (ys ++ [.ref b]))) b' = some (.tup ys') := fun b' ys' e => by rw [upd_ne (ne_of e hD3 (fun z => nomatch z))]; exact e
      have ly := ry.1
      rw [List.length_map, List.length_take] at ly
      refine ⟨_, rfl, .inl ⟨rfl, _, SqL.of hD3⟩, _, rfl, D, ys, .ref b, rfl, rfl, hD3, small_line (by omega), ⟨_, _, rfl⟩, same_mut (g1.trans g2) nD, _, upd_same, ?_⟩
      rw [take_snoc er, List.map_append]
      exact ((ry.go fun b' ys' e => g2 _ _ e).go keep).snoc (keep _ _ hb)
    · rintro σ G1 ⟨⟨v3, v4, rfl⟩, g1, ys, hD1, ry⟩
      rw [rw'.1, List.take_length] at ry
      exact ⟨_, rfl, q D ys G1 g1 nD hD1 ry⟩
def sp_turned : Sp := fun vs H Q _ => ∃ (L bD : Addr) (hs : List Str) (ws : List V) (ls : List LkS) (kB : List (Key × V)) (m : Str → Int), vs = [.ref L, .ref bD] ∧ H L = some (.lst ws) ∧ Lks H ws ls ∧ ls.length ≤ 1000 ∧ (∀ l ∈ ls, l.1 ∈ hs ∧ l.2.1 ∈ hs) ∧ H bD = some (.dK kB) ∧ DSh kB hs m ∧
  ∀ (R : Addr) (us : List V) (H' : Hp), Same H H' → H' R = some (.lst us) → Lks H' us (ls.map (mvL m)) → Q (.ref R) H'
theorem ok_l_turned (T : Txt K mg af fd) : FnOk P w K mg base CX0 1 (af 57) (fd 57) ["links", "by"] sp_turned := by
  refine T.F_l_turned.ok sc_l_turned (fun vs H Q E h => ?_) (fun cdv A outer s H vs Q E hr h => ?_)
  · obtain ⟨L, bD, hs, ws, ls, kB, m, rfl, _⟩ := h
    rfl
  · obtain ⟨L, bD, hs, ws, ls, kB, m, rfl, hL, lk, ll, lin, hB, ds, q⟩ := h
    refine ⟨_, (pss_one (ps_ret (pe_lc (own := [("one", 2), ("other", 3), ("most", 4)]) (g := gTup K 3 (gCons (gName 2) (gCons (gName 3) (gCons (gName 4) gNil)))) (by rfl) sc_l_turned.nd (pi_list (pv 0)) (blkOk_by (own := [("one", 2), ("other", 3), ("most", 4)]) (N := ["links", "by", "one", "other", "most"]) (sc := defScope s_l_turned) (by decide +kernel)) (fun _ _ _ _ _ => pg_tup rfl (pgs_cons (pg_name (i := 2) sc_l_turned.nd rfl (Or.inl rfl)) (pgs_cons (pg_name (i := 3) sc_l_turned.nd rfl (Or.inl rfl)) (pgs_cons (pg_name (i := 4) sc_l_turned.nd rfl (Or.inl rfl)) pgs_nil)))) (fun _ _ _ _ _ => pts_nil) (fun _ _ _ _ _ => (pe_tup (pa_cons (pv 2) (pa_cons (pv 3) (pa_cons (pe_op op_sub (pe_op op_add (pv 4) (pe_dget (hu_of hr) (pv 1) (pv 3) (fun _ _ => rfl))) (pe_dget (hu_of hr) (pv 1) (pv 2) (fun _ _ => rfl))) pa_nil)))))))), ?_⟩
    refine ⟨_, rfl, L, rfl, ⟨_, SqL.of hL⟩, fun D1 nD1 => ?_⟩
    refine lc_it (walk_list (K := K) (a := L) (xs := ws)) (fun k H' => Same H H' ∧ ∃ us, H' D1 = some (.lst us) ∧ Lks H' us ((ls.take k).map (mvL m)))
      ⟨same_upd nD1, [], upd_same, by rw [List.take_zero]; exact Lks.nil⟩ (fun k H' _ h => SqL.of (h.1 _ _ hL)) ?_ ?_
    · rintro i v G1 G2 hi ⟨g, us, hD, lku⟩ ⟨rfl, hv⟩
      have hir : i < ls.length := by rw [← lk.1]; exact hi
      have er : ls[i]? = some ls[i] := List.getElem?_eq_getElem hir
      generalize ls[i] = x at er
      obtain ⟨b, e1, e2⟩ := lk.2 i x er
      obtain rfl : V.ref b = v := Option.some.inj (e1.symm.trans hv)
      obtain ⟨m1, m2⟩ := lin x (List.mem_of_getElem? er)
      have v1 := DGet.k (k := Sum.inr x.1) (g _ _ hB)
      have v2 := DGet.k (k := Sum.inr x.2.1) (g _ _ hB)
      rw [ds.val _ m1] at v1
      rw [ds.val _ m2] at v2
      refine ⟨b, _, rfl, SqT.of (g _ _ e2), rfl, _, _, rfl, _, _, rfl, _, _, rfl, rfl, ?_⟩
      refine ⟨rfl, yes_if ?_⟩
      refine ⟨_, rfl, _, rfl, _, rfl, _, rfl, _, rfl, bD, _, rfl, v2, _, _, rfl, rfl, _, rfl, _, rfl, bD, _, rfl, v1, _, _, rfl, rfl, (by show 3 ≤ sizeLine; decide), fun t nt => ?_⟩
      have st := same_upd (o := .tup (lkV (mvL m x))) nt
      have ht : (upd G2 t (.tup (lkV (mvL m x)))) t = some (.tup (lkV (mvL m x))) := upd_same
      have lu := lku.1
      have keep : ∀ b ys, (upd G2 t (.tup (lkV (mvL m x)))) b = some (.tup ys) → (upd (upd G2 t (.tup (lkV (mvL m x)))) D1 (.lst (us ++ [.ref t]))) b = some (.tup ys) := fun b ys e => by rw [upd_ne (ne_of e (st _ _ hD) (fun z => nomatch z))]; exact e
      refine ⟨us, st _ _ hD, small_line (by rw [lu, List.length_map, List.length_take]; omega), same_mut (g.trans st) nD1, us ++ [.ref t], upd_same, ?_⟩
      rw [take_snoc er, List.map_append]
      exact ((lku.same st).go keep).app (Lks.one (keep _ _ ht))
    · rintro H4 ⟨g, us, hD, lku⟩
      rw [lk.1, List.take_length] at lku
      exact q D1 us H4 g hD lku
theorem ne_no {v w : V} {A B : Prop} (e : v = w) (h : B) : if (!decide (v = w)) = true then A else B := by
  rw [decide_eq_true e]
  exact iteF h
theorem nn_ref {P : Addr} {A B : Prop} (h : A) : if (!decide (V.ref P = V.non)) = true then A else B := by
  rw [decide_eq_false (fun z => nomatch z)]
  exact h
theorem nn_non {A B : Prop} (h : B) : if (!decide (V.non = V.non)) = true then A else B := by
  rw [decide_eq_true rfl]
  exact h
theorem gr_both {H : Hp} {ls : List LkS} {m : Str → Int} {a b : Str} {v w : V} (h1 : GrR H ls a b v) {H2 : Hp} (h2 : GrR H2 (ls.map (mvL m)) a b w) (nr : ¬ Ring ls) : (v = .non ∧ w = .non) ∨ ∃ (P1 R1 P2 R2 : Addr) (n : Int), v = .ref P1 ∧ w = .ref P2 ∧ H P1 = some (.tup [.int n, .ref R1]) ∧ H2 P2 = some (.tup [.int (n + m b - m a), .ref R2]) := by
  cases h1 with
  | none e h =>
    cases h2 with
    | none e' h' => exact .inl ⟨rfl, rfl⟩
    | same P R e' _ _ => exact absurd e' e
    | way P R ws k n e' _ _ _ c _ _ _ =>
      obtain ⟨k', _, c'⟩ := chain_un m c
      exact absurd c' (h _)
  | same P R e h1 h1' =>
    subst e
    cases h2 with
    | none e' h' => exact absurd rfl e'
    | same P' R' e' h2 _ => exact .inr ⟨P, R, P', R', 0, rfl, rfl, h1, by rw [h2, show (0 : Int) + m a - m a = 0 by omega]⟩
    | way P R ws k n e' _ _ _ c _ _ _ => exact absurd rfl e'
  | way P R ws k n e hP hR lk c en le l6 =>
    cases h2 with
    | none e' h' => exact absurd (chain_mv m c) (h' _)
    | same P' R' e' _ _ => exact absurd e' e
    | way P' R' ws' k' n' e' hP' hR' lk' c' en' le' l6' =>
      refine .inr ⟨P, R, P', R', n, rfl, rfl, hP, ?_⟩
      obtain ⟨k2, rfl, c2⟩ := chain_un m c'
      have q1 := le _ c2
      have q2 := le' _ (chain_mv m c)
      rw [sum_mv m c2] at en'
      rw [sum_mv m c] at q2
      rw [hP', show n' = n + m b - m a by omega]
def sp_great65 : Sp := fun vs H Q _ => ∃ (t Bk l l2 p bD : Addr) (hs gs : List Str) (xs xs2 us : List V) (rs : List Row) (ps : List PrK) (kB : List (Key × V)) (m : Str → Int), vs = [.ref t, .ref Bk, .ref p, .ref bD] ∧ H Bk = some (.lst [.ref l, .ref l2]) ∧ Hand H t l hs gs xs rs ∧ Hand H t l2 hs gs xs2 (rs.map (setR m)) ∧ 1 ≤ hs.length ∧ H p = some (.lst us) ∧ Pks H us ps ∧ ps.length ≤ 1000 ∧ (∀ p ∈ ps, Kn rs p) ∧ ¬ Ring (linksOf rs ps) ∧ H bD = some (.dK kB) ∧ DSh kB hs m ∧ ∀ H', Same H H' → Q (.bl true) H'
theorem ok_l_great_right (T : Txt K mg af fd) : FnOk P w K mg base CX0 11 (af 58) (fd 58) ["town", "books", "pairs", "by"] sp_great65 := by
  refine T.F_l_great_right.ok sc_l_great_right (fun vs H Q E h => ?_) (fun cdv A outer s H vs Q E hr h => ?_)
  · obtain ⟨t, Bk, l, l2, p, bD, hs, gs, xs, xs2, us, rs, ps, kB, m, rfl, _⟩ := h
    rfl
  · obtain ⟨t, Bk, l, l2, p, bD, hs, gs, xs, xs2, us, rs, ps, kB, m, rfl, hBk, hd, hd', h1, hp, pk, hlen, hk, nr, hB, ds, q⟩ := h
    refine ⟨_, (pss_cons (ps_for PassesOwn.never rfl (pi_tup (pe_ix ix_tup (pv 0) pe_int (fun _ _ => rfl))) (pg_name (i := 4) sc_l_great_right.nd rfl (by first | exact Or.inl rfl | exact Or.inr rfl)) (pss_one (ps_for PassesOwn.never rfl (pi_tup (pe_ix ix_tup (pv 0) pe_int (fun _ _ => rfl))) (pg_name (i := 5) sc_l_great_right.nd rfl (by first | exact Or.inl rfl | exact Or.inr rfl)) (pss_cons (ps_set (i := 6) sc_l_great_right.nd rfl (by first | exact Or.inl rfl | exact Or.inr rfl) (pe_call (ok_greatest T) (hr.mono (by first | decide | omega)) (by rfl) T.g_greatest T.F_greatest.kp T.b_greatest .nil passL (pa_cons (pv 0) (pa_cons (pe_callTy call_list_of (by rfl) T.m_list (by decide +kernel) (pa_cons (pe_ix ix_list (pv 1) pe_int (fun _ _ => rfl)) pa_nil)) (pa_cons (pe_callTy call_list_of (by rfl) T.m_list (by decide +kernel) (pa_cons (pv 2) pa_nil)) (pa_cons (pv 4) (pa_cons (pv 5) pa_nil)))))))
        (pss_cons (ps_set (i := 7) sc_l_great_right.nd rfl (by first | exact Or.inl rfl | exact Or.inr rfl) (pe_call (ok_greatest T) (hr.mono (by first | decide | omega)) (by rfl) T.g_greatest T.F_greatest.kp T.b_greatest .nil passL (pa_cons (pv 0) (pa_cons (pe_callTy call_list_of (by rfl) T.m_list (by decide +kernel) (pa_cons (pe_ix ix_list (pv 1) pe_int (fun _ _ => rfl)) pa_nil)) (pa_cons (pe_callTy call_list_of (by rfl) T.m_list (by decide +kernel) (pa_cons (pv 2) pa_nil)) (pa_cons (pv 4) (pa_cons (pv 5) pa_nil)))))))
        (pss_cons (ps_if (pt_cmpR op_ne (pe_cmpR op_isN (pv 6) pe_non (nomark _)) (pe_cmpR op_isN (pv 7) pe_non (nomark _)) (nomark _)) (pss_one (ps_ret pe_bl)) pss_nil)
        (pss_one (ps_if (PW.pt (pw_and (pt_cmpR op_notN (pv 6) pe_non (nomark _)) (pw_and1 (pt_cmpR op_ne (pe_ix ix_tup (pv 7) pe_int (fun _ _ => rfl)) (pe_op op_sub (pe_op op_add (pe_ix ix_tup (pv 6) pe_int (fun _ _ => rfl)) (pe_dget (hu_of hr) (pv 3) (pv 5) (fun _ _ => rfl))) (pe_dget (hu_of hr) (pv 3) (pv 4) (fun _ _ => rfl))) (nomark _))))) (pss_one (ps_ret pe_bl)) pss_nil))))))))
        (pss_one (ps_ret pe_bl))), ?_⟩
    obtain ⟨th, tg, ht, hth, htg⟩ := hd.town
    have kset : ∀ p ∈ ps, Kn (rs.map (setR m)) p := fun p mp => kn_set m (hk p mp)
    have lset := links_set m hk
    refine ⟨_, rfl, t, _, 0, _, rfl, rfl, SqT.of ht, rfl, th, rfl, ⟨_, SqT.of hth⟩, ?_⟩
    refine for_it (walk_tup (K := K) (a := th) (xs := hs.map V.str)) (fun i σ G => (∃ v4 v5 v6 v7 : Option V, σ = [some (.ref t), some (.ref Bk), some (.ref p), some (.ref bD), v4, v5, v6, v7]) ∧ Same H G)
      ⟨⟨none, none, none, none, rfl⟩, Same.refl _⟩ (fun i σ G _ h => SqT.of (h.2 _ _ hth)) ?_ ?_
    · rintro i v σ G1 G2 hi ⟨⟨v4, v5, v6, v7, rfl⟩, g1⟩ ⟨rfl, ev⟩
      rw [List.length_map] at hi
      have eo : hs[i]? = some hs[i] := List.getElem?_eq_getElem hi
      generalize hs[i] = one at eo
      rw [List.getElem?_map, eo] at ev
      obtain rfl : V.str one = v := Option.some.inj ev
      have mo := List.mem_of_getElem? eo
      refine ⟨_, rfl, t, _, 0, _, rfl, rfl, SqT.of (g1 _ _ ht), rfl, th, rfl, ⟨_, SqT.of (g1 _ _ hth)⟩, ?_⟩
      refine for_it (walk_tup (K := K) (a := th) (xs := hs.map V.str)) (fun j σ G => (∃ v5 v6 v7 : Option V, σ = [some (.ref t), some (.ref Bk), some (.ref p), some (.ref bD), some (.str one), v5, v6, v7]) ∧ Same H G)
        ⟨⟨_, _, _, rfl⟩, g1⟩ (fun j σ G _ h => SqT.of (h.2 _ _ hth)) ?_ ?_
      · rintro j v σ G3 G4 hj ⟨⟨v5, v6, v7, rfl⟩, g2⟩ ⟨rfl, ev⟩
        rw [List.length_map] at hj
        have et : hs[j]? = some hs[j] := List.getElem?_eq_getElem hj
        generalize hs[j] = other at et
        rw [List.getElem?_map, et] at ev
        obtain rfl : V.str other = v := Option.some.inj ev
        have mt := List.mem_of_getElem? et
        refine ⟨_, rfl, _, rfl, Bk, _, 0, _, rfl, rfl, SqL.of (g2 _ _ hBk), rfl, l, _, rfl, .inl (SqL.of (g2 _ _ hd.lst)), fun l1 nl1 => ?_⟩
        have s1 : Same G4 (upd G4 l1 (.lst xs)) := same_upd nl1
        have hl1 : (upd G4 l1 (.lst xs)) l1 = some (.lst xs) := upd_same
        generalize upd G4 l1 (.lst xs) = G5 at s1 hl1 ⊢
        refine ⟨_, rfl, p, _, rfl, .inl (SqL.of (s1 _ _ (g2 _ _ hp))), fun p1 np1 => ?_⟩
        have s2 : Same G5 (upd G5 p1 (.lst us)) := same_upd np1
        have hp1 : (upd G5 p1 (.lst us)) p1 = some (.lst us) := upd_same
        generalize upd G5 p1 (.lst us) = G6 at s2 hp1 ⊢
        have g3 := g2.trans (s1.trans s2)
        refine ⟨_, rfl, _, rfl, fun _ => False, t, l1, p1, one, other, hs, gs, xs, us, rs.map rowD, ps, rfl, (hd.same g3).ask (s2 _ _ hl1), h1, hp1, pk.same g3, hlen, (fun rs1 B1 e1 => by rw [← rowD_inj e1]; exact hk), ?_, ?_, hd.book.refuse⟩
        rotate_left
        · intro rs1 d m ws k H' _ _ _ _ e1 _ _ _ ring _
          obtain rfl := rowD_inj e1
          exact absurd ring.ring nr
        intro rs1 v1 G7 sH _ _ B1 e1 _ gr1
        obtain rfl := rowD_inj e1
        have g4 := g3.trans sH
        refine ⟨_, rfl, _, rfl, Bk, _, 1, _, rfl, rfl, SqL.of (g4 _ _ hBk), rfl, l2, _, rfl, .inl (SqL.of (g4 _ _ hd'.lst)), fun l3 nl3 => ?_⟩
        have s3 : Same G7 (upd G7 l3 (.lst xs2)) := same_upd nl3
        have hl3 : (upd G7 l3 (.lst xs2)) l3 = some (.lst xs2) := upd_same
        generalize upd G7 l3 (.lst xs2) = G8 at s3 hl3 ⊢
        refine ⟨_, rfl, p, _, rfl, .inl (SqL.of (s3 _ _ (g4 _ _ hp))), fun p3 np3 => ?_⟩
        have s4 : Same G8 (upd G8 p3 (.lst us)) := same_upd np3
        have hp3 : (upd G8 p3 (.lst us)) p3 = some (.lst us) := upd_same
        generalize upd G8 p3 (.lst us) = G9 at s4 hp3 ⊢
        have g5 := g4.trans (s3.trans s4)
        refine ⟨_, rfl, _, rfl, fun _ => False, t, l3, p3, one, other, hs, gs, xs2, us, (rs.map (setR m)).map rowD, ps, rfl, (hd'.same g5).ask (s4 _ _ hl3), h1, hp3, pk.same g5, hlen, (fun rs1 B1 e1 => by rw [← rowD_inj e1]; exact kset), ?_, ?_, hd'.book.refuse⟩
        rotate_left
        · intro rs1 d m' ws k H' _ _ _ _ e1 _ _ _ ring _
          obtain rfl := rowD_inj e1
          have := ring.ring
          rw [lset, ring_mv] at this
          exact absurd this nr
        intro rs1 v2 Ga sH2 _ _ B1 e1 _ gr2
        obtain rfl := rowD_inj e1
        rw [lset] at gr2
        have g6 := g5.trans sH2
        rcases gr_both gr1 gr2 nr with ⟨rfl, rfl⟩ | ⟨P1, R1, P2, R2, n, rfl, rfl, hP1, hP2⟩
        · refine ⟨_, rfl, rfl, _, rfl, rfl, rfl, _, rfl, ne_no rfl ?_⟩
          exact ⟨_, rfl, rfl, _, rfl, nn_non (iteF ⟨⟨_, _, _, rfl⟩, g6⟩)⟩
        · have en : V.bl (decide (V.ref P1 = V.non)) = V.bl (decide (V.ref P2 = V.non)) := by
            rw [decide_eq_false (fun z => nomatch z), decide_eq_false (fun z => nomatch z)]
          refine ⟨_, rfl, rfl, _, rfl, rfl, rfl, _, rfl, ne_no en ?_⟩
          have d1 := DGet.k (k := Sum.inr one) (g6 _ _ hB)
          rw [ds.val one mo] at d1
          have d2 := DGet.k (k := Sum.inr other) (g6 _ _ hB)
          rw [ds.val other mt] at d2
          replace hP1 := ((s3.trans s4).trans sH2) _ _ hP1
          refine ⟨_, rfl, rfl, _, rfl, nn_ref ?_⟩
          refine ⟨_, rfl, P2, _, 0, _, rfl, rfl, SqT.of hP2, rfl, _, rfl, P1, _, 0, _, rfl, rfl, SqT.of hP1, rfl, _, rfl, _, rfl, bD, _, rfl, d2, _, _, rfl, rfl, _, rfl, _, rfl, bD, _, rfl, d1, _, _, rfl, rfl, rfl, _, rfl, ne_no rfl ⟨⟨_, _, _, rfl⟩, g6⟩⟩
      · rintro σ G3 ⟨⟨v5, v6, v7, rfl⟩, g2⟩
        exact ⟨⟨_, _, _, _, rfl⟩, g2⟩
    · rintro σ G1 ⟨⟨v4, v5, v6, v7, rfl⟩, g1⟩
      exact q _ g1
theorem bear_true {hs : List Str} {ls : List LkS} {f : Str → Int} (k : Bf.Keeps ls f) : bearB hs hs ls f = true := by
  unfold bearB
  rw [decide_eq_true (List.Perm.refl hs)]
  show (ls.all fun l => decide (f l.1 - f l.2.1 ≤ l.2.2)) = true
  rw [List.all_eq_true]
  intro l m
  have := k l m
  exact decide_eq_true (by omega)
theorem keeps_on {hs : List Str} {ls : List LkS} {f g : Str → Int} (lin : ∀ l ∈ ls, l.1 ∈ hs ∧ l.2.1 ∈ hs) (k : Bf.Keeps ls g) (e : ∀ h ∈ hs, f h = g h) : Bf.Keeps ls f := fun l m => by
  have := k l m
  obtain ⟨h1, h2⟩ := lin l m
  rw [e _ h1, e _ h2]
  exact this
theorem mv_in {hs : List Str} {ls : List LkS} {m : Str → Int} (lin : ∀ l ∈ ls, l.1 ∈ hs ∧ l.2.1 ∈ hs) : ∀ l ∈ ls.map (mvL m), l.1 ∈ hs ∧ l.2.1 ∈ hs := fun l ml => by
  obtain ⟨l', ml', rfl⟩ := List.mem_map.mp ml
  exact lin l' ml'
theorem bk_in {hs : List Str} {rs : List Row} (B : Book hs rs) {r : Row} (m : r ∈ rs) : r.h ∈ hs := by
  have := B.inn r m
  cases r with
  | ask _ _ _ _ _ _ => exact this.1
  | job _ _ _ _ => exact this
  | all _ _ _ => exact this
theorem hand_sm {H H' : Hp} {t l : Addr} {hs gs : List Str} {xs : List V} {rs : List Row} (h : Hand H t l hs gs xs rs) (s : Sm H H') : Hand H' t l hs gs xs rs :=
  ⟨h.town.sm s, h.up, h.nd, h.ok, h.h6, s.lst h.lst, h.rows.go (fun b ys e => s.tup e), h.book, h.ths, h.len⟩
def sp_law (af : Nat → Addr) (K : PySem.W.Frag) : Sp := fun vs H Q _ => ∃ (a : Addr) (ns : List Int), vs = [.ref a] ∧ SqL K H a (ns.map V.int) ∧ ns.length ≤ 63 ∧ Tbs af H ∧ ∀ H', Q (.bl true) H'
theorem ok_law (T : Txt K mg af fd) (B : TxtB base mg af) : FnOk P w K mg base CX0 12 (af 59) (fd 59) ["script"] (sp_law af K) := by
  refine T.F_law.ok sc_law (fun vs H Q E h => ?_) (fun cdv A outer s H vs Q E hr h => ?_)
  · obtain ⟨a, ns, rfl, _⟩ := h
    rfl
  · obtain ⟨a, ns, rfl, hS, hlen, tbs, q⟩ := h
    refine ⟨_, (pss_cons (ps_set (i := 1) sc_law.nd rfl (by first | exact Or.inl rfl | exact Or.inr rfl) (pe_call (ok_l_open T) (hr.mono (by first | decide | omega)) (by rfl) T.g_l_open T.F_l_open.kp T.b_l_open .nil pass0 (pa_cons (pv 0) pa_nil)))
        (pss_cons (ps_for PassesOwn.never rfl (pi_range1 (by rfl) T.m_range (pa_cons pe_int pa_nil)) (pg_name (i := 2) sc_law.nd rfl (by first | exact Or.inl rfl | exact Or.inr rfl)) (pss_cons (ps_asg (pe_call (ok_l_clock_book T) (hr.mono (by first | decide | omega)) (by rfl) T.g_l_clock_book T.F_l_clock_book.kp T.b_l_clock_book .nil pass0 (pa_cons (pe_call (ok_l_anew T) (hr.mono (by first | decide | omega)) (by rfl) T.g_l_anew T.F_l_anew.kp T.b_l_anew .nil pass0 (pa_cons (pv 1) pa_nil)) (pa_cons pe_int (pa_cons pe_int pa_nil)))) (pg_tup rfl (pgs_cons (pg_name (i := 3) sc_law.nd rfl (by first | exact Or.inl rfl | exact Or.inr rfl)) (pgs_cons (pg_name (i := 4) sc_law.nd rfl (by first | exact Or.inl rfl | exact Or.inr rfl)) (pgs_cons (pg_name (i := 5) sc_law.nd rfl (by first | exact Or.inl rfl | exact Or.inr rfl)) (pgs_cons (pg_name (i := 6) sc_law.nd rfl (by first | exact Or.inl rfl | exact Or.inr rfl)) pgs_nil))))))
        (pss_cons (ps_set (i := 7) sc_law.nd rfl (by first | exact Or.inl rfl | exact Or.inr rfl) (pe_op op_sub pe_int (pe_op op_mul pe_int (pe_callTy call_int1 (by rfl) T.m_int (by decide +kernel) (pa_cons (pe_cmpR op_gt (pe_dget (hu_of hr) (pv 5) (pe_ix ix_tup (pe_ix ix_tup (pv 3) pe_int (fun _ _ => rfl)) pe_int (fun _ _ => rfl)) (fun _ _ => rfl)) (pe_op op_sub pe_int (pe_op op_pow pe_int pe_int)) (nomark _)) pa_nil)))))
        (pss_cons (ps_set (i := 8) sc_law.nd rfl (by first | exact Or.inl rfl | exact Or.inr rfl) (pe_callTy (call_dictP rfl) (by rfl) T.m_dict (by decide +kernel) (pa_cons (pe_lc (own := [("house", 9)]) (g := gName 9) (by rfl) sc_law.nd (pi_tup (pe_ix ix_tup (pv 3) pe_int (fun _ _ => rfl))) (blkOk_by (own := [("house", 9)]) (N := ["script", "pen", "turn", "town", "rows", "bases", "true_pairs", "low", "by", "house", "books", "pairs", "here", "there", "less"]) (sc := defScope s_law) (by decide +kernel)) (fun _ _ _ _ _ => pg_name (i := 9) sc_law.nd rfl (Or.inl rfl)) (fun _ _ _ _ _ => pts_nil) (fun _ _ _ _ _ => (pe_tup (pa_cons (pv 9) (pa_cons (pe_op op_add (pv 7) (pe_call (ok_l_take T) (hr.mono (by first | decide | omega)) (by rfl) T.g_l_take T.F_l_take.kp T.b_l_take .nil pass0 (pa_cons (pv 1) (pa_cons pe_int pa_nil)))) pa_nil))))) pa_nil)))
        (pss_cons (ps_set (i := 10) sc_law.nd rfl (by first | exact Or.inl rfl | exact Or.inr rfl) (pe_lst (pa_cons (pv 4) (pa_cons (pe_call (ok_l_set_on T) (hr.mono (by first | decide | omega)) (by rfl) T.g_l_set_on T.F_l_set_on.kp T.b_l_set_on .nil pass0 (pa_cons (pv 4) (pa_cons (pv 8) pa_nil))) pa_nil))))
        (pss_cons (ps_set (i := 11) sc_law.nd rfl (by first | exact Or.inl rfl | exact Or.inr rfl) (pe_call (ok_l_some_pairs T) (hr.mono (by first | decide | omega)) (by rfl) T.g_l_some_pairs T.F_l_some_pairs.kp T.b_l_some_pairs .nil pass0 (pa_cons (pv 1) (pa_cons (pv 4) (pa_cons (pv 6) (pa_cons (pe_ix ix_list (pe_lst (pa_cons pe_int (pa_cons pe_int (pa_cons pe_int pa_nil)))) (pv 2) (fun _ _ => rfl)) pa_nil))))))
        (pss_cons (ps_set (i := 12) sc_law.nd rfl (by first | exact Or.inl rfl | exact Or.inr rfl) (pe_call (ok_shifts T) (hr.mono (by first | decide | omega)) (by rfl) T.g_shifts T.F_shifts.kp T.b_shifts .nil passL (pa_cons (pv 3) (pa_cons (pe_callTy call_list_of (by rfl) T.m_list (by decide +kernel) (pa_cons (pe_ix ix_list (pv 10) pe_int (fun _ _ => rfl)) pa_nil)) (pa_cons (pe_callTy call_list_of (by rfl) T.m_list (by decide +kernel) (pa_cons (pv 11) pa_nil)) pa_nil)))))
        (pss_cons (ps_set (i := 13) sc_law.nd rfl (by first | exact Or.inl rfl | exact Or.inr rfl) (pe_call (ok_shifts T) (hr.mono (by first | decide | omega)) (by rfl) T.g_shifts T.F_shifts.kp T.b_shifts .nil passL (pa_cons (pv 3) (pa_cons (pe_callTy call_list_of (by rfl) T.m_list (by decide +kernel) (pa_cons (pe_ix ix_list (pv 10) pe_int (fun _ _ => rfl)) pa_nil)) (pa_cons (pe_callTy call_list_of (by rfl) T.m_list (by decide +kernel) (pa_cons (pv 11) pa_nil)) pa_nil)))))
        (pss_cons (ps_if (pt_cmpR op_ne (pe_ix ix_tup (pv 12) pe_int (fun _ _ => rfl)) (pe_ix ix_tup (pv 13) pe_int (fun _ _ => rfl)) (nomark _)) (pss_one (ps_ret pe_bl)) pss_nil)
        (pss_one (ps_if (pt_cmpR op_eq (pe_ix ix_tup (pv 12) pe_int (fun _ _ => rfl)) pe_str (nomark _)) (pss_one (ps_if (pt_cmpR (op_notB true) (pe_call (ok_is_ring T B) (hr.mono (by first | decide | omega)) (by rfl) T.g_is_ring T.F_is_ring.kp T.b_is_ring .nil passL (pa_cons (pv 3) (pa_cons (pe_callTy call_list_of (by rfl) T.m_list (by decide +kernel) (pa_cons (pe_ix ix_list (pv 10) pe_int (fun _ _ => rfl)) pa_nil)) (pa_cons (pe_callTy call_list_of (by rfl) T.m_list (by decide +kernel) (pa_cons (pv 11) pa_nil)) (pa_cons (pe_call (ok_l_turned T) (hr.mono (by first | decide | omega)) (by rfl) T.g_l_turned T.F_l_turned.kp T.b_l_turned .nil pass0 (pa_cons (pe_ix (show IxR _ (rIxT K) from ix_tup) (pv 12) pe_int (fun _ _ => rfl)) (pa_cons (pv 8) pa_nil))) pa_nil))))) pe_bl (nomark _)) (pss_one (ps_ret pe_bl)) pss_nil)) (pss_cons (ps_set (i := 14) sc_law.nd rfl (by first | exact Or.inl rfl | exact Or.inr rfl) (pe_callTy (call_dictP rfl) (by rfl) T.m_dict (by decide +kernel) (pa_cons (pe_lc (own := [("house", 9)]) (g := gName 9) (by rfl) sc_law.nd (pi_tup (pe_ix ix_tup (pv 3) pe_int (fun _ _ => rfl))) (blkOk_by (own := [("house", 9)]) (N := ["script", "pen", "turn", "town", "rows", "bases", "true_pairs", "low", "by", "house", "books", "pairs", "here", "there", "less"]) (sc := defScope s_law) (by decide +kernel)) (fun _ _ _ _ _ => pg_name (i := 9) sc_law.nd rfl (Or.inl rfl)) (fun _ _ _ _ _ => pts_nil) (fun _ _ _ _ _ => (pe_tup (pa_cons (pv 9) (pa_cons (pe_op op_sub (pe_dget (hu_of hr) (pe_ix (show IxR _ (rIxT K) from ix_tup) (pv 12) pe_int (fun _ _ => rfl)) (pv 9) (fun _ _ => rfl)) (pe_dget (hu_of hr) (pv 8) (pv 9) (fun _ _ => rfl))) pa_nil))))) pa_nil)))
        (pss_cons (ps_if (pt_cmpR (op_notB true) (pe_call (ok_in_time T B) (hr.mono (by first | decide | omega)) (by rfl) T.g_in_time T.F_in_time.kp T.b_in_time .nil passL (pa_cons (pv 3) (pa_cons (pe_callTy call_list_of (by rfl) T.m_list (by decide +kernel) (pa_cons (pe_ix ix_list (pv 10) pe_int (fun _ _ => rfl)) pa_nil)) (pa_cons (pe_callTy call_list_of (by rfl) T.m_list (by decide +kernel) (pa_cons (pv 11) pa_nil)) (pa_cons (pv 14) pa_nil))))) pe_bl (nomark _)) (pss_one (ps_ret pe_bl)) pss_nil)
        (pss_one (ps_if (pt_not (pt_val (pe_call (ok_l_great_right T) (hr.mono (by first | decide | omega)) (by rfl) T.g_l_great_right T.F_l_great_right.kp T.b_l_great_right .nil pass0 (pa_cons (pv 3) (pa_cons (pv 10) (pa_cons (pv 11) (pa_cons (pv 8) pa_nil))))))) (pss_one (ps_ret pe_bl)) pss_nil)))))))))))))))
        (pss_one (ps_ret pe_bl)))), ?_⟩
    refine ⟨_, rfl, a, ns, rfl, hS, hlen, fun p c H1 s1 np nc hP => ?_⟩
    have tb1 := tbs.same s1
    refine ⟨3, rfl, by decide, by decide, for_range (lo := 0) (n := 3) (fun i σ H' => (∃ v2 v3 v4 v5 v6 v7 v8 v9 v10 v11 v12 v13 v14 : Option V, σ = [some (.ref a), some (.ref p), v2, v3, v4, v5, v6, v7, v8, v9, v10, v11, v12, v13, v14]) ∧ Pen H' p c ∧ Tbs af H')
      ⟨⟨none, none, none, none, none, none, none, none, none, none, none, none, none, rfl⟩, hP, tb1⟩ ?_ ?_⟩
    · rintro i σ H2 hi ⟨⟨v2, v3, v4, v5, v6, v7, v8, v9, v10, v11, v12, v13, v14, rfl⟩, P2, tb2⟩
      refine ⟨_, rfl, p, c, rfl, P2, fun H3 s3 => ?_⟩
      have P3 := s3.1
      refine ⟨p, c, 5, 14, rfl, P3, by decide, by decide, by decide, fun Tp t l d L hs gs xs us rws bs kB ps H4 s4 hT C hle heq inb => ?_⟩
      have P4 := s4.1
      have tb4 := (tb2.stp s3 P2).stp s4 P3
      refine ⟨Tp, _, rfl, SqT.of hT, rfl, _, _, rfl, _, _, rfl, _, _, rfl, _, _, rfl, rfl, ?_⟩
      obtain ⟨ta, tb, t1, t2, t3⟩ := C.hand.town
      obtain ⟨h0, e0⟩ : ∃ h0, hs[0]? = some h0 := ⟨_, List.getElem?_eq_getElem C.one⟩
      have m0 := List.mem_of_getElem? e0
      have g0 := DGet.k (k := Sum.inr h0) C.bas
      rw [(C.basd h0 m0).1] at g0
      refine ⟨_, rfl, _, rfl, t, _, 0, _, rfl, rfl, SqT.of t1, rfl, ta, _, 0, _, rfl, rfl, SqT.of t2, atI_nat (j := 0) (by rw [List.getElem?_map, e0]; rfl), ?_⟩
      refine ⟨d, _, rfl, g0, 10, 11, rfl, rfl, ⟨by decide, by decide, by decide⟩, _, _, rfl, rfl, _, _, rfl, rfl, .inr ⟨_, rfl, _, _, rfl, rfl, .inl ⟨by decide, by decide⟩, _, _, rfl, rfl, ?_⟩⟩
      refine ⟨_, rfl, t, _, 0, _, rfl, rfl, SqT.of t1, rfl, ta, rfl, ⟨_, SqT.of t2⟩, fun D1 nD1 => ?_⟩
      refine lc_pairs (p := p) (c := c) (fun h n => -50 ≤ n ∧ n ≤ 100 ∧ (n < 0 → -100000000000 < bs h0)) t2 C.hand.h6 P4 nD1 (fun x G Ke mx sG ke => ?_) (fun us2 kv G sG hD pk ek hv => ?_)
      · refine ⟨_, rfl, _, rfl, _, rfl, p, c, 101, rfl, sG.1, by decide, by decide, fun z G2 z0 z1 sz => ⟨_, _, rfl, rfl, (by show 2 ≤ sizeLine; decide), fun b nb => ?_⟩⟩
        have nb0 : G b = none := by
          cases e : G b with
          | none => rfl
          | some o =>
            have := sz.2 b o (fun y => sz.1.neP nb y.symm) e
            rw [nb] at this
            cases this
        refine ke _ b _ (sz.trans ((Stp.refl sz.1).new sz.1 nb)) nb0 upd_same ?_
        by_cases cc : 0 - (10 : Int) ^ (11 : Int).toNat < bs h0
        · rw [decide_eq_true cc]
          have cc' : (0 : Int) - 100000000000 < bs h0 := cc
          simp only [if_true]
          omega
        · rw [decide_eq_false cc]
          simp only [Bool.false_eq_true, if_false]
          omega
      obtain ⟨em, ds, hR⟩ := dsh_of ek C.hand.nd C.hand.ok C.hand.h6 hv
      refine ⟨D1, us2, kv, rfl, SqL.of hD, pk.pair, fun bD nbD => ?_⟩
      rw [em]
      have s5 : Stp p c H4 (upd G bD (.dK kv)) := sG.new P4 nbD
      have hbD : (upd G bD (.dK kv)) bD = some (.dK kv) := upd_same
      have nbp : bD ≠ p := fun e => sG.1.neP nbD e.symm
      generalize upd G bD (.dK kv) = H5 at s5 hbD ⊢
      have P5 := s5.1
      have C5 := C.stp P4 s5
      have tb5 := tb4.stp s5 P4
      generalize hm : basOf kv = m at ds hR
      have BS : Book hs (rws.map (setR m)) := book_set C.hand.book inb fun h mh => by
        have b1 := (C.basd h mh).2
        have b2 := hR h mh
        obtain ⟨b0, hb0⟩ := heq
        have b3 := hb0 h mh
        have b4 := hb0 h0 m0
        unfold BasI at b1
        omega
      -- books
      refine ⟨_, rfl, _, rfl, _, rfl, l, bD, hs, xs, rws, kv, m, rfl, C5.hand.lst, C5.hand.rows, by have := C.few; omega, hbD, ds, (fun r mr => bk_in C.hand.book mr), fun l2 xs2 H6 s6 nl2 hl2 rw2 => ?_⟩
      refine ⟨(by show 2 ≤ sizeLine; decide), fun Bk nBk => ?_⟩
      have s7 : Same H6 (upd H6 Bk (.lst [.ref l, .ref l2])) := same_upd nBk
      have hBk : (upd H6 Bk (.lst [.ref l, .ref l2])) Bk = some (.lst [.ref l, .ref l2]) := upd_same
      generalize upd H6 Bk (.lst [.ref l, .ref l2]) = H7 at s7 hBk ⊢
      have s57 := s6.trans s7
      have P6 := P5.sm s6
      have P7 := P5.sm s57
      have C7 := C5.sm (.of s57)
      have tb7 := tb5.same s57
      have nl2p : l2 ≠ p := fun e => P5.neP nl2 e.symm
      have nBp : Bk ≠ p := fun e => P6.neP nBk e.symm
      have hd2' : Hand H7 t l2 hs gs xs2 (rws.map (setR m)) := ⟨C7.hand.town, C.hand.up, C.hand.nd, C.hand.ok, C.hand.h6, s7 _ _ hl2, rw2.same s7, BS, (fun x mx => by obtain ⟨r, mr, rfl⟩ := List.mem_map.mp mx; exact (th_tup (row_th C.hou (BS.wf r mr) (BS.inn r mr)) (row_len7 r).2).mono (by decide) (by decide)), by rw [List.length_map]; have := C.few; omega⟩
      -- pairs
      refine ⟨_, rfl, _, rfl, _, rfl, (by show 3 ≤ sizeLine; decide), fun w0 nw0 => ?_⟩
      have s8 := (Stp.refl P7).new (o := .lst [.int 0, .int 2, .int 8]) P7 nw0
      obtain ⟨y, ey⟩ : ∃ y : Int, atI [V.int 0, .int 2, .int 8] (0 + (i : Nat)) = some (.int y) := by
        have hj3 : i = 0 ∨ i = 1 ∨ i = 2 := by omega
        rcases hj3 with rfl | rfl | rfl
        · exact ⟨_, rfl⟩
        · exact ⟨_, rfl⟩
        · exact ⟨_, rfl⟩
      have P8 := s8.1
      have C8' := C7.stp P7 s8
      have tb8 := tb7.stp s8 P7
      refine ⟨_, rfl, w0, _, _, _, rfl, rfl, SqL.of upd_same, ey, p, c, l, L, y, hs, xs, us, rws, ps, rfl, P8, C8'.hand.lst, C.lp, C8'.hand.rows, by have := C.few; omega, C.hand.book, C.hand.ok, C8'.lst, C.Lp, C8'.prs, by have := C.len; omega, (fun x mx => (C.tru x mx).kn), fun F ws qs H9 s9 nF hF9 pq9 hk lq => ?_⟩
      have P9 := s9.1
      have s79 := s8.trans s9
      have C9 := C8'.stp P8 s9
      have tb9 := tb8.stp s9 P8
      have hd2 := hd2'.stp P7 s79 nl2p
      have hBk9 := s79.2 _ _ nBp hBk
      have hb9 := s79.2 _ _ nbp (s57 _ _ hbD)
      have kset : ∀ p ∈ qs, Kn (rws.map (setR m)) p := fun p mp => kn_set m (hk p mp)
      have lset := links_set m hk
      have lin := links_in C.hand.book qs
      -- here
      refine ⟨_, rfl, _, rfl, Bk, _, 0, _, rfl, rfl, SqL.of hBk9, rfl, l, _, rfl, .inl (SqL.of C9.hand.lst), fun l3 nl3 => ?_⟩
      have x1 : Same H9 (upd H9 l3 (.lst xs)) := same_upd nl3
      have hl3 : (upd H9 l3 (.lst xs)) l3 = some (.lst xs) := upd_same
      generalize upd H9 l3 (.lst xs) = Ha at x1 hl3 ⊢
      refine ⟨_, rfl, F, _, rfl, .inl (SqL.of (x1 _ _ hF9)), fun p3 np3 => ?_⟩
      have x2 : Same Ha (upd Ha p3 (.lst ws)) := same_upd np3
      have hp3 : (upd Ha p3 (.lst ws)) p3 = some (.lst ws) := upd_same
      generalize upd Ha p3 (.lst ws) = Hb at x2 hp3 ⊢
      have x12' := x1.trans x2
      have Cb := C9.sm (.of x12')
      refine ⟨fun _ => False, t, l3, p3, hs, gs, xs, ws, rws.map rowD, qs, rfl, Cb.hand.ask (x2 _ _ hl3), C.one, hp3, pq9.same x12', by omega, (fun rs1 B1 e1 => by rw [← rowD_inj e1]; exact hk), ?_, ?_, C.hand.book.refuse⟩
      · intro rs1 Pt R rw' kk H10 sH _ _ B1 e1 hPt nR hR' lkR hne hring l6
        obtain rfl := rowD_inj e1
        have x10 := x12'.trans sH
        have ring : IsRing (linksOf rws qs) kk := ⟨hne, hring⟩
        refine ⟨_, rfl, _, rfl, Bk, _, 1, _, rfl, rfl, SqL.of (x10 _ _ hBk9), rfl, l2, _, rfl, .inl (SqL.of (hd2.same x10).lst), fun l4 nl4 => ?_⟩
        have y1 : Same H10 (upd H10 l4 (.lst xs2)) := same_upd nl4
        have hl4 : (upd H10 l4 (.lst xs2)) l4 = some (.lst xs2) := upd_same
        generalize upd H10 l4 (.lst xs2) = H11 at y1 hl4 ⊢
        refine ⟨_, rfl, F, _, rfl, .inl (SqL.of (y1 _ _ (x10 _ _ hF9))), fun p4 np4 => ?_⟩
        have y2 : Same H11 (upd H11 p4 (.lst ws)) := same_upd np4
        have hp4 : (upd H11 p4 (.lst ws)) p4 = some (.lst ws) := upd_same
        generalize upd H11 p4 (.lst ws) = H12 at y2 hp4 ⊢
        have x12 := x10.trans (y1.trans y2)
        refine ⟨fun _ => False, t, l4, p4, hs, gs, xs2, ws, (rws.map (setR m)).map rowD, qs, rfl, (hd2.same x12).ask (y2 _ _ hl4), C.one, hp4, pq9.same x12, by omega, (fun rs1 B1 e1 => by rw [← rowD_inj e1]; exact kset), ?_, ?_, BS.refuse⟩
        rotate_left
        · intro rs1 Pt2 S kS f H13 sH2 _ _ B2 e2 hPt2 nS hS2 dsS kpS
          obtain rfl := rowD_inj e2
          rw [lset] at kpS
          exact absurd ((ring_mv m).mpr ring.ring) (keeps_no kpS)
        intro rs1 Pt2 R2 rw2' kk2 H13 sH2 _ _ B2 e2 hPt2 nR2 hR2 lkR2 hne2 hring2 l62
        obtain rfl := rowD_inj e2
        have y13 := (y1.trans y2).trans sH2
        have x13 := x10.trans y13
        have hPt13 := y13 _ _ hPt
        refine ⟨_, rfl, Pt, _, 0, _, rfl, rfl, SqT.of hPt13, rfl, _, rfl, Pt2, _, 0, _, rfl, rfl, SqT.of hPt2, rfl, rfl, _, rfl, ne_no rfl ?_⟩
        refine ⟨_, rfl, Pt, _, 0, _, rfl, rfl, SqT.of hPt13, rfl, rfl, _, rfl, iteTd rfl ?_⟩
        have hBkQ := x13 _ _ hBk9
        have hdQ := hd2.same x13
        have hFQ := x13 _ _ hF9
        have pqQ := pq9.same x13
        refine ⟨_, rfl, _, rfl, Bk, _, 1, _, rfl, rfl, SqL.of hBkQ, rfl, l2, _, rfl, .inl (SqL.of hdQ.lst), fun l5 nl5 => ?_⟩
        have u1 : Same H13 (upd H13 l5 (.lst xs2)) := same_upd nl5
        have hl5 : (upd H13 l5 (.lst xs2)) l5 = some (.lst xs2) := upd_same
        generalize upd H13 l5 (.lst xs2) = H14 at u1 hl5 ⊢
        refine ⟨_, rfl, F, _, rfl, .inl (SqL.of (u1 _ _ hFQ)), fun p5 np5 => ?_⟩
        have u2 : Same H14 (upd H14 p5 (.lst ws)) := same_upd np5
        have hp5 : (upd H14 p5 (.lst ws)) p5 = some (.lst ws) := upd_same
        generalize upd H14 p5 (.lst ws) = H15 at u2 hp5 ⊢
        have u12 := u1.trans u2
        have x15 := x13.trans u12
        refine ⟨_, rfl, Pt, _, 1, _, rfl, rfl, SqT.of (u12 _ _ hPt13), rfl, _, rfl, R, bD, hs, rw', kk, kv, m, rfl, (y13.trans u12) _ _ hR', lkR.same (y13.trans u12), by omega, (fun l ml => lin l (chain_mem ring.2.choose_spec.1 l ml)), x15 _ _ hb9, ds, fun R3 us3 H16 u3 hR3 lk3 => ?_⟩
        have x16 := x15.trans u3
        refine ⟨fun _ => False, t, l5, p5, R3, hs, gs, xs2, ws, us3, (rws.map (setR m)).map rowD, qs, kk.map (mvL m), rfl, (hd2.same x16).ask ((u2.trans u3) _ _ hl5), u3 _ _ hp5, pq9.same x16, by omega, (fun rs1 B1 e1 => by rw [← rowD_inj e1]; exact kset), hR3, lk3, by rw [List.length_map]; omega, tb9.same x16, (fun rs1 z H17 s17 _ _ B1 e1 hz => ?_), BS.refuse⟩
        obtain rfl := rowD_inj e1
        obtain rfl : z = true := hz.mpr (by rw [lset]; exact isring_mv m ring)
        refine ⟨rfl, _, rfl, ?_⟩
        rw [decide_eq_true rfl]
        exact iteF ⟨⟨_, _, _, _, _, _, _, _, _, _, _, _, _, rfl⟩, (P9.sm x16).smm s17, (tb9.same x16).sm s17⟩
      · intro rs1 Pt S kS f H10 sH _ _ B1 e1 hPt nS hS10 dsS kpS
        obtain rfl := rowD_inj e1
        have x10 := x12'.trans sH
        have nr := keeps_no kpS
        refine ⟨_, rfl, _, rfl, Bk, _, 1, _, rfl, rfl, SqL.of (x10 _ _ hBk9), rfl, l2, _, rfl, .inl (SqL.of (hd2.same x10).lst), fun l4 nl4 => ?_⟩
        have y1 : Same H10 (upd H10 l4 (.lst xs2)) := same_upd nl4
        have hl4 : (upd H10 l4 (.lst xs2)) l4 = some (.lst xs2) := upd_same
        generalize upd H10 l4 (.lst xs2) = H11 at y1 hl4 ⊢
        refine ⟨_, rfl, F, _, rfl, .inl (SqL.of (y1 _ _ (x10 _ _ hF9))), fun p4 np4 => ?_⟩
        have y2 : Same H11 (upd H11 p4 (.lst ws)) := same_upd np4
        have hp4 : (upd H11 p4 (.lst ws)) p4 = some (.lst ws) := upd_same
        generalize upd H11 p4 (.lst ws) = H12 at y2 hp4 ⊢
        have x12 := x10.trans (y1.trans y2)
        refine ⟨fun _ => False, t, l4, p4, hs, gs, xs2, ws, (rws.map (setR m)).map rowD, qs, rfl, (hd2.same x12).ask (y2 _ _ hl4), C.one, hp4, pq9.same x12, by omega, (fun rs1 B1 e1 => by rw [← rowD_inj e1]; exact kset), ?_, ?_, BS.refuse⟩
        · intro rs1 Pt2 R2 rw2' kk2 H13 sH2 _ _ B2 e2 hPt2 nR2 hR2 lkR2 hne2 hring2 l62
          obtain rfl := rowD_inj e2
          rw [lset] at hring2
          exact absurd ((ring_mv m).mp (IsRing.ring ⟨hne2, hring2⟩)) nr
        intro rs1 Pt2 S2 kS2 f2 H13 sH2 _ _ B2 e2 hPt2 nS2 hS2 dsS2 kpS2
        obtain rfl := rowD_inj e2
        have y13 := (y1.trans y2).trans sH2
        have x13 := x10.trans y13
        have hPt13 := y13 _ _ hPt
        have hS13 := y13 _ _ hS10
        refine ⟨_, rfl, Pt, _, 0, _, rfl, rfl, SqT.of hPt13, rfl, _, rfl, Pt2, _, 0, _, rfl, rfl, SqT.of hPt2, rfl, rfl, _, rfl, ne_no rfl ?_⟩
        refine ⟨_, rfl, Pt, _, 0, _, rfl, rfl, SqT.of hPt13, rfl, rfl, _, rfl, iteFd (by decide) ?_⟩
        have P13 := P9.sm x13
        have C13 := C9.sm (.of x13)
        have nSp : S ≠ p := fun e => (P9.sm x12').neP nS e.symm
        obtain ⟨ta', tb', t1', t2', t3'⟩ := C13.hand.town
        refine ⟨_, rfl, t, _, 0, _, rfl, rfl, SqT.of t1', rfl, ta', rfl, ⟨_, SqT.of t2'⟩, fun D2 nD2 => ?_⟩
        refine lc_pairs (p := p) (c := c) (fun h n => n = f h - m h) t2' C.hand.h6 P13 nD2 (fun x G Ke mx sG ke => ?_) (fun us4 kv4 G sG hD4 pk4 ek4 hv4 => ?_)
        · have gd1 := DGet.k (k := Sum.inr x) (sG.2 _ _ nSp hS13)
          rw [dsS.val x mx] at gd1
          have gd2 := DGet.k (k := Sum.inr x) (sG.2 _ _ nbp (x13 _ _ hb9))
          rw [ds.val x mx] at gd2
          refine ⟨_, rfl, _, rfl, Pt, _, 1, _, rfl, rfl, SqT.of (sG.tup P13 hPt13), rfl, _, rfl, S, _, rfl, gd1, _, rfl, _, rfl, bD, _, rfl, gd2, _, _, rfl, rfl, (by show 2 ≤ sizeLine; decide), fun b nb => ?_⟩
          exact ke (f x - m x) b _ ((Stp.refl sG.1).new sG.1 nb) nb upd_same rfl
        obtain ⟨em4, ds4, hR4⟩ := dsh_of ek4 C.hand.nd C.hand.ok C.hand.h6 hv4
        refine ⟨D2, us4, kv4, rfl, SqL.of hD4, pk4.pair, fun dl ndl => ?_⟩
        rw [em4]
        have sQ : Stp p c H13 (upd G dl (.dK kv4)) := sG.new P13 ndl
        have hdl : (upd G dl (.dK kv4)) dl = some (.dK kv4) := upd_same
        generalize upd G dl (.dK kv4) = HQ at sQ hdl ⊢
        have nFp : F ≠ p := fun e => P8.neP nF e.symm
        have PQ := sQ.1
        have CQ := C13.stp P13 sQ
        have tbQ := (tb9.same x13).stp sQ P13
        have hBkQ := sQ.2 _ _ nBp (x13 _ _ hBk9)
        have hdQ := (hd2.same x13).stp P13 sQ nl2p
        have hFQ := sQ.2 _ _ nFp (x13 _ _ hF9)
        have pqQ := (pq9.same x13).go fun b ys e => sQ.tup P13 e
        have hbQ := sQ.2 _ _ nbp (x13 _ _ hb9)
        refine ⟨_, rfl, _, rfl, Bk, _, 1, _, rfl, rfl, SqL.of hBkQ, rfl, l2, _, rfl, .inl (SqL.of hdQ.lst), fun l5 nl5 => ?_⟩
        have u1 : Same HQ (upd HQ l5 (.lst xs2)) := same_upd nl5
        have hl5 : (upd HQ l5 (.lst xs2)) l5 = some (.lst xs2) := upd_same
        generalize upd HQ l5 (.lst xs2) = H14 at u1 hl5 ⊢
        refine ⟨_, rfl, F, _, rfl, .inl (SqL.of (u1 _ _ hFQ)), fun p5 np5 => ?_⟩
        have u2 : Same H14 (upd H14 p5 (.lst ws)) := same_upd np5
        have hp5 : (upd H14 p5 (.lst ws)) p5 = some (.lst ws) := upd_same
        generalize upd H14 p5 (.lst ws) = H15 at u2 hp5 ⊢
        have u12 := u1.trans u2
        have kp4 : Bf.Keeps (linksOf (rws.map (setR m)) qs) (basOf kv4) := by
          rw [lset]
          exact keeps_on (mv_in lin) (keeps_mv m kpS) hR4
        refine ⟨_, rfl, fun _ => False, t, l5, p5, dl, hs, gs, hs, xs2, ws, (rws.map (setR m)).map rowD, qs, kv4, basOf kv4, rfl, (hdQ.same u12).ask (u2 _ _ hl5), hp5, pqQ.same u12, by omega, (fun rs1 B1 e1 => by rw [← rowD_inj e1]; exact kset), C.hand.up, u12 _ _ hdl, ds4, tbQ.same u12, (fun rs1 H17 s17 _ _ B1 e1 => ?_), BS.refuse⟩
        obtain rfl := rowD_inj e1
        rw [bear_true kp4]
        have sm17 : Sm HQ H17 := (Sm.of u12).trans s17
        refine ⟨rfl, _, rfl, ?_⟩
        rw [decide_eq_true rfl]
        refine iteF ?_
        refine ⟨_, rfl, _, rfl, _, rfl, _, rfl, t, Bk, l, l2, F, bD, hs, gs, xs, xs2, ws, rws, qs, kv, m, rfl, sm17.lst hBkQ, (CQ.sm sm17).hand, hand_sm hdQ sm17, C.one, sm17.lst hFQ, pqQ.go (fun b ys e => sm17.tup e), by omega, hk, nr, sm17.dK hbQ, ds, fun H18 s18 => ⟨_, rfl, iteF ?_⟩⟩
        exact ⟨⟨_, _, _, _, _, _, _, _, _, _, _, _, _, rfl⟩, (PQ.smm sm17).sm s18, (tbQ.sm sm17).same s18⟩
    · rintro σ H2 ⟨⟨v2, v3, v4, v5, v6, v7, v8, v9, v10, v11, v12, v13, v14, rfl⟩, P2, tb2⟩
      exact q H2
end
theorem all_mk {l : PySem.W.OpenLaw} {q : Program} {w : World} {K : PySem.W.Frag} {h : Heap} {mg : Str → Option Value} {fa : Addr} (X : K.In h) (G : h.Ns mainGlobals mg) (hfa : mg "law" = some (.ref fa))
    {f0 f1 f2 f3 f4 f5 f6 f7 f8 f9 f10 f11 f12 f13 f14 f15 f16 f17 f18 f19 f20 f21 f22 f23 f24 f25 f26 f27 f28 f29 f30 f31 f32 f33 f34 f35 f36 f37 f38 f39 f40 f41 f42 f43 f44 f45 f46 f47 f48 f49 f50 f51 f52 f53 f54 f55 f56 f57 f58 f59 : Addr}
    {od0 an0 od1 an1 od2 an2 od3 an3 od4 an4 od5 an5 od6 an6 od7 an7 od8 an8 od9 an9 od10 an10 od11 an11 od12 an12 od13 an13 od14 an14 od15 an15 od16 an16 od17 an17 od18 an18 od19 an19 od20 an20 od21 an21 od22 an22 od23 an23 od24 an24 od25 an25 od26 an26 od27 an27 od28 an28 od29 an29 od30 an30 od31 an31 od32 an32 od33 an33 od34 an34 od35 an35 od36 an36 od37 an37 od38 an38 od39 an39 od40 an40 od41 an41 od42 an42 od43 an43 od44 an44 od45 an45 od46 an46 od47 an47 od48 an48 od49 an49 od50 an50 od51 an51 od52 an52 od53 an53 od54 an54 od55 an55 od56 an56 od57 an57 od58 an58 od59 an59 : Option Addr} {sl0 sl1 sl2 sl3 sl4 sl5 sl6 sl7 sl8 sl9 sl10 sl11 sl12 sl13 sl14 sl15 sl16 sl17 sl18 sl19 sl20 sl21 sl22 sl23 sl24 sl25 sl26 sl27 sl28 sl29 sl30 sl31 sl32 sl33 sl34 sl35 sl36 sl37 sl38 sl39 sl40 sl41 sl42 sl43 sl44 sl45 sl46 sl47 sl48 sl49 sl50 sl51 sl52 sl53 sl54 sl55 sl56 sl57 sl58 sl59 : Array (Option Value)} {oc0 kV0 dc0 pm0 ct0 cd0 oc1 kV1 dc1 pm1 ct1 cd1 oc2 kV2 dc2 pm2 ct2 cd2 oc3 kV3 dc3 pm3 ct3 cd3 oc4 kV4 dc4 pm4 ct4 cd4 oc5 kV5 dc5 pm5 ct5 cd5 oc6 kV6 dc6 pm6 ct6 cd6 oc7 kV7 dc7 pm7 ct7 cd7 oc8 kV8 dc8 pm8 ct8 cd8 oc9 kV9 dc9 pm9 ct9 cd9 oc10 kV10 dc10 pm10 ct10 cd10 oc11 kV11 dc11 pm11 ct11 cd11 oc12 kV12 dc12 pm12 ct12 cd12 oc13 kV13 dc13 pm13 ct13 cd13 oc14 kV14 dc14 pm14 ct14 cd14 oc15 kV15 dc15 pm15 ct15 cd15 oc16 kV16 dc16 pm16 ct16 cd16 oc17 kV17 dc17 pm17 ct17 cd17 oc18 kV18 dc18 pm18 ct18 cd18 oc19 kV19 dc19 pm19 ct19 cd19 oc20 kV20 dc20 pm20 ct20 cd20 oc21 kV21 dc21 pm21 ct21 cd21 oc22 kV22 dc22 pm22 ct22 cd22 oc23 kV23 dc23 pm23 ct23 cd23 oc24 kV24 dc24 pm24 ct24 cd24 oc25 kV25 dc25 pm25 ct25 cd25 oc26 kV26 dc26 pm26 ct26 cd26 oc27 kV27 dc27 pm27 ct27 cd27 oc28 kV28 dc28 pm28 ct28 cd28 oc29 kV29 dc29 pm29 ct29 cd29 oc30 kV30 dc30 pm30 ct30 cd30 oc31 kV31 dc31 pm31 ct31 cd31 oc32 kV32 dc32 pm32 ct32 cd32 oc33 kV33 dc33 pm33 ct33 cd33 oc34 kV34 dc34 pm34 ct34 cd34 oc35 kV35 dc35 pm35 ct35 oc36 kV36 dc36 pm36 ct36 oc37 kV37 dc37 pm37 ct37 cd37 oc38 kV38 dc38 pm38 ct38 cd38 oc39 kV39 dc39 pm39 ct39 cd39 oc40 kV40 dc40 pm40 ct40 cd40 oc41 kV41 dc41 pm41 ct41 cd41 oc42 kV42 dc42 pm42 ct42 cd42 oc43 kV43 dc43 pm43 ct43 cd43 oc44 kV44 dc44 pm44 ct44 cd44 oc45 kV45 dc45 pm45 ct45 cd45 oc46 kV46 dc46 pm46 ct46 cd46 oc47 kV47 dc47 pm47 ct47 cd47 oc48 kV48 dc48 pm48 ct48 cd48 oc49 kV49 dc49 pm49 ct49 cd49 oc50 kV50 dc50 pm50 ct50 cd50 oc51 kV51 dc51 pm51 ct51 cd51 oc52 kV52 dc52 pm52 ct52 cd52 oc53 kV53 dc53 pm53 ct53 cd53 oc54 kV54 dc54 pm54 ct54 cd54 oc55 kV55 dc55 pm55 ct55 cd55 oc56 kV56 dc56 pm56 ct56 cd56 oc57 kV57 dc57 pm57 ct57 cd57 oc58 kV58 dc58 pm58 ct58 cd58 oc59 kV59 dc59 pm59 ct59 cd59 : Value}
    (a0 : PySem.W.nsIn K mainGlobals "own_copy" = some (some (.ref f0))) (l0 : K.lookup f0 = some ⟨oc0, od0, .func (PySem.W.fnOf "own_copy" "own_copy" (defArgs s_own_copy) (defBody s_own_copy) (defScope s_own_copy) .none kV0 dc0 pm0 an0 cd0 ct0), sl0⟩) (c0 : PySem.W.codeIn K cd0 "own_copy" = true) (k0 : PySem.W.keepIn K (.ref f0) = true)
    (a1 : PySem.W.nsIn K mainGlobals "is_whole_from" = some (some (.ref f1))) (l1 : K.lookup f1 = some ⟨oc1, od1, .func (PySem.W.fnOf "is_whole_from" "is_whole_from" (defArgs s_is_whole_from) (defBody s_is_whole_from) (defScope s_is_whole_from) .none kV1 dc1 pm1 an1 cd1 ct1), sl1⟩) (c1 : PySem.W.codeIn K cd1 "is_whole_from" = true) (k1 : PySem.W.keepIn K (.ref f1) = true)
    (a2 : PySem.W.nsIn K mainGlobals "is_time" = some (some (.ref f2))) (l2 : K.lookup f2 = some ⟨oc2, od2, .func (PySem.W.fnOf "is_time" "is_time" (defArgs s_is_time) (defBody s_is_time) (defScope s_is_time) .none kV2 dc2 pm2 an2 cd2 ct2), sl2⟩) (c2 : PySem.W.codeIn K cd2 "is_time" = true) (k2 : PySem.W.keepIn K (.ref f2) = true)
    (a3 : PySem.W.nsIn K mainGlobals "is_number" = some (some (.ref f3))) (l3 : K.lookup f3 = some ⟨oc3, od3, .func (PySem.W.fnOf "is_number" "is_number" (defArgs s_is_number) (defBody s_is_number) (defScope s_is_number) .none kV3 dc3 pm3 an3 cd3 ct3), sl3⟩) (c3 : PySem.W.codeIn K cd3 "is_number" = true) (k3 : PySem.W.keepIn K (.ref f3) = true)
    (a4 : PySem.W.nsIn K mainGlobals "is_count" = some (some (.ref f4))) (l4 : K.lookup f4 = some ⟨oc4, od4, .func (PySem.W.fnOf "is_count" "is_count" (defArgs s_is_count) (defBody s_is_count) (defScope s_is_count) .none kV4 dc4 pm4 an4 cd4 ct4), sl4⟩) (c4 : PySem.W.codeIn K cd4 "is_count" = true) (k4 : PySem.W.keepIn K (.ref f4) = true)
    (a5 : PySem.W.nsIn K mainGlobals "is_span" = some (some (.ref f5))) (l5 : K.lookup f5 = some ⟨oc5, od5, .func (PySem.W.fnOf "is_span" "is_span" (defArgs s_is_span) (defBody s_is_span) (defScope s_is_span) .none kV5 dc5 pm5 an5 cd5 ct5), sl5⟩) (c5 : PySem.W.codeIn K cd5 "is_span" = true) (k5 : PySem.W.keepIn K (.ref f5) = true)
    (a6 : PySem.W.nsIn K mainGlobals "is_ask_row" = some (some (.ref f6))) (l6 : K.lookup f6 = some ⟨oc6, od6, .func (PySem.W.fnOf "is_ask_row" "is_ask_row" (defArgs s_is_ask_row) (defBody s_is_ask_row) (defScope s_is_ask_row) .none kV6 dc6 pm6 an6 cd6 ct6), sl6⟩) (c6 : PySem.W.codeIn K cd6 "is_ask_row" = true) (k6 : PySem.W.keepIn K (.ref f6) = true)
    (a7 : PySem.W.nsIn K mainGlobals "is_job_row" = some (some (.ref f7))) (l7 : K.lookup f7 = some ⟨oc7, od7, .func (PySem.W.fnOf "is_job_row" "is_job_row" (defArgs s_is_job_row) (defBody s_is_job_row) (defScope s_is_job_row) .none kV7 dc7 pm7 an7 cd7 ct7), sl7⟩) (c7 : PySem.W.codeIn K cd7 "is_job_row" = true) (k7 : PySem.W.keepIn K (.ref f7) = true)
    (a8 : PySem.W.nsIn K mainGlobals "is_all_row" = some (some (.ref f8))) (l8 : K.lookup f8 = some ⟨oc8, od8, .func (PySem.W.fnOf "is_all_row" "is_all_row" (defArgs s_is_all_row) (defBody s_is_all_row) (defScope s_is_all_row) .none kV8 dc8 pm8 an8 cd8 ct8), sl8⟩) (c8 : PySem.W.codeIn K cd8 "is_all_row" = true) (k8 : PySem.W.keepIn K (.ref f8) = true)
    (a9 : PySem.W.nsIn K mainGlobals "is_row" = some (some (.ref f9))) (l9 : K.lookup f9 = some ⟨oc9, od9, .func (PySem.W.fnOf "is_row" "is_row" (defArgs s_is_row) (defBody s_is_row) (defScope s_is_row) .none kV9 dc9 pm9 an9 cd9 ct9), sl9⟩) (c9 : PySem.W.codeIn K cd9 "is_row" = true) (k9 : PySem.W.keepIn K (.ref f9) = true)
    (a10 : PySem.W.nsIn K mainGlobals "is_out_of_order" = some (some (.ref f10))) (l10 : K.lookup f10 = some ⟨oc10, od10, .func (PySem.W.fnOf "is_out_of_order" "is_out_of_order" (defArgs s_is_out_of_order) (defBody s_is_out_of_order) (defScope s_is_out_of_order) .none kV10 dc10 pm10 an10 cd10 ct10), sl10⟩) (c10 : PySem.W.codeIn K cd10 "is_out_of_order" = true) (k10 : PySem.W.keepIn K (.ref f10) = true)
    (a11 : PySem.W.nsIn K mainGlobals "do_asks_clash" = some (some (.ref f11))) (l11 : K.lookup f11 = some ⟨oc11, od11, .func (PySem.W.fnOf "do_asks_clash" "do_asks_clash" (defArgs s_do_asks_clash) (defBody s_do_asks_clash) (defScope s_do_asks_clash) .none kV11 dc11 pm11 an11 cd11 ct11), sl11⟩) (c11 : PySem.W.codeIn K cd11 "do_asks_clash" = true) (k11 : PySem.W.keepIn K (.ref f11) = true)
    (a12 : PySem.W.nsIn K mainGlobals "do_jobs_clash" = some (some (.ref f12))) (l12 : K.lookup f12 = some ⟨oc12, od12, .func (PySem.W.fnOf "do_jobs_clash" "do_jobs_clash" (defArgs s_do_jobs_clash) (defBody s_do_jobs_clash) (defScope s_do_jobs_clash) .none kV12 dc12 pm12 an12 cd12 ct12), sl12⟩) (c12 : PySem.W.codeIn K cd12 "do_jobs_clash" = true) (k12 : PySem.W.keepIn K (.ref f12) = true)
    (a13 : PySem.W.nsIn K mainGlobals "do_job_and_ask_clash" = some (some (.ref f13))) (l13 : K.lookup f13 = some ⟨oc13, od13, .func (PySem.W.fnOf "do_job_and_ask_clash" "do_job_and_ask_clash" (defArgs s_do_job_and_ask_clash) (defBody s_do_job_and_ask_clash) (defScope s_do_job_and_ask_clash) .none kV13 dc13 pm13 an13 cd13 ct13), sl13⟩) (c13 : PySem.W.codeIn K cd13 "do_job_and_ask_clash" = true) (k13 : PySem.W.keepIn K (.ref f13) = true)
    (a14 : PySem.W.nsIn K mainGlobals "does_all_row_clash" = some (some (.ref f14))) (l14 : K.lookup f14 = some ⟨oc14, od14, .func (PySem.W.fnOf "does_all_row_clash" "does_all_row_clash" (defArgs s_does_all_row_clash) (defBody s_does_all_row_clash) (defScope s_does_all_row_clash) .none kV14 dc14 pm14 an14 cd14 ct14), sl14⟩) (c14 : PySem.W.codeIn K cd14 "does_all_row_clash" = true) (k14 : PySem.W.keepIn K (.ref f14) = true)
    (a15 : PySem.W.nsIn K mainGlobals "do_alike_sorts_clash" = some (some (.ref f15))) (l15 : K.lookup f15 = some ⟨oc15, od15, .func (PySem.W.fnOf "do_alike_sorts_clash" "do_alike_sorts_clash" (defArgs s_do_alike_sorts_clash) (defBody s_do_alike_sorts_clash) (defScope s_do_alike_sorts_clash) .none kV15 dc15 pm15 an15 cd15 ct15), sl15⟩) (c15 : PySem.W.codeIn K cd15 "do_alike_sorts_clash" = true) (k15 : PySem.W.keepIn K (.ref f15) = true)
    (a16 : PySem.W.nsIn K mainGlobals "do_clash" = some (some (.ref f16))) (l16 : K.lookup f16 = some ⟨oc16, od16, .func (PySem.W.fnOf "do_clash" "do_clash" (defArgs s_do_clash) (defBody s_do_clash) (defScope s_do_clash) .none kV16 dc16 pm16 an16 cd16 ct16), sl16⟩) (c16 : PySem.W.codeIn K cd16 "do_clash" = true) (k16 : PySem.W.keepIn K (.ref f16) = true)
    (a17 : PySem.W.nsIn K mainGlobals "need_rows" = some (some (.ref f17))) (l17 : K.lookup f17 = some ⟨oc17, od17, .func (PySem.W.fnOf "need_rows" "need_rows" (defArgs s_need_rows) (defBody s_need_rows) (defScope s_need_rows) .none kV17 dc17 pm17 an17 cd17 ct17), sl17⟩) (c17 : PySem.W.codeIn K cd17 "need_rows" = true) (k17 : PySem.W.keepIn K (.ref f17) = true)
    (a18 : PySem.W.nsIn K mainGlobals "need_book" = some (some (.ref f18))) (l18 : K.lookup f18 = some ⟨oc18, od18, .func (PySem.W.fnOf "need_book" "need_book" (defArgs s_need_book) (defBody s_need_book) (defScope s_need_book) .none kV18 dc18 pm18 an18 cd18 ct18), sl18⟩) (c18 : PySem.W.codeIn K cd18 "need_book" = true) (k18 : PySem.W.keepIn K (.ref f18) = true)
    (a19 : PySem.W.nsIn K mainGlobals "gaps_of" = some (some (.ref f19))) (l19 : K.lookup f19 = some ⟨oc19, od19, .func (PySem.W.fnOf "gaps_of" "gaps_of" (defArgs s_gaps_of) (defBody s_gaps_of) (defScope s_gaps_of) .none kV19 dc19 pm19 an19 cd19 ct19), sl19⟩) (c19 : PySem.W.codeIn K cd19 "gaps_of" = true) (k19 : PySem.W.keepIn K (.ref f19) = true)
    (a20 : PySem.W.nsIn K mainGlobals "rows_by_number" = some (some (.ref f20))) (l20 : K.lookup f20 = some ⟨oc20, od20, .func (PySem.W.fnOf "rows_by_number" "rows_by_number" (defArgs s_rows_by_number) (defBody s_rows_by_number) (defScope s_rows_by_number) .none kV20 dc20 pm20 an20 cd20 ct20), sl20⟩) (c20 : PySem.W.codeIn K cd20 "rows_by_number" = true) (k20 : PySem.W.keepIn K (.ref f20) = true)
    (a21 : PySem.W.nsIn K mainGlobals "numbers_below" = some (some (.ref f21))) (l21 : K.lookup f21 = some ⟨oc21, od21, .func (PySem.W.fnOf "numbers_below" "numbers_below" (defArgs s_numbers_below) (defBody s_numbers_below) (defScope s_numbers_below) .none kV21 dc21 pm21 an21 cd21 ct21), sl21⟩) (c21 : PySem.W.codeIn K cd21 "numbers_below" = true) (k21 : PySem.W.keepIn K (.ref f21) = true)
    (a22 : PySem.W.nsIn K mainGlobals "asks_of_house" = some (some (.ref f22))) (l22 : K.lookup f22 = some ⟨oc22, od22, .func (PySem.W.fnOf "asks_of_house" "asks_of_house" (defArgs s_asks_of_house) (defBody s_asks_of_house) (defScope s_asks_of_house) .none kV22 dc22 pm22 an22 cd22 ct22), sl22⟩) (c22 : PySem.W.codeIn K cd22 "asks_of_house" = true) (k22 : PySem.W.keepIn K (.ref f22) = true)
    (a23 : PySem.W.nsIn K mainGlobals "jobs_of_house" = some (some (.ref f23))) (l23 : K.lookup f23 = some ⟨oc23, od23, .func (PySem.W.fnOf "jobs_of_house" "jobs_of_house" (defArgs s_jobs_of_house) (defBody s_jobs_of_house) (defScope s_jobs_of_house) .none kV23 dc23 pm23 an23 cd23 ct23), sl23⟩) (c23 : PySem.W.codeIn K cd23 "jobs_of_house" = true) (k23 : PySem.W.keepIn K (.ref f23) = true)
    (a24 : PySem.W.nsIn K mainGlobals "count_asks" = some (some (.ref f24))) (l24 : K.lookup f24 = some ⟨oc24, od24, .func (PySem.W.fnOf "count_asks" "count_asks" (defArgs s_count_asks) (defBody s_count_asks) (defScope s_count_asks) .none kV24 dc24 pm24 an24 cd24 ct24), sl24⟩) (c24 : PySem.W.codeIn K cd24 "count_asks" = true) (k24 : PySem.W.keepIn K (.ref f24) = true)
    (a25 : PySem.W.nsIn K mainGlobals "count_jobs" = some (some (.ref f25))) (l25 : K.lookup f25 = some ⟨oc25, od25, .func (PySem.W.fnOf "count_jobs" "count_jobs" (defArgs s_count_jobs) (defBody s_count_jobs) (defScope s_count_jobs) .none kV25 dc25 pm25 an25 cd25 ct25), sl25⟩) (c25 : PySem.W.codeIn K cd25 "count_jobs" = true) (k25 : PySem.W.keepIn K (.ref f25) = true)
    (a26 : PySem.W.nsIn K mainGlobals "earliest" = some (some (.ref f26))) (l26 : K.lookup f26 = some ⟨oc26, od26, .func (PySem.W.fnOf "earliest" "earliest" (defArgs s_earliest) (defBody s_earliest) (defScope s_earliest) .none kV26 dc26 pm26 an26 cd26 ct26), sl26⟩) (c26 : PySem.W.codeIn K cd26 "earliest" = true) (k26 : PySem.W.keepIn K (.ref f26) = true)
    (a27 : PySem.W.nsIn K mainGlobals "latest" = some (some (.ref f27))) (l27 : K.lookup f27 = some ⟨oc27, od27, .func (PySem.W.fnOf "latest" "latest" (defArgs s_latest) (defBody s_latest) (defScope s_latest) .none kV27 dc27 pm27 an27 cd27 ct27), sl27⟩) (c27 : PySem.W.codeIn K cd27 "latest" = true) (k27 : PySem.W.keepIn K (.ref f27) = true)
    (a28 : PySem.W.nsIn K mainGlobals "span_of_ask" = some (some (.ref f28))) (l28 : K.lookup f28 = some ⟨oc28, od28, .func (PySem.W.fnOf "span_of_ask" "span_of_ask" (defArgs s_span_of_ask) (defBody s_span_of_ask) (defScope s_span_of_ask) .none kV28 dc28 pm28 an28 cd28 ct28), sl28⟩) (c28 : PySem.W.codeIn K cd28 "span_of_ask" = true) (k28 : PySem.W.keepIn K (.ref f28) = true)
    (a29 : PySem.W.nsIn K mainGlobals "span_of_job" = some (some (.ref f29))) (l29 : K.lookup f29 = some ⟨oc29, od29, .func (PySem.W.fnOf "span_of_job" "span_of_job" (defArgs s_span_of_job) (defBody s_span_of_job) (defScope s_span_of_job) .none kV29 dc29 pm29 an29 cd29 ct29), sl29⟩) (c29 : PySem.W.codeIn K cd29 "span_of_job" = true) (k29 : PySem.W.keepIn K (.ref f29) = true)
    (a30 : PySem.W.nsIn K mainGlobals "more_of" = some (some (.ref f30))) (l30 : K.lookup f30 = some ⟨oc30, od30, .func (PySem.W.fnOf "more_of" "more_of" (defArgs s_more_of) (defBody s_more_of) (defScope s_more_of) .none kV30 dc30 pm30 an30 cd30 ct30), sl30⟩) (c30 : PySem.W.codeIn K cd30 "more_of" = true) (k30 : PySem.W.keepIn K (.ref f30) = true)
    (a31 : PySem.W.nsIn K mainGlobals "links_of" = some (some (.ref f31))) (l31 : K.lookup f31 = some ⟨oc31, od31, .func (PySem.W.fnOf "links_of" "links_of" (defArgs s_links_of) (defBody s_links_of) (defScope s_links_of) .none kV31 dc31 pm31 an31 cd31 ct31), sl31⟩) (c31 : PySem.W.codeIn K cd31 "links_of" = true) (k31 : PySem.W.keepIn K (.ref f31) = true)
    (a32 : PySem.W.nsIn K mainGlobals "tighten" = some (some (.ref f32))) (l32 : K.lookup f32 = some ⟨oc32, od32, .func (PySem.W.fnOf "tighten" "tighten" (defArgs s_tighten) (defBody s_tighten) (defScope s_tighten) .none kV32 dc32 pm32 an32 cd32 ct32), sl32⟩) (c32 : PySem.W.codeIn K cd32 "tighten" = true) (k32 : PySem.W.keepIn K (.ref f32) = true)
    (a33 : PySem.W.nsIn K mainGlobals "way_from" = some (some (.ref f33))) (l33 : K.lookup f33 = some ⟨oc33, od33, .func (PySem.W.fnOf "way_from" "way_from" (defArgs s_way_from) (defBody s_way_from) (defScope s_way_from) .none kV33 dc33 pm33 an33 cd33 ct33), sl33⟩) (c33 : PySem.W.codeIn K cd33 "way_from" = true) (k33 : PySem.W.keepIn K (.ref f33) = true)
    (a34 : PySem.W.nsIn K mainGlobals "settle" = some (some (.ref f34))) (l34 : K.lookup f34 = some ⟨oc34, od34, .func (PySem.W.fnOf "settle" "settle" (defArgs s_settle) (defBody s_settle) (defScope s_settle) .none kV34 dc34 pm34 an34 cd34 ct34), sl34⟩) (c34 : PySem.W.codeIn K cd34 "settle" = true) (k34 : PySem.W.keepIn K (.ref f34) = true)
    {cc35 tt35 : Addr}
    (a35 : PySem.W.nsIn K mainGlobals "in_time" = some (some (.ref f35))) (l35 : K.lookup f35 = some ⟨oc35, od35, .func (PySem.W.fnOf "in_time" "in_time" (defArgs s_in_time) (defBody s_in_time) (defScope s_in_time) .none kV35 dc35 pm35 an35 (.ref cc35) ct35), sl35⟩) (c35 : PySem.W.codeIn K (.ref cc35) "in_time" = true) (k35 : PySem.W.keepIn K (.ref f35) = true)
    {cc36 tt36 : Addr}
    (a36 : PySem.W.nsIn K mainGlobals "is_ring" = some (some (.ref f36))) (l36 : K.lookup f36 = some ⟨oc36, od36, .func (PySem.W.fnOf "is_ring" "is_ring" (defArgs s_is_ring) (defBody s_is_ring) (defScope s_is_ring) .none kV36 dc36 pm36 an36 (.ref cc36) ct36), sl36⟩) (c36 : PySem.W.codeIn K (.ref cc36) "is_ring" = true) (k36 : PySem.W.keepIn K (.ref f36) = true)
    (a37 : PySem.W.nsIn K mainGlobals "shifts" = some (some (.ref f37))) (l37 : K.lookup f37 = some ⟨oc37, od37, .func (PySem.W.fnOf "shifts" "shifts" (defArgs s_shifts) (defBody s_shifts) (defScope s_shifts) .none kV37 dc37 pm37 an37 cd37 ct37), sl37⟩) (c37 : PySem.W.codeIn K cd37 "shifts" = true) (k37 : PySem.W.keepIn K (.ref f37) = true)
    (a38 : PySem.W.nsIn K mainGlobals "greatest" = some (some (.ref f38))) (l38 : K.lookup f38 = some ⟨oc38, od38, .func (PySem.W.fnOf "greatest" "greatest" (defArgs s_greatest) (defBody s_greatest) (defScope s_greatest) .none kV38 dc38 pm38 an38 cd38 ct38), sl38⟩) (c38 : PySem.W.codeIn K cd38 "greatest" = true) (k38 : PySem.W.keepIn K (.ref f38) = true)
    (a39 : PySem.W.nsIn K mainGlobals "_law_spread" = some (some (.ref f39))) (l39 : K.lookup f39 = some ⟨oc39, od39, .func (PySem.W.fnOf "_law_spread" "_law_spread" (defArgs s_l_spread) (defBody s_l_spread) (defScope s_l_spread) .none kV39 dc39 pm39 an39 cd39 ct39), sl39⟩) (c39 : PySem.W.codeIn K cd39 "_law_spread" = true) (k39 : PySem.W.keepIn K (.ref f39) = true)
    (a40 : PySem.W.nsIn K mainGlobals "_law_open" = some (some (.ref f40))) (l40 : K.lookup f40 = some ⟨oc40, od40, .func (PySem.W.fnOf "_law_open" "_law_open" (defArgs s_l_open) (defBody s_l_open) (defScope s_l_open) .none kV40 dc40 pm40 an40 cd40 ct40), sl40⟩) (c40 : PySem.W.codeIn K cd40 "_law_open" = true) (k40 : PySem.W.keepIn K (.ref f40) = true)
    (a41 : PySem.W.nsIn K mainGlobals "_law_anew" = some (some (.ref f41))) (l41 : K.lookup f41 = some ⟨oc41, od41, .func (PySem.W.fnOf "_law_anew" "_law_anew" (defArgs s_l_anew) (defBody s_l_anew) (defScope s_l_anew) .none kV41 dc41 pm41 an41 cd41 ct41), sl41⟩) (c41 : PySem.W.codeIn K cd41 "_law_anew" = true) (k41 : PySem.W.keepIn K (.ref f41) = true)
    (a42 : PySem.W.nsIn K mainGlobals "_law_take" = some (some (.ref f42))) (l42 : K.lookup f42 = some ⟨oc42, od42, .func (PySem.W.fnOf "_law_take" "_law_take" (defArgs s_l_take) (defBody s_l_take) (defScope s_l_take) .none kV42 dc42 pm42 an42 cd42 ct42), sl42⟩) (c42 : PySem.W.codeIn K cd42 "_law_take" = true) (k42 : PySem.W.keepIn K (.ref f42) = true)
    (a43 : PySem.W.nsIn K mainGlobals "_law_names" = some (some (.ref f43))) (l43 : K.lookup f43 = some ⟨oc43, od43, .func (PySem.W.fnOf "_law_names" "_law_names" (defArgs s_l_names) (defBody s_l_names) (defScope s_l_names) .none kV43 dc43 pm43 an43 cd43 ct43), sl43⟩) (c43 : PySem.W.codeIn K cd43 "_law_names" = true) (k43 : PySem.W.keepIn K (.ref f43) = true)
    (a44 : PySem.W.nsIn K mainGlobals "_law_town" = some (some (.ref f44))) (l44 : K.lookup f44 = some ⟨oc44, od44, .func (PySem.W.fnOf "_law_town" "_law_town" (defArgs s_l_town) (defBody s_l_town) (defScope s_l_town) .none kV44 dc44 pm44 an44 cd44 ct44), sl44⟩) (c44 : PySem.W.codeIn K cd44 "_law_town" = true) (k44 : PySem.W.keepIn K (.ref f44) = true)
    (a45 : PySem.W.nsIn K mainGlobals "_law_room" = some (some (.ref f45))) (l45 : K.lookup f45 = some ⟨oc45, od45, .func (PySem.W.fnOf "_law_room" "_law_room" (defArgs s_l_room) (defBody s_l_room) (defScope s_l_room) .none kV45 dc45 pm45 an45 cd45 ct45), sl45⟩) (c45 : PySem.W.codeIn K cd45 "_law_room" = true) (k45 : PySem.W.keepIn K (.ref f45) = true)
    (a46 : PySem.W.nsIn K mainGlobals "_law_job" = some (some (.ref f46))) (l46 : K.lookup f46 = some ⟨oc46, od46, .func (PySem.W.fnOf "_law_job" "_law_job" (defArgs s_l_job) (defBody s_l_job) (defScope s_l_job) .none kV46 dc46 pm46 an46 cd46 ct46), sl46⟩) (c46 : PySem.W.codeIn K cd46 "_law_job" = true) (k46 : PySem.W.keepIn K (.ref f46) = true)
    (a47 : PySem.W.nsIn K mainGlobals "_law_world" = some (some (.ref f47))) (l47 : K.lookup f47 = some ⟨oc47, od47, .func (PySem.W.fnOf "_law_world" "_law_world" (defArgs s_l_world) (defBody s_l_world) (defScope s_l_world) .none kV47 dc47 pm47 an47 cd47 ct47), sl47⟩) (c47 : PySem.W.codeIn K cd47 "_law_world" = true) (k47 : PySem.W.keepIn K (.ref f47) = true)
    (a48 : PySem.W.nsIn K mainGlobals "_law_called" = some (some (.ref f48))) (l48 : K.lookup f48 = some ⟨oc48, od48, .func (PySem.W.fnOf "_law_called" "_law_called" (defArgs s_l_called) (defBody s_l_called) (defScope s_l_called) .none kV48 dc48 pm48 an48 cd48 ct48), sl48⟩) (c48 : PySem.W.codeIn K cd48 "_law_called" = true) (k48 : PySem.W.keepIn K (.ref f48) = true)
    (a49 : PySem.W.nsIn K mainGlobals "_law_bases" = some (some (.ref f49))) (l49 : K.lookup f49 = some ⟨oc49, od49, .func (PySem.W.fnOf "_law_bases" "_law_bases" (defArgs s_l_bases) (defBody s_l_bases) (defScope s_l_bases) .none kV49 dc49 pm49 an49 cd49 ct49), sl49⟩) (c49 : PySem.W.codeIn K cd49 "_law_bases" = true) (k49 : PySem.W.keepIn K (.ref f49) = true)
    (a50 : PySem.W.nsIn K mainGlobals "_law_all_rows" = some (some (.ref f50))) (l50 : K.lookup f50 = some ⟨oc50, od50, .func (PySem.W.fnOf "_law_all_rows" "_law_all_rows" (defArgs s_l_all_rows) (defBody s_l_all_rows) (defScope s_l_all_rows) .none kV50 dc50 pm50 an50 cd50 ct50), sl50⟩) (c50 : PySem.W.codeIn K cd50 "_law_all_rows" = true) (k50 : PySem.W.keepIn K (.ref f50) = true)
    (a51 : PySem.W.nsIn K mainGlobals "_law_left" = some (some (.ref f51))) (l51 : K.lookup f51 = some ⟨oc51, od51, .func (PySem.W.fnOf "_law_left" "_law_left" (defArgs s_l_left) (defBody s_l_left) (defScope s_l_left) .none kV51 dc51 pm51 an51 cd51 ct51), sl51⟩) (c51 : PySem.W.codeIn K cd51 "_law_left" = true) (k51 : PySem.W.keepIn K (.ref f51) = true)
    (a52 : PySem.W.nsIn K mainGlobals "_law_true_pairs" = some (some (.ref f52))) (l52 : K.lookup f52 = some ⟨oc52, od52, .func (PySem.W.fnOf "_law_true_pairs" "_law_true_pairs" (defArgs s_l_true_pairs) (defBody s_l_true_pairs) (defScope s_l_true_pairs) .none kV52 dc52 pm52 an52 cd52 ct52), sl52⟩) (c52 : PySem.W.codeIn K cd52 "_law_true_pairs" = true) (k52 : PySem.W.keepIn K (.ref f52) = true)
    (a53 : PySem.W.nsIn K mainGlobals "_law_gated" = some (some (.ref f53))) (l53 : K.lookup f53 = some ⟨oc53, od53, .func (PySem.W.fnOf "_law_gated" "_law_gated" (defArgs s_l_gated) (defBody s_l_gated) (defScope s_l_gated) .none kV53 dc53 pm53 an53 cd53 ct53), sl53⟩) (c53 : PySem.W.codeIn K cd53 "_law_gated" = true) (k53 : PySem.W.keepIn K (.ref f53) = true)
    (a54 : PySem.W.nsIn K mainGlobals "_law_clock_book" = some (some (.ref f54))) (l54 : K.lookup f54 = some ⟨oc54, od54, .func (PySem.W.fnOf "_law_clock_book" "_law_clock_book" (defArgs s_l_clock_book) (defBody s_l_clock_book) (defScope s_l_clock_book) .none kV54 dc54 pm54 an54 cd54 ct54), sl54⟩) (c54 : PySem.W.codeIn K cd54 "_law_clock_book" = true) (k54 : PySem.W.keepIn K (.ref f54) = true)
    (a55 : PySem.W.nsIn K mainGlobals "_law_some_pairs" = some (some (.ref f55))) (l55 : K.lookup f55 = some ⟨oc55, od55, .func (PySem.W.fnOf "_law_some_pairs" "_law_some_pairs" (defArgs s_l_some_pairs) (defBody s_l_some_pairs) (defScope s_l_some_pairs) .none kV55 dc55 pm55 an55 cd55 ct55), sl55⟩) (c55 : PySem.W.codeIn K cd55 "_law_some_pairs" = true) (k55 : PySem.W.keepIn K (.ref f55) = true)
    (a56 : PySem.W.nsIn K mainGlobals "_law_set_on" = some (some (.ref f56))) (l56 : K.lookup f56 = some ⟨oc56, od56, .func (PySem.W.fnOf "_law_set_on" "_law_set_on" (defArgs s_l_set_on) (defBody s_l_set_on) (defScope s_l_set_on) .none kV56 dc56 pm56 an56 cd56 ct56), sl56⟩) (c56 : PySem.W.codeIn K cd56 "_law_set_on" = true) (k56 : PySem.W.keepIn K (.ref f56) = true)
    (a57 : PySem.W.nsIn K mainGlobals "_law_turned" = some (some (.ref f57))) (l57 : K.lookup f57 = some ⟨oc57, od57, .func (PySem.W.fnOf "_law_turned" "_law_turned" (defArgs s_l_turned) (defBody s_l_turned) (defScope s_l_turned) .none kV57 dc57 pm57 an57 cd57 ct57), sl57⟩) (c57 : PySem.W.codeIn K cd57 "_law_turned" = true) (k57 : PySem.W.keepIn K (.ref f57) = true)
    (a58 : PySem.W.nsIn K mainGlobals "_law_great_right" = some (some (.ref f58))) (l58 : K.lookup f58 = some ⟨oc58, od58, .func (PySem.W.fnOf "_law_great_right" "_law_great_right" (defArgs s_l_great_right) (defBody s_l_great_right) (defScope s_l_great_right) .none kV58 dc58 pm58 an58 cd58 ct58), sl58⟩) (c58 : PySem.W.codeIn K cd58 "_law_great_right" = true) (k58 : PySem.W.keepIn K (.ref f58) = true)
    (a59 : PySem.W.nsIn K mainGlobals "law" = some (some (.ref f59))) (l59 : K.lookup f59 = some ⟨oc59, od59, .func (PySem.W.fnOf "law" "law" (defArgs s_law) (defBody s_law) (defScope s_law) .none kV59 dc59 pm59 an59 cd59 ct59), sl59⟩) (c59 : PySem.W.codeIn K cd59 "law" = true) (k59 : PySem.W.keepIn K (.ref f59) = true)
    {xC0 xI0 xB0 : Addr} {xnm0 xq0 : Str} {xN0 : Addr} {xbs0 : List Value} {xsn0 : List Str} {xsub0 : List Value} {xab0 : Bool} {xcol0 : Option Bool} {xdd0 : Option Addr} {xm00 xm10 xm20 xm30 xm50 : Option Value} {xod0 xan0 : Option Addr} {xsl0 : Array (Option Value)} {xoc0 xkV0 xdc0 xpm0 xcd0 xct0 : Value}
    (ea0 : PySem.W.nsIn K mainGlobals "NoRow" = some (some (.ref xC0))) (eb0 : K.lookup xC0 = some (excClassObj xnm0 xq0 xC0 xN0 xbs0 [.ref xB0, .type "ValueError", .type "Exception", .type "BaseException", .type "object"] true xsn0 xsub0 xab0 xcol0 xdd0 xm00 xm10 xm20 xm30 xm50 "ValueError.__new__"))
    (ec0 : PySem.W.findIn K (.ref xC0) "__setattr__" = some (some (.builtin "object.__setattr__"))) (ed0 : PySem.W.findIn K (.ref xC0) "__getattribute__" = some (some (.builtin "BaseException.__getattribute__"))) (ee0 : PySem.W.findIn K (.ref xC0) "__getattr__" = some none)
    (ef0 : PySem.W.findIn K (.ref xC0) "__init__" = some (some (.ref xI0))) (eg0 : PySem.W.typeIn K (.ref xI0) = some (.type "function"))
    (eh0 : K.lookup xI0 = some ⟨xoc0, xod0, .func (PySem.W.fnOf "__init__" "NoRow.__init__" (defArgs s_i_NoRow) (defBody s_i_NoRow) (defScope s_i_NoRow) .none xkV0 xdc0 xpm0 xan0 xcd0 xct0), xsl0⟩) (ei0 : PySem.W.codeIn K xcd0 "NoRow.__init__" = true) (ej0 : PySem.W.keepIn K (.ref xI0) = true)
    (ek0 : PySem.W.keepIn K (.ref xC0) = true) (el0 : PySem.W.subIn K (.ref xC0) (.type "BaseException") = some true) (em0 : PySem.W.typeIn K (.ref xC0) = some (.type "type")) (en0 : PySem.W.hasDictIn K xC0 = true) (eo0 : PySem.W.isClsIn K xC0 = true)
    (ep0_0 : PySem.W.findIn K (.ref xC0) "number" = some none)
    {xC1 xI1 xB1 : Addr} {xnm1 xq1 : Str} {xN1 : Addr} {xbs1 : List Value} {xsn1 : List Str} {xsub1 : List Value} {xab1 : Bool} {xcol1 : Option Bool} {xdd1 : Option Addr} {xm01 xm11 xm21 xm31 xm51 : Option Value} {xod1 xan1 : Option Addr} {xsl1 : Array (Option Value)} {xoc1 xkV1 xdc1 xpm1 xcd1 xct1 : Value}
    (ea1 : PySem.W.nsIn K mainGlobals "Clash" = some (some (.ref xC1))) (eb1 : K.lookup xC1 = some (excClassObj xnm1 xq1 xC1 xN1 xbs1 [.ref xB1, .type "ValueError", .type "Exception", .type "BaseException", .type "object"] true xsn1 xsub1 xab1 xcol1 xdd1 xm01 xm11 xm21 xm31 xm51 "ValueError.__new__"))
    (ec1 : PySem.W.findIn K (.ref xC1) "__setattr__" = some (some (.builtin "object.__setattr__"))) (ed1 : PySem.W.findIn K (.ref xC1) "__getattribute__" = some (some (.builtin "BaseException.__getattribute__"))) (ee1 : PySem.W.findIn K (.ref xC1) "__getattr__" = some none)
    (ef1 : PySem.W.findIn K (.ref xC1) "__init__" = some (some (.ref xI1))) (eg1 : PySem.W.typeIn K (.ref xI1) = some (.type "function"))
    (eh1 : K.lookup xI1 = some ⟨xoc1, xod1, .func (PySem.W.fnOf "__init__" "Clash.__init__" (defArgs s_i_Clash) (defBody s_i_Clash) (defScope s_i_Clash) .none xkV1 xdc1 xpm1 xan1 xcd1 xct1), xsl1⟩) (ei1 : PySem.W.codeIn K xcd1 "Clash.__init__" = true) (ej1 : PySem.W.keepIn K (.ref xI1) = true)
    (ek1 : PySem.W.keepIn K (.ref xC1) = true) (el1 : PySem.W.subIn K (.ref xC1) (.type "BaseException") = some true) (em1 : PySem.W.typeIn K (.ref xC1) = some (.type "type")) (en1 : PySem.W.hasDictIn K xC1 = true) (eo1 : PySem.W.isClsIn K xC1 = true)
    (ep1_0 : PySem.W.findIn K (.ref xC1) "first" = some none)
    (ep1_1 : PySem.W.findIn K (.ref xC1) "second" = some none)
    {xC2 xI2 xB2 : Addr} {xnm2 xq2 : Str} {xN2 : Addr} {xbs2 : List Value} {xsn2 : List Str} {xsub2 : List Value} {xab2 : Bool} {xcol2 : Option Bool} {xdd2 : Option Addr} {xm02 xm12 xm22 xm32 xm52 : Option Value} {xod2 xan2 : Option Addr} {xsl2 : Array (Option Value)} {xoc2 xkV2 xdc2 xpm2 xcd2 xct2 : Value}
    (ea2 : PySem.W.nsIn K mainGlobals "OffTime" = some (some (.ref xC2))) (eb2 : K.lookup xC2 = some (excClassObj xnm2 xq2 xC2 xN2 xbs2 [.ref xB2, .type "ValueError", .type "Exception", .type "BaseException", .type "object"] true xsn2 xsub2 xab2 xcol2 xdd2 xm02 xm12 xm22 xm32 xm52 "ValueError.__new__"))
    (ec2 : PySem.W.findIn K (.ref xC2) "__setattr__" = some (some (.builtin "object.__setattr__"))) (ed2 : PySem.W.findIn K (.ref xC2) "__getattribute__" = some (some (.builtin "BaseException.__getattribute__"))) (ee2 : PySem.W.findIn K (.ref xC2) "__getattr__" = some none)
    (ef2 : PySem.W.findIn K (.ref xC2) "__init__" = some (some (.ref xI2))) (eg2 : PySem.W.typeIn K (.ref xI2) = some (.type "function"))
    (eh2 : K.lookup xI2 = some ⟨xoc2, xod2, .func (PySem.W.fnOf "__init__" "OffTime.__init__" (defArgs s_i_OffTime) (defBody s_i_OffTime) (defScope s_i_OffTime) .none xkV2 xdc2 xpm2 xan2 xcd2 xct2), xsl2⟩) (ei2 : PySem.W.codeIn K xcd2 "OffTime.__init__" = true) (ej2 : PySem.W.keepIn K (.ref xI2) = true)
    (ek2 : PySem.W.keepIn K (.ref xC2) = true) (el2 : PySem.W.subIn K (.ref xC2) (.type "BaseException") = some true) (em2 : PySem.W.typeIn K (.ref xC2) = some (.type "type")) (en2 : PySem.W.hasDictIn K xC2 = true) (eo2 : PySem.W.isClsIn K xC2 = true)
    (ep2_0 : PySem.W.findIn K (.ref xC2) "links" = some none)
    {yC0 yI0 : Addr} {yod0 yan0 : Option Addr} {ysl0 : Array (Option Value)} {yoc0 ykV0 ydc0 ypm0 ycd0 yct0 : Value}
    (oa0 : PySem.W.nsIn K mainGlobals "Gaps" = some (some (.ref yC0))) (ob0 : PySem.W.findIn K (.ref yC0) "__init__" = some (some (.ref yI0))) (oc0_ : PySem.W.isFn K (.ref yI0) = true) (od0_ : K.lookup yI0 = some ⟨yoc0, yod0, .func (PySem.W.fnOf "__init__" "Gaps.__init__" (defArgs s_i_Gaps) (defBody s_i_Gaps) (defScope s_i_Gaps) .none ykV0 ydc0 ypm0 yan0 ycd0 yct0), ysl0⟩) (oe0 : PySem.W.codeIn K ycd0 "Gaps.__init__" = true) (of0 : PySem.W.keepIn K (.ref yI0) = true)
    (og0 : PySem.W.plainGet K yC0 Str.empty = true) (oh0 : PySem.W.hasDictIn K yC0 = true) (oi0 : PySem.W.plainOver K yC0 = true) (oj0 : PySem.W.findIn K (.ref yC0) "__setattr__" = some (some (.builtin "object.__setattr__"))) (ok0 : PySem.W.makesIn K yC0 = true) (ol0 : PySem.W.keepIn K (.ref yC0) = true)
    (on0_0 : PySem.W.findIn K (.ref yC0) "town" = some none)
    (on0_1 : PySem.W.findIn K (.ref yC0) "ask_rows" = some none)
    (on0_2 : PySem.W.findIn K (.ref yC0) "job_rows" = some none)
    (on0_3 : PySem.W.findIn K (.ref yC0) "all_rows" = some none)
    (on0_4 : PySem.W.findIn K (.ref yC0) "asks" = some none)
    (on0_5 : PySem.W.findIn K (.ref yC0) "jobs" = some none)
    (on0_6 : PySem.W.findIn K (.ref yC0) "ask_spans" = some none)
    (on0_7 : PySem.W.findIn K (.ref yC0) "job_spans" = some none)
    (on0_8 : PySem.W.findIn K (.ref yC0) "more_times" = some none)
    (es0 : PySem.W.subIn K (.ref xC0) (.ref xC0) = some true)
    (es1 : PySem.W.subIn K (.ref xC0) (.ref xC1) = some false)
    (es2 : PySem.W.subIn K (.ref xC0) (.ref xC2) = some false)
    (es3 : PySem.W.subIn K (.ref xC1) (.ref xC0) = some false)
    (es4 : PySem.W.subIn K (.ref xC1) (.ref xC1) = some true)
    (es5 : PySem.W.subIn K (.ref xC1) (.ref xC2) = some false)
    (es6 : PySem.W.subIn K (.ref xC2) (.ref xC0) = some false)
    (es7 : PySem.W.subIn K (.ref xC2) (.ref xC1) = some false)
    (es8 : PySem.W.subIn K (.ref xC2) (.ref xC2) = some true)
    (z0 : PySem.W.nsIn K mainGlobals "all" = some none)
    (z1 : PySem.W.nsIn K mainGlobals "bool" = some none)
    (z2 : PySem.W.nsIn K mainGlobals "dict" = some none)
    (z3 : PySem.W.nsIn K mainGlobals "enumerate" = some none)
    (z4 : PySem.W.nsIn K mainGlobals "int" = some none)
    (z5 : PySem.W.nsIn K mainGlobals "isinstance" = some none)
    (z6 : PySem.W.nsIn K mainGlobals "len" = some none)
    (z7 : PySem.W.nsIn K mainGlobals "list" = some none)
    (z8 : PySem.W.nsIn K mainGlobals "max" = some none)
    (z9 : PySem.W.nsIn K mainGlobals "min" = some none)
    (z10 : PySem.W.nsIn K mainGlobals "range" = some none)
    (z11 : PySem.W.nsIn K mainGlobals "sorted" = some none)
    (z12 : PySem.W.nsIn K mainGlobals "sum" = some none)
    (z13 : PySem.W.nsIn K mainGlobals "tuple" = some none)
    {w0 : _} (q0 : PySem.W.nsIn K mainGlobals "MOST_COUNT" = some (some (.int (15)  w0)))
    {w1 : _} (q1 : PySem.W.nsIn K mainGlobals "MOST_NUMBER" = some (some (.int (14)  w1)))
    {w2 : _} (q2 : PySem.W.nsIn K mainGlobals "MOST_TIME" = some (some (.int (1000000000000)  w2)))
    (tq35 : Gx.TopTab q K h) (tr35 : ∃ dd, (recsOf q).find? (fun e => e.name == ("in_time" : Str)) = some dd) (ts35 : PySem.W.tabIn K "in_time" = some (cc35, tt35)) (tn35 : K.lookup tt35 = none)
    (tq36 : Gx.TopTab q K h) (tr36 : ∃ dd, (recsOf q).find? (fun e => e.name == ("is_ring" : Str)) = some dd) (ts36 : PySem.W.tabIn K "is_ring" = some (cc36, tt36)) (tn36 : K.lookup tt36 = none)
    : LamX.LawAtS l w K CX0 12 63 "script" mg fa h := by
  have e := hfa.symm.trans (PySem.W.mg_of X G a59)
  cases e
  have F0 := fun_mk (st := s_own_copy) l0 c0 k0
  have b0 := F0.binds (ps := ["things"]) fun _ _ _ _ _ _ us hl => match us, hl with | [_], _ => rfl
  have F1 := fun_mk (st := s_is_whole_from) l1 c1 k1
  have b1 := F1.binds (ps := ["thing", "low", "high"]) fun _ _ _ _ _ _ us hl => match us, hl with | [_, _, _], _ => rfl
  have F2 := fun_mk (st := s_is_time) l2 c2 k2
  have b2 := F2.binds (ps := ["thing"]) fun _ _ _ _ _ _ us hl => match us, hl with | [_], _ => rfl
  have F3 := fun_mk (st := s_is_number) l3 c3 k3
  have b3 := F3.binds (ps := ["thing"]) fun _ _ _ _ _ _ us hl => match us, hl with | [_], _ => rfl
  have F4 := fun_mk (st := s_is_count) l4 c4 k4
  have b4 := F4.binds (ps := ["thing"]) fun _ _ _ _ _ _ us hl => match us, hl with | [_], _ => rfl
  have F5 := fun_mk (st := s_is_span) l5 c5 k5
  have b5 := F5.binds (ps := ["low", "high"]) fun _ _ _ _ _ _ us hl => match us, hl with | [_, _], _ => rfl
  have F6 := fun_mk (st := s_is_ask_row) l6 c6 k6
  have b6 := F6.binds (ps := ["houses", "thing"]) fun _ _ _ _ _ _ us hl => match us, hl with | [_, _], _ => rfl
  have F7 := fun_mk (st := s_is_job_row) l7 c7 k7
  have b7 := F7.binds (ps := ["houses", "thing"]) fun _ _ _ _ _ _ us hl => match us, hl with | [_, _], _ => rfl
  have F8 := fun_mk (st := s_is_all_row) l8 c8 k8
  have b8 := F8.binds (ps := ["houses", "thing"]) fun _ _ _ _ _ _ us hl => match us, hl with | [_, _], _ => rfl
  have F9 := fun_mk (st := s_is_row) l9 c9 k9
  have b9 := F9.binds (ps := ["town", "thing"]) fun _ _ _ _ _ _ us hl => match us, hl with | [_, _], _ => rfl
  have F10 := fun_mk (st := s_is_out_of_order) l10 c10 k10
  have b10 := F10.binds (ps := ["number", "time", "other_number", "other_time"]) fun _ _ _ _ _ _ us hl => match us, hl with | [_, _, _, _], _ => rfl
  have F11 := fun_mk (st := s_do_asks_clash) l11 c11 k11
  have b11 := F11.binds (ps := ["one", "other"]) fun _ _ _ _ _ _ us hl => match us, hl with | [_, _], _ => rfl
  have F12 := fun_mk (st := s_do_jobs_clash) l12 c12 k12
  have b12 := F12.binds (ps := ["one", "other"]) fun _ _ _ _ _ _ us hl => match us, hl with | [_, _], _ => rfl
  have F13 := fun_mk (st := s_do_job_and_ask_clash) l13 c13 k13
  have b13 := F13.binds (ps := ["job", "ask"]) fun _ _ _ _ _ _ us hl => match us, hl with | [_, _], _ => rfl
  have F14 := fun_mk (st := s_does_all_row_clash) l14 c14 k14
  have b14 := F14.binds (ps := ["all_row", "other"]) fun _ _ _ _ _ _ us hl => match us, hl with | [_, _], _ => rfl
  have F15 := fun_mk (st := s_do_alike_sorts_clash) l15 c15 k15
  have b15 := F15.binds (ps := ["one", "other"]) fun _ _ _ _ _ _ us hl => match us, hl with | [_, _], _ => rfl
  have F16 := fun_mk (st := s_do_clash) l16 c16 k16
  have b16 := F16.binds (ps := ["one", "other"]) fun _ _ _ _ _ _ us hl => match us, hl with | [_, _], _ => rfl
  have F17 := fun_mk (st := s_need_rows) l17 c17 k17
  have b17 := F17.binds (ps := ["town", "rows"]) fun _ _ _ _ _ _ us hl => match us, hl with | [_, _], _ => rfl
  have F18 := fun_mk (st := s_need_book) l18 c18 k18
  have b18 := F18.binds (ps := ["town", "rows"]) fun _ _ _ _ _ _ us hl => match us, hl with | [_, _], _ => rfl
  have F19 := fun_mk (st := s_gaps_of) l19 c19 k19
  have b19 := F19.binds (ps := ["town", "rows"]) fun _ _ _ _ _ _ us hl => match us, hl with | [_, _], _ => rfl
  have F20 := fun_mk (st := s_rows_by_number) l20 c20 k20
  have b20 := F20.binds (ps := ["rows", "word"]) fun _ _ _ _ _ _ us hl => match us, hl with | [_, _], _ => rfl
  have F21 := fun_mk (st := s_numbers_below) l21 c21 k21
  have b21 := F21.binds (ps := ["town", "counts"]) fun _ _ _ _ _ _ us hl => match us, hl with | [_, _], _ => rfl
  have F22 := fun_mk (st := s_asks_of_house) l22 c22 k22
  have b22 := F22.binds (ps := ["gaps", "house"]) fun _ _ _ _ _ _ us hl => match us, hl with | [_, _], _ => rfl
  have F23 := fun_mk (st := s_jobs_of_house) l23 c23 k23
  have b23 := F23.binds (ps := ["gaps", "house"]) fun _ _ _ _ _ _ us hl => match us, hl with | [_, _], _ => rfl
  have F24 := fun_mk (st := s_count_asks) l24 c24 k24
  have b24 := F24.binds (ps := ["gaps", "house"]) fun _ _ _ _ _ _ us hl => match us, hl with | [_, _], _ => rfl
  have F25 := fun_mk (st := s_count_jobs) l25 c25 k25
  have b25 := F25.binds (ps := ["gaps", "house"]) fun _ _ _ _ _ _ us hl => match us, hl with | [_, _], _ => rfl
  have F26 := fun_mk (st := s_earliest) l26 c26 k26
  have b26 := F26.binds (ps := ["times"]) fun _ _ _ _ _ _ us hl => match us, hl with | [_], _ => rfl
  have F27 := fun_mk (st := s_latest) l27 c27 k27
  have b27 := F27.binds (ps := ["times"]) fun _ _ _ _ _ _ us hl => match us, hl with | [_], _ => rfl
  have F28 := fun_mk (st := s_span_of_ask) l28 c28 k28
  have b28 := F28.binds (ps := ["gaps", "ask"]) fun _ _ _ _ _ _ us hl => match us, hl with | [_, _], _ => rfl
  have F29 := fun_mk (st := s_span_of_job) l29 c29 k29
  have b29 := F29.binds (ps := ["gaps", "job"]) fun _ _ _ _ _ _ us hl => match us, hl with | [_, _], _ => rfl
  have F30 := fun_mk (st := s_more_of) l30 c30 k30
  have b30 := F30.binds (ps := ["gaps", "house"]) fun _ _ _ _ _ _ us hl => match us, hl with | [_, _], _ => rfl
  have F31 := fun_mk (st := s_links_of) l31 c31 k31
  have b31 := F31.binds (ps := ["town", "rows", "pairs"]) fun _ _ _ _ _ _ us hl => match us, hl with | [_, _, _], _ => rfl
  have F32 := fun_mk (st := s_tighten) l32 c32 k32
  have b32 := F32.binds (ps := ["links", "sums", "via"]) fun _ _ _ _ _ _ us hl => match us, hl with | [_, _, _], _ => rfl
  have F33 := fun_mk (st := s_way_from) l33 c33 k33
  have b33 := F33.binds (ps := ["house", "end", "via"]) fun _ _ _ _ _ _ us hl => match us, hl with | [_, _, _], _ => rfl
  have F34 := fun_mk (st := s_settle) l34 c34 k34
  have b34 := F34.binds (ps := ["houses", "links"]) fun _ _ _ _ _ _ us hl => match us, hl with | [_, _], _ => rfl
  have F35 := fun_mk (st := s_in_time) l35 c35 k35
  have b35 := F35.binds (ps := ["town", "rows", "pairs", "shifts"]) fun _ _ _ _ _ _ us hl => match us, hl with | [_, _, _, _], _ => rfl
  have F36 := fun_mk (st := s_is_ring) l36 c36 k36
  have b36 := F36.binds (ps := ["town", "rows", "pairs", "links"]) fun _ _ _ _ _ _ us hl => match us, hl with | [_, _, _, _], _ => rfl
  have F37 := fun_mk (st := s_shifts) l37 c37 k37
  have b37 := F37.binds (ps := ["town", "rows", "pairs"]) fun _ _ _ _ _ _ us hl => match us, hl with | [_, _, _], _ => rfl
  have F38 := fun_mk (st := s_greatest) l38 c38 k38
  have b38 := F38.binds (ps := ["town", "rows", "pairs", "one", "other"]) fun _ _ _ _ _ _ us hl => match us, hl with | [_, _, _, _, _], _ => rfl
  have F39 := fun_mk (st := s_l_spread) l39 c39 k39
  have b39 := F39.binds (ps := ["cell", "at"]) fun _ _ _ _ _ _ us hl => match us, hl with | [_, _], _ => rfl
  have F40 := fun_mk (st := s_l_open) l40 c40 k40
  have b40 := F40.binds (ps := ["script"]) fun _ _ _ _ _ _ us hl => match us, hl with | [_], _ => rfl
  have F41 := fun_mk (st := s_l_anew) l41 c41 k41
  have b41 := F41.binds (ps := ["pen"]) fun _ _ _ _ _ _ us hl => match us, hl with | [_], _ => rfl
  have F42 := fun_mk (st := s_l_take) l42 c42 k42
  have b42 := F42.binds (ps := ["pen", "many"]) fun _ _ _ _ _ _ us hl => match us, hl with | [_, _], _ => rfl
  have F43 := fun_mk (st := s_l_names) l43 c43 k43
  have b43 := F43.binds (ps := ["pen", "many"]) fun _ _ _ _ _ _ us hl => match us, hl with | [_, _], _ => rfl
  have F44 := fun_mk (st := s_l_town) l44 c44 k44
  have b44 := F44.binds (ps := ["pen", "most"]) fun _ _ _ _ _ _ us hl => match us, hl with | [_, _], _ => rfl
  have F45 := fun_mk (st := s_l_room) l45 c45 k45
  have b45 := F45.binds (ps := ["world", "house", "goal"]) fun _ _ _ _ _ _ us hl => match us, hl with | [_, _, _], _ => rfl
  have F46 := fun_mk (st := s_l_job) l46 c46 k46
  have b46 := F46.binds (ps := ["pen", "world", "town", "house", "start", "deep"]) fun _ _ _ _ _ _ us hl => match us, hl with | [_, _, _, _, _, _], _ => rfl
  have F47 := fun_mk (st := s_l_world) l47 c47 k47
  have b47 := F47.binds (ps := ["pen", "town", "tops", "deep", "most", "stray"]) fun _ _ _ _ _ _ us hl => match us, hl with | [_, _, _, _, _, _], _ => rfl
  have F48 := fun_mk (st := s_l_called) l48 c48 k48
  have b48 := F48.binds (ps := ["town", "world"]) fun _ _ _ _ _ _ us hl => match us, hl with | [_, _], _ => rfl
  have F49 := fun_mk (st := s_l_bases) l49 c49 k49
  have b49 := F49.binds (ps := ["pen", "town", "many"]) fun _ _ _ _ _ _ us hl => match us, hl with | [_, _, _], _ => rfl
  have F50 := fun_mk (st := s_l_all_rows) l50 c50 k50
  have b50 := F50.binds (ps := ["town", "world", "bases"]) fun _ _ _ _ _ _ us hl => match us, hl with | [_, _, _], _ => rfl
  have F51 := fun_mk (st := s_l_left) l51 c51 k51
  have b51 := F51.binds (ps := ["pen", "rows", "fewer"]) fun _ _ _ _ _ _ us hl => match us, hl with | [_, _, _], _ => rfl
  have F52 := fun_mk (st := s_l_true_pairs) l52 c52 k52
  have b52 := F52.binds (ps := ["town", "world", "rows"]) fun _ _ _ _ _ _ us hl => match us, hl with | [_, _, _], _ => rfl
  have F53 := fun_mk (st := s_l_gated) l53 c53 k53
  have b53 := F53.binds (ps := ["pen", "most"]) fun _ _ _ _ _ _ us hl => match us, hl with | [_, _], _ => rfl
  have F54 := fun_mk (st := s_l_clock_book) l54 c54 k54
  have b54 := F54.binds (ps := ["pen", "houses", "most"]) fun _ _ _ _ _ _ us hl => match us, hl with | [_, _, _], _ => rfl
  have F55 := fun_mk (st := s_l_some_pairs) l55 c55 k55
  have b55 := F55.binds (ps := ["pen", "rows", "true_pairs", "wrong"]) fun _ _ _ _ _ _ us hl => match us, hl with | [_, _, _, _], _ => rfl
  have F56 := fun_mk (st := s_l_set_on) l56 c56 k56
  have b56 := F56.binds (ps := ["rows", "by"]) fun _ _ _ _ _ _ us hl => match us, hl with | [_, _], _ => rfl
  have F57 := fun_mk (st := s_l_turned) l57 c57 k57
  have b57 := F57.binds (ps := ["links", "by"]) fun _ _ _ _ _ _ us hl => match us, hl with | [_, _], _ => rfl
  have F58 := fun_mk (st := s_l_great_right) l58 c58 k58
  have b58 := F58.binds (ps := ["town", "books", "pairs", "by"]) fun _ _ _ _ _ _ us hl => match us, hl with | [_, _, _, _], _ => rfl
  have F59 := fun_mk (st := s_law) l59 c59 k59
  have b59 := F59.binds (ps := ["script"]) fun _ _ _ _ _ _ us hl => match us, hl with | [_], _ => rfl
  have FX0 := fun_mk (st := s_i_NoRow) eh0 ei0 ej0
  have bX0 := FX0.binds (ps := ["self", "number"]) fun _ _ _ _ _ _ us hl => match us, hl with | [_, _], _ => rfl
  have FX1 := fun_mk (st := s_i_Clash) eh1 ei1 ej1
  have bX1 := FX1.binds (ps := ["self", "first", "second"]) fun _ _ _ _ _ _ us hl => match us, hl with | [_, _, _], _ => rfl
  have FX2 := fun_mk (st := s_i_OffTime) eh2 ei2 ej2
  have bX2 := FX2.binds (ps := ["self", "links"]) fun _ _ _ _ _ _ us hl => match us, hl with | [_, _], _ => rfl
  have FY0 := fun_mk (st := s_i_Gaps) od0_ oe0 of0
  have bY0 := FY0.binds (ps := ["self", "town", "rows"]) fun _ _ _ _ _ _ us hl => match us, hl with | [_, _, _], _ => rfl
  let af : Nat → Addr := fun i => match i with | 0 => f0 | 1 => f1 | 2 => f2 | 3 => f3 | 4 => f4 | 5 => f5 | 6 => f6 | 7 => f7 | 8 => f8 | 9 => f9 | 10 => f10 | 11 => f11 | 12 => f12 | 13 => f13 | 14 => f14 | 15 => f15 | 16 => f16 | 17 => f17 | 18 => f18 | 19 => f19 | 20 => f20 | 21 => f21 | 22 => f22 | 23 => f23 | 24 => f24 | 25 => f25 | 26 => f26 | 27 => f27 | 28 => f28 | 29 => f29 | 30 => f30 | 31 => f31 | 32 => f32 | 33 => f33 | 34 => f34 | 35 => f35 | 36 => f36 | 37 => f37 | 38 => f38 | 39 => f39 | 40 => f40 | 41 => f41 | 42 => f42 | 43 => f43 | 44 => f44 | 45 => f45 | 46 => f46 | 47 => f47 | 48 => f48 | 49 => f49 | 50 => f50 | 51 => f51 | 52 => f52 | 53 => f53 | 54 => f54 | 55 => f55 | 56 => f56 | 57 => f57 | 58 => f58 | 59 => fa | 68 => cc35 | 69 => tt35 | 70 => cc36 | 71 => tt36 | 60 => xC0 | 61 => xI0 | 62 => xC1 | 63 => xI1 | 64 => xC2 | 65 => xI2 | 66 => yC0 | 67 => yI0 | _ => f0
  let fd : Nat → FuncData := fun i => match i with | 0 => PySem.W.fnOf "own_copy" "own_copy" (defArgs s_own_copy) (defBody s_own_copy) (defScope s_own_copy) .none kV0 dc0 pm0 an0 cd0 ct0 | 1 => PySem.W.fnOf "is_whole_from" "is_whole_from" (defArgs s_is_whole_from) (defBody s_is_whole_from) (defScope s_is_whole_from) .none kV1 dc1 pm1 an1 cd1 ct1 | 2 => PySem.W.fnOf "is_time" "is_time" (defArgs s_is_time) (defBody s_is_time) (defScope s_is_time) .none kV2 dc2 pm2 an2 cd2 ct2 | 3 => PySem.W.fnOf "is_number" "is_number" (defArgs s_is_number) (defBody s_is_number) (defScope s_is_number) .none kV3 dc3 pm3 an3 cd3 ct3 | 4 => PySem.W.fnOf "is_count" "is_count" (defArgs s_is_count) (defBody s_is_count) (defScope s_is_count) .none kV4 dc4 pm4 an4 cd4 ct4 | 5 => PySem.W.fnOf "is_span" "is_span" (defArgs s_is_span) (defBody s_is_span) (defScope s_is_span) .none kV5 dc5 pm5 an5 cd5 ct5 | 6 => PySem.W.fnOf "is_ask_row" "is_ask_row" (defArgs s_is_ask_row) (defBody s_is_ask_row) (defScope s_is_ask_row) .none kV6 dc6 pm6 an6 cd6 ct6 | 7 => PySem.W.fnOf "is_job_row" "is_job_row" (defArgs s_is_job_row) (defBody s_is_job_row) (defScope s_is_job_row) .none kV7 dc7 pm7 an7 cd7 ct7 | 8 => PySem.W.fnOf "is_all_row" "is_all_row" (defArgs s_is_all_row) (defBody s_is_all_row) (defScope s_is_all_row) .none kV8 dc8 pm8 an8 cd8 ct8 | 9 => PySem.W.fnOf "is_row" "is_row" (defArgs s_is_row) (defBody s_is_row) (defScope s_is_row) .none kV9 dc9 pm9 an9 cd9 ct9 | 10 => PySem.W.fnOf "is_out_of_order" "is_out_of_order" (defArgs s_is_out_of_order) (defBody s_is_out_of_order) (defScope s_is_out_of_order) .none kV10 dc10 pm10 an10 cd10 ct10 | 11 => PySem.W.fnOf "do_asks_clash" "do_asks_clash" (defArgs s_do_asks_clash) (defBody s_do_asks_clash) (defScope s_do_asks_clash) .none kV11 dc11 pm11 an11 cd11 ct11 | 12 => PySem.W.fnOf "do_jobs_clash" "do_jobs_clash" (defArgs s_do_jobs_clash) (defBody s_do_jobs_clash) (defScope s_do_jobs_clash) .none kV12 dc12 pm12 an12 cd12 ct12 | 13 => PySem.W.fnOf "do_job_and_ask_clash" "do_job_and_ask_clash" (defArgs s_do_job_and_ask_clash) (defBody s_do_job_and_ask_clash) (defScope s_do_job_and_ask_clash) .none kV13 dc13 pm13 an13 cd13 ct13 | 14 => PySem.W.fnOf "does_all_row_clash" "does_all_row_clash" (defArgs s_does_all_row_clash) (defBody s_does_all_row_clash) (defScope s_does_all_row_clash) .none kV14 dc14 pm14 an14 cd14 ct14 | 15 => PySem.W.fnOf "do_alike_sorts_clash" "do_alike_sorts_clash" (defArgs s_do_alike_sorts_clash) (defBody s_do_alike_sorts_clash) (defScope s_do_alike_sorts_clash) .none kV15 dc15 pm15 an15 cd15 ct15 | 16 => PySem.W.fnOf "do_clash" "do_clash" (defArgs s_do_clash) (defBody s_do_clash) (defScope s_do_clash) .none kV16 dc16 pm16 an16 cd16 ct16 | 17 => PySem.W.fnOf "need_rows" "need_rows" (defArgs s_need_rows) (defBody s_need_rows) (defScope s_need_rows) .none kV17 dc17 pm17 an17 cd17 ct17 | 18 => PySem.W.fnOf "need_book" "need_book" (defArgs s_need_book) (defBody s_need_book) (defScope s_need_book) .none kV18 dc18 pm18 an18 cd18 ct18 | 19 => PySem.W.fnOf "gaps_of" "gaps_of" (defArgs s_gaps_of) (defBody s_gaps_of) (defScope s_gaps_of) .none kV19 dc19 pm19 an19 cd19 ct19 | 20 => PySem.W.fnOf "rows_by_number" "rows_by_number" (defArgs s_rows_by_number) (defBody s_rows_by_number) (defScope s_rows_by_number) .none kV20 dc20 pm20 an20 cd20 ct20 | 21 => PySem.W.fnOf "numbers_below" "numbers_below" (defArgs s_numbers_below) (defBody s_numbers_below) (defScope s_numbers_below) .none kV21 dc21 pm21 an21 cd21 ct21 | 22 => PySem.W.fnOf "asks_of_house" "asks_of_house" (defArgs s_asks_of_house) (defBody s_asks_of_house) (defScope s_asks_of_house) .none kV22 dc22 pm22 an22 cd22 ct22 | 23 => PySem.W.fnOf "jobs_of_house" "jobs_of_house" (defArgs s_jobs_of_house) (defBody s_jobs_of_house) (defScope s_jobs_of_house) .none kV23 dc23 pm23 an23 cd23 ct23 | 24 => PySem.W.fnOf "count_asks" "count_asks" (defArgs s_count_asks) (defBody s_count_asks) (defScope s_count_asks) .none kV24 dc24 pm24 an24 cd24 ct24 | 25 => PySem.W.fnOf "count_jobs" "count_jobs" (defArgs s_count_jobs) (defBody s_count_jobs) (defScope s_count_jobs) .none kV25 dc25 pm25 an25 cd25 ct25 | 26 => PySem.W.fnOf "earliest" "earliest" (defArgs s_earliest) (defBody s_earliest) (defScope s_earliest) .none kV26 dc26 pm26 an26 cd26 ct26 | 27 => PySem.W.fnOf "latest" "latest" (defArgs s_latest) (defBody s_latest) (defScope s_latest) .none kV27 dc27 pm27 an27 cd27 ct27 | 28 => PySem.W.fnOf "span_of_ask" "span_of_ask" (defArgs s_span_of_ask) (defBody s_span_of_ask) (defScope s_span_of_ask) .none kV28 dc28 pm28 an28 cd28 ct28 | 29 => PySem.W.fnOf "span_of_job" "span_of_job" (defArgs s_span_of_job) (defBody s_span_of_job) (defScope s_span_of_job) .none kV29 dc29 pm29 an29 cd29 ct29 | 30 => PySem.W.fnOf "more_of" "more_of" (defArgs s_more_of) (defBody s_more_of) (defScope s_more_of) .none kV30 dc30 pm30 an30 cd30 ct30 | 31 => PySem.W.fnOf "links_of" "links_of" (defArgs s_links_of) (defBody s_links_of) (defScope s_links_of) .none kV31 dc31 pm31 an31 cd31 ct31 | 32 => PySem.W.fnOf "tighten" "tighten" (defArgs s_tighten) (defBody s_tighten) (defScope s_tighten) .none kV32 dc32 pm32 an32 cd32 ct32 | 33 => PySem.W.fnOf "way_from" "way_from" (defArgs s_way_from) (defBody s_way_from) (defScope s_way_from) .none kV33 dc33 pm33 an33 cd33 ct33 | 34 => PySem.W.fnOf "settle" "settle" (defArgs s_settle) (defBody s_settle) (defScope s_settle) .none kV34 dc34 pm34 an34 cd34 ct34 | 35 => PySem.W.fnOf "in_time" "in_time" (defArgs s_in_time) (defBody s_in_time) (defScope s_in_time) .none kV35 dc35 pm35 an35 (.ref cc35) ct35 | 36 => PySem.W.fnOf "is_ring" "is_ring" (defArgs s_is_ring) (defBody s_is_ring) (defScope s_is_ring) .none kV36 dc36 pm36 an36 (.ref cc36) ct36 | 37 => PySem.W.fnOf "shifts" "shifts" (defArgs s_shifts) (defBody s_shifts) (defScope s_shifts) .none kV37 dc37 pm37 an37 cd37 ct37 | 38 => PySem.W.fnOf "greatest" "greatest" (defArgs s_greatest) (defBody s_greatest) (defScope s_greatest) .none kV38 dc38 pm38 an38 cd38 ct38 | 39 => PySem.W.fnOf "_law_spread" "_law_spread" (defArgs s_l_spread) (defBody s_l_spread) (defScope s_l_spread) .none kV39 dc39 pm39 an39 cd39 ct39 | 40 => PySem.W.fnOf "_law_open" "_law_open" (defArgs s_l_open) (defBody s_l_open) (defScope s_l_open) .none kV40 dc40 pm40 an40 cd40 ct40 | 41 => PySem.W.fnOf "_law_anew" "_law_anew" (defArgs s_l_anew) (defBody s_l_anew) (defScope s_l_anew) .none kV41 dc41 pm41 an41 cd41 ct41 | 42 => PySem.W.fnOf "_law_take" "_law_take" (defArgs s_l_take) (defBody s_l_take) (defScope s_l_take) .none kV42 dc42 pm42 an42 cd42 ct42 | 43 => PySem.W.fnOf "_law_names" "_law_names" (defArgs s_l_names) (defBody s_l_names) (defScope s_l_names) .none kV43 dc43 pm43 an43 cd43 ct43 | 44 => PySem.W.fnOf "_law_town" "_law_town" (defArgs s_l_town) (defBody s_l_town) (defScope s_l_town) .none kV44 dc44 pm44 an44 cd44 ct44 | 45 => PySem.W.fnOf "_law_room" "_law_room" (defArgs s_l_room) (defBody s_l_room) (defScope s_l_room) .none kV45 dc45 pm45 an45 cd45 ct45 | 46 => PySem.W.fnOf "_law_job" "_law_job" (defArgs s_l_job) (defBody s_l_job) (defScope s_l_job) .none kV46 dc46 pm46 an46 cd46 ct46 | 47 => PySem.W.fnOf "_law_world" "_law_world" (defArgs s_l_world) (defBody s_l_world) (defScope s_l_world) .none kV47 dc47 pm47 an47 cd47 ct47 | 48 => PySem.W.fnOf "_law_called" "_law_called" (defArgs s_l_called) (defBody s_l_called) (defScope s_l_called) .none kV48 dc48 pm48 an48 cd48 ct48 | 49 => PySem.W.fnOf "_law_bases" "_law_bases" (defArgs s_l_bases) (defBody s_l_bases) (defScope s_l_bases) .none kV49 dc49 pm49 an49 cd49 ct49 | 50 => PySem.W.fnOf "_law_all_rows" "_law_all_rows" (defArgs s_l_all_rows) (defBody s_l_all_rows) (defScope s_l_all_rows) .none kV50 dc50 pm50 an50 cd50 ct50 | 51 => PySem.W.fnOf "_law_left" "_law_left" (defArgs s_l_left) (defBody s_l_left) (defScope s_l_left) .none kV51 dc51 pm51 an51 cd51 ct51 | 52 => PySem.W.fnOf "_law_true_pairs" "_law_true_pairs" (defArgs s_l_true_pairs) (defBody s_l_true_pairs) (defScope s_l_true_pairs) .none kV52 dc52 pm52 an52 cd52 ct52 | 53 => PySem.W.fnOf "_law_gated" "_law_gated" (defArgs s_l_gated) (defBody s_l_gated) (defScope s_l_gated) .none kV53 dc53 pm53 an53 cd53 ct53 | 54 => PySem.W.fnOf "_law_clock_book" "_law_clock_book" (defArgs s_l_clock_book) (defBody s_l_clock_book) (defScope s_l_clock_book) .none kV54 dc54 pm54 an54 cd54 ct54 | 55 => PySem.W.fnOf "_law_some_pairs" "_law_some_pairs" (defArgs s_l_some_pairs) (defBody s_l_some_pairs) (defScope s_l_some_pairs) .none kV55 dc55 pm55 an55 cd55 ct55 | 56 => PySem.W.fnOf "_law_set_on" "_law_set_on" (defArgs s_l_set_on) (defBody s_l_set_on) (defScope s_l_set_on) .none kV56 dc56 pm56 an56 cd56 ct56 | 57 => PySem.W.fnOf "_law_turned" "_law_turned" (defArgs s_l_turned) (defBody s_l_turned) (defScope s_l_turned) .none kV57 dc57 pm57 an57 cd57 ct57 | 58 => PySem.W.fnOf "_law_great_right" "_law_great_right" (defArgs s_l_great_right) (defBody s_l_great_right) (defScope s_l_great_right) .none kV58 dc58 pm58 an58 cd58 ct58 | 59 => PySem.W.fnOf "law" "law" (defArgs s_law) (defBody s_law) (defScope s_law) .none kV59 dc59 pm59 an59 cd59 ct59 | 61 => PySem.W.fnOf "__init__" "NoRow.__init__" (defArgs s_i_NoRow) (defBody s_i_NoRow) (defScope s_i_NoRow) .none xkV0 xdc0 xpm0 xan0 xcd0 xct0 | 63 => PySem.W.fnOf "__init__" "Clash.__init__" (defArgs s_i_Clash) (defBody s_i_Clash) (defScope s_i_Clash) .none xkV1 xdc1 xpm1 xan1 xcd1 xct1 | 65 => PySem.W.fnOf "__init__" "OffTime.__init__" (defArgs s_i_OffTime) (defBody s_i_OffTime) (defScope s_i_OffTime) .none xkV2 xdc2 xpm2 xan2 xcd2 xct2 | 67 => PySem.W.fnOf "__init__" "Gaps.__init__" (defArgs s_i_Gaps) (defBody s_i_Gaps) (defScope s_i_Gaps) .none ykV0 ydc0 ypm0 yan0 ycd0 yct0 | _ => PySem.W.fnOf "law" "law" (defArgs s_law) (defBody s_law) (defScope s_law) .none kV59 dc59 pm59 an59 cd59 ct59
  have T : Txt K mg af fd := { g_own_copy := PySem.W.mg_of X G a0, F_own_copy := F0, b_own_copy := b0, g_is_whole_from := PySem.W.mg_of X G a1, F_is_whole_from := F1, b_is_whole_from := b1, g_is_time := PySem.W.mg_of X G a2, F_is_time := F2, b_is_time := b2, g_is_number := PySem.W.mg_of X G a3, F_is_number := F3, b_is_number := b3, g_is_count := PySem.W.mg_of X G a4, F_is_count := F4, b_is_count := b4, g_is_span := PySem.W.mg_of X G a5, F_is_span := F5, b_is_span := b5, g_is_ask_row := PySem.W.mg_of X G a6, F_is_ask_row := F6, b_is_ask_row := b6, g_is_job_row := PySem.W.mg_of X G a7, F_is_job_row := F7, b_is_job_row := b7, g_is_all_row := PySem.W.mg_of X G a8, F_is_all_row := F8, b_is_all_row := b8, g_is_row := PySem.W.mg_of X G a9, F_is_row := F9, b_is_row := b9, g_is_out_of_order := PySem.W.mg_of X G a10, F_is_out_of_order := F10, b_is_out_of_order := b10, g_do_asks_clash := PySem.W.mg_of X G a11, F_do_asks_clash := F11, b_do_asks_clash := b11, g_do_jobs_clash := PySem.W.mg_of X G a12, F_do_jobs_clash := F12, b_do_jobs_clash := b12, g_do_job_and_ask_clash := PySem.W.mg_of X G a13, F_do_job_and_ask_clash := F13, b_do_job_and_ask_clash := b13, g_does_all_row_clash := PySem.W.mg_of X G a14, F_does_all_row_clash := F14, b_does_all_row_clash := b14, g_do_alike_sorts_clash := PySem.W.mg_of X G a15, F_do_alike_sorts_clash := F15, b_do_alike_sorts_clash := b15, g_do_clash := PySem.W.mg_of X G a16, F_do_clash := F16, b_do_clash := b16, g_need_rows := PySem.W.mg_of X G a17, F_need_rows := F17, b_need_rows := b17, g_need_book := PySem.W.mg_of X G a18, F_need_book := F18, b_need_book := b18, g_gaps_of := PySem.W.mg_of X G a19, F_gaps_of := F19, b_gaps_of := b19, g_rows_by_number := PySem.W.mg_of X G a20, F_rows_by_number := F20, b_rows_by_number := b20, g_numbers_below := PySem.W.mg_of X G a21, F_numbers_below := F21, b_numbers_below := b21, g_asks_of_house := PySem.W.mg_of X G a22, F_asks_of_house := F22, b_asks_of_house := b22, g_jobs_of_house := PySem.W.mg_of X G a23, F_jobs_of_house := F23, b_jobs_of_house := b23, g_count_asks := PySem.W.mg_of X G a24, F_count_asks := F24, b_count_asks := b24, g_count_jobs := PySem.W.mg_of X G a25, F_count_jobs := F25, b_count_jobs := b25, g_earliest := PySem.W.mg_of X G a26, F_earliest := F26, b_earliest := b26, g_latest := PySem.W.mg_of X G a27, F_latest := F27, b_latest := b27, g_span_of_ask := PySem.W.mg_of X G a28, F_span_of_ask := F28, b_span_of_ask := b28, g_span_of_job := PySem.W.mg_of X G a29, F_span_of_job := F29, b_span_of_job := b29, g_more_of := PySem.W.mg_of X G a30, F_more_of := F30, b_more_of := b30, g_links_of := PySem.W.mg_of X G a31, F_links_of := F31, b_links_of := b31, g_tighten := PySem.W.mg_of X G a32, F_tighten := F32, b_tighten := b32, g_way_from := PySem.W.mg_of X G a33, F_way_from := F33, b_way_from := b33, g_settle := PySem.W.mg_of X G a34, F_settle := F34, b_settle := b34, g_in_time := PySem.W.mg_of X G a35, F_in_time := F35, b_in_time := b35, d_in_time := rfl, g_is_ring := PySem.W.mg_of X G a36, F_is_ring := F36, b_is_ring := b36, d_is_ring := rfl, g_shifts := PySem.W.mg_of X G a37, F_shifts := F37, b_shifts := b37, g_greatest := PySem.W.mg_of X G a38, F_greatest := F38, b_greatest := b38, g_l_spread := PySem.W.mg_of X G a39, F_l_spread := F39, b_l_spread := b39, g_l_open := PySem.W.mg_of X G a40, F_l_open := F40, b_l_open := b40, g_l_anew := PySem.W.mg_of X G a41, F_l_anew := F41, b_l_anew := b41, g_l_take := PySem.W.mg_of X G a42, F_l_take := F42, b_l_take := b42, g_l_names := PySem.W.mg_of X G a43, F_l_names := F43, b_l_names := b43, g_l_town := PySem.W.mg_of X G a44, F_l_town := F44, b_l_town := b44, g_l_room := PySem.W.mg_of X G a45, F_l_room := F45, b_l_room := b45, g_l_job := PySem.W.mg_of X G a46, F_l_job := F46, b_l_job := b46, g_l_world := PySem.W.mg_of X G a47, F_l_world := F47, b_l_world := b47, g_l_called := PySem.W.mg_of X G a48, F_l_called := F48, b_l_called := b48, g_l_bases := PySem.W.mg_of X G a49, F_l_bases := F49, b_l_bases := b49, g_l_all_rows := PySem.W.mg_of X G a50, F_l_all_rows := F50, b_l_all_rows := b50, g_l_left := PySem.W.mg_of X G a51, F_l_left := F51, b_l_left := b51, g_l_true_pairs := PySem.W.mg_of X G a52, F_l_true_pairs := F52, b_l_true_pairs := b52, g_l_gated := PySem.W.mg_of X G a53, F_l_gated := F53, b_l_gated := b53, g_l_clock_book := PySem.W.mg_of X G a54, F_l_clock_book := F54, b_l_clock_book := b54, g_l_some_pairs := PySem.W.mg_of X G a55, F_l_some_pairs := F55, b_l_some_pairs := b55, g_l_set_on := PySem.W.mg_of X G a56, F_l_set_on := F56, b_l_set_on := b56, g_l_turned := PySem.W.mg_of X G a57, F_l_turned := F57, b_l_turned := b57, g_l_great_right := PySem.W.mg_of X G a58, F_l_great_right := F58, b_l_great_right := b58, g_law := PySem.W.mg_of X G a59, F_law := F59, b_law := b59, e_NoRow := ⟨PySem.W.mg_of X G ea0, ⟨⟨_, _, _, _, _, _, _, _, _, _, _, _, _, _, _, eb0, rfl⟩, ec0, el0, em0, ek0⟩, ef0, eg0, FX0, bX0, fun f hf => by simp only [List.mem_cons, List.not_mem_nil, or_false] at hf; rcases hf with rfl <;> assumption, ⟨ed0, ee0, el0, en0⟩⟩, e_Clash := ⟨PySem.W.mg_of X G ea1, ⟨⟨_, _, _, _, _, _, _, _, _, _, _, _, _, _, _, eb1, rfl⟩, ec1, el1, em1, ek1⟩, ef1, eg1, FX1, bX1, fun f hf => by simp only [List.mem_cons, List.not_mem_nil, or_false] at hf; rcases hf with rfl | rfl <;> assumption, ⟨ed1, ee1, el1, en1⟩⟩, e_OffTime := ⟨PySem.W.mg_of X G ea2, ⟨⟨_, _, _, _, _, _, _, _, _, _, _, _, _, _, _, eb2, rfl⟩, ec2, el2, em2, ek2⟩, ef2, eg2, FX2, bX2, fun f hf => by simp only [List.mem_cons, List.not_mem_nil, or_false] at hf; rcases hf with rfl <;> assumption, ⟨ed2, ee2, el2, en2⟩⟩, o_Gaps := ⟨PySem.W.mg_of X G oa0, ⟨ok0, ob0, oc0_, ol0⟩, ⟨og0, oh0, oi0, oj0⟩, FY0, bY0, fun f hf => by simp only [List.mem_cons, List.not_mem_nil, or_false] at hf; rcases hf with rfl | rfl | rfl | rfl | rfl | rfl | rfl | rfl | rfl <;> assumption⟩, x_NoRow_NoRow := Xc.exm_two el0 eo0 em0 es0, x_NoRow_Clash := Xc.exm_two el1 eo1 em1 es1, x_NoRow_OffTime := Xc.exm_two el2 eo2 em2 es2, x_Clash_NoRow := Xc.exm_two el0 eo0 em0 es3, x_Clash_Clash := Xc.exm_two el1 eo1 em1 es4, x_Clash_OffTime := Xc.exm_two el2 eo2 em2 es5, x_OffTime_NoRow := Xc.exm_two el0 eo0 em0 es6, x_OffTime_Clash := Xc.exm_two el1 eo1 em1 es7, x_OffTime_OffTime := Xc.exm_two el2 eo2 em2 es8, m_all := PySem.W.mg_none_of X G z0, m_bool := PySem.W.mg_none_of X G z1, m_dict := PySem.W.mg_none_of X G z2, m_enumerate := PySem.W.mg_none_of X G z3, m_int := PySem.W.mg_none_of X G z4, m_isinstance := PySem.W.mg_none_of X G z5, m_len := PySem.W.mg_none_of X G z6, m_list := PySem.W.mg_none_of X G z7, m_max := PySem.W.mg_none_of X G z8, m_min := PySem.W.mg_none_of X G z9, m_range := PySem.W.mg_none_of X G z10, m_sorted := PySem.W.mg_none_of X G z11, m_sum := PySem.W.mg_none_of X G z12, m_tuple := PySem.W.mg_none_of X G z13, c_MOST_COUNT := ⟨_, PySem.W.mg_of X G q0⟩, c_MOST_NUMBER := ⟨_, PySem.W.mg_of X G q1⟩, c_MOST_TIME := ⟨_, PySem.W.mg_of X G q2⟩ }
  obtain ⟨dd35, te35⟩ := tr35
  obtain ⟨tc35, th35⟩ := tq35 _ _ _ _ te35 ts35
  obtain ⟨dd36, te36⟩ := tr36
  obtain ⟨tc36, th36⟩ := tq36 _ _ _ _ te36 ts36
  have hA : ∀ p ∈ ([(cc35, tt35), (cc36, tt36)] : List (Addr × Addr)), h.get? p.2 = some { cls := .none, data := .fields #[] } := by
    intro p hp
    simp only [List.mem_cons, List.not_mem_nil, or_false] at hp
    rcases hp with rfl | rfl
    · exact th35
    · exact th36
  have hN : ∀ p ∈ ([(cc35, tt35), (cc36, tt36)] : List (Addr × Addr)), K.lookup p.2 = none := by
    intro p hp
    simp only [List.mem_cons, List.not_mem_nil, or_false] at hp
    rcases hp with rfl | rfl
    · exact tn35
    · exact tn36
  have hC : ∀ p ∈ ([(cc35, tt35), (cc36, tt36)] : List (Addr × Addr)), PySem.W.CodeHd h p.1 p.2 := by
    intro p hp
    simp only [List.mem_cons, List.not_mem_nil, or_false] at hp
    rcases hp with rfl | rfl
    · exact tc35
    · exact tc36
  refine ⟨fd 59, [(cc35, tt35), (cc36, tt36)], sp_law af K, hA, hN, hC, fun s v => .of_eq rfl, fun H a ns hl _ hH hS => ⟨a, ns, rfl, hS, hl, fun i hi => ?_, fun _ => rfl⟩, fun base _ _ hB => ?_⟩
  · simp only [tabIx, List.mem_cons, List.not_mem_nil, or_false] at hi
    rcases hi with rfl | rfl
    · exact ⟨#[], hH (cc35, tt35) (by simp), True.intro⟩
    · exact ⟨#[], hH (cc36, tt36) (by simp), True.intro⟩
  · have B : TxtB base mg af := { t_in_time := let t := hB (cc35, tt35) (by simp); ⟨t.code, t.bm, t.gP⟩, t_is_ring := let t := hB (cc36, tt36) (by simp); ⟨t.code, t.bm, t.gP⟩ }
    exact ok_law T B
end Gp
open PySem PySem.W PyProof.Rows
set_option maxHeartbeats 0 in
theorem PySem.Challenge.cw_gapcalls_k65_whole_clocks_set_otherwise_holds : PySem.Challenge.rw_gapcalls_k65_whole_clocks_set_otherwise.Holds := by
  w_on; o_law; k_head; (case hw => w_witness2)
  k_fill
  refine Gp.Gx.walk_tab (l := PySem.Challenge.rw_gapcalls_k65_whole_clocks_set_otherwise) (n := 63) (k := 12) (x := "script") (CX := fun _ => L2.CX0) rfl (by decide) rfl ⟨rfl, by decide, by decide⟩ (fun w h Y => PySem.W.kIn_of Y) ?F (fun _ _ _ _ _ h => h)
  case F =>
    intro w mg fa h Y0 KX G hmg TT
    refine' Gp.all_mk KX G hmg ?a0 ?l0 ?c0 ?k0 ?a1 ?l1 ?c1 ?k1 ?a2 ?l2 ?c2 ?k2 ?a3 ?l3 ?c3 ?k3 ?a4 ?l4 ?c4 ?k4 ?a5 ?l5 ?c5 ?k5 ?a6 ?l6 ?c6 ?k6 ?a7 ?l7 ?c7 ?k7 ?a8 ?l8 ?c8 ?k8 ?a9 ?l9 ?c9 ?k9 ?a10 ?l10 ?c10 ?k10 ?a11 ?l11 ?c11 ?k11 ?a12 ?l12 ?c12 ?k12 ?a13 ?l13 ?c13 ?k13 ?a14 ?l14 ?c14 ?k14 ?a15 ?l15 ?c15 ?k15 ?a16 ?l16 ?c16 ?k16 ?a17 ?l17 ?c17 ?k17 ?a18 ?l18 ?c18 ?k18 ?a19 ?l19 ?c19 ?k19 ?a20 ?l20 ?c20 ?k20 ?a21 ?l21 ?c21 ?k21 ?a22 ?l22 ?c22 ?k22 ?a23 ?l23 ?c23 ?k23 ?a24 ?l24 ?c24 ?k24 ?a25 ?l25 ?c25 ?k25 ?a26 ?l26 ?c26 ?k26 ?a27 ?l27 ?c27 ?k27 ?a28 ?l28 ?c28 ?k28 ?a29 ?l29 ?c29 ?k29 ?a30 ?l30 ?c30 ?k30 ?a31 ?l31 ?c31 ?k31 ?a32 ?l32 ?c32 ?k32 ?a33 ?l33 ?c33 ?k33 ?a34 ?l34 ?c34 ?k34 ?a35 ?l35 ?c35 ?k35 ?a36 ?l36 ?c36 ?k36 ?a37 ?l37 ?c37 ?k37 ?a38 ?l38 ?c38 ?k38 ?a39 ?l39 ?c39 ?k39 ?a40 ?l40 ?c40 ?k40 ?a41 ?l41 ?c41 ?k41 ?a42 ?l42 ?c42 ?k42 ?a43 ?l43 ?c43 ?k43 ?a44 ?l44 ?c44 ?k44 ?a45 ?l45 ?c45 ?k45 ?a46 ?l46 ?c46 ?k46 ?a47 ?l47 ?c47 ?k47 ?a48 ?l48 ?c48 ?k48 ?a49 ?l49 ?c49 ?k49 ?a50 ?l50 ?c50 ?k50 ?a51 ?l51 ?c51 ?k51 ?a52 ?l52 ?c52 ?k52 ?a53 ?l53 ?c53 ?k53 ?a54 ?l54 ?c54 ?k54 ?a55 ?l55 ?c55 ?k55 ?a56 ?l56 ?c56 ?k56 ?a57 ?l57 ?c57 ?k57 ?a58 ?l58 ?c58 ?k58 ?a59 ?l59 ?c59 ?k59 ?ea0 ?eb0 ?ec0 ?ed0 ?ee0 ?ef0 ?eg0 ?eh0 ?ei0 ?ej0 ?ek0 ?el0 ?em0 ?en0 ?eo0 ?ep0_0 ?ea1 ?eb1 ?ec1 ?ed1 ?ee1 ?ef1 ?eg1 ?eh1 ?ei1 ?ej1 ?ek1 ?el1 ?em1 ?en1 ?eo1 ?ep1_0 ?ep1_1 ?ea2 ?eb2 ?ec2 ?ed2 ?ee2 ?ef2 ?eg2 ?eh2 ?ei2 ?ej2 ?ek2 ?el2 ?em2 ?en2 ?eo2 ?ep2_0 ?oa0 ?ob0 ?oc0_ ?od0_ ?oe0 ?of0 ?og0 ?oh0 ?oi0 ?oj0 ?ok0 ?ol0 ?on0_0 ?on0_1 ?on0_2 ?on0_3 ?on0_4 ?on0_5 ?on0_6 ?on0_7 ?on0_8 ?es0 ?es1 ?es2 ?es3 ?es4 ?es5 ?es6 ?es7 ?es8 ?z0 ?z1 ?z2 ?z3 ?z4 ?z5 ?z6 ?z7 ?z8 ?z9 ?z10 ?z11 ?z12 ?z13 ?q0 ?q1 ?q2 ?tq35 ?tr35 ?ts35 ?tn35 ?tq36 ?tr36 ?ts36 ?tn36
    (case a0 => k_is)
    (case l0 => k_is)
    (case c0 => k_is)
    (case k0 => k_is)
    (case a1 => k_is)
    (case l1 => k_is)
    (case c1 => k_is)
    (case k1 => k_is)
    (case a2 => k_is)
    (case l2 => k_is)
    (case c2 => k_is)
    (case k2 => k_is)
    (case a3 => k_is)
    (case l3 => k_is)
    (case c3 => k_is)
    (case k3 => k_is)
    (case a4 => k_is)
    (case l4 => k_is)
    (case c4 => k_is)
    (case k4 => k_is)
    (case a5 => k_is)
    (case l5 => k_is)
    (case c5 => k_is)
    (case k5 => k_is)
    (case a6 => k_is)
    (case l6 => k_is)
    (case c6 => k_is)
    (case k6 => k_is)
    (case a7 => k_is)
    (case l7 => k_is)
    (case c7 => k_is)
    (case k7 => k_is)
    (case a8 => k_is)
    (case l8 => k_is)
    (case c8 => k_is)
    (case k8 => k_is)
    (case a9 => k_is)
    (case l9 => k_is)
    (case c9 => k_is)
    (case k9 => k_is)
    (case a10 => k_is)
    (case l10 => k_is)
    (case c10 => k_is)
    (case k10 => k_is)
    (case a11 => k_is)
    (case l11 => k_is)
    (case c11 => k_is)
    (case k11 => k_is)
    (case a12 => k_is)
    (case l12 => k_is)
    (case c12 => k_is)
    (case k12 => k_is)
    (case a13 => k_is)
    (case l13 => k_is)
    (case c13 => k_is)
    (case k13 => k_is)
    (case a14 => k_is)
    (case l14 => k_is)
    (case c14 => k_is)
    (case k14 => k_is)
    (case a15 => k_is)
    (case l15 => k_is)
    (case c15 => k_is)
    (case k15 => k_is)
    (case a16 => k_is)
    (case l16 => k_is)
    (case c16 => k_is)
    (case k16 => k_is)
    (case a17 => k_is)
    (case l17 => k_is)
    (case c17 => k_is)
    (case k17 => k_is)
    (case a18 => k_is)
    (case l18 => k_is)
    (case c18 => k_is)
    (case k18 => k_is)
    (case a19 => k_is)
    (case l19 => k_is)
    (case c19 => k_is)
    (case k19 => k_is)
    (case a20 => k_is)
    (case l20 => k_is)
    (case c20 => k_is)
    (case k20 => k_is)
    (case a21 => k_is)
    (case l21 => k_is)
    (case c21 => k_is)
    (case k21 => k_is)
    (case a22 => k_is)
    (case l22 => k_is)
    (case c22 => k_is)
    (case k22 => k_is)
    (case a23 => k_is)
    (case l23 => k_is)
    (case c23 => k_is)
    (case k23 => k_is)
    (case a24 => k_is)
    (case l24 => k_is)
    (case c24 => k_is)
    (case k24 => k_is)
    (case a25 => k_is)
    (case l25 => k_is)
    (case c25 => k_is)
    (case k25 => k_is)
    (case a26 => k_is)
    (case l26 => k_is)
    (case c26 => k_is)
    (case k26 => k_is)
    (case a27 => k_is)
    (case l27 => k_is)
    (case c27 => k_is)
    (case k27 => k_is)
    (case a28 => k_is)
    (case l28 => k_is)
    (case c28 => k_is)
    (case k28 => k_is)
    (case a29 => k_is)
    (case l29 => k_is)
    (case c29 => k_is)
    (case k29 => k_is)
    (case a30 => k_is)
    (case l30 => k_is)
    (case c30 => k_is)
    (case k30 => k_is)
    (case a31 => k_is)
    (case l31 => k_is)
    (case c31 => k_is)
    (case k31 => k_is)
    (case a32 => k_is)
    (case l32 => k_is)
    (case c32 => k_is)
    (case k32 => k_is)
    (case a33 => k_is)
    (case l33 => k_is)
    (case c33 => k_is)
    (case k33 => k_is)
    (case a34 => k_is)
    (case l34 => k_is)
    (case c34 => k_is)
    (case k34 => k_is)
    (case a35 => k_is)
    (case l35 => k_is)
    (case c35 => k_is)
    (case k35 => k_is)
    (case a36 => k_is)
    (case l36 => k_is)
    (case c36 => k_is)
    (case k36 => k_is)
    (case a37 => k_is)
    (case l37 => k_is)
    (case c37 => k_is)
    (case k37 => k_is)
    (case a38 => k_is)
    (case l38 => k_is)
    (case c38 => k_is)
    (case k38 => k_is)
    (case a39 => k_is)
    (case l39 => k_is)
    (case c39 => k_is)
    (case k39 => k_is)
    (case a40 => k_is)
    (case l40 => k_is)
    (case c40 => k_is)
    (case k40 => k_is)
    (case a41 => k_is)
    (case l41 => k_is)
    (case c41 => k_is)
    (case k41 => k_is)
    (case a42 => k_is)
    (case l42 => k_is)
    (case c42 => k_is)
    (case k42 => k_is)
    (case a43 => k_is)
    (case l43 => k_is)
    (case c43 => k_is)
    (case k43 => k_is)
    (case a44 => k_is)
    (case l44 => k_is)
    (case c44 => k_is)
    (case k44 => k_is)
    (case a45 => k_is)
    (case l45 => k_is)
    (case c45 => k_is)
    (case k45 => k_is)
    (case a46 => k_is)
    (case l46 => k_is)
    (case c46 => k_is)
    (case k46 => k_is)
    (case a47 => k_is)
    (case l47 => k_is)
    (case c47 => k_is)
    (case k47 => k_is)
    (case a48 => k_is)
    (case l48 => k_is)
    (case c48 => k_is)
    (case k48 => k_is)
    (case a49 => k_is)
    (case l49 => k_is)
    (case c49 => k_is)
    (case k49 => k_is)
    (case a50 => k_is)
    (case l50 => k_is)
    (case c50 => k_is)
    (case k50 => k_is)
    (case a51 => k_is)
    (case l51 => k_is)
    (case c51 => k_is)
    (case k51 => k_is)
    (case a52 => k_is)
    (case l52 => k_is)
    (case c52 => k_is)
    (case k52 => k_is)
    (case a53 => k_is)
    (case l53 => k_is)
    (case c53 => k_is)
    (case k53 => k_is)
    (case a54 => k_is)
    (case l54 => k_is)
    (case c54 => k_is)
    (case k54 => k_is)
    (case a55 => k_is)
    (case l55 => k_is)
    (case c55 => k_is)
    (case k55 => k_is)
    (case a56 => k_is)
    (case l56 => k_is)
    (case c56 => k_is)
    (case k56 => k_is)
    (case a57 => k_is)
    (case l57 => k_is)
    (case c57 => k_is)
    (case k57 => k_is)
    (case a58 => k_is)
    (case l58 => k_is)
    (case c58 => k_is)
    (case k58 => k_is)
    (case a59 => k_is)
    (case l59 => k_is)
    (case c59 => k_is)
    (case k59 => k_is)
    (case ea0 => k_is)
    (case eb0 => k_is)
    (case ec0 => k_is)
    (case ed0 => k_is)
    (case ee0 => k_is)
    (case ef0 => k_is)
    (case eg0 => k_is)
    (case eh0 => k_is)
    (case ei0 => k_is)
    (case ej0 => k_is)
    (case ek0 => k_is)
    (case el0 => k_is)
    (case em0 => k_is)
    (case en0 => k_is)
    (case eo0 => k_is)
    (case ep0_0 => k_is)
    (case ea1 => k_is)
    (case eb1 => k_is)
    (case ec1 => k_is)
    (case ed1 => k_is)
    (case ee1 => k_is)
    (case ef1 => k_is)
    (case eg1 => k_is)
    (case eh1 => k_is)
    (case ei1 => k_is)
    (case ej1 => k_is)
    (case ek1 => k_is)
    (case el1 => k_is)
    (case em1 => k_is)
    (case en1 => k_is)
    (case eo1 => k_is)
    (case ep1_0 => k_is)
    (case ep1_1 => k_is)
    (case ea2 => k_is)
    (case eb2 => k_is)
    (case ec2 => k_is)
    (case ed2 => k_is)
    (case ee2 => k_is)
    (case ef2 => k_is)
    (case eg2 => k_is)
    (case eh2 => k_is)
    (case ei2 => k_is)
    (case ej2 => k_is)
    (case ek2 => k_is)
    (case el2 => k_is)
    (case em2 => k_is)
    (case en2 => k_is)
    (case eo2 => k_is)
    (case ep2_0 => k_is)
    (case oa0 => k_is)
    (case ob0 => k_is)
    (case oc0_ => k_is)
    (case od0_ => k_is)
    (case oe0 => k_is)
    (case of0 => k_is)
    (case og0 => k_is)
    (case oh0 => k_is)
    (case oi0 => k_is)
    (case oj0 => k_is)
    (case ok0 => k_is)
    (case ol0 => k_is)
    (case on0_0 => k_is)
    (case on0_1 => k_is)
    (case on0_2 => k_is)
    (case on0_3 => k_is)
    (case on0_4 => k_is)
    (case on0_5 => k_is)
    (case on0_6 => k_is)
    (case on0_7 => k_is)
    (case on0_8 => k_is)
    (case es0 => first | k_is | rfl)
    (case es1 => first | k_is | rfl)
    (case es2 => first | k_is | rfl)
    (case es3 => first | k_is | rfl)
    (case es4 => first | k_is | rfl)
    (case es5 => first | k_is | rfl)
    (case es6 => first | k_is | rfl)
    (case es7 => first | k_is | rfl)
    (case es8 => first | k_is | rfl)
    (case z0 => k_is)
    (case z1 => k_is)
    (case z2 => k_is)
    (case z3 => k_is)
    (case z4 => k_is)
    (case z5 => k_is)
    (case z6 => k_is)
    (case z7 => k_is)
    (case z8 => k_is)
    (case z9 => k_is)
    (case z10 => k_is)
    (case z11 => k_is)
    (case z12 => k_is)
    (case z13 => k_is)
    (case q0 => k_is)
    (case q1 => k_is)
    (case q2 => k_is)
    (case tq35 => exact TT)
    (case tr35 => exact ⟨_, rfl⟩)
    (case ts35 => first | k_is | rfl)
    (case tn35 => first | k_is | rfl)
    (case tq36 => exact TT)
    (case tr36 => exact ⟨_, rfl⟩)
    (case ts36 => first | k_is | rfl)
    (case tn36 => first | k_is | rfl)
