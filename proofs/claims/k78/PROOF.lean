import PyProof.Rows.All
import HandS.AnyAll
import HandS.GenList
import PyProof.GenComp
import PyProof.GenArm
import HandS.EndTab
import HandS.StrMore
import HandS.StrSplit
import KE.KIntText
import KE.IntTextLaws
import PyProof.StrLawsTight
import PyProof.StrLawsChain
import PyProof.StrLawsAffix
import PyProof.CollectIter
import PyProof.Rows.TupIter
import HandS.ForMost
import HandS.Set
import HandS.Strs
import HandS.SetFor
import PyProof.Rows.SortStr
import PyProof.Rows.SortShellK
import PyProof.StrBlock2
import HandS.Call
import HandS.List
import HandS.Zip
import HandS.Zip0
import HandS.Walk
import KE.GoesMore
import KE.GoesEnum
import Wide.All
import OpenK.AllK
import Wide.FinOn
import PySem.Challenge.RW_gapcalls_k78_texts_judged
import HandS.ForMost
import HandS.Wide
import HandS.Codes
import HandS.Walk
import HandS.NoneIn
import HandS.Style
import HandS.IsInst
import HandS.SortOrd
import HandS.SortRule
import KE.LtData
import HandS.ForExc
import HandS.ExcInit
import HandS.ExcField
import HandS.More
import HandS.Deep
import HandS.TupAny
import HandS.TupLe
import HandS.Zip
import KE.GoesZip
import KE.GoesMore
import KE.GoesEnum
import Wide.All
import OpenK.AllK
import Wide.FinOn
import HandS.ForMost
import HandS.DictComp
import HandS.Conv
import HandS.SortKw
import HandS.Walk
import HandS.SortOrd
import KE.DataMinMax
import KE.KDictWalk
import HandS.RaiseMore
import PyProof.Rows.StrCut
set_option Elab.async false
set_option linter.all false
set_option maxRecDepth 100000
set_option maxHeartbeats 4000000
namespace Gp
open PySem PySem.Spec PyProof.Rows L2
def topS (i : Nat) : Stmt := PySem.Challenge.pw_gapcalls_k78_texts_judged.main.body.getD i (.Pass ⟨0, 0, 0, 0⟩)
abbrev s_is_whole_from : Stmt := topS 12
theorem sc_is_whole_from : FnScope ["thing", "low", "high"] ["thing", "low", "high"] (defScope s_is_whole_from) := ⟨rfl, rfl, rfl, by decide +kernel, rfl, by decide +kernel, by decide +kernel⟩
abbrev s_is_time : Stmt := topS 13
theorem sc_is_time : FnScope ["thing"] ["thing"] (defScope s_is_time) := ⟨rfl, rfl, rfl, by decide +kernel, rfl, by decide +kernel, by decide +kernel⟩
abbrev s_is_number : Stmt := topS 14
theorem sc_is_number : FnScope ["thing"] ["thing"] (defScope s_is_number) := ⟨rfl, rfl, rfl, by decide +kernel, rfl, by decide +kernel, by decide +kernel⟩
abbrev s_is_count : Stmt := topS 15
theorem sc_is_count : FnScope ["thing"] ["thing"] (defScope s_is_count) := ⟨rfl, rfl, rfl, by decide +kernel, rfl, by decide +kernel, by decide +kernel⟩
abbrev s_is_house : Stmt := topS 16
theorem sc_is_house : FnScope ["thing", "sign"] ["thing"] (defScope s_is_house) := ⟨rfl, rfl, rfl, by decide +kernel, rfl, by decide +kernel, by decide +kernel⟩
abbrev s_is_rising : Stmt := topS 17
theorem sc_is_rising : FnScope ["things", "at"] ["things"] (defScope s_is_rising) := ⟨rfl, rfl, rfl, by decide +kernel, rfl, by decide +kernel, by decide +kernel⟩
abbrev s_are_rising_houses : Stmt := topS 18
theorem sc_are_rising_houses : FnScope ["thing", "house"] ["thing"] (defScope s_are_rising_houses) := ⟨rfl, rfl, rfl, by decide +kernel, rfl, by decide +kernel, by decide +kernel⟩
abbrev s_is_town : Stmt := topS 19
theorem sc_is_town : FnScope ["thing", "houses", "gates", "gate"] ["thing"] (defScope s_is_town) := ⟨rfl, rfl, rfl, by decide +kernel, rfl, by decide +kernel, by decide +kernel⟩
abbrev s_is_span : Stmt := topS 20
theorem sc_is_span : FnScope ["low", "high"] ["low", "high"] (defScope s_is_span) := ⟨rfl, rfl, rfl, by decide +kernel, rfl, by decide +kernel, by decide +kernel⟩
abbrev s_is_ask_row : Stmt := topS 21
theorem sc_is_ask_row : FnScope ["houses", "thing", "word", "house", "number", "job", "asked", "out", "back"] ["houses", "thing"] (defScope s_is_ask_row) := ⟨rfl, rfl, rfl, by decide +kernel, rfl, by decide +kernel, by decide +kernel⟩
abbrev s_is_job_row : Stmt := topS 22
theorem sc_is_job_row : FnScope ["houses", "thing", "word", "house", "number", "begin", "end"] ["houses", "thing"] (defScope s_is_job_row) := ⟨rfl, rfl, rfl, by decide +kernel, rfl, by decide +kernel, by decide +kernel⟩
abbrev s_is_all_row : Stmt := topS 23
theorem sc_is_all_row : FnScope ["houses", "thing", "word", "house", "asks", "jobs"] ["houses", "thing"] (defScope s_is_all_row) := ⟨rfl, rfl, rfl, by decide +kernel, rfl, by decide +kernel, by decide +kernel⟩
abbrev s_is_row : Stmt := topS 24
theorem sc_is_row : FnScope ["town", "thing", "houses"] ["town", "thing"] (defScope s_is_row) := ⟨rfl, rfl, rfl, by decide +kernel, rfl, by decide +kernel, by decide +kernel⟩
abbrev s_is_out_of_order : Stmt := topS 26
theorem sc_is_out_of_order : FnScope ["number", "time", "other_number", "other_time"] ["number", "time", "other_number", "other_time"] (defScope s_is_out_of_order) := ⟨rfl, rfl, rfl, by decide +kernel, rfl, by decide +kernel, by decide +kernel⟩
abbrev s_do_asks_clash : Stmt := topS 27
theorem sc_do_asks_clash : FnScope ["one", "other", "number", "out", "other_number", "other_out"] ["one", "other"] (defScope s_do_asks_clash) := ⟨rfl, rfl, rfl, by decide +kernel, rfl, by decide +kernel, by decide +kernel⟩
abbrev s_do_jobs_clash : Stmt := topS 28
theorem sc_do_jobs_clash : FnScope ["one", "other", "number", "begin", "other_number", "other_begin"] ["one", "other"] (defScope s_do_jobs_clash) := ⟨rfl, rfl, rfl, by decide +kernel, rfl, by decide +kernel, by decide +kernel⟩
abbrev s_do_job_and_ask_clash : Stmt := topS 29
theorem sc_do_job_and_ask_clash : FnScope ["job", "ask", "number", "begin", "end", "made_in", "out", "back"] ["job", "ask"] (defScope s_do_job_and_ask_clash) := ⟨rfl, rfl, rfl, by decide +kernel, rfl, by decide +kernel, by decide +kernel⟩
abbrev s_does_all_row_clash : Stmt := topS 30
theorem sc_does_all_row_clash : FnScope ["all_row", "other", "asks", "jobs"] ["all_row", "other"] (defScope s_does_all_row_clash) := ⟨rfl, rfl, rfl, by decide +kernel, rfl, by decide +kernel, by decide +kernel⟩
abbrev s_do_alike_sorts_clash : Stmt := topS 31
theorem sc_do_alike_sorts_clash : FnScope ["one", "other"] ["one", "other"] (defScope s_do_alike_sorts_clash) := ⟨rfl, rfl, rfl, by decide +kernel, rfl, by decide +kernel, by decide +kernel⟩
abbrev s_do_clash : Stmt := topS 32
theorem sc_do_clash : FnScope ["one", "other"] ["one", "other"] (defScope s_do_clash) := ⟨rfl, rfl, rfl, by decide +kernel, rfl, by decide +kernel, by decide +kernel⟩
abbrev s_need_rows : Stmt := topS 33
theorem sc_need_rows : FnScope ["town", "rows", "number", "thing"] ["town", "rows"] (defScope s_need_rows) := ⟨rfl, rfl, rfl, by decide +kernel, rfl, by decide +kernel, by decide +kernel⟩
abbrev s_need_book : Stmt := topS 34
theorem sc_need_book : FnScope ["town", "rows", "second", "first"] ["town", "rows"] (defScope s_need_book) := ⟨rfl, rfl, rfl, by decide +kernel, rfl, by decide +kernel, by decide +kernel⟩
abbrev s_read_number : Stmt := topS 38
theorem sc_read_number : FnScope ["word", "figures", "sign"] ["word"] (defScope s_read_number) := ⟨rfl, rfl, rfl, by decide +kernel, rfl, by decide +kernel, by decide +kernel⟩
abbrev s_read_thing : Stmt := topS 39
theorem sc_read_thing : FnScope ["word", "number"] ["word"] (defScope s_read_thing) := ⟨rfl, rfl, rfl, by decide +kernel, rfl, by decide +kernel, by decide +kernel⟩
abbrev s_read_row : Stmt := topS 40
theorem sc_read_row : FnScope ["town", "text", "row", "word"] ["town", "text"] (defScope s_read_row) := ⟨rfl, rfl, rfl, by decide +kernel, rfl, by decide +kernel, by decide +kernel⟩
abbrev s_read_town : Stmt := topS 41
theorem sc_read_town : FnScope ["text", "words", "houses", "word", "gates"] ["text"] (defScope s_read_town) := ⟨rfl, rfl, rfl, by decide +kernel, rfl, by decide +kernel, by decide +kernel⟩
abbrev s_read_book : Stmt := topS 42
theorem sc_read_book : FnScope ["text", "texts", "rest", "town", "rows", "one"] ["text"] (defScope s_read_book) := ⟨rfl, rfl, rfl, by decide +kernel, rfl, by decide +kernel, by decide +kernel⟩
abbrev s_l_spread : Stmt := topS 44
theorem sc_l_spread : FnScope ["cell", "at", "one", "two", "three"] ["cell", "at"] (defScope s_l_spread) := ⟨rfl, rfl, rfl, by decide +kernel, rfl, by decide +kernel, by decide +kernel⟩
abbrev s_l_open : Stmt := topS 45
theorem sc_l_open : FnScope ["script", "cells", "k", "cell"] ["script"] (defScope s_l_open) := ⟨rfl, rfl, rfl, by decide +kernel, rfl, by decide +kernel, by decide +kernel⟩
abbrev s_l_anew : Stmt := topS 46
theorem sc_l_anew : FnScope ["pen"] ["pen"] (defScope s_l_anew) := ⟨rfl, rfl, rfl, by decide +kernel, rfl, by decide +kernel, by decide +kernel⟩
abbrev s_l_take : Stmt := topS 47
theorem sc_l_take : FnScope ["pen", "many", "at", "cell", "found"] ["pen", "many"] (defScope s_l_take) := ⟨rfl, rfl, rfl, by decide +kernel, rfl, by decide +kernel, by decide +kernel⟩
abbrev s_l_names : Stmt := topS 48
theorem sc_l_names : FnScope ["pen", "many", "letters", "base", "k", "way", "turn", "size", "found", "sign", "part", "at"] ["pen", "many"] (defScope s_l_names) := ⟨rfl, rfl, rfl, by decide +kernel, rfl, by decide +kernel, by decide +kernel⟩
abbrev s_l_town : Stmt := topS 49
theorem sc_l_town : FnScope ["pen", "most", "houses", "gates", "house"] ["pen", "most"] (defScope s_l_town) := ⟨rfl, rfl, rfl, by decide +kernel, rfl, by decide +kernel, by decide +kernel⟩
abbrev s_l_room : Stmt := topS 50
theorem sc_l_room : FnScope ["world", "house", "goal", "asks", "ask", "jobs", "job"] ["world", "house", "goal"] (defScope s_l_room) := ⟨rfl, rfl, rfl, by decide +kernel, rfl, by decide +kernel, by decide +kernel⟩
abbrev s_l_job : Stmt := topS 51
theorem sc_l_job : FnScope ["pen", "world", "town", "house", "start", "deep", "place", "begin", "last", "now", "turn", "goal", "out", "ask"] ["pen", "world", "town", "house", "start", "deep"] (defScope s_l_job) := ⟨rfl, rfl, rfl, by decide +kernel, rfl, by decide +kernel, by decide +kernel⟩
abbrev s_l_world : Stmt := topS 52
theorem sc_l_world : FnScope ["pen", "town", "tops", "deep", "most", "stray", "world", "turn", "doors", "house"] ["pen", "town", "tops", "deep", "most", "stray"] (defScope s_l_world) := ⟨rfl, rfl, rfl, by decide +kernel, rfl, by decide +kernel, by decide +kernel⟩
abbrev s_l_called : Stmt := topS 53
theorem sc_l_called : FnScope ["town", "world", "asks", "jobs", "house", "outs", "at", "ask", "begins", "place", "job", "number"] ["town", "world"] (defScope s_l_called) := ⟨rfl, rfl, rfl, by decide +kernel, rfl, by decide +kernel, by decide +kernel⟩
abbrev s_l_bases : Stmt := topS 54
theorem sc_l_bases : FnScope ["pen", "town", "many", "base", "house"] ["pen", "town", "many"] (defScope s_l_bases) := ⟨rfl, rfl, rfl, by decide +kernel, rfl, by decide +kernel, by decide +kernel⟩
abbrev s_l_all_rows : Stmt := topS 55
theorem sc_l_all_rows : FnScope ["town", "world", "bases", "asks", "jobs", "rows", "place", "house", "begin", "end", "at", "goal", "out", "back", "child", "number", "many"] ["town", "world", "bases"] (defScope s_l_all_rows) := ⟨rfl, rfl, rfl, by decide +kernel, rfl, by decide +kernel, by decide +kernel⟩
abbrev s_l_left : Stmt := topS 56
theorem sc_l_left : FnScope ["pen", "rows", "fewer", "some", "found", "row", "turn"] ["pen", "rows", "fewer"] (defScope s_l_left) := ⟨rfl, rfl, rfl, by decide +kernel, rfl, by decide +kernel, by decide +kernel⟩
abbrev s_l_small_book : Stmt := topS 57
theorem sc_l_small_book : FnScope ["pen", "houses", "most", "fewer", "stray", "town", "world"] ["pen", "houses", "most", "fewer", "stray"] (defScope s_l_small_book) := ⟨rfl, rfl, rfl, by decide +kernel, rfl, by decide +kernel, by decide +kernel⟩
abbrev s_l_is_house : Stmt := topS 58
theorem sc_l_is_house : FnScope ["thing", "sign"] ["thing"] (defScope s_l_is_house) := ⟨rfl, rfl, rfl, by decide +kernel, rfl, by decide +kernel, by decide +kernel⟩
abbrev s_l_is_town : Stmt := topS 59
theorem sc_l_is_town : FnScope ["thing", "part", "one", "gate"] ["thing"] (defScope s_l_is_town) := ⟨rfl, rfl, rfl, by decide +kernel, rfl, by decide +kernel, by decide +kernel⟩
abbrev s_l_whole : Stmt := topS 60
theorem sc_l_whole : FnScope ["thing"] ["thing"] (defScope s_l_whole) := ⟨rfl, rfl, rfl, by decide +kernel, rfl, by decide +kernel, by decide +kernel⟩
abbrev s_l_is_row : Stmt := topS 61
theorem sc_l_is_row : FnScope ["town", "thing", "forms", "sort", "part", "low", "high"] ["town", "thing"] (defScope s_l_is_row) := ⟨rfl, rfl, rfl, by decide +kernel, rfl, by decide +kernel, by decide +kernel⟩
abbrev s_l_do_clash : Stmt := topS 62
theorem sc_l_do_clash : FnScope ["one", "other", "first", "second", "words", "at"] ["one", "other"] (defScope s_l_do_clash) := ⟨rfl, rfl, rfl, by decide +kernel, rfl, by decide +kernel, by decide +kernel⟩
abbrev s_l_first_clash : Stmt := topS 63
theorem sc_l_first_clash : FnScope ["rows", "second", "first"] ["rows"] (defScope s_l_first_clash) := ⟨rfl, rfl, rfl, by decide +kernel, rfl, by decide +kernel, by decide +kernel⟩
abbrev s_l_few_row : Stmt := topS 64
theorem sc_l_few_row : FnScope ["pen", "town", "house", "way", "out", "back", "goal"] ["pen", "town"] (defScope s_l_few_row) := ⟨rfl, rfl, rfl, by decide +kernel, rfl, by decide +kernel, by decide +kernel⟩
abbrev s_l_town_text : Stmt := topS 65
theorem sc_l_town_text : FnScope ["town", "house"] ["town"] (defScope s_l_town_text) := ⟨rfl, rfl, rfl, by decide +kernel, rfl, by decide +kernel, by decide +kernel⟩
abbrev s_l_row_text : Stmt := topS 66
theorem sc_l_row_text : FnScope ["row", "part"] ["row"] (defScope s_l_row_text) := ⟨rfl, rfl, rfl, by decide +kernel, rfl, by decide +kernel, by decide +kernel⟩
abbrev s_l_number_in : Stmt := topS 67
theorem sc_l_number_in : FnScope ["word", "sign"] ["word"] (defScope s_l_number_in) := ⟨rfl, rfl, rfl, by decide +kernel, rfl, by decide +kernel, by decide +kernel⟩
abbrev s_l_town_in : Stmt := topS 68
theorem sc_l_town_in : FnScope ["text", "houses", "gates", "word", "town"] ["text"] (defScope s_l_town_in) := ⟨rfl, rfl, rfl, by decide +kernel, rfl, by decide +kernel, by decide +kernel⟩
abbrev s_l_row_in : Stmt := topS 69
theorem sc_l_row_in : FnScope ["town", "text", "words", "forms", "row", "sort", "word"] ["town", "text"] (defScope s_l_row_in) := ⟨rfl, rfl, rfl, by decide +kernel, rfl, by decide +kernel, by decide +kernel⟩
abbrev s_l_same : Stmt := topS 70
theorem sc_l_same : FnScope ["found", "due", "one", "other"] ["found", "due"] (defScope s_l_same) := ⟨rfl, rfl, rfl, by decide +kernel, rfl, by decide +kernel, by decide +kernel⟩
abbrev s_l_told : Stmt := topS 71
theorem sc_l_told : FnScope ["text", "told", "e"] ["text"] (defScope s_l_told) := ⟨rfl, rfl, rfl, by decide +kernel, rfl, by decide +kernel, by decide +kernel⟩
abbrev s_l_due : Stmt := topS 72
theorem sc_l_due : FnScope ["text", "lines", "town", "rows", "number", "found"] ["text"] (defScope s_l_due) := ⟨rfl, rfl, rfl, by decide +kernel, rfl, by decide +kernel, by decide +kernel⟩
abbrev s_l_bent_line : Stmt := topS 73
theorem sc_l_bent_line : FnScope ["pen", "line", "words", "at", "size", "odd", "word", "way", "some"] ["pen", "line"] (defScope s_l_bent_line) := ⟨rfl, rfl, rfl, by decide +kernel, rfl, by decide +kernel, by decide +kernel⟩
abbrev s_l_bent : Stmt := topS 74
theorem sc_l_bent : FnScope ["pen", "text", "lines", "at", "way", "every", "turned"] ["pen", "text"] (defScope s_l_bent) := ⟨rfl, rfl, rfl, by decide +kernel, rfl, by decide +kernel, by decide +kernel⟩
abbrev s_law : Stmt := topS 75
theorem sc_law : FnScope ["script", "pen", "turn", "town", "rows", "k", "lines", "row", "text", "line", "bent"] ["script"] (defScope s_law) := ⟨rfl, rfl, rfl, by decide +kernel, rfl, by decide +kernel, by decide +kernel⟩
abbrev s_i_NoRow : Stmt := inClass (topS 2) 0
theorem sc_init_NoRow : FnScope ["self", "number"] ["self", "number"] (defScope s_i_NoRow) := ⟨rfl, rfl, rfl, by decide +kernel, rfl, by decide +kernel, by decide +kernel⟩
abbrev s_i_Clash : Stmt := inClass (topS 4) 0
theorem sc_init_Clash : FnScope ["self", "first", "second"] ["self", "first", "second"] (defScope s_i_Clash) := ⟨rfl, rfl, rfl, by decide +kernel, rfl, by decide +kernel, by decide +kernel⟩
abbrev s_i_NoText : Stmt := inClass (topS 3) 0
theorem sc_init_NoText : FnScope ["self", "number"] ["self", "number"] (defScope s_i_NoText) := ⟨rfl, rfl, rfl, by decide +kernel, rfl, by decide +kernel, by decide +kernel⟩
structure ExcT (K : PySem.W.Frag) (mg : Str → Option Value) (name : Str) (C fI : Addr) (fdI : FuncData) (st : Stmt) (qual : Str) (ps fs : List Str) : Prop where
  g : mg name = some (.ref C)
  T : OexC K C
  iC : PySem.W.findIn K (.ref C) "__init__" = some (some (.ref fI))
  tI : PySem.W.typeIn K (.ref fI) = some (.type "function")
  F : Fun K "__init__" qual st fI fdI
  b : Binds K fdI ps []
  no : ∀ f ∈ fs, PySem.W.findIn K (.ref C) f = some none
  xf : XfC K C
structure Txt (K : PySem.W.Frag) (mg : Str → Option Value) (af : Nat → Addr) (fd : Nat → FuncData) : Prop where
  g_is_whole_from : mg "is_whole_from" = some (.ref (af 0))
  F_is_whole_from : Fun K "is_whole_from" "is_whole_from" s_is_whole_from (af 0) (fd 0)
  b_is_whole_from : Binds K (fd 0) ["thing", "low", "high"] []
  g_is_time : mg "is_time" = some (.ref (af 1))
  F_is_time : Fun K "is_time" "is_time" s_is_time (af 1) (fd 1)
  b_is_time : Binds K (fd 1) ["thing"] []
  g_is_number : mg "is_number" = some (.ref (af 2))
  F_is_number : Fun K "is_number" "is_number" s_is_number (af 2) (fd 2)
  b_is_number : Binds K (fd 2) ["thing"] []
  g_is_count : mg "is_count" = some (.ref (af 3))
  F_is_count : Fun K "is_count" "is_count" s_is_count (af 3) (fd 3)
  b_is_count : Binds K (fd 3) ["thing"] []
  g_is_house : mg "is_house" = some (.ref (af 4))
  F_is_house : Fun K "is_house" "is_house" s_is_house (af 4) (fd 4)
  b_is_house : Binds K (fd 4) ["thing"] []
  d_is_house : (fd 4).code = .ref (af 65)
  g_is_rising : mg "is_rising" = some (.ref (af 5))
  F_is_rising : Fun K "is_rising" "is_rising" s_is_rising (af 5) (fd 5)
  b_is_rising : Binds K (fd 5) ["things"] []
  d_is_rising : (fd 5).code = .ref (af 67)
  g_are_rising_houses : mg "are_rising_houses" = some (.ref (af 6))
  F_are_rising_houses : Fun K "are_rising_houses" "are_rising_houses" s_are_rising_houses (af 6) (fd 6)
  b_are_rising_houses : Binds K (fd 6) ["thing"] []
  d_are_rising_houses : (fd 6).code = .ref (af 69)
  g_is_town : mg "is_town" = some (.ref (af 7))
  F_is_town : Fun K "is_town" "is_town" s_is_town (af 7) (fd 7)
  b_is_town : Binds K (fd 7) ["thing"] []
  d_is_town : (fd 7).code = .ref (af 71)
  g_is_span : mg "is_span" = some (.ref (af 8))
  F_is_span : Fun K "is_span" "is_span" s_is_span (af 8) (fd 8)
  b_is_span : Binds K (fd 8) ["low", "high"] []
  g_is_ask_row : mg "is_ask_row" = some (.ref (af 9))
  F_is_ask_row : Fun K "is_ask_row" "is_ask_row" s_is_ask_row (af 9) (fd 9)
  b_is_ask_row : Binds K (fd 9) ["houses", "thing"] []
  g_is_job_row : mg "is_job_row" = some (.ref (af 10))
  F_is_job_row : Fun K "is_job_row" "is_job_row" s_is_job_row (af 10) (fd 10)
  b_is_job_row : Binds K (fd 10) ["houses", "thing"] []
  g_is_all_row : mg "is_all_row" = some (.ref (af 11))
  F_is_all_row : Fun K "is_all_row" "is_all_row" s_is_all_row (af 11) (fd 11)
  b_is_all_row : Binds K (fd 11) ["houses", "thing"] []
  g_is_row : mg "is_row" = some (.ref (af 12))
  F_is_row : Fun K "is_row" "is_row" s_is_row (af 12) (fd 12)
  b_is_row : Binds K (fd 12) ["town", "thing"] []
  g_is_out_of_order : mg "is_out_of_order" = some (.ref (af 13))
  F_is_out_of_order : Fun K "is_out_of_order" "is_out_of_order" s_is_out_of_order (af 13) (fd 13)
  b_is_out_of_order : Binds K (fd 13) ["number", "time", "other_number", "other_time"] []
  g_do_asks_clash : mg "do_asks_clash" = some (.ref (af 14))
  F_do_asks_clash : Fun K "do_asks_clash" "do_asks_clash" s_do_asks_clash (af 14) (fd 14)
  b_do_asks_clash : Binds K (fd 14) ["one", "other"] []
  g_do_jobs_clash : mg "do_jobs_clash" = some (.ref (af 15))
  F_do_jobs_clash : Fun K "do_jobs_clash" "do_jobs_clash" s_do_jobs_clash (af 15) (fd 15)
  b_do_jobs_clash : Binds K (fd 15) ["one", "other"] []
  g_do_job_and_ask_clash : mg "do_job_and_ask_clash" = some (.ref (af 16))
  F_do_job_and_ask_clash : Fun K "do_job_and_ask_clash" "do_job_and_ask_clash" s_do_job_and_ask_clash (af 16) (fd 16)
  b_do_job_and_ask_clash : Binds K (fd 16) ["job", "ask"] []
  g_does_all_row_clash : mg "does_all_row_clash" = some (.ref (af 17))
  F_does_all_row_clash : Fun K "does_all_row_clash" "does_all_row_clash" s_does_all_row_clash (af 17) (fd 17)
  b_does_all_row_clash : Binds K (fd 17) ["all_row", "other"] []
  g_do_alike_sorts_clash : mg "do_alike_sorts_clash" = some (.ref (af 18))
  F_do_alike_sorts_clash : Fun K "do_alike_sorts_clash" "do_alike_sorts_clash" s_do_alike_sorts_clash (af 18) (fd 18)
  b_do_alike_sorts_clash : Binds K (fd 18) ["one", "other"] []
  g_do_clash : mg "do_clash" = some (.ref (af 19))
  F_do_clash : Fun K "do_clash" "do_clash" s_do_clash (af 19) (fd 19)
  b_do_clash : Binds K (fd 19) ["one", "other"] []
  g_need_rows : mg "need_rows" = some (.ref (af 20))
  F_need_rows : Fun K "need_rows" "need_rows" s_need_rows (af 20) (fd 20)
  b_need_rows : Binds K (fd 20) ["town", "rows"] []
  g_need_book : mg "need_book" = some (.ref (af 21))
  F_need_book : Fun K "need_book" "need_book" s_need_book (af 21) (fd 21)
  b_need_book : Binds K (fd 21) ["town", "rows"] []
  g_read_number : mg "read_number" = some (.ref (af 22))
  F_read_number : Fun K "read_number" "read_number" s_read_number (af 22) (fd 22)
  b_read_number : Binds K (fd 22) ["word"] []
  d_read_number : (fd 22).code = .ref (af 73)
  g_read_thing : mg "read_thing" = some (.ref (af 23))
  F_read_thing : Fun K "read_thing" "read_thing" s_read_thing (af 23) (fd 23)
  b_read_thing : Binds K (fd 23) ["word"] []
  g_read_row : mg "read_row" = some (.ref (af 24))
  F_read_row : Fun K "read_row" "read_row" s_read_row (af 24) (fd 24)
  b_read_row : Binds K (fd 24) ["town", "text"] []
  g_read_town : mg "read_town" = some (.ref (af 25))
  F_read_town : Fun K "read_town" "read_town" s_read_town (af 25) (fd 25)
  b_read_town : Binds K (fd 25) ["text"] []
  g_read_book : mg "read_book" = some (.ref (af 26))
  F_read_book : Fun K "read_book" "read_book" s_read_book (af 26) (fd 26)
  b_read_book : Binds K (fd 26) ["text"] []
  g_l_spread : mg "_law_spread" = some (.ref (af 27))
  F_l_spread : Fun K "_law_spread" "_law_spread" s_l_spread (af 27) (fd 27)
  b_l_spread : Binds K (fd 27) ["cell", "at"] []
  g_l_open : mg "_law_open" = some (.ref (af 28))
  F_l_open : Fun K "_law_open" "_law_open" s_l_open (af 28) (fd 28)
  b_l_open : Binds K (fd 28) ["script"] []
  g_l_anew : mg "_law_anew" = some (.ref (af 29))
  F_l_anew : Fun K "_law_anew" "_law_anew" s_l_anew (af 29) (fd 29)
  b_l_anew : Binds K (fd 29) ["pen"] []
  g_l_take : mg "_law_take" = some (.ref (af 30))
  F_l_take : Fun K "_law_take" "_law_take" s_l_take (af 30) (fd 30)
  b_l_take : Binds K (fd 30) ["pen", "many"] []
  g_l_names : mg "_law_names" = some (.ref (af 31))
  F_l_names : Fun K "_law_names" "_law_names" s_l_names (af 31) (fd 31)
  b_l_names : Binds K (fd 31) ["pen", "many"] []
  g_l_town : mg "_law_town" = some (.ref (af 32))
  F_l_town : Fun K "_law_town" "_law_town" s_l_town (af 32) (fd 32)
  b_l_town : Binds K (fd 32) ["pen", "most"] []
  g_l_room : mg "_law_room" = some (.ref (af 33))
  F_l_room : Fun K "_law_room" "_law_room" s_l_room (af 33) (fd 33)
  b_l_room : Binds K (fd 33) ["world", "house", "goal"] []
  g_l_job : mg "_law_job" = some (.ref (af 34))
  F_l_job : Fun K "_law_job" "_law_job" s_l_job (af 34) (fd 34)
  b_l_job : Binds K (fd 34) ["pen", "world", "town", "house", "start", "deep"] []
  g_l_world : mg "_law_world" = some (.ref (af 35))
  F_l_world : Fun K "_law_world" "_law_world" s_l_world (af 35) (fd 35)
  b_l_world : Binds K (fd 35) ["pen", "town", "tops", "deep", "most", "stray"] []
  g_l_called : mg "_law_called" = some (.ref (af 36))
  F_l_called : Fun K "_law_called" "_law_called" s_l_called (af 36) (fd 36)
  b_l_called : Binds K (fd 36) ["town", "world"] []
  g_l_bases : mg "_law_bases" = some (.ref (af 37))
  F_l_bases : Fun K "_law_bases" "_law_bases" s_l_bases (af 37) (fd 37)
  b_l_bases : Binds K (fd 37) ["pen", "town", "many"] []
  g_l_all_rows : mg "_law_all_rows" = some (.ref (af 38))
  F_l_all_rows : Fun K "_law_all_rows" "_law_all_rows" s_l_all_rows (af 38) (fd 38)
  b_l_all_rows : Binds K (fd 38) ["town", "world", "bases"] []
  g_l_left : mg "_law_left" = some (.ref (af 39))
  F_l_left : Fun K "_law_left" "_law_left" s_l_left (af 39) (fd 39)
  b_l_left : Binds K (fd 39) ["pen", "rows", "fewer"] []
  g_l_small_book : mg "_law_small_book" = some (.ref (af 40))
  F_l_small_book : Fun K "_law_small_book" "_law_small_book" s_l_small_book (af 40) (fd 40)
  b_l_small_book : Binds K (fd 40) ["pen", "houses", "most", "fewer", "stray"] []
  g_l_is_house : mg "_law_is_house" = some (.ref (af 41))
  F_l_is_house : Fun K "_law_is_house" "_law_is_house" s_l_is_house (af 41) (fd 41)
  b_l_is_house : Binds K (fd 41) ["thing"] []
  g_l_is_town : mg "_law_is_town" = some (.ref (af 42))
  F_l_is_town : Fun K "_law_is_town" "_law_is_town" s_l_is_town (af 42) (fd 42)
  b_l_is_town : Binds K (fd 42) ["thing"] []
  g_l_whole : mg "_law_whole" = some (.ref (af 43))
  F_l_whole : Fun K "_law_whole" "_law_whole" s_l_whole (af 43) (fd 43)
  b_l_whole : Binds K (fd 43) ["thing"] []
  g_l_is_row : mg "_law_is_row" = some (.ref (af 44))
  F_l_is_row : Fun K "_law_is_row" "_law_is_row" s_l_is_row (af 44) (fd 44)
  b_l_is_row : Binds K (fd 44) ["town", "thing"] []
  g_l_do_clash : mg "_law_do_clash" = some (.ref (af 45))
  F_l_do_clash : Fun K "_law_do_clash" "_law_do_clash" s_l_do_clash (af 45) (fd 45)
  b_l_do_clash : Binds K (fd 45) ["one", "other"] []
  g_l_first_clash : mg "_law_first_clash" = some (.ref (af 46))
  F_l_first_clash : Fun K "_law_first_clash" "_law_first_clash" s_l_first_clash (af 46) (fd 46)
  b_l_first_clash : Binds K (fd 46) ["rows"] []
  g_l_few_row : mg "_law_few_row" = some (.ref (af 47))
  F_l_few_row : Fun K "_law_few_row" "_law_few_row" s_l_few_row (af 47) (fd 47)
  b_l_few_row : Binds K (fd 47) ["pen", "town"] []
  g_l_town_text : mg "_law_town_text" = some (.ref (af 48))
  F_l_town_text : Fun K "_law_town_text" "_law_town_text" s_l_town_text (af 48) (fd 48)
  b_l_town_text : Binds K (fd 48) ["town"] []
  g_l_row_text : mg "_law_row_text" = some (.ref (af 49))
  F_l_row_text : Fun K "_law_row_text" "_law_row_text" s_l_row_text (af 49) (fd 49)
  b_l_row_text : Binds K (fd 49) ["row"] []
  g_l_number_in : mg "_law_number_in" = some (.ref (af 50))
  F_l_number_in : Fun K "_law_number_in" "_law_number_in" s_l_number_in (af 50) (fd 50)
  b_l_number_in : Binds K (fd 50) ["word"] []
  g_l_town_in : mg "_law_town_in" = some (.ref (af 51))
  F_l_town_in : Fun K "_law_town_in" "_law_town_in" s_l_town_in (af 51) (fd 51)
  b_l_town_in : Binds K (fd 51) ["text"] []
  g_l_row_in : mg "_law_row_in" = some (.ref (af 52))
  F_l_row_in : Fun K "_law_row_in" "_law_row_in" s_l_row_in (af 52) (fd 52)
  b_l_row_in : Binds K (fd 52) ["town", "text"] []
  g_l_same : mg "_law_same" = some (.ref (af 53))
  F_l_same : Fun K "_law_same" "_law_same" s_l_same (af 53) (fd 53)
  b_l_same : Binds K (fd 53) ["found", "due"] []
  g_l_told : mg "_law_told" = some (.ref (af 54))
  F_l_told : Fun K "_law_told" "_law_told" s_l_told (af 54) (fd 54)
  b_l_told : Binds K (fd 54) ["text"] []
  g_l_due : mg "_law_due" = some (.ref (af 55))
  F_l_due : Fun K "_law_due" "_law_due" s_l_due (af 55) (fd 55)
  b_l_due : Binds K (fd 55) ["text"] []
  g_l_bent_line : mg "_law_bent_line" = some (.ref (af 56))
  F_l_bent_line : Fun K "_law_bent_line" "_law_bent_line" s_l_bent_line (af 56) (fd 56)
  b_l_bent_line : Binds K (fd 56) ["pen", "line"] []
  g_l_bent : mg "_law_bent" = some (.ref (af 57))
  F_l_bent : Fun K "_law_bent" "_law_bent" s_l_bent (af 57) (fd 57)
  b_l_bent : Binds K (fd 57) ["pen", "text"] []
  g_law : mg "law" = some (.ref (af 58))
  F_law : Fun K "law" "law" s_law (af 58) (fd 58)
  b_law : Binds K (fd 58) ["script"] []
  e_NoRow : ExcT K mg "NoRow" (af 59) (af 60) (fd 60) s_i_NoRow "NoRow.__init__" ["self", "number"] ["number"]
  e_Clash : ExcT K mg "Clash" (af 61) (af 62) (fd 62) s_i_Clash "Clash.__init__" ["self", "first", "second"] ["first", "second"]
  e_NoText : ExcT K mg "NoText" (af 63) (af 64) (fd 64) s_i_NoText "NoText.__init__" ["self", "number"] ["number"]
  x_NoRow_NoRow : PySem.W.exmOne K (.ref (af 59)) (.ref (af 59)) = some true
  x_NoRow_Clash : PySem.W.exmOne K (.ref (af 59)) (.ref (af 61)) = some false
  x_NoRow_NoText : PySem.W.exmOne K (.ref (af 59)) (.ref (af 63)) = some false
  x_Clash_NoRow : PySem.W.exmOne K (.ref (af 61)) (.ref (af 59)) = some false
  x_Clash_Clash : PySem.W.exmOne K (.ref (af 61)) (.ref (af 61)) = some true
  x_Clash_NoText : PySem.W.exmOne K (.ref (af 61)) (.ref (af 63)) = some false
  x_NoText_NoRow : PySem.W.exmOne K (.ref (af 63)) (.ref (af 59)) = some false
  x_NoText_Clash : PySem.W.exmOne K (.ref (af 63)) (.ref (af 61)) = some false
  x_NoText_NoText : PySem.W.exmOne K (.ref (af 63)) (.ref (af 63)) = some true
  m_all : mg "all" = none
  m_bool : mg "bool" = none
  m_dict : mg "dict" = none
  m_enumerate : mg "enumerate" = none
  m_int : mg "int" = none
  m_isinstance : mg "isinstance" = none
  m_len : mg "len" = none
  m_list : mg "list" = none
  m_max : mg "max" = none
  m_range : mg "range" = none
  m_set : mg "set" = none
  m_sorted : mg "sorted" = none
  m_str : mg "str" = none
  m_tuple : mg "tuple" = none
  m_zip : mg "zip" = none
  c_FIGURES : ∃ t, mg "FIGURES" = some (.str "0123456789" t)
  c_LETTERS : ∃ t, mg "LETTERS" = some (.str "abcdefghijklmnopqrstuvwxyz" t)
  c_MOST_COUNT : ∃ t, mg "MOST_COUNT" = some (.int (15) t)
  c_MOST_FIGURES : ∃ t, mg "MOST_FIGURES" = some (.int (13) t)
  c_MOST_HOUSES : ∃ t, mg "MOST_HOUSES" = some (.int (6) t)
  c_MOST_LETTERS : ∃ t, mg "MOST_LETTERS" = some (.int (8) t)
  c_MOST_NUMBER : ∃ t, mg "MOST_NUMBER" = some (.int (14) t)
  c_MOST_TIME : ∃ t, mg "MOST_TIME" = some (.int (1000000000000) t)
structure TxtB (base : Heap) (mg : Str → Option Value) (af : Nat → Addr) : Prop where
  t_is_house : GxR.TabB base mg (af 65) (af 66)
  t_is_rising : GxR.TabB base mg (af 67) (af 68)
  t_are_rising_houses : GxR.TabB base mg (af 69) (af 70)
  t_is_town : GxR.TabB base mg (af 71) (af 72)
  t_read_number : GxR.TabB base mg (af 73) (af 74)
def tabIx : List Nat := [66, 68, 70, 72, 74]
/-! the pen at p, its cells at c: a list of the cells' list, how many were taken, what is left of the last one -/
def Pen (H : Hp) (p c : Addr) : Prop := ∃ (cs : List Int) (n st : Int), H p = some (.lst [.ref c, .int n, .int st]) ∧ H c = some (.lst (cs.map V.int)) ∧ 0 ≤ n ∧ 0 ≤ st
/-! from H to H': the pen may have gone on; all else that stood stands -/
def Stp (p c : Addr) (H H' : Hp) : Prop := Pen H' p c ∧ ∀ b o, b ≠ p → H b = some o → H' b = some o
theorem Stp.refl {p c : Addr} {H : Hp} (h : Pen H p c) : Stp p c H H := ⟨h, fun _ _ _ e => e⟩
theorem Stp.trans {p c : Addr} {H H1 H2 : Hp} (a : Stp p c H H1) (b : Stp p c H1 H2) : Stp p c H H2 := ⟨b.1, fun x o n e => b.2 x o n (a.2 x o n e)⟩
theorem cells_ne {c : Addr} {cs : List Int} {n st : Int} : cs.map V.int ≠ [.ref c, .int n, .int st] := by
  cases cs with
  | nil => exact fun h => nomatch h
  | cons x r => exact fun h => nomatch (List.cons.inj h).1
theorem Pen.ne {p c : Addr} {H : Hp} (h : Pen H p c) : c ≠ p := by
  obtain ⟨cs, n, st, h1, h2, h3, h4⟩ := h
  intro e
  subst e
  rw [h2] at h1
  exact cells_ne (HO.lst.inj (Option.some.inj h1))
theorem Pen.neP {p c a : Addr} {H : Hp} (h : Pen H p c) (ha : H a = none) : p ≠ a := let ⟨_, _, _, h1, _⟩ := h; ne_of_none h1 ha
theorem Pen.neC {p c a : Addr} {H : Hp} (h : Pen H p c) (ha : H a = none) : c ≠ a := let ⟨_, _, _, _, h2, _⟩ := h; ne_of_none h2 ha
/-! no tuple is the pen -/
theorem Pen.tup {p c a : Addr} {H : Hp} {xs : List V} (h : Pen H p c) (ha : H a = some (.tup xs)) : a ≠ p := let ⟨_, _, _, h1, _⟩ := h; ne_of ha h1 (fun e => nomatch e)
theorem Stp.tup {p c a : Addr} {H H' : Hp} {xs : List V} (s : Stp p c H H') (h : Pen H p c) (ha : H a = some (.tup xs)) : H' a = some (.tup xs) := s.2 a _ (h.tup ha) ha
/-! an object that was not there ahead may come and change -/
theorem Stp.mut {p c a : Addr} {H H1 : Hp} {o : HO} (s : Stp p c H H1) (hp : Pen H p c) (ha : H a = none) : Stp p c H (upd H1 a o) := by
  obtain ⟨cs, n, st, h1, h2, h3, h4⟩ := s.1
  exact ⟨⟨cs, n, st, by rw [upd_ne (hp.neP ha)]; exact h1, by rw [upd_ne (hp.neC ha)]; exact h2, h3, h4⟩, fun b u nb e => by rw [upd_ne (ne_of_none e ha)]; exact s.2 b u nb e⟩
theorem Stp.back {p c a : Addr} {H H1 : Hp} (s : Stp p c H H1) (hp : Pen H p c) (ha : H1 a = none) : H a = none := by
  cases e : H a with
  | none => rfl
  | some o =>
    by_cases hb : a = p
    · subst hb
      obtain ⟨cs, n, st, h1, _⟩ := s.1
      rw [h1] at ha
      cases ha
    · rw [s.2 a o hb e] at ha
      cases ha
/-! a further new object -/
theorem Stp.new {p c a : Addr} {H H1 : Hp} {o : HO} (s : Stp p c H H1) (hp : Pen H p c) (ha : H1 a = none) : Stp p c H (upd H1 a o) := s.mut hp (s.back hp ha)
theorem yes_if {A B : Hp → Prop} {σ : L2.St} {H : Hp} (h : A H) : tYes σ H (fun b H3 => if b = true then A H3 else B H3) := by
  show (if true = true then A H else B H)
  exact iteT h
theorem at_any {A : Type} {xs : List A} {z : Int} {j : Nat} {v : A} (e : z = (j : Int)) (h : xs[j]? = some v) : atI xs z = some v := by
  rw [e]
  exact atI_nat h
theorem same_upd {H : Hp} {p : Addr} {o : HO} (h : H p = none) : Same H (upd H p o) := fun b x e => by
  rw [upd_ne (ne_of_none e h)]
  exact e
theorem same_mut {H H1 : Hp} {p : Addr} {o : HO} (s : Same H H1) (h : H p = none) : Same H (upd H1 p o) := fun b x e => by
  rw [upd_ne (ne_of_none e h)]
  exact s b x e
theorem cut_to (xs : List V) (n : Nat) : cutV xs none (some (n : Int)) = xs.take n := by
  unfold cutV
  rw [HT.sIx_none, HT.sIx_nat, List.drop_zero, Nat.sub_zero]
  by_cases h : n ≤ xs.length
  · rw [Nat.min_eq_left h]
  · rw [Nat.min_eq_right (by omega), List.take_length, List.take_of_length_le (by omega)]
theorem cut_mid (xs : List V) (m n : Nat) : cutV xs (some (m : Int)) (some (n : Int)) = (xs.drop (min m xs.length)).take (min n xs.length - min m xs.length) := by
  unfold cutV
  rw [HT.sIx_nat, HT.sIx_nat]
/-! ### max, min with default= of a list of ints -/
namespace Gr
open PySem PySem.Spec PyProof.Rows L2
theorem reads_ints {h : Heap} : ∀ {ns : List Int} {us : List Value}, Vals (ns.map V.int) us → ReadsAll h us (ns.map PyData.int) []
  | [], _, .nil => .nil
  | n :: ns, _ :: us, .cons r rs => by
    obtain ⟨t, rfl⟩ := r
    exact ReadsAll.cons (as := []) (.int n t) (reads_ints rs)
theorem alike_ints (ns : List Int) : PySem.W.AlikeAll (ns.map PyData.int) := by
  refine ⟨fun x hx y hy => ?_, fun x hx => ?_⟩
  · obtain ⟨a, _, rfl⟩ := List.mem_map.mp hx
    obtain ⟨b, _, rfl⟩ := List.mem_map.mp hy
    rfl
  · obtain ⟨a, _, rfl⟩ := List.mem_map.mp hx
    exact fun z => nomatch z
theorem depth_ints : ∀ ns : List Int, PyData.depthAll (ns.map PyData.int) = 0
  | [] => rfl
  | n :: ns => by
    show max (PyData.int n).depth (PyData.depthAll (ns.map PyData.int)) = 0
    rw [depth_ints ns]
    rfl
theorem fold_max : ∀ (ns : List Int) (n : Int), (ns.foldl max n = n ∨ ns.foldl max n ∈ ns) ∧ n ≤ ns.foldl max n ∧ ∀ y ∈ ns, y ≤ ns.foldl max n
  | [], n => ⟨.inl rfl, Int.le_refl _, fun _ m => nomatch m⟩
  | k :: ns, n => by
    obtain ⟨h1, h2, h3⟩ := fold_max ns (max n k)
    rw [List.foldl_cons]
    refine ⟨?_, by omega, fun y m => ?_⟩
    · rcases h1 with h1 | h1
      · rw [h1]
        by_cases e : n ≤ k
        · exact .inr (by rw [Int.max_eq_right e]; exact List.mem_cons_self)
        · exact .inl (Int.max_eq_left (by omega))
      · exact .inr (List.mem_cons_of_mem _ h1)
    · rcases List.mem_cons.mp m with rfl | m
      · omega
      · exact h3 y m
theorem fold_min : ∀ (ns : List Int) (n : Int), (ns.foldl min n = n ∨ ns.foldl min n ∈ ns) ∧ ns.foldl min n ≤ n ∧ ∀ y ∈ ns, ns.foldl min n ≤ y
  | [], n => ⟨.inl rfl, Int.le_refl _, fun _ m => nomatch m⟩
  | k :: ns, n => by
    obtain ⟨h1, h2, h3⟩ := fold_min ns (min n k)
    rw [List.foldl_cons]
    refine ⟨?_, by omega, fun y m => ?_⟩
    · rcases h1 with h1 | h1
      · rw [h1]
        by_cases e : n ≤ k
        · exact .inl (Int.min_eq_left e)
        · exact .inr (by rw [Int.min_eq_right (by omega)]; exact List.mem_cons_self)
      · exact .inr (List.mem_cons_of_mem _ h1)
    · rcases List.mem_cons.mp m with rfl | m
      · omega
      · exact h3 y m
/-! the greatest of ns, or d where there is none -/
def Best (le : Int → Int → Prop) (ns : List Int) (d v : V) : Prop := (ns = [] ∧ v = d) ∨ ∃ m, m ∈ ns ∧ (∀ y ∈ ns, le y m) ∧ v = .int m
def rBest (le : Int → Int → Prop) (K : PySem.W.Frag) : List V → List V → Hp → VK → Prop := fun vs zs H Q => ∃ (a : Addr) (ns : List Int) (d : V), vs = [V.ref a] ∧ zs = [d] ∧ SqL K H a (ns.map V.int) ∧ ∀ v, Best le ns d v → Q v H
section
variable {X : Cx}
theorem cr_maxDf (hc : X.calm = true) (hu : X.A.units + 1 < cLine) : CallRK X (.builtin "max") [Str.ofString "default"] (rBest (fun y m => y ≤ m) X.K) := by
  intro pins s σ H xs zs us ws Q I r1 r2 h
  obtain ⟨a, ns, d, rfl, rfl, hs, q⟩ := h
  obtain ⟨its, rv, hl, _⟩ := I.list hs
  rw [Vals.ref1 r1]
  obtain ⟨u, rfl, ru⟩ := vals1 r2
  show wpAny _ _ (call (.builtin "max") [.ref a] [(Str.ofString "default", u)]) _ _ s
  refine PySem.W.max_list_default (xs := ns.map PyData.int) (as := []) (I.ok.hd hc) hl.isList (by simpa using reads_ints rv) (alike_ints ns) (by rw [depth_ints]; exact hu) (fun e h' tk kp => ?_) (fun y ys i v h' tk bs e hv hr kp => ?_)
  · exact ⟨d, H, I.kept kp, ru, q d (.inl ⟨List.map_eq_nil_iff.mp e, rfl⟩)⟩
  · cases ns with
    | nil => exact nomatch e
    | cons n ns =>
      rw [List.map_cons] at e
      injection e with e1 e2
      subst e1
      subst e2
      rw [PySem.W.maxD_ints] at hr
      cases hr with
      | int _ t =>
        obtain ⟨h1, h2, h3⟩ := fold_max ns n
        refine ⟨.int _, H, I.kept kp, ⟨t, rfl⟩, q _ (.inr ⟨_, ?_, fun y m => ?_, rfl⟩)⟩
        · rcases h1 with h1 | h1
          · rw [h1]
            exact List.mem_cons_self
          · exact List.mem_cons_of_mem _ h1
        · rcases List.mem_cons.mp m with rfl | m
          · exact h2
          · exact h3 y m
theorem cr_minDf (hc : X.calm = true) (hu : X.A.units + 1 < cLine) : CallRK X (.builtin "min") [Str.ofString "default"] (rBest (fun y m => m ≤ y) X.K) := by
  intro pins s σ H xs zs us ws Q I r1 r2 h
  obtain ⟨a, ns, d, rfl, rfl, hs, q⟩ := h
  obtain ⟨its, rv, hl, _⟩ := I.list hs
  rw [Vals.ref1 r1]
  obtain ⟨u, rfl, ru⟩ := vals1 r2
  show wpAny _ _ (call (.builtin "min") [.ref a] [(Str.ofString "default", u)]) _ _ s
  refine PySem.W.min_list_default (xs := ns.map PyData.int) (as := []) (I.ok.hd hc) hl.isList (by simpa using reads_ints rv) (alike_ints ns) (by rw [depth_ints]; exact hu) (fun e h' tk kp => ?_) (fun y ys i v h' tk bs e hv hr kp => ?_)
  · exact ⟨d, H, I.kept kp, ru, q d (.inl ⟨List.map_eq_nil_iff.mp e, rfl⟩)⟩
  · cases ns with
    | nil => exact nomatch e
    | cons n ns =>
      rw [List.map_cons] at e
      injection e with e1 e2
      subst e1
      subst e2
      rw [PySem.W.minD_ints] at hr
      cases hr with
      | int _ t =>
        obtain ⟨h1, h2, h3⟩ := fold_min ns n
        refine ⟨.int _, H, I.kept kp, ⟨t, rfl⟩, q _ (.inr ⟨_, ?_, fun y m => ?_, rfl⟩)⟩
        · rcases h1 with h1 | h1
          · rw [h1]
            exact List.mem_cons_self
          · exact List.mem_cons_of_mem _ h1
        · rcases List.mem_cons.mp m with rfl | m
          · exact h2
          · exact h3 y m
end
/-! ### dict comprehensions, keys of any tracked kind -/
section
variable {X : Cx} {pins : List (Addr × Obj)} {σ : L2.St} {H : Hp} {s : Shared}
theorem put_dict {H' : Hp} {E : Value → Shared → Prop} {D : Addr} {y v : V} {u r : Value} {A : Around} {Q : Unit → Shared → Prop} (hu : A.units + 1 < cLine) (I : Inv X pins σ H s) (g : DPut H D y v H') (ry : RelV y u) (rv : RelV v r) (h : ∀ s', Inv X pins σ H' s' → Q () s') :
    wpAny (model X.prog X.w) A (dictSet D u r) Q E s := by
  rcases g with ⟨kvs, k, e, ey, lt, eH⟩ | ⟨kvs, k, b, e, ey, eb, lt, eH⟩
  · subst ey eH
    obtain ⟨z, nd, vs, rel, dd⟩ := dk_of I.hok e
    have z1 : vs.length ≤ sizeLine := by rw [← rel.length]; exact z
    have z2 : (putK kvs k v).length ≤ sizeLine := by have := length_putK kvs k v; omega
    refine wpAny_dictSet_pairs (hsz := z1) (kV_is ry) dd fun g1 dd1 sb => h _ ?_
    have there : ∃ q, g1.get? D = some q := let ⟨q, _, _, hq, _⟩ := dd1; ⟨q, hq⟩
    exact d_write I (by rw [e]; exact True.intro) sb there (dk_new z2 nd (rel.put k rv) dd1)
  · subst ey eH
    cases (show u = Value.ref b from ry)
    obtain ⟨z, nd, xs, rel, dd⟩ := dt_of I.hok e
    have z1 : xs.length ≤ sizeLine := by rw [← Paired.length rel]; exact z
    have z2 : (putK kvs k v).length ≤ sizeLine := by have := length_putK kvs k v; omega
    refine wpAny_dictSet_heap (hsz := z1) (show (tupleKind (mixKind X.prog X.w)).room A from Nat.lt_of_succ_lt hu) (key_of I.hok eb) dd fun g1 dd1 sb => h _ ?_
    obtain ⟨q, es, ep, hq, k2, k3, k4, _, k5⟩ := dd1
    refine d_write I (by rw [e]; exact True.intro) sb ⟨q, hq⟩ ⟨z2, nd, _, (rel.put k eb rv).keeps fun c ys ec => ?_, q, es, ep, hq, k2, k3, k4, k5⟩
    rw [upd_ne (ne_of ec e (fun z => nomatch z))]
    exact ec
end
/-! which empty dict the new one is: keys ints and texts, or tuples -/
def emptyD (t : Bool) : HO := if t then .dT [] else .dK []
theorem emptyD_ok {P : Program} {w : World} {H : Hp} (t : Bool) (h : Heap) (hb : sysModules < h.objs.size) : ObjOk P w H (h.push { cls := .type "dict", data := .dict #[] }) h.objs.size (emptyD t) := by
  cases t
  · exact dk_empty h hb
  · exact dt_empty h hb
section
variable {X : Cx}
def tDcd (t : Bool) (wi : TI) (g : TG) (tt : TT) (tk tv : TE) (own : List Nat) : TE := fun σ H Q => wi σ H fun J H1 => ∀ D, H1 D = none → ∃ W : Nat → Nat → Hp → Prop, (∃ m, W 0 m (upd H1 D (emptyD t))) ∧ ∀ i m H, W i m H →
  (J.stop i H ∧ Q (.ref D) H) ∨ (J.go i H ∧ ∃ Nx : Hp → Prop, (∀ H', Nx H' → ∃ m', m' < m ∧ W (i + 1) m' H') ∧ ∀ x H', J.yld i H x H' → g x (wipe σ own) H' fun σ2 H2 => wipe σ2 own = wipe σ own ∧ tt σ2 H2 fun b H3 =>
    if b = true then tk σ2 H3 fun y H4 => tv σ2 H4 fun z H5 => ∃ H6, DPut H5 D y z H6 ∧ Nx H6 else Nx H3)
theorem dcd_core {pins : List (Addr × Obj)} {s : Shared} {σ : L2.St} {H : Hp} {Q : VK} {kx vx tg iter : Expr} {ifs : List Expr} {scope : Scope} {own : List (Str × Nat)} {pos pos' : Pos} {t : Bool} {wi : TI} {g : TG} {tt : TT} {tk tv : TE} {use : Option (Value → Sem Unit)} {Qf : Value → Shared → Prop}
    (hu : X.A.units + 1 < cLine) (hc : X.calm = true) (hN : X.N.Nodup) (I : Inv X pins σ H s) (hi : PI X tg iter wi) (ok : BlkOk X.N X.env.scope scope own)
    (hg : ∀ (s : Shared) (H : Hp) (C : Addr) (cl : List (Str × Addr)) (fp : List Addr), PG (X.blk s H scope (compEnvC scope cl C X.env) fp) tg g) (ht : ∀ (s : Shared) (H : Hp) (C : Addr) (cl : List (Str × Addr)) (fp : List Addr), PTs (X.blk s H scope (compEnvC scope cl C X.env) fp) ifs tt)
    (hky : ∀ (s : Shared) (H : Hp) (C : Addr) (cl : List (Str × Addr)) (fp : List Addr), PE (X.blk s H scope (compEnvC scope cl C X.env) fp) kx tk)
    (hvl : ∀ (s : Shared) (H : Hp) (C : Addr) (cl : List (Str × Addr)) (fp : List Addr), PE (X.blk s H scope (compEnvC scope cl C X.env) fp) vx tv) (hs : ∀ x, foldedSetIterable iter X.env x = pure x)
    (h : tDcd t wi g tt tk tv (own.map (·.2)) σ H Q)
    (fini : ∀ D C s' m H', Inv X pins σ H' s' → Q (.ref D) H' → s'.heap.Ns C m → FpOk X pins H' C → compPost (model X.prog X.w) X.A X.xe use Qf (.ref D) C (.ok .next) s') :
    wpAny (model X.prog X.w) X.A (comprehension (.DictComp kx vx [⟨tg, iter, ifs, 0⟩] scope pos) scope X.env pos' newDict false (eval iter X.env) use) Qf X.xe s := by
  have frees : ∀ y ∈ scope.names, y.2 = .free → ∃ c, X.env.cells.lookup y.1 = some c := fun y hy e => by
    rcases ok.free y hy e with k | k
    · exact I.ok.has _ (.inl k)
    · exact I.ok.has _ (.inr k)
  refine wpAny_comprehension_free (use := use) rfl hs (closure_ok frees) ok.kind (fun y hy e => by rw [ok.uniq y hy, e])
    (thn (hi.run pins s σ H _ I h) fun xv t1 hx => thn hx fun itv t2 h2 => ?_)
  obtain ⟨it, fp, tn, J, H2, e, I2, T, st2, f2, q⟩ := h2
  subst e
  refine wpAny_newObj_type (newEnv_comp ?_)
  generalize hD : t2.heap.objs.size = D
  have nD : H2 D = none := I2.hok.fresh (Nat.le_of_eq hD)
  obtain ⟨W, ⟨m0, w0⟩, turn⟩ := q D nD
  generalize ht3 : ({ t2 with heap := t2.heap.push { cls := .type "dict", data := .dict #[] } } : Shared) = t3
  have I3 : Inv X pins σ (upd H2 D (emptyD t)) t3 := by
    rw [← ht3]
    refine I2.laid (t' := t2.toks) (fun b o e => Heap.get?_push_of_some _ e) (Nat.le_of_eq hD) ?_
    rw [← hD]
    exact emptyD_ok t t2.heap I2.big
  have h3 : t3.heap = t2.heap.push { cls := .type "dict", data := .dict #[] } := by rw [← ht3]
  have lower : ∀ b ∈ fp, b < t2.heap.objs.size := fun b hb => by
    obtain ⟨o, e, _⟩ := T.obj _ _ st2 b hb
    exact Heap.lt_size e
  have f3 : ∀ b ∈ fp, FpOk X pins (upd H2 D (emptyD t)) b ∧ b < t3.heap.objs.size := fun b hb => by
    have hlt := lower b hb
    refine ⟨⟨?_, (f2 b hb).2⟩, by rw [h3, Heap.size_push]; exact Nat.lt_succ_of_lt hlt⟩
    rw [upd_ne (by rw [← hD]; exact Nat.ne_of_lt hlt)]
    exact (f2 b hb).1
  have st3 : tn 0 t3.heap := T.keep _ _ _ st2 fun b _ o e => by rw [h3]; exact Heap.get?_push_of_some _ e
  have I4 := block_start I3 ok hN f3
  have pg := hg t3 (upd H2 D (emptyD t)) t3.heap.objs.size (cellsFrom (t3.heap.objs.size + 1) scope.names (cloFrom X.env.cells scope.names [])) fp
  have pt := ht t3 (upd H2 D (emptyD t)) t3.heap.objs.size (cellsFrom (t3.heap.objs.size + 1) scope.names (cloFrom X.env.cells scope.names [])) fp
  have pk := hky t3 (upd H2 D (emptyD t)) t3.heap.objs.size (cellsFrom (t3.heap.objs.size + 1) scope.names (cloFrom X.env.cells scope.names [])) fp
  have pe := hvl t3 (upd H2 D (emptyD t)) t3.heap.objs.size (cellsFrom (t3.heap.objs.size + 1) scope.names (cloFrom X.env.cells scope.names [])) fp
  show codeAny _ _ (.compStart (.DictComp kx vx [⟨tg, iter, ifs, 0⟩] scope pos) 0 (.ref it) (.ref D) (compEnvC scope (cellsFrom (t3.heap.objs.size + 1) scope.names (cloFrom X.env.cells scope.names [])) t3.heap.objs.size X.env)) (compPost (model X.prog X.w) X.A X.xe use Qf (.ref D) t3.heap.objs.size) { t3 with heap := pushCells (t3.heap.push { cls := .type "dict", data := .dict #[] }) scope.names }
  have nfp : ∀ b ∈ fp, (upd H2 D (emptyD t)) b = none := fun b hb => (f3 b hb).1.1
  generalize hce : compEnvC scope (cellsFrom (t3.heap.objs.size + 1) scope.names (cloFrom X.env.cells scope.names [])) t3.heap.objs.size X.env = ce at I4 pg pt pk pe ⊢
  have cL : ce.locals = t3.heap.objs.size := by subst hce; rfl
  generalize hH3 : upd H2 D (emptyD t) = H3 at I3 I4 pg pt pk pe w0 nfp f3
  generalize ht4 : ({ t3 with heap := pushCells (t3.heap.push { cls := .type "dict", data := .dict #[] }) scope.names } : Shared) = t4 at I4 ⊢
  have st4 : tn 0 t4.heap := T.keep _ _ _ st3 fun b _ o e => by rw [← ht4]; exact pushCells_keeps _ _ _ _ (Heap.get?_push_of_some _ e)
  have stat : ∀ {σ' : L2.St} {H' : Hp} {s' : Shared}, Inv (X.blk t3 H3 scope ce fp) [] σ' H' s' → (∀ b ∈ fp, H' b = none) → ∀ b ∈ fp, FpOk (X.blk t3 H3 scope ce fp) [] H' b := fun {σ' H' s'} I' hn b hb =>
    ⟨hn b hb, (I'.ok.exf b hb).1, I'.ok.exfs b hb, .inl hb, fun x c e => (I'.ok.exf b hb).2 x c e, fun p hp => absurd (show p ∈ ([] : List (Addr × Obj)) ++ [] from hp) (by simp)⟩
  have loop : codeAny (model X.prog X.w) X.A (.compLoop (.DictComp kx vx [⟨tg, iter, ifs, 0⟩] scope pos) 0 (.ref it) (.ref D) ce) (compPost (model X.prog X.w) X.A X.xe use Qf (.ref D) t3.heap.objs.size) t4 := by
    refine compLoop_anyD (fun n s' => ∃ i H', Inv (X.blk t3 H3 scope ce fp) [] (wipe σ (own.map (·.2))) H' s' ∧ tn i s'.heap ∧ (∀ b ∈ fp, H' b = none) ∧ W i n H') ?_ m0 ⟨0, H3, I4, st4, nfp, w0⟩
    rintro n t5 ⟨i, H5, I5, st5, n5, w5⟩
    rcases turn i n H5 w5 with ⟨stop, qq⟩ | ⟨go, Nx, hNx, step⟩
    · have td := T.done (X.blk t3 H3 scope ce fp) rfl rfl rfl hc i [] t5 _ H5 (fun _ _ => False) I5 (stat I5 n5) st5 stop
      refine thnF td fun r t6 ⟨hr, I6⟩ => ?_
      subst hr
      have I7 : Inv X pins σ H5 t6 := I3.call' (ch := fp) I6.os I6.base I6.hok I6.bare fun b hb => ⟨(f3 b hb).1.2.2.2.1, (f3 b hb).1.2.1, (f3 b hb).1.2.2.2.2.1, (f3 b hb).1.2.2.2.2.2⟩
      have nC : H5 t3.heap.objs.size = none := by
        have z : H5 ce.locals = none := I6.free
        rw [cL] at z
        exact z
      obtain ⟨m, hn, _⟩ := I6.loc
      have hn : t6.heap.Ns ce.locals m := hn
      rw [cL] at hn
      exact fini D t3.heap.objs.size t6 m H5 I7 qq hn (I3.fpOk (Nat.le_refl _) nC)
    · have ti := T.item (X.blk t3 H3 scope ce fp) rfl rfl rfl hc i [] t5 _ H5 (fun _ _ => False) I5 (stat I5 n5) st5 go
      refine thnF ti fun r t6 ⟨u, hr, h6⟩ => ?_
      subst hr
      refine thnF h6 fun _ t7 ⟨x, H7, I7, r7, y7, st7, n7⟩ => ?_
      have J7 := I7.pinned (stat I7 n7) (T.obj _ _ st7)
      refine thnF (pg.run _ t7 _ H7 x u _ J7 r7 (step x H7 y7)) fun _ t8 ⟨σ8, H8, I8, hw8, q8⟩ => ?_
      refine thnF (pt.run _ t8 σ8 H8 _ I8 q8) fun b t9 ⟨H9, I9, q9⟩ => ?_
      have last : ∀ {s' : Shared} {H' : Hp}, Inv (X.blk t3 H3 scope ce fp) ([] ++ pinsAt fp t7.heap) σ8 H' s' → Nx H' → ∃ m, m < n ∧ ∃ i H', Inv (X.blk t3 H3 scope ce fp) [] (wipe σ (own.map (·.2))) H' s' ∧ tn i s'.heap ∧ (∀ b ∈ fp, H' b = none) ∧ W i m H' := fun {s' H'} I' nx => by
        obtain ⟨m', hm, w'⟩ := hNx H' nx
        have pin' : ∀ b ∈ fp, ∀ o, t7.heap.get? b = some o → s'.heap.get? b = some o ∧ H' b = none := fun b hb o e =>
          let z := I'.pin (b, o) (List.mem_append_right _ (List.mem_append_right _ (mem_pinsAt hb e)))
          ⟨z.1, z.2.1⟩
        have hl : (wipe σ (own.map (·.2))).length = σ8.length := by rw [← hw8, wipe_length]
        refine ⟨m', hm, i + 1, H', (I'.unpinned (pins := [])).weak hl (fun j v e => ?_), T.keep _ _ _ st7 fun b hb o e => (pin' b hb o e).1, fun b hb => ?_, w'⟩
        · rw [← hw8] at e
          exact (wipe_some e).1
        · obtain ⟨o, e, _⟩ := T.obj _ _ st7 b hb
          exact (pin' b hb o e).2
      cases b with
      | false =>
        simp only [Bool.false_eq_true, if_false] at q9 ⊢
        exact last I9 q9
      | true =>
        simp only [if_true] at q9 ⊢
        refine thnF (pk.run _ t9 σ8 H9 _ I9 q9) fun z t10 ⟨yk, H10, I10, r10, q10⟩ => ?_
        refine thnF (pe.run _ t10 σ8 H10 _ I10 q10) fun z2 t11 ⟨yv, H11, I11, r11, H12, put, nx⟩ => ?_
        exact put_dict (X := X.blk t3 H3 scope ce fp) hu I11 put r10 r11 fun t12 I12 => last I12 nx
  exact codeAny_compStart_dict loop (T.self X.A 0 _ _ _ st4 loop)
theorem pe_dcd {kx vx tg iter : Expr} {ifs : List Expr} {scope : Scope} {own : List (Str × Nat)} {pos : Pos} (t : Bool) {wi : TI} {g : TG} {tt : TT} {tk tv : TE} (hu : X.A.units + 1 < cLine) (hc : X.calm = true) (hN : X.N.Nodup) (hi : PI X tg iter wi) (ok : BlkOk X.N X.env.scope scope own)
    (hg : ∀ (s : Shared) (H : Hp) (C : Addr) (cl : List (Str × Addr)) (fp : List Addr), PG (X.blk s H scope (compEnvC scope cl C X.env) fp) tg g) (ht : ∀ (s : Shared) (H : Hp) (C : Addr) (cl : List (Str × Addr)) (fp : List Addr), PTs (X.blk s H scope (compEnvC scope cl C X.env) fp) ifs tt)
    (hky : ∀ (s : Shared) (H : Hp) (C : Addr) (cl : List (Str × Addr)) (fp : List Addr), PE (X.blk s H scope (compEnvC scope cl C X.env) fp) kx tk)
    (hvl : ∀ (s : Shared) (H : Hp) (C : Addr) (cl : List (Str × Addr)) (fp : List Addr), PE (X.blk s H scope (compEnvC scope cl C X.env) fp) vx tv) (hs : ∀ x, foldedSetIterable iter X.env x = pure x := by intro _; rfl) :
    PE X (.DictComp kx vx [⟨tg, iter, ifs, 0⟩] scope pos) (tDcd t wi g tt tk tv (own.map (·.2))) := by
  refine ⟨fun pins s σ H Q I h => ?_⟩
  rw [arm_eval_DictComp]
  refine dcd_core hu hc hN I hi ok hg ht hky hvl hs h fun D C s' m H' I' q hn f => ⟨m, hn, fun h'' sb => ?_⟩
  obtain ⟨f0, f1, f2, f3, f4, f5⟩ := f
  exact ⟨.ref D, H', I'.turned (t' := s'.toks) (fun b o hb e => (sb.2 b hb).trans e) f0 f1 f3 f4 f5, rfl, q⟩
end
/-! ### for v in d.values(), d of tuple keys, locked -/
def Itdt (d : Addr) (o : Obj) (kvs : List (List Key × V)) : It :=
  ⟨fun i H => H d = some (.frz o (.dT kvs)) ∧ i < kvs.length, fun i H x H' => H' = H ∧ ∃ k, kvs[i]? = some (k, x), fun i H => H d = some (.frz o (.dT kvs)) ∧ kvs.length ≤ i⟩
theorem frz_vals {X : Cx} {pins : List (Addr × Obj)} {σ : L2.St} {H : Hp} {s : Shared} {d : Addr} {o : Obj} {kvs : List (List Key × V)} (I : Inv X pins σ H s) (h : H d = some (.frz o (.dT kvs))) :
    (d == sysModules) = false ∧ s.heap.get? d = some o ∧ o.ExactDict ∧ ∃ (es : Array DictEntry) (ep : Nat), o.data = .dict es ep ∧ es.size = kvs.length ∧
      ∀ (i : Nat) (k : List Key) (v : V), kvs[i]? = some (k, v) → ∃ en : DictEntry, es[i]? = some en ∧ RelV v en.val := by
  obtain ⟨hd, z, hs, xs, pr, o', es, ep, ho, hx, hdt, he, _⟩ := I.hok d _ h
  rw [hd] at ho
  cases ho
  refine ⟨hs, hd, hx, es, ep, hdt, ?_, fun i k v e => ?_⟩
  · have l1 : es.size = xs.length := size_of_entries he
    have l2 : kvs.length = xs.length := Paired.length pr
    omega
  · obtain ⟨b, hb, e1, e2, e3⟩ := paired_get pr e
    have q := entry_at he i
    rw [hb] at q
    exact ⟨_, q, e3⟩
section
variable {P : Program} {w : World} {K : PySem.W.Frag} {tg : Expr} {d : Addr} {o : Obj} {es : Array DictEntry} {ep : Nat}
theorem turn_valsT {kvs : List (List Key × V)} (it : Addr) (hod : o.data = .dict es ep) (hz : es.size = kvs.length) : Turn P w K tg (Itdt d o kvs) [it] it (fun i h => h.IsValIter it d i es.size ep) where
  mem := by simp
  obj := fun i h st b hb => by
    have e : b = it := by simpa using hb
    subst e
    obtain ⟨oi, e, cc, dd⟩ := st
    exact ⟨oi, e, fun v z => by rw [dd] at z; cases z⟩
  keep := fun i h h' st kk => st.at fun oi e => kk it (by simp) oi e
  item := by
    intro X hP hw hK hc i pins s σ H E I hf st hg
    subst hP hw hK
    obtain ⟨hd, hi⟩ := hg
    obtain ⟨f0, f1, f2, f3, f4, f5⟩ := hf it (by simp)
    obtain ⟨hs, hgd, hx, es', ep', hdt, hsz, ent⟩ := frz_vals I hd
    obtain ⟨rfl, rfl⟩ := dict_ep hod hdt
    obtain ⟨⟨k, v⟩, hkv⟩ : ∃ p, kvs[i]? = some p := ⟨kvs[i], List.getElem?_eq_getElem hi⟩
    obtain ⟨en, hen, rv⟩ := ent i k v hkv
    have hlt : i < es'.size := by omega
    have een : es'[i] = en := by
      rw [Array.getElem?_eq_getElem hlt] at hen
      exact Option.some.inj hen
    refine wpAny_pyNext_values_item_raw st ⟨o, hgd, hx, hdt⟩ hlt fun g1 st1 sb => ?_
    have I1 : Inv X pins σ H { s with heap := g1 } := I.turned (t' := s.toks) (fun b ob hb e => (sb.2 b hb).trans e) f0 f1 f3 f4 f5
    obtain ⟨oi, e, cc, dd⟩ := id st1
    refine ⟨es'[i].val, rfl, go_of (s := { s with heap := g1 }) e cc dd (by decide) ⟨v, H, I1, ?_, ⟨rfl, k, hkv⟩, st1, fun b hb => (hf b hb).1⟩⟩
    rw [een]
    exact rv
  done := by
    intro X hP hw hK hc i pins s σ H E I hf st hg
    subst hP hw hK
    obtain ⟨hd, hi⟩ := hg
    obtain ⟨f0, f1, f2, f3, f4, f5⟩ := hf it (by simp)
    obtain ⟨hs, hgd, hx, es', ep', hdt, hsz, ent⟩ := frz_vals I hd
    obtain ⟨rfl, rfl⟩ := dict_ep hod hdt
    exact wpAny_pyNext_values_end_raw (I.ok.hd hc) st ⟨o, hgd, hx, hdt⟩ (by omega) fun g1 eb => ⟨rfl, I.turned (t' := s.toks) (fun b ob hb e => eb b ob hb e) f0 f1 f3 f4 f5⟩
  self := fun A i s Q E st h => wpAny_pyIter_valiter st h
theorem walk_valuesT {kvs : List (List Key × V)} : Walk (Itdt d o kvs) kvs.length (fun H => H d = some (.frz o (.dT kvs))) (fun i H x H' => H' = H ∧ ∃ k, kvs[i]? = some (k, x)) :=
  ⟨fun i H hi g => ⟨g, hi⟩, fun H g => ⟨g, Nat.le_refl _⟩, fun i H x H' hi g y => y⟩
end
theorem dcd_it {J : It} {n : Nat} {G : Hp → Prop} {Y : Nat → Hp → V → Hp → Prop} (w : Walk J n G Y) {t : Bool} {g : TG} {tt : TT} {tk tv : TE} {own : List Nat} {σ : L2.St} {H1 : Hp} {D : Addr} {Qd : Hp → Prop} (Pv : Nat → Hp → Prop) (h0 : Pv 0 (upd H1 D (emptyD t))) (hG : ∀ i H, i ≤ n → Pv i H → G H)
    (hs : ∀ i x H H', i < n → Pv i H → Y i H x H' → g x (wipe σ own) H' fun σ2 H2 => wipe σ2 own = wipe σ own ∧ tt σ2 H2 fun b H3 =>
      if b = true then tk σ2 H3 fun y H4 => tv σ2 H4 fun z H5 => ∃ H6, DPut H5 D y z H6 ∧ Pv (i + 1) H6 else Pv (i + 1) H3) (hd : ∀ H, Pv n H → Qd H) :
    ∃ W : Nat → Nat → Hp → Prop, (∃ m, W 0 m (upd H1 D (emptyD t))) ∧ ∀ i m H, W i m H →
      (J.stop i H ∧ Qd H) ∨ (J.go i H ∧ ∃ Nx : Hp → Prop, (∀ H', Nx H' → ∃ m', m' < m ∧ W (i + 1) m' H') ∧ ∀ x H', J.yld i H x H' → g x (wipe σ own) H' fun σ2 H2 => wipe σ2 own = wipe σ own ∧ tt σ2 H2 fun b H3 =>
        if b = true then tk σ2 H3 fun y H4 => tv σ2 H4 fun z H5 => ∃ H6, DPut H5 D y z H6 ∧ Nx H6 else Nx H3) := by
  refine ⟨fun i m H => m = n - i ∧ i ≤ n ∧ Pv i H, ⟨n, by simp, Nat.zero_le _, h0⟩, ?_⟩
  rintro i m G1 ⟨rfl, hi, p⟩
  have gg := hG i G1 hi p
  by_cases hlt : i < n
  · exact .inr ⟨w.goes i G1 hlt gg, Pv (i + 1), fun G2 p2 => ⟨n - (i + 1), by omega, rfl, hlt, p2⟩, fun x G2 y => hs i x G1 G2 hlt p (w.yields i G1 x G2 hlt gg y)⟩
  · have e : i = n := by omega
    subst e
    exact .inl ⟨w.stops G1 gg, hd G1 p⟩
def iValsT (td : TE) : TI := fun σ H R => td σ H fun x H1 => ∃ d o kvs, x = .ref d ∧ H1 d = some (.frz o (.dT kvs)) ∧ R (Itdt d o kvs) H1
theorem pi_valuesT {X : Cx} {tg e : Expr} {td : TE} {apos cpos : Pos} (he : PE X e td) (hbase : attributeBase e "values" X.env (eval e X.env) = eval e X.env := by rfl) (hline : (apos.endLine == cpos.line) = true := by rfl) : PI X tg (.Call (.Attribute e "values" apos) [] [] cpos) (iValsT td) := by
  refine ⟨fun pins s σ H R I h => ?_⟩
  refine wpAny_Call_method (T := "dict") (id := "dict.values") hbase rfl hline F.plainAttrs_dict F.slot_dict_values F.type_dict_values (thn (he.run pins s σ H _ I h) fun u t1 ⟨x, H1, I1, rx, d, o, kvs, ex, hd, q⟩ => ?_)
  subst ex
  obtain rfl : u = Value.ref d := rx
  obtain ⟨hs, hgd, hx, es, ep, hdt, hsz, ent⟩ := frz_vals I1 hd
  have raw : t1.heap.DictRaw d es ep := ⟨o, hgd, hx, hdt⟩
  refine ⟨raw.typeIs, ?_, ?_⟩
  · exact fun b eb => by cases eb; exact ⟨o, hgd, hx.2.1⟩
  have I2 : Inv X pins σ H1 { t1 with heap := t1.heap.push { cls := .type "dict_values", data := .fields #[.ref d] } } := I1.kept (t' := t1.toks) fun b ob q => Heap.get?_push_of_some _ q
  have fin : wpAny (model X.prog X.w) X.A (pyIter (.ref t1.heap.objs.size)) (PIE X pins σ tg R) X.xe { t1 with heap := t1.heap.push { cls := .type "dict_values", data := .fields #[.ref d] } } := by
    refine wpAny_pyIter_values_raw (d := d) ⟨_, Heap.get?_push_size _ rfl, rfl, rfl⟩ (raw.at fun ob e => Heap.get?_push_of_some _ e) (pi_one (tk := t1.toks) I2 _ (turn_valsT _ hdt hsz) ⟨_, Heap.get?_push_size _ rfl, rfl, ?_⟩ q)
    rfl
  show wpAny _ _ (callWith cpos (.builtin "dict.values") [.ref d] [] []) _ X.xe t1
  exact method_meetsIn F.slot_dict_values F.entry_dict_values rfl (PySem.evalArgs_none ⟨rfl, raw.typeIs, F.args_dict_values_1 _, _, meets_dict_values_raw d hs, ⟨es, ep, raw⟩, fin⟩)
end Gr
/-! ### any(..), all(..) of a generator expression: its element may call defs, read globals and captured names -/
namespace Gx
open PySem PySem.Spec PyProof.Rows L2 GxR GenW
/-! the context of the generator's own frame -/
abbrev gcx (X : Cx) (A' : Around) (s : Shared) (H : Hp) (genv : Env) (fp : List Addr) : Cx :=
  { X with A := A', s_0 := s, H_0 := H, env := genv, outer := X.stack, stack := genv :: X.stack, ex := fp, fn := fun _ => false, calm := true, pn := [], xe := fun _ _ => False }
/-! while it sleeps all objects are kept -/
def Sl (s s' : Shared) : Prop := s'.os = s.os ∧ AllBare s'.gens ∧ ∀ b o, s.heap.get? b = some o → s'.heap.get? b = some o
section
variable {X : Cx} {pins : List (Addr × Obj)} {σ : L2.St} {H : Hp} {s : Shared}
theorem slept {s' : Shared} (I : Inv X pins σ H s) (z : Sl s s') : Inv X pins σ H s' :=
  I.call' (ch := []) z.1 (Un.kept z.2.2) (I.hok.kept z.2.2) z.2.1 (fun b hb => absurd hb (by simp))
theorem wiped {vs : List Nat} (I : Inv X pins σ H s) : Inv X pins (wipe σ vs) H s := by
  obtain ⟨m, hn, hl⟩ := I.loc
  exact ⟨I.ok, I.os, I.bare, I.base, ⟨m, hn, fun i x v e1 e2 e3 => hl i x v e1 (wipe_some e2).1 e3⟩, I.cell, I.free, I.freeC, I.pin, I.hok, by rw [wipe_length]; exact I.len⟩
theorem gen_start {scope : Scope} {own : List (Str × Nat)} {fp : List Addr} {A' : Around} {it code : Value} {h' : Heap} {g' : Array GenState} {t' : Nat} (I : Inv X pins σ H s) (ok : BlkOk X.N X.env.scope scope own) (hcell : ∀ y ∈ scope.names, y.2 ≠ .cell) (hN : X.N.Nodup)
    (hfp : ∀ b ∈ fp, FpOk X pins H b ∧ b < s.heap.objs.size) (hA : A'.handled = none) (hF : A'.frames = some (genEnv scope (cloFrom X.env.cells scope.names []) s.heap.objs.size code builtinsNs X.env :: X.stack))
    (hns : h'.Ns s.heap.objs.size (fun y => if y = ".0" then some it else none)) (kp : ∀ b o, s.heap.get? b = some o → h'.get? b = some o) (hg : AllBare g') :
    Inv (gcx X A' s H (genEnv scope (cloFrom X.env.cells scope.names []) s.heap.objs.size code builtinsNs X.env) fp) [] (wipe σ (own.map (·.2))) H { s with heap := h', gens := g', toks := t' } := by
  have hfree : ∀ y ∈ scope.names, y.2 = .free → ∃ c, X.env.cells.lookup y.1 = some c := fun y hy e => (ok.free y hy e).elim (fun k => I.ok.has _ (.inl k)) (fun k => I.ok.has _ (.inr k))
  have cm : ∀ {y c}, (cloFrom X.env.cells scope.names []).lookup y = some c → X.env.cells.lookup y = some c ∧ scope.names.lookup y = some .free ∧ c < s.heap.objs.size := fun {y c} e => by
    rcases cloFrom_mem (PySem.mem_of_lookup e) with hm | ⟨h1, h2⟩
    · cases hm
    · obtain ⟨c', hc'⟩ := hfree _ h1 rfl
      rw [show X.env.cells.lookup y = some c' from hc'] at h2
      have h2 : c = c' := h2
      subst h2
      obtain ⟨w, z⟩ := I.cell _ _ hc'
      exact ⟨hc', ok.uniq _ h1, z.lt⟩
  have look : ∀ {y}, scope.names.lookup y = some .free → ∃ c, (cloFrom X.env.cells scope.names []).lookup y = some c ∧ X.env.cells.lookup y = some c := fun {y} hl => by
    obtain ⟨c', e'⟩ := mem_lookup (cloFrom_has (cells := X.env.cells) (acc := []) (PySem.mem_of_lookup hl))
    exact ⟨c', e', (cm e').1⟩
  have okG : (gcx X A' s H (genEnv scope (cloFrom X.env.cells scope.names []) s.heap.objs.size code builtinsNs X.env) fp).Ok := by
    refine ⟨I.ok.mod, ok.kind, I.ok.glob, rfl, Nat.le_refl _, fun y z c e1 e2 => I.ok.inj y z c (cm e1).1 (cm e2).1, fun y hy => ?_, (fun y c z e => Bool.noConfusion z), fun _ => hA, hF, .inr ⟨rfl, rfl⟩, fun b hb => ⟨Nat.ne_of_lt (hfp b hb).2, fun y c e z => (hfp b hb).1.2.2.2.2.1 y c (cm e).1 z⟩,
      I.bs, Nat.le_trans I.ok.bsz I.sz, fun b o e hb => ?_, fun b hb z => ?_, I.stack, I.stkFree⟩
    · rcases hy with hy | hy
      · exact absurd rfl (hcell _ (PySem.mem_of_lookup (show scope.names.lookup y = some .cell from hy)))
      · obtain ⟨c, h1, _⟩ := look (show scope.names.lookup y = some .free from hy)
        exact ⟨c, h1⟩
    · rcases (hfp b hb).1.2.2.2.1 with z | z
      · exact I.ok.noex b o e z
      · exact Nat.lt_irrefl _ (Nat.lt_of_lt_of_le (Heap.lt_size e) (Nat.le_trans I.ok.bsz z))
    · rcases List.mem_cons.mp (I.stkSub b z) with q | q
      · exact (hfp b hb).1.2.1 q
      · exact (hfp b hb).1.2.2.1 q
  refine ⟨okG, rfl, hg, Un.kept kp, ⟨_, hns, fun i y av e1 e2 e3 => ?_⟩, fun y c e => ?_, I.hok.fresh (Nat.le_refl _), fun y c e => I.freeC y c (cm e).1, fun p hp => absurd (show p ∈ ([] : List (Addr × Obj)) ++ [] from hp) (by simp), I.hok.kept kp, by rw [wipe_length]; exact I.len⟩
  · obtain ⟨e2, hne⟩ := wipe_some e2
    have nol : ∀ k, scope.names.lookup y = some k → ¬ (k = .local ∨ k = .cell) := fun k hk hh => by
      rcases ok.own _ (PySem.mem_of_lookup hk) hh with e' | e'
      · obtain ⟨p, hp, hpy⟩ := List.mem_map.mp e'
        have e4 := ok.ix p hp
        rw [show p.1 = y from hpy] at e4
        exact hne (List.mem_map.mpr ⟨p, hp, nodup_ix hN e4 e1⟩)
      · exact e' (List.mem_of_getElem? e1)
    have hfr : scope.names.lookup y = some .free := by
      have e3 : Vis scope y := e3
      rcases e3 with e3 | e3 | e3
      · exact absurd (.inl rfl) (nol _ e3)
      · exact absurd (.inr rfl) (nol _ e3)
      · exact e3
    obtain ⟨m, hn, hl⟩ := I.loc
    have hk := ok.free _ (PySem.mem_of_lookup hfr) rfl
    obtain ⟨w, r, q⟩ := hl i y av e1 e2 (hk.elim (fun k => .inr (.inl k)) (fun k => .inr (.inr k)))
    obtain ⟨c, h1, h2⟩ := look hfr
    refine ⟨w, r, .inr ⟨.inr hfr, c, h1, ?_⟩⟩
    rcases q with ⟨k, _⟩ | ⟨_, c', e', z⟩
    · have k : X.env.scope.names.lookup y = some .local := k
      rcases hk with k' | k'
      · rw [show X.env.scope.names.lookup y = some .cell from k'] at k; cases k
      · rw [show X.env.scope.names.lookup y = some .free from k'] at k; cases k
    · rw [h2] at e'
      cases e'
      exact z.keeps kp
  · obtain ⟨w, z⟩ := I.cell y c (cm e).1
    exact ⟨w, z.keeps kp⟩
end
/-! ### the turns -/
section
variable {Y : Cx} {gp : List (Addr × Obj)}
def REnd (Y : Cx) (gp : List (Addr × Obj)) (Dn : Hp → Prop) : GenEnd := fun _ _ r s1 => r = .ok .next ∧ ∃ σ' H', Inv Y gp σ' H' s1 ∧ Dn H'
def YItem (Y : Cx) (gp : List (Addr × Obj)) (Wn : Nat → Nat → Hp → Prop) (Ps : Nat → Nat → V → Hp → Prop) : Protocol := fun n _ v s1 kap =>
  ∃ i m y σ' H', m ≤ n ∧ RelV y v ∧ Inv Y gp σ' H' s1 ∧ Ps i m y H' ∧ ∀ s' m', Sl s1 s' → m' < m → Wn (i + 1) m' H' → kap (.send .none) s'
theorem seg_turns {A : Around} {tg elt iter : Expr} {scope : Scope} {pos : Pos} {it : Addr} {fp : List Addr} {tn : Nat → Heap → Prop} {J : It} {g : TG} {te : TE} {vs : List Nat} {σ : L2.St} {Wn : Nat → Nat → Hp → Prop} {Ps : Nat → Nat → V → Hp → Prop} {Dn : Hp → Prop}
    (hA : A.over (.compLoop (.GeneratorExp elt [⟨tg, iter, [], 0⟩] scope pos) 0 (.ref it) .none Y.env) [] = Y.A) (hc : Y.calm = true) (hx : Y.xe = fun _ _ => False) (hco : Y.env.scope.isCoroutine = false)
    (T : Turn Y.prog Y.w Y.K tg J fp it tn) (hg : PG Y tg g) (he : PE Y elt te) (hfp : ∀ H' : Hp, (∀ b ∈ fp, H' b = none) → ∀ b ∈ fp, FpOk Y gp H' b)
    (turn : ∀ i m H, Wn i m H → (J.stop i H ∧ Dn H) ∨ (J.go i H ∧ ∃ Px : V → Hp → Prop, (∀ y H4, Px y H4 → Ps i m y H4) ∧ ∀ x H', J.yld i H x H' → g x (wipe σ vs) H' fun σ2 H2 => wipe σ2 vs = wipe σ vs ∧ te σ2 H2 Px)) :
    ∀ (n i m : Nat) (s₀ s : Shared) (σ1 : L2.St) (H1 : Hp), m < n → Inv Y gp σ1 H1 s → wipe σ1 vs = wipe σ vs → tn i s.heap → (∀ b ∈ fp, H1 b = none) → Wn i m H1 →
      Seg (model Y.prog Y.w) A (REnd Y gp Dn) (YItem Y gp Wn Ps) n s₀ (.compLoop (.GeneratorExp elt [⟨tg, iter, [], 0⟩] scope pos) 0 (.ref it) .none Y.env)
        ((model Y.prog Y.w).den (.compLoop (.GeneratorExp elt [⟨tg, iter, [], 0⟩] scope pos) 0 (.ref it) .none Y.env)) [] s := by
  intro n
  induction n with
  | zero =>
    intro i m s₀ s σ1 H1 hm
    exact absurd hm (Nat.not_lt_zero m)
  | succ n ih =>
    intro i m s₀ s σ1 H1 hm I1 hw hst hfr hW
    show Seg _ A _ _ _ s₀ _ ((compTurn (.GeneratorExp elt [⟨tg, iter, [], 0⟩] scope pos) 0 (.ref it) .none Y.env).onRaise (leaving Y.env)) [] s
    rw [compTurn_gen, Sem.onRaise_eq_wrap]
    refine seg_bind_wrap (wpAny_standAt ?_)
    have I0 : Inv Y gp (wipe σ vs) H1 s := by rw [← hw]; exact wiped I1
    rcases turn i m H1 hW with ⟨hstop, hd⟩ | ⟨hgo, Px, hPx, hy⟩
    · refine seg_bind_wrap ?_
      rw [hA]
      refine thnF (thn (T.done Y rfl rfl rfl hc i gp s _ H1 (fun _ _ => False) I0 (hfp H1 hfr) hst hstop) fun r s1 ⟨hr, I2⟩ => ?_) fun _ _ q => q
      subst hr
      exact seg_end (.ok .next) ⟨rfl, _, H1, I2, hd⟩
    · refine seg_bind_wrap ?_
      rw [hA]
      refine thnF (thn (T.item Y rfl rfl rfl hc i gp s _ H1 (fun _ _ => False) I0 (hfp H1 hfr) hst hgo) fun r s1 ⟨u, hr, h1⟩ => ?_) fun _ _ q => q
      subst hr
      refine seg_bind_wrap ?_
      rw [hA]
      refine thnF (thn h1 fun _ s2 ⟨x, H2, I2, ru, yl, st2, fr2⟩ => ?_) fun _ _ q => q
      have I3 := I2.pinned (hfp H2 fr2) (T.obj _ _ st2)
      refine seg_bind_wrap ?_
      rw [hA]
      have hgr := hg.run _ s2 _ H2 x u _ I3 ru (hy x H2 yl)
      rw [hx] at hgr
      refine thnF (thn hgr fun _ s3 ⟨σ3, H3, I4, hw3, q3⟩ => ?_) fun _ _ q => q
      simp only [List.forIn_nil]
      refine seg_bind_wrap (wpAny_pure ?_)
      simp only [if_true]
      have hyo : ∀ v, yieldOut Y.env v = yieldValue v := fun v => by simp only [yieldOut, hco, Bool.false_eq_true, if_false]
      simp only [hyo]
      rw [Sem.bind_eq_wrap', Sem.bind_eq_wrap', Sem.wrap_wrap, Sem.wrap_wrap]
      refine seg_wrap ?_
      rw [hA]
      have her := he.run _ s3 σ3 H3 _ I4 q3
      rw [hx] at her
      refine thnF (thn her fun v s4 ⟨y, H4, I5, ry, q4⟩ => ?_) fun _ _ q => q
      have st4 : tn (i + 1) s4.heap := T.keep _ _ _ st2 fun b hb o e => (I5.pin (b, o) (List.mem_append_right _ (List.mem_append_right _ (mem_pinsAt hb e)))).1
      have fr4 : ∀ b ∈ fp, H4 b = none := fun b hb => by
        obtain ⟨o, e, d⟩ := T.obj _ _ st2 b hb
        exact (I5.pin (b, o) (List.mem_append_right _ (List.mem_append_right _ (mem_pinsAt hb e)))).2.1
      have I6 := I5.unpinned
      refine seg_at (seg_yield rfl rfl rfl ⟨i, m, y, σ3, H4, by omega, ry, I6, hPx _ _ q4, fun s' m' z hm' hW' => ?_⟩)
      refine seg_again rfl (ih (i + 1) m' s' s' σ3 H4 (by omega) (slept I6 z) hw3 (T.keep _ _ _ st4 fun b _ o e => z.2.2 b o e) fr4 hW')
theorem seg_first {A : Around} {tg elt iter : Expr} {scope : Scope} {pos : Pos} {it : Addr} {R : GenEnd} {Yp : Protocol} {n : Nat} {s₀ s : Shared} {fp : List Addr} {tn : Nat → Heap → Prop} {J : It} {i : Nat} (T : Turn Y.prog Y.w Y.K tg J fp it tn) (hst : tn i s.heap)
    (loop : Seg (model Y.prog Y.w) A R Yp n s₀ (.compLoop (.GeneratorExp elt [⟨tg, iter, [], 0⟩] scope pos) 0 (.ref it) .none Y.env)
        ((model Y.prog Y.w).den (.compLoop (.GeneratorExp elt [⟨tg, iter, [], 0⟩] scope pos) 0 (.ref it) .none Y.env)) [] s) :
    Seg (model Y.prog Y.w) A R Yp n s₀ (.compStart (.GeneratorExp elt [⟨tg, iter, [], 0⟩] scope pos) 0 (.ref it) .none Y.env)
        ((model Y.prog Y.w).den (.compStart (.GeneratorExp elt [⟨tg, iter, [], 0⟩] scope pos) 0 (.ref it) .none Y.env)) [] s := by
  show Seg _ A _ _ _ s₀ _ ((compStart (.GeneratorExp elt [⟨tg, iter, [], 0⟩] scope pos) 0 (.ref it) .none Y.env).onRaise (leaving Y.env)) [] s
  unfold compStart
  rw [Sem.onRaise_eq_wrap]
  show Seg _ A _ _ _ s₀ _ ((ask >>= _).wrap _ _ _ _) [] s
  refine seg_bind_wrap (wpAny_askSetting ?_)
  split
  · exact seg_again rfl loop
  · first
      | exact seg_bind_wrap (wpAny_rule (seg_bind_wrap (wpAny_standAt (seg_bind_wrap (T.self _ i s _ _ hst (seg_again rfl loop))))))
      | (refine seg_bind_wrap (wpAny_rule ?_)
         show Seg _ A _ _ _ s₀ _ ((standAt iter.pos >>= _).wrap _ _ _ _) [] s
         exact seg_bind_wrap (wpAny_standAt (seg_bind_wrap (T.self _ i s _ _ hst (seg_again rfl loop)))))
end
end Gx
namespace Gx
open PySem PySem.Spec PyProof.Rows L2 GxR GenW
/-! ### the consumer: any (st = true), all (st = false) -/
abbrev stopId (st : Bool) : String := if st = true then "any" else "all"
def PsB (st : Bool) (Wn : Nat → Nat → Hp → Prop) (Q : VK) (i m : Nat) (y : V) (H : Hp) : Prop := ∃ b, y = .bl b ∧ if b = st then Q (.bl st) H else ∃ m', m' < m ∧ Wn (i + 1) m' H
section
variable {Y : Cx} {gp : List (Addr × Obj)} {A : Around} {a : Addr} {g : Nat} {Wn : Nat → Nat → Hp → Prop} {Q : VK} {R : Result → Shared → Prop}
theorem wake_sl {s1 : Shared} {x : GenState} (hb : AllBare s1.gens) (hx : x.bare = true) : Sl s1 ((s1.setGen g x).setGen g .running) :=
  ⟨rfl, allBare_setGen (allBare_setGen hb hx) rfl, fun _ _ e => e⟩
theorem set_sl {s1 : Shared} {x : GenState} (hb : AllBare s1.gens) (hx : x.bare = true) : Sl s1 (s1.setGen g x) := ⟨rfl, allBare_setGen hb hx, fun _ _ e => e⟩
theorem any_loop (hh : A.handled = none) (hd : A.depth < recursionLimit) (hgen : ∀ σ' H' s', Inv Y gp σ' H' s' → s'.heap.IsGen a g)
    (hyes : ∀ σ' H' s', Inv Y gp σ' H' s' → Q (.bl true) H' → R (.ok (.ret (.bool true))) s') (hno : ∀ σ' H' s', Inv Y gp σ' H' s' → Q (.bl false) H' → R (.ok (.ret (.bool false))) s') :
    ∀ (n : Nat) (s : Shared), g < s.gens.size → s.heap.IsGen a g → s.heap.NoLimit →
      (∃ gs, s.gens[g]? = some gs ∧ gs.Goes (model Y.prog Y.w) A.in1.in1 (REnd Y gp fun H => Q (.bl false) H) (YItem Y gp Wn (PsB true Wn Q)) n (.send .none) (s.setGen g .running)) →
      codeAny (model Y.prog Y.w) A (.builtin "any.loop" ⟨[.ref a], []⟩) R s := by
  intro n
  induction n with
  | zero =>
    intro s hgs hg hl ⟨gs, e1, hgo⟩
    refine codeAny_builtin F.entry_any_loop ?_
    rw [Around.under_plainId F.plain_any_loop _]
    show wpAny _ A.in1 (pyNext (.ref a) >>= _) _ _ s
    refine wpAny_bind (wpAny_pyNext_genexpQ (P := fun _ _ s1 => ∃ σ' H', Inv Y gp σ' H' s1 ∧ Q (.bl false) H') hh hl hd hg e1 hgo (fun v s1 gs' hb hv => ?_) (fun s1 hp h' hk => ?_))
    · obtain ⟨i, m, y, σ', H', hm, ry, I, ⟨b, rfl, hq⟩, kap⟩ := hv
      obtain rfl : v = .bool b := ry
      refine wpAny_bind (wpAny_holding (wpAny_truthy_bool ?_))
      refine wpAny_bind (wpAny_letGo ?_)
      cases b with
      | true =>
        simp only [if_true]
        refine wpAny_bind (wpAny_rule (wpAny_pure ?_))
        exact hyes σ' H' _ (slept I (set_sl I.bare hb)) (by simpa using hq)
      | false =>
        obtain ⟨m', hm', hw⟩ : ∃ m', m' < m ∧ Wn (i + 1) m' H' := by simpa using hq
        exact False.elim (kap s1 m' ⟨rfl, I.bare, fun _ _ e => e⟩ hm' hw)
    · obtain ⟨σ', H', I, q⟩ := hp
      refine wpAny_bind (wpAny_rule (wpAny_pure ?_))
      exact hno σ' H' _ (slept I ⟨rfl, allBare_setGen I.bare rfl, hk⟩) q
  | succ n ih =>
    intro s hgs hg hl ⟨gs, e1, hgo⟩
    refine codeAny_builtin F.entry_any_loop ?_
    rw [Around.under_plainId F.plain_any_loop _]
    show wpAny _ A.in1 (pyNext (.ref a) >>= _) _ _ s
    refine wpAny_bind (wpAny_gsz (n := g + 1) hgs (wpAny_pyNext_genexpQ (P := fun _ _ s1 => ∃ σ' H', Inv Y gp σ' H' s1 ∧ Q (.bl false) H') hh hl hd hg e1 hgo (fun v s1 gs' hb hv hz => ?_) (fun s1 hp h' hk hz => ?_)))
    · obtain ⟨i, m, y, σ', H', hm, ry, I, ⟨b, rfl, hq⟩, kap⟩ := hv
      obtain rfl : v = .bool b := ry
      refine wpAny_bind (wpAny_holding (wpAny_truthy_bool ?_))
      refine wpAny_bind (wpAny_letGo ?_)
      cases b with
      | true =>
        simp only [if_true]
        refine wpAny_bind (wpAny_rule (wpAny_pure ?_))
        exact hyes σ' H' _ (slept I (set_sl I.bare hb)) (by simpa using hq)
      | false =>
        obtain ⟨m', hm', hw⟩ : ∃ m', m' < m ∧ Wn (i + 1) m' H' := by simpa using hq
        simp only [Bool.false_eq_true, if_false]
        have hz1 : g < s1.gens.size := by
          have hz : g + 1 ≤ (s1.setGen g gs').gens.size := hz
          rw [setGen_size] at hz
          exact hz
        refine wpAny_pure ⟨plainId_quiet F.plain_any_loop _, ih _ (by rw [setGen_size]; exact hz1) (hgen _ _ _ (slept I (set_sl I.bare hb))) I.nolimit ⟨gs', setGen_at hz1, ?_⟩⟩
        exact kap _ m' (wake_sl I.bare hb) hm' hw
    · obtain ⟨σ', H', I, q⟩ := hp
      refine wpAny_bind (wpAny_rule (wpAny_pure ?_))
      exact hno σ' H' _ (slept I ⟨rfl, allBare_setGen I.bare rfl, hk⟩) q
theorem all_loop (hh : A.handled = none) (hd : A.depth < recursionLimit) (hgen : ∀ σ' H' s', Inv Y gp σ' H' s' → s'.heap.IsGen a g)
    (hyes : ∀ σ' H' s', Inv Y gp σ' H' s' → Q (.bl true) H' → R (.ok (.ret (.bool true))) s') (hno : ∀ σ' H' s', Inv Y gp σ' H' s' → Q (.bl false) H' → R (.ok (.ret (.bool false))) s') :
    ∀ (n : Nat) (s : Shared), g < s.gens.size → s.heap.IsGen a g → s.heap.NoLimit →
      (∃ gs, s.gens[g]? = some gs ∧ gs.Goes (model Y.prog Y.w) A.in1.in1 (REnd Y gp fun H => Q (.bl true) H) (YItem Y gp Wn (PsB false Wn Q)) n (.send .none) (s.setGen g .running)) →
      codeAny (model Y.prog Y.w) A (.builtin "all.loop" ⟨[.ref a], []⟩) R s := by
  intro n
  induction n with
  | zero =>
    intro s hgs hg hl ⟨gs, e1, hgo⟩
    refine codeAny_builtin F.entry_all_loop ?_
    rw [Around.under_plainId F.plain_all_loop _]
    show wpAny _ A.in1 (pyNext (.ref a) >>= _) _ _ s
    refine wpAny_bind (wpAny_pyNext_genexpQ (P := fun _ _ s1 => ∃ σ' H', Inv Y gp σ' H' s1 ∧ Q (.bl true) H') hh hl hd hg e1 hgo (fun v s1 gs' hb hv => ?_) (fun s1 hp h' hk => ?_))
    · obtain ⟨i, m, y, σ', H', hm, ry, I, ⟨b, rfl, hq⟩, kap⟩ := hv
      obtain rfl : v = .bool b := ry
      refine wpAny_bind (wpAny_holding (wpAny_truthy_bool ?_))
      refine wpAny_bind (wpAny_letGo ?_)
      cases b with
      | false =>
        simp only [Bool.false_eq_true, if_false]
        refine wpAny_bind (wpAny_rule (wpAny_pure ?_))
        exact hno σ' H' _ (slept I (set_sl I.bare hb)) (by simpa using hq)
      | true =>
        obtain ⟨m', hm', hw⟩ : ∃ m', m' < m ∧ Wn (i + 1) m' H' := by simpa using hq
        exact False.elim (kap s1 m' ⟨rfl, I.bare, fun _ _ e => e⟩ hm' hw)
    · obtain ⟨σ', H', I, q⟩ := hp
      refine wpAny_bind (wpAny_rule (wpAny_pure ?_))
      exact hyes σ' H' _ (slept I ⟨rfl, allBare_setGen I.bare rfl, hk⟩) q
  | succ n ih =>
    intro s hgs hg hl ⟨gs, e1, hgo⟩
    refine codeAny_builtin F.entry_all_loop ?_
    rw [Around.under_plainId F.plain_all_loop _]
    show wpAny _ A.in1 (pyNext (.ref a) >>= _) _ _ s
    refine wpAny_bind (wpAny_gsz (n := g + 1) hgs (wpAny_pyNext_genexpQ (P := fun _ _ s1 => ∃ σ' H', Inv Y gp σ' H' s1 ∧ Q (.bl true) H') hh hl hd hg e1 hgo (fun v s1 gs' hb hv hz => ?_) (fun s1 hp h' hk hz => ?_)))
    · obtain ⟨i, m, y, σ', H', hm, ry, I, ⟨b, rfl, hq⟩, kap⟩ := hv
      obtain rfl : v = .bool b := ry
      refine wpAny_bind (wpAny_holding (wpAny_truthy_bool ?_))
      refine wpAny_bind (wpAny_letGo ?_)
      cases b with
      | false =>
        simp only [Bool.false_eq_true, if_false]
        refine wpAny_bind (wpAny_rule (wpAny_pure ?_))
        exact hno σ' H' _ (slept I (set_sl I.bare hb)) (by simpa using hq)
      | true =>
        obtain ⟨m', hm', hw⟩ : ∃ m', m' < m ∧ Wn (i + 1) m' H' := by simpa using hq
        simp only [if_true]
        have hz1 : g < s1.gens.size := by
          have hz : g + 1 ≤ (s1.setGen g gs').gens.size := hz
          rw [setGen_size] at hz
          exact hz
        refine wpAny_pure ⟨plainId_quiet F.plain_all_loop _, ih _ (by rw [setGen_size]; exact hz1) (hgen _ _ _ (slept I (set_sl I.bare hb))) I.nolimit ⟨gs', setGen_at hz1, ?_⟩⟩
        exact kap _ m' (wake_sl I.bare hb) hm' hw
    · obtain ⟨σ', H', I, q⟩ := hp
      refine wpAny_bind (wpAny_rule (wpAny_pure ?_))
      exact hyes σ' H' _ (slept I ⟨rfl, allBare_setGen I.bare rfl, hk⟩) q
end
end Gx
namespace Gx
open PySem PySem.Spec PyProof.Rows L2 GxR GenW
/-! ### the expression -/
theorem wipe_get (σ : L2.St) (i : Nat) : ∀ vs : List Nat, (wipe σ vs)[i]? = if i ∈ vs then (σ[i]?).map (fun _ => none) else σ[i]?
  | [] => by rw [if_neg (by simp)]; rfl
  | v :: vs => by
    unfold wipe
    rw [List.getElem?_set, wipe_get σ i vs]
    by_cases e : v = i
    · subst e
      rw [if_pos rfl, if_pos List.mem_cons_self, wipe_length]
      by_cases h : v < σ.length
      · rw [if_pos h, List.getElem?_eq_getElem h]
        rfl
      · rw [if_neg h, List.getElem?_eq_none (by omega)]
        rfl
    · rw [if_neg e]
      by_cases m : i ∈ vs
      · rw [if_pos m, if_pos (List.mem_cons_of_mem _ m)]
      · rw [if_neg m, if_neg (by simp only [List.mem_cons, not_or]; exact ⟨fun z => e z.symm, m⟩)]
theorem wipe_wipe (σ : L2.St) (vs : List Nat) : wipe (wipe σ vs) vs = wipe σ vs := by
  refine List.ext_getElem? fun i => ?_
  rw [wipe_get, wipe_get]
  by_cases m : i ∈ vs
  · rw [if_pos m, if_pos m]
    cases σ[i]? <;> rfl
  · rw [if_neg m, if_neg m]
theorem room_gen {k : Nat} {A : Around} (r : Room (k + 1) A) {G : Expr} {it acc : Value} {genv : Env} (hG : ∃ elt gens sc ps, G = .GeneratorExp elt gens sc ps) : Room k (A.in1.in1.over (.compLoop G 0 it acc genv) []) := by
  obtain ⟨elt, gens, sc, ps, rfl⟩ := hG
  refine ⟨r.hd, ?_, ?_⟩
  · have := r.dp
    show A.depth + 0 + 1 + 3 * k + 5 < _
    omega
  · have := r.un
    show A.units + 1 + 1 + 0 + 3 + 16 * k + 200 < _
    omega
theorem frames_gen {A : Around} {l : List Env} (h : A.frames = some l) {elt : Expr} {gens : List Comprehension} {sc : Scope} {ps : Pos} {it acc : Value} {genv : Env} : (A.in1.in1.over (.compLoop (.GeneratorExp elt gens sc ps) 0 it acc genv) []).frames = some (genv :: l) := by
  show pushEnvs [genv] (pushEnvs [] A.frames) = _
  rw [h]
  rfl
/-! a made generator a, of number g, ready to go on; Y: its frame's context -/
structure Made (X : Cx) (pins : List (Addr × Obj)) (σ : L2.St) (tg : Expr) (J : It) (gt : TG) (te : TE) (vs : List Nat) (H2 : Hp) (a : Addr) (g : Nat) (Y : Cx) (gp : List (Addr × Obj)) (s5 : Shared) : Prop where
  prog : Y.prog = X.prog
  w : Y.w = X.w
  inv : Inv Y gp (wipe σ vs) H2 s5
  isGen : ∀ σ' H' s', Inv Y gp σ' H' s' → s'.heap.IsGen a g
  size : g < s5.gens.size
  back : ∀ σ' H' s', Inv Y gp σ' H' s' → Inv X pins σ H' s'
  goes : ∀ (Wn : Nat → Nat → Hp → Prop) (Ps : Nat → Nat → V → Hp → Prop) (Dn : Hp → Prop), (∀ i m H, Wn i m H → (J.stop i H ∧ Dn H) ∨ (J.go i H ∧ ∃ Px : V → Hp → Prop, (∀ y H4, Px y H4 → Ps i m y H4) ∧ ∀ x H', J.yld i H x H' → gt x (wipe σ vs) H' fun σ2 H3 => wipe σ2 vs = wipe σ vs ∧ te σ2 H3 Px)) →
    ∀ n m, m < n → Wn 0 m H2 → ∃ gs, s5.gens[g]? = some gs ∧ gs.Goes (model Y.prog Y.w) X.A.in1.in1 (REnd Y gp Dn) (YItem Y gp Wn Ps) n (.send .none) (s5.setGen g .running)
section
variable {X : Cx} {pins : List (Addr × Obj)} {σ : L2.St} {H : Hp} {s : Shared}
theorem gen_make {k : Nat} {c P : Addr} {elt tg iter : Expr} {scope : Scope} {gpos : Pos} {own : List (Str × Nat)} {wi : TI} {gt : TG} {te : TE} {Rr : It → Hp → Prop} {Q' : Value → Shared → Prop}
    (hr : Room (k + 1) X.A) (TB : TabB X.base X.mg c P) (hcode : X.env.code = .ref c) (ok : BlkOk X.N X.env.scope scope own) (hco : scope.isCoroutine = false) (hcell : ∀ y ∈ scope.names, y.2 ≠ .cell) (hdot : scope.names.lookup (".0" : Str) = some NameKind.local) (hN : X.N.Nodup)
    (hi : PI X tg iter wi) (hg : ∀ (A' : Around) (s : Shared) (H : Hp) (C : Addr) (cl : List (Str × Addr)) (code : Value) (fp : List Addr), Room k A' → PG (gcx X A' s H (genEnv scope cl C code builtinsNs X.env) fp) tg gt)
    (he : ∀ (A' : Around) (s : Shared) (H : Hp) (C : Addr) (cl : List (Str × Addr)) (code : Value) (fp : List Addr), Room k A' → PE (gcx X A' s H (genEnv scope cl C code builtinsNs X.env) fp) elt te)
    (hs : ∀ v, genFold iter X.env v = pure v) (I : Inv X pins σ H s) (h : wi σ H fun J H1 => TabG H1 P ∧ ∀ H2, Tabbed P H1 H2 → Rr J H2)
    (hQ : ∀ (J : It) (H2 : Hp) (a : Addr) (g : Nat) (Y : Cx) (gp : List (Addr × Obj)) (s5 : Shared), Rr J H2 → Made X pins σ tg J gt te (own.map (·.2)) H2 a g Y gp s5 → Q' (.ref a) s5) :
    wpAny (model X.prog X.w) X.A (eval (.GeneratorExp elt [⟨tg, iter, [], 0⟩] scope gpos) X.env) Q' X.xe s := by
  have hfree : ∀ y ∈ scope.names, y.2 = .free → ∃ c, X.env.cells.lookup y.1 = some c := fun y hy e => (ok.free y hy e).elim (fun k => I.ok.has _ (.inl k)) (fun k => I.ok.has _ (.inr k))
  refine wpAny_GeneratorExp_make hco (closure_ok hfree) hcell hdot ok.kind (by have := hr.dp; omega) (thn (hi.run pins s σ H _ I h) fun xv s1 hx => thn hx fun itv s2 h2 => ?_) hs
  obtain ⟨it, fp, tn, J, H1, rfl, I2, T, st2, f2, ⟨ps, hP, ht⟩, hR⟩ := h2
  have hPs : s2.heap.get? P = some { cls := .none, data := .fields ps } := I2.hok P _ hP
  have cd : PySem.W.CodeHd s2.heap c P := TB.code.keeps I2.bk
  refine ⟨I2.nolimit, ?_⟩
  have cont : ∀ (code : Value) (h3 : Heap) (tk : Nat) (more : Array Value), Heap.ExtBut P s2.heap h3 → h3.get? P = some { cls := .none, data := .fields (ps ++ more) } → TriplesOk (ps ++ more).toList →
      wpAny (model X.prog X.w) X.A (builtinsFor X.env.globals X.env.builtins) (fun bi s4 => ∀ h', h'.Ns s4.heap.objs.size (fun y => if y = ".0" then some (.ref it) else none) → Heap.SameBut s4.heap.objs.size (s4.heap.push { cls := .type "frame", data := .dict #[] }) h' →
          Q' (.ref h'.objs.size) { s4 with gens := s4.gens.push (.fresh (.compStart (.GeneratorExp elt [⟨tg, iter, [], 0⟩] scope gpos) 0 (.ref it) .none (genEnv scope (cloFrom X.env.cells scope.names []) s4.heap.objs.size code bi X.env))), toks := s4.toks + 1 + 1 + 1, heap := h'.push { cls := .type "generator", data := .fields #[.int s4.gens.size 0, .str "<genexpr>" (s4.toks + 1), .str (X.env.qual ++ "<genexpr>") (s4.toks + 1 + 1)] } }) X.xe { s2 with heap := h3, toks := tk } := by
    intro code h3 tk more hxb hP3 ht3
    have keep3 : ∀ b u, b ≠ P → s2.heap.get? b = some u → h3.get? b = some u := fun b u hb e => hxb b u hb e
    have I3 : Inv X pins σ (upd H1 P (.tbl (ps ++ more))) { s2 with heap := h3, toks := tk } := inv_tab (g' := s2.gens) (d' := s2.drawn) I2 hP keep3 hP3 I2.bare
    have nP : ∀ b ∈ fp, b ≠ P := fun b hb z => by
      have e := (f2 b hb).1
      rw [z, hP] at e
      cases e
    have st3 : tn 0 h3 := T.keep _ _ _ st2 fun b hb o e => keep3 b o (nP b hb) e
    have hR2 := hR _ ⟨⟨_, upd_same, ht3⟩, fun b hb => upd_ne hb⟩
    have f3 : ∀ b ∈ fp, FpOk X pins (upd H1 P (.tbl (ps ++ more))) b := fun b hb => ⟨by rw [upd_ne (nP b hb)]; exact (f2 b hb).1, (f2 b hb).2⟩
    generalize upd H1 P (.tbl (ps ++ more)) = H2 at I3 hR2 f3
    obtain ⟨bm, ob, e1, e2, e3, e4, e5, e6, e7, e8⟩ := TB.bm
    refine wpAny_builtinsFor (m := X.mg) (by rw [I3.ok.glob]; exact I3.mod.glob.keeps I3.bk) e1 e2 (I3.bk _ _ e5) e6 e7 e8 ?_
    intro h' hn' hs'
    generalize hs4 : ({ s2 with heap := h3, toks := tk } : Shared) = s4 at I3 hn' hs' ⊢
    have st4 : tn 0 s4.heap := by rw [← hs4]; exact st3
    have kp' : ∀ b o, s4.heap.get? b = some o → h'.get? b = some o := fun b o e => hs'.extBut b o (Nat.ne_of_lt (Heap.lt_size e)) (Heap.get?_push_of_some _ e)
    have szh : h'.objs.size = s4.heap.objs.size + 1 := by rw [hs'.1, Heap.size_push]
    have szf : ∀ b ∈ fp, b < s4.heap.objs.size := fun b hb => by
      obtain ⟨o, e, _⟩ := T.obj _ _ st4 b hb
      exact Heap.lt_size e
    have main : ∀ (go : Obj) (nm qn : Value) (tk2 : Nat), go.cls = .type "generator" → go.data = .fields #[.int s4.gens.size 0, nm, qn] → go.slots = #[] → (h'.push go).get? h'.objs.size = some go →
        Q' (.ref h'.objs.size) { s4 with gens := s4.gens.push (.fresh (.compStart (.GeneratorExp elt [⟨tg, iter, [], 0⟩] scope gpos) 0 (.ref it) .none (genEnv scope (cloFrom X.env.cells scope.names []) s4.heap.objs.size code builtinsNs X.env))), toks := tk2, heap := h'.push go } := by
      intro go nm qn tk2 hgc hgd hgs hgp
      generalize hG : Expr.GeneratorExp elt [⟨tg, iter, [], 0⟩] scope gpos = G
      generalize hE : genEnv scope (cloFrom X.env.cells scope.names []) s4.heap.objs.size code builtinsNs X.env = genv
      have rm : Room k (X.A.in1.in1.over (.compLoop G 0 (.ref it) .none genv) []) := room_gen hr ⟨_, _, _, _, hG.symm⟩
      have fr : (X.A.in1.in1.over (.compLoop G 0 (.ref it) .none genv) []).frames = some (genv :: X.stack) := by rw [← hG]; exact frames_gen I3.ok.frames
      have kp5 : ∀ b o, s4.heap.get? b = some o → (h'.push go).get? b = some o := fun b o e => Heap.get?_push_of_some _ (kp' b o e)
      have I5 : Inv (gcx X (X.A.in1.in1.over (.compLoop G 0 (.ref it) .none genv) []) s4 H2 genv fp) [] (wipe σ (own.map (·.2))) H2 { s4 with gens := s4.gens.push (.fresh (.compStart G 0 (.ref it) .none genv)), toks := tk2, heap := h'.push go } := by
        rw [← hE]
        exact gen_start (it := .ref it) I3 ok hcell hN (fun b hb => ⟨f3 b hb, szf b hb⟩) rm.hd (by rw [hE]; exact fr) (hn'.push go) kp5 (AllBare.push I3.bare rfl)
      have young : ∀ b, s4.heap.objs.size < b → H2 b = none ∧ b ∉ frs X.stack := fun b hb => by
        refine ⟨I3.hok.fresh (Nat.le_of_lt hb), fun z => ?_⟩
        rcases List.mem_cons.mp (I3.stkSub b z) with q | q
        · rw [q] at hb
          exact absurd (Nat.lt_trans hb I3.lt) (Nat.lt_irrefl _)
        · exact I3.nofs (Nat.le_of_lt hb) q
      have J5 : Inv (gcx X (X.A.in1.in1.over (.compLoop G 0 (.ref it) .none genv) []) s4 H2 genv fp) [(h'.objs.size, go)] (wipe σ (own.map (·.2))) H2 { s4 with gens := s4.gens.push (.fresh (.compStart G 0 (.ref it) .none genv)), toks := tk2, heap := h'.push go } := by
        refine I5.pins_of fun p hp => ?_
        rw [List.mem_singleton.mp hp]
        obtain ⟨y1, y2⟩ := young h'.objs.size (by rw [szh]; exact Nat.lt_succ_self _)
        refine ⟨hgp, y1, ?_, y2, fun v z => ?_⟩
        · show h'.objs.size ≠ genv.locals
          rw [← hE, szh]
          exact Nat.succ_ne_self _
        · have z : go.data = .cell v := z
          rw [hgd] at z
          cases z
      refine hQ J H2 h'.objs.size s4.gens.size (gcx X (X.A.in1.in1.over (.compLoop G 0 (.ref it) .none genv) []) s4 H2 genv fp) [(h'.objs.size, go)] _ hR2 ⟨rfl, rfl, J5, fun σ' H' s' K => ?_, ?_, fun σ' H' s' K => ?_, fun Wn Ps Dn turn n m hm hW => ⟨.fresh (.compStart G 0 (.ref it) .none genv), Array.getElem?_push_size .., rfl, ?_⟩⟩
      · exact ⟨go, nm, qn, (K.pin (h'.objs.size, go) (List.mem_append_right _ (List.mem_singleton.mpr rfl))).1, hgc, hgd, hgs⟩
      · show s4.gens.size < (s4.gens.push _).size
        rw [Array.size_push]
        exact Nat.lt_succ_self _
      · exact I3.call' (ch := fp) K.os K.base K.hok K.bare fun b hb => ⟨(f3 b hb).2.2.2.1, (f3 b hb).2.1, (f3 b hb).2.2.2.2.1, (f3 b hb).2.2.2.2.2⟩
      · have Z : Sl { s4 with gens := s4.gens.push (.fresh (.compStart G 0 (.ref it) .none genv)), toks := tk2, heap := h'.push go } (({ s4 with gens := s4.gens.push (.fresh (.compStart G 0 (.ref it) .none genv)), toks := tk2, heap := h'.push go } : Shared).setGen s4.gens.size .running) := ⟨rfl, allBare_setGen J5.bare rfl, fun _ _ e => e⟩
        have st5 : tn 0 (h'.push go) := T.keep _ _ _ st4 fun b _ o e => kp5 b o e
        rw [← hG] at *
        refine seg_first (Y := gcx X (X.A.in1.in1.over (.compLoop (.GeneratorExp elt [⟨tg, iter, [], 0⟩] scope gpos) 0 (.ref it) .none genv) []) s4 H2 genv fp) (i := 0) T st5 ?_
        refine seg_turns (Y := gcx X (X.A.in1.in1.over (.compLoop (.GeneratorExp elt [⟨tg, iter, [], 0⟩] scope gpos) 0 (.ref it) .none genv) []) s4 H2 genv fp) rfl rfl rfl (by rw [← hE]; exact hco) T ?_ ?_ (fun H' hn b hb => ?_) turn n 0 m _ _ _ H2 hm (slept J5 Z) (wipe_wipe _ _) st5 (fun b hb => (f3 b hb).1) hW
        · rw [← hE] at rm ⊢
          exact hg _ _ _ _ _ _ _ rm
        · rw [← hE] at rm ⊢
          exact he _ _ _ _ _ _ _ rm
        · refine ⟨hn b hb, ?_, fun z => ?_, .inl hb, fun y c e z => ?_, fun p hp z => ?_⟩
          · show b ≠ genv.locals
            rw [← hE]
            exact Nat.ne_of_lt (szf b hb)
          · rcases List.mem_cons.mp (I3.stkSub b z) with q | q
            · exact (f3 b hb).2.1 q
            · exact (f3 b hb).2.2.1 q
          · exact (J5.ok.exf b hb).2 y c e z
          · have hp : p ∈ [(h'.objs.size, go)] := hp
            rw [List.mem_singleton.mp hp] at z
            have z : h'.objs.size = b := z
            have q := szf b hb
            rw [← z, szh] at q
            exact absurd q (Nat.not_lt.mpr (Nat.le_succ _))
    exact main _ _ _ _ rfl rfl rfl (Heap.get?_push_size _ rfl)
  cases hf : codeAmong gpos ps.toList with
  | none =>
    refine wpAny_genexprCodeX hcode (cd.code hPs ht) (cd.tab hPs) hf fun c' h' tk hx hge hlt hco' _ htab' _ => ?_
    obtain ⟨o1, us, f1, tf, fl, tg1, inF, tx, tt, op, _, _, _, _, _, _, _, _, _, htr, _⟩ := hco'
    exact cont _ h' tk _ hx htab'.2 htr
  | some cv =>
    refine wpAny_genexprCode_hit hcode (cd.code hPs ht) hf ?_
    exact cont cv s2.heap s2.toks #[] (Heap.ExtBut.refl _ _) (by rw [Array.append_empty]; exact hPs) (by rw [Array.append_empty]; exact ht)
end
end Gx
namespace Gx
open PySem PySem.Spec PyProof.Rows L2 GxR GenW
/-! what is wanted, told by name, so that it is found again -/
def Wish (Q : VK) (v : V) (H : Hp) : Prop := Q v H
/-! st: what ends it (any: True, all: False) -/
def tGx (P : Addr) (st : Bool) (wi : TI) (gt : TG) (te : TE) (vs : List Nat) : TE := fun σ H Q => wi σ H fun J H1 => TabG H1 P ∧ ∀ H2, Tabbed P H1 H2 → ∃ W : Nat → Nat → Hp → Prop, (∃ m, W 0 m H2) ∧ ∀ i m H, W i m H →
  (J.stop i H ∧ Wish Q (.bl (!st)) H) ∨ (J.go i H ∧ ∃ Nx : Hp → Prop, (∀ H', Nx H' → ∃ m', m' < m ∧ W (i + 1) m' H') ∧ ∀ x H', J.yld i H x H' → gt x (wipe σ vs) H' fun σ2 H3 => wipe σ2 vs = wipe σ vs ∧ te σ2 H3 fun y H4 => ∃ b, y = .bl b ∧ if b = st then Wish Q (.bl st) H4 else Nx H4)
theorem turnB {J : It} {gt : TG} {te : TE} {vs : List Nat} {σ : L2.St} {st : Bool} {W : Nat → Nat → Hp → Prop} {Q : VK} {Dn : Hp → Prop}
    (h : ∀ i m H, W i m H → (J.stop i H ∧ Dn H) ∨ (J.go i H ∧ ∃ Nx : Hp → Prop, (∀ H', Nx H' → ∃ m', m' < m ∧ W (i + 1) m' H') ∧ ∀ x H', J.yld i H x H' → gt x (wipe σ vs) H' fun σ2 H3 => wipe σ2 vs = wipe σ vs ∧ te σ2 H3 fun y H4 => ∃ b, y = .bl b ∧ if b = st then Q (.bl st) H4 else Nx H4)) :
    ∀ i m H, W i m H → (J.stop i H ∧ Dn H) ∨ (J.go i H ∧ ∃ Px : V → Hp → Prop, (∀ y H4, Px y H4 → PsB st W Q i m y H4) ∧ ∀ x H', J.yld i H x H' → gt x (wipe σ vs) H' fun σ2 H3 => wipe σ2 vs = wipe σ vs ∧ te σ2 H3 Px) := fun i m H hW => by
  rcases h i m H hW with a | ⟨go, Nx, hN, hy⟩
  · exact .inl a
  · refine .inr ⟨go, _, fun y H4 ⟨b, e, hb⟩ => ⟨b, e, ?_⟩, hy⟩
    by_cases hc : b = st
    · rw [if_pos hc] at hb ⊢
      exact hb
    · rw [if_neg hc] at hb ⊢
      exact hN _ hb
/-! over a walk of n turns -/
theorem gx_it {J : It} {n : Nat} {G : Hp → Prop} {Yw : Nat → Hp → V → Hp → Prop} (w : Walk J n G Yw) {gt : TG} {te : TE} {vs : List Nat} {σ : L2.St} {st : Bool} {Q : VK} {H2 : Hp} (Pv : Nat → Hp → Prop) (h0 : Pv 0 H2) (hG : ∀ i H, i ≤ n → Pv i H → G H)
    (hs : ∀ i x H H', i < n → Pv i H → Yw i H x H' → gt x (wipe σ vs) H' fun σ2 H3 => wipe σ2 vs = wipe σ vs ∧ te σ2 H3 fun y H4 => ∃ b, y = .bl b ∧ if b = st then Wish Q (.bl st) H4 else Pv (i + 1) H4) (hd : ∀ H, Pv n H → Wish Q (.bl (!st)) H) :
    ∃ W : Nat → Nat → Hp → Prop, (∃ m, W 0 m H2) ∧ ∀ i m H, W i m H → (J.stop i H ∧ Wish Q (.bl (!st)) H) ∨ (J.go i H ∧ ∃ Nx : Hp → Prop, (∀ H', Nx H' → ∃ m', m' < m ∧ W (i + 1) m' H') ∧ ∀ x H', J.yld i H x H' → gt x (wipe σ vs) H' fun σ2 H3 => wipe σ2 vs = wipe σ vs ∧ te σ2 H3 fun y H4 => ∃ b, y = .bl b ∧ if b = st then Wish Q (.bl st) H4 else Nx H4) := by
  refine ⟨fun i m H => m = n - i ∧ i ≤ n ∧ Pv i H, ⟨n, by simp, Nat.zero_le _, h0⟩, ?_⟩
  rintro i m H ⟨rfl, hi, p⟩
  have q := hG i H hi p
  by_cases hlt : i < n
  · exact .inr ⟨w.goes i H hlt q, Pv (i + 1), fun H' p' => ⟨n - (i + 1), by omega, rfl, hlt, p'⟩, fun x H' y => hs i x H H' hlt p (w.yields i H x H' hlt q y)⟩
  · obtain rfl : i = n := by omega
    exact .inl ⟨w.stops H q, hd H p⟩
section
variable {X : Cx}
theorem call_anyG {J : It} {tg : Expr} {gt : TG} {te : TE} {vs : List Nat} {H2 : Hp} {a : Addr} {g : Nat} {Y : Cx} {gp pins : List (Addr × Obj)} {σ : L2.St} {s5 : Shared} {Q : VK} {k : Nat} (hr : Room k X.A) (M : Made X pins σ tg J gt te vs H2 a g Y gp s5)
    (h : ∃ W : Nat → Nat → Hp → Prop, (∃ m, W 0 m H2) ∧ ∀ i m H, W i m H → (J.stop i H ∧ Q (.bl false) H) ∨ (J.go i H ∧ ∃ Nx : Hp → Prop, (∀ H', Nx H' → ∃ m', m' < m ∧ W (i + 1) m' H') ∧ ∀ x H', J.yld i H x H' → gt x (wipe σ vs) H' fun σ2 H3 => wipe σ2 vs = wipe σ vs ∧ te σ2 H3 fun y H4 => ∃ b, y = .bl b ∧ if b = true then Q (.bl true) H4 else Nx H4)) :
    wpAny (model X.prog X.w) X.A (call (.builtin "any") [.ref a]) (EP X pins σ Q) X.xe s5 := by
  obtain ⟨W, ⟨m, hW⟩, turn⟩ := h
  refine call_function_tree F.kind_any F.plain_any F.entry_any (F.args_any1 _) ?_
  unfold Builtin.«any»
  refine wpAny_bind (m := oneArg "any" _) (wpAny_pure ?_)
  refine wpAny_bind (wpAny_pyIter_gen (M.isGen _ _ _ M.inv) ?_)
  refine wpAny_pure ⟨plainId_quiet F.plain_any_loop _, ?_⟩
  have q := any_loop (Y := Y) (gp := gp) (A := X.A) (a := a) (g := g) (Wn := W) (Q := Q) (R := fun r s' => match r with | .ok (.ret v) => EP X pins σ Q v s' | .ok _ => False | .error e => X.xe e s') hr.hd (by have := hr.dp; omega) M.isGen
    (fun σ' H' s' I q => ⟨.bl true, H', M.back _ _ _ I, rfl, q⟩) (fun σ' H' s' I q => ⟨.bl false, H', M.back _ _ _ I, rfl, q⟩) (m + 1) s5 M.size (M.isGen _ _ _ M.inv) M.inv.nolimit (M.goes W _ _ (turnB turn) (m + 1) m (Nat.lt_succ_self _) hW)
  rw [M.prog, M.w] at q
  exact q
theorem call_allG {J : It} {tg : Expr} {gt : TG} {te : TE} {vs : List Nat} {H2 : Hp} {a : Addr} {g : Nat} {Y : Cx} {gp pins : List (Addr × Obj)} {σ : L2.St} {s5 : Shared} {Q : VK} {k : Nat} (hr : Room k X.A) (M : Made X pins σ tg J gt te vs H2 a g Y gp s5)
    (h : ∃ W : Nat → Nat → Hp → Prop, (∃ m, W 0 m H2) ∧ ∀ i m H, W i m H → (J.stop i H ∧ Q (.bl true) H) ∨ (J.go i H ∧ ∃ Nx : Hp → Prop, (∀ H', Nx H' → ∃ m', m' < m ∧ W (i + 1) m' H') ∧ ∀ x H', J.yld i H x H' → gt x (wipe σ vs) H' fun σ2 H3 => wipe σ2 vs = wipe σ vs ∧ te σ2 H3 fun y H4 => ∃ b, y = .bl b ∧ if b = false then Q (.bl false) H4 else Nx H4)) :
    wpAny (model X.prog X.w) X.A (call (.builtin "all") [.ref a]) (EP X pins σ Q) X.xe s5 := by
  obtain ⟨W, ⟨m, hW⟩, turn⟩ := h
  refine call_function_tree F.kind_all F.plain_all F.entry_all (F.args_all1 _) ?_
  unfold Builtin.«all»
  refine wpAny_bind (m := oneArg "all" _) (wpAny_pure ?_)
  refine wpAny_bind (wpAny_pyIter_gen (M.isGen _ _ _ M.inv) ?_)
  refine wpAny_pure ⟨plainId_quiet F.plain_all_loop _, ?_⟩
  have q := all_loop (Y := Y) (gp := gp) (A := X.A) (a := a) (g := g) (Wn := W) (Q := Q) (R := fun r s' => match r with | .ok (.ret v) => EP X pins σ Q v s' | .ok _ => False | .error e => X.xe e s') hr.hd (by have := hr.dp; omega) M.isGen
    (fun σ' H' s' I q => ⟨.bl true, H', M.back _ _ _ I, rfl, q⟩) (fun σ' H' s' I q => ⟨.bl false, H', M.back _ _ _ I, rfl, q⟩) (m + 1) s5 M.size (M.isGen _ _ _ M.inv) M.inv.nolimit (M.goes W _ _ (turnB turn) (m + 1) m (Nat.lt_succ_self _) hW)
  rw [M.prog, M.w] at q
  exact q
theorem pe_any {k : Nat} {c P : Addr} {elt tg iter : Expr} {scope : Scope} {gpos p pos : Pos} {own : List (Str × Nat)} {wi : TI} {gt : TG} {te : TE}
    (hr : Room (k + 1) X.A) (hgl : Gl X "any") (hm : X.mg "any" = none) (TB : TabB X.base X.mg c P) (hcode : X.env.code = .ref c) (hN : X.N.Nodup) (hi : PI X tg iter wi) (ok : BlkOk X.N X.env.scope scope own)
    (hg : ∀ (A' : Around) (s : Shared) (H : Hp) (C : Addr) (cl : List (Str × Addr)) (code : Value) (fp : List Addr), Room k A' → PG (gcx X A' s H (genEnv scope cl C code builtinsNs X.env) fp) tg gt)
    (he : ∀ (A' : Around) (s : Shared) (H : Hp) (C : Addr) (cl : List (Str × Addr)) (code : Value) (fp : List Addr), Room k A' → PE (gcx X A' s H (genEnv scope cl C code builtinsNs X.env) fp) elt te)
    (hco : scope.isCoroutine = false := by rfl) (hcell : ∀ y ∈ scope.names, y.2 ≠ .cell := by decide +kernel) (hdot : scope.names.lookup (".0" : Str) = some NameKind.local := by rfl) (hs : ∀ v, genFold iter X.env v = pure v := by intro _; rfl)
    (hst : starEach [.GeneratorExp elt [⟨tg, iter, [], 0⟩] scope gpos] X.env = (false, eval (.GeneratorExp elt [⟨tg, iter, [], 0⟩] scope gpos) X.env) :: starEach [] X.env := by rfl) :
    PE X (.Call (.Name "any" p) [.GeneratorExp elt [⟨tg, iter, [], 0⟩] scope gpos] [] pos) (tGx P true wi gt te (own.map (·.2))) := by
  refine ⟨fun pins s σ H Q I h => ?_⟩
  refine wpAny_Call_Name_kw (ld_blt I hgl hm boot_any ?_)
  refine PyProof.Rows.callWith_builtin1 ?_ hst (by rfl)
  rw [hst]
  show wpAny _ _ (spliced ((false, eval (.GeneratorExp elt [⟨tg, iter, [], 0⟩] scope gpos) X.env) :: backTo pos (starEach [] X.env))) _ _ s
  refine Calls.spliced_cons (gen_make hr TB hcode ok hco hcell hdot hN hi hg he hs I h fun J H2 a g Y gp s5 hR M => ?_)
  exact Calls.spliced_nil (call_anyG hr M hR)
theorem pe_all {k : Nat} {c P : Addr} {elt tg iter : Expr} {scope : Scope} {gpos p pos : Pos} {own : List (Str × Nat)} {wi : TI} {gt : TG} {te : TE}
    (hr : Room (k + 1) X.A) (hgl : Gl X "all") (hm : X.mg "all" = none) (TB : TabB X.base X.mg c P) (hcode : X.env.code = .ref c) (hN : X.N.Nodup) (hi : PI X tg iter wi) (ok : BlkOk X.N X.env.scope scope own)
    (hg : ∀ (A' : Around) (s : Shared) (H : Hp) (C : Addr) (cl : List (Str × Addr)) (code : Value) (fp : List Addr), Room k A' → PG (gcx X A' s H (genEnv scope cl C code builtinsNs X.env) fp) tg gt)
    (he : ∀ (A' : Around) (s : Shared) (H : Hp) (C : Addr) (cl : List (Str × Addr)) (code : Value) (fp : List Addr), Room k A' → PE (gcx X A' s H (genEnv scope cl C code builtinsNs X.env) fp) elt te)
    (hco : scope.isCoroutine = false := by rfl) (hcell : ∀ y ∈ scope.names, y.2 ≠ .cell := by decide +kernel) (hdot : scope.names.lookup (".0" : Str) = some NameKind.local := by rfl) (hs : ∀ v, genFold iter X.env v = pure v := by intro _; rfl)
    (hst : starEach [.GeneratorExp elt [⟨tg, iter, [], 0⟩] scope gpos] X.env = (false, eval (.GeneratorExp elt [⟨tg, iter, [], 0⟩] scope gpos) X.env) :: starEach [] X.env := by rfl) :
    PE X (.Call (.Name "all" p) [.GeneratorExp elt [⟨tg, iter, [], 0⟩] scope gpos] [] pos) (tGx P false wi gt te (own.map (·.2))) := by
  refine ⟨fun pins s σ H Q I h => ?_⟩
  refine wpAny_Call_Name_kw (ld_blt I hgl hm (show bootBuiltins "all" = some (.builtin "all") by decide +kernel) ?_)
  refine PyProof.Rows.callWith_builtin1 ?_ hst (by rfl)
  rw [hst]
  show wpAny _ _ (spliced ((false, eval (.GeneratorExp elt [⟨tg, iter, [], 0⟩] scope gpos) X.env) :: backTo pos (starEach [] X.env))) _ _ s
  refine Calls.spliced_cons (gen_make hr TB hcode ok hco hcell hdot hN hi hg he hs I h fun J H2 a g Y gp s5 hR M => ?_)
  exact Calls.spliced_nil (call_allG hr M hR)
end
end Gx
/-! ### defs with a table of their own; the end with the tables of such defs -/
namespace Gx
open PySem PySem.Spec PyProof.Rows L2 GxR
section
variable {P : Program} {w : World} {K : PySem.W.Frag} {mg : Str → Option Value} {base : Heap}
theorem okC {x qual : Str} {st : Stmt} {f c : Addr} {fd : FuncData} {N ps : List Str} {k : Nat} {sp : Sp} (F : Fun K x qual st f fd) (hc : fd.code = .ref c) (S : FnScope N ps (defScope st)) (len : ∀ vs H Q E, sp vs H Q E → vs.length = ps.length)
    (body : ∀ (A : Around) (outer : List Env) (s : Shared) (H : Hp) (vs : List V) (Q : VK) (E : XK), Room k (A.deeper (envOfC qual (defScope st) s.heap.objs.size f (.ref c))) → sp vs H Q E →
      ∃ t, PSs (cxOf CX0 P w K mg base N qual (defScope st) f (.ref c) A outer s H E).nox (defBody st) t ∧ t { nx := fun _ H' => Q .non H', rt := Q } (start N vs) H) : FnOk P w K mg base CX0 (k + 1) f fd ps sp := by
  obtain ⟨oc, od, kV, doc, pm, an, cv, ct, osl, rfl, lk, hcd⟩ := F.ex
  obtain rfl : cv = .ref c := hc
  refine fn_of lk hcd S len fun A outer s H vs Q E hr hsp => ?_
  obtain ⟨t, h, q⟩ := body A outer s H vs Q E hr hsp
  exact ⟨t, h.nox, q⟩
theorem okCX {x qual : Str} {st : Stmt} {f c : Addr} {fd : FuncData} {N ps : List Str} {k : Nat} {sp : Sp} (F : Fun K x qual st f fd) (hc : fd.code = .ref c) (S : FnScope N ps (defScope st)) (len : ∀ vs H Q E, sp vs H Q E → vs.length = ps.length)
    (body : ∀ (A : Around) (outer : List Env) (s : Shared) (H : Hp) (vs : List V) (Q : VK) (E : XK), Room k (A.deeper (envOfC qual (defScope st) s.heap.objs.size f (.ref c))) → sp vs H Q E →
      ∃ t, PSs (cxOf (L2.CX P w) P w K mg base N qual (defScope st) f (.ref c) A outer s H E) (defBody st) t ∧ t { nx := fun _ H' => Q .non H', rt := Q } (start N vs) H) : FnOk P w K mg base (L2.CX P w) (k + 1) f fd ps sp := by
  obtain ⟨oc, od, kV, doc, pm, an, cv, ct, osl, rfl, lk, hcd⟩ := F.ex
  obtain rfl : cv = .ref c := hc
  exact fn_of lk hcd S len fun A outer s H vs Q E hr hsp => body A outer s H vs Q E hr hsp
end
/-! what the top's heap tells of the tables of its defs -/
def TopTab (q : Program) (K : PySem.W.Frag) (h : Heap) : Prop := ∀ (y : Str) (dd : DefRec) (c P : Addr), (recsOf q).find? (fun e => e.name == y) = some dd → PySem.W.tabIn K y = some (c, P) → PySem.W.CodeHd h c P ∧ h.get? P = some (PySem.W.tabObj #[])
theorem walk_tab {l : PySem.W.OpenLaw} {n k : Nat} {q : Program} {loose : List Str} {XP : (Str → Option Value) → Heap → Prop} {YP : World → Heap → Prop} {d : DefRec} {K : Params → PySem.W.Frag} {CX : World → CXT} {x : Str}
    (hn : l.most = some n) (hn2 : n ≤ sizeLine) (hdf : d.params.defaults = []) (hr : Room k callerA) (hY : ∀ (w : World) (h : Heap), YP w h → (K w.params).In h)
    (F : ∀ (w : World) (mg : Str → Option Value) (fa : Addr) (h : Heap), YP w h → (K w.params).In h → h.Ns mainGlobals mg → mg d.name = some (.ref fa) → TopTab q (K w.params) h → LamX.LawAtS l w (K w.params) (CX w) k n x mg fa h)
    (hCX : ∀ (w : World) (H : Hp) (s : Shared) (e : Value) (s' : Shared), CX w [] H s (fun _ _ _ => False) e s' → False) :
    PySem.W.WalkO q loose XP YP l.row.toRowW d [] (fun f vs => PySem.call f vs) := by
  refine Att.attach_callB hn hdf fun w s₀ s₁ mg mb fa o pm cd doc a vs ns G Y ho hd hcd hmg hobj hints hlen hbits hg => ?_
  have KX := hY w _ Y
  obtain ⟨fd, cs, sp, hT, nT, C, hb, hsp, hF⟩ := F w mg fa _ Y KX G.T.g hmg (fun y dd c P e1 e2 => PySem.W.tab_of G.T KX e1 e2)
  exact LamX.law_callTs KX G.T.g G.T.b G.T.builtins G.T.nolimit hg hT nT C G.T.bmain hobj hints (Nat.le_trans hlen hn2) hr hF hb (fun H hH hS => hsp H a ns hlen hbits hH hS) fun H e s' => hCX w H s₁ e s'
end Gx
/-! ### *xs, x = a list -/
namespace St
open PySem PySem.Spec PyProof.Rows L2
section
variable {prog : Program} {w : World} {A : Around} {E : Value → Shared → Prop} {s : Shared}
/-- what is left of a list's iterator, gathered; told too: the heap has grown -/
theorem gather {I : Addr} {fp wr : List Addr} {G : Array GenState → Array GenState → Prop} {n : Nat} {P : Nat → Value → Prop} {St : Nat → Shared → Prop} {Q : List Value → Shared → Prop}
    (W : WalksS prog w A.in1 I fp wr G n P St) (ty : ∀ i s, St i s → s.TypeIs (.ref I) "list_iterator") (st : St 0 s) (old : ∀ b ∈ fp, b < s.heap.objs.size) (inI : I ∈ fp) (hn : n ≤ sizeLine)
    (q : ∀ s' acc, Moved wr G s s' → s.heap.objs.size < s'.heap.objs.size → ItemsOf P acc n → Q acc.toList s') : wpAny (model prog w) A (collect (.ref I)) Q E s := by
  have off : s.heap.objs.size ∉ fp := fun m => Nat.lt_irrefl _ (old _ m)
  have neI : s.heap.objs.size ≠ I := fun e => off (e ▸ inI)
  delta collect
  refine wpAny_bind (wpAny_runValue (codeAny_builtin PySem.F.entry_proto_collect ?_))
  rw [Around.under_plainId PySem.F.plain_proto_collect]
  refine wpAny_bind (m := newList []) (wpAny_newObj_type (wpAny_pure ⟨plainId_quiet PySem.F.plain_list_iadd _, codeAny_builtin PySem.F.entry_list_iadd ?_⟩))
  rw [Around.under_plainId PySem.F.plain_list_iadd]
  have st1 := W.frame 0 s (s.heap.push { cls := .type "list", data := .seq ([] : List Value).toArray }) s.toks st (Nat.le_refl _) fun b _ o e => Heap.get?_push_of_some _ e
  have at1 : (s.heap.push { cls := .type "list", data := .seq ([] : List Value).toArray }).get? s.heap.objs.size = some { cls := .type "list", data := .seq ([] : List Value).toArray } := Heap.get?_push_size _ rfl
  have no : Builtin.List.listSameRef (.ref s.heap.objs.size) (.ref I) = false := by simp [Builtin.List.listSameRef, neI]
  show wpAny _ A.in1 (Builtin.List.listExtendWith (Value.ref s.heap.objs.size) (Value.ref I) (Value.ref s.heap.objs.size)) _ _ _
  delta Builtin.List.listExtendWith
  refine wpAny_bind (wpAny_typeOf (ty 0 _ st1) ?_)
  rw [if_neg (by rw [no]; decide)]
  refine wpAny_bind (W.self 0 _ _ _ st1 (wpAny_bind (wpAny_holding ?_)))
  delta Builtin.List.listLengthHint
  refine wpAny_bind (wpAny_specialOf (ty 0 _ st1) PySem.F.nolen_li ?_)
  refine wpAny_bind (m := specialOf (Value.ref I) (Str.ofString "__length_hint__")) (wpAny_specialOf (ty 0 _ st1) PySem.F.hint_li ?_)
  generalize hid : ("list_iterator.__length_hint__" : String) = id0
  wp_delta
  rw [show splitId id0 = some ("list_iterator", "__length_hint__") from by subst hid; decide +kernel]
  subst hid
  refine wpAny_bind (wpAny_isInstance (b := true) (ty 0 _ st1) (by rw [isSubtype_type]; kernel_rfl) (wpAny_pure ?_))
  rw [if_neg (by decide)]
  refine wpAny_pure ⟨plainId_quiet PySem.F.plain_extend_loop _, codeAny_extend_loopS W hn _ off _ n 0 _ _ _ rfl (Nat.zero_le _) st1 at1 (ItemsOf.nil P) fun s2 acc2 c2 mv at2 io => ?_⟩
  refine wpAny_bind (m := load s.heap.objs.size) (wpAny_load at2 (wpAny_pure (q s2 acc2 (Moved.drop_new (o := { cls := .type "list", data := .seq ([] : List Value).toArray }) (tk := s.toks) mv (Nat.le_refl _)) (Heap.lt_size at2) io)))
theorem unpackList {l : Addr} {items : Array Value} {ts : List (Bool × (Value → Sem Unit))} {Q : Unit → Shared → Prop} (hh : A.handled = none) (hl : s.heap.IsList l items) (hn : ts.length = 2) (hs : ts.findIdx? (·.1) = some 0)
    (some' : 0 < items.size) (fits : items.size ≤ sizeLine)
    (h : ∀ (h' : Heap) (p n : Nat), (∀ b o, s.heap.get? b = some o → h'.get? b = some o) → s.heap.objs.size ≤ p → h'.get? p = some { cls := .type "list", data := .seq (items.toList.take (items.size - 1)).toArray } →
      wpAny (model prog w) A (assignInOrder (ts.map (·.2)) (.ref p :: items.toList.drop (items.size - 1))) Q E { s with heap := h', toks := n }) :
    wpAny (model prog w) A (unpack (.ref l) ts) Q E s := by
  have lt : l < s.heap.objs.size := hl.elim fun o z => Heap.lt_size z.1
  delta unpack
  rw [hn, hs]
  refine wpAny_bind (wpAny_holding ?_)
  delta unpackItems
  refine wpAny_bind ?_
  delta notIterableAtAll
  refine wpAny_bind (wpAny_specialOf hl.typeIs slot_list_iter.lookup ?_)
  refine wpAny_pure ?_
  simp only [Bool.false_eq_true, if_false]
  refine wpAny_bind (wpAny_holding (wpAny_pyIter_list hl ?_))
  have sz1 : ∀ o : Obj, (s.heap.push o).objs.size = s.heap.objs.size + 1 := fun o => Heap.size_push ..
  have ne : l ≠ s.heap.objs.size := Nat.ne_of_lt lt
  refine wpAny_bind (wpAny_holding (wpAny_pure ?_))
  rw [if_neg (by decide)]
  refine wpAny_bind (wpAny_holding ?_)
  have W := (Walks.list (prog := prog) (w := w) (A := A.in1) hh s.heap.objs.size l ne items).toS
  refine gather W (fun i s1 st => ?_) ⟨⟨_, Heap.get?_push_size _ rfl, rfl, rfl⟩, hl.push _⟩ (fun b hb => ?_) List.mem_cons_self fits (fun s2 acc mv big io => ?_)
  · obtain ⟨⟨o, ho, hc, _⟩, _⟩ := st
    exact ⟨o, ho, hc⟩
  · rw [sz1]
    rcases List.mem_cons.mp hb with e | e
    · rw [e]; exact Nat.lt_succ_self _
    · rw [List.mem_singleton.mp e]; exact Nat.lt_succ_of_lt lt
  · have eacc : acc = items := by
      apply Array.ext_getElem?
      intro i
      by_cases hi : i < acc.size
      · have := io.2 i _ (Array.getElem?_eq_getElem hi)
        rw [Array.getElem?_eq_getElem hi]
        exact this.symm
      · rw [Array.getElem?_eq_none (Nat.le_of_not_lt hi), Array.getElem?_eq_none (by rw [← io.1]; exact Nat.le_of_not_lt hi)]
    subst eacc
    have keep : ∀ b o, s.heap.get? b = some o → s2.heap.get? b = some o := fun b o e => mv.heap b o (fun z => by rw [List.mem_singleton.mp z] at e; exact absurd (Heap.lt_size e) (Nat.lt_irrefl _)) (Heap.get?_push_of_some _ e)
    have len : acc.toList.length = acc.size := Array.length_toList
    rw [if_neg (by rw [len]; omega), len]
    have fit2 : ((acc.toList.take (acc.size - (2 - 1 - 0))).length) ≤ sizeLine := by
      rw [List.length_take, len]
      omega
    refine wpAny_bind (wpAny_newList ?_ fit2)
    refine wpAny_pure ?_
    rcases s2 with ⟨h2, g2, d2, t2, o2⟩
    cases (show g2 = s.gens from mv.gens)
    cases (show d2 = s.drawn from mv.drawn)
    cases (show o2 = s.os from mv.os)
    have big : s.heap.objs.size ≤ h2.objs.size := Nat.le_of_lt (Nat.lt_trans (by rw [sz1]; exact Nat.lt_succ_self _) big)
    exact h _ h2.objs.size t2 (fun b o e => Heap.get?_push_of_some _ (keep b o e)) big (Heap.get?_push_size _ rfl)
end
section
variable {X : Cx}
def gStar (K : PySem.W.Frag) (t : TGs) : TG := fun v σ H Q => ∃ a xs, v = .ref a ∧ SqL K H a xs ∧ 0 < xs.length ∧ ∀ p, H p = none → t (.ref p :: xs.drop (xs.length - 1)) σ (upd H p (.lst (xs.take (xs.length - 1)))) Q
theorem pgs_star {e : Expr} {p : Pos} {es : List Expr} {t : TG} {u : TGs} (h1 : PG X e t) (h2 : PGs X es u)
    (hs : (assignEach (.Starred e p :: es) X.env).map (·.2) = assign e X.env :: (assignEach es X.env).map (·.2) := by rfl) : PGs X (.Starred e p :: es) (gCons t u) := by
  refine ⟨fun pins s σ H vs us Q I r h => ?_⟩
  obtain ⟨v, vr, rfl, h⟩ := h
  cases r with
  | cons r rr =>
    rw [hs]
    exact assignInOrder_cons (thn (h1.run pins s σ H _ _ _ I r h) fun _ s1 ⟨σ1, H1, I1, q1⟩ => h2.run pins s1 σ1 H1 _ _ Q I1 rr q1)
theorem pg_star {es : List Expr} {k : Nat} {t : TGs} {pos : Pos} (hc : X.calm = true) (h : PGs X es t) (hn : (assignEach es X.env).length = 2 := by rfl) (hst : (assignEach es X.env).findIdx? (·.1) = some 0 := by rfl) : PG X (.Tuple es k pos) (gStar X.K t) := by
  refine ⟨fun pins s σ H v u Q I r hw => ?_⟩
  obtain ⟨a, xs, rfl, hq, some', hw⟩ := hw
  cases r
  obtain ⟨its, rv, hl, hz⟩ := I.list hq
  have len := rv.length
  have lit : its.toArray.size = xs.length := by rw [List.size_toArray]; exact len.symm
  rw [assign_Tuple]
  refine wpAny_bind (wpAny_standAt (unpackList (I.ok.hd hc) hl.isList hn hst (by rw [lit]; exact some') (by rw [lit]; exact hz) fun h' p n keep big at' => ?_))
  have np : H p = none := I.hok.fresh big
  rw [lit] at at' ⊢
  have I1 : Inv X pins σ (upd H p (.lst (xs.take (xs.length - 1)))) { s with heap := h', toks := n } := I.laid (t' := n) keep big ⟨by rw [List.length_take]; omega, _, 0, rv.take _, at'⟩
  exact h.run pins _ σ _ _ _ Q I1 (Paired.cons (show RelV (.ref p) (Value.ref p) from rfl) (rv.drop _)) (hw p np)
end
end St
/-! ### texts, sign by sign -/
namespace Tt
open PySem PySem.Spec PyProof.Rows L2
open PySem.Builtin.Str
abbrev sg (c : Nat) : Str := ⟨#[c]⟩
theorem str_ext {x y : Str} (h : x.cps.toList = y.cps.toList) : x = y := by
  cases x
  cases y
  simp at h
  rw [h]
theorem len_list (x : Str) : x.length = x.cps.toList.length := by simp [Str.length]
theorem cat_list (x y : Str) : (x ++ y).cps.toList = x.cps.toList ++ y.cps.toList := by
  show (x.cps ++ y.cps).toList = _
  exact Array.toList_append
theorem at_front (x : Str) (c : Nat) : subAt x (sg c) 0 = decide (x.cps.toList.take 1 = [c]) := by
  rw [StrLaws.subAt_eq, List.drop_zero]
  show (x.cps.toList.take 1 == [c]) = _
  rw [Bool.eq_iff_iff, beq_iff_eq, decide_eq_true_iff]
theorem rp_yes {x : Str} {c : Nat} {cs : List Nat} (h : x.cps.toList = c :: cs) : (Txt.removeprefix x (sg c)).cps.toList = cs := by
  have l := len_list x
  rw [h] at l
  have l1 : x.length = cs.length + 1 := l
  unfold Txt.removeprefix
  rw [at_front, h, decide_eq_true (show (c :: cs).take 1 = [c] from rfl), if_pos rfl]
  show (if (x.length - 1 == x.length) = true then x else strSub x 1 x.length).cps.toList = cs
  rw [if_neg (by rw [beq_iff_eq]; omega), StrLaws.strSub_toList, h]
  show cs.take (x.length - 1) = cs
  exact List.take_of_length_le (by omega)
theorem rp_no {x : Str} {c : Nat} (h : ∀ cs, x.cps.toList ≠ c :: cs) : Txt.removeprefix x (sg c) = x := by
  unfold Txt.removeprefix
  have no : ¬ x.cps.toList.take 1 = [c] := fun e => by
    cases k : x.cps.toList with
    | nil => rw [k] at e; cases e
    | cons d ds =>
      rw [k] at e
      obtain ⟨rfl, _⟩ := List.cons.inj (show [d] = [c] from e)
      exact h ds k
  rw [at_front, decide_eq_false no]
  rfl
theorem sw_yes {x : Str} {c : Nat} {cs : List Nat} (h : x.cps.toList = c :: cs) : Txt.startswith x (sg c) = true := by
  have l := len_list x
  rw [h] at l
  have l1 : x.length = cs.length + 1 := l
  unfold Txt.startswith
  rw [at_front, h, decide_eq_true (show (c :: cs).take 1 = [c] from rfl), Bool.and_true]
  exact decide_eq_true (by show 0 + 1 ≤ x.length; omega)
theorem sw_no {x : Str} {c : Nat} (h : ∀ cs, x.cps.toList ≠ c :: cs) : Txt.startswith x (sg c) = false := by
  unfold Txt.startswith
  have no : ¬ x.cps.toList.take 1 = [c] := fun e => by
    cases k : x.cps.toList with
    | nil => rw [k] at e; cases e
    | cons d ds =>
      rw [k] at e
      obtain ⟨rfl, _⟩ := List.cons.inj (show [d] = [c] from e)
      exact h ds k
  rw [at_front, decide_eq_false no, Bool.and_false]
theorem at_back {x : Str} {c : Nat} (l : 1 ≤ x.length) : subAt x (sg c) (x.length - 1) = decide (x.cps.toList.drop (x.cps.toList.length - 1) = [c]) := by
  rw [StrLaws.subAt_eq, len_list]
  show ((x.cps.toList.drop (x.cps.toList.length - 1)).take 1 == [c]) = _
  rw [List.take_of_length_le (by rw [List.length_drop]; omega), Bool.eq_iff_iff, beq_iff_eq, decide_eq_true_iff]
theorem back_yes {x : Str} {c : Nat} {cs : List Nat} (h : x.cps.toList = cs ++ [c]) : 1 ≤ x.length ∧ x.length = cs.length + 1 ∧ subAt x (sg c) (x.length - 1) = true := by
  have l := len_list x
  rw [h, List.length_append] at l
  have l1 : x.length = cs.length + 1 := l
  refine ⟨by omega, l1, ?_⟩
  rw [at_back (by omega), h, List.length_append]
  refine decide_eq_true ?_
  rw [show cs.length + [c].length - 1 = cs.length from rfl, List.drop_left]
theorem back_no {x : Str} {c : Nat} (h : ∀ cs, x.cps.toList ≠ cs ++ [c]) (l : 1 ≤ x.length) : subAt x (sg c) (x.length - 1) = false := by
  rw [at_back l]
  refine decide_eq_false fun e => h (x.cps.toList.take (x.cps.toList.length - 1)) ?_
  rw [← e, List.take_append_drop]
theorem rs_yes {x : Str} {c : Nat} {cs : List Nat} (h : x.cps.toList = cs ++ [c]) : (Txt.removesuffix x (sg c)).cps.toList = cs := by
  obtain ⟨l0, l1, sb⟩ := back_yes h
  unfold Txt.removesuffix
  rw [show ((sg c).length ≤ x.length && subAt x (sg c) (x.length - (sg c).length)) = true from by
    rw [show (sg c).length = 1 from rfl, sb, Bool.and_true]
    exact decide_eq_true l0, if_pos rfl]
  show (if (x.length - 1 - 0 == x.length) = true then x else strSub x 0 (x.length - 1)).cps.toList = cs
  rw [if_neg (by rw [beq_iff_eq]; omega), StrLaws.strSub_toList, h, List.drop_zero, l1]
  show (cs ++ [c]).take cs.length = cs
  exact List.take_left
theorem rs_no {x : Str} {c : Nat} (h : ∀ cs, x.cps.toList ≠ cs ++ [c]) : Txt.removesuffix x (sg c) = x := by
  unfold Txt.removesuffix
  have no : ((sg c).length ≤ x.length && subAt x (sg c) (x.length - (sg c).length)) = false := by
    rw [show (sg c).length = 1 from rfl]
    by_cases l : 1 ≤ x.length
    · rw [back_no h l, Bool.and_false]
    · rw [decide_eq_false l, Bool.false_and]
  rw [no]
  rfl
theorem ew_yes {x : Str} {c : Nat} {cs : List Nat} (h : x.cps.toList = cs ++ [c]) : Txt.endswith x (sg c) = true := by
  obtain ⟨l0, l1, sb⟩ := back_yes h
  unfold Txt.endswith
  rw [show (sg c).length = 1 from rfl, sb, Bool.and_true]
  exact decide_eq_true (by omega)
theorem ew_no {x : Str} {c : Nat} (h : ∀ cs, x.cps.toList ≠ cs ++ [c]) : Txt.endswith x (sg c) = false := by
  unfold Txt.endswith
  rw [show (sg c).length = 1 from rfl]
  by_cases l : 1 ≤ x.length
  · rw [back_no h l, Bool.and_false]
  · rw [decide_eq_false (by omega), Bool.false_and]
/-! what a join is cut into again -/
theorem cut_uniq {c : Nat} : ∀ {p q r t : List Nat}, c ∉ p → c ∉ q → p ++ c :: r = q ++ c :: t → p = q ∧ r = t
  | [], [], _, _, _, _, h => ⟨rfl, (List.cons.inj h).2⟩
  | [], y :: q, _, _, _, hq, h => absurd ((List.cons.inj h).1 ▸ List.mem_cons_self) hq
  | x :: p, [], _, _, hp, _, h => absurd ((List.cons.inj h).1 ▸ List.mem_cons_self) hp
  | x :: p, y :: q, r, t, hp, hq, h => by
    obtain ⟨e1, e2⟩ := List.cons.inj h
    obtain ⟨e3, e4⟩ := cut_uniq (fun m => hp (List.mem_cons_of_mem _ m)) (fun m => hq (List.mem_cons_of_mem _ m)) e2
    exact ⟨by rw [e1, e3], e4⟩
theorem join_two (c : Nat) (x y : Str) (r : List Str) : (Str.join (sg c) (x :: y :: r)).cps.toList = x.cps.toList ++ c :: (Str.join (sg c) (y :: r)).cps.toList := by
  show (x ++ sg c ++ Str.join (sg c) (y :: r)).cps.toList = _
  rw [cat_list, cat_list, List.append_assoc]
  rfl
theorem join_uniq {c : Nat} : ∀ {ps qs : List Str}, ps ≠ [] → qs ≠ [] → (∀ p ∈ ps, c ∉ p.cps.toList) → (∀ q ∈ qs, c ∉ q.cps.toList) → Str.join (sg c) ps = Str.join (sg c) qs → ps = qs
  | [], _, h, _, _, _, _ => absurd rfl h
  | _, [], _, h, _, _, _ => absurd rfl h
  | [x], [y], _, _, _, _, h => by rw [show x = y from h]
  | [x], y :: z :: r, _, _, hp, _, h => by
    have e := congrArg (fun w : Str => w.cps.toList) h
    have e : x.cps.toList = (Str.join (sg c) (y :: z :: r)).cps.toList := e
    rw [join_two] at e
    exact absurd (by rw [e]; exact List.mem_append_right _ List.mem_cons_self) (hp x List.mem_cons_self)
  | x :: w :: r, [y], _, _, _, hq, h => by
    have e := congrArg (fun w : Str => w.cps.toList) h
    have e : (Str.join (sg c) (x :: w :: r)).cps.toList = y.cps.toList := e
    rw [join_two] at e
    exact absurd (by rw [← e]; exact List.mem_append_right _ List.mem_cons_self) (hq y List.mem_cons_self)
  | x :: w :: r, y :: z :: t, _, _, hp, hq, h => by
    have e := congrArg (fun w : Str => w.cps.toList) h
    have e : (Str.join (sg c) (x :: w :: r)).cps.toList = (Str.join (sg c) (y :: z :: t)).cps.toList := e
    rw [join_two, join_two] at e
    obtain ⟨e1, e2⟩ := cut_uniq (hp x List.mem_cons_self) (hq y List.mem_cons_self) e
    rw [str_ext e1, join_uniq (ps := w :: r) (qs := z :: t) (fun z => (nomatch z)) (fun z => (nomatch z)) (fun p m => hp p (List.mem_cons_of_mem _ m)) (fun q m => hq q (List.mem_cons_of_mem _ m)) (str_ext e2)]
theorem split_some (x : Str) (c : Nat) : Txt.split x (sg c) ≠ [] := by
  unfold Txt.split
  split
  · exact fun z => (nomatch z)
  · split
    · exact fun z => (nomatch z)
    · unfold partsBetween
      cases occurrences x (sg c) 0 x.length (x.length + 1) with
      | nil => exact fun z => (nomatch z)
      | cons a r => exact fun z => (nomatch z)
theorem split_join {c : Nat} {ps : List Str} (some' : ps ≠ []) (free : ∀ p ∈ ps, c ∉ p.cps.toList) : Txt.split (Str.join (sg c) ps) (sg c) = ps :=
  join_uniq (split_some _ _) some' (StrLaws.split_free _ c) free (StrLaws.join_split _ _)
/-! a number's text, read -/
theorem dig_nat (m : Nat) : NumText.AllDigits ((Nat.toDigits 10 m).map Char.toNat) := fun c hc => by
  obtain ⟨ch, hch, rfl⟩ := List.mem_map.mp hc
  have z := Nat.isDigit_of_mem_toDigits (by decide) (by decide) hch
  unfold Char.isDigit at z
  rw [Bool.and_eq_true, decide_eq_true_eq, decide_eq_true_eq] at z
  exact ⟨UInt32.le_iff_toNat_le.mp z.1, UInt32.le_iff_toNat_le.mp z.2⟩
theorem dig_step {m : Nat} (h : ¬ m < 10) : Nat.toDigits 10 m = Nat.toDigits 10 (m / 10) ++ Nat.toDigits 10 (m % 10) := by
  have t : Nat.toDigits 10 (m / 10) ++ Nat.toDigits 10 (m % 10) = Nat.toDigits 10 (10 * (m / 10) + m % 10) := Nat.toDigits_append_toDigits (by decide) (by omega) (Nat.mod_lt m (by decide))
  rw [Nat.div_add_mod] at t
  exact t.symm
theorem dig_len : ∀ (k m : Nat), m < 10 ^ (k + 1) → (Nat.toDigits 10 m).length ≤ k + 1 ∧ 1 ≤ (Nat.toDigits 10 m).length
  | 0, m, h => by
    rw [Nat.toDigits_of_lt_base (show m < 10 from h)]
    exact ⟨Nat.le_refl _, Nat.le_refl _⟩
  | k + 1, m, h => by
    by_cases c : m < 10
    · rw [Nat.toDigits_of_lt_base c]
      exact ⟨Nat.succ_le_succ (Nat.zero_le _), Nat.le_refl _⟩
    · rw [dig_step c, List.length_append, Nat.toDigits_of_lt_base (Nat.mod_lt m (by decide))]
      have := dig_len k (m / 10) (Nat.div_lt_of_lt_mul (by rw [Nat.pow_succ, Nat.mul_comm] at h; exact h))
      show _ + 1 ≤ _ ∧ 1 ≤ _ + 1
      omega
theorem dig_head (m : Nat) : ∀ d ds, (Nat.toDigits 10 m).map Char.toNat = d :: ds → d = 48 → m = 0 := by
  induction m using Nat.strongRecOn with
  | _ m ih =>
    intro d ds e h
    by_cases c : m < 10
    · rw [Nat.toDigits_of_lt_base c] at e
      obtain ⟨e1, _⟩ := List.cons.inj (show [(Nat.digitChar m).toNat] = d :: ds from e)
      have key : ∀ k : Nat, k < 10 → (Nat.digitChar k).toNat = 48 → k = 0 := by decide
      exact key m c (e1.trans h)
    · rw [dig_step c, List.map_append] at e
      have l := (dig_len (m / 10) (m / 10) (Nat.lt_of_lt_of_le (Nat.lt_pow_self (by decide)) (Nat.pow_le_pow_right (by decide) (Nat.le_succ _)))).2
      cases k : (Nat.toDigits 10 (m / 10)).map Char.toNat with
      | nil =>
        have := congrArg List.length k
        rw [List.length_map] at this
        rw [this] at l
        cases l
      | cons x r =>
        rw [k] at e
        obtain ⟨e1, _⟩ := List.cons.inj e
        have := ih (m / 10) (by omega) x r k (e1.trans h)
        omega
theorem neg_text (m : Nat) : (Str.ofString (toString (-((m + 1 : Nat) : Int)))).cps.toList = 45 :: (Nat.toDigits 10 (m + 1)).map Char.toNat := by
  rw [signs_ofString]
  show (("-" ++ Nat.repr (m + 1)).toList).map Char.toNat = _
  rw [String.toList_append, List.map_append, Nat.toList_repr]
  rfl
end Tt
/-! ### set(t) of a tuple of texts, and sorted of such a set -/
namespace Tx
open PySem PySem.Spec PyProof.Rows L2
/-- the text that an entry holds -/
def txt (e : Int × Value) : Str := match e.2 with
  | .str x _ => x
  | _ => Str.empty
def Fine (w : World) (e : Int × Value) : Prop := ∃ (x : Str) (u : Tok), e = (hashStr w x, .str x u)
/-- the set at a has the texts xs, each once -/
structure Bin (w : World) (h : Heap) (a : Addr) (xs : List Str) (o : Obj) (es : Array (Int × Value)) (ep : Nat) (t : SetTable) : Prop where
  here : h.get? a = some o
  pure' : o.ExactSet
  what : o.data = .set es ep t
  fine : ∀ e ∈ es.toList, Fine w e
  mem : (es.toList.map txt).Perm xs
  nd : xs.Nodup
  few : xs.length < 64
  fit : t.fits es.size = true
  ris : Ris t.place.toList
  led : w.params.followText "set-order" = true ∨ t.led = true
def TSet (w : World) (h : Heap) (a : Addr) (xs : List Str) : Prop := ∃ o es ep t, Bin w h a xs o es ep t
section
variable {P : Program} {w : World} {A : Around} {E : Value → Shared → Prop} {s : Shared} {a : Addr} {h : Heap} {xs : List Str} {o : Obj} {es : Array (Int × Value)} {ep : Nat} {t : SetTable}
theorem Bin.size (B : Bin w h a xs o es ep t) : es.size = xs.length := by
  rw [← B.mem.length_eq, List.length_map, Array.length_toList]
theorem Bin.small (B : Bin w h a xs o es ep t) : es.size < scanBound := by
  rw [B.size]
  exact Nat.lt_trans B.few (by decide)
theorem Bin.parts (B : Bin w h a xs o es ep t) : ElemsOf (PySem.strKind P w) es.toList := fun e m => by
  obtain ⟨x, u, rfl⟩ := B.fine e m
  exact ⟨⟨x, strKind_is P w x u, rfl⟩, rfl⟩
theorem fine_is {e : Int × Value} (f : Fine w e) (x : Str) : (PySem.strKind P w).is x e.2 = true ↔ txt e = x := by
  obtain ⟨y, u, rfl⟩ := f
  exact beq_iff_eq
theorem TSet.go {h' : Heap} (B : TSet w h a xs) (k : ∀ o, h.get? a = some o → h'.get? a = some o) : TSet w h' a xs := by
  obtain ⟨o, es, ep, t, B⟩ := B
  exact ⟨o, es, ep, t, { B with here := k o B.here }⟩
/-- where a store has gone -/
theorem stored {es' : Array (Int × Value)} {t' : SetTable} (B : h.get? a = some o) (d : o.data = .set es ep t) : (h.update a (Obj.putSet es' t')).get? a = some { o with data := .set es' (ep + 1) t' } := by
  have e := putSet_of es' t' d
  have g := Heap.get?_update_self (Obj.putSet es' t') B (by rw [e]; rfl)
  exact g.trans (congrArg some e)
/-- the last steps of an adding: the table is stored, and perhaps laid anew -/
theorem ends {g : Bool → Sem Unit} (silent : ∀ (b : Bool) (s1 : Shared) (R : Unit → Shared → Prop), R () s1 → wpAny (model P w) A (g b) R E s1) {wd : Bool} {R : Option Bool → Shared → Prop} {es1 : Array (Int × Value)} {t1 : SetTable}
    (ho : s.heap.get? a = some o) (px : o.ExactSet) (hd : o.data = .set es ep t)
    (f1 : ∀ e ∈ es1.toList, Fine w e) (m1 : (es1.toList.map txt).Perm xs) (n1 : xs.Nodup) (l1 : xs.length < 64) (fit1 : t1.fits es1.size = true) (r1 : Ris t1.place.toList) (d1 : w.params.followText "set-order" = true ∨ t1.led = true)
    (q : ∀ h', Heap.SameBut a s.heap h' → TSet w h' a xs → R (some true) { s with heap := h' }) :
    wpAny (model P w) A (storeSet a es1 t1 >>= fun _ =>
        if (!wd && t1.tooFull) = true then g (relayAll t1 es1 (SetTable.grown es1.size)).2.2 >>= fun _ => storeSet a (relayAll t1 es1 (SetTable.grown es1.size)).1 (relayAll t1 es1 (SetTable.grown es1.size)).2.1 >>= fun _ => pure (some true)
        else pure (some true)) R E s := by
  have z1 : es1.size < scanBound := by
    rw [← Array.length_toList, ← List.length_map (f := txt), m1.length_eq]
    exact Nat.lt_trans l1 (by decide)
  have at1 := stored (es' := es1) (t' := t1) ho hd
  have b1 := Heap.SameBut.update s.heap a (Obj.putSet es1 t1)
  refine wpAny_bind (wpAny_storeSet_of ho hd ?_ (fits_of_scanBound z1))
  by_cases c : (!wd && t1.tooFull) = true
  · rw [if_pos c]
    have p2 := relayAll_perm t1 es1 (SetTable.grown es1.size)
    have f2 := relayAll_fits t1 es1 (SetTable.grown es1.size)
    have r2 := relayAll_ris t1 es1 (SetTable.grown es1.size)
    have d2 := relayAll_led t1 es1 (SetTable.grown es1.size)
    generalize relayAll t1 es1 (SetTable.grown es1.size) = N at p2 f2 r2 d2 ⊢
    rcases N with ⟨es2, t2, gone⟩
    have z2 : es2.size < scanBound := by
      rw [← Array.length_toList, List.Perm.length_eq p2, Array.length_toList]
      exact z1
    refine wpAny_bind (silent _ _ _ (wpAny_bind (wpAny_storeSet_of at1 rfl ?_ (fits_of_scanBound z2))))
    exact wpAny_pure (q _ (b1.trans (Heap.SameBut.update _ a _)) ⟨{ o with data := .set es2 (ep + 1 + 1) t2 }, es2, ep + 1 + 1, t2, stored (o := { o with data := .set es1 (ep + 1) t1 }) at1 rfl, px, rfl, fun e m => f1 e (p2.mem_iff.mp m), (p2.map txt).trans m1, n1, l1, f2, r2, d1.imp id fun y => d2.trans y⟩)
  · rw [if_neg c]
    exact wpAny_pure (q _ b1 ⟨_, es1, _, t1, ⟨at1, px, rfl, f1, m1, n1, l1, fit1, r1, d1⟩⟩)
/-- one text more -/
theorem addText {x : Str} {u : Tok} {Q : Bool → Shared → Prop} (B : TSet w s.heap a xs) (room : x ∉ xs → xs.length + 1 < 64)
    (q : ∀ h' b ys, Heap.SameBut a s.heap h' → TSet w h' a ys → (x ∈ xs ∧ ys = xs ∨ x ∉ xs ∧ ys = x :: xs) → Q b { s with heap := h' }) :
    wpAny (model P w) A (setAddHashed a (.str x u) (hashStr w x)) Q E s := by
  obtain ⟨o, es, ep, t, B⟩ := B
  have key := strKind_is P w x u
  have parts := B.parts (P := P)
  have scn : (Value.str x u).scannable = true := rfl
  delta setAddHashed setAddHashedIn
  refine wpAny_holding (wpAny_bind (wpAny_setState_of B.here B.what B.fit ?_))
  dsimp only
  rw [byScan_of (knd := PySem.strKind P w) scn B.small parts, if_pos rfl]
  delta setAddByScan
  refine wpAny_bind (wpAny_bind (wpAny_rule (wpAny_bind (wpAny_setScan_of (knd := PySem.strKind P w) key B.here B.what B.fit parts ?_))))
  cases fnd : List.findIdx? (fun e => (PySem.strKind P w).is x e.2) es.toList with
  | none =>
    have out : x ∉ xs := fun m => by
      obtain ⟨e, me, et⟩ := List.mem_map.mp (B.mem.mem_iff.mpr m)
      have no := List.findIdx?_eq_none_iff.mp fnd e me
      rw [(fine_is (P := P) (B.fine e me) x).mpr et] at no
      cases no
    have loud : ∀ (b : Bool) (s1 : Shared) (R : Unit → Shared → Prop), R () s1 → wpAny (model P w) A (match b with | true => rule "set.scan.the-table-gave-way" | false => pure ()) R E s1 := fun b s1 R r => by
      cases b
      · exact wpAny_pure r
      · exact wpAny_rule r
    have p1 := layNew_perm t es (hashStr w x) (.str x u)
    have f1 := layNew_fits t es (hashStr w x) (.str x u)
    have r1 := layNew_ris t es (hashStr w x) (.str x u) B.ris
    have d1 := layNew_led t es (hashStr w x) (.str x u)
    dsimp only
    generalize layNew t es (hashStr w x) (.str x u) = N at p1 f1 r1 d1 ⊢
    rcases N with ⟨es1, t1, wd, gone⟩
    dsimp only at p1 f1 r1 d1 ⊢
    rw [Array.toList_push] at p1
    have p2 := p1.trans (List.perm_append_singleton (hashStr w x, Value.str x u) es.toList)
    have fine1 : ∀ e ∈ es1.toList, Fine w e := fun e m => (List.mem_cons.mp (p2.mem_iff.mp m)).elim (fun z => ⟨x, u, z⟩) (B.fine e)
    have mem1 : (es1.toList.map txt).Perm (x :: xs) := (p2.map txt).trans (B.mem.cons x)
    have led1 : w.params.followText "set-order" = true ∨ t1.led = true := B.led.imp id fun y => d1.trans y
    have nd1 := List.nodup_cons.mpr ⟨out, B.nd⟩
    have fin : ∀ h', Heap.SameBut a s.heap h' → TSet w h' a (x :: xs) → Q true { s with heap := h' } := fun h' sb T => q h' true _ sb T (.inr ⟨out, rfl⟩)
    refine wpAny_bind (loud _ _ _ ?_)
    split
    · rw [hashByValue_scannable 8 scn]
      refine wpAny_bind (wpAny_pure ?_)
      refine ends loud B.here B.pure' B.what fine1 mem1 nd1 (room out) ?_ ?_ ?_ fun h' sb T => ?_
      · first | (split <;> first | exact f1 | exact SetTable.fits_plain_off f1) | exact f1
      · first | (split <;> exact r1) | exact r1
      · first | (split <;> exact led1) | exact led1
      · exact wpAny_pure (fin h' sb T)
    · refine wpAny_bind (wpAny_pure ?_)
      simp only [↓reduceIte]
      exact ends loud B.here B.pure' B.what fine1 mem1 nd1 (room out) f1 r1 led1 fun h' sb T => wpAny_pure (fin h' sb T)
  | some j =>
    obtain ⟨lt, hit, _⟩ := List.findIdx?_eq_some_iff_getElem.mp fnd
    have m := List.getElem_mem lt
    have inn : x ∈ xs := by
      rw [← (fine_is (P := P) (B.fine _ m) x).mp hit]
      exact B.mem.mem_iff.mp (List.mem_map.mpr ⟨_, m, rfl⟩)
    exact wpAny_pure (wpAny_pure (q s.heap _ xs (Heap.SameBut.refl a s.heap) ⟨o, es, ep, t, B⟩ (.inl ⟨inn, rfl⟩)))
/-- what the first i of ks have brought -/
def Got (ks : List Str) (i : Nat) (xs : List Str) : Prop := xs.length ≤ i ∧ ∀ k, k ∈ xs ↔ k ∈ ks.take i
theorem Got.more {ks xs ys : List Str} {i : Nat} {x : Str} (F : Got ks i xs) (e : ks[i]? = some x) (c : x ∈ xs ∧ ys = xs ∨ x ∉ xs ∧ ys = x :: xs) : Got ks (i + 1) ys := by
  have et : ks.take (i + 1) = ks.take i ++ [x] := by rw [List.take_succ, e]; rfl
  rcases c with ⟨m, rfl⟩ | ⟨_, rfl⟩
  · refine ⟨Nat.le_succ_of_le F.1, fun k => ?_⟩
    rw [et, List.mem_append, List.mem_singleton, ← F.2 k]
    exact ⟨.inl, fun z => z.elim id fun y => y ▸ m⟩
  · refine ⟨Nat.succ_le_succ F.1, fun k => ?_⟩
    rw [et, List.mem_append, List.mem_singleton, List.mem_cons, F.2 k]
    exact Or.comm
/-- the walk that fills a set -/
theorem fill {I : Addr} {fp wr : List Addr} {G : Array GenState → Array GenState → Prop} {Pv : Nat → Value → Prop} {St : Nat → Shared → Prop} {R : Result → Shared → Prop} {ks : List Str}
    (W : WalksS P w A.in1 I fp wr G ks.length Pv St) {S : Addr} (off : S ∉ fp) (few : ks.length < 64) (val : ∀ i v, Pv i v → ∃ x u, ks[i]? = some x ∧ v = .str x u) :
    ∀ (m i : Nat) (s : Shared), i + m = ks.length → St i s → (∃ xs, TSet w s.heap S xs ∧ Got ks i xs) →
      (∀ s' xs, Moved (S :: wr) G s s' → TSet w s'.heap S xs → Got ks ks.length xs → R (.ok (.ret .none)) s') →
      codeAny (model P w) A (.builtin "set.update.loop" ⟨[.ref S, .ref I], []⟩) R s := by
  have offW : S ∉ wr := fun z => off (W.sub _ z)
  have up : ∀ b ∈ wr, b ∈ S :: wr := fun _ => List.mem_cons_of_mem _
  intro m
  induction m with
  | zero =>
    rintro i s em st ⟨xs, B, fd⟩ q
    obtain rfl : i = ks.length := em
    refine codeAny_builtin F.entry_set_update_loop ?_
    rw [Around.under_plainId F.plain_set_update_loop _]
    refine wpAny_bind (W.done s _ _ st fun s' mv => ?_)
    exact wpAny_pure (q s' xs (mv.mono up) (B.go fun o e => mv.heap S o offW e) fd)
  | succ m ih =>
    rintro i s em st ⟨xs, B, fd⟩ q
    refine codeAny_builtin F.entry_set_update_loop ?_
    rw [Around.under_plainId F.plain_set_update_loop _]
    refine wpAny_bind (W.item i s _ _ (by omega) st fun v s' pv st' mv => ?_)
    obtain ⟨x, u, hx, rfl⟩ := val i v pv
    have B' := B.go (h' := s'.heap) fun o e => mv.heap S o offW e
    refine wpAny_bind (wpAny_holding ?_)
    unfold setAdd
    refine wpAny_holding (wpAny_bind ((PySem.strKind P w).pyHash (strKind_is P w x u) ?_))
    refine addText (s := { s' with toks := s'.toks + 1 }) B' (fun _ => by have := fd.1; omega) fun h' b ys sb B2 c => ?_
    refine wpAny_pure ⟨plainId_quiet F.plain_set_update_loop _, ih (i + 1) _ (by omega) (W.frame _ s' _ _ st' (Nat.le_add_right _ _) fun b hb o e => ?_) ⟨ys, B2, fd.more hx c⟩ fun s2 zs mv2 B3 F3 => ?_⟩
    · exact (sb.2 b fun z => off (z ▸ hb)).trans e
    · refine q s2 zs (Moved.trans W.gtrans ((mv.mono up).then_heap (Nat.le_add_right _ _) fun b o hb e => ?_) mv2) B3 F3
      exact (sb.2 b fun z => hb (z ▸ List.mem_cons_self)).trans e
abbrev empty (w : World) : Obj := { cls := .type "set", dict := none, data := .set #[] 0 (.fresh 0 0 (!w.params.followText "set-order")) }
theorem TSet.empty {h : Heap} (ho : h.get? a = some (Tx.empty w)) : TSet w h a [] := by
  refine ⟨_, #[], 0, _, ⟨ho, ⟨rfl, rfl, rfl⟩, rfl, fun _ z => (nomatch z), .nil, List.nodup_nil, by decide, rfl, List.Pairwise.nil, ?_⟩⟩
  by_cases c : w.params.followText "set-order" = true
  · exact .inl c
  · exact .inr (by show (!w.params.followText "set-order") = true; simp [c])
set_option maxHeartbeats 3200000 in
/-- set(t) -/
theorem setText {l : Addr} {us : Array Value} {ks : List Str} {Q : Value → Shared → Prop} (quiet : A.handled = none) (hl : s.heap.IsTuple l us) (ku : StrsAre us.toList ks) (few : ks.length < 64)
    (q : ∀ (h' : Heap) (n : Nat) xs, TSet w h' s.heap.objs.size xs → Got ks ks.length xs → (∀ b o, s.heap.get? b = some o → h'.get? b = some o) → Q (.ref s.heap.objs.size) { s with heap := h', toks := n }) :
    wpAny (model P w) A (call (.type "set") [.ref l]) Q E s := by
  have usz : us.size = ks.length := by rw [← ku.len_eq, Array.length_toList]
  obtain ⟨c0, tl0, mro0⟩ := F.called_set.mro
  have f1 := F.called_set.made
  have f2 := F.called_set.sub
  have f3 := F.called_set.notType
  have f4 := F.called_set.canCreate
  have f5 := F.typeCall_set_1 (.ref l)
  refine wpAny_call (codeAny_of_tree (wpAny_pure ⟨Code.quiet_builtin _ (by decide +kernel), codeAny_builtin F.entry_type_call ?_⟩))
  rw [Around.under_plain (weight_type_call_type "set" [.ref l] []) rfl]
  repeat (any_goals (first | assumption | wp_step))
  refine codeAny_mono (code_set_led1 (.ref l) (E := E) (Q₁ := fun v s1 => v = .ref s.heap.objs.size ∧ s1 = { s with heap := s.heap.push (Tx.empty w) }) ⟨rfl, rfl⟩) fun r s1 z => ?_
  rcases r with e | fl
  · exact z
  cases fl with
  | ret v =>
    obtain ⟨rfl, rfl⟩ := z
    have at0 : (s.heap.push (Tx.empty w)).get? s.heap.objs.size = some (Tx.empty w) := Heap.get?_push_size _ rfl
    have ty0 : Shared.TypeIs { s with heap := s.heap.push (Tx.empty w) } (.ref s.heap.objs.size) "set" := ⟨_, at0, rfl⟩
    have f6 := F.called_set.init.lookup
    have f7 := F.called_set.init.bind (.ref s.heap.objs.size)
    repeat (any_goals (first | assumption | wp_step))
    refine codeAny_mono (codeAny_call_builtin (R := wants (fun v s2 => v = .none ∧ ∃ h' n xs, s2 = { s with heap := h', toks := n } ∧ TSet w h' s.heap.objs.size xs ∧ Got ks ks.length xs ∧ ∀ b o, s.heap.get? b = some o → h'.get? b = some o) E)
      F.called_set.init.plain F.entry_set_init (check_set_init_1 ty0 ?_)) fun r s2 z => ?_
    · have lt : l < s.heap.objs.size := hl.elim fun o z => Heap.lt_size z.1
      have hl1 : (s.heap.push (Tx.empty w)).IsTuple l us := hl.push _
      obtain ⟨⟨oc, od, odt, os⟩, ol, rfl, nl, rfl⟩ := hl
      have ol1 : (s.heap.push (Tx.empty w)).get? l = some { cls := .type "tuple", dict := od, data := .seq us nl, slots := os } := Heap.get?_push_of_some _ ol
      have g1 := F.sub_tuple_set
      have g2 := F.sub_tuple_frozenset
      have g3 : (Value.type "tuple" == Value.type "dict") = false := by decide
      unfold Builtin.«set.__init__» noKeywords Builtin.Frozenset.updateFrom
      generalize epi : pyIter = pi
      wp_walk
      subst epi
      refine wpAny_pyIter_tuple hl1 (wpAny_bind (wpAny_runValue ?_))
      have sz1 : (s.heap.push (Tx.empty w)).objs.size = s.heap.objs.size + 1 := Heap.size_push ..
      have ne : l ≠ (s.heap.push (Tx.empty w)).objs.size := by rw [sz1]; exact Nat.ne_of_lt (Nat.lt_succ_of_lt lt)
      have W := (Walks.tuple (prog := P) (w := w) (A := A.in1.in1.in1) (by simp [quiet]) _ l ne us).toS
      rw [usz] at W
      refine fill (ks := ks) W (S := s.heap.objs.size) (fun z => by rw [sz1] at z; rcases List.mem_cons.mp z with z | z; exact absurd z (Nat.ne_of_lt (Nat.lt_succ_self _)); exact absurd (List.mem_singleton.mp z) (Nat.ne_of_gt lt)) few (fun i v hv => ?_) ks.length 0 _ (Nat.zero_add _) ⟨⟨_, Heap.get?_push_size _ rfl, rfl, rfl⟩, hl1.push _⟩
        ⟨[], TSet.empty (Heap.get?_push_of_some _ at0), Nat.le_refl _, fun k => by rw [List.take_zero]⟩ fun s' xs mv B fd => ?_
      · have z : us.toList[i]? = some v := by rw [Array.getElem?_toList]; exact hv
        obtain ⟨u, e⟩ := SS.strs_at ku i v z
        refine ⟨_, u, ?_, e⟩
        have lt : i < ks.length := by
          rw [← usz]
          exact (Array.getElem?_eq_some_iff.mp hv).1
        rw [List.getD_eq_getElem?_getD, List.getElem?_eq_getElem lt]
        rfl
      · have k : ∀ b o, s.heap.get? b = some o → s'.heap.get? b = some o := fun b o e => mv.heap b o (fun z => by
          have lb := Heap.lt_size e
          rcases List.mem_cons.mp z with z | z
          · exact absurd z (Nat.ne_of_lt lb)
          · have e1 : b = s.heap.objs.size + 1 := (List.mem_singleton.mp z).trans sz1
            exact absurd lb (by rw [e1]; exact Nat.not_lt.mpr (Nat.le_succ _))) (Heap.get?_push_of_some _ (Heap.get?_push_of_some _ e))
        rcases s' with ⟨h', gs, dr, n, so⟩
        cases (show gs = s.gens from mv.gens)
        cases (show dr = s.drawn from mv.drawn)
        cases (show so = s.os from mv.os)
        exact wpAny_pure (wpAny_pure ⟨rfl, h', n, xs, rfl, B, fd, k⟩)
    · rcases r with e | fl
      · exact z
      cases fl with
      | ret v =>
        obtain ⟨rfl, h', n, xs, rfl, B, fd, k⟩ := z
        repeat (any_goals (first | assumption | wp_step))
        exact q h' n xs B fd k
      | _ => exact z.elim
  | _ => exact z.elim
/-- sorted(set) -/
theorem strsAre_txt : ∀ (vs : List Value), (∀ v ∈ vs, ∃ x u, v = Value.str x u) → StrsAre vs (vs.map fun v => txt (0, v))
  | [], _ => .nil
  | v :: vs, all => by
    obtain ⟨x, u, rfl⟩ := all v List.mem_cons_self
    exact .cons x u (strsAre_txt vs fun y m => all y (List.mem_cons_of_mem _ m))
theorem sortText {Q : Value → Shared → Prop} (B : TSet w s.heap a xs) (quiet : A.handled = none)
    (q : ∀ s' p (out : Array Value) (c : Nat) (ys : List Str), (∀ b o, s.heap.get? b = some o → s'.heap.get? b = some o) → s'.gens = s.gens → s'.os = s.os → s.heap.objs.size ≤ p →
      s'.heap.get? p = some (seqObj "list" out c) → StrsAre out.toList ys → ys.Perm xs → sortedS ys = true → Q (.ref p) s') :
    wpAny (model P w) A (call (.builtin "sorted") [.ref a]) Q E s := by
  obtain ⟨o, es, ep, t, B⟩ := B
  refine Calls.call_function_entry kind_sorted plain_sorted entry_sorted (args_sorted1 _) ?_
  delta Builtin.«sorted»
  refine wpAny_bind (m := checkCount "sorted" 1 1 _) (wpAny_pure (wpAny_bind (collect_set (A := A.in1) quiet ⟨o, B.here, B.pure'.1, B.what⟩ B.fit B.small B.ris B.led fun s1 vs k1 sz1 gn1 os1 pm => ?_)))
  have lv : vs.length = xs.length := by rw [pm.length_eq, List.length_map, Array.length_toList, B.size]
  have few := B.few
  have all : ∀ v ∈ vs, ∃ x u, v = Value.str x u := fun v m => by
    obtain ⟨e, me, rfl⟩ := List.mem_map.mp (pm.mem_iff.mp m)
    obtain ⟨x, u, rfl⟩ := B.fine e me
    exact ⟨x, u, rfl⟩
  have S := strsAre_txt vs all
  have pt : (vs.map fun v => txt (0, v)).Perm xs := by
    refine List.Perm.trans ?_ B.mem
    have := pm.map fun v => txt (0, v)
    rwa [List.map_map] at this
  refine wpAny_bind (wpAny_newList ?_ (by rw [lv, sizeLine_eq]; omega))
  have oL : (s1.heap.push (seqObj "list" vs.toArray 0)).get? s1.heap.objs.size = some (seqObj "list" vs.toArray 0) := Heap.get?_push_size _ rfl
  refine wpAny_bind (wpAny_holding (wpAny_call_entry slot_list_sort ⟨_, oL, rfl⟩ entry_list_sort (list_sort_treeK strKind_oneLt oL S.keysOf (fun v₁ v₂ rest e => keyKind_strs (by rw [← e]; exact S)) (by omega) fun st' a1 a2 => ⟨_, rfl, ?_⟩) (args_list_sort _)))
  obtain ⟨ys, b1, b2, b3⟩ := sorted_out_str S a1 a2
  obtain ⟨c, hc⟩ := sortedHeap_at (vs := vs) (out := (arrOf st').map (·.2)) oL
  refine wpAny_pure ⟨_, rfl, q _ s1.heap.objs.size _ c ys (fun b u e => ?_) gn1 os1 sz1 hc b1 (b2.trans pt) b3⟩
  have old := k1 b u e
  have lt := Heap.lt_size old
  refine (sortedHeap_old (Nat.ne_of_lt lt) (by rw [size_push']; exact Nat.lt_succ_of_lt lt)).trans ?_
  exact Heap.get?_push_of_some _ old
end
/-! over the layer -/
def SetS (w : World) (a : Addr) (xs : List Str) : HO := .ext fun h => TSet w h a xs
theorem setS_new {P : Program} {w : World} {H : Hp} {h : Heap} {a : Addr} {xs : List Str} (B : TSet w h a xs) : ObjOk P w H h a (SetS w a xs) :=
  ⟨B, B.elim fun o z => z.elim fun _ z => z.elim fun _ z => z.elim fun _ z => ⟨o, z.here⟩, fun h1 h2 p k => TSet.go p k⟩
section
variable {X : Cx}
def rSetS (K : PySem.W.Frag) (w : World) : List V → Hp → VK → Prop := fun vs H Q => ∃ (l : Addr) (ks : List Str), vs = [.ref l] ∧ SqT K H l (ks.map V.str) ∧ ks.length < 64 ∧
  ∀ a xs, H a = none → (∀ k, k ∈ xs ↔ k ∈ ks) → xs.Nodup → Q (.ref a) (upd H a (SetS w a xs))
theorem cr_setS (hc : X.calm = true) : CallR X (.type "set") (rSetS X.K X.w) := by
  rintro pins s σ H vs us Q I r ⟨l, ks, rfl, hl, few, q⟩
  rw [Vals.ref1 r]
  obtain ⟨its, rv, pl, _⟩ := I.tuple hl
  refine setText (I.ok.hd hc) pl (by simpa using rv.strs) few fun h' n xs B fd k => ?_
  have nd : xs.Nodup := B.elim fun _ z => z.elim fun _ z => z.elim fun _ z => z.elim fun _ z => z.nd
  refine ⟨.ref s.heap.objs.size, upd H s.heap.objs.size (SetS X.w s.heap.objs.size xs), I.laid (t' := n) k (Nat.le_refl _) (setS_new B), rfl, q _ xs (I.hok.fresh (Nat.le_refl _)) (fun y => ?_) nd⟩
  have := fd.2 y
  rwa [List.take_length] at this
def rSortS (w : World) : List V → Hp → VK → Prop := fun vs H Q => ∃ (a : Addr) (xs : List Str), vs = [.ref a] ∧ H a = some (SetS w a xs) ∧ ∀ ys p, ys.Perm xs → sortedS ys = true → H p = none → Q (.ref p) (upd H p (.lst (ys.map V.str)))
theorem cr_sortS (hc : X.calm = true) : CallR X (.builtin "sorted") (rSortS X.w) := by
  rintro pins s σ H vs us Q I r ⟨a, xs, rfl, ha, q⟩
  rw [Vals.ref1 r]
  have B : TSet X.w s.heap a xs := (I.hok a _ ha).1
  have few : xs.length < 64 := B.elim fun _ z => z.elim fun _ z => z.elim fun _ z => z.elim fun _ z => z.few
  refine sortText B (I.ok.hd hc) fun s' p out c ys k gn os hp hg hs pm up => ?_
  have hlen : (ys.map V.str).length ≤ sizeLine := by rw [List.length_map, pm.length_eq, sizeLine_eq]; omega
  have np : H p = none := I.hok.fresh hp
  have J : Inv X pins σ (upd H p (.lst (ys.map V.str))) { s with heap := s'.heap, gens := s'.gens, drawn := s'.drawn, toks := s'.toks } :=
    I.call (ch := []) (Un.laid k hp np) (I.hok.laid k hp ⟨hlen, out.toList, c, vals_of_strs hs, hg⟩) (gn ▸ I.bare) (fun _ z => nomatch z)
  rcases s' with ⟨h', gs, dr, n, so⟩
  cases os
  exact ⟨.ref p, _, J, rfl, q ys p pm up np⟩
end
end Tx
/-! ### a text taken so many times -/
namespace Mu
open PySem PySem.Spec PyProof.Rows L2
theorem op_mul_str {X : Cx} : OpR X (binaryOp .Mult) (fun x y H Q => ∃ (a : Str) (n : Int), x = .str a ∧ y = .int n ∧ MulOk a n ∧ Q (.str (Txt.mul a n)) H) := by
  intro pins s σ H x y v u Q I rx ry h
  obtain ⟨a, n, rfl, rfl, ok, q⟩ := h
  obtain ⟨t, rfl⟩ := rx
  obtain ⟨t', rfl⟩ := ry
  exact SB.mul ok fun t' k => ⟨.str (Txt.mul a n), H, I.tok _, ⟨_, rfl⟩, q⟩
theorem sizeLine_eq' : sizeLine = 16777216 := by decide
theorem rep_list : ∀ (k : Nat) (acc : Array Nat), ((List.replicate k (#[57] : Array Nat)).foldl (· ++ ·) acc).toList = acc.toList ++ List.replicate k 57
  | 0, acc => (List.append_nil _).symm
  | k + 1, acc => by
    show ((List.replicate k (#[57] : Array Nat)).foldl (· ++ ·) (acc ++ #[57])).toList = _
    rw [rep_list k (acc ++ #[57]), Array.toList_append, List.append_assoc]
    rfl
theorem nines {n : Int} (h : 2 ≤ n) (h2 : n ≤ 5000) : MulOk "9" n ∧ (Txt.mul "9" n).cps.toList = List.replicate n.toNat 57 := by
  have l1 : (Str.ofString "9").length = 1 := rfl
  refine ⟨⟨?_, fun _ _ => ?_, fun _ _ => ?_⟩, ?_⟩
  · rw [decide_eq_false (by omega), decide_eq_false (by omega)]
    rfl
  · rw [l1]
    have := Int.le_ediv_of_mul_le (c := n) (a := 1) (b := 2 ^ 63 - 1) (by omega) (by omega)
    omega
  · rw [l1]
    show decide (1 * n.toNat > sizeLine) = false
    refine decide_eq_false ?_
    rw [sizeLine_eq']
    omega
  · unfold Txt.mul
    rw [if_neg (by omega), if_neg (by rw [l1]; simp; omega)]
    show ((List.replicate n.toNat (#[57] : Array Nat)).foldl (· ++ ·) #[]).toList = _
    rw [rep_list]
    rfl
end Mu
/-! ### for a, b in zip(text, list) -/
namespace Zl
open PySem PySem.Spec PyProof.Rows L2
def Itzl (K : PySem.W.Frag) (x : Str) (b : Addr) : It :=
  ⟨fun i H => ∃ (ys : List V) (c : Nat) (y : V), SqL K H b ys ∧ x.cps[i]? = some c ∧ ys[i]? = some y,
    fun i H v H' => ∃ T c y, v = .ref T ∧ H T = none ∧ H' = upd H T (.tup [.str ⟨#[c]⟩, y]) ∧ x.cps[i]? = some c ∧ ∀ ys, SqL K H b ys → ys[i]? = some y,
    fun i H => ∃ ys : List V, SqL K H b ys ∧ i ≤ x.cps.size ∧ i ≤ ys.length ∧ (i = x.cps.size ∨ i = ys.length)⟩
theorem turn_zl {P : Program} {w : World} {K : PySem.W.Frag} {elts : List Expr} {kk : Nat} {tpos : Pos} {x : Str} {t : Tok} {b z TI TO i1 i2 : Addr} (D : ZipSep2 z TI TO i1 i2 [i1] [i2, b]) (hne : b ≠ i2) :
    Turn P w K (.Tuple elts kk tpos) (Itzl K x b) [z, TI, TO, i1, i2] z (fun i h => IsZip h z TI TO .none ∧ IsTupOf2 h TI (.ref i1) (.ref i2) ∧ (∃ a1 a2, IsTupOf2 h TO a1 a2) ∧ h.IsStrIter i1 (strIterType x) x t i ∧ h.IsListIter i2 b i) where
  mem := List.mem_cons_self ..
  obj := fun i h st c hc => by
    obtain ⟨hz, hTI, ⟨a1, a2, hTO⟩, ⟨o1, e1, _, d1⟩, ⟨o2, e2, _, d2⟩⟩ := st
    have hc' : c = z ∨ c = TI ∨ c = TO ∨ c = i1 ∨ c = i2 := by simpa using hc
    rcases hc' with rfl | rfl | rfl | rfl | rfl
    · exact ⟨_, hz, fun v q => nomatch q⟩
    · exact ⟨_, hTI, fun v q => nomatch q⟩
    · exact ⟨_, hTO, fun v q => nomatch q⟩
    · exact ⟨o1, e1, fun v q => by rw [d1] at q; cases q⟩
    · exact ⟨o2, e2, fun v q => by rw [d2] at q; cases q⟩
  keep := fun i h h' st k => by
    obtain ⟨hz, hTI, ⟨a1, a2, hTO⟩, ⟨o1, e1, r1⟩, ⟨o2, e2, r2⟩⟩ := st
    exact ⟨k z (by simp) _ hz, k TI (by simp) _ hTI, ⟨a1, a2, k TO (by simp) _ hTO⟩, ⟨o1, k i1 (by simp) _ e1, r1⟩, ⟨o2, k i2 (by simp) _ e2, r2⟩⟩
  item := by
    intro X hP hw hK hc i pins s σ H E I hf st hg
    subst hP hw hK
    obtain ⟨hz, hTI, ⟨a1, a2, hTO⟩, h1, h2⟩ := st
    obtain ⟨ys, c0, y, hq, hx, hy⟩ := hg
    obtain ⟨its, rv, p, _⟩ := I.list hq
    have hi1 : i < x.cps.size := (Array.getElem?_eq_some_iff.mp hx).1
    have hi2 : i < its.toArray.size := by
      have := (List.getElem?_eq_some_iff.mp hy).1
      rw [rv.length] at this
      simpa using this
    have hzl : z < s.heap.objs.size := Heap.lt_size hz
    have D1 := Draws.text (prog := X.prog) (w := X.w) (A := X.A.in1) (I.ok.hd hc) i1 x t
    have D2 := Draws.list (prog := X.prog) (w := X.w) (A := X.A.in1) (I.ok.hd hc) i2 b hne its.toArray
    refine wpAny_pyNext_zipD2_item (A := X.A) D D1 D2 hz hTI hTO h1 ⟨h2, p.isList⟩ hi1 hi2 fun x1 x2 h' tk hp1 hp2 z' TO' s1' s2' hT hsz hk => ?_
    obtain ⟨c1, u1, ec, rfl⟩ := hp1
    obtain rfl : c0 = c1 := Option.some.inj (hx.symm.trans ec)
    refine ⟨_, rfl, wpAny_letOwnedTupleGo_zip (s := { s with heap := h', toks := tk }) z' fun h'' z'' sb => ?_⟩
    have hT2 : h''.get? s.heap.objs.size = some { cls := .type "tuple", data := .seq #[.str ⟨#[c0]⟩ u1, x2] } := (sb.2 _ (Nat.ne_of_gt hzl)).trans hT
    obtain ⟨u2, hu2, ru2⟩ := rv.get hy
    have ex2 : x2 = u2 := by
      have e1 : its.toArray[i]? = some u2 := by simpa using hu2
      exact Option.some.inj (hp2.symm.trans e1)
    subst ex2
    have new : ObjOk X.prog X.w (upd H s.heap.objs.size (.tup [.str ⟨#[c0]⟩, y])) h'' s.heap.objs.size (.tup [.str ⟨#[c0]⟩, y]) :=
      ⟨by show 2 ≤ sizeLine; decide, [.str ⟨#[c0]⟩ u1, x2], .cons ⟨u1, rfl⟩ (.cons ru2 .nil), ⟨_, hT2, rfl, _, rfl⟩⟩
    have J : Inv X pins σ (upd H s.heap.objs.size (.tup [.str ⟨#[c0]⟩, y])) { s with heap := h'', toks := tk } :=
      I.turnedNew (t' := tk) (ch := [z, TI, TO, i1, i2]) (fun c o hb q => (sb.2 c (fun e => hb (by simp [e]))).trans (hk c o (fun e => hb (by simp [e])) (fun e => hb (by simp [e])) (fun e => hb (by simp [e])) (fun e => hb (by simp [e])) q)) hf (Nat.le_refl _) new
    refine ⟨.ref s.heap.objs.size, _, J, rfl, ⟨_, c0, y, rfl, I.hok.fresh (Nat.le_refl _), rfl, hx, fun l hl => by rw [I.list_inj hl hq]; exact hy⟩, ⟨z'', ?_, ⟨_, _, (sb.2 _ D.TOz).trans TO'⟩, ?_, ?_⟩, fun c hcm => ?_⟩
    · exact (sb.2 _ D.TIz).trans (hk _ _ D.TIz D.TITO D.TIi1 D.TIi2 hTI)
    · obtain ⟨o, e, r⟩ := s1'
      exact ⟨o, (sb.2 _ (fun q => D.zi1 q.symm)).trans e, r⟩
    · obtain ⟨⟨o, e, r⟩, _⟩ := s2'
      exact ⟨o, (sb.2 _ (fun q => D.zi2 q.symm)).trans e, r⟩
    · have hlt : c < s.heap.objs.size := by
        have hc' : c = z ∨ c = TI ∨ c = TO ∨ c = i1 ∨ c = i2 := by simpa using hcm
        rcases hc' with rfl | rfl | rfl | rfl | rfl
        · exact hzl
        · exact Heap.lt_size hTI
        · exact Heap.lt_size hTO
        · obtain ⟨_, e1, _⟩ := h1; exact Heap.lt_size e1
        · obtain ⟨_, e2, _⟩ := h2; exact Heap.lt_size e2
      rw [upd_ne (Nat.ne_of_lt hlt)]
      exact (hf c hcm).1
  done := by
    intro X hP hw hK hc i pins s σ H E I hf st hg
    subst hP hw hK
    obtain ⟨hz, hTI, ⟨a1, a2, hTO⟩, h1, h2⟩ := st
    obtain ⟨ys, hq, l1, l2, he⟩ := hg
    obtain ⟨its, rv, p, _⟩ := I.list hq
    have hl : its.toArray.size = ys.length := by rw [rv.length]; simp
    have D1 := Draws.text (prog := X.prog) (w := X.w) (A := X.A.in1) (I.ok.hd hc) i1 x t
    have D2 := Draws.list (prog := X.prog) (w := X.w) (A := X.A.in1) (I.ok.hd hc) i2 b hne its.toArray
    refine wpAny_pyNext_zipD2_end (A := X.A) D D1 D2 hz hTI hTO h1 ⟨h2, p.isList⟩ l1 (by omega) (by omega) fun h' tk hk => ⟨rfl, ?_⟩
    exact I.turnedL (t' := tk) (ch := [z, TI, TO, i1, i2]) (fun c o hb q => hk c o (fun e => hb (by simp [e])) (fun e => hb (by simp [e])) (fun e => hb (by simp [e])) (fun e => hb (by simp [e])) q) hf
  self := fun A i s Q E st h => wpAny_pyIter_zip st.1 h
def iZl (K : PySem.W.Frag) (ta : TA) : TI := fun σ H R => ta σ H fun vs H1 => ∃ x b ys, vs = [.str x, .ref b] ∧ SqL K H1 b ys ∧ R (Itzl K x b) H1
theorem pi_zl {X : Cx} {e e2 : Expr} {ta : TA} {p pos tpos : Pos} {elts : List Expr} {kk : Nat} (hg : Gl X "zip") (hm : X.mg "zip" = none) (ha : PA X [e, e2] ta)
    (hs : starEach [e, e2] X.env = (false, eval e X.env) :: starEach [e2] X.env := by rfl) (hpl : (backTo pos (starEach [e2] X.env)).any (·.1) = false := by rfl) :
    PI X (.Tuple elts kk tpos) (.Call (.Name "zip" p) [e, e2] [] pos) (iZl X.K ta) := by
  refine ⟨fun pins s σ H R I h => ?_⟩
  refine Call_ (ld_blt I hg hm PyProof.Rows.boot_zip (PyProof.Rows.callWith_type1 (thn (ha.run pos pins s σ H _ I h) fun us s1 hh => ?_) hs hpl))
  obtain ⟨vs, H1, J, r1, x, b, ys, ex, hq, q⟩ := hh
  subst ex
  cases r1 with
  | cons r rr =>
    cases rr with
    | cons r' rr =>
      cases rr
      obtain ⟨t, rfl⟩ := r
      cases r'
      obtain ⟨its, rv, p1, _⟩ := J.list hq
      obtain ⟨ob, hob, _⟩ := id p1.isList
      have hb : b < s1.heap.objs.size := Heap.lt_size hob
      refine zip_begins2 (begins_text x t) (begins_list b its.toArray) trivial (show s1.heap.IsList b its.toArray from p1.isList) fun h' hz hTI hTO h1 h2 hsz hk => wpAny_pyIter_zip hz ?_
      have J2 : Inv X pins σ H1 { s1 with heap := h' } := J.kept (t' := s1.toks) hk
      refine ⟨s1.heap.objs.size + 4, [s1.heap.objs.size + 4, s1.heap.objs.size + 2, s1.heap.objs.size + 3, s1.heap.objs.size, s1.heap.objs.size + 1], _, _, H1, rfl, J2, turn_zl (t := t) (zip_sep2 (N := s1.heap.objs.size) (fp1 := []) (fp2 := [b]) (fun _ m => nomatch m) (fun c m => by rw [List.mem_singleton.mp m]; exact hb)) (Nat.ne_of_lt (Nat.lt_succ_of_lt hb)), ⟨hz, hTI, ⟨_, _, hTO⟩, ⟨_, h1, rfl, rfl⟩, ⟨_, h2, rfl, rfl⟩⟩, fun c hcm => ?_, q⟩
      have hle : s1.heap.objs.size ≤ c := by
        have hc' : c = s1.heap.objs.size + 4 ∨ c = s1.heap.objs.size + 2 ∨ c = s1.heap.objs.size + 3 ∨ c = s1.heap.objs.size ∨ c = s1.heap.objs.size + 1 := by simpa using hcm
        rcases hc' with rfl | rfl | rfl | rfl | rfl
        · exact Nat.le_add_right _ _
        · exact Nat.le_add_right _ _
        · exact Nat.le_add_right _ _
        · exact Nat.le_refl _
        · exact Nat.le_add_right _ _
      exact J.fpOk hle (J.hok.fresh hle)
theorem walk_zl {K : PySem.W.Frag} {x : Str} {b : Addr} {ys : List V} (hl : x.cps.size = ys.length) : Walk (Itzl K x b) ys.length (fun H => SqL K H b ys) (fun i H v H' => ∃ T c y, v = .ref T ∧ H T = none ∧ H' = upd H T (.tup [.str ⟨#[c]⟩, y]) ∧ x.cps[i]? = some c ∧ ys[i]? = some y) := by
  refine ⟨fun i H hi q => ?_, fun H q => ⟨ys, q, by omega, Nat.le_refl _, .inr rfl⟩, fun i H v H' hi q y => ?_⟩
  · exact ⟨ys, x.cps[i], ys[i], q, by simp [hl, hi], by simp [hi]⟩
  · obtain ⟨T, c, z, h1, h2, h3, h4, h5⟩ := y
    exact ⟨T, c, z, h1, h2, h3, h4, h5 ys q⟩
end Zl
/-! ### sorted of tuples of texts and whole numbers, the first a text; any two alike, or of unlike first texts -/
namespace Fl
open PySem PySem.W PyProof.Rows
inductive FV : PyData → Value → Prop
  | int (i : Int) (t : Tok) : FV (.int i) (.int i t)
  | str (x : Str) (t : Tok) : FV (.str x) (.str x t)
inductive FVs : List PyData → List Value → Prop
  | nil : FVs [] []
  | cons {d : PyData} {u : Value} {ds : List PyData} {us : List Value} : FV d u → FVs ds us → FVs (d :: ds) (u :: us)
theorem FVs.len : ∀ {ds : List PyData} {us : List Value}, FVs ds us → ds.length = us.length
  | _, _, .nil => rfl
  | _, _, .cons _ r => by rw [List.length_cons, List.length_cons, r.len]
section
variable {prog : Program} {w : World} {A : Around} {E : Value → Shared → Prop} {s : Shared}
theorem flat_lex {b fin : Bool} {Q : Bool → Shared → Prop} : ∀ (xs ys : List PyData) (i : Nat) (us ws : List Value), FVs xs us → FVs ys ws → alikeAll xs ys = true → fin = decide (xs.length < ys.length) →
    Q (lexLt itemOrd (keyToksAll xs) (keyToksAll ys)) s → KatLex prog w A b fin Q (us.zip ws) i s
  | [], [], i, _, _, .nil, .nil, _, hf, hq => by
    have e : fin = false := by rw [hf]; rfl
    subst e
    rw [lex_irrefl] at hq
    exact kat_nil hq
  | [], y :: ys, i, _, _, .nil, _, _, hf, hq => by
    have e : fin = true := by rw [hf]; exact decide_eq_true (Nat.succ_pos _)
    subst e
    rw [toks_all_cons] at hq
    simp only [keyToksAll] at hq
    rw [lex_diff (O := itemOrd) (by simp)] at hq
    rw [List.zip_nil_left]
    exact kat_nil (by simpa [itemLt] using hq)
  | x :: xs, [], i, _, _, _, .nil, _, hf, hq => by
    have e : fin = false := by rw [hf]; exact decide_eq_false (Nat.not_lt_zero _)
    subst e
    rw [toks_all_cons] at hq
    simp only [keyToksAll] at hq
    rw [lex_diff (O := itemOrd) (by simp)] at hq
    rw [List.zip_nil_right]
    exact kat_nil (by simpa [itemLt] using hq)
  | x :: xs, y :: ys, i, _, _, .cons f fs, .cons g gs, h, hf, hq => by
    obtain ⟨h1, h2⟩ := alike_all_cons h
    have hf' : fin = decide (xs.length < ys.length) := by
      rw [hf]
      simp only [List.length_cons, Nat.add_lt_add_iff_right]
    rw [List.zip_cons_cons]
    cases f with
    | int a t =>
      cases g with
      | int c u =>
        refine kat_cons (SeqAt.EqAt.int_int a t c u prog w _ _ ?_)
        cases hx : PyData.eqv (.int a) (.int c) with
        | true =>
          rw [dataLt_all_yes h1 hx] at hq
          have e1 : (a == c) = true := by simpa [PyData.eqv] using hx
          rw [e1]
          exact kat_yes (flat_lex xs ys (i + 1) _ _ fs gs h2 hf' hq)
        | false =>
          rw [dataLt_all_no h1 hx, dataLt_int] at hq
          have e1 : (a == c) = false := by simpa [PyData.eqv] using hx
          rw [e1]
          exact kat_no (oneLt_any_int hq)
      | str c u => exact absurd h1 (by simp [alike])
    | str a t =>
      cases g with
      | int c u => exact absurd h1 (by simp [alike])
      | str c u =>
        refine kat_cons (SeqAt.EqAt.str_str a t c u prog w _ _ ?_)
        cases hx : PyData.eqv (.str a) (.str c) with
        | true =>
          rw [dataLt_all_yes h1 hx] at hq
          have e1 : (a == c) = true := by simpa [PyData.eqv] using hx
          rw [e1]
          exact kat_yes (flat_lex xs ys (i + 1) _ _ fs gs h2 hf' hq)
        | false =>
          rw [dataLt_all_no h1 hx, dataLt_str] at hq
          have e1 : (a == c) = false := by simpa [PyData.eqv] using hx
          rw [e1]
          exact kat_no (oneLt_any_str hq)
def ltD (x y : List PyData) : Bool := lexLt itemOrd (keyToksAll x) (keyToksAll y)
theorem swo_ltD {A : Type} (k : A → List PyData) : SrtO.Swo fun v u => ltD (k v) (k u) := by
  refine ⟨fun x y h => ?_, fun x y z h1 h2 => ?_⟩
  · cases e : ltD (k y) (k x) with
    | false => rfl
    | true =>
      have := lex_trans _ _ _ h e
      rw [lex_irrefl] at this
      cases this
  · cases e : ltD (k z) (k x) with
    | false => rfl
    | true =>
      rcases lex_negTrans _ (keyToksAll (k y)) _ e with q | q
      · exact absurd (h2.symm.trans q) (by decide)
      · exact absurd (h1.symm.trans q) (by decide)
/-! what two such tuples must be to one another -/
def Can (x y : List PyData) : Prop := ∃ a r c t, x = .str a :: r ∧ y = .str c :: t ∧ (a = c → alikeAll r t = true)
def IsFl (h : Heap) (v : Value) (ds : List PyData) : Prop := ∃ a o its n, v = .ref a ∧ h.get? a = some o ∧ o.cls = .type "tuple" ∧ o.data = .seq its n ∧ FVs ds its.toList
theorem IsFl.keeps {h h' : Heap} {v : Value} {ds : List PyData} (p : IsFl h v ds) (k : ∀ b o, h.get? b = some o → o.cls = .type "tuple" → h'.get? b = some o) : IsFl h' v ds := by
  obtain ⟨a, o, its, n, e, ho, hc, r⟩ := p
  exact ⟨a, o, its, n, e, k a o ho hc, hc, r⟩
theorem flat_cmp {vs : List Value} {k : Value → List PyData} (hp : ∀ v ∈ vs, IsFl s.heap v (k v)) (hc : ∀ v ∈ vs, ∀ u ∈ vs, Can (k v) (k u)) : SrtO.Cmp prog w A s (tuples' true) (fun p => p.1 ∈ vs) (SrtO.lt2 fun v u => ltD (k v) (k u)) := by
  intro p q hm hm'
  obtain ⟨a, o, its, n, e, ho, _, hd, f⟩ := hp _ hm
  obtain ⟨a', o', its', n', e', ho', _, hd', f'⟩ := hp _ hm'
  show wpAny (model prog w) A (keyLt' (tuples' true) p.1 q.1) (fun r s' => s' = s ∧ r = ltD (k p.1) (k q.1)) (fun _ _ => False) s
  obtain ⟨x, r, y, t, e1, e2, hal⟩ := hc _ hm _ hm'
  generalize k p.1 = kp at *
  generalize k q.1 = kq at *
  rw [e, e']
  refine kat_lt ho hd ho' hd' ?_
  have z1 : its.size = kp.length := by rw [← Array.length_toList]; exact f.len.symm
  have z2 : its'.size = kq.length := by rw [← Array.length_toList]; exact f'.len.symm
  rw [z1, z2]
  subst e1
  subst e2
  generalize its.toList = us at *
  generalize its'.toList = ws at *
  by_cases hxy : x = y
  · subst hxy
    refine flat_lex _ _ 0 us ws f f' ?_ rfl ⟨rfl, rfl⟩
    show (alike (.str x) (.str x) && alikeAll r t) = true
    rw [hal rfl]
    rfl
  · cases f with
    | cons f1 fs =>
      cases f' with
      | cons g1 gs =>
        cases f1 with
        | str _ tx =>
          cases g1 with
          | str _ ty =>
            rw [List.zip_cons_cons]
            refine kat_cons (SeqAt.EqAt.str_str x tx y ty prog w _ _ ?_)
            have e3 : (x == y) = false := by simpa using hxy
            rw [e3]
            refine kat_no (oneLt_any_str ⟨rfl, ?_⟩)
            have e4 : PyData.eqv (.str x) (.str y) = false := by simpa [PyData.eqv] using hxy
            unfold ltD
            rw [dataLt_all_no (by rfl) e4, dataLt_str]
theorem firsts_fl {h : Heap} {k : Value → List PyData} : ∀ {vs : List Value}, (∀ v ∈ vs, IsFl h v (k v) ∧ ∃ a r, k v = .str a :: r) → ∃ fs : List Value, KatTups h vs fs ∧ fs.length = vs.length ∧ ∀ f ∈ fs, ∃ x t, f = Value.str x t
  | [], _ => ⟨[], KatTups.nil, rfl, fun _ hm => by simp at hm⟩
  | v :: vs, hp => by
    obtain ⟨fs, h1, h2, h3⟩ := firsts_fl (vs := vs) fun v' hm => hp v' (List.mem_cons_of_mem _ hm)
    obtain ⟨⟨a, o, its, n, e, ho, hc, hd, f⟩, x, r, ek⟩ := hp v (List.mem_cons_self ..)
    subst e
    rw [ek] at f
    cases ei : its.toList with
    | nil =>
      rw [ei] at f
      cases f
    | cons u us =>
      rw [ei] at f
      cases f with
      | cons g _ =>
        cases g with
        | str _ t =>
          refine ⟨.str x t :: fs, KatTups.cons ho hc hd ?_ h1, by rw [List.length_cons, List.length_cons, h2], fun f hm => ?_⟩
          · rw [← Array.getElem?_toList, ei]
            rfl
          · rcases List.mem_cons.mp hm with rfl | hm
            · exact ⟨x, t, rfl⟩
            · exact h3 f hm
theorem sorted_fl {l : Addr} {vs : List Value} {k : Value → List PyData} {Q : Value → Shared → Prop} (hl : s.heap.IsList l vs.toArray) (hz : vs.length ≤ sizeLine) (hp : ∀ v ∈ vs, IsFl s.heap v (k v)) (hc : ∀ v ∈ vs, ∀ u ∈ vs, Can (k v) (k u))
    (h : ∀ (h' : Heap) (d : Addr) (out : List Value), SrtO.Srtd (fun v u => ltD (k v) (k u)) out → SrtO.Stb (fun v u => ltD (k v) (k u)) out vs → (∀ b o, s.heap.get? b = some o → h'.get? b = some o) → s.heap.objs.size ≤ d → (∃ n, h'.get? d = some (seqObj "list" out.toArray n)) → Q (.ref d) { s with heap := h' }) :
    wpAny (model prog w) A (call (.builtin "sorted") [.ref l]) Q E s := by
  refine SrtO.sorted_ord (swo_ltD k) hl hz (fun h2 h1 a ha kk => ?_) fun out hs hb => ?_
  · intro h' keep
    have hne : ∀ o, h1.get? a = some o → o.cls ≠ .type "tuple" := fun o e => by
      have e' : some o = some (seqObj "list" vs.toArray 0) := e.symm.trans ha
      cases e'
      intro c
      exact absurd (Value.type.inj c) (by decide)
    have hp' : ∀ v ∈ vs, IsFl h' v (k v) := fun v hm => (hp v hm).keeps fun b o e c => keep b o (fun z => by subst z; exact hne o (kk b o e).2 c) (kk b o e).2
    obtain ⟨fs, f1, f2, f3⟩ := firsts_fl (vs := vs) (k := k) fun v hm => ⟨hp' v hm, by
      obtain ⟨x, r, _, _, e, _⟩ := hc v hm v hm
      exact ⟨x, r, e⟩⟩
    refine ⟨tuples' true, fun Q E hq => ?_, flat_cmp hp' hc⟩
    refine kat_kind (T := .type "str") f1 (by omega) (fun f hm => ?_) (by rfl) ?_
    · obtain ⟨x, t, rfl⟩ := f3 f hm
      exact Looks.now
    · have e : (Value.type "str" != Value.type "tuple") = true := by first | decide +kernel | rfl | decide
      rw [e]
      exact hq
  · exact h _ _ out hs hb (fun b o e => sortedAll_old e) (Nat.le_succ _) (sortedAll_at s.heap vs out.toArray)
end
def dV : PyData → V
  | .int i => .int i
  | .str x => .str x
  | _ => .non
def flatD : PyData → Bool
  | .int _ => true
  | .str _ => true
  | _ => false
theorem fvs_of : ∀ {ds : List PyData} {us : List Value}, ds.all flatD = true → Vals (ds.map dV) us → FVs ds us
  | [], _, _, .nil => .nil
  | d :: ds, _ :: us, h, .cons r rs => by
    rw [List.all_cons, Bool.and_eq_true] at h
    refine .cons ?_ (fvs_of h.2 rs)
    cases d with
    | int i =>
      obtain ⟨t, rfl⟩ := r
      exact .int i t
    | str x =>
      obtain ⟨t, rfl⟩ := r
      exact .str x t
    | _ => exact absurd h.1 (by simp [flatD])
def rSortedFl (K : PySem.W.Frag) : List V → Hp → VK → Prop := fun vs H Q => ∃ (a : Addr) (xs : List V) (k : V → List PyData), vs = [V.ref a] ∧ SqL K H a xs ∧ (∀ x ∈ xs, ∃ t, x = V.ref t ∧ (k x).all flatD = true ∧ H t = some (.tup ((k x).map dV))) ∧ (∀ x ∈ xs, ∀ y ∈ xs, Can (k x) (k y)) ∧
  ∀ ys p, SrtO.Srtd (fun x y => ltD (k x) (k y)) ys → SrtO.Stb (fun x y => ltD (k x) (k y)) ys xs → H p = none → Q (.ref p) (upd H p (.lst ys))
theorem cr_sortedFl {X : Cx} : CallR X (.builtin "sorted") (rSortedFl X.K) := by
  intro pins s σ H vs us Q I r h
  obtain ⟨a, xs, k, rfl, hs, hx, hcan, q⟩ := h
  obtain ⟨its, rv, hl, hz⟩ := I.list hs
  obtain ⟨u, rfl, ru⟩ := vals1 r
  obtain rfl : u = Value.ref a := ru
  obtain ⟨e1, e2⟩ := refs_back rv fun x m => by
    obtain ⟨t, e, _⟩ := hx x m
    exact ⟨t, e⟩
  refine sorted_fl (k := fun u => k (backV u)) hl.isList (by rw [← rv.length]; exact hz) (fun v hv => ?_) (fun v hv u hu => ?_) fun h' d out h1 h2 kp hd hn => ?_
  · obtain ⟨t, rfl⟩ := e2 v hv
    have hm : V.ref t ∈ xs := by rw [e1]; exact List.mem_map.mpr ⟨_, hv, rfl⟩
    obtain ⟨t', e, hf, ht⟩ := hx _ hm
    cases e
    obtain ⟨_, its2, r2, o, ho, hc, n, hd⟩ := I.hok _ _ ht
    exact ⟨t, o, its2.toArray, n, rfl, ho, hc, hd, by rw [List.toList_toArray]; exact fvs_of hf r2⟩
  · exact hcan _ (by rw [e1]; exact List.mem_map.mpr ⟨_, hv, rfl⟩) _ (by rw [e1]; exact List.mem_map.mpr ⟨_, hu, rfl⟩)
  · have h3 : ∀ u ∈ out, ∃ a, u = Value.ref a := fun u hu => e2 u (h2.perm.mem_iff.mp hu)
    obtain ⟨n, hn⟩ := hn
    have hb : SrtO.Stb (fun x y => ltD (k x) (k y)) (out.map backV) xs := by
      rw [e1]
      exact SrtO.Stb.map (swo_ltD k) backV h2
    refine ⟨.ref d, upd H d (.lst (out.map backV)), I.laid (t' := s.toks) kp hd ⟨?_, out, n, vals_back h3, hn⟩, rfl, q _ d (SrtO.srtd_map h1) hb (I.hok.fresh hd)⟩
    rw [hb.len]
    exact hz
end Fl
/-! ### for a, b in zip(text, tuple) -/
namespace Zs
open PySem PySem.Spec PyProof.Rows L2
def Itzs (K : PySem.W.Frag) (x : Str) (b : Addr) : It :=
  ⟨fun i H => ∃ (ys : List V) (c : Nat) (y : V), SqT K H b ys ∧ x.cps[i]? = some c ∧ ys[i]? = some y,
    fun i H v H' => ∃ T c y, v = .ref T ∧ H T = none ∧ H' = upd H T (.tup [.str ⟨#[c]⟩, y]) ∧ x.cps[i]? = some c ∧ ∀ ys, SqT K H b ys → ys[i]? = some y,
    fun i H => ∃ ys : List V, SqT K H b ys ∧ i ≤ x.cps.size ∧ i ≤ ys.length ∧ (i = x.cps.size ∨ i = ys.length)⟩
theorem turn_zs {P : Program} {w : World} {K : PySem.W.Frag} {elts : List Expr} {kk : Nat} {tpos : Pos} {x : Str} {t : Tok} {b z TI TO i1 i2 : Addr} (D : ZipSep2 z TI TO i1 i2 [i1] [i2, b]) (hne : b ≠ i2) :
    Turn P w K (.Tuple elts kk tpos) (Itzs K x b) [z, TI, TO, i1, i2] z (fun i h => IsZip h z TI TO .none ∧ IsTupOf2 h TI (.ref i1) (.ref i2) ∧ (∃ a1 a2, IsTupOf2 h TO a1 a2) ∧ h.IsStrIter i1 (strIterType x) x t i ∧ h.IsTupleIter i2 b i) where
  mem := List.mem_cons_self ..
  obj := fun i h st c hc => by
    obtain ⟨hz, hTI, ⟨a1, a2, hTO⟩, ⟨o1, e1, _, d1⟩, ⟨o2, e2, _, d2⟩⟩ := st
    have hc' : c = z ∨ c = TI ∨ c = TO ∨ c = i1 ∨ c = i2 := by simpa using hc
    rcases hc' with rfl | rfl | rfl | rfl | rfl
    · exact ⟨_, hz, fun v q => nomatch q⟩
    · exact ⟨_, hTI, fun v q => nomatch q⟩
    · exact ⟨_, hTO, fun v q => nomatch q⟩
    · exact ⟨o1, e1, fun v q => by rw [d1] at q; cases q⟩
    · exact ⟨o2, e2, fun v q => by rw [d2] at q; cases q⟩
  keep := fun i h h' st k => by
    obtain ⟨hz, hTI, ⟨a1, a2, hTO⟩, ⟨o1, e1, r1⟩, ⟨o2, e2, r2⟩⟩ := st
    exact ⟨k z (by simp) _ hz, k TI (by simp) _ hTI, ⟨a1, a2, k TO (by simp) _ hTO⟩, ⟨o1, k i1 (by simp) _ e1, r1⟩, ⟨o2, k i2 (by simp) _ e2, r2⟩⟩
  item := by
    intro X hP hw hK hc i pins s σ H E I hf st hg
    subst hP hw hK
    obtain ⟨hz, hTI, ⟨a1, a2, hTO⟩, h1, h2⟩ := st
    obtain ⟨ys, c0, y, hq, hx, hy⟩ := hg
    obtain ⟨its, rv, p, _⟩ := I.tuple hq
    have hi1 : i < x.cps.size := (Array.getElem?_eq_some_iff.mp hx).1
    have hi2 : i < its.toArray.size := by
      have := (List.getElem?_eq_some_iff.mp hy).1
      rw [rv.length] at this
      simpa using this
    have hzl : z < s.heap.objs.size := Heap.lt_size hz
    have D1 := Draws.text (prog := X.prog) (w := X.w) (A := X.A.in1) (I.ok.hd hc) i1 x t
    have D2 := Draws.tuple (prog := X.prog) (w := X.w) (A := X.A.in1) (I.ok.hd hc) i2 b hne its.toArray
    refine wpAny_pyNext_zipD2_item (A := X.A) D D1 D2 hz hTI hTO h1 ⟨h2, p⟩ hi1 hi2 fun x1 x2 h' tk hp1 hp2 z' TO' s1' s2' hT hsz hk => ?_
    obtain ⟨c1, u1, ec, rfl⟩ := hp1
    obtain rfl : c0 = c1 := Option.some.inj (hx.symm.trans ec)
    refine ⟨_, rfl, wpAny_letOwnedTupleGo_zip (s := { s with heap := h', toks := tk }) z' fun h'' z'' sb => ?_⟩
    have hT2 : h''.get? s.heap.objs.size = some { cls := .type "tuple", data := .seq #[.str ⟨#[c0]⟩ u1, x2] } := (sb.2 _ (Nat.ne_of_gt hzl)).trans hT
    obtain ⟨u2, hu2, ru2⟩ := rv.get hy
    have ex2 : x2 = u2 := by
      have e1 : its.toArray[i]? = some u2 := by simpa using hu2
      exact Option.some.inj (hp2.symm.trans e1)
    subst ex2
    have new : ObjOk X.prog X.w (upd H s.heap.objs.size (.tup [.str ⟨#[c0]⟩, y])) h'' s.heap.objs.size (.tup [.str ⟨#[c0]⟩, y]) :=
      ⟨by show 2 ≤ sizeLine; decide, [.str ⟨#[c0]⟩ u1, x2], .cons ⟨u1, rfl⟩ (.cons ru2 .nil), ⟨_, hT2, rfl, _, rfl⟩⟩
    have J : Inv X pins σ (upd H s.heap.objs.size (.tup [.str ⟨#[c0]⟩, y])) { s with heap := h'', toks := tk } :=
      I.turnedNew (t' := tk) (ch := [z, TI, TO, i1, i2]) (fun c o hb q => (sb.2 c (fun e => hb (by simp [e]))).trans (hk c o (fun e => hb (by simp [e])) (fun e => hb (by simp [e])) (fun e => hb (by simp [e])) (fun e => hb (by simp [e])) q)) hf (Nat.le_refl _) new
    refine ⟨.ref s.heap.objs.size, _, J, rfl, ⟨_, c0, y, rfl, I.hok.fresh (Nat.le_refl _), rfl, hx, fun l hl => by rw [I.tuple_inj hl hq]; exact hy⟩, ⟨z'', ?_, ⟨_, _, (sb.2 _ D.TOz).trans TO'⟩, ?_, ?_⟩, fun c hcm => ?_⟩
    · exact (sb.2 _ D.TIz).trans (hk _ _ D.TIz D.TITO D.TIi1 D.TIi2 hTI)
    · obtain ⟨o, e, r⟩ := s1'
      exact ⟨o, (sb.2 _ (fun q => D.zi1 q.symm)).trans e, r⟩
    · obtain ⟨⟨o, e, r⟩, _⟩ := s2'
      exact ⟨o, (sb.2 _ (fun q => D.zi2 q.symm)).trans e, r⟩
    · have hlt : c < s.heap.objs.size := by
        have hc' : c = z ∨ c = TI ∨ c = TO ∨ c = i1 ∨ c = i2 := by simpa using hcm
        rcases hc' with rfl | rfl | rfl | rfl | rfl
        · exact hzl
        · exact Heap.lt_size hTI
        · exact Heap.lt_size hTO
        · obtain ⟨_, e1, _⟩ := h1; exact Heap.lt_size e1
        · obtain ⟨_, e2, _⟩ := h2; exact Heap.lt_size e2
      rw [upd_ne (Nat.ne_of_lt hlt)]
      exact (hf c hcm).1
  done := by
    intro X hP hw hK hc i pins s σ H E I hf st hg
    subst hP hw hK
    obtain ⟨hz, hTI, ⟨a1, a2, hTO⟩, h1, h2⟩ := st
    obtain ⟨ys, hq, l1, l2, he⟩ := hg
    obtain ⟨its, rv, p, _⟩ := I.tuple hq
    have hl : its.toArray.size = ys.length := by rw [rv.length]; simp
    have D1 := Draws.text (prog := X.prog) (w := X.w) (A := X.A.in1) (I.ok.hd hc) i1 x t
    have D2 := Draws.tuple (prog := X.prog) (w := X.w) (A := X.A.in1) (I.ok.hd hc) i2 b hne its.toArray
    refine wpAny_pyNext_zipD2_end (A := X.A) D D1 D2 hz hTI hTO h1 ⟨h2, p⟩ l1 (by omega) (by omega) fun h' tk hk => ⟨rfl, ?_⟩
    exact I.turnedL (t' := tk) (ch := [z, TI, TO, i1, i2]) (fun c o hb q => hk c o (fun e => hb (by simp [e])) (fun e => hb (by simp [e])) (fun e => hb (by simp [e])) (fun e => hb (by simp [e])) q) hf
  self := fun A i s Q E st h => wpAny_pyIter_zip st.1 h
def iZs (K : PySem.W.Frag) (ta : TA) : TI := fun σ H R => ta σ H fun vs H1 => ∃ x b ys, vs = [.str x, .ref b] ∧ SqT K H1 b ys ∧ R (Itzs K x b) H1
theorem pi_zs {X : Cx} {e e2 : Expr} {ta : TA} {p pos tpos : Pos} {elts : List Expr} {kk : Nat} (hg : Gl X "zip") (hm : X.mg "zip" = none) (ha : PA X [e, e2] ta)
    (hs : starEach [e, e2] X.env = (false, eval e X.env) :: starEach [e2] X.env := by rfl) (hpl : (backTo pos (starEach [e2] X.env)).any (·.1) = false := by rfl) :
    PI X (.Tuple elts kk tpos) (.Call (.Name "zip" p) [e, e2] [] pos) (iZs X.K ta) := by
  refine ⟨fun pins s σ H R I h => ?_⟩
  refine Call_ (ld_blt I hg hm PyProof.Rows.boot_zip (PyProof.Rows.callWith_type1 (thn (ha.run pos pins s σ H _ I h) fun us s1 hh => ?_) hs hpl))
  obtain ⟨vs, H1, J, r1, x, b, ys, ex, hq, q⟩ := hh
  subst ex
  cases r1 with
  | cons r rr =>
    cases rr with
    | cons r' rr =>
      cases rr
      obtain ⟨t, rfl⟩ := r
      cases r'
      obtain ⟨its, rv, p1, _⟩ := J.tuple hq
      obtain ⟨ob, hob, _⟩ := id p1
      have hb : b < s1.heap.objs.size := Heap.lt_size hob
      refine zip_begins2 (begins_text x t) (begins_tuple b its.toArray) trivial (show s1.heap.IsTuple b its.toArray from p1) fun h' hz hTI hTO h1 h2 hsz hk => wpAny_pyIter_zip hz ?_
      have J2 : Inv X pins σ H1 { s1 with heap := h' } := J.kept (t' := s1.toks) hk
      refine ⟨s1.heap.objs.size + 4, [s1.heap.objs.size + 4, s1.heap.objs.size + 2, s1.heap.objs.size + 3, s1.heap.objs.size, s1.heap.objs.size + 1], _, _, H1, rfl, J2, turn_zs (t := t) (zip_sep2 (N := s1.heap.objs.size) (fp1 := []) (fp2 := [b]) (fun _ m => nomatch m) (fun c m => by rw [List.mem_singleton.mp m]; exact hb)) (Nat.ne_of_lt (Nat.lt_succ_of_lt hb)), ⟨hz, hTI, ⟨_, _, hTO⟩, ⟨_, h1, rfl, rfl⟩, ⟨_, h2, rfl, rfl⟩⟩, fun c hcm => ?_, q⟩
      have hle : s1.heap.objs.size ≤ c := by
        have hc' : c = s1.heap.objs.size + 4 ∨ c = s1.heap.objs.size + 2 ∨ c = s1.heap.objs.size + 3 ∨ c = s1.heap.objs.size ∨ c = s1.heap.objs.size + 1 := by simpa using hcm
        rcases hc' with rfl | rfl | rfl | rfl | rfl
        · exact Nat.le_add_right _ _
        · exact Nat.le_add_right _ _
        · exact Nat.le_add_right _ _
        · exact Nat.le_refl _
        · exact Nat.le_add_right _ _
      exact J.fpOk hle (J.hok.fresh hle)
theorem walk_zs {K : PySem.W.Frag} {x : Str} {b : Addr} {ys : List V} (hl : x.cps.size = ys.length) : Walk (Itzs K x b) ys.length (fun H => SqT K H b ys) (fun i H v H' => ∃ T c y, v = .ref T ∧ H T = none ∧ H' = upd H T (.tup [.str ⟨#[c]⟩, y]) ∧ x.cps[i]? = some c ∧ ys[i]? = some y) := by
  refine ⟨fun i H hi q => ?_, fun H q => ⟨ys, q, by omega, Nat.le_refl _, .inr rfl⟩, fun i H v H' hi q y => ?_⟩
  · exact ⟨ys, x.cps[i], ys[i], q, by simp [hl, hi], by simp [hi]⟩
  · obtain ⟨T, c, z, h1, h2, h3, h4, h5⟩ := y
    exact ⟨T, c, z, h1, h2, h3, h4, h5 ys q⟩
end Zs
/-! ### several clauses, each with a name -/
namespace Xc
open PySem PySem.Spec PyProof.Rows L2
theorem exm_two {K : PySem.W.Frag} {S C : Addr} {b : Bool} (h1 : PySem.W.subIn K (.ref S) (.type "BaseException") = some true) (h2 : PySem.W.isClsIn K S = true) (h3 : PySem.W.typeIn K (.ref S) = some (.type "type")) (h4 : PySem.W.subIn K (.ref C) (.ref S) = some b) : PySem.W.exmOne K (.ref C) (.ref S) = some b := by
  have a1 : (PySem.W.subIn K (.ref S) (.type "BaseException") == some true) = true := by rw [h1] <;> rfl
  have a2 : ((PySem.W.clsIn K S).isSome && PySem.W.typeIn K (.ref S) == some (.type "type")) = true := by
    have h2' : (PySem.W.clsIn K S).isSome = true := h2
    rw [h2', h3] <;> rfl
  show (if (PySem.W.subIn K (.ref S) (.type "BaseException") == some true) = true then (if ((PySem.W.clsIn K S).isSome && PySem.W.typeIn K (.ref S) == some (.type "type")) = true then PySem.W.subIn K (.ref C) (.ref S) else none) else none) = some b
  rw [if_pos a1, if_pos a2, h4]
/-! behind a suite its name is gone -/
def gone (D : Ends) (i : Nat) : Ends := { nx := fun σ' H' => D.nx (σ'.set i none) H', rt := D.rt, bk := fun σ' H' => D.bk (σ'.set i none) H', ct := fun σ' H' => D.ct (σ'.set i none) H' }
def wEach (K : PySem.W.Frag) (Wout : WX) (D : Ends) (i : Nat) : List (Value × (Addr → Value → Option Addr → TS)) → WX
  | [] => Wout
  | (c, ts) :: r => fun cls d σ H => ∃ b, PySem.W.exmOne K cls c = some b ∧ (b = true → ∀ a, H a = none → ts a cls d (gone D i) (σ.set i (some (.ref a))) H) ∧ (b = false → wEach K Wout D i r cls d σ H)
inductive EachOk (X : Cx) (n : Str) : List ExceptHandler → List (Value × (Addr → Value → Option Addr → TS)) → Prop
  | nil : EachOk X n [] []
  | cons {x : Str} {c : Value} {ts : Addr → Value → Option Addr → TS} {b0 : Stmt} {suite : List Stmt} {np p2 : Pos} {hds : List ExceptHandler} {l : List (Value × (Addr → Value → Option Addr → TS))} (hc : Names X x c)
      (hsu : ∀ (a : Addr) (oe : Obj) (cls : Value) (d : Option Addr) (pn : List (Addr × Obj)), Zc cls d oe → (∃ vs, oe.data = .fields vs) → PSs (X.suite a ((a, oe) :: pn)) (b0 :: suite) (ts a cls d)) (r : EachOk X n hds l) :
      EachOk X n (.ExceptHandler (some (.Name x np)) (some n) (b0 :: suite) p2 :: hds) ((c, ts) :: l)
theorem ps_try_each {X : Cx} {n : Str} {i : Nat} {body : List Stmt} {h0 : ExceptHandler} {hds : List ExceptHandler} {l : List (Value × (Addr → Value → Option Addr → TS))} {pos : Pos} {tb : WX → TS} {Wout : WX}
    (hs : X.stack = X.env :: X.outer) (hf : X.env.frame = some X.env.locals) (hN : X.N.Nodup) (hi : X.N[i]? = some n) (hln : X.env.kindOf n = some .local) (tk : Takes X Wout)
    (hb : ∀ (W : WX) (pn : List (Addr × Obj)) (xe : Value → Shared → Prop), Takes (X.tr pn xe) W → PassesOwn (model X.prog X.w) X.A X.env xe → PSs (X.tr pn xe) body (tb W))
    (hh : EachOk X n (h0 :: hds) l) : PS X (.Try body (h0 :: hds) [] [] pos) (fun D σ H => tb (wEach X.K Wout D i l) D σ H) := by
  refine ⟨fun pins s σ H D I h => wpAny_Try_except (wpAny_mono ((hb _ (X.pn ++ pins) _ (fun u s1 xx => ?caught) PassesOwn.looking).run [] s σ H D (I.toTry _) h) (fun f s1 q => ?fine) (fun e s1 he => he))⟩
  case fine =>
    have ok := I.ok
    match f, q with
    | .next, ⟨σ1, H1, J, q1⟩ => exact wpAny_execs_nil ⟨σ1, H1, J.ofTry ok, q1⟩
    | .brk, ⟨σ1, H1, J, q1⟩ => exact ⟨σ1, H1, J.ofTry ok, q1⟩
    | .cont, ⟨σ1, H1, J, q1⟩ => exact ⟨σ1, H1, J.ofTry ok, q1⟩
    | .ret u, ⟨v, σ1, H1, J, rv, q1⟩ => exact ⟨v, σ1, H1, J.ofTry ok, rv, q1⟩
  case caught =>
    have ok := I.ok
    have frm : X.A.frames = some (X.env :: X.outer) := ok.frames.trans (congrArg some hs)
    obtain ⟨a, B, sI, ps1, σ1, H1, cls, d, rfl, J0, nb, up, sky, na, os, ag, w⟩ := xx
    have J : Inv X pins σ1 H1 sI := J0.ofTry ok
    rw [show (X.tr (X.pn ++ pins) _).stack = X.env :: X.outer from hs] at sky
    refine Sky.land Zc.steady frm hf sky fun h3 fl up3 => ?_
    have J3 : Inv X pins σ1 H1 { s1 with heap := h3 } := J.landed nb fl.1 (up.trans up3) os ag
    obtain ⟨oe, fv, he, hz, hd⟩ := fl.there
    have nfr : a ∉ frs (X.env :: X.outer) := fun hm => by
      obtain ⟨_, o2, e2, k2⟩ := fl.2.2.1.mem hm
      rw [he] at e2
      obtain rfl := Option.some.inj e2
      exact k2 _ hd
    have nL : a ≠ X.env.locals := fun z => nfr (List.mem_filterMap.mpr ⟨X.env, List.mem_cons_self, by rw [hf, z]⟩)
    have nF : a ∉ X.fs := fun hm => let ⟨e, me, q⟩ := List.mem_filterMap.mp hm; nfr (List.mem_filterMap.mpr ⟨e, List.mem_cons_of_mem _ me, q⟩)
    have S3 := J3.suite he hd na nL nF
    have go : ∀ (hs2 : List ExceptHandler) (l2 : List (Value × (Addr → Value → Option Addr → TS))), EachOk X n hs2 l2 → wEach X.K Wout D i l2 cls d σ1 H1 → wpAny (model X.prog X.w) X.A (handleBy (.ref a) X.env hs2) (SP X pins D) X.xe { s1 with heap := h3 } := by
      intro hs2 l2 hk
      induction hk with
      | nil =>
        intro w
        refine wpAny_handleBy_nil ?_
        obtain ⟨_, _, _, oe1, vs1, T1, oT, ts1, he1, hz1, hd1, hx1, hr1⟩ := id fl
        unfold PySem.passOn
        refine wpAny_bind (wpAny_field he1 hd1 hx1 ?_)
        rw [if_neg (show ¬ ((Value.ref T1 == Value.none) = true) from by simp)]
        have out : wpAny (model X.prog X.w) X.A (setFlight (.ref a) X.env.frame) (fun _ s4 => wpAny (model X.prog X.w) X.A (throw (.ref a) : Sem Flow) (SP X pins D) X.xe s4) X.xe { s1 with heap := h3 } := by
          rw [hf]
          refine HandSPX.setFlight_upZ fl fun h4 hh4 up4 => wpAny_throw (tk _ _ ⟨a, B, sI, pins, σ1, H1, cls, d, rfl, J, nb, (up.trans up3).trans up4, .inr (.inr (by rw [hs]; exact hh4)), na, os, ag, w⟩)
        first
          | exact wpAny_bind (wpAny_pure (wpAny_bind out))
          | exact wpAny_bind out
      | @cons x c ts b0 suite np p2 hs3 l3 hc hsu r ih =>
        rintro ⟨b, hb1, yes, no⟩
        refine wpAny_handleBy_cons (codeAny_handlers_test ?_) (by intro q; cases q)
        have ty : PySem.W.Looks (model X.prog X.w) h3 (typeOf (.ref a)) cls := fun A Q E s k q => wpAny_typeOf_ref (k _ _ he) (by rw [hz.1]; exact q)
        have met := PySem.W.exm_one (M := model X.prog X.w) J3.kIn ty hb1
        have named : ∀ {Q : Value → Shared → Prop} {E : Value → Shared → Prop}, Q c { s1 with heap := h3 } → wpAny (model X.prog X.w) (X.A.mark (some (.ref a))) (eval (.Name x np) X.env) Q E { s1 with heap := h3 } := fun {Q E} q => by
          obtain ⟨hg, hdbg, hm | ⟨hm, hv, hnn⟩⟩ := hc
          · exact ld_glob (X := X.suite a ((a, oe) :: (X.pn ++ pins))) S3 hg hm q hdbg
          · exact ld_blt (X := X.suite a ((a, oe) :: (X.pn ++ pins))) S3 hg hm hv q hnn hdbg
        refine named (met.here ?_)
        match b, yes, no with
        | false, _, no =>
          show wpAny _ X.A (handleBy (.ref a) X.env hs3) _ _ _
          exact ih (no rfl)
        | true, yes, _ =>
          refine codeAny_handlers_suite_as (HandSPX.lands_againZ fl fun h4 fl4 up4 => ?_)
          have J4 : Inv X pins σ1 H1 { s1 with heap := h4 } := J.landed nb fl4.1 ((up.trans up3).trans up4) os ag
          obtain ⟨oe4, vs4, he4, hz4, hd4⟩ := fl4.there
          have S4 := J4.suite he4 hd4 na nL nF
          refine store_ok (X := X.suite a ((a, oe4) :: (X.pn ++ pins))) (v := .ref a) S4 hN hi (.inl hln) rfl (fun s5 S5 => ?_) (.inr hln)
          refine wpAny_mono ((hsu a oe4 cls d (X.pn ++ pins) hz4 ⟨_, hd4⟩).run [] s5 _ H1 _ S5 (yes rfl a na)) (fun f s6 q => ?_) (fun _ _ z => z.elim)
          have leave : ∀ {σ6 : L2.St} {H6 : Hp} {Q : Shared → Prop}, Inv (X.suite a ((a, oe4) :: (X.pn ++ pins))) [] σ6 H6 s6 → (∀ s7, Inv X pins (σ6.set i none) H6 s7 → Q s7) →
              wpAny (model X.prog X.w) X.A (do bindName X.env n .none; unbindBehindTheSuite X.env n p2) (fun _ s7 => Q s7) X.xe s6 := fun {σ6 H6 Q} S6 hq => gone_ok (S6.unsuite ok) hN hi hln hq
          match f, q with
          | .next, ⟨σ6, H6, S6, q6⟩ => exact leave S6 fun s7 J7 => ⟨_, _, J7, q6⟩
          | .brk, ⟨σ6, H6, S6, q6⟩ => exact leave S6 fun s7 J7 => ⟨_, _, J7, q6⟩
          | .cont, ⟨σ6, H6, S6, q6⟩ => exact leave S6 fun s7 J7 => ⟨_, _, J7, q6⟩
          | .ret u, ⟨v6, σ6, H6, S6, r6, q6⟩ => exact leave S6 fun s7 J7 => ⟨_, _, _, J7, r6, q6⟩
    exact go _ _ hh w
end Xc
section
variable {P : Program} {w : World} {K : PySem.W.Frag} {mg : Str → Option Value} {base : Heap} {af : Nat → Addr} {fd : Nat → FuncData}
/-! ### spread -/
def sp_l_spread : Sp := fun vs H Q _ => ∃ (c a : Int), vs = [.int c, .int a] ∧ 0 ≤ a ∧ ∀ r : Int, 0 ≤ r → Q (.int r) H
theorem ok_l_spread (T : Txt K mg af fd) : FnOk P w K mg base CX0 1 (af 27) (fd 27) ["cell", "at"] sp_l_spread := by
  refine T.F_l_spread.ok sc_l_spread (fun vs H Q E h => ?_) (fun cdv A outer s H vs Q E hr h => ?_)
  · obtain ⟨c, a, rfl, _⟩ := h
    rfl
  · obtain ⟨c, a, rfl, ha, q⟩ := h
    refine ⟨_, (pss_cons (ps_if (pt_cmpR op_ge (pv 0) (pe_op op_pow pe_int pe_int) (nomark _)) (pss_one (ps_ret (pv 0))) pss_nil)
        (pss_cons (ps_set (i := 2) sc_l_spread.nd rfl (by first | exact Or.inl rfl | exact Or.inr rfl) (pe_op op_mod (pe_op op_add (pe_op op_add (pe_op op_mul (pe_op op_mod (pv 0) pe_int) pe_int) (pe_op op_mul (pv 1) pe_int)) pe_int) pe_int))
        (pss_cons (ps_set (i := 3) sc_l_spread.nd rfl (by first | exact Or.inl rfl | exact Or.inr rfl) (pe_op op_mod (pe_op op_add (pe_op op_add (pe_op op_mul (pv 2) (pv 2)) (pe_op op_mul (pv 1) pe_int)) (pe_op op_mod (pv 0) pe_int)) pe_int))
        (pss_cons (ps_set (i := 4) sc_l_spread.nd rfl (by first | exact Or.inl rfl | exact Or.inr rfl) (pe_op op_mod (pe_op op_add (pe_op op_add (pe_op op_mul (pv 3) (pv 3)) (pe_op op_mul (pv 2) pe_int)) pe_int) pe_int))
        (pss_one (ps_ret (pe_op op_add (pe_op op_mul (pe_op op_add (pe_op op_mul (pv 2) pe_int) (pv 3)) pe_int) (pv 4)))))))), ?_⟩
    refine ⟨_, rfl, 10, 18, rfl, rfl, ⟨by decide, by decide, by decide⟩, _, _, rfl, rfl, _, rfl, ite2 (fun e => ?_) (fun e => ?_)⟩
    · refine ⟨_, rfl, q c ?_⟩
      have e1 := of_decide_eq_true e
      exact Int.le_trans (by decide) e1
    · refine ⟨_, rfl, _, _, rfl, rfl, (by show (0 : Int) < 1000000007; decide), _, _, rfl, rfl, .inr ⟨by decide, by decide⟩, _, rfl, _, _, rfl, rfl, .inr ⟨by decide, by decide⟩, _, _, rfl, rfl, _, _, rfl, rfl, _, _, rfl, rfl, (by show (0 : Int) < 2147483629; decide), ?_⟩
      have b1 : ∀ x : Int, 0 ≤ x % 2147483629 ∧ x % 2147483629 < 2147483629 := fun x => ⟨Int.emod_nonneg _ (by decide), Int.emod_lt_of_pos _ (by decide)⟩
      generalize hx : (c % 1000000007 * 69069 + a * 40503 + 977) % 2147483629 = one
      have o1 : 0 ≤ one ∧ one < 2147483629 := by rw [← hx]; exact b1 _
      refine ⟨_, rfl, _, rfl, _, _, rfl, rfl, .inl ⟨by omega, by omega⟩, _, rfl, _, _, rfl, rfl, .inr ⟨by decide, by decide⟩, _, _, rfl, rfl, _, rfl, _, _, rfl, rfl, (by show (0 : Int) < 65537; decide), _, _, rfl, rfl, _, _, rfl, rfl, (by show (0 : Int) < 2147483587; decide), ?_⟩
      have b2 : ∀ x : Int, 0 ≤ x % 2147483587 ∧ x % 2147483587 < 2147483587 := fun x => ⟨Int.emod_nonneg _ (by decide), Int.emod_lt_of_pos _ (by decide)⟩
      generalize hy : (one * one + a * 7919 + c % 65537) % 2147483587 = two
      have o2 : 0 ≤ two ∧ two < 2147483587 := by rw [← hy]; exact b2 _
      refine ⟨_, rfl, _, rfl, _, _, rfl, rfl, .inl ⟨by omega, by omega⟩, _, rfl, _, _, rfl, rfl, .inr ⟨by decide, by decide⟩, _, _, rfl, rfl, _, _, rfl, rfl, _, _, rfl, rfl, (by show (0 : Int) < 2147483563; decide), ?_⟩
      have b3 : ∀ x : Int, 0 ≤ x % 2147483563 := fun x => Int.emod_nonneg _ (by decide)
      generalize hz : (two * two + one * 31 + 5) % 2147483563 = three
      have o3 : 0 ≤ three := by rw [← hz]; exact b3 _
      refine ⟨_, rfl, _, _, rfl, rfl, .inr ⟨by decide, by decide⟩, _, rfl, _, _, rfl, rfl, _, _, rfl, rfl, .inr ⟨by decide, by decide⟩, _, rfl, _, _, rfl, rfl, q _ ?_⟩
      omega
/-! ### take -/
def sp_l_take : Sp := fun vs H Q _ => ∃ (p c : Addr) (many : Int), vs = [.ref p, .int many] ∧ Pen H p c ∧ 0 < many ∧ many.natAbs < 2 ^ 100 ∧ ∀ (r : Int) (H' : Hp), 0 ≤ r → r < many → Stp p c H H' → Q (.int r) H'
theorem ok_l_take (T : Txt K mg af fd) : FnOk P w K mg base CX0 2 (af 30) (fd 30) ["pen", "many"] sp_l_take := by
  refine T.F_l_take.ok sc_l_take (fun vs H Q E h => ?_) (fun cdv A outer s H vs Q E hr h => ?_)
  · obtain ⟨p, c, many, rfl, _⟩ := h
    rfl
  · obtain ⟨p, c, many, rfl, hP, m0, m1, q⟩ := h
    have hpc := hP.ne
    obtain ⟨cs, n, st, h1, h2, h3, h4⟩ := hP
    refine ⟨_, (C8.pss_cut (ps_if (pt_cmpR op_lt (pe_ix ix_list (pv 0) pe_int (fun _ _ => rfl)) (pv 1) (nomark _)) (pss_cons (ps_set (i := 2) sc_l_take.nd rfl (by first | exact Or.inl rfl | exact Or.inr rfl) (pe_ix ix_list (pv 0) pe_int (fun _ _ => rfl)))
        (pss_cons (ps_set (i := 3) sc_l_take.nd rfl (by first | exact Or.inl rfl | exact Or.inr rfl) pe_int)
        (C8.pss_cut (ps_if (pt_cmpR op_lt (pv 2) (pe_callB call_len_seq (by rfl) T.m_len (by decide +kernel) (pa_cons (pe_ix ix_list (pv 0) pe_int (fun _ _ => rfl)) pa_nil)) (nomark _)) (pss_one (ps_set (i := 3) sc_l_take.nd rfl (by first | exact Or.inl rfl | exact Or.inr rfl) (pe_ix ix_list (pe_ix ix_list (pv 0) pe_int (fun _ _ => rfl)) (pv 2) (fun _ _ => rfl)))) (pss_one (ps_if (pt_cmpR op_gt (pe_callB call_len_seq (by rfl) T.m_len (by decide +kernel) (pa_cons (pe_ix ix_list (pv 0) pe_int (fun _ _ => rfl)) pa_nil)) pe_int (nomark _)) (pss_one (ps_set (i := 3) sc_l_take.nd rfl (by first | exact Or.inl rfl | exact Or.inr rfl) (pe_op op_mod (pe_ix ix_list (pe_ix ix_list (pv 0) pe_int (fun _ _ => rfl)) (pe_op op_mod (pe_op op_add (pe_op op_mul (pv 2) pe_int) pe_int) (pe_callB call_len_seq (by rfl) T.m_len (by decide +kernel) (pa_cons (pe_ix ix_list (pv 0) pe_int (fun _ _ => rfl)) pa_nil))) (fun _ _ => rfl)) (pe_op op_add (pe_op op_pow pe_int pe_int) (pv 2))))) pss_nil)))
        (pss_cons (ps_asg (pe_op op_add (pv 2) pe_int) (pg_sub (pv 0) pe_int set_list))
        (pss_one (ps_asg (pe_call (ok_l_spread T) (hr.mono (by first | decide | omega)) (by rfl) T.g_l_spread T.F_l_spread.kp T.b_l_spread .nil pass0 (pa_cons (pv 3) (pa_cons (pv 2) pa_nil))) (pg_sub (pv 0) pe_int set_list))))))) pss_nil)
        (pss_cons (ps_set (i := 4) sc_l_take.nd rfl (by first | exact Or.inl rfl | exact Or.inr rfl) (pe_op op_mod (pe_ix ix_list (pv 0) pe_int (fun _ _ => rfl)) (pv 1)))
        (pss_cons (ps_asg (pe_op op_fdivW (pe_ix ix_list (pv 0) pe_int (fun _ _ => rfl)) (pv 1)) (pg_sub (pv 0) pe_int set_list))
        (pss_one (ps_ret (pv 4)))))), ?_⟩
    refine ⟨fun σ' H' => ∃ (n' st' : Int) (v1 v2 : Option V), 0 ≤ n' ∧ 0 ≤ st' ∧ σ' = [some (.ref p), some (.int many), v1, v2, none] ∧ H' = upd H p (.lst [.ref c, .int n', .int st']), ?_, ?_⟩
    · refine ⟨_, rfl, p, _, 2, _, rfl, rfl, SqL.of h1, rfl, _, rfl, _, _, rfl, rfl, _, rfl, ite2 (fun e => ?_) (fun e => ?_)⟩
      · refine ⟨_, rfl, p, _, 1, _, rfl, rfl, SqL.of h1, rfl, ?_⟩
        refine ⟨fun σ' H' => ∃ (x : Int), σ' = [some (.ref p), some (.int many), some (.int n), some (.int x), none] ∧ H' = H, ?_, ?_⟩
        · refine ⟨_, rfl, _, rfl, p, _, 0, _, rfl, rfl, SqL.of h1, rfl, c, _, rfl, .inl (SqL.of h2), _, _, rfl, rfl, _, rfl, ite2 (fun e2 => ?_) (fun e2 => ?_)⟩
          · have e3 := of_decide_eq_true e2
            rw [List.length_map] at e3
            have hlt : n.toNat < cs.length := by omega
            refine ⟨_, rfl, p, _, 0, _, rfl, rfl, SqL.of h1, rfl, _, rfl, c, _, n, .int cs[n.toNat], rfl, rfl, SqL.of h2, at_of (j := n.toNat) (by omega) ?_, ⟨_, rfl, rfl⟩⟩
            rw [List.getElem?_map, List.getElem?_eq_getElem hlt]
            rfl
          · refine ⟨_, rfl, p, _, 0, _, rfl, rfl, SqL.of h1, rfl, c, _, rfl, .inl (SqL.of h2), _, _, rfl, rfl, _, rfl, ite2 (fun e3 => ?_) (fun e3 => ?_)⟩
            · have e4 := of_decide_eq_true e3
              have hl : (0 : Int) < (cs.map V.int).length := e4
              have hr0 := Int.emod_nonneg (n * 5 + 3) (show ((cs.map V.int).length : Int) ≠ 0 by omega)
              have hr1 := Int.emod_lt_of_pos (n * 5 + 3) hl
              have hlt : ((n * 5 + 3) % ((cs.map V.int).length : Int)).toNat < cs.length := by
                rw [List.length_map] at hr1 hr0 ⊢
                omega
              refine ⟨_, rfl, p, _, 0, _, rfl, rfl, SqL.of h1, rfl, _, rfl, _, _, rfl, rfl, .inr ⟨by decide, by decide⟩, _, _, rfl, rfl, _, rfl, p, _, 0, _, rfl, rfl, SqL.of h1, rfl, c, _, rfl, .inl (SqL.of h2), _, _, rfl, rfl, hl, c, _, _, .int cs[((n * 5 + 3) % ((cs.map V.int).length : Int)).toNat], rfl, rfl, SqL.of h2, at_of (j := ((n * 5 + 3) % ((cs.map V.int).length : Int)).toNat) (by omega) ?_, 10, 17, rfl, rfl, ⟨by decide, by decide, by decide⟩, _, rfl, _, _, rfl, rfl, _, _, rfl, rfl, ?_, ⟨_, rfl, rfl⟩⟩
              · rw [List.getElem?_map, List.getElem?_eq_getElem hlt]
                rfl
              · show (0 : Int) < 10 ^ (17 : Int).toNat + n
                have : (0 : Int) < 10 ^ (17 : Int).toNat := by decide
                omega
            · exact ⟨_, rfl, rfl⟩
        · rintro σ' H' ⟨x, rfl, rfl⟩
          refine ⟨_, rfl, _, _, rfl, rfl, _, rfl, p, _, 1, 1, rfl, rfl, h1, rfl, ?_⟩
          refine ⟨_, rfl, _, rfl, x, n, rfl, h3, fun r hr => ?_⟩
          refine ⟨_, rfl, p, _, 2, 2, rfl, rfl, upd_same, rfl, ?_⟩
          refine ⟨n + 1, r, _, _, by omega, hr, rfl, ?_⟩
          rw [upd_upd]
          rfl
      · refine ⟨n, st, none, none, h3, h4, rfl, ?_⟩
        funext b
        by_cases hb : b = p
        · subst hb
          rw [upd_same]
          exact h1
        · rw [upd_ne hb]
    · rintro σ' H' ⟨n', st', v1, v2, hn, hs, rfl, rfl⟩
      refine ⟨_, rfl, p, _, 2, _, rfl, rfl, SqL.of upd_same, rfl, _, rfl, _, _, rfl, rfl, m0, ?_⟩
      refine ⟨_, rfl, p, _, 2, _, rfl, rfl, SqL.of upd_same, rfl, _, rfl, _, _, rfl, rfl, wide_div m0 m1 (by decide) (by decide), _, rfl, p, _, 2, 2, rfl, rfl, upd_same, rfl, ?_⟩
      refine ⟨_, rfl, q _ _ (Int.emod_nonneg _ (by omega)) (Int.emod_lt_of_pos _ m0) ⟨⟨cs, n', st' / many, ?_, ?_, hn, Int.ediv_nonneg hs (by omega)⟩, fun b o hb e => ?_⟩⟩
      · rw [upd_same]
        rfl
      · rw [upd_ne hpc, upd_ne hpc]
        exact h2
      · rw [upd_ne hb, upd_ne hb]
        exact e
/-! ### open -/
def sp_l_open (K : PySem.W.Frag) : Sp := fun vs H Q _ => ∃ (a : Addr) (ns : List Int), vs = [.ref a] ∧ SqL K H a (ns.map V.int) ∧ ns.length ≤ 63 ∧ ∀ (p c : Addr) (H' : Hp), Same H H' → H p = none → H c = none → Pen H' p c → Q (.ref p) H'
theorem ok_l_open (T : Txt K mg af fd) : FnOk P w K mg base CX0 1 (af 28) (fd 28) ["script"] (sp_l_open K) := by
  refine T.F_l_open.ok sc_l_open (fun vs H Q E h => ?_) (fun cdv A outer s H vs Q E hr h => ?_)
  · obtain ⟨a, ns, rfl, _⟩ := h
    rfl
  · obtain ⟨a, ns, rfl, hS, hlen, q⟩ := h
    refine ⟨_, (pss_cons (ps_set (i := 1) sc_l_open.nd rfl (by first | exact Or.inl rfl | exact Or.inr rfl) (pe_callTy call_list_of (by rfl) T.m_list (by decide +kernel) (pa_cons (pe_slice sl_list (pv 0) po_none (po_some pe_int)) pa_nil)))
        (pss_cons (ps_for PassesOwn.never rfl (pi_enum (by rfl) T.m_enumerate (pa_cons (pe_slice sl_list (pv 0) (po_some pe_int) (po_some pe_int)) pa_nil)) (pg_tup rfl (pgs_cons (pg_name (i := 2) sc_l_open.nd rfl (by first | exact Or.inl rfl | exact Or.inr rfl)) (pgs_cons (pg_name (i := 3) sc_l_open.nd rfl (by first | exact Or.inl rfl | exact Or.inr rfl)) pgs_nil))) (pss_one (ps_asg (pe_op op_add (pe_ix ix_list (pv 1) (pe_op op_mod (pv 2) pe_int) (fun _ _ => rfl)) (pv 3)) (pg_sub (pv 1) (pe_op op_mod (pv 2) pe_int) set_list))))
        (pss_one (ps_ret (pe_lst (pa_cons (pv 1) (pa_cons pe_int (pa_cons pe_int pa_nil)))))))), ?_⟩
    refine ⟨_, rfl, 12, rfl, a, _, rfl, hS, fun x nx => ⟨x, _, rfl, .inl (SqL.of upd_same), fun l nl => ?_⟩⟩
    have s1 : Same H (upd H x (.lst (cutV (ns.map V.int) none (some 12)))) := same_upd nx
    have nl0 : H l = none := s1.free nl
    have s2 : Same H (upd (upd H x (.lst (cutV (ns.map V.int) none (some 12)))) l (.lst (cutV (ns.map V.int) none (some 12)))) := same_mut s1 nl0
    refine ⟨_, rfl, 12, rfl, 63, rfl, a, _, rfl, s2.seq hS, fun d nd => ⟨d, _, rfl, SqL.of upd_same, ?_⟩⟩
    have nd0 : H d = none := s2.free nd
    have hld : l ≠ d := fun e => by
      rw [← e, upd_same] at nd
      cases nd
    have it : cutV (ns.map V.int) (some 12) (some 63) = ((ns.drop 12)).map V.int := by
      have e := cut_mid (ns.map V.int) 12 63
      rw [show ((12 : Nat) : Int) = 12 from rfl, show ((63 : Nat) : Int) = 63 from rfl] at e
      rw [e, List.length_map]
      by_cases h12 : 12 ≤ ns.length
      · rw [Nat.min_eq_left h12, Nat.min_eq_right (by omega), List.take_of_length_le, List.map_drop]
        rw [List.length_drop, List.length_map]
        omega
      · rw [Nat.min_eq_right (by omega), List.drop_of_length_le (l := ns) (by omega), List.drop_of_length_le (by rw [List.length_map]; omega)]
        exact List.take_nil
    have ic : cutV (ns.map V.int) none (some 12) = (ns.take 12).map V.int := by
      have e := cut_to (ns.map V.int) 12
      rw [show ((12 : Nat) : Int) = 12 from rfl] at e
      rw [e, List.map_take]
    rw [it, ic]
    refine for_it (walk_enum (K := K) (a := d) (xs := (ns.drop 12).map V.int)) (fun i σ H' => ∃ (cs : List Int) (v2 v3 : Option V), σ = [some (.ref a), some (.ref l), v2, v3] ∧ H' l = some (.lst (cs.map V.int)) ∧ cs.length = min 12 ns.length ∧ H' d = some (.lst ((ns.drop 12).map V.int)) ∧ Same H H')
      ⟨ns.take 12, none, none, rfl, ?_, ?_, upd_same, same_mut ?_ nd0⟩ (fun i σ H' _ ⟨_, _, _, _, _, _, hd, _⟩ => SqL.of hd) ?_ ?_
    · rw [upd_ne hld, upd_same]
    · rw [List.length_take]
    · rw [← ic]
      exact s2
    · rintro i v σ H' H'' hi ⟨cs, v2, v3, rfl, hl, hc, hd, sm⟩ ⟨t, x1, x2, rfl, nt, rfl, e1, e2⟩
      obtain rfl : V.int (i : Nat) = x1 := Option.some.inj e1
      have e3 : ((ns.drop 12).map V.int)[i]? = some x2 := e2
      rw [List.getElem?_map] at e3
      obtain ⟨z, hz, rfl⟩ := Option.map_eq_some_iff.mp e3
      have h12 : 12 ≤ ns.length := by
        rw [List.length_map, List.length_drop] at hi
        omega
      have hm0 : 0 ≤ (i : Int) % 12 := Int.emod_nonneg _ (by decide)
      have hm1 : (i : Int) % 12 < 12 := Int.emod_lt_of_pos _ (by decide)
      have hj : ((i : Int) % 12).toNat < cs.length := by omega
      have hl' : (upd H' t (.tup [.int (i : Nat), .int z])) l = some (.lst (cs.map V.int)) := by
        rw [upd_ne (ne_of_none hl nt)]
        exact hl
      refine ⟨t, [.int (i : Nat), .int z], rfl, SqT.of upd_same, rfl, _, _, rfl, _, _, rfl, rfl, ?_⟩
      refine ⟨_, rfl, _, rfl, _, _, rfl, rfl, (by show (0 : Int) < 12; decide), l, _, _, .int cs[((i : Int) % 12).toNat], rfl, rfl, SqL.of hl', at_of (j := ((i : Int) % 12).toNat) (by omega) ?_, _, rfl, _, _, rfl, rfl, _, rfl, _, rfl, _, _, rfl, rfl, (by show (0 : Int) < 12; decide), l, _, _, ((i : Int) % 12).toNat, rfl, rfl, hl', ?_, ?_⟩
      · rw [List.getElem?_map, List.getElem?_eq_getElem hj]
        rfl
      · unfold ixN
        rw [if_pos hm0, if_pos (by rw [List.length_map]; omega)]
      · refine ⟨cs.set ((i : Int) % 12).toNat (cs[((i : Int) % 12).toNat] + z), _, _, rfl, ?_, ?_, ?_, ?_⟩
        · rw [upd_same, ← List.map_set]
        · rw [List.length_set]
          exact hc
        · rw [upd_ne (Ne.symm hld), upd_ne (ne_of_none hd nt)]
          exact hd
        · exact same_mut (same_mut sm (sm.free nt)) nl0
    · rintro σ H' ⟨cs, v2, v3, rfl, hl, hc, hd, sm⟩
      refine ⟨_, rfl, (by show 3 ≤ sizeLine; decide), fun p np => q p l _ (same_mut sm (sm.free np)) (sm.free np) nl0 ⟨cs, 0, 0, upd_same, ?_, by decide, by decide⟩⟩
      rw [upd_ne (ne_of_none hl np)]
      exact hl
theorem iteFd {c A B : Prop} [Decidable c] (hc : ¬ c) (h : B) : if decide c = true then A else B := by
  rw [decide_eq_false hc]
  exact iteF h
theorem iteTd {c A B : Prop} [Decidable c] (hc : c) (h : A) : if decide c = true then A else B := by
  rw [decide_eq_true hc]
  exact iteT h
/-! ### anew -/
def sp_l_anew : Sp := fun vs H Q _ => ∃ (p c : Addr), vs = [.ref p] ∧ Pen H p c ∧ ∀ H', Stp p c H H' → Q (.ref p) H'
theorem ok_l_anew (T : Txt K mg af fd) : FnOk P w K mg base CX0 1 (af 29) (fd 29) ["pen"] sp_l_anew := by
  refine T.F_l_anew.ok sc_l_anew (fun vs H Q E h => ?_) (fun cdv A outer s H vs Q E hr h => ?_)
  · obtain ⟨p, c, rfl, _⟩ := h
    rfl
  · obtain ⟨p, c, rfl, hP, q⟩ := h
    have hpc := hP.ne
    obtain ⟨cs, n, st, h1, h2, h3, h4⟩ := hP
    refine ⟨_, (pss_cons (ps_asg pe_int (pg_sub (pv 0) pe_int set_list))
        (pss_one (ps_ret (pv 0)))), ?_⟩
    refine ⟨_, rfl, p, _, 2, 2, rfl, rfl, h1, rfl, _, rfl, q _ ⟨⟨cs, n, 0, ?_, ?_, h3, by decide⟩, fun b o hb e => ?_⟩⟩
    · rw [upd_same]
      rfl
    · rw [upd_ne hpc]
      exact h2
    · rw [upd_ne hb]
      exact e
/-! ### names -/
def House (z : List Nat) : Prop := 1 ≤ z.length ∧ z.length ≤ 8 ∧ ∀ c ∈ z, 97 ≤ c ∧ c ≤ 122
def nameL (base : List Nat) (way turn size k : Nat) : List Nat :=
  (base.take ((size + k * (way % 2)) % 8)).take (if way = 0 then 0 else if way = 1 then (base.take ((size + k * (way % 2)) % 8)).length else (base.take ((size + k * (way % 2)) % 8)).length / 2) ++ [97 + (turn + 3 * k) % 26] ++
  (base.take ((size + k * (way % 2)) % 8)).drop (if way = 0 then 0 else if way = 1 then (base.take ((size + k * (way % 2)) % 8)).length else (base.take ((size + k * (way % 2)) % 8)).length / 2)
theorem nameL_len {base : List Nat} {way turn size k : Nat} (hb : base.length = 7) : (nameL base way turn size k).length = (size + k * (way % 2)) % 8 + 1 := by
  unfold nameL
  rw [List.length_append, List.length_append, List.length_take, List.length_drop, List.length_take]
  have : (size + k * (way % 2)) % 8 < 8 := Nat.mod_lt _ (by decide)
  simp only [List.length_cons, List.length_nil]
  omega
theorem nameL_house {base : List Nat} {way turn size k : Nat} (hb : base.length = 7) (hl : ∀ c ∈ base, 97 ≤ c ∧ c ≤ 122) : House (nameL base way turn size k) := by
  have e := nameL_len (way := way) (turn := turn) (size := size) (k := k) hb
  have : (size + k * (way % 2)) % 8 < 8 := Nat.mod_lt _ (by decide)
  refine ⟨by omega, by omega, fun c hc => ?_⟩
  unfold nameL at hc
  rcases List.mem_append.mp hc with h | h
  · rcases List.mem_append.mp h with h | h
    · exact hl c (List.mem_of_mem_take (List.mem_of_mem_take h))
    · have h := List.mem_singleton.mp h
      omega
  · exact hl c (List.mem_of_mem_take (List.mem_of_mem_drop h))
theorem nameL_inj {base : List Nat} {way turn size i j : Nat} (hb : base.length = 7) (hw : way < 3) (hi : i < 8) (hj : j < 8) (e : nameL base way turn size i = nameL base way turn size j) : i = j := by
  by_cases h1 : way = 1
  · subst h1
    have e1 := congrArg List.length e
    rw [nameL_len hb, nameL_len hb] at e1
    omega
  · have h2 : way % 2 = 0 := by omega
    unfold nameL at e
    rw [h2, Nat.mul_zero, Nat.mul_zero] at e
    have e1 := List.append_cancel_right e
    have e2 := List.append_cancel_left e1
    have e3 := (List.cons.inj e2).1
    omega
theorem joinL_ones : ∀ cs : List Nat, TL.joinL [] (cs.map fun c => [c]) = cs
  | [] => rfl
  | [_] => rfl
  | a :: b :: r => by
    show [a] ++ ([] ++ TL.joinL [] ((b :: r).map fun c => [c])) = a :: b :: r
    rw [joinL_ones (b :: r)]
    rfl
theorem abc_at : ∀ i : Nat, i < 26 → (Str.ofString "abcdefghijklmnopqrstuvwxyz").cps.toList[i]? = some (97 + i) := by
  have h : ∀ i : Fin 26, (Str.ofString "abcdefghijklmnopqrstuvwxyz").cps.toList[i.1]? = some (97 + i.1) := by decide +kernel
  exact fun i hi => h ⟨i, hi⟩
theorem abc_len : (Str.ofString "abcdefghijklmnopqrstuvwxyz").length ≤ sizeLine := by decide +kernel
def sp_l_names : Sp := fun vs H Q _ => ∃ (p c : Addr) (many : Int), vs = [.ref p, .int many] ∧ Pen H p c ∧ 0 ≤ many ∧ many ≤ 7 ∧
  ∀ (f : Addr) (zs : List (List Nat)) (H' : Hp), Stp p c H H' → H f = none → H' f = some (.lst (zs.map fun z => V.str (SX.S z))) → (zs.length : Int) = many → zs.Nodup → (∀ z ∈ zs, House z) → Q (.ref f) H'
theorem ok_l_names (T : Txt K mg af fd) : FnOk P w K mg base CX0 3 (af 31) (fd 31) ["pen", "many"] sp_l_names := by
  refine T.F_l_names.ok sc_l_names (fun vs H Q E h => ?_) (fun cdv A outer s H vs Q E hr h => ?_)
  · obtain ⟨p, c, many, rfl, _⟩ := h
    rfl
  · obtain ⟨p, c, many, rfl, hP, m0, m1, q⟩ := h
    refine ⟨_, (pss_cons (ps_set (i := 2) sc_l_names.nd rfl (by first | exact Or.inl rfl | exact Or.inr rfl) pe_str)
        (pss_cons (ps_set (i := 3) sc_l_names.nd rfl (by first | exact Or.inl rfl | exact Or.inr rfl) (pe_join pe_str (pe_lc (own := [("k", 4)]) (g := gName 4) (by rfl) sc_l_names.nd (pi_range1 (by rfl) T.m_range (pa_cons pe_int pa_nil)) (blkOk_by (own := [("k", 4)]) (N := ["pen", "many", "letters", "base", "k", "way", "turn", "size", "found", "sign", "part", "at"]) (sc := defScope s_l_names) (by decide +kernel)) (fun _ _ _ _ _ => pg_name (i := 4) sc_l_names.nd rfl (Or.inl rfl)) (fun _ _ _ _ _ => pts_nil) (fun _ _ _ _ _ => (pe_ix ix_str (pv 2) (pe_call (ok_l_take T) (hr.mono (by first | decide | omega)) (by rfl) T.g_l_take T.F_l_take.kp T.b_l_take .nil pass0 (pa_cons (pv 0) (pa_cons pe_int pa_nil))) (fun _ _ => rfl))))))
        (pss_cons (ps_set (i := 5) sc_l_names.nd rfl (by first | exact Or.inl rfl | exact Or.inr rfl) (pe_call (ok_l_take T) (hr.mono (by first | decide | omega)) (by rfl) T.g_l_take T.F_l_take.kp T.b_l_take .nil pass0 (pa_cons (pv 0) (pa_cons pe_int pa_nil))))
        (pss_cons (ps_set (i := 6) sc_l_names.nd rfl (by first | exact Or.inl rfl | exact Or.inr rfl) (pe_call (ok_l_take T) (hr.mono (by first | decide | omega)) (by rfl) T.g_l_take T.F_l_take.kp T.b_l_take .nil pass0 (pa_cons (pv 0) (pa_cons pe_int pa_nil))))
        (pss_cons (ps_set (i := 7) sc_l_names.nd rfl (by first | exact Or.inl rfl | exact Or.inr rfl) (pe_call (ok_l_take T) (hr.mono (by first | decide | omega)) (by rfl) T.g_l_take T.F_l_take.kp T.b_l_take .nil pass0 (pa_cons (pv 0) (pa_cons pe_int pa_nil))))
        (pss_cons (ps_set (i := 8) sc_l_names.nd rfl (by first | exact Or.inl rfl | exact Or.inr rfl) (pe_lst pa_nil))
        (pss_cons (ps_for PassesOwn.never rfl (pi_range1 (by rfl) T.m_range (pa_cons (pv 1) pa_nil)) (pg_name (i := 4) sc_l_names.nd rfl (by first | exact Or.inl rfl | exact Or.inr rfl)) (pss_cons (ps_set (i := 9) sc_l_names.nd rfl (by first | exact Or.inl rfl | exact Or.inr rfl) (pe_ix ix_str (pv 2) (pe_op op_mod (pe_op op_add (pv 6) (pe_op op_mul pe_int (pv 4))) pe_int) (fun _ _ => rfl)))
        (pss_cons (ps_set (i := 10) sc_l_names.nd rfl (by first | exact Or.inl rfl | exact Or.inr rfl) (pe_slice sl_str (pv 3) po_none (po_some (pe_op op_mod (pe_op op_add (pv 7) (pe_op op_mul (pv 4) (pe_op op_mod (pv 5) pe_int))) pe_int))))
        (pss_cons (ps_set (i := 11) sc_l_names.nd rfl (by first | exact Or.inl rfl | exact Or.inr rfl) (pe_ix ix_list (pe_lst (pa_cons pe_int (pa_cons (pe_callB call_len_str (by rfl) T.m_len (by decide +kernel) (pa_cons (pv 10) pa_nil)) (pa_cons (pe_op op_fdiv (pe_callB call_len_str (by rfl) T.m_len (by decide +kernel) (pa_cons (pv 10) pa_nil)) pe_int) pa_nil)))) (pv 5) (fun _ _ => rfl)))
        (pss_one (ps_expr (pe_bm PySem.F.plainAttrs_list PySem.F.slot_list_append PySem.F.type_list_append mt_append (pv 8) (pa_cons (pe_op op_add_str (pe_op op_add_str (pe_slice sl_str (pv 10) po_none (po_some (pv 11))) (pv 9)) (pe_slice sl_str (pv 10) (po_some (pv 11)) po_none)) pa_nil))))))))
        (pss_one (ps_ret (pv 8)))))))))), ?_⟩
    -- base = ''.join([..])
    refine ⟨⟨_, rfl⟩, 7, rfl, by decide, by decide, fun D nD => lc_range (lo := 0) (n := 7) (fun i H' => Stp p c H H' ∧ ∃ cs : List Nat, H' D = some (.lst (cs.map fun c => V.str (SX.S [c]))) ∧ cs.length = i ∧ ∀ c ∈ cs, 97 ≤ c ∧ c ≤ 122)
      ⟨(Stp.refl hP).new hP nD, [], upd_same, rfl, fun _ h => nomatch h⟩ ?_ ?_⟩
    · rintro i H1 hi ⟨s1, cs, hD, hl, hc⟩
      refine ⟨rfl, yes_if ?_⟩
      refine ⟨_, rfl, _, rfl, p, c, 26, rfl, s1.1, by decide, by decide, fun r H2 r0 r1 s2 => ?_⟩
      have hD2 : H2 D = some (.lst (cs.map fun c => V.str (SX.S [c]))) := s2.2 D _ (fun e => hP.neP nD e.symm) hD
      refine ⟨_, r, 97 + r.toNat, rfl, rfl, abc_len, at_any (z := r) (j := r.toNat) (by omega) (abc_at r.toNat (by omega)), _, hD2, ?_, (s1.trans s2).mut hP nD, cs ++ [97 + r.toNat], ?_, ?_, ?_⟩
      · rw [List.length_map]
        exact small1000 (by omega)
      · rw [upd_same, List.map_append]
        rfl
      · rw [List.length_append, hl]
        rfl
      · intro x hx
        rcases List.mem_append.mp hx with h | h
        · exact hc x h
        · have h := List.mem_singleton.mp h
          omega
    · rintro H1 ⟨s1, bs, hD, hl, hc⟩
      have hD' : H1 D = some (.lst ((bs.map fun c => SX.S [c]).map V.str)) := by rw [hD, List.map_map]; rfl
      refine ⟨_, D, (bs.map fun c => SX.S [c]), rfl, rfl, .inl (SqL.of hD'), ?_, ?_⟩
      · have e1 : ((bs.map fun c => SX.S [c]).map (·.length)).sum = bs.length := by
          rw [List.map_map]
          have : ((fun z : Str => z.length) ∘ fun c => SX.S [c]) = fun _ => 1 := funext fun c => SX.S_len [c]
          rw [this, List.map_const', List.sum_replicate_nat]
          omega
        rw [e1, List.length_map, hl]
        decide
      have ej : Txt.join (Str.ofString "") (bs.map fun c => SX.S [c]) = SX.S bs := by
        have e2 := SX.join_S [] (bs.map fun c => [c])
        rw [List.map_map, joinL_ones] at e2
        exact e2
      rw [ej]
      refine ⟨_, rfl, p, c, 3, rfl, s1.1, by decide, by decide, fun way H2 w0 w1 s2 => ?_⟩
      refine ⟨_, rfl, p, c, 26, rfl, s2.1, by decide, by decide, fun turn H3 t0 t1 s3 => ?_⟩
      refine ⟨_, rfl, p, c, 8, rfl, s3.1, by decide, by decide, fun size H4 z0 z1 s4 => ?_⟩
      have sA : Stp p c H H4 := ((s1.trans s2).trans s3).trans s4
      refine ⟨Nat.zero_le _, fun f nf => ?_⟩
      have nf0 : H f = none := sA.back hP nf
      refine ⟨_, rfl, many, rfl, by omega, by omega, for_range (lo := 0) (n := many.toNat) (fun i σ H' => ∃ v9 v10 v11 v12 : Option V, σ = [some (.ref p), some (.int many), some (.str (Str.ofString "abcdefghijklmnopqrstuvwxyz")), some (.str (SX.S bs)), v12, some (.int way), some (.int turn), some (.int size), some (.ref f), v9, v10, v11] ∧ Stp p c H H' ∧ H' f = some (.lst (((List.range i).map (nameL bs way.toNat turn.toNat size.toNat)).map fun z => V.str (SX.S z))))
        ⟨none, none, none, none, rfl, sA.mut hP nf0, upd_same⟩ ?_ ?_⟩
      · rintro i σ H5 hi ⟨v9, v10, v11, v12, rfl, s5, hf⟩
        have hi7 : i < 7 := by omega
        have wt : (way.toNat : Int) = way := by omega
        have tt : (turn.toNat : Int) = turn := by omega
        have zt : (size.toNat : Int) = size := by omega
        have ew : way % 2 = ((way.toNat % 2 : Nat) : Int) := by omega
        have w20 : 0 ≤ way % 2 := by omega
        have w21 : way % 2 < 2 := by omega
        have es : (turn + 3 * (0 + (i : Int))) % 26 = (((turn.toNat + 3 * i) % 26 : Nat) : Int) := by omega
        refine ⟨_, rfl, _, rfl, _, rfl, _, _, rfl, rfl, .inl ⟨by decide, by decide⟩, _, _, rfl, rfl, _, _, rfl, rfl, (by show (0 : Int) < 26; decide), _, _, 97 + (turn.toNat + 3 * i) % 26, rfl, rfl, abc_len, at_any es (abc_at _ (Nat.mod_lt _ (by decide))), ?_⟩
        refine ⟨_, rfl, _, rfl, _, rfl, _, rfl, _, _, rfl, rfl, (by show (0 : Int) < 2; decide), _, _, rfl, rfl, .inr ⟨by omega, by omega⟩, _, _, rfl, rfl, _, _, rfl, rfl, (by show (0 : Int) < 8; decide), _, rfl, SX.S bs, rfl, ?_, ?_⟩
        · rw [SX.S_len, hl]
          decide
        have ep : (size + (0 + (i : Int)) * (way % 2)) % 8 = (((size.toNat + i * (way.toNat % 2)) % 8 : Nat) : Int) := by
          rw [ew, Int.zero_add, ← zt, ← Int.natCast_mul, ← Int.natCast_add]
          rfl
        have ecut : cutS (SX.S bs) none (some ((size + (0 + (i : Int)) * (way % 2)) % 8)) = SX.S (bs.take ((size.toNat + i * (way.toNat % 2)) % 8)) := by
          rw [C8.cutS_slice, SX.slice_to (by rw [ep]; exact Int.natCast_nonneg _), ep, Int.toNat_natCast]
        rw [ecut]
        have hpl : (SX.S (bs.take ((size.toNat + i * (way.toNat % 2)) % 8))).length ≤ 7 := by
          rw [SX.S_len, List.length_take, hl]
          omega
        generalize hpart : bs.take ((size.toNat + i * (way.toNat % 2)) % 8) = part at hpl ⊢
        have hps : (SX.S part).length ≤ sizeLine := Nat.le_trans hpl (by decide)
        refine ⟨_, rfl, _, rfl, hps, _, rfl, _, rfl, hps, _, _, rfl, rfl, ⟨by decide, by decide⟩, (by show 3 ≤ sizeLine; decide), fun l nl => ?_⟩
        have hlf : f ≠ l := ne_of_none hf nl
        obtain ⟨a, ha, ea⟩ : ∃ a : Nat, atI [V.int 0, V.int ((SX.S part).length : Int), V.int (((SX.S part).length : Int) / 2)] way = some (.int (a : Int)) ∧ a = (if way.toNat = 0 then 0 else if way.toNat = 1 then part.length else part.length / 2) := by
          rw [SX.S_len]
          have hw3 : way = 0 ∨ way = 1 ∨ way = 2 := by omega
          rcases hw3 with e | e | e
          · subst e
            exact ⟨0, rfl, rfl⟩
          · subst e
            exact ⟨part.length, rfl, rfl⟩
          · subst e
            exact ⟨part.length / 2, rfl, rfl⟩
        refine ⟨_, rfl, l, _, way, _, rfl, rfl, SqL.of upd_same, ha, ?_⟩
        have hf5 : (upd H5 l (.lst [V.int 0, V.int ((SX.S part).length : Int), V.int (((SX.S part).length : Int) / 2)])) f = some (.lst (((List.range i).map (nameL bs way.toNat turn.toNat size.toNat)).map fun z => V.str (SX.S z))) := by
          rw [upd_ne hlf]
          exact hf
        have hp7 : part.length ≤ 7 := by
          rw [SX.S_len] at hpl
          exact hpl
        have e1 : cutS (SX.S part) none (some (a : Int)) = SX.S (part.take a) := by
          rw [C8.cutS_slice, SX.slice_to (Int.natCast_nonneg _), Int.toNat_natCast]
        have e2 : cutS (SX.S part) (some (a : Int)) none = SX.S (part.drop a) := by
          rw [C8.cutS_slice, SX.slice_from (Int.natCast_nonneg _), Int.toNat_natCast]
        refine ⟨_, rfl, .inl ⟨rfl, _, SqL.of hf5⟩, _, rfl, _, rfl, _, rfl, _, rfl, hps, _, rfl, _, _, rfl, rfl, ?_, _, rfl, _, rfl, _, rfl, _, rfl, hps, _, _, rfl, rfl, ?_, f, _, _, rfl, rfl, hf5, ?_, ?_⟩
        · rw [e1]
          show (SX.S (part.take a)).length + (SX.S [97 + (turn.toNat + 3 * i) % 26]).length ≤ sizeLine
          rw [SX.S_len, SX.S_len, List.length_take]
          exact Nat.le_trans (show _ ≤ 8 by simp only [List.length_cons, List.length_nil]; omega) (by decide)
        · rw [e1, e2]
          show (SX.S (part.take a) ++ SX.S [97 + (turn.toNat + 3 * i) % 26]).length + (SX.S (part.drop a)).length ≤ sizeLine
          rw [SX.S_cat, SX.S_len, SX.S_len, List.length_append, List.length_take, List.length_drop]
          exact Nat.le_trans (show _ ≤ 8 by simp only [List.length_cons, List.length_nil]; omega) (by decide)
        · rw [List.length_map, List.length_map, List.length_range]
          exact small1000 (by omega)
        · refine ⟨_, _, _, _, rfl, (s5.new hP nl).mut hP nf0, ?_⟩
          rw [upd_same, e1, e2, List.range_succ, List.map_append, List.map_append]
          have e3 : SX.S (part.take a) ++ SX.S [97 + (turn.toNat + 3 * i) % 26] ++ SX.S (part.drop a) = SX.S (nameL bs way.toNat turn.toNat size.toNat i) := by
            rw [SX.S_cat, SX.S_cat]
            unfold nameL
            rw [hpart, ← ea]
          show some (HO.lst (_ ++ [V.str (SX.S (part.take a) ++ SX.S [97 + (turn.toNat + 3 * i) % 26] ++ SX.S (part.drop a))])) = _
          rw [e3]
          rfl
      · rintro σ H5 ⟨v9, v10, v11, v12, rfl, s5, hf⟩
        refine ⟨_, rfl, q f ((List.range many.toNat).map (nameL bs way.toNat turn.toNat size.toNat)) H5 s5 nf0 hf ?_ ?_ ?_⟩
        · rw [List.length_map, List.length_range]
          omega
        · refine List.pairwise_map.mpr (List.Pairwise.imp_of_mem ?_ (List.nodup_range (n := many.toNat)))
          intro a b ha hb ne e
          have ha := List.mem_range.mp ha
          have hb := List.mem_range.mp hb
          exact ne (nameL_inj hl (by omega) (by omega) (by omega) e)
        · intro z hz
          obtain ⟨k, _, rfl⟩ := List.mem_map.mp hz
          exact nameL_house hl hc
/-! ### town -/
def HouseS (h : Str) : Prop := House h.cps.toList
theorem HouseS.ok {z : Str} (h : HouseS z) : PyData.strOk z = true := by
  obtain ⟨h1, h2, h3⟩ := h
  unfold PyData.strOk
  rw [← Array.all_toList, List.all_eq_true]
  intro c hc
  have := h3 c hc
  exact decide_eq_true (by omega)
theorem canLay_strs : ∀ {hs : List Str}, (∀ h ∈ hs, PyData.strOk h = true) → PyData.canLayAll0 (hs.map PyData.str) = true
  | [], _ => rfl
  | h :: r, a => by
    show (PyData.strOk h && PyData.canLayAll0 (r.map PyData.str)) = true
    rw [a h List.mem_cons_self, canLay_strs fun x hx => a x (List.mem_cons_of_mem _ hx)]
    rfl
theorem depth_strs : ∀ {hs : List Str}, PyData.depthAll (hs.map PyData.str) = 0
  | [] => rfl
  | h :: r => by
    show max 0 (PyData.depthAll (r.map PyData.str)) = 0
    rw [depth_strs]
    rfl
theorem shaped_strs {hs : List Str} (a : ∀ h ∈ hs, PyData.strOk h = true) : SeqAt.shaped (.list (hs.map PyData.str)) = true := by
  unfold SeqAt.shaped
  rw [Bool.and_eq_true, decide_eq_true_eq]
  refine ⟨canLay_strs a, ?_⟩
  show PyData.depthAll (hs.map PyData.str) + 1 ≤ 64
  rw [depth_strs]
  decide
theorem dp_strs {H : Hp} : ∀ hs : List Str, DpAll K H (hs.map V.str) (hs.map PyData.str)
  | [] => .nil
  | h :: r => .cons (.str h) (dp_strs r)
def TownAt (H : Hp) (t : Addr) (hs gs : List Str) : Prop := ∃ a b : Addr, H t = some (.tup [.ref a, .ref b]) ∧ H a = some (.tup (hs.map V.str)) ∧ H b = some (.tup (gs.map V.str))
theorem Stp.town {p c t : Addr} {H H' : Hp} {hs gs : List Str} (s : Stp p c H H') (h : Pen H p c) (ht : TownAt H t hs gs) : TownAt H' t hs gs := by
  obtain ⟨a, b, h1, h2, h3⟩ := ht
  exact ⟨a, b, s.tup h h1, s.tup h h2, s.tup h h3⟩
structure Good (hs gs : List Str) (most : Nat) : Prop where
  one : 1 ≤ hs.length
  few : hs.length ≤ most
  nd : hs.Nodup
  up : sortedS hs = true
  hou : ∀ h ∈ hs, HouseS h
  sub : gs.Sublist hs
def sp_l_town : Sp := fun vs H Q _ => ∃ (p c : Addr) (most : Nat), vs = [.ref p, .int most] ∧ Pen H p c ∧ 1 ≤ most ∧ most ≤ 6 ∧
  ∀ (t : Addr) (hs gs : List Str) (H' : Hp), Stp p c H H' → TownAt H' t hs gs → Good hs gs most → Q (.ref t) H'
theorem ok_l_town (T : Txt K mg af fd) : FnOk P w K mg base CX0 4 (af 32) (fd 32) ["pen", "most"] sp_l_town := by
  refine T.F_l_town.ok sc_l_town (fun vs H Q E h => ?_) (fun cdv A outer s H vs Q E hr h => ?_)
  · obtain ⟨p, c, most, rfl, _⟩ := h
    rfl
  · obtain ⟨p, c, most, rfl, hP, m1, m6, q⟩ := h
    refine ⟨_, (pss_cons (ps_set (i := 2) sc_l_town.nd rfl (by first | exact Or.inl rfl | exact Or.inr rfl) (pe_callB cr_sortedS (by rfl) T.m_sorted (by decide +kernel) (pa_cons (pe_call (ok_l_names T) (hr.mono (by first | decide | omega)) (by rfl) T.g_l_names T.F_l_names.kp T.b_l_names .nil pass0 (pa_cons (pv 0) (pa_cons (pe_op op_add pe_int (pe_call (ok_l_take T) (hr.mono (by first | decide | omega)) (by rfl) T.g_l_take T.F_l_take.kp T.b_l_take .nil pass0 (pa_cons (pv 0) (pa_cons (pv 1) pa_nil)))) pa_nil))) pa_nil)))
        (pss_cons (ps_setLc (i := 3) (own := [("house", 4)]) (g := gName 4) (by rfl) sc_l_town.nd rfl rfl (sw_true rfl rfl rfl (by decide +kernel)) (pi_list (pv 2)) (blkOk_by (own := [("house", 4)]) (N := ["pen", "most", "houses", "gates", "house"]) (sc := defScope s_l_town) (by decide +kernel)) (fun _ _ _ _ _ => pg_name (i := 4) sc_l_town.nd rfl (Or.inl rfl)) (fun _ _ _ _ _ => (pts_one (pt_cmpR op_gt (pe_call (ok_l_take T) (hr.mono (by first | decide | omega)) (by rfl) T.g_l_take T.F_l_take.kp T.b_l_take .nil pass0 (pa_cons (pv 0) (pa_cons pe_int pa_nil))) pe_int (nomark _)))) (fun _ _ _ _ _ => (pv 4)))
        (C8.pss_cut (ps_if (PW.pt (pw_and (pt_cmpR (op_eqD hr.units) (pv 3) (pe_lst pa_nil) (nomark _)) (pw_and1 (pt_cmpR op_gt (pe_call (ok_l_take T) (hr.mono (by first | decide | omega)) (by rfl) T.g_l_take T.F_l_take.kp T.b_l_take .nil pass0 (pa_cons (pv 0) (pa_cons pe_int pa_nil))) pe_int (nomark _))))) (pss_one (ps_set (i := 3) sc_l_town.nd rfl (by first | exact Or.inl rfl | exact Or.inr rfl) (pe_slice sl_list (pv 2) po_none (po_some pe_int)))) pss_nil)
        (pss_one (ps_ret (pe_tup (pa_cons (pe_callTy call_tuple_of (by rfl) T.m_tuple (by decide +kernel) (pa_cons (pv 2) pa_nil)) (pa_cons (pe_callTy call_tuple_of (by rfl) T.m_tuple (by decide +kernel) (pa_cons (pv 3) pa_nil)) pa_nil)))))))), ?_⟩
    refine ⟨_, rfl, _, rfl, _, rfl, p, c, most, rfl, hP, by omega, Nat.lt_of_le_of_lt (show _ ≤ 6 by omega) (by decide), fun r H1 r0 r1 s1 => ?_⟩
    refine ⟨_, _, rfl, rfl, p, c, _, rfl, s1.1, by omega, by omega, fun f zs H2 s2 nf hf hl nd hh => ?_⟩
    have s12 := s1.trans s2
    have hf' : H2 f = some (.lst ((zs.map SX.S).map V.str)) := by rw [hf, List.map_map]; rfl
    refine ⟨f, zs.map SX.S, rfl, SqL.of hf', by rw [List.length_map]; omega, fun hs d pm up nd1 => ?_⟩
    have hlen : hs.length = zs.length := by rw [pm.length_eq, List.length_map]
    have hnd : hs.Nodup := pm.nodup_iff.mpr (List.pairwise_map.mpr (nd.imp fun ne e => ne (SX.S_inj e)))
    have hho : ∀ h ∈ hs, HouseS h := fun h m => by
      obtain ⟨z, mz, rfl⟩ := List.mem_map.mp (pm.mem_iff.mp m)
      exact hh z mz
    have nd0 : H d = none := s12.back hP nd1
    have s3 : Stp p c H (upd H2 d (.lst (hs.map V.str))) := s12.mut hP nd0
    -- gates
    refine ⟨_, rfl, d, rfl, ⟨_, SqL.of upd_same⟩, fun D nD => ?_⟩
    have nD0 : H D = none := s3.back hP nD
    have hdD : d ≠ D := fun e => by
      rw [← e, upd_same] at nD
      cases nD
    refine lc_list (K := K) (a := d) (xs := hs.map V.str) (fun i H' => Stp p c H H' ∧ H' d = some (.lst (hs.map V.str)) ∧ ∃ gs : List Str, H' D = some (.lst (gs.map V.str)) ∧ gs.Sublist (hs.take i))
      ⟨s3.mut hP nD0, by rw [upd_ne hdD, upd_same], [], upd_same, List.nil_sublist _⟩ (fun i H' _ h => SqL.of h.2.1) ?_ ?_
    · rintro i x H3 hx ⟨s4, hd, gs, hD, hg⟩
      rw [List.getElem?_map] at hx
      obtain ⟨h, hh, rfl⟩ := Option.map_eq_some_iff.mp hx
      have etake : hs.take (i + 1) = hs.take i ++ [h] := by rw [List.take_add_one, hh]; rfl
      refine ⟨rfl, _, rfl, p, c, 3, rfl, s4.1, by decide, by decide, fun r H4 r0 r1 s5 => ?_⟩
      have hd4 : H4 d = some (.lst (hs.map V.str)) := s5.2 d _ (fun e => hP.neP nd0 e.symm) hd
      have hD4 : H4 D = some (.lst (gs.map V.str)) := s5.2 D _ (fun e => hP.neP nD0 e.symm) hD
      refine ⟨_, _, rfl, rfl, _, rfl, ite2 (fun e => ?_) (fun e => ?_)⟩
      · refine ⟨_, rfl, _, hD4, ?_, (s4.trans s5).mut hP nD0, by rw [upd_ne hdD]; exact hd4, gs ++ [h], ?_, ?_⟩
        · rw [List.length_map]
          exact small1000 (Nat.le_trans (hg.length_le) (by rw [List.length_take]; omega))
        · rw [upd_same, List.map_append]
          rfl
        · rw [etake]
          exact hg.append (List.Sublist.refl _)
      · refine ⟨s4.trans s5, hd4, gs, hD4, ?_⟩
        rw [etake]
        exact hg.trans (List.sublist_append_left _ _)
    · rintro H3 ⟨s4, hd, gs, hD, hg⟩
      rw [List.length_map, List.take_length] at hg
      have hgo : ∀ h ∈ gs, PyData.strOk h = true := fun h m => (hho h (hg.subset m)).ok
      refine ⟨fun σ' H' => ∃ (g : Addr) (gs : List Str), σ' = [some (.ref p), some (.int most), some (.ref d), some (.ref g), none] ∧ Stp p c H H' ∧ H' d = some (.lst (hs.map V.str)) ∧ H' g = some (.lst (gs.map V.str)) ∧ gs.Sublist hs, ?_, ?_⟩
      · refine ⟨_, rfl, Nat.zero_le _, fun e ne => ?_⟩
        have s5 : Stp p c H (upd H3 e (.lst [])) := s4.new hP ne
        have hd5 : (upd H3 e (.lst [])) d = some (.lst (hs.map V.str)) := by rw [upd_ne (ne_of_none hd ne)]; exact hd
        have hD5 : (upd H3 e (.lst [])) D = some (.lst (gs.map V.str)) := by rw [upd_ne (ne_of_none hD ne)]; exact hD
        refine ⟨.list (gs.map PyData.str), .list [], Dp.lst (SqL.of hD5) (dp_strs gs), Dp.lst (SqL.of upd_same) .nil, shaped_strs hgo, rfl, _, rfl, ite2 (fun e => ?_) (fun e => ?_)⟩
        · refine ⟨_, rfl, p, c, 4, rfl, s5.1, by decide, by decide, fun r H4 r0 r1 s6 => ?_⟩
          have hd6 : H4 d = some (.lst (hs.map V.str)) := s6.2 d _ (fun e => hP.neP nd0 e.symm) hd5
          have hD6 : H4 D = some (.lst (gs.map V.str)) := s6.2 D _ (fun e => hP.neP nD0 e.symm) hD5
          refine ⟨_, _, rfl, rfl, _, rfl, ite2 (fun e => ?_) (fun e => ?_)⟩
          · refine ⟨_, rfl, 1, rfl, d, _, rfl, SqL.of hd6, fun g ng => ⟨g, hs.take 1, rfl, (s5.trans s6).new hP ng, ?_, ?_, List.take_sublist _ _⟩⟩
            · rw [upd_ne (ne_of_none hd6 ng)]
              exact hd6
            · rw [upd_same]
              have e := cut_to (hs.map V.str) 1
              rw [show ((1 : Nat) : Int) = 1 from rfl] at e
              rw [e, List.map_take]
          · exact ⟨D, gs, rfl, s5.trans s6, hd6, hD6, hg⟩
        · exact ⟨D, gs, rfl, s5, hd5, hD5, hg⟩
      · rintro σ' H' ⟨g, gs, rfl, s5, hd, hg, hsub⟩
        refine ⟨_, rfl, d, _, rfl, .inl ⟨SqL.of hd, fun a na => ?_⟩⟩
        have hg1 : (upd H' a (.tup (hs.map V.str))) g = some (.lst (gs.map V.str)) := by rw [upd_ne (ne_of_none hg na)]; exact hg
        refine ⟨_, rfl, g, _, rfl, .inl ⟨SqL.of hg1, fun b nb => ?_⟩⟩
        have s6 : Stp p c H (upd H' a (.tup (hs.map V.str))) := s5.new hP na
        have s7 := s6.new (o := .tup (gs.map V.str)) hP nb
        have hab : a ≠ b := fun e => by
          rw [← e, upd_same] at nb
          cases nb
        refine ⟨(by show 2 ≤ sizeLine; decide), fun t nt => ?_⟩
        have hta : a ≠ t := fun e => by
          rw [← e, upd_ne hab, upd_same] at nt
          cases nt
        have htb : b ≠ t := fun e => by
          rw [← e, upd_same] at nt
          cases nt
        refine q t hs gs _ (s7.new hP nt) ⟨a, b, upd_same, ?_, ?_⟩ ⟨?_, ?_, hnd, up, hho, hsub⟩
        · rw [upd_ne hta, upd_ne hab, upd_same]
        · rw [upd_ne htb, upd_same]
        · omega
        · omega
theorem pick_house {hs : List Str} {r : Int} (h0 : 0 ≤ r) (h1 : r < (hs.map V.str).length) : ∃ h, h ∈ hs ∧ atI (hs.map V.str) r = some (.str h) := by
  rw [List.length_map] at h1
  have hlt : r.toNat < hs.length := by omega
  refine ⟨hs[r.toNat], List.getElem_mem hlt, at_any (j := r.toNat) (by omega) ?_⟩
  rw [List.getElem?_map, List.getElem?_eq_getElem hlt]
  rfl
theorem TownAt.same' {t : Addr} {H H' : Hp} {hs gs : List Str} (h : TownAt H t hs gs) (s : Same H H') : TownAt H' t hs gs := by
  obtain ⟨a, b, h1, h2, h3⟩ := h
  exact ⟨a, b, s _ _ h1, s _ _ h2, s _ _ h3⟩
def TimeI (a : Int) : Prop := -1000000000000 ≤ a ∧ a ≤ 1000000000000
inductive RowV (hs : List Str) : List V → Prop
  | ask (h g : Str) (k n o b : Int) : h ∈ hs → g ∈ hs → 0 ≤ k → k ≤ 14 → 0 ≤ n → n ≤ 14 → TimeI o → TimeI b → o ≤ b → RowV hs [.str "ask", .str h, .int k, .int n, .str g, .int o, .int b]
  | job (h : Str) (k o b : Int) : h ∈ hs → 0 ≤ k → k ≤ 14 → TimeI o → TimeI b → o ≤ b → RowV hs [.str "job", .str h, .int k, .int o, .int b]
  | all (h : Str) (a j : Int) : h ∈ hs → 0 ≤ a → a ≤ 15 → 0 ≤ j → j ≤ 15 → RowV hs [.str "all", .str h, .int a, .int j]
/-! ### number -/
def sp_l_number : Sp := fun vs H Q _ => ∃ (p c : Addr), vs = [.ref p] ∧ Pen H p c ∧ ∀ (r : Int) (H' : Hp), 0 ≤ r → r ≤ 14 → Stp p c H H' → Q (.int r) H'
/-! ### two times -/
def sp_l_two_times : Sp := fun vs H Q _ => ∃ (p c : Addr), vs = [.ref p] ∧ Pen H p c ∧ ∀ (l : Addr) (a b : Int) (H' : Hp), TimeI a → TimeI b → a ≤ b → Stp p c H H' → H' l = some (.lst [.int a, .int b]) → Q (.ref l) H'
/-! ### rows -/
def sp_row (K : PySem.W.Frag) : Sp := fun vs H Q _ => ∃ (p c t : Addr) (hs gs : List Str), vs = [.ref p, .ref t] ∧ Pen H p c ∧ TownAt H t hs gs ∧ 1 ≤ hs.length ∧ hs.length ≤ 6 ∧
  ∀ (r : Addr) (xs : List V) (H' : Hp), Stp p c H H' → H r = none → H' r = some (.tup xs) → RowV hs xs → Q (.ref r) H'
theorem ok_l_few_row (T : Txt K mg af fd) : FnOk P w K mg base CX0 3 (af 47) (fd 47) ["pen", "town"] (sp_row K) := by
  refine T.F_l_few_row.ok sc_l_few_row (fun vs H Q E h => ?_) (fun cdv A outer s H vs Q E hr h => ?_)
  · obtain ⟨p, c, t, hs, gs, rfl, _⟩ := h
    rfl
  · obtain ⟨p, c, t, hs, gs, rfl, hP, ⟨a, b, t1, t2, t3⟩, l1, l6, q⟩ := h
    refine ⟨_, (pss_cons (ps_set (i := 2) sc_l_few_row.nd rfl (by first | exact Or.inl rfl | exact Or.inr rfl) (pe_ix ix_tup (pe_ix ix_tup (pv 1) pe_int (fun _ _ => rfl)) (pe_call (ok_l_take T) (hr.mono (by first | decide | omega)) (by rfl) T.g_l_take T.F_l_take.kp T.b_l_take .nil pass0 (pa_cons (pv 0) (pa_cons (pe_callB call_len_seq (by rfl) T.m_len (by decide +kernel) (pa_cons (pe_ix ix_tup (pv 1) pe_int (fun _ _ => rfl)) pa_nil)) pa_nil))) (fun _ _ => rfl)))
        (pss_cons (ps_set (i := 3) sc_l_few_row.nd rfl (by first | exact Or.inl rfl | exact Or.inr rfl) (pe_call (ok_l_take T) (hr.mono (by first | decide | omega)) (by rfl) T.g_l_take T.F_l_take.kp T.b_l_take .nil pass0 (pa_cons (pv 0) (pa_cons pe_int pa_nil))))
        (pss_cons (ps_set (i := 4) sc_l_few_row.nd rfl (by first | exact Or.inl rfl | exact Or.inr rfl) (pe_call (ok_l_take T) (hr.mono (by first | decide | omega)) (by rfl) T.g_l_take T.F_l_take.kp T.b_l_take .nil pass0 (pa_cons (pv 0) (pa_cons pe_int pa_nil))))
        (pss_cons (ps_set (i := 5) sc_l_few_row.nd rfl (by first | exact Or.inl rfl | exact Or.inr rfl) (pe_op op_add (pv 4) (pe_call (ok_l_take T) (hr.mono (by first | decide | omega)) (by rfl) T.g_l_take T.F_l_take.kp T.b_l_take .nil pass0 (pa_cons (pv 0) (pa_cons pe_int pa_nil)))))
        (pss_cons (ps_if (pt_cmpR op_lt (pv 3) pe_int (nomark _)) (pss_cons (ps_set (i := 6) sc_l_few_row.nd rfl (by first | exact Or.inl rfl | exact Or.inr rfl) (pe_ix ix_tup (pe_ix ix_tup (pv 1) pe_int (fun _ _ => rfl)) (pe_call (ok_l_take T) (hr.mono (by first | decide | omega)) (by rfl) T.g_l_take T.F_l_take.kp T.b_l_take .nil pass0 (pa_cons (pv 0) (pa_cons (pe_callB call_len_seq (by rfl) T.m_len (by decide +kernel) (pa_cons (pe_ix ix_tup (pv 1) pe_int (fun _ _ => rfl)) pa_nil)) pa_nil))) (fun _ _ => rfl)))
        (pss_one (ps_ret (pe_tup (pa_cons pe_str (pa_cons (pv 2) (pa_cons (pe_call (ok_l_take T) (hr.mono (by first | decide | omega)) (by rfl) T.g_l_take T.F_l_take.kp T.b_l_take .nil pass0 (pa_cons (pv 0) (pa_cons pe_int pa_nil))) (pa_cons (pe_call (ok_l_take T) (hr.mono (by first | decide | omega)) (by rfl) T.g_l_take T.F_l_take.kp T.b_l_take .nil pass0 (pa_cons (pv 0) (pa_cons pe_int pa_nil))) (pa_cons (pv 6) (pa_cons (pv 4) (pa_cons (pv 5) pa_nil))))))))))) pss_nil)
        (pss_cons (ps_if (pt_cmpR op_lt (pv 3) pe_int (nomark _)) (pss_one (ps_ret (pe_tup (pa_cons pe_str (pa_cons (pv 2) (pa_cons (pe_call (ok_l_take T) (hr.mono (by first | decide | omega)) (by rfl) T.g_l_take T.F_l_take.kp T.b_l_take .nil pass0 (pa_cons (pv 0) (pa_cons pe_int pa_nil))) (pa_cons (pv 4) (pa_cons (pv 5) pa_nil)))))))) pss_nil)
        (pss_one (ps_ret (pe_tup (pa_cons pe_str (pa_cons (pv 2) (pa_cons (pe_call (ok_l_take T) (hr.mono (by first | decide | omega)) (by rfl) T.g_l_take T.F_l_take.kp T.b_l_take .nil pass0 (pa_cons (pv 0) (pa_cons pe_int pa_nil))) (pa_cons (pe_call (ok_l_take T) (hr.mono (by first | decide | omega)) (by rfl) T.g_l_take T.F_l_take.kp T.b_l_take .nil pass0 (pa_cons (pv 0) (pa_cons pe_int pa_nil))) pa_nil))))))))))))), ?_⟩
    have lb : 0 < ((hs.map V.str).length : Int) := by rw [List.length_map]; omega
    have lc : ((hs.map V.str).length : Int).natAbs < 2 ^ 100 := by
      rw [List.length_map]
      exact Nat.lt_of_le_of_lt (show _ ≤ 6 by omega) (by decide)
    refine ⟨_, rfl, t, _, 0, _, rfl, rfl, SqT.of t1, rfl, _, rfl, _, rfl, t, _, 0, _, rfl, rfl, SqT.of t1, rfl, a, _, rfl, .inr (SqT.of t2), p, c, _, rfl, hP, lb, lc, fun r H1 r0 r1 s1 => ?_⟩
    obtain ⟨h, mh, eh⟩ := pick_house r0 r1
    refine ⟨a, _, r, _, rfl, rfl, SqT.of (s1.tup hP t2), eh, ?_⟩
    refine ⟨_, rfl, p, c, 7, rfl, s1.1, by decide, by decide, fun way H2 w0 w1 s2 => ?_⟩
    refine ⟨_, rfl, p, c, 6, rfl, s2.1, by decide, by decide, fun o H3 o0 o1 s3 => ?_⟩
    refine ⟨_, rfl, _, rfl, p, c, 4, rfl, s3.1, by decide, by decide, fun y H4 y0 y1 s4 => ?_⟩
    refine ⟨_, _, rfl, rfl, ?_⟩
    have s123 := ((s1.trans s2).trans s3).trans s4
    have u1 := s123.tup hP t1
    have u2 := s123.tup hP t2
    have to : TimeI o := by unfold TimeI; omega
    have te : TimeI (o + y) := by unfold TimeI; omega
    have oe : o ≤ o + y := by omega
    refine ⟨_, rfl, _, _, rfl, rfl, _, rfl, ite2 (fun ew => ?_) (fun ew => ?_)⟩
    · refine ⟨_, rfl, t, _, 0, _, rfl, rfl, SqT.of u1, rfl, _, rfl, _, rfl, t, _, 0, _, rfl, rfl, SqT.of u1, rfl, a, _, rfl, .inr (SqT.of u2), p, c, _, rfl, s123.1, lb, lc, fun r2 H4 r20 r21 s4 => ?_⟩
      obtain ⟨g, mg2, eg⟩ := pick_house r20 r21
      have s14 := s123.trans s4
      refine ⟨a, _, r2, _, rfl, rfl, SqT.of (s14.tup hP t2), eg, ?_⟩
      refine ⟨_, rfl, _, rfl, p, c, 3, rfl, s14.1, by decide, by decide, fun k H5 k0 k1 s5 => ?_⟩
      refine ⟨_, rfl, p, c, 3, rfl, s5.1, by decide, by decide, fun n H6 n0 n1 s6 => ?_⟩
      have s16 := (s14.trans s5).trans s6
      refine ⟨_, rfl, _, rfl, _, rfl, (by show 7 ≤ sizeLine; decide), fun rr nr => ?_⟩
      exact q rr _ _ (s16.new hP nr) (s16.back hP nr) upd_same (.ask h g k n o (o + y) mh mg2 k0 (by omega) n0 (by omega) to te oe)
    · refine ⟨_, rfl, _, _, rfl, rfl, _, rfl, ite2 (fun ew => ?_) (fun ew => ?_)⟩
      · refine ⟨_, rfl, _, rfl, p, c, 3, rfl, s123.1, by decide, by decide, fun k H5 k0 k1 s5 => ?_⟩
        have s15 := s123.trans s5
        refine ⟨_, rfl, _, rfl, (by show 5 ≤ sizeLine; decide), fun rr nr => ?_⟩
        exact q rr _ _ (s15.new hP nr) (s15.back hP nr) upd_same (.job h k o (o + y) mh k0 (by omega) to te oe)
      · refine ⟨_, rfl, _, rfl, p, c, 5, rfl, s123.1, by decide, by decide, fun k H5 k0 k1 s5 => ?_⟩
        refine ⟨_, rfl, p, c, 5, rfl, s5.1, by decide, by decide, fun n H7 n0 n1 s7 => ?_⟩
        have s18 := (s123.trans s5).trans s7
        refine ⟨(by show 4 ≤ sizeLine; decide), fun rr nr => ?_⟩
        exact q rr _ _ (s18.new hP nr) (s18.back hP nr) upd_same (.all h k n mh k0 (by omega) n0 (by omega))
/-! ### data of any kind: what reads as d at v, its lists outside Ex -/
mutual
inductive Dq (Ex : Addr → Prop) (H : Hp) : V → PyData → Prop
  | non : Dq Ex H .non .none
  | bl (b : Bool) : Dq Ex H (.bl b) (.bool b)
  | int (i : Int) : Dq Ex H (.int i) (.int i)
  | str (x : Str) : Dq Ex H (.str x) (.str x)
  | lst {a : Addr} {xs : List V} {ds : List PyData} : ¬ Ex a → H a = some (.lst xs) → Dqs Ex H xs ds → Dq Ex H (.ref a) (.list ds)
  | tup {a : Addr} {xs : List V} {ds : List PyData} : H a = some (.tup xs) → Dqs Ex H xs ds → Dq Ex H (.ref a) (.tuple ds)
inductive Dqs (Ex : Addr → Prop) (H : Hp) : List V → List PyData → Prop
  | nil : Dqs Ex H [] []
  | cons {v : V} {vs : List V} {d : PyData} {ds : List PyData} : Dq Ex H v d → Dqs Ex H vs ds → Dqs Ex H (v :: vs) (d :: ds)
end
mutual
theorem Dq.go {Ex Ey : Addr → Prop} {H H' : Hp} (he : ∀ a, Ey a → ¬ Ex a → H a = none) (hl : ∀ a xs, ¬ Ex a → H a = some (.lst xs) → H' a = some (.lst xs)) (ht : ∀ a xs, H a = some (.tup xs) → H' a = some (.tup xs)) : ∀ {v : V} {d : PyData}, Dq Ex H v d → Dq Ey H' v d
  | _, _, .non => .non
  | _, _, .bl b => .bl b
  | _, _, .int i => .int i
  | _, _, .str x => .str x
  | _, _, .lst n h r => .lst (fun z => by rw [he _ z n] at h; cases h) (hl _ _ n h) (Dqs.go he hl ht r)
  | _, _, .tup h r => .tup (ht _ _ h) (Dqs.go he hl ht r)
theorem Dqs.go {Ex Ey : Addr → Prop} {H H' : Hp} (he : ∀ a, Ey a → ¬ Ex a → H a = none) (hl : ∀ a xs, ¬ Ex a → H a = some (.lst xs) → H' a = some (.lst xs)) (ht : ∀ a xs, H a = some (.tup xs) → H' a = some (.tup xs)) : ∀ {vs : List V} {ds : List PyData}, Dqs Ex H vs ds → Dqs Ey H' vs ds
  | _, _, .nil => .nil
  | _, _, .cons h r => .cons (Dq.go he hl ht h) (Dqs.go he hl ht r)
end
mutual
theorem Dq.dp {K : PySem.W.Frag} {Ex : Addr → Prop} {H : Hp} : ∀ {v : V} {d : PyData}, Dq Ex H v d → Dp K H v d
  | _, _, .non => .non
  | _, _, .bl b => .bl b
  | _, _, .int i => .int i
  | _, _, .str x => .str x
  | _, _, .lst _ h r => .lst (SqL.of h) (Dqs.dp r)
  | _, _, .tup h r => .tup (SqT.of h) (Dqs.dp r)
theorem Dqs.dp {K : PySem.W.Frag} {Ex : Addr → Prop} {H : Hp} : ∀ {vs : List V} {ds : List PyData}, Dqs Ex H vs ds → DpAll K H vs ds
  | _, _, .nil => .nil
  | _, _, .cons h r => .cons (Dq.dp h) (Dqs.dp r)
end
theorem Dqs.len {Ex : Addr → Prop} {H : Hp} : ∀ {vs : List V} {ds : List PyData}, Dqs Ex H vs ds → vs.length = ds.length
  | _, _, .nil => rfl
  | _, _, .cons _ r => by rw [List.length_cons, List.length_cons, r.len]
theorem Dqs.get {Ex : Addr → Prop} {H : Hp} : ∀ {vs : List V} {ds : List PyData} {i : Nat} {d : PyData}, Dqs Ex H vs ds → ds[i]? = some d → ∃ v, vs[i]? = some v ∧ Dq Ex H v d
  | _, _, 0, _, .cons h _, e => ⟨_, rfl, by obtain rfl := Option.some.inj e; exact h⟩
  | _, _, _ + 1, _, .cons _ r, e => r.get e
theorem Dqs.take {Ex : Addr → Prop} {H : Hp} : ∀ {vs : List V} {ds : List PyData} (n : Nat), Dqs Ex H vs ds → Dqs Ex H (vs.take n) (ds.take n)
  | _, _, 0, _ => .nil
  | _, _, _ + 1, .nil => .nil
  | _, _, n + 1, .cons h r => .cons h (r.take n)
theorem Dqs.drop {Ex : Addr → Prop} {H : Hp} : ∀ {vs : List V} {ds : List PyData} (n : Nat), Dqs Ex H vs ds → Dqs Ex H (vs.drop n) (ds.drop n)
  | _, _, 0, r => r
  | _, _, _ + 1, .nil => .nil
  | _, _, n + 1, .cons _ r => r.drop n
theorem Dqs.app {Ex : Addr → Prop} {H : Hp} : ∀ {vs us : List V} {ds es : List PyData}, Dqs Ex H vs ds → Dqs Ex H us es → Dqs Ex H (vs ++ us) (ds ++ es)
  | _, _, _, _, .nil, r => r
  | _, _, _, _, .cons h r, q => .cons h (r.app q)
/-! the type's name -/
def tyN : PyData → String
  | .none => "NoneType"
  | .bool _ => "bool"
  | .int _ => "int"
  | .str _ => "str"
  | .list _ => "list"
  | .tuple _ => "tuple"
  | .dict _ => "dict"
theorem Dq.ty {K : PySem.W.Frag} {Ex : Addr → Prop} {H : Hp} {v : V} {d : PyData} (h : Dq Ex H v d) : TyX K H v (.type (tyN d)) := by
  cases h with
  | non => exact .base .non
  | bl b => exact .base (.bl b)
  | int i => exact .base (.int i)
  | str x => exact .base (.str x)
  | lst _ h _ => exact .base (.lst h)
  | tup h _ => exact .base (.tup h)
/-! isinstance(d, a built-in) -/
def isB (d : PyData) (n : String) : Bool := match d, n with
  | .bool _, "bool" => true
  | .bool _, "int" => true
  | .int _, "int" => true
  | .str _, "str" => true
  | .list _, "list" => true
  | .tuple _, "tuple" => true
  | _, _ => false
theorem isi_kit {K : PySem.W.Frag} {Ex : Addr → Prop} {H : Hp} {v : V} {d : PyData} {n : String} (h : Dq Ex H v d) (hn : n = "bool" ∨ n = "int" ∨ n = "str" ∨ n = "list" ∨ n = "tuple") : PySem.W.kitOne K (.type (tyN d)) (.type n) = some (isB d n) := by
  refine kit_ty ?_
  have key : ∀ e : PyData, (∀ kvs, e ≠ .dict kvs) → kitB (tyN e) n = some (isB e n) := by
    intro e he
    rcases hn with rfl | rfl | rfl | rfl | rfl <;> cases e <;> first | exact absurd rfl (he _) | rfl
  refine key d fun kvs e => ?_
  subst e
  cases h
theorem n_bool : "bool" = "bool" ∨ "bool" = "int" ∨ "bool" = "str" ∨ "bool" = "list" ∨ "bool" = "tuple" := .inl rfl
theorem n_int : "int" = "bool" ∨ "int" = "int" ∨ "int" = "str" ∨ "int" = "list" ∨ "int" = "tuple" := .inr (.inl rfl)
theorem n_str : "str" = "bool" ∨ "str" = "int" ∨ "str" = "str" ∨ "str" = "list" ∨ "str" = "tuple" := .inr (.inr (.inl rfl))
theorem n_list : "list" = "bool" ∨ "list" = "int" ∨ "list" = "str" ∨ "list" = "list" ∨ "list" = "tuple" := .inr (.inr (.inr (.inl rfl)))
theorem n_tuple : "tuple" = "bool" ∨ "tuple" = "int" ∨ "tuple" = "str" ∨ "tuple" = "list" ∨ "tuple" = "tuple" := .inr (.inr (.inr (.inr rfl)))
/-! x in t, x not in t, of any data -/
def rInTD (K : PySem.W.Frag) : R2 := fun x y H Q => ∃ d ds, Dp K H x d ∧ Dp K H y (.tuple ds) ∧ SeqAt.shaped d = true ∧ SeqAt.shaped (.tuple ds) = true ∧ Q (.bl (ds.any fun z => PyData.eqv z d)) H
def rNotInTD (K : PySem.W.Frag) : R2 := fun x y H Q => ∃ d ds, Dp K H x d ∧ Dp K H y (.tuple ds) ∧ SeqAt.shaped d = true ∧ SeqAt.shaped (.tuple ds) = true ∧ Q (.bl (!ds.any fun z => PyData.eqv z d)) H
theorem op_inTD {X : Cx} (hu : X.A.units + 65 < cLine) : OpR X (compareOp .In) (rInTD X.K) := by
  intro pins s σ H x y v u Q I rx ry h
  obtain ⟨d, ds, hd, he, sd, se, q⟩ := h
  obtain ⟨as, r1⟩ := Dp.reads I d x v hd rx
  obtain ⟨bs, r2⟩ := Dp.reads I (.tuple ds) y u he ry
  exact SeqAt.in_tuple_reads r2 r1 (SeqAt.canLay_of_shaped se) (SeqAt.canLay_of_shaped sd) (room_in_shaped sd hu) ⟨.bl _, H, I, rfl, q⟩
theorem op_notInTD {X : Cx} (hu : X.A.units + 65 < cLine) : OpR X (compareOp .NotIn) (rNotInTD X.K) := by
  intro pins s σ H x y v u Q I rx ry h
  obtain ⟨d, ds, hd, he, sd, se, q⟩ := h
  obtain ⟨as, r1⟩ := Dp.reads I d x v hd rx
  obtain ⟨bs, r2⟩ := Dp.reads I (.tuple ds) y u he ry
  exact SeqAt.notIn_tuple_reads r2 r1 (SeqAt.canLay_of_shaped se) (SeqAt.canLay_of_shaped sd) (room_in_shaped sd hu) ⟨.bl _, H, I, rfl, q⟩
theorem eqv_str {d : PyData} {x : Str} : PyData.eqv d (.str x) = true ↔ d = .str x := by
  cases d <;> simp [PyData.eqv]
theorem eqv_str' {d : PyData} {x : Str} : PyData.eqv (.str x) d = true ↔ d = .str x := by
  cases d <;> simp [PyData.eqv]
  exact ⟨fun e => e.symm, fun e => e.symm⟩
theorem any_strs {hs : List Str} {d : PyData} : ((hs.map PyData.str).any fun z => PyData.eqv z d) = true ↔ ∃ h ∈ hs, d = .str h := by
  rw [List.any_map, List.any_eq_true]
  constructor
  · rintro ⟨h, m, e⟩
    exact ⟨h, m, eqv_str'.mp e⟩
  · rintro ⟨h, m, e⟩
    exact ⟨h, m, eqv_str'.mpr e⟩
/-! data that may be laid, and not too deep -/
def Sh (d : PyData) : Prop := d.canLay0 = true ∧ d.depth ≤ 60
theorem Sh.shaped {d : PyData} (h : Sh d) : SeqAt.shaped d = true := by
  unfold SeqAt.shaped
  rw [h.1, Bool.true_and]
  exact decide_eq_true (Nat.le_trans h.2 (by decide))
theorem sh_all : ∀ {ds : List PyData}, PyData.canLayAll0 ds = true → PyData.depthAll ds ≤ 59 → ∀ d ∈ ds, Sh d
  | x :: xs, h1, h2, d, hd => by
    have h1' : (x.canLay0 && PyData.canLayAll0 xs) = true := h1
    rw [Bool.and_eq_true] at h1'
    have h2' : max x.depth (PyData.depthAll xs) ≤ 59 := h2
    rcases List.mem_cons.mp hd with e | m
    · subst e
      exact ⟨h1'.1, by omega⟩
    · exact sh_all h1'.2 (by omega) d m
theorem Sh.items {ds : List PyData} (h : Sh (.tuple ds)) : ∀ d ∈ ds, Sh d := sh_all h.1 (Nat.le_of_succ_le_succ h.2)
theorem Dq.same {Ex : Addr → Prop} {H H' : Hp} {v : V} {d : PyData} (h : Dq Ex H v d) (s : Same H H') : Dq Ex H' v d := h.go (fun _ a b => absurd a b) (fun _ _ _ e => s _ _ e) (fun _ _ e => s _ _ e)
theorem Dqs.same {Ex : Addr → Prop} {H H' : Hp} {v : List V} {d : List PyData} (h : Dqs Ex H v d) (s : Same H H') : Dqs Ex H' v d := h.go (fun _ a b => absurd a b) (fun _ _ _ e => s _ _ e) (fun _ _ e => s _ _ e)
/-! ### rows as data, and which clash (point 6) -/
inductive Row where
  | ask (h g : Str) (k n o b : Int)
  | job (h : Str) (k o b : Int)
  | all (h : Str) (a j : Int)
  deriving DecidableEq
def Row.data : Row → List PyData
  | .ask h g k n o b => [.str "ask", .str h, .int k, .int n, .str g, .int o, .int b]
  | .job h k o b => [.str "job", .str h, .int k, .int o, .int b]
  | .all h a j => [.str "all", .str h, .int a, .int j]
def Row.vals (r : Row) : List V := r.data.map Fl.dV
def Row.h : Row → Str
  | .ask h _ _ _ _ _ => h
  | .job h _ _ _ => h
  | .all h _ _ => h
def Row.word : Row → Str
  | .ask _ _ _ _ _ _ => "ask"
  | .job _ _ _ _ => "job"
  | .all _ _ _ => "all"
def NumI (k : Int) : Prop := 0 ≤ k ∧ k ≤ 14
def CntI (k : Int) : Prop := 0 ≤ k ∧ k ≤ 15
def Row.Wf : Row → Prop
  | .ask h g k n o b => PyData.strOk h = true ∧ PyData.strOk g = true ∧ NumI k ∧ NumI n ∧ TimeI o ∧ TimeI b ∧ o ≤ b
  | .job h k o b => PyData.strOk h = true ∧ NumI k ∧ TimeI o ∧ TimeI b ∧ o ≤ b
  | .all h a j => PyData.strOk h = true ∧ CntI a ∧ CntI j
def Row.In (hs : List Str) : Row → Prop
  | .ask h g _ _ _ _ => h ∈ hs ∧ g ∈ hs
  | .job h _ _ _ => h ∈ hs
  | .all h _ _ => h ∈ hs
theorem RowV.row {hs : List Str} {xs : List V} (hh : ∀ h ∈ hs, HouseS h) (x : RowV hs xs) : ∃ r : Row, xs = r.vals ∧ r.Wf ∧ r.In hs := by
  cases x with
  | ask h g k n o b mh mg k0 k1 n0 n1 to tb ob => exact ⟨.ask h g k n o b, rfl, ⟨(hh h mh).ok, (hh g mg).ok, ⟨k0, k1⟩, ⟨n0, n1⟩, to, tb, ob⟩, mh, mg⟩
  | job h k o b mh k0 k1 to tb ob => exact ⟨.job h k o b, rfl, ⟨(hh h mh).ok, ⟨k0, k1⟩, to, tb, ob⟩, mh⟩
  | all h a j mh a0 a1 j0 j1 => exact ⟨.all h a j, rfl, ⟨(hh h mh).ok, ⟨a0, a1⟩, ⟨j0, j1⟩⟩, mh⟩
def RowAt (H : Hp) (a : Addr) (r : Row) : Prop := H a = some (.tup r.vals)
theorem RowAt.t {H : Hp} {a : Addr} {r : Row} (h : RowAt H a r) : SqT K H a r.vals := SqT.of h
theorem at0 (r : Row) : atI r.vals 0 = some (.str r.word) := by cases r <;> rfl
theorem at1 (r : Row) : atI r.vals 1 = some (.str r.h) := by cases r <;> rfl
theorem dp_row {H : Hp} (r : Row) : DpAll K H r.vals r.data := by
  cases r with
  | ask h g k n o b => exact .cons (.str _) (.cons (.str _) (.cons (.int _) (.cons (.int _) (.cons (.str _) (.cons (.int _) (.cons (.int _) .nil))))))
  | job h k o b => exact .cons (.str _) (.cons (.str _) (.cons (.int _) (.cons (.int _) (.cons (.int _) .nil))))
  | all h a j => exact .cons (.str _) (.cons (.str _) (.cons (.int _) (.cons (.int _) .nil)))
theorem RowAt.dp {H : Hp} {a : Addr} {r : Row} (h : RowAt H a r) : Dp K H (.ref a) (.tuple r.data) := Dp.tup h.t (dp_row r)
theorem Row.Wf.sh {r : Row} (h : r.Wf) : SeqAt.shaped (.tuple r.data) = true := by
  unfold SeqAt.shaped
  rw [Bool.and_eq_true]
  cases r with
  | ask h' g k n o b =>
    refine ⟨?_, rfl⟩
    show (PyData.strOk "ask" && (PyData.strOk h' && (true && (true && (PyData.strOk g && (true && (true && true))))))) = true
    rw [h.1, h.2.1]
    decide +kernel
  | job h' k o b =>
    refine ⟨?_, rfl⟩
    show (PyData.strOk "job" && (PyData.strOk h' && (true && (true && (true && true))))) = true
    rw [h.1]
    decide +kernel
  | all h' a j =>
    refine ⟨?_, rfl⟩
    show (PyData.strOk "all" && (PyData.strOk h' && (true && (true && true)))) = true
    rw [h.1]
    decide +kernel
theorem row_eqv (x y : Row) : PyData.eqv (.tuple x.data) (.tuple y.data) = decide (x = y) := by
  have n1 : ((("ask" : Str)) == ("job" : Str)) = false := by decide +kernel
  have n2 : ((("ask" : Str)) == ("all" : Str)) = false := by decide +kernel
  have n3 : ((("job" : Str)) == ("ask" : Str)) = false := by decide +kernel
  have n4 : ((("job" : Str)) == ("all" : Str)) = false := by decide +kernel
  have n5 : ((("all" : Str)) == ("ask" : Str)) = false := by decide +kernel
  have n6 : ((("all" : Str)) == ("job" : Str)) = false := by decide +kernel
  have bdS : ∀ a b : Str, (a == b) = decide (a = b) := fun a b => by by_cases h : a = b <;> simp [h]
  have bdI : ∀ a b : Int, (a == b) = decide (a = b) := fun a b => by by_cases h : a = b <;> simp [h]
  cases x <;> cases y <;> simp [Row.data, PyData.eqv, PyData.eqvAll, n1, n2, n3, n4, n5, n6, bdS, bdI]
  rename_i h g k n o b h' g' k' n' o' b'
  generalize decide (h = h') = c1
  generalize decide (g = g') = c2
  generalize decide (k = k') = c3
  generalize decide (n = n') = c4
  cases c1 <;> cases c2 <;> cases c3 <;> cases c4 <;> rfl
theorem ff {p : Prop} (h : ¬ p) : (false = true ↔ p) := ⟨fun z => Bool.noConfusion z, fun z => absurd z h⟩
theorem tt {p : Prop} (h : p) : (true = true ↔ p) := ⟨fun _ => h, fun _ => rfl⟩
theorem w_aj : ("ask" : Str) ≠ ("job" : Str) := by decide +kernel
theorem w_aa : ("ask" : Str) ≠ ("all" : Str) := by decide +kernel
theorem w_ja : ("job" : Str) ≠ ("all" : Str) := by decide +kernel
theorem dstr {a b : Str} (h : a ≠ b) : decide (V.str a = V.str b) = false := decide_eq_false fun e => h (V.str.inj e)
theorem dstrT (a : Str) : decide (V.str a = V.str a) = true := decide_eq_true rfl
theorem word_len (r : Row) : r.word.length ≤ 3 := by
  cases r
  · exact (by decide +kernel : (Str.ofString "ask").length ≤ 3)
  · exact (by decide +kernel : (Str.ofString "job").length ≤ 3)
  · exact (by decide +kernel : (Str.ofString "all").length ≤ 3)
theorem row_flat (r : Row) : r.data.all Fl.flatD = true := by cases r <;> rfl
def ClashP : Row → Row → Prop
  | .ask h g k n o b, .ask h' g' k' n' o' b' => h = h' ∧ ¬ (Row.ask h g k n o b = .ask h' g' k' n' o' b') ∧ (k = k' ∨ (k < k' ∧ o' < o) ∨ (k' < k ∧ o < o'))
  | .job h k o b, .job h' k' o' b' => h = h' ∧ ¬ (Row.job h k o b = .job h' k' o' b') ∧ (k = k' ∨ (k < k' ∧ o' < o) ∨ (k' < k ∧ o < o'))
  | .all h a j, .all h' a' j' => h = h' ∧ ¬ (Row.all h a j = .all h' a' j')
  | .job h k o b, .ask h' _ _ n o' b' => h = h' ∧ ((k ≤ n ∧ o' ≤ o) ∨ (k = n ∧ b ≤ b'))
  | .ask h' _ _ n o' b', .job h k o b => h = h' ∧ ((k ≤ n ∧ o' ≤ o) ∨ (k = n ∧ b ≤ b'))
  | .all h a j, .ask h' _ k n _ _ => h = h' ∧ (a ≤ k ∨ j ≤ n)
  | .ask h' _ k n _ _, .all h a j => h = h' ∧ (a ≤ k ∨ j ≤ n)
  | .all h _ j, .job h' k _ _ => h = h' ∧ j ≤ k
  | .job h' k _ _, .all h _ j => h = h' ∧ j ≤ k
/-! ### the program's defs -/
def sp_is_out_of_order : Sp := fun vs H Q _ => ∃ (a t b u : Int), vs = [.int a, .int t, .int b, .int u] ∧ ∀ r : Bool, (r = true ↔ ((a < b ∧ u < t) ∨ (¬ a < b ∧ t < u))) → Q (.bl r) H
theorem ok_is_out_of_order (T : Txt K mg af fd) : FnOk P w K mg base CX0 1 (af 13) (fd 13) ["number", "time", "other_number", "other_time"] sp_is_out_of_order := by
  refine T.F_is_out_of_order.ok sc_is_out_of_order (fun vs H Q E h => ?_) (fun cdv A outer s H vs Q E hr h => ?_)
  · obtain ⟨a, t, b, u, rfl, _⟩ := h
    rfl
  · obtain ⟨a, t, b, u, rfl, q⟩ := h
    refine ⟨_, (pss_cons (ps_if (pt_cmpR op_lt (pv 0) (pv 2) (nomark _)) (pss_one (ps_ret (pe_cmpR op_gt (pv 1) (pv 3) (nomark _)))) pss_nil)
        (pss_one (ps_ret (pe_cmpR op_lt (pv 1) (pv 3) (nomark _))))), ?_⟩
    refine ⟨_, rfl, _, rfl, _, _, rfl, rfl, _, rfl, ite2 (fun e => ?_) (fun e => ?_)⟩
    · refine ⟨_, rfl, _, rfl, _, _, rfl, rfl, q _ ?_⟩
      have e1 := of_decide_eq_true e
      rw [decide_eq_true_eq]
      omega
    · refine ⟨_, rfl, _, rfl, _, _, rfl, rfl, q _ ?_⟩
      have e1 : ¬ a < b := fun h => e (decide_eq_true h)
      rw [decide_eq_true_eq]
      omega
def sp_do_asks_clash : Sp := fun vs H Q _ => ∃ (x y : Addr) (h g : Str) (k n o b : Int) (h' g' : Str) (k' n' o' b' : Int), vs = [.ref x, .ref y] ∧ RowAt H x (.ask h g k n o b) ∧ RowAt H y (.ask h' g' k' n' o' b') ∧ ∀ r : Bool, (r = true ↔ (k = k' ∨ (k < k' ∧ o' < o) ∨ (k' < k ∧ o < o'))) → Q (.bl r) H
theorem ok_do_asks_clash (T : Txt K mg af fd) : FnOk P w K mg base CX0 2 (af 14) (fd 14) ["one", "other"] sp_do_asks_clash := by
  refine T.F_do_asks_clash.ok sc_do_asks_clash (fun vs H Q E h => ?_) (fun cdv A outer s H vs Q E hr h => ?_)
  · obtain ⟨x, y, h, g, k, n, o, b, h', g', k', n', o', b', rfl, _⟩ := h
    rfl
  · obtain ⟨x, y, h, g, k, n, o, b, h', g', k', n', o', b', rfl, hx, hy, q⟩ := h
    refine ⟨_, (pss_cons (ps_par (i := 2) (j := 3) (by rfl) sc_do_asks_clash.nd rfl rfl (by decide) rfl rfl (pa_cons (pe_ix ix_tup (pv 0) pe_int (fun _ _ => rfl)) (pa_cons (pe_ix ix_tup (pv 0) pe_int (fun _ _ => rfl)) pa_nil)) (by rfl))
        (pss_cons (ps_par (i := 4) (j := 5) (by rfl) sc_do_asks_clash.nd rfl rfl (by decide) rfl rfl (pa_cons (pe_ix ix_tup (pv 1) pe_int (fun _ _ => rfl)) (pa_cons (pe_ix ix_tup (pv 1) pe_int (fun _ _ => rfl)) pa_nil)) (by rfl))
        (pss_one (ps_ret (pe_or (pe_cmpR op_eq (pv 2) (pv 4) (nomark _)) (pe_one (pe_call (ok_is_out_of_order T) (hr.mono (by first | decide | omega)) (by rfl) T.g_is_out_of_order T.F_is_out_of_order.kp T.b_is_out_of_order .nil pass0 (pa_cons (pv 2) (pa_cons (pv 3) (pa_cons (pv 4) (pa_cons (pv 5) pa_nil))))))))))), ?_⟩
    refine ⟨_, rfl, x, _, 2, _, rfl, rfl, hx.t, rfl, _, rfl, x, _, 5, _, rfl, rfl, hx.t, rfl, _, _, rfl, ?_⟩
    refine ⟨_, rfl, y, _, 2, _, rfl, rfl, hy.t, rfl, _, rfl, y, _, 5, _, rfl, rfl, hy.t, rfl, _, _, rfl, ?_⟩
    refine ⟨_, rfl, _, rfl, rfl, _, rfl, ite2 (fun e => ?_) (fun e => ?_)⟩
    · have e1 := V.int.inj (of_decide_eq_true e)
      exact q true ⟨fun _ => .inl e1, fun _ => rfl⟩
    · have e1 : ¬ k = k' := fun z => e (decide_eq_true (congrArg V.int z))
      refine ⟨_, rfl, _, rfl, _, rfl, _, rfl, k, o, k', o', rfl, fun r hr => q r ?_⟩
      rw [hr]
      omega
def sp_do_jobs_clash : Sp := fun vs H Q _ => ∃ (x y : Addr) (h : Str) (k o b : Int) (h' : Str) (k' o' b' : Int), vs = [.ref x, .ref y] ∧ RowAt H x (.job h k o b) ∧ RowAt H y (.job h' k' o' b') ∧ ∀ r : Bool, (r = true ↔ (k = k' ∨ (k < k' ∧ o' < o) ∨ (k' < k ∧ o < o'))) → Q (.bl r) H
theorem ok_do_jobs_clash (T : Txt K mg af fd) : FnOk P w K mg base CX0 2 (af 15) (fd 15) ["one", "other"] sp_do_jobs_clash := by
  refine T.F_do_jobs_clash.ok sc_do_jobs_clash (fun vs H Q E h => ?_) (fun cdv A outer s H vs Q E hr h => ?_)
  · obtain ⟨x, y, h, k, o, b, h', k', o', b', rfl, _⟩ := h
    rfl
  · obtain ⟨x, y, h, k, o, b, h', k', o', b', rfl, hx, hy, q⟩ := h
    refine ⟨_, (pss_cons (ps_par (i := 2) (j := 3) (by rfl) sc_do_jobs_clash.nd rfl rfl (by decide) rfl rfl (pa_cons (pe_ix ix_tup (pv 0) pe_int (fun _ _ => rfl)) (pa_cons (pe_ix ix_tup (pv 0) pe_int (fun _ _ => rfl)) pa_nil)) (by rfl))
        (pss_cons (ps_par (i := 4) (j := 5) (by rfl) sc_do_jobs_clash.nd rfl rfl (by decide) rfl rfl (pa_cons (pe_ix ix_tup (pv 1) pe_int (fun _ _ => rfl)) (pa_cons (pe_ix ix_tup (pv 1) pe_int (fun _ _ => rfl)) pa_nil)) (by rfl))
        (pss_one (ps_ret (pe_or (pe_cmpR op_eq (pv 2) (pv 4) (nomark _)) (pe_one (pe_call (ok_is_out_of_order T) (hr.mono (by first | decide | omega)) (by rfl) T.g_is_out_of_order T.F_is_out_of_order.kp T.b_is_out_of_order .nil pass0 (pa_cons (pv 2) (pa_cons (pv 3) (pa_cons (pv 4) (pa_cons (pv 5) pa_nil))))))))))), ?_⟩
    refine ⟨_, rfl, x, _, 2, _, rfl, rfl, hx.t, rfl, _, rfl, x, _, 3, _, rfl, rfl, hx.t, rfl, _, _, rfl, ?_⟩
    refine ⟨_, rfl, y, _, 2, _, rfl, rfl, hy.t, rfl, _, rfl, y, _, 3, _, rfl, rfl, hy.t, rfl, _, _, rfl, ?_⟩
    refine ⟨_, rfl, _, rfl, rfl, _, rfl, ite2 (fun e => ?_) (fun e => ?_)⟩
    · have e1 := V.int.inj (of_decide_eq_true e)
      exact q true ⟨fun _ => .inl e1, fun _ => rfl⟩
    · have e1 : ¬ k = k' := fun z => e (decide_eq_true (congrArg V.int z))
      refine ⟨_, rfl, _, rfl, _, rfl, _, rfl, k, o, k', o', rfl, fun r hr => q r ?_⟩
      rw [hr]
      omega
def sp_do_job_and_ask_clash : Sp := fun vs H Q _ => ∃ (x y : Addr) (h : Str) (k o b : Int) (h' g' : Str) (k' n' o' b' : Int), vs = [.ref x, .ref y] ∧ RowAt H x (.job h k o b) ∧ RowAt H y (.ask h' g' k' n' o' b') ∧ ∀ r : Bool, (r = true ↔ ((k ≤ n' ∧ o' ≤ o) ∨ (k = n' ∧ b ≤ b'))) → Q (.bl r) H
theorem ok_do_job_and_ask_clash (T : Txt K mg af fd) : FnOk P w K mg base CX0 1 (af 16) (fd 16) ["job", "ask"] sp_do_job_and_ask_clash := by
  refine T.F_do_job_and_ask_clash.ok sc_do_job_and_ask_clash (fun vs H Q E h => ?_) (fun cdv A outer s H vs Q E hr h => ?_)
  · obtain ⟨x, y, h, k, o, b, h', g', k', n', o', b', rfl, _⟩ := h
    rfl
  · obtain ⟨x, y, h, k, o, b, h', g', k', n', o', b', rfl, hx, hy, q⟩ := h
    refine ⟨_, (pss_cons (ps_par3 (i := 2) (j := 3) (l := 4) (by rfl) sc_do_job_and_ask_clash.nd rfl rfl rfl (by decide) (by decide) (by decide) rfl rfl rfl (pa_cons (pe_ix ix_tup (pv 0) pe_int (fun _ _ => rfl)) (pa_cons (pe_ix ix_tup (pv 0) pe_int (fun _ _ => rfl)) (pa_cons (pe_ix ix_tup (pv 0) pe_int (fun _ _ => rfl)) pa_nil))) (by rfl))
        (pss_cons (ps_par3 (i := 5) (j := 6) (l := 7) (by rfl) sc_do_job_and_ask_clash.nd rfl rfl rfl (by decide) (by decide) (by decide) rfl rfl rfl (pa_cons (pe_ix ix_tup (pv 1) pe_int (fun _ _ => rfl)) (pa_cons (pe_ix ix_tup (pv 1) pe_int (fun _ _ => rfl)) (pa_cons (pe_ix ix_tup (pv 1) pe_int (fun _ _ => rfl)) pa_nil))) (by rfl))
        (pss_cons (ps_if (PW.pt (pw_and (pt_cmpR op_le (pv 2) (pv 5) (nomark _)) (pw_and1 (pt_cmpR op_ge (pv 3) (pv 6) (nomark _))))) (pss_one (ps_ret pe_bl)) pss_nil)
        (pss_one (ps_ret (pe_and (pe_cmpR op_eq (pv 2) (pv 5) (nomark _)) (pe_one (pe_cmpR op_le (pv 4) (pv 7) (nomark _))))))))), ?_⟩
    refine ⟨_, rfl, x, _, 2, _, rfl, rfl, hx.t, rfl, _, rfl, x, _, 3, _, rfl, rfl, hx.t, rfl, _, rfl, x, _, 4, _, rfl, rfl, hx.t, rfl, _, _, _, rfl, ?_⟩
    refine ⟨_, rfl, y, _, 3, _, rfl, rfl, hy.t, rfl, _, rfl, y, _, 5, _, rfl, rfl, hy.t, rfl, _, rfl, y, _, 6, _, rfl, rfl, hy.t, rfl, _, _, _, rfl, ?_⟩
    refine ⟨_, rfl, _, rfl, _, _, rfl, rfl, _, rfl, ite2 (fun e => ?_) (fun e => ?_)⟩
    · have e1 := of_decide_eq_true e
      refine ⟨_, rfl, _, rfl, _, _, rfl, rfl, _, rfl, ite2 (fun e2 => ?_) (fun e2 => ?_)⟩
      · have e3 := of_decide_eq_true e2
        exact q true ⟨fun _ => .inl ⟨e1, e3⟩, fun _ => rfl⟩
      · have e3 : ¬ o' ≤ o := fun z => e2 (decide_eq_true z)
        refine ⟨_, rfl, _, rfl, rfl, _, rfl, ite2 (fun e4 => ?_) (fun e4 => ?_)⟩
        · have e5 := V.int.inj (of_decide_eq_true e4)
          refine ⟨_, rfl, _, rfl, _, _, rfl, rfl, q _ ?_⟩
          rw [decide_eq_true_eq]
          omega
        · have e5 : ¬ k = n' := fun z => e4 (decide_eq_true (congrArg V.int z))
          exact q false (ff (by omega))
    · have e1 : ¬ k ≤ n' := fun z => e (decide_eq_true z)
      refine iteF ?_
      refine ⟨_, rfl, _, rfl, rfl, _, rfl, ite2 (fun e4 => ?_) (fun e4 => ?_)⟩
      · have e5 := V.int.inj (of_decide_eq_true e4)
        omega
      · have e5 : ¬ k = n' := fun z => e4 (decide_eq_true (congrArg V.int z))
        exact q false (ff (by omega))
/-! an all row against an ask or a job -/
def AllP (a j : Int) : Row → Prop
  | .ask _ _ k n _ _ => a ≤ k ∨ j ≤ n
  | .job _ k _ _ => j ≤ k
  | .all _ _ _ => False
def sp_does_all_row_clash : Sp := fun vs H Q _ => ∃ (x y : Addr) (h : Str) (a j : Int) (r : Row), vs = [.ref x, .ref y] ∧ RowAt H x (.all h a j) ∧ RowAt H y r ∧ r.word ≠ "all" ∧ ∀ b : Bool, (b = true ↔ AllP a j r) → Q (.bl b) H
theorem ok_does_all_row_clash (T : Txt K mg af fd) : FnOk P w K mg base CX0 1 (af 17) (fd 17) ["all_row", "other"] sp_does_all_row_clash := by
  refine T.F_does_all_row_clash.ok sc_does_all_row_clash (fun vs H Q E h => ?_) (fun cdv A outer s H vs Q E hr h => ?_)
  · obtain ⟨x, y, h, a, j, r, rfl, _⟩ := h
    rfl
  · obtain ⟨x, y, h, a, j, r, rfl, hx, hy, hw, q⟩ := h
    refine ⟨_, (pss_cons (ps_par (i := 2) (j := 3) (by rfl) sc_does_all_row_clash.nd rfl rfl (by decide) rfl rfl (pa_cons (pe_ix ix_tup (pv 0) pe_int (fun _ _ => rfl)) (pa_cons (pe_ix ix_tup (pv 0) pe_int (fun _ _ => rfl)) pa_nil)) (by rfl))
        (pss_cons (ps_if (pt_cmpR op_eq (pe_ix ix_tup (pv 1) pe_int (fun _ _ => rfl)) pe_str (nomark _)) (pss_one (ps_ret (pe_or (pe_cmpR op_ge (pe_ix ix_tup (pv 1) pe_int (fun _ _ => rfl)) (pv 2) (nomark _)) (pe_one (pe_cmpR op_ge (pe_ix ix_tup (pv 1) pe_int (fun _ _ => rfl)) (pv 3) (nomark _)))))) pss_nil)
        (pss_one (ps_ret (pe_cmpR op_ge (pe_ix ix_tup (pv 1) pe_int (fun _ _ => rfl)) (pv 3) (nomark _)))))), ?_⟩
    refine ⟨_, rfl, x, _, 2, _, rfl, rfl, hx.t, rfl, _, rfl, x, _, 3, _, rfl, rfl, hx.t, rfl, _, _, rfl, ?_⟩
    refine ⟨_, rfl, y, _, 0, _, rfl, rfl, hy.t, at0 r, rfl, _, rfl, ?_⟩
    cases r with
    | ask h' g k n o b =>
      refine ite2 (fun e => ?_) (fun e => absurd (dstrT "ask") e)
      refine ⟨_, rfl, y, _, 2, _, rfl, rfl, hy.t, rfl, _, rfl, _, _, rfl, rfl, _, rfl, ite2 (fun e1 => ?_) (fun e1 => ?_)⟩
      · have e2 := of_decide_eq_true e1
        exact q true (tt (.inl e2))
      · have e2 : ¬ a ≤ k := fun z => e1 (decide_eq_true z)
        refine ⟨_, rfl, y, _, 3, _, rfl, rfl, hy.t, rfl, _, rfl, _, _, rfl, rfl, q _ ?_⟩
        rw [decide_eq_true_eq]
        exact ⟨fun z => .inr z, fun z => z.resolve_left e2⟩
    | job h' k o b =>
      refine ite2 (fun e => ?_) (fun e => ?_)
      · exact absurd (e.symm.trans (dstr (fun z => w_aj z.symm))) (by decide)
      · refine ⟨_, rfl, y, _, 2, _, rfl, rfl, hy.t, rfl, _, rfl, _, _, rfl, rfl, q _ ?_⟩
        rw [decide_eq_true_eq]
        exact Iff.rfl
    | all h' a' j' => exact absurd rfl hw
def sp_clash (P2 : Row → Row → Prop) (ok : Row → Row → Prop) : Sp := fun vs H Q _ => ∃ (x y : Addr) (r t : Row), vs = [.ref x, .ref y] ∧ RowAt H x r ∧ RowAt H y t ∧ r.Wf ∧ t.Wf ∧ ok r t ∧ ∀ b : Bool, (b = true ↔ P2 r t) → Q (.bl b) H
def AlikeOk (r t : Row) : Prop := r.word = t.word ∧ r.h = t.h ∧ r ≠ t
theorem ok_do_alike_sorts_clash (T : Txt K mg af fd) : FnOk P w K mg base CX0 3 (af 18) (fd 18) ["one", "other"] (sp_clash ClashP AlikeOk) := by
  refine T.F_do_alike_sorts_clash.ok sc_do_alike_sorts_clash (fun vs H Q E h => ?_) (fun cdv A outer s H vs Q E hr h => ?_)
  · obtain ⟨x, y, r, t, rfl, _⟩ := h
    rfl
  · obtain ⟨x, y, r, t, rfl, hx, hy, _, _, ⟨hw, hh, hne⟩, q⟩ := h
    refine ⟨_, (pss_cons (ps_if (pt_cmpR op_eq (pe_ix ix_tup (pv 0) pe_int (fun _ _ => rfl)) pe_str (nomark _)) (pss_one (ps_ret (pe_call (ok_do_asks_clash T) (hr.mono (by first | decide | omega)) (by rfl) T.g_do_asks_clash T.F_do_asks_clash.kp T.b_do_asks_clash .nil pass0 (pa_cons (pv 0) (pa_cons (pv 1) pa_nil))))) pss_nil)
        (pss_cons (ps_if (pt_cmpR op_eq (pe_ix ix_tup (pv 0) pe_int (fun _ _ => rfl)) pe_str (nomark _)) (pss_one (ps_ret (pe_call (ok_do_jobs_clash T) (hr.mono (by first | decide | omega)) (by rfl) T.g_do_jobs_clash T.F_do_jobs_clash.kp T.b_do_jobs_clash .nil pass0 (pa_cons (pv 0) (pa_cons (pv 1) pa_nil))))) pss_nil)
        (pss_one (ps_ret pe_bl)))), ?_⟩
    refine ⟨_, rfl, x, _, 0, _, rfl, rfl, hx.t, at0 r, rfl, _, rfl, ?_⟩
    cases r with
    | ask h g k n o b =>
      refine ite2 (fun e => ?_) (fun e => absurd (dstrT "ask") e)
      cases t with
      | ask h' g' k' n' o' b' =>
        refine ⟨_, rfl, _, rfl, x, y, h, g, k, n, o, b, h', g', k', n', o', b', rfl, hx, hy, fun r hr => q r ?_⟩
        rw [hr]
        exact ⟨fun z => ⟨hh, hne, z⟩, fun z => z.2.2⟩
      | job h' k' o' b' => exact absurd hw w_aj
      | all h' a' j' => exact absurd hw w_aa
    | job h k o b =>
      refine ite2 (fun e => absurd (e.symm.trans (dstr (fun z => w_aj z.symm))) (by decide)) (fun e => ?_)
      refine ⟨_, rfl, x, _, 0, _, rfl, rfl, hx.t, at0 _, rfl, _, rfl, ite2 (fun e => ?_) (fun e => absurd (dstrT "job") e)⟩
      cases t with
      | ask h' g' k' n' o' b' => exact absurd hw.symm w_aj
      | job h' k' o' b' =>
        refine ⟨_, rfl, _, rfl, x, y, h, k, o, b, h', k', o', b', rfl, hx, hy, fun r hr => q r ?_⟩
        rw [hr]
        exact ⟨fun z => ⟨hh, hne, z⟩, fun z => z.2.2⟩
      | all h' a' j' => exact absurd hw w_ja
    | all h a j =>
      refine ite2 (fun e => absurd (e.symm.trans (dstr (fun z => w_aa z.symm))) (by decide)) (fun e => ?_)
      refine ⟨_, rfl, x, _, 0, _, rfl, rfl, hx.t, at0 _, rfl, _, rfl, ite2 (fun e => absurd (e.symm.trans (dstr (fun z => w_ja z.symm))) (by decide)) (fun e => ?_)⟩
      cases t with
      | ask h' g' k' n' o' b' => exact absurd hw.symm w_aa
      | job h' k' o' b' => exact absurd hw.symm w_ja
      | all h' a' j' => exact q true (tt ⟨hh, hne⟩)
theorem ok_do_clash (T : Txt K mg af fd) : FnOk P w K mg base CX0 4 (af 19) (fd 19) ["one", "other"] (sp_clash ClashP (fun _ _ => True)) := by
  refine T.F_do_clash.ok sc_do_clash (fun vs H Q E h => ?_) (fun cdv A outer s H vs Q E hr h => ?_)
  · obtain ⟨x, y, r, t, rfl, _⟩ := h
    rfl
  · obtain ⟨x, y, r, t, rfl, hx, hy, wr, wt, _, q⟩ := h
    refine ⟨_, (pss_cons (ps_if (PW.pt (pw_or (pt_cmpR op_ne (pe_ix ix_tup (pv 0) pe_int (fun _ _ => rfl)) (pe_ix ix_tup (pv 1) pe_int (fun _ _ => rfl)) (nomark _)) (pw_or1 (pt_cmpR (op_eqD hr.units) (pv 0) (pv 1) (nomark _))))) (pss_one (ps_ret pe_bl)) pss_nil)
        (pss_cons (ps_if (pt_cmpR op_eq (pe_ix ix_tup (pv 0) pe_int (fun _ _ => rfl)) (pe_ix ix_tup (pv 1) pe_int (fun _ _ => rfl)) (nomark _)) (pss_one (ps_ret (pe_call (ok_do_alike_sorts_clash T) (hr.mono (by first | decide | omega)) (by rfl) T.g_do_alike_sorts_clash T.F_do_alike_sorts_clash.kp T.b_do_alike_sorts_clash .nil pass0 (pa_cons (pv 0) (pa_cons (pv 1) pa_nil))))) pss_nil)
        (pss_cons (ps_if (pt_cmpR op_eq (pe_ix ix_tup (pv 0) pe_int (fun _ _ => rfl)) pe_str (nomark _)) (pss_one (ps_ret (pe_call (ok_does_all_row_clash T) (hr.mono (by first | decide | omega)) (by rfl) T.g_does_all_row_clash T.F_does_all_row_clash.kp T.b_does_all_row_clash .nil pass0 (pa_cons (pv 0) (pa_cons (pv 1) pa_nil))))) pss_nil)
        (pss_cons (ps_if (pt_cmpR op_eq (pe_ix ix_tup (pv 1) pe_int (fun _ _ => rfl)) pe_str (nomark _)) (pss_one (ps_ret (pe_call (ok_does_all_row_clash T) (hr.mono (by first | decide | omega)) (by rfl) T.g_does_all_row_clash T.F_does_all_row_clash.kp T.b_does_all_row_clash .nil pass0 (pa_cons (pv 1) (pa_cons (pv 0) pa_nil))))) pss_nil)
        (pss_cons (ps_if (pt_cmpR op_eq (pe_ix ix_tup (pv 0) pe_int (fun _ _ => rfl)) pe_str (nomark _)) (pss_one (ps_ret (pe_call (ok_do_job_and_ask_clash T) (hr.mono (by first | decide | omega)) (by rfl) T.g_do_job_and_ask_clash T.F_do_job_and_ask_clash.kp T.b_do_job_and_ask_clash .nil pass0 (pa_cons (pv 0) (pa_cons (pv 1) pa_nil))))) pss_nil)
        (pss_one (ps_ret (pe_call (ok_do_job_and_ask_clash T) (hr.mono (by first | decide | omega)) (by rfl) T.g_do_job_and_ask_clash T.F_do_job_and_ask_clash.kp T.b_do_job_and_ask_clash .nil pass0 (pa_cons (pv 1) (pa_cons (pv 0) pa_nil)))))))))), ?_⟩
    refine ⟨_, rfl, x, _, 1, _, rfl, rfl, hx.t, at1 r, _, rfl, y, _, 1, _, rfl, rfl, hy.t, at1 t, rfl, _, rfl, ite2 (fun e => iteT ?_) (fun e => ?_)⟩
    · have hh : r.h ≠ t.h := fun z => by
        rw [z, dstrT] at e
        cases e
      refine q false (ff fun z => hh ?_)
      cases r <;> cases t <;> first | exact z.1 | exact z.1.symm
    have hh : r.h = t.h := by
      refine Decidable.byContradiction fun z => e ?_
      rw [dstr z]
      rfl
    refine ⟨_, rfl, _, rfl, _, _, hx.dp, hy.dp, wr.sh, wt.sh, _, rfl, ?_⟩
    rw [row_eqv]
    refine ite2 (fun e2 => ?_) (fun e2 => ?_)
    · have e3 := of_decide_eq_true e2
      subst e3
      refine q false (ff fun z => ?_)
      cases r <;> first | exact z.2.1 rfl | exact z.2 rfl
    have hne : r ≠ t := fun z => e2 (decide_eq_true z)
    -- if one[0] == other[0]
    refine ⟨_, rfl, x, _, 0, _, rfl, rfl, hx.t, at0 r, _, rfl, y, _, 0, _, rfl, rfl, hy.t, at0 t, rfl, _, rfl, ite2 (fun e3 => ?_) (fun e3 => ?_)⟩
    · have e4 := V.str.inj (of_decide_eq_true e3)
      exact ⟨_, rfl, _, rfl, x, y, r, t, rfl, hx, hy, wr, wt, ⟨e4, hh, hne⟩, q⟩
    have hw : r.word ≠ t.word := fun z => e3 (decide_eq_true (congrArg V.str z))
    -- if one[0] == "all"
    refine ⟨_, rfl, x, _, 0, _, rfl, rfl, hx.t, at0 r, rfl, _, rfl, ite2 (fun e5 => ?_) (fun e5 => ?_)⟩
    · have e6 := V.str.inj (of_decide_eq_true e5)
      cases r with
      | ask h g k n o b => exact absurd e6 w_aa
      | job h k o b => exact absurd e6 w_ja
      | all h a j =>
        refine ⟨_, rfl, _, rfl, x, y, h, a, j, t, rfl, hx, hy, fun z => hw z.symm, fun b hb => q b ?_⟩
        rw [hb]
        cases t with
        | ask h' g' k' n' o' b' => exact ⟨fun z => ⟨hh, z⟩, fun z => z.2⟩
        | job h' k' o' b' => exact ⟨fun z => ⟨hh, z⟩, fun z => z.2⟩
        | all h' a' j' => exact absurd rfl hw
    refine ⟨_, rfl, y, _, 0, _, rfl, rfl, hy.t, at0 t, rfl, _, rfl, ite2 (fun e7 => ?_) (fun e7 => ?_)⟩
    · have e6 := V.str.inj (of_decide_eq_true e7)
      cases t with
      | ask h g k n o b => exact absurd e6 w_aa
      | job h k o b => exact absurd e6 w_ja
      | all h a j =>
        refine ⟨_, rfl, _, rfl, y, x, h, a, j, r, rfl, hy, hx, fun z => hw z, fun b hb => q b ?_⟩
        rw [hb]
        cases r with
        | ask h' g' k' n' o' b' => exact ⟨fun z => ⟨hh.symm, z⟩, fun z => z.2⟩
        | job h' k' o' b' => exact ⟨fun z => ⟨hh.symm, z⟩, fun z => z.2⟩
        | all h' a' j' => exact absurd rfl hw
    refine ⟨_, rfl, x, _, 0, _, rfl, rfl, hx.t, at0 r, rfl, _, rfl, ite2 (fun e8 => ?_) (fun e8 => ?_)⟩
    · have e6 := V.str.inj (of_decide_eq_true e8)
      cases r with
      | ask h g k n o b => exact absurd e6 w_aj
      | all h a j => exact absurd e6.symm w_ja
      | job h k o b =>
        cases t with
        | job h' k' o' b' => exact absurd rfl hw
        | all h' a' j' => exact absurd (dstrT "all") e7
        | ask h' g' k' n' o' b' =>
          refine ⟨_, rfl, _, rfl, x, y, h, k, o, b, h', g', k', n', o', b', rfl, hx, hy, fun r hr => q r ?_⟩
          rw [hr]
          exact ⟨fun z => ⟨hh, z⟩, fun z => z.2⟩
    · cases r with
      | job h k o b => exact absurd (dstrT "job") e8
      | all h a j => exact absurd (dstrT "all") e5
      | ask h' g' k' n' o' b' =>
        cases t with
        | ask h2 g2 k2 n2 o2 b2 => exact absurd rfl hw
        | all h2 a2 j2 => exact absurd (dstrT "all") e7
        | job h k o b =>
          refine ⟨_, rfl, _, rfl, y, x, h, k, o, b, h', g', k', n', o', b', rfl, hy, hx, fun r hr => q r ?_⟩
          rw [hr]
          exact ⟨fun z => ⟨hh.symm, z⟩, fun z => z.2⟩
/-! ### the law's own look -/
theorem row_can (r t : Row) : Fl.Can r.data t.data := by
  cases r with
  | ask h g k n o b =>
    cases t with
    | ask h' g' k' n' o' b' => exact ⟨_, _, _, _, rfl, rfl, fun _ => rfl⟩
    | job h' k' o' b' => exact ⟨_, _, _, _, rfl, rfl, fun z => absurd z w_aj⟩
    | all h' a' j' => exact ⟨_, _, _, _, rfl, rfl, fun z => absurd z w_aa⟩
  | job h k o b =>
    cases t with
    | ask h' g' k' n' o' b' => exact ⟨_, _, _, _, rfl, rfl, fun z => absurd z.symm w_aj⟩
    | job h' k' o' b' => exact ⟨_, _, _, _, rfl, rfl, fun _ => rfl⟩
    | all h' a' j' => exact ⟨_, _, _, _, rfl, rfl, fun z => absurd z w_ja⟩
  | all h a j =>
    cases t with
    | ask h' g' k' n' o' b' => exact ⟨_, _, _, _, rfl, rfl, fun z => absurd z.symm w_aa⟩
    | job h' k' o' b' => exact ⟨_, _, _, _, rfl, rfl, fun z => absurd z.symm w_ja⟩
    | all h' a' j' => exact ⟨_, _, _, _, rfl, rfl, fun _ => rfl⟩
def Row.rk : Row → Nat
  | .all _ _ _ => 0
  | .ask _ _ _ _ _ _ => 1
  | .job _ _ _ _ => 2
/-! rows of unlike words go by their words -/
theorem word_lt {x y : Str} {r t : List PyData} (hne : x ≠ y) : Fl.ltD (.str x :: r) (.str y :: t) = decide (x.cps.toList < y.cps.toList) := by
  have e4 : PyData.eqv (.str x) (.str y) = false := by simpa [PyData.eqv] using hne
  unfold Fl.ltD
  rw [PySem.W.dataLt_all_no (by rfl) e4, PySem.W.dataLt_str]
theorem rk_of {r t : Row} (h : Fl.ltD t.data r.data = false) : r.rk ≤ t.rk := by
  cases r with
  | ask h g k n o b =>
    cases t with
    | ask h' g' k' n' o' b' => exact Nat.le_refl _
    | job h' k' o' b' => exact (by decide : (1 : Nat) ≤ 2)
    | all h' a' j' =>
      have e := h.symm.trans (word_lt (fun z => w_aa z.symm))
      exact absurd e (by decide +kernel)
  | job h k o b =>
    cases t with
    | ask h' g' k' n' o' b' =>
      have e := h.symm.trans (word_lt w_aj)
      exact absurd e (by decide +kernel)
    | job h' k' o' b' => exact Nat.le_refl _
    | all h' a' j' =>
      have e := h.symm.trans (word_lt (fun z => w_ja z.symm))
      exact absurd e (by decide +kernel)
  | all h a j => exact Nat.zero_le _
theorem two_of {l : List V} {a b : V} (h : l.Perm [a, b]) : l = [a, b] ∨ l = [b, a] := by
  match l, h.length_eq, h with
  | [x, y], _, h =>
    have hx := h.mem_iff.mp (List.mem_cons_self (a := x) (l := [y]))
    rcases List.mem_cons.mp hx with e | e
    · subst e
      have h2 := List.Perm.cons_inv h
      have e2 : [y] = [b] := List.perm_singleton.mp h2
      exact .inl (by rw [(List.cons.inj e2).1])
    · have e := List.mem_singleton.mp e
      subst e
      have h2 : [x, y].Perm [x, a] := h.trans (List.Perm.swap _ _ _)
      have h3 := List.Perm.cons_inv h2
      have e2 : [y] = [a] := List.perm_singleton.mp h3
      exact .inr (by rw [(List.cons.inj e2).1])
theorem clash_comm (r t : Row) : ClashP r t ↔ ClashP t r := by
  cases r <;> cases t <;> simp only [ClashP] <;> constructor <;> intro z
  all_goals first
    | exact z
    | exact ⟨z.1.symm, fun e => z.2.1 e.symm, by omega⟩
    | exact ⟨z.1.symm, fun e => z.2 e.symm⟩
theorem prod_neg (a b c d : Int) : (a - b) * (c - d) < 0 ↔ ((a < b ∧ d < c) ∨ (b < a ∧ c < d)) := by
  constructor
  · intro h
    rcases Int.lt_trichotomy a b with h1 | h1 | h1
    · rcases Int.lt_or_le d c with h2 | h2
      · exact .inl ⟨h1, h2⟩
      · have : 0 ≤ (a - b) * (c - d) := Int.mul_nonneg_of_nonpos_of_nonpos (by omega) (by omega)
        omega
    · subst h1
      rw [Int.sub_self, Int.zero_mul] at h
      omega
    · rcases Int.lt_or_le c d with h2 | h2
      · exact .inr ⟨h1, h2⟩
      · have : 0 ≤ (a - b) * (c - d) := Int.mul_nonneg (by omega) (by omega)
        omega
  · rintro (⟨h1, h2⟩ | ⟨h1, h2⟩)
    · exact Int.mul_neg_of_neg_of_pos (by omega) (by omega)
    · exact Int.mul_neg_of_pos_of_neg (by omega) (by omega)
def pickD (x : Addr) (r t : Row) (v : V) : List PyData := if v = .ref x then r.data else t.data
theorem pickD_l {x : Addr} {r t : Row} {v : V} (e : v = .ref x) : pickD x r t v = r.data := if_pos e
theorem pickD_r {x y : Addr} {r t : Row} {v : V} (h : x ≠ y) (e : v = .ref y) : pickD x r t v = t.data := if_neg (fun z => h (V.ref.inj (z.symm.trans e)))
theorem pickD_or (x : Addr) (r t : Row) (v : V) : pickD x r t v = r.data ∨ pickD x r t v = t.data := by
  unfold pickD
  split
  · exact .inl rfl
  · exact .inr rfl
def sp_l_do_clash : Sp := fun vs H Q _ => ∃ (x y : Addr) (r t : Row), vs = [.ref x, .ref y] ∧ RowAt H x r ∧ RowAt H y t ∧ r.Wf ∧ t.Wf ∧ ∀ (b : Bool) (H' : Hp), Same H H' → (b = true ↔ ClashP r t) → Q (.bl b) H'
theorem Same.row {H H' : Hp} {a : Addr} {r : Row} (s : Same H H') (h : RowAt H a r) : RowAt H' a r := s a _ h
theorem ok_l_do_clash (T : Txt K mg af fd) : FnOk P w K mg base CX0 1 (af 45) (fd 45) ["one", "other"] sp_l_do_clash := by
  refine T.F_l_do_clash.ok sc_l_do_clash (fun vs H Q E h => ?_) (fun cdv A outer s H vs Q E hr h => ?_)
  · obtain ⟨x, y, r, t, rfl, _⟩ := h
    rfl
  · obtain ⟨x, y, r, t, rfl, hx, hy, wr, wt, q⟩ := h
    refine ⟨_, (pss_cons (ps_if (PW.pt (pw_or (pt_cmpR op_ne (pe_ix ix_tup (pv 0) pe_int (fun _ _ => rfl)) (pe_ix ix_tup (pv 1) pe_int (fun _ _ => rfl)) (nomark _)) (pw_or1 (pt_cmpR (op_eqD hr.units) (pv 0) (pv 1) (nomark _))))) (pss_one (ps_ret pe_bl)) pss_nil)
        (pss_cons (ps_asg (pe_callB Fl.cr_sortedFl (by rfl) T.m_sorted (by decide +kernel) (pa_cons (pe_lst (pa_cons (pv 0) (pa_cons (pv 1) pa_nil))) pa_nil)) (pg_unl rfl (pgs_cons (pg_name (i := 2) sc_l_do_clash.nd rfl (by first | exact Or.inl rfl | exact Or.inr rfl)) (pgs_cons (pg_name (i := 3) sc_l_do_clash.nd rfl (by first | exact Or.inl rfl | exact Or.inr rfl)) pgs_nil))))
        (pss_cons (ps_set (i := 4) sc_l_do_clash.nd rfl (by first | exact Or.inl rfl | exact Or.inr rfl) (pe_op op_add_str (pe_ix ix_tup (pv 2) pe_int (fun _ _ => rfl)) (pe_ix ix_tup (pv 3) pe_int (fun _ _ => rfl))))
        (pss_cons (ps_if (pt_cmpR op_in_seq (pv 4) (pe_tup (pa_cons pe_str (pa_cons pe_str pa_nil))) (by rfl)) (pss_cons (ps_set (i := 5) sc_l_do_clash.nd rfl (by first | exact Or.inl rfl | exact Or.inr rfl) (pe_ix ix_list (pe_lst (pa_cons pe_int (pa_cons pe_int pa_nil))) (pe_callTy call_int1 (by rfl) T.m_int (by decide +kernel) (pa_cons (pe_cmpR op_eq (pv 4) pe_str (nomark _)) pa_nil)) (fun _ _ => rfl)))
        (pss_one (ps_ret (pe_or (pe_cmpR op_eq (pe_ix ix_tup (pv 2) pe_int (fun _ _ => rfl)) (pe_ix ix_tup (pv 3) pe_int (fun _ _ => rfl)) (nomark _)) (pe_one (pe_cmpR op_lt (pe_op op_mul (pe_op op_sub (pe_ix ix_tup (pv 2) pe_int (fun _ _ => rfl)) (pe_ix ix_tup (pv 3) pe_int (fun _ _ => rfl))) (pe_op op_sub (pe_ix ix_tup (pv 2) (pv 5) (fun _ _ => rfl)) (pe_ix ix_tup (pv 3) (pv 5) (fun _ _ => rfl)))) pe_int (nomark _))))))) pss_nil)
        (pss_cons (ps_if (pt_cmpR op_eq (pv 4) pe_str (nomark _)) (pss_one (ps_ret (pe_or (pe_cmpR op_ge (pe_ix ix_tup (pv 3) pe_int (fun _ _ => rfl)) (pe_ix ix_tup (pv 2) pe_int (fun _ _ => rfl)) (nomark _)) (pe_one (pe_cmpR op_ge (pe_ix ix_tup (pv 3) pe_int (fun _ _ => rfl)) (pe_ix ix_tup (pv 2) pe_int (fun _ _ => rfl)) (nomark _)))))) pss_nil)
        (pss_cons (ps_if (pt_cmpR op_eq (pv 4) pe_str (nomark _)) (pss_one (ps_ret (pe_cmpR op_ge (pe_ix ix_tup (pv 3) pe_int (fun _ _ => rfl)) (pe_ix ix_tup (pv 2) pe_int (fun _ _ => rfl)) (nomark _)))) pss_nil)
        (pss_cons (ps_if (PW.pt (pw_and (pt_cmpR op_eq (pv 4) pe_str (nomark _)) (pw_and (pt_cmpR op_eq (pe_ix ix_tup (pv 3) pe_int (fun _ _ => rfl)) (pe_ix ix_tup (pv 2) pe_int (fun _ _ => rfl)) (nomark _)) (pw_and1 (pt_cmpR op_le (pe_ix ix_tup (pv 3) pe_int (fun _ _ => rfl)) (pe_ix ix_tup (pv 2) pe_int (fun _ _ => rfl)) (nomark _)))))) (pss_one (ps_ret pe_bl)) pss_nil)
        (pss_one (ps_ret (pe_or (pe_cmpR op_eq (pv 4) pe_str (nomark _)) (pe_one (pe_and (pe_cmpR op_le (pe_ix ix_tup (pv 3) pe_int (fun _ _ => rfl)) (pe_ix ix_tup (pv 2) pe_int (fun _ _ => rfl)) (nomark _)) (pe_one (pe_cmpR op_ge (pe_ix ix_tup (pv 3) pe_int (fun _ _ => rfl)) (pe_ix ix_tup (pv 2) pe_int (fun _ _ => rfl)) (nomark _))))))))))))))), ?_⟩
    refine ⟨_, rfl, x, _, 1, _, rfl, rfl, hx.t, at1 r, _, rfl, y, _, 1, _, rfl, rfl, hy.t, at1 t, rfl, _, rfl, ite2 (fun e => iteT ?_) (fun e => ?_)⟩
    · have hh : r.h ≠ t.h := fun z => by
        rw [z, dstrT] at e
        cases e
      refine q false H (Same.refl H) (ff fun z => hh ?_)
      cases r <;> cases t <;> first | exact z.1 | exact z.1.symm
    have hh : r.h = t.h := by
      refine Decidable.byContradiction fun z => e ?_
      rw [dstr z]
      rfl
    refine ⟨_, rfl, _, rfl, _, _, hx.dp, hy.dp, wr.sh, wt.sh, _, rfl, ?_⟩
    rw [row_eqv]
    refine ite2 (fun e2 => ?_) (fun e2 => ?_)
    · have e3 := of_decide_eq_true e2
      subst e3
      refine q false H (Same.refl H) (ff fun z => ?_)
      cases r <;> first | exact z.2.1 rfl | exact z.2 rfl
    have hne : r ≠ t := fun z => e2 (decide_eq_true z)
    have hxy : x ≠ y := fun z => by
      subst z
      have e3 : r.vals = t.vals := HO.tup.inj (Option.some.inj (hx.symm.trans hy))
      refine hne ?_
      have w1 := Option.some.inj ((at0 r).symm.trans ((congrArg (fun l => atI l 0) e3).trans (at0 t)))
      have w2 := V.str.inj w1
      cases r <;> cases t
      case ask.job => exact absurd w2 w_aj
      case ask.all => exact absurd w2 w_aa
      case job.ask => exact absurd w2.symm w_aj
      case job.all => exact absurd w2 w_ja
      case all.ask => exact absurd w2.symm w_aa
      case all.job => exact absurd w2.symm w_ja
      all_goals
        simp only [Row.vals, Row.data, Fl.dV, List.map_cons, List.map_nil, List.cons.injEq, V.str.injEq, V.int.injEq, and_true, true_and] at e3
        simp only [Row.ask.injEq, Row.job.injEq, Row.all.injEq]
        first
          | exact e3
          | exact ⟨e3.1, e3.2.2.2.1, e3.2.1, e3.2.2.1, e3.2.2.2.2.1, e3.2.2.2.2.2⟩
    -- first, second = sorted([one, other])
    refine ⟨_, rfl, _, rfl, (by show 2 ≤ sizeLine; decide), fun l nl => ?_⟩
    have s1 : Same H (upd H l (.lst [.ref x, .ref y])) := same_upd nl
    have kx : ∀ v : V, v = .ref x → pickD x r t v = r.data := fun v e => pickD_l e
    have ky : ∀ v : V, v = .ref y → pickD x r t v = t.data := fun v e => pickD_r hxy e
    refine ⟨l, _, pickD x r t, rfl, SqL.of upd_same, fun v hv => ?_, fun v hv u hu => ?_, fun ys p up st np => ?_⟩
    · rcases List.mem_cons.mp hv with e3 | e3
      · exact ⟨x, e3, by rw [kx v e3]; exact row_flat r, by rw [kx v e3]; exact s1 x _ hx⟩
      · have e3 := List.mem_singleton.mp e3
        exact ⟨y, e3, by rw [ky v e3]; exact row_flat t, by rw [ky v e3]; exact s1 y _ hy⟩
    · rcases pickD_or x r t v with e3 | e3 <;> rcases pickD_or x r t u with e4 | e4 <;> rw [e3, e4] <;> exact row_can _ _
    have s2 : Same H (upd (upd H l (.lst [.ref x, .ref y])) p (.lst ys)) := same_mut s1 (s1.free np)
    obtain ⟨a, b, u, v, hys, hu, hv, hrk, huh, hun, hcl⟩ : ∃ (a b : Addr) (u v : Row), ys = [.ref a, .ref b] ∧ RowAt H a u ∧ RowAt H b v ∧ u.rk ≤ v.rk ∧ u.h = v.h ∧ u ≠ v ∧ (ClashP u v ↔ ClashP r t) ∧ u.Wf ∧ v.Wf := by
      rcases two_of st.perm with e3 | e3
      · subst e3
        have e4 := (List.pairwise_cons.mp up).1 _ (List.mem_singleton.mpr rfl)
        dsimp only at e4
        rw [kx _ rfl, ky _ rfl] at e4
        exact ⟨x, y, r, t, rfl, hx, hy, rk_of e4, hh, hne, Iff.rfl, wr, wt⟩
      · subst e3
        have e4 := (List.pairwise_cons.mp up).1 _ (List.mem_singleton.mpr rfl)
        dsimp only at e4
        rw [kx _ rfl, ky _ rfl] at e4
        exact ⟨y, x, t, r, rfl, hy, hx, rk_of e4, hh.symm, fun z => hne z.symm, clash_comm t r, wt, wr⟩
    obtain ⟨hcl, wu, wv⟩ := hcl
    subst hys
    refine ⟨p, _, rfl, SqL.of upd_same, rfl, _, _, rfl, _, _, rfl, rfl, ?_⟩
    generalize upd (upd H l (.lst [.ref x, .ref y])) p (.lst [.ref a, .ref b]) = H2 at s2 ⊢
    have hu2 := Same.row s2 hu
    have hv2 := Same.row s2 hv
    refine ⟨_, rfl, a, _, 0, _, rfl, rfl, hu2.t, at0 u, _, rfl, b, _, 0, _, rfl, rfl, hv2.t, at0 v, _, _, rfl, rfl, ?_, ?_⟩
    · exact Nat.le_trans (Nat.add_le_add (word_len u) (word_len v)) (by decide)
    refine ⟨_, rfl, (by show 2 ≤ sizeLine; decide), fun m nm => ?_⟩
    refine ⟨m, _, rfl, .inr (SqT.of upd_same), rfl, rfl, _, rfl, ?_⟩
    have s3 : Same H (upd H2 m (.tup [.str "askask", .str "jobjob"])) := same_mut s2 (s2.free nm)
    generalize upd H2 m (.tup [.str "askask", .str "jobjob"]) = H3 at s3 ⊢
    have hu3 := Same.row s3 hu
    have hv3 := Same.row s3 hv
    cases u with
    | ask h g k n o e =>
      cases v with
      | ask h' g' k' n' o' e' =>
        refine ite2 (fun _ => ?_) (fun z => absurd (show inV (V.str (("ask" : Str) ++ ("ask" : Str))) [V.str "askask", V.str "jobjob"] = true by decide +kernel) z)
        refine ⟨(by show 2 ≤ sizeLine; decide), fun m2 nm2 => ⟨_, rfl, rfl, .inr ⟨_, rfl, m2, _, _, .int 5, rfl, rfl, SqL.of upd_same, (show atI [V.int 3, V.int 5] (b2i (decide (V.str (("ask" : Str) ++ ("ask" : Str)) = V.str "askask"))) = some (V.int 5) by decide +kernel), ?_⟩⟩⟩
        have s4 : Same H (upd H3 m2 (.lst [.int 3, .int 5])) := same_mut s3 (s3.free nm2)
        generalize upd H3 m2 (.lst [.int 3, .int 5]) = H4 at s4 ⊢
        have hu4 := Same.row s4 hu
        have hv4 := Same.row s4 hv
        refine ⟨_, rfl, a, _, 2, _, rfl, rfl, hu4.t, rfl, _, rfl, b, _, 2, _, rfl, rfl, hv4.t, rfl, rfl, _, rfl, ite2 (fun z => ?_) (fun z => ?_)⟩
        · have z1 := V.int.inj (of_decide_eq_true z)
          exact q true H4 s4 (tt (hcl.mp ⟨huh, hun, .inl z1⟩))
        · have z1 : ¬ k = k' := fun w => z (decide_eq_true (congrArg V.int w))
          obtain ⟨_, _, ⟨k0, k1⟩, _⟩ := wu
          obtain ⟨_, _, ⟨k2, k3⟩, _⟩ := wv
          refine ⟨_, rfl, a, _, 2, _, rfl, rfl, hu4.t, rfl, _, rfl, b, _, 2, _, rfl, rfl, hv4.t, rfl, _, _, rfl, rfl, _, rfl, _, rfl, a, _, 5, _, rfl, rfl, hu4.t, rfl, _, rfl, _, rfl, b, _, 5, _, rfl, rfl, hv4.t, rfl, _, _, rfl, rfl, _, _, rfl, rfl, .inl ⟨by omega, by omega⟩, _, _, rfl, rfl, q _ H4 s4 ?_⟩
          rw [decide_eq_true_eq, prod_neg, ← hcl]
          exact ⟨fun w => ⟨huh, hun, .inr w⟩, fun w => w.2.2.resolve_left z1⟩
      | job h' k' o' e' =>
        refine ite2 (fun z => absurd (z.symm.trans (show inV (V.str (("ask" : Str) ++ ("job" : Str))) [V.str "askask", V.str "jobjob"] = false by decide +kernel)) (by decide)) (fun _ => ?_)
        refine ⟨_, rfl, rfl, _, rfl, ite2 (fun z => absurd (z.symm.trans (show decide (V.str (("ask" : Str) ++ ("job" : Str)) = V.str "allask") = false by decide +kernel)) (by decide)) (fun _ => ?_)⟩
        refine ⟨_, rfl, rfl, _, rfl, ite2 (fun z => absurd (z.symm.trans (show decide (V.str (("ask" : Str) ++ ("job" : Str)) = V.str "alljob") = false by decide +kernel)) (by decide)) (fun _ => ?_)⟩
        refine ⟨_, rfl, rfl, _, rfl, ite2 (fun _ => ?_) (fun z => absurd (show decide (V.str (("ask" : Str) ++ ("job" : Str)) = V.str "askjob") = true by decide +kernel) z)⟩
        refine ⟨_, rfl, b, _, 2, _, rfl, rfl, hv3.t, rfl, _, rfl, a, _, 3, _, rfl, rfl, hu3.t, rfl, rfl, _, rfl, ?_⟩
        have last : ¬ (k' = n ∧ e' ≤ e) → tRet (tOrV (tOp rEq (tVar 4) (tC (.str "allall"))) (tAndV (tOp (rI0 fun i j => .bl (decide (i ≤ j))) (tOp (rIxT K) (tVar 3) (tC (.int 2))) (tOp (rIxT K) (tVar 2) (tC (.int 3)))) (tOp (rI0 fun i j => .bl (decide (j ≤ i))) (tOp (rIxT K) (tVar 3) (tC (.int 3))) (tOp (rIxT K) (tVar 2) (tC (.int 5)))))) { nx := fun _ H' => Q .non H', rt := Q } [some (.ref x), some (.ref y), some (.ref a), some (.ref b), some (.str (("ask" : Str) ++ ("job" : Str))), none] H3 := by
          intro hnot
          refine ⟨_, rfl, rfl, _, rfl, ite2 (fun z => absurd (z.symm.trans (show decide (V.str (("ask" : Str) ++ ("job" : Str)) = V.str "allall") = false by decide +kernel)) (by decide)) (fun _ => ?_)⟩
          refine ⟨_, rfl, b, _, 2, _, rfl, rfl, hv3.t, rfl, _, rfl, a, _, 3, _, rfl, rfl, hu3.t, rfl, _, _, rfl, rfl, _, rfl, ite2 (fun z => ?_) (fun z => ?_)⟩
          · have z1 := of_decide_eq_true z
            refine ⟨_, rfl, b, _, 3, _, rfl, rfl, hv3.t, rfl, _, rfl, a, _, 5, _, rfl, rfl, hu3.t, rfl, _, _, rfl, rfl, q _ H3 s3 ?_⟩
            rw [decide_eq_true_eq, ← hcl]
            exact ⟨fun w => ⟨huh.symm, .inl ⟨z1, w⟩⟩, fun w => (w.2.resolve_right hnot).2⟩
          · have z1 : ¬ k' ≤ n := fun w => z (decide_eq_true w)
            refine q false H3 s3 (ff fun w => ?_)
            rw [← hcl] at w
            exact z1 (w.2.resolve_right hnot).1
        refine ite2 (fun z => ?_) (fun z => ?_)
        · have z1 := V.int.inj (of_decide_eq_true z)
          refine ⟨_, rfl, b, _, 4, _, rfl, rfl, hv3.t, rfl, _, rfl, a, _, 6, _, rfl, rfl, hu3.t, rfl, _, _, rfl, rfl, _, rfl, ite2 (fun z2 => ?_) (fun z2 => ?_)⟩
          · have z3 := of_decide_eq_true z2
            exact q true H3 s3 (tt (hcl.mp ⟨huh.symm, .inr ⟨z1, z3⟩⟩))
          · exact last fun w => z2 (decide_eq_true w.2)
        · exact last fun w => z (decide_eq_true (congrArg V.int w.1))
      | all h' a' j' => exact absurd hrk (by show ¬ (1 : Nat) ≤ 0; decide)
    | job h k o e =>
      cases v with
      | ask h' g' k' n' o' e' => exact absurd hrk (by show ¬ (2 : Nat) ≤ 1; decide)
      | all h' a' j' => exact absurd hrk (by show ¬ (2 : Nat) ≤ 0; decide)
      | job h' k' o' e' =>
        refine ite2 (fun _ => ?_) (fun z => absurd (show inV (V.str (("job" : Str) ++ ("job" : Str))) [V.str "askask", V.str "jobjob"] = true by decide +kernel) z)
        refine ⟨(by show 2 ≤ sizeLine; decide), fun m2 nm2 => ⟨_, rfl, rfl, .inr ⟨_, rfl, m2, _, _, .int 3, rfl, rfl, SqL.of upd_same, (show atI [V.int 3, V.int 5] (b2i (decide (V.str (("job" : Str) ++ ("job" : Str)) = V.str "askask"))) = some (V.int 3) by decide +kernel), ?_⟩⟩⟩
        have s4 : Same H (upd H3 m2 (.lst [.int 3, .int 5])) := same_mut s3 (s3.free nm2)
        generalize upd H3 m2 (.lst [.int 3, .int 5]) = H4 at s4 ⊢
        have hu4 := Same.row s4 hu
        have hv4 := Same.row s4 hv
        refine ⟨_, rfl, a, _, 2, _, rfl, rfl, hu4.t, rfl, _, rfl, b, _, 2, _, rfl, rfl, hv4.t, rfl, rfl, _, rfl, ite2 (fun z => ?_) (fun z => ?_)⟩
        · have z1 := V.int.inj (of_decide_eq_true z)
          exact q true H4 s4 (tt (hcl.mp ⟨huh, hun, .inl z1⟩))
        · have z1 : ¬ k = k' := fun w => z (decide_eq_true (congrArg V.int w))
          obtain ⟨_, ⟨k0, k1⟩, _⟩ := wu
          obtain ⟨_, ⟨k2, k3⟩, _⟩ := wv
          refine ⟨_, rfl, a, _, 2, _, rfl, rfl, hu4.t, rfl, _, rfl, b, _, 2, _, rfl, rfl, hv4.t, rfl, _, _, rfl, rfl, _, rfl, _, rfl, a, _, 3, _, rfl, rfl, hu4.t, rfl, _, rfl, _, rfl, b, _, 3, _, rfl, rfl, hv4.t, rfl, _, _, rfl, rfl, _, _, rfl, rfl, .inl ⟨by omega, by omega⟩, _, _, rfl, rfl, q _ H4 s4 ?_⟩
          rw [decide_eq_true_eq, prod_neg, ← hcl]
          exact ⟨fun w => ⟨huh, hun, .inr w⟩, fun w => w.2.2.resolve_left z1⟩
    | all h a1 j1 =>
      cases v with
      | ask h' g' k' n' o' e' =>
        refine ite2 (fun z => absurd (z.symm.trans (show inV (V.str (("all" : Str) ++ ("ask" : Str))) [V.str "askask", V.str "jobjob"] = false by decide +kernel)) (by decide)) (fun _ => ?_)
        refine ⟨_, rfl, rfl, _, rfl, ite2 (fun _ => ?_) (fun z => absurd (show decide (V.str (("all" : Str) ++ ("ask" : Str)) = V.str "allask") = true by decide +kernel) z)⟩
        refine ⟨_, rfl, b, _, 2, _, rfl, rfl, hv3.t, rfl, _, rfl, a, _, 2, _, rfl, rfl, hu3.t, rfl, _, _, rfl, rfl, _, rfl, ite2 (fun z => ?_) (fun z => ?_)⟩
        · have z1 := of_decide_eq_true z
          exact q true H3 s3 (tt (hcl.mp ⟨huh, .inl z1⟩))
        · refine ⟨_, rfl, b, _, 3, _, rfl, rfl, hv3.t, rfl, _, rfl, a, _, 3, _, rfl, rfl, hu3.t, rfl, _, _, rfl, rfl, q _ H3 s3 ?_⟩
          rw [decide_eq_true_eq, ← hcl]
          exact ⟨fun w => ⟨huh, .inr w⟩, fun w => w.2.resolve_left fun w2 => z (decide_eq_true w2)⟩
      | job h' k' o' e' =>
        refine ite2 (fun z => absurd (z.symm.trans (show inV (V.str (("all" : Str) ++ ("job" : Str))) [V.str "askask", V.str "jobjob"] = false by decide +kernel)) (by decide)) (fun _ => ?_)
        refine ⟨_, rfl, rfl, _, rfl, ite2 (fun z => absurd (z.symm.trans (show decide (V.str (("all" : Str) ++ ("job" : Str)) = V.str "allask") = false by decide +kernel)) (by decide)) (fun _ => ?_)⟩
        refine ⟨_, rfl, rfl, _, rfl, ite2 (fun _ => ?_) (fun z => absurd (show decide (V.str (("all" : Str) ++ ("job" : Str)) = V.str "alljob") = true by decide +kernel) z)⟩
        refine ⟨_, rfl, b, _, 2, _, rfl, rfl, hv3.t, rfl, _, rfl, a, _, 3, _, rfl, rfl, hu3.t, rfl, _, _, rfl, rfl, q _ H3 s3 ?_⟩
        rw [decide_eq_true_eq, ← hcl]
        exact ⟨fun w => ⟨huh, w⟩, fun w => w.2⟩
      | all h' a' j' =>
        refine ite2 (fun z => absurd (z.symm.trans (show inV (V.str (("all" : Str) ++ ("all" : Str))) [V.str "askask", V.str "jobjob"] = false by decide +kernel)) (by decide)) (fun _ => ?_)
        refine ⟨_, rfl, rfl, _, rfl, ite2 (fun z => absurd (z.symm.trans (show decide (V.str (("all" : Str) ++ ("all" : Str)) = V.str "allask") = false by decide +kernel)) (by decide)) (fun _ => ?_)⟩
        refine ⟨_, rfl, rfl, _, rfl, ite2 (fun z => absurd (z.symm.trans (show decide (V.str (("all" : Str) ++ ("all" : Str)) = V.str "alljob") = false by decide +kernel)) (by decide)) (fun _ => ?_)⟩
        refine ⟨_, rfl, rfl, _, rfl, ite2 (fun z => absurd (z.symm.trans (show decide (V.str (("all" : Str) ++ ("all" : Str)) = V.str "askjob") = false by decide +kernel)) (by decide)) (fun _ => iteF ?_)⟩
        refine ⟨_, rfl, rfl, _, rfl, ite2 (fun _ => ?_) (fun z => absurd (show decide (V.str (("all" : Str) ++ ("all" : Str)) = V.str "allall") = true by decide +kernel) z)⟩
        exact q true H3 s3 (tt (hcl.mp ⟨huh, hun⟩))
/-! ### the program's look at rows -/
theorem shaped_tup_strs {hs : List Str} (a : ∀ h ∈ hs, PyData.strOk h = true) : SeqAt.shaped (.tuple (hs.map PyData.str)) = true := by
  unfold SeqAt.shaped
  rw [Bool.and_eq_true, decide_eq_true_eq]
  refine ⟨canLay_strs a, ?_⟩
  show PyData.depthAll (hs.map PyData.str) + 1 ≤ 64
  rw [depth_strs]
  decide
theorem hu65 {A : Around} {k : Nat} (hr : Room k A) : A.units + 65 < cLine := by have := hr.un; omega
theorem sh_word {w : Str} (h : PyData.strOk w = true) : SeqAt.shaped (.str w) = true := by
  unfold SeqAt.shaped
  rw [Bool.and_eq_true]
  exact ⟨h, rfl⟩
theorem dp_tup_strs {H : Hp} {th : Addr} {hs : List Str} (h : H th = some (.tup (hs.map V.str))) : Dp K H (.ref th) (.tuple (hs.map PyData.str)) := .tup (SqT.of h) (dp_strs hs)
theorem len_ne {n m : Nat} (h : ¬ (!decide (V.int (n : Int) = V.int (m : Int))) = true) : n = m := by
  have h2 : decide (V.int (n : Int) = V.int (m : Int)) = true := by
    cases e : decide (V.int (n : Int) = V.int (m : Int)) with
    | true => rfl
    | false => exact absurd (by rw [e]; rfl) h
  have h3 := V.int.inj (of_decide_eq_true h2)
  omega
theorem len_ne' {n m : Nat} (h : (!decide (V.int (n : Int) = V.int (m : Int))) = true) : n ≠ m := fun e => by
  rw [e, decide_eq_true rfl] at h
  cases h
theorem some_int {d : PyData} (h1 : isB d "bool" = false) (h2 : isB d "int" = true) : ∃ i, d = .int i := by
  cases d with
  | int i => exact ⟨i, rfl⟩
  | bool b => exact absurd h1 (by simp [isB])
  | _ => exact absurd h2 (by simp [isB])
def InI (lo hi : Int) (d : PyData) : Prop := ∃ i, d = .int i ∧ lo ≤ i ∧ i ≤ hi
def sp_is_whole_from : Sp := fun vs H Q _ => ∃ (Ex : Addr → Prop) (v : V) (d : PyData) (lo hi : Int), vs = [v, .int lo, .int hi] ∧ Dq Ex H v d ∧ ∀ r : Bool, (r = true ↔ InI lo hi d) → Q (.bl r) H
theorem ok_is_whole_from (T : Txt K mg af fd) : FnOk P w K mg base CX0 1 (af 0) (fd 0) ["thing", "low", "high"] sp_is_whole_from := by
  refine T.F_is_whole_from.ok sc_is_whole_from (fun vs H Q E h => ?_) (fun cdv A outer s H vs Q E hr h => ?_)
  · obtain ⟨Ex, v, d, lo, hi, rfl, _⟩ := h
    rfl
  · obtain ⟨Ex, v, d, lo, hi, rfl, hd, q⟩ := h
    refine ⟨_, (pss_cons (ps_if (PW.pt (pw_or (pt_val (pe_callB call_isi (by rfl) T.m_isinstance (by decide +kernel) (pa_cons (pv 0) (pa_cons (pe_bltn (v := .ty "bool") (by rfl) T.m_bool (by decide +kernel) rfl) pa_nil)))) (pw_or1 (pt_not (pt_val (pe_callB call_isi (by rfl) T.m_isinstance (by decide +kernel) (pa_cons (pv 0) (pa_cons (pe_bltn (v := .ty "int") (by rfl) T.m_int (by decide +kernel) rfl) pa_nil)))))))) (pss_one (ps_ret pe_bl)) pss_nil)
        (pss_one (ps_ret (pe_chain op_le op_le (pv 1) (pv 0) (pv 2))))), ?_⟩
    refine ⟨_, rfl, _, _, _, _, _, rfl, .ty "bool", hd.ty, isi_kit hd n_bool, _, rfl, ?_⟩
    cases e1 : isB d "bool" with
    | true =>
      refine iteT (iteT ?_)
      refine q false (ff fun ⟨i, e, _⟩ => ?_)
      subst e
      exact absurd e1 (by simp [isB])
    | false =>
      refine iteF ⟨_, rfl, _, _, _, _, _, rfl, .ty "int", hd.ty, isi_kit hd n_int, _, rfl, ?_⟩
      cases e2 : isB d "int" with
      | false =>
        refine iteT ?_
        refine q false (ff fun ⟨i, e, _⟩ => ?_)
        subst e
        exact absurd e2 (by simp [isB])
      | true =>
        refine iteF ?_
        obtain ⟨i, rfl⟩ := some_int e1 e2
        cases hd
        refine ⟨_, rfl, _, rfl, _, _, rfl, rfl, _, rfl, ite2 (fun z => ?_) (fun z => ?_)⟩
        · have z1 := of_decide_eq_true z
          refine ⟨_, rfl, _, _, rfl, rfl, q _ ?_⟩
          rw [decide_eq_true_eq]
          exact ⟨fun h => ⟨i, rfl, z1, h⟩, fun ⟨j, e, _, h⟩ => by obtain rfl := PyData.int.inj e; exact h⟩
        · exact q false (ff fun ⟨j, e, h, _⟩ => z (decide_eq_true (by obtain rfl := PyData.int.inj e; exact h)))
def sp_in (lo hi : Int) : Sp := fun vs H Q _ => ∃ (Ex : Addr → Prop) (v : V) (d : PyData), vs = [v] ∧ Dq Ex H v d ∧ ∀ r : Bool, (r = true ↔ InI lo hi d) → Q (.bl r) H
theorem ok_is_time (T : Txt K mg af fd) : FnOk P w K mg base CX0 2 (af 1) (fd 1) ["thing"] (sp_in (-1000000000000) 1000000000000) := by
  refine T.F_is_time.ok sc_is_time (fun vs H Q E h => ?_) (fun cdv A outer s H vs Q E hr h => ?_)
  · obtain ⟨Ex, v, d, rfl, _⟩ := h
    rfl
  · obtain ⟨Ex, v, d, rfl, hd, q⟩ := h
    refine ⟨_, (pss_one (ps_ret (pe_call (ok_is_whole_from T) (hr.mono (by first | decide | omega)) (by rfl) T.g_is_whole_from T.F_is_whole_from.kp T.b_is_whole_from .nil pass0 (pa_cons (pv 0) (pa_cons (pe_un un_neg (pe_glob (v := .int (1000000000000)) rfl T.c_MOST_TIME.choose_spec ⟨_, rfl⟩)) (pa_cons (pe_glob (v := .int (1000000000000)) rfl T.c_MOST_TIME.choose_spec ⟨_, rfl⟩) pa_nil)))))), ?_⟩
    exact ⟨_, rfl, _, rfl, Ex, v, d, _, _, rfl, hd, q⟩
theorem ok_is_number (T : Txt K mg af fd) : FnOk P w K mg base CX0 2 (af 2) (fd 2) ["thing"] (sp_in 0 14) := by
  refine T.F_is_number.ok sc_is_number (fun vs H Q E h => ?_) (fun cdv A outer s H vs Q E hr h => ?_)
  · obtain ⟨Ex, v, d, rfl, _⟩ := h
    rfl
  · obtain ⟨Ex, v, d, rfl, hd, q⟩ := h
    refine ⟨_, (pss_one (ps_ret (pe_call (ok_is_whole_from T) (hr.mono (by first | decide | omega)) (by rfl) T.g_is_whole_from T.F_is_whole_from.kp T.b_is_whole_from .nil pass0 (pa_cons (pv 0) (pa_cons pe_int (pa_cons (pe_glob (v := .int (14)) rfl T.c_MOST_NUMBER.choose_spec ⟨_, rfl⟩) pa_nil)))))), ?_⟩
    exact ⟨_, rfl, Ex, v, d, _, _, rfl, hd, q⟩
theorem ok_is_count (T : Txt K mg af fd) : FnOk P w K mg base CX0 2 (af 3) (fd 3) ["thing"] (sp_in 0 15) := by
  refine T.F_is_count.ok sc_is_count (fun vs H Q E h => ?_) (fun cdv A outer s H vs Q E hr h => ?_)
  · obtain ⟨Ex, v, d, rfl, _⟩ := h
    rfl
  · obtain ⟨Ex, v, d, rfl, hd, q⟩ := h
    refine ⟨_, (pss_one (ps_ret (pe_call (ok_is_whole_from T) (hr.mono (by first | decide | omega)) (by rfl) T.g_is_whole_from T.F_is_whole_from.kp T.b_is_whole_from .nil pass0 (pa_cons (pv 0) (pa_cons pe_int (pa_cons (pe_glob (v := .int (15)) rfl T.c_MOST_COUNT.choose_spec ⟨_, rfl⟩) pa_nil)))))), ?_⟩
    exact ⟨_, rfl, Ex, v, d, _, _, rfl, hd, q⟩
def SpanD (d e : PyData) : Prop := ∃ i j, d = .int i ∧ e = .int j ∧ TimeI i ∧ TimeI j ∧ i ≤ j
def sp_is_span : Sp := fun vs H Q _ => ∃ (Ex : Addr → Prop) (v u : V) (d e : PyData), vs = [v, u] ∧ Dq Ex H v d ∧ Dq Ex H u e ∧ ∀ r : Bool, (r = true ↔ SpanD d e) → Q (.bl r) H
theorem ok_is_span (T : Txt K mg af fd) : FnOk P w K mg base CX0 3 (af 8) (fd 8) ["low", "high"] sp_is_span := by
  refine T.F_is_span.ok sc_is_span (fun vs H Q E h => ?_) (fun cdv A outer s H vs Q E hr h => ?_)
  · obtain ⟨Ex, v, u, d, e, rfl, _⟩ := h
    rfl
  · obtain ⟨Ex, v, u, d, e, rfl, hd, he, q⟩ := h
    refine ⟨_, (pss_one (ps_ret (pe_and (pe_call (ok_is_time T) (hr.mono (by first | decide | omega)) (by rfl) T.g_is_time T.F_is_time.kp T.b_is_time .nil pass0 (pa_cons (pv 0) pa_nil)) (pe_and (pe_call (ok_is_time T) (hr.mono (by first | decide | omega)) (by rfl) T.g_is_time T.F_is_time.kp T.b_is_time .nil pass0 (pa_cons (pv 1) pa_nil)) (pe_one (pe_cmpR op_le (pv 0) (pv 1) (nomark _))))))), ?_⟩
    refine ⟨_, rfl, Ex, v, d, rfl, hd, fun r hr1 => ⟨r, rfl, ite2 (fun z => ?_) (fun z => ?_)⟩⟩
    · obtain ⟨i, rfl, i0, i1⟩ := hr1.mp z
      refine ⟨_, rfl, Ex, u, e, rfl, he, fun r2 hr2 => ⟨r2, rfl, ite2 (fun z2 => ?_) (fun z2 => ?_)⟩⟩
      · obtain ⟨j, rfl, j0, j1⟩ := hr2.mp z2
        cases hd
        cases he
        refine ⟨_, rfl, _, rfl, _, _, rfl, rfl, q _ ?_⟩
        rw [decide_eq_true_eq]
        exact ⟨fun h => ⟨i, j, rfl, rfl, ⟨i0, i1⟩, ⟨j0, j1⟩, h⟩, fun ⟨a, b, e1, e2, _, _, h⟩ => by obtain rfl := PyData.int.inj e1; obtain rfl := PyData.int.inj e2; exact h⟩
      · exact q false (ff fun ⟨a, b, e1, e2, _, h, _⟩ => z2 (hr2.mpr ⟨b, e2, h.1, h.2⟩))
    · exact q false (ff fun ⟨a, b, e1, e2, h, _, _⟩ => z (hr1.mpr ⟨a, e1, h.1, h.2⟩))
/-! rows by their data -/
def Row.Bd : Row → Prop
  | .ask _ _ k n o b => NumI k ∧ NumI n ∧ TimeI o ∧ TimeI b ∧ o ≤ b
  | .job _ k o b => NumI k ∧ TimeI o ∧ TimeI b ∧ o ≤ b
  | .all _ a j => CntI a ∧ CntI j
def IsRowD (hs : List Str) (d : PyData) : Prop := ∃ r : Row, d = .tuple r.data ∧ r.In hs ∧ r.Bd
def sp_kind (w : Str) : Sp := fun vs H Q _ => ∃ (Ex : Addr → Prop) (th a : Addr) (hs : List Str) (xs : List V) (ds : List PyData), vs = [.ref th, .ref a] ∧ H th = some (.tup (hs.map V.str)) ∧ (∀ h ∈ hs, PyData.strOk h = true) ∧ H a = some (.tup xs) ∧ Dqs Ex H xs ds ∧ (∀ d ∈ ds, Sh d) ∧
  ∀ r : Bool, (r = true ↔ ∃ x : Row, x.word = w ∧ ds = x.data ∧ x.In hs ∧ x.Bd) → Q (.bl r) H
theorem ok_is_ask_row (T : Txt K mg af fd) : FnOk P w K mg base CX0 4 (af 9) (fd 9) ["houses", "thing"] (sp_kind "ask") := by
  refine T.F_is_ask_row.ok sc_is_ask_row (fun vs H Q E h => ?_) (fun cdv A outer s H vs Q E hr h => ?_)
  · obtain ⟨Ex, th, a, hs, xs, ds, rfl, _⟩ := h
    rfl
  · obtain ⟨Ex, th, a, hs, xs, ds, rfl, hth, hok, ha, hds, hsh, q⟩ := h
    refine ⟨_, (pss_cons (ps_if (pt_cmpR op_ne (pe_callB call_len_seq (by rfl) T.m_len (by decide +kernel) (pa_cons (pv 1) pa_nil)) pe_int (nomark _)) (pss_one (ps_ret pe_bl)) pss_nil)
        (pss_cons (ps_asg (pv 1) (pg_tup rfl (pgs_cons (pg_name (i := 2) sc_is_ask_row.nd rfl (by first | exact Or.inl rfl | exact Or.inr rfl)) (pgs_cons (pg_name (i := 3) sc_is_ask_row.nd rfl (by first | exact Or.inl rfl | exact Or.inr rfl)) (pgs_cons (pg_name (i := 4) sc_is_ask_row.nd rfl (by first | exact Or.inl rfl | exact Or.inr rfl)) (pgs_cons (pg_name (i := 5) sc_is_ask_row.nd rfl (by first | exact Or.inl rfl | exact Or.inr rfl)) (pgs_cons (pg_name (i := 6) sc_is_ask_row.nd rfl (by first | exact Or.inl rfl | exact Or.inr rfl)) (pgs_cons (pg_name (i := 7) sc_is_ask_row.nd rfl (by first | exact Or.inl rfl | exact Or.inr rfl)) (pgs_cons (pg_name (i := 8) sc_is_ask_row.nd rfl (by first | exact Or.inl rfl | exact Or.inr rfl)) pgs_nil)))))))))
        (pss_cons (ps_if (PW.pt (pw_or (pt_cmpR (op_neD hr.units) (pv 2) pe_str (nomark _)) (pw_or (pt_cmpR (op_notInTD (hu65 hr)) (pv 3) (pv 0) (by rfl)) (pw_or1 (pt_cmpR (op_notInTD (hu65 hr)) (pv 6) (pv 0) (by rfl)))))) (pss_one (ps_ret pe_bl)) pss_nil)
        (pss_one (ps_ret (pe_and (pe_call (ok_is_number T) (hr.mono (by first | decide | omega)) (by rfl) T.g_is_number T.F_is_number.kp T.b_is_number .nil pass0 (pa_cons (pv 4) pa_nil)) (pe_and (pe_call (ok_is_number T) (hr.mono (by first | decide | omega)) (by rfl) T.g_is_number T.F_is_number.kp T.b_is_number .nil pass0 (pa_cons (pv 5) pa_nil)) (pe_one (pe_call (ok_is_span T) (hr.mono (by first | decide | omega)) (by rfl) T.g_is_span T.F_is_span.kp T.b_is_span .nil pass0 (pa_cons (pv 7) (pa_cons (pv 8) pa_nil))))))))))), ?_⟩
    refine ⟨_, rfl, a, _, rfl, .inr (SqT.of ha), rfl, _, rfl, ite2 (fun z => ?_) (fun z => ?_)⟩
    · refine q false (ff fun ⟨x, e, e2, _⟩ => len_ne' (m := 7) z ?_)
      rw [hds.len, e2]
      cases x with
      | ask => rfl
      | job => exact absurd e.symm w_aj
      | all => exact absurd e.symm w_aa
    have hl := len_ne (m := 7) z
    have hl2 := hds.len.symm.trans hl
    match xs, ds, hds, hl with
    | [v0, v1, v2, v3, v4, v5, v6], [d0, d1, d2, d3, d4, d5, d6], .cons q0 (.cons q1 (.cons q2 (.cons q3 (.cons q4 (.cons q5 (.cons q6 .nil)))))), _ =>
      refine ⟨_, rfl, a, _, rfl, SqT.of ha, rfl, _, _, rfl, _, _, rfl, _, _, rfl, _, _, rfl, _, _, rfl, _, _, rfl, _, _, rfl, rfl, ?_⟩
      refine ⟨_, rfl, d0, .str "ask", q0.dp, .str _, (hsh d0 (by simp)).shaped, sh_word (by decide +kernel), _, rfl, ite2 (fun z0 => iteT ?_) (fun z0 => ?_)⟩
      · refine q false (ff fun ⟨x, e, e2, _⟩ => ?_)
        have e3 : d0 = .str "ask" := by
          cases x with
          | ask => exact (List.cons.inj e2).1
          | job => exact absurd e.symm w_aj
          | all => exact absurd e.symm w_aa
        rw [eqv_str.mpr e3] at z0
        cases z0
      have e0 : d0 = .str "ask" := eqv_str.mp (by
        cases e : PyData.eqv d0 (.str "ask") with
        | true => rfl
        | false => exact absurd (by rw [e]; rfl) z0)
      subst e0
      refine ⟨_, rfl, _, rfl, d1, _, q1.dp, dp_tup_strs hth, (hsh d1 (by simp)).shaped, shaped_tup_strs hok, _, rfl, ite2 (fun z1 => iteT ?_) (fun z1 => ?_)⟩
      · refine q false (ff fun ⟨x, e, e2, hin, _⟩ => ?_)
        cases x with
        | ask h g k n o b =>
          have e3 := (List.cons.inj (List.cons.inj e2).2).1
          rw [any_strs.mpr ⟨h, hin.1, e3⟩] at z1
          cases z1
        | job => exact absurd e.symm w_aj
        | all => exact absurd e.symm w_aa
      obtain ⟨h, mh, rfl⟩ : ∃ h ∈ hs, d1 = .str h := any_strs.mp (by
        cases e : ((hs.map PyData.str).any fun z => PyData.eqv z d1) with
        | true => rfl
        | false => exact absurd (by rw [e]; rfl) z1)
      refine ⟨_, rfl, _, rfl, d4, _, q4.dp, dp_tup_strs hth, (hsh d4 (by simp)).shaped, shaped_tup_strs hok, _, rfl, ite2 (fun z4 => ?_) (fun z4 => ?_)⟩
      · refine q false (ff fun ⟨x, e, e2, hin, _⟩ => ?_)
        cases x with
        | ask h g k n o b =>
          simp only [Row.data, List.cons.injEq] at e2
          rw [any_strs.mpr ⟨g, hin.2, e2.2.2.2.2.1⟩] at z4
          cases z4
        | job => exact absurd e.symm w_aj
        | all => exact absurd e.symm w_aa
      obtain ⟨g, mg4, rfl⟩ : ∃ h ∈ hs, d4 = .str h := any_strs.mp (by
        cases e : ((hs.map PyData.str).any fun z => PyData.eqv z d4) with
        | true => rfl
        | false => exact absurd (by rw [e]; rfl) z4)
      refine ⟨_, rfl, Ex, v2, d2, rfl, q2, fun r2 h2 => ⟨r2, rfl, ite2 (fun z2 => ?_) (fun z2 => ?_)⟩⟩
      · obtain ⟨k, rfl, k0, k1⟩ := h2.mp z2
        refine ⟨_, rfl, Ex, v3, d3, rfl, q3, fun r3 h3 => ⟨r3, rfl, ite2 (fun z3 => ?_) (fun z3 => ?_)⟩⟩
        · obtain ⟨n, rfl, n0, n1⟩ := h3.mp z3
          refine ⟨_, rfl, _, rfl, Ex, v5, v6, d5, d6, rfl, q5, q6, fun r hr6 => q r ?_⟩
          rw [hr6]
          constructor
          · rintro ⟨i, j, rfl, rfl, ti, tj, ij⟩
            exact ⟨.ask h g k n i j, rfl, rfl, ⟨mh, mg4⟩, ⟨k0, k1⟩, ⟨n0, n1⟩, ti, tj, ij⟩
          · rintro ⟨x, e, e2, hin, hb⟩
            cases x with
            | ask h' g' k' n' o' b' =>
              simp only [Row.data, List.cons.injEq] at e2
              exact ⟨o', b', e2.2.2.2.2.2.1, e2.2.2.2.2.2.2.1, hb.2.2.1, hb.2.2.2.1, hb.2.2.2.2⟩
            | job => exact absurd e.symm w_aj
            | all => exact absurd e.symm w_aa
        · refine q false (ff fun ⟨x, e, e2, hin, hb⟩ => z3 (h3.mpr ?_))
          cases x with
          | ask h' g' k' n' o' b' =>
            simp only [Row.data, List.cons.injEq] at e2
            exact ⟨n', e2.2.2.2.1, hb.2.1.1, hb.2.1.2⟩
          | job => exact absurd e.symm w_aj
          | all => exact absurd e.symm w_aa
      · refine q false (ff fun ⟨x, e, e2, hin, hb⟩ => z2 (h2.mpr ?_))
        cases x with
        | ask h' g' k' n' o' b' =>
          simp only [Row.data, List.cons.injEq] at e2
          exact ⟨k', e2.2.2.1, hb.1.1, hb.1.2⟩
        | job => exact absurd e.symm w_aj
        | all => exact absurd e.symm w_aa
theorem ok_is_job_row (T : Txt K mg af fd) : FnOk P w K mg base CX0 4 (af 10) (fd 10) ["houses", "thing"] (sp_kind "job") := by
  refine T.F_is_job_row.ok sc_is_job_row (fun vs H Q E h => ?_) (fun cdv A outer s H vs Q E hr h => ?_)
  · obtain ⟨Ex, th, a, hs, xs, ds, rfl, _⟩ := h
    rfl
  · obtain ⟨Ex, th, a, hs, xs, ds, rfl, hth, hok, ha, hds, hsh, q⟩ := h
    refine ⟨_, (pss_cons (ps_if (pt_cmpR op_ne (pe_callB call_len_seq (by rfl) T.m_len (by decide +kernel) (pa_cons (pv 1) pa_nil)) pe_int (nomark _)) (pss_one (ps_ret pe_bl)) pss_nil)
        (pss_cons (ps_asg (pv 1) (pg_tup rfl (pgs_cons (pg_name (i := 2) sc_is_job_row.nd rfl (by first | exact Or.inl rfl | exact Or.inr rfl)) (pgs_cons (pg_name (i := 3) sc_is_job_row.nd rfl (by first | exact Or.inl rfl | exact Or.inr rfl)) (pgs_cons (pg_name (i := 4) sc_is_job_row.nd rfl (by first | exact Or.inl rfl | exact Or.inr rfl)) (pgs_cons (pg_name (i := 5) sc_is_job_row.nd rfl (by first | exact Or.inl rfl | exact Or.inr rfl)) (pgs_cons (pg_name (i := 6) sc_is_job_row.nd rfl (by first | exact Or.inl rfl | exact Or.inr rfl)) pgs_nil)))))))
        (pss_cons (ps_if (PW.pt (pw_or (pt_cmpR (op_neD hr.units) (pv 2) pe_str (nomark _)) (pw_or1 (pt_cmpR (op_notInTD (hu65 hr)) (pv 3) (pv 0) (by rfl))))) (pss_one (ps_ret pe_bl)) pss_nil)
        (pss_one (ps_ret (pe_and (pe_call (ok_is_number T) (hr.mono (by first | decide | omega)) (by rfl) T.g_is_number T.F_is_number.kp T.b_is_number .nil pass0 (pa_cons (pv 4) pa_nil)) (pe_one (pe_call (ok_is_span T) (hr.mono (by first | decide | omega)) (by rfl) T.g_is_span T.F_is_span.kp T.b_is_span .nil pass0 (pa_cons (pv 5) (pa_cons (pv 6) pa_nil)))))))))), ?_⟩
    refine ⟨_, rfl, a, _, rfl, .inr (SqT.of ha), rfl, _, rfl, ite2 (fun z => ?_) (fun z => ?_)⟩
    · refine q false (ff fun ⟨x, e, e2, _⟩ => len_ne' (m := 5) z ?_)
      rw [hds.len, e2]
      cases x with
      | job => rfl
      | ask => exact absurd e w_aj
      | all => exact absurd e.symm w_ja
    have hl := len_ne (m := 5) z
    match xs, ds, hds, hl with
    | [v0, v1, v2, v3, v4], [d0, d1, d2, d3, d4], .cons q0 (.cons q1 (.cons q2 (.cons q3 (.cons q4 .nil)))), _ =>
      refine ⟨_, rfl, a, _, rfl, SqT.of ha, rfl, _, _, rfl, _, _, rfl, _, _, rfl, _, _, rfl, _, _, rfl, rfl, ?_⟩
      refine ⟨_, rfl, d0, .str "job", q0.dp, .str _, (hsh d0 (by simp)).shaped, sh_word (by decide +kernel), _, rfl, ite2 (fun z0 => iteT ?_) (fun z0 => ?_)⟩
      · refine q false (ff fun ⟨x, e, e2, _⟩ => ?_)
        have e3 : d0 = .str "job" := by
          cases x with
          | job => exact (List.cons.inj e2).1
          | ask => exact absurd e w_aj
          | all => exact absurd e.symm w_ja
        rw [eqv_str.mpr e3] at z0
        cases z0
      have e0 : d0 = .str "job" := eqv_str.mp (by
        cases e : PyData.eqv d0 (.str "job") with
        | true => rfl
        | false => exact absurd (by rw [e]; rfl) z0)
      subst e0
      refine ⟨_, rfl, _, rfl, d1, _, q1.dp, dp_tup_strs hth, (hsh d1 (by simp)).shaped, shaped_tup_strs hok, _, rfl, ite2 (fun z1 => ?_) (fun z1 => ?_)⟩
      · refine q false (ff fun ⟨x, e, e2, hin, _⟩ => ?_)
        cases x with
        | job h k o b =>
          have e3 := (List.cons.inj (List.cons.inj e2).2).1
          rw [any_strs.mpr ⟨h, hin, e3⟩] at z1
          cases z1
        | ask => exact absurd e w_aj
        | all => exact absurd e.symm w_ja
      obtain ⟨h, mh, rfl⟩ : ∃ h ∈ hs, d1 = .str h := any_strs.mp (by
        cases e : ((hs.map PyData.str).any fun z => PyData.eqv z d1) with
        | true => rfl
        | false => exact absurd (by rw [e]; rfl) z1)
      refine ⟨_, rfl, Ex, v2, d2, rfl, q2, fun r2 h2 => ⟨r2, rfl, ite2 (fun z2 => ?_) (fun z2 => ?_)⟩⟩
      · obtain ⟨k, rfl, k0, k1⟩ := h2.mp z2
        refine ⟨_, rfl, _, rfl, Ex, v3, v4, d3, d4, rfl, q3, q4, fun r hr6 => q r ?_⟩
        rw [hr6]
        constructor
        · rintro ⟨i, j, rfl, rfl, ti, tj, ij⟩
          exact ⟨.job h k i j, rfl, rfl, mh, ⟨k0, k1⟩, ti, tj, ij⟩
        · rintro ⟨x, e, e2, hin, hb⟩
          cases x with
          | job h' k' o' b' =>
            simp only [Row.data, List.cons.injEq] at e2
            exact ⟨o', b', e2.2.2.2.1, e2.2.2.2.2.1, hb.2.1, hb.2.2.1, hb.2.2.2⟩
          | ask => exact absurd e w_aj
          | all => exact absurd e.symm w_ja
      · refine q false (ff fun ⟨x, e, e2, hin, hb⟩ => z2 (h2.mpr ?_))
        cases x with
        | job h' k' o' b' =>
          simp only [Row.data, List.cons.injEq] at e2
          exact ⟨k', e2.2.2.1, hb.1.1, hb.1.2⟩
        | ask => exact absurd e w_aj
        | all => exact absurd e.symm w_ja
theorem ok_is_all_row (T : Txt K mg af fd) : FnOk P w K mg base CX0 3 (af 11) (fd 11) ["houses", "thing"] (sp_kind "all") := by
  refine T.F_is_all_row.ok sc_is_all_row (fun vs H Q E h => ?_) (fun cdv A outer s H vs Q E hr h => ?_)
  · obtain ⟨Ex, th, a, hs, xs, ds, rfl, _⟩ := h
    rfl
  · obtain ⟨Ex, th, a, hs, xs, ds, rfl, hth, hok, ha, hds, hsh, q⟩ := h
    refine ⟨_, (pss_cons (ps_if (pt_cmpR op_ne (pe_callB call_len_seq (by rfl) T.m_len (by decide +kernel) (pa_cons (pv 1) pa_nil)) pe_int (nomark _)) (pss_one (ps_ret pe_bl)) pss_nil)
        (pss_cons (ps_asg (pv 1) (pg_tup rfl (pgs_cons (pg_name (i := 2) sc_is_all_row.nd rfl (by first | exact Or.inl rfl | exact Or.inr rfl)) (pgs_cons (pg_name (i := 3) sc_is_all_row.nd rfl (by first | exact Or.inl rfl | exact Or.inr rfl)) (pgs_cons (pg_name (i := 4) sc_is_all_row.nd rfl (by first | exact Or.inl rfl | exact Or.inr rfl)) (pgs_cons (pg_name (i := 5) sc_is_all_row.nd rfl (by first | exact Or.inl rfl | exact Or.inr rfl)) pgs_nil))))))
        (pss_cons (ps_if (PW.pt (pw_or (pt_cmpR (op_neD hr.units) (pv 2) pe_str (nomark _)) (pw_or1 (pt_cmpR (op_notInTD (hu65 hr)) (pv 3) (pv 0) (by rfl))))) (pss_one (ps_ret pe_bl)) pss_nil)
        (pss_one (ps_ret (pe_and (pe_call (ok_is_count T) (hr.mono (by first | decide | omega)) (by rfl) T.g_is_count T.F_is_count.kp T.b_is_count .nil pass0 (pa_cons (pv 4) pa_nil)) (pe_one (pe_call (ok_is_count T) (hr.mono (by first | decide | omega)) (by rfl) T.g_is_count T.F_is_count.kp T.b_is_count .nil pass0 (pa_cons (pv 5) pa_nil))))))))), ?_⟩
    refine ⟨_, rfl, a, _, rfl, .inr (SqT.of ha), rfl, _, rfl, ite2 (fun z => ?_) (fun z => ?_)⟩
    · refine q false (ff fun ⟨x, e, e2, _⟩ => len_ne' (m := 4) z ?_)
      rw [hds.len, e2]
      cases x with
      | all => rfl
      | ask => exact absurd e w_aa
      | job => exact absurd e w_ja
    have hl := len_ne (m := 4) z
    match xs, ds, hds, hl with
    | [v0, v1, v2, v3], [d0, d1, d2, d3], .cons q0 (.cons q1 (.cons q2 (.cons q3 .nil))), _ =>
      refine ⟨_, rfl, a, _, rfl, SqT.of ha, rfl, _, _, rfl, _, _, rfl, _, _, rfl, _, _, rfl, rfl, ?_⟩
      refine ⟨_, rfl, d0, .str "all", q0.dp, .str _, (hsh d0 (by simp)).shaped, sh_word (by decide +kernel), _, rfl, ite2 (fun z0 => iteT ?_) (fun z0 => ?_)⟩
      · refine q false (ff fun ⟨x, e, e2, _⟩ => ?_)
        have e3 : d0 = .str "all" := by
          cases x with
          | all => exact (List.cons.inj e2).1
          | ask => exact absurd e w_aa
          | job => exact absurd e w_ja
        rw [eqv_str.mpr e3] at z0
        cases z0
      have e0 : d0 = .str "all" := eqv_str.mp (by
        cases e : PyData.eqv d0 (.str "all") with
        | true => rfl
        | false => exact absurd (by rw [e]; rfl) z0)
      subst e0
      refine ⟨_, rfl, _, rfl, d1, _, q1.dp, dp_tup_strs hth, (hsh d1 (by simp)).shaped, shaped_tup_strs hok, _, rfl, ite2 (fun z1 => ?_) (fun z1 => ?_)⟩
      · refine q false (ff fun ⟨x, e, e2, hin, _⟩ => ?_)
        cases x with
        | all h a j =>
          have e3 := (List.cons.inj (List.cons.inj e2).2).1
          rw [any_strs.mpr ⟨h, hin, e3⟩] at z1
          cases z1
        | ask => exact absurd e w_aa
        | job => exact absurd e w_ja
      obtain ⟨h, mh, rfl⟩ : ∃ h ∈ hs, d1 = .str h := any_strs.mp (by
        cases e : ((hs.map PyData.str).any fun z => PyData.eqv z d1) with
        | true => rfl
        | false => exact absurd (by rw [e]; rfl) z1)
      refine ⟨_, rfl, Ex, v2, d2, rfl, q2, fun r2 h2 => ⟨r2, rfl, ite2 (fun z2 => ?_) (fun z2 => ?_)⟩⟩
      · obtain ⟨k, rfl, k0, k1⟩ := h2.mp z2
        refine ⟨_, rfl, Ex, v3, d3, rfl, q3, fun r hr6 => q r ?_⟩
        rw [hr6]
        constructor
        · rintro ⟨i, rfl, i0, i1⟩
          exact ⟨.all h k i, rfl, rfl, mh, ⟨k0, k1⟩, ⟨i0, i1⟩⟩
        · rintro ⟨x, e, e2, hin, hb⟩
          cases x with
          | all h' a' j' =>
            simp only [Row.data, List.cons.injEq] at e2
            exact ⟨j', e2.2.2.2.1, hb.2.1, hb.2.2⟩
          | ask => exact absurd e w_aa
          | job => exact absurd e w_ja
      · refine q false (ff fun ⟨x, e, e2, hin, hb⟩ => z2 (h2.mpr ?_))
        cases x with
        | all h' a' j' =>
          simp only [Row.data, List.cons.injEq] at e2
          exact ⟨a', e2.2.2.1, hb.1.1, hb.1.2⟩
        | ask => exact absurd e w_aa
        | job => exact absurd e w_ja
def sp_is_row : Sp := fun vs H Q _ => ∃ (Ex : Addr → Prop) (t : Addr) (v : V) (d : PyData) (hs gs : List Str), vs = [.ref t, v] ∧ TownAt H t hs gs ∧ (∀ h ∈ hs, PyData.strOk h = true) ∧ Dq Ex H v d ∧ Sh d ∧ ∀ r : Bool, (r = true ↔ IsRowD hs d) → Q (.bl r) H
theorem ok_is_row (T : Txt K mg af fd) : FnOk P w K mg base CX0 5 (af 12) (fd 12) ["town", "thing"] sp_is_row := by
  refine T.F_is_row.ok sc_is_row (fun vs H Q E h => ?_) (fun cdv A outer s H vs Q E hr h => ?_)
  · obtain ⟨Ex, t, v, d, hs, gs, rfl, _⟩ := h
    rfl
  · obtain ⟨Ex, t, v, d, hs, gs, rfl, ⟨th, tg, t1, t2, t3⟩, hok, hd, hsh, q⟩ := h
    refine ⟨_, (pss_cons (ps_if (pt_not (pt_val (pe_callB call_isi (by rfl) T.m_isinstance (by decide +kernel) (pa_cons (pv 1) (pa_cons (pe_bltn (v := .ty "tuple") (by rfl) T.m_tuple (by decide +kernel) rfl) pa_nil))))) (pss_one (ps_ret pe_bl)) pss_nil)
        (pss_cons (ps_set (i := 2) sc_is_row.nd rfl (by first | exact Or.inl rfl | exact Or.inr rfl) (pe_ix ix_tup (pv 0) pe_int (fun _ _ => rfl)))
        (pss_one (ps_ret (pe_or (pe_call (ok_is_ask_row T) (hr.mono (by first | decide | omega)) (by rfl) T.g_is_ask_row T.F_is_ask_row.kp T.b_is_ask_row .nil pass0 (pa_cons (pv 2) (pa_cons (pv 1) pa_nil))) (pe_or (pe_call (ok_is_job_row T) (hr.mono (by first | decide | omega)) (by rfl) T.g_is_job_row T.F_is_job_row.kp T.b_is_job_row .nil pass0 (pa_cons (pv 2) (pa_cons (pv 1) pa_nil))) (pe_one (pe_call (ok_is_all_row T) (hr.mono (by first | decide | omega)) (by rfl) T.g_is_all_row T.F_is_all_row.kp T.b_is_all_row .nil pass0 (pa_cons (pv 2) (pa_cons (pv 1) pa_nil)))))))))), ?_⟩
    refine ⟨_, rfl, _, _, _, _, _, rfl, .ty "tuple", hd.ty, isi_kit hd n_tuple, _, rfl, ?_⟩
    cases hd with
    | @tup a xs ds ha hds =>
      refine iteF ?_
      refine ⟨_, rfl, t, _, 0, _, rfl, rfl, SqT.of t1, rfl, ?_⟩
      have sub := hsh.items
      refine ⟨_, rfl, _, rfl, Ex, th, a, hs, xs, ds, rfl, t2, hok, ha, hds, sub, fun r1 h1 => ⟨r1, rfl, ite2 (fun z => ?_) (fun z => ?_)⟩⟩
      · refine q true (tt ?_)
        obtain ⟨x, _, e, hin, hb⟩ := h1.mp z
        exact ⟨x, by rw [e], hin, hb⟩
      refine ⟨_, rfl, _, rfl, Ex, th, a, hs, xs, ds, rfl, t2, hok, ha, hds, sub, fun r2 h2 => ⟨r2, rfl, ite2 (fun z2 => ?_) (fun z2 => ?_)⟩⟩
      · refine q true (tt ?_)
        obtain ⟨x, _, e, hin, hb⟩ := h2.mp z2
        exact ⟨x, by rw [e], hin, hb⟩
      refine ⟨_, rfl, _, rfl, Ex, th, a, hs, xs, ds, rfl, t2, hok, ha, hds, sub, fun r3 h3 => q r3 ?_⟩
      rw [h3]
      constructor
      · rintro ⟨x, _, e, hin, hb⟩
        exact ⟨x, by rw [e], hin, hb⟩
      · rintro ⟨x, e, hin, hb⟩
        have e1 : ds = x.data := PyData.tuple.inj e
        cases x with
        | ask h g k n o b => exact absurd (h1.mpr ⟨_, rfl, e1, hin, hb⟩) z
        | job h k o b => exact absurd (h2.mpr ⟨_, rfl, e1, hin, hb⟩) z2
        | all h a j => exact ⟨_, rfl, e1, hin, hb⟩
    | _ =>
      refine iteT (q false (ff fun ⟨x, e, _⟩ => nomatch e))
/-! ### the law's look at rows -/
def sp_l_whole : Sp := fun vs H Q _ => ∃ (Ex : Addr → Prop) (v : V) (d : PyData), vs = [v] ∧ Dq Ex H v d ∧ ∀ r : Bool, (r = true ↔ ∃ i, d = .int i) → Q (.bl r) H
theorem ok_l_whole (T : Txt K mg af fd) : FnOk P w K mg base CX0 1 (af 43) (fd 43) ["thing"] sp_l_whole := by
  refine T.F_l_whole.ok sc_l_whole (fun vs H Q E h => ?_) (fun cdv A outer s H vs Q E hr h => ?_)
  · obtain ⟨Ex, v, d, rfl, _⟩ := h
    rfl
  · obtain ⟨Ex, v, d, rfl, hd, q⟩ := h
    refine ⟨_, (pss_one (ps_ret (pe_and (pe_callB call_isi (by rfl) T.m_isinstance (by decide +kernel) (pa_cons (pv 0) (pa_cons (pe_bltn (v := .ty "int") (by rfl) T.m_int (by decide +kernel) rfl) pa_nil))) (pe_one (pe_not (pe_callB call_isi (by rfl) T.m_isinstance (by decide +kernel) (pa_cons (pv 0) (pa_cons (pe_bltn (v := .ty "bool") (by rfl) T.m_bool (by decide +kernel) rfl) pa_nil)))))))), ?_⟩
    refine ⟨_, rfl, _, _, _, _, _, rfl, .ty "int", hd.ty, isi_kit hd n_int, _, rfl, ?_⟩
    cases e1 : isB d "int" with
    | false =>
      refine iteF (q false (ff fun ⟨i, e⟩ => ?_))
      subst e
      exact absurd e1 (by simp [isB])
    | true =>
      refine iteT ⟨_, rfl, _, _, _, _, _, rfl, .ty "bool", hd.ty, isi_kit hd n_bool, _, rfl, q _ ?_⟩
      cases e2 : isB d "bool" with
      | true =>
        refine ff fun ⟨i, e⟩ => ?_
        subst e
        exact absurd e2 (by simp [isB])
      | false => exact tt (some_int e2 e1)
/-! the forms -/
def formL (w : Str) : List Nat := if w = "ask" then [104, 110, 110, 104, 116, 116] else if w = "job" then [104, 110, 116, 116] else [104, 99, 99]
theorem formL_ask : formL "ask" = [104, 110, 110, 104, 116, 116] := if_pos rfl
theorem formL_job : formL "job" = [104, 110, 116, 116] := (if_neg fun e => w_aj e.symm).trans (if_pos rfl)
theorem formL_all : formL "all" = [104, 99, 99] := (if_neg fun e => w_aa e.symm).trans (if_neg fun e => w_ja e.symm)
def formsV : List (Key × V) := [(Sum.inr "ask", .str (SX.S [104, 110, 110, 104, 116, 116])), (Sum.inr "job", .str (SX.S [104, 110, 116, 116])), (Sum.inr "all", .str (SX.S [104, 99, 99]))]
def Is3 (w : Str) : Prop := w = "ask" ∨ w = "job" ∨ w = "all"
theorem formsV_at {w : Str} (h : Is3 w) : valV formsV (Sum.inr w) = some (.str (SX.S (formL w))) := by
  rcases h with rfl | rfl | rfl
  · rw [formL_ask]; rfl
  · rw [formL_job]; rfl
  · rw [formL_all]; rfl
theorem formsV_no {w : Str} (h : ¬ Is3 w) : valV formsV (Sum.inr w) = none := by
  have h1 : ¬ (Sum.inr "ask" : Key) = Sum.inr w := fun e => h (.inl (Sum.inr.inj e).symm)
  have h2 : ¬ (Sum.inr "job" : Key) = Sum.inr w := fun e => h (.inr (.inl (Sum.inr.inj e).symm))
  have h3 : ¬ (Sum.inr "all" : Key) = Sum.inr w := fun e => h (.inr (.inr (Sum.inr.inj e).symm))
  unfold valV formsV
  rw [List.find?_cons_of_neg (by simpa using h1), List.find?_cons_of_neg (by simpa using h2), List.find?_cons_of_neg (by simpa using h3)]
  rfl
def loC (c : Nat) : Int := if c = 116 then -1000000000000 else 0
def hiC (c : Nat) : Int := if c = 116 then 1000000000000 else if c = 110 then 14 else 15
def okP (hs : List Str) (c : Nat) (d : PyData) : Prop := if c = 104 then ∃ h ∈ hs, d = .str h else InI (loC c) (hiC c) d
theorem row_word {r : Row} {ds : List PyData} {w : Str} (h : .str w :: ds = r.data) : r.word = w := by
  cases r <;> exact (PyData.str.inj (List.cons.inj h).1).symm
theorem word3 (r : Row) : Is3 r.word := by
  cases r
  · exact .inl rfl
  · exact .inr (.inl rfl)
  · exact .inr (.inr rfl)
theorem row_len (r : Row) : r.data.length = 1 + (formL r.word).length := by
  cases r
  · show 7 = 1 + (formL "ask").length
    rw [formL_ask]; rfl
  · show 5 = 1 + (formL "job").length
    rw [formL_job]; rfl
  · show 4 = 1 + (formL "all").length
    rw [formL_all]; rfl
/-! a row's parts are as its form says -/
theorem row_okP {hs : List Str} {r : Row} (hin : r.In hs) (hb : r.Bd) : ∀ (j c : Nat) (d : PyData), (formL r.word)[j]? = some c → r.data[j + 1]? = some d → okP hs c d := by
  have h110 : ∀ k : Int, NumI k → okP hs 110 (.int k) := fun k h => ⟨k, rfl, h.1, h.2⟩
  have h99 : ∀ k : Int, CntI k → okP hs 99 (.int k) := fun k h => ⟨k, rfl, h.1, h.2⟩
  have h116 : ∀ k : Int, TimeI k → okP hs 116 (.int k) := fun k h => ⟨k, rfl, h.1, h.2⟩
  have h104 : ∀ h : Str, h ∈ hs → okP hs 104 (.str h) := fun h m => ⟨h, m, rfl⟩
  intro j c d hc hd
  cases r with
  | ask h g k n o b =>
    have hc : (formL "ask")[j]? = some c := hc
    rw [formL_ask] at hc
    match j, hc, hd with
    | 0, hc, hd => obtain rfl := Option.some.inj hc; obtain rfl := Option.some.inj hd; exact h104 h hin.1
    | 1, hc, hd => obtain rfl := Option.some.inj hc; obtain rfl := Option.some.inj hd; exact h110 k hb.1
    | 2, hc, hd => obtain rfl := Option.some.inj hc; obtain rfl := Option.some.inj hd; exact h110 n hb.2.1
    | 3, hc, hd => obtain rfl := Option.some.inj hc; obtain rfl := Option.some.inj hd; exact h104 g hin.2
    | 4, hc, hd => obtain rfl := Option.some.inj hc; obtain rfl := Option.some.inj hd; exact h116 o hb.2.2.1
    | 5, hc, hd => obtain rfl := Option.some.inj hc; obtain rfl := Option.some.inj hd; exact h116 b hb.2.2.2.1
  | job h k o b =>
    have hc : (formL "job")[j]? = some c := hc
    rw [formL_job] at hc
    match j, hc, hd with
    | 0, hc, hd => obtain rfl := Option.some.inj hc; obtain rfl := Option.some.inj hd; exact h104 h hin
    | 1, hc, hd => obtain rfl := Option.some.inj hc; obtain rfl := Option.some.inj hd; exact h110 k hb.1
    | 2, hc, hd => obtain rfl := Option.some.inj hc; obtain rfl := Option.some.inj hd; exact h116 o hb.2.1
    | 3, hc, hd => obtain rfl := Option.some.inj hc; obtain rfl := Option.some.inj hd; exact h116 b hb.2.2.1
  | all h a i =>
    have hc : (formL "all")[j]? = some c := hc
    rw [formL_all] at hc
    match j, hc, hd with
    | 0, hc, hd => obtain rfl := Option.some.inj hc; obtain rfl := Option.some.inj hd; exact h104 h hin
    | 1, hc, hd => obtain rfl := Option.some.inj hc; obtain rfl := Option.some.inj hd; exact h99 a hb.1
    | 2, hc, hd => obtain rfl := Option.some.inj hc; obtain rfl := Option.some.inj hd; exact h99 i hb.2
theorem formL_mem {w : Str} (h : Is3 w) : ∀ c ∈ formL w, c = 104 ∨ c = 110 ∨ c = 116 ∨ c = 99 := by
  intro c hc
  rcases h with rfl | rfl | rfl
  · rw [formL_ask] at hc
    simp at hc
    omega
  · rw [formL_job] at hc
    simp at hc
    omega
  · rw [formL_all] at hc
    simp at hc
    omega
/-! and what has such parts is one, but for the order of its times -/
theorem okP_row {hs : List Str} {w : Str} {rest : List PyData} (h3 : Is3 w) (hl : rest.length = (formL w).length) (ok : ∀ (j c : Nat) (d : PyData), (formL w)[j]? = some c → rest[j]? = some d → okP hs c d) :
    (w = "all" ∧ IsRowD hs (.tuple (.str w :: rest))) ∨ (w ≠ "all" ∧ ∃ (o b : Int) (ini : List PyData), rest = ini ++ [.int o, .int b] ∧ (IsRowD hs (.tuple (.str w :: rest)) ↔ o ≤ b)) := by
  rcases h3 with rfl | rfl | rfl
  · rw [formL_ask] at hl ok
    match rest, hl, ok with
    | [d1, d2, d3, d4, d5, d6], _, ok =>
      obtain ⟨h, mh, rfl⟩ : okP hs 104 d1 := ok 0 104 d1 rfl rfl
      obtain ⟨k, rfl, k0, k1⟩ : okP hs 110 d2 := ok 1 110 d2 rfl rfl
      obtain ⟨n, rfl, n0, n1⟩ : okP hs 110 d3 := ok 2 110 d3 rfl rfl
      obtain ⟨g, mg, rfl⟩ : okP hs 104 d4 := ok 3 104 d4 rfl rfl
      obtain ⟨o, rfl, o0, o1⟩ : okP hs 116 d5 := ok 4 116 d5 rfl rfl
      obtain ⟨b, rfl, b0, b1⟩ : okP hs 116 d6 := ok 5 116 d6 rfl rfl
      refine .inr ⟨w_aa, o, b, [.str h, .int k, .int n, .str g], rfl, ⟨fun ⟨r, e, hin, hb⟩ => ?_, fun hob => ⟨.ask h g k n o b, rfl, ⟨mh, mg⟩, ⟨k0, k1⟩, ⟨n0, n1⟩, ⟨o0, o1⟩, ⟨b0, b1⟩, hob⟩⟩⟩
      have e1 := PyData.tuple.inj e
      cases r with
      | ask h' g' k' n' o' b' =>
        simp only [Row.data, List.cons.injEq, PyData.int.injEq, and_true] at e1
        rw [e1.2.2.2.2.2.1, e1.2.2.2.2.2.2]
        exact hb.2.2.2.2
      | job => exact absurd (row_word e1).symm w_aj
      | all => exact absurd (row_word e1).symm w_aa
  · rw [formL_job] at hl ok
    match rest, hl, ok with
    | [d1, d2, d3, d4], _, ok =>
      obtain ⟨h, mh, rfl⟩ : okP hs 104 d1 := ok 0 104 d1 rfl rfl
      obtain ⟨k, rfl, k0, k1⟩ : okP hs 110 d2 := ok 1 110 d2 rfl rfl
      obtain ⟨o, rfl, o0, o1⟩ : okP hs 116 d3 := ok 2 116 d3 rfl rfl
      obtain ⟨b, rfl, b0, b1⟩ : okP hs 116 d4 := ok 3 116 d4 rfl rfl
      refine .inr ⟨w_ja, o, b, [.str h, .int k], rfl, ⟨fun ⟨r, e, hin, hb⟩ => ?_, fun hob => ⟨.job h k o b, rfl, mh, ⟨k0, k1⟩, ⟨o0, o1⟩, ⟨b0, b1⟩, hob⟩⟩⟩
      have e1 := PyData.tuple.inj e
      cases r with
      | job h' k' o' b' =>
        simp only [Row.data, List.cons.injEq, PyData.int.injEq, and_true] at e1
        rw [e1.2.2.2.1, e1.2.2.2.2]
        exact hb.2.2.2
      | ask => exact absurd (row_word e1) w_aj
      | all => exact absurd (row_word e1).symm w_ja
  · rw [formL_all] at hl ok
    match rest, hl, ok with
    | [d1, d2, d3], _, ok =>
      obtain ⟨h, mh, rfl⟩ : okP hs 104 d1 := ok 0 104 d1 rfl rfl
      obtain ⟨a, rfl, a0, a1⟩ : okP hs 99 d2 := ok 1 99 d2 rfl rfl
      obtain ⟨j, rfl, j0, j1⟩ : okP hs 99 d3 := ok 2 99 d3 rfl rfl
      exact .inl ⟨rfl, .all h a j, rfl, mh, ⟨a0, a1⟩, ⟨j0, j1⟩⟩
def sp_l_is_row : Sp := fun vs H Q _ => ∃ (Ex : Addr → Prop) (t : Addr) (v : V) (d : PyData) (hs gs : List Str), vs = [.ref t, v] ∧ TownAt H t hs gs ∧ (∀ h ∈ hs, PyData.strOk h = true) ∧ Dq Ex H v d ∧ Sh d ∧ ∀ (r : Bool) (H' : Hp), Same H H' → (r = true ↔ IsRowD hs d) → Q (.bl r) H'
theorem at_head {v : V} {vs : List V} : atI (v :: vs) 0 = some v := atI_nat (j := 0) rfl
theorem cut_tail {v : V} {vs : List V} : cutV (v :: vs) (some 1) none = vs := by
  unfold cutV
  rw [show HT.sIx (v :: vs).length 0 (some 1) = min 1 (v :: vs).length from HT.sIx_nat _ 0 1, HT.sIx_none, List.length_cons, Nat.min_eq_left (by omega)]
  show List.take (vs.length + 1 - 1) vs = vs
  rw [Nat.add_sub_cancel, List.take_length]
theorem not_whole {v : V} {vs : List V} (h : HT.sIx (v :: vs).length 0 (some 1) = 0) : False := by
  rw [show HT.sIx (v :: vs).length 0 (some 1) = min 1 (v :: vs).length from HT.sIx_nat _ 0 1, List.length_cons, Nat.min_eq_left (by omega)] at h
  cases h
theorem at_last2 {xs : List V} {u v : V} : atI (xs ++ [u, v]) (-2) = some u := by
  unfold atI ixN
  have e : ((xs ++ [u, v]).length : Int) = xs.length + 2 := by rw [List.length_append]; rfl
  rw [if_neg (by omega), if_pos (by omega), e]
  show (xs ++ [u, v])[((-2 : Int) + (xs.length + 2)).toNat]? = some u
  rw [show ((-2 : Int) + (xs.length + 2)).toNat = xs.length by omega, List.getElem?_append_right (Nat.le_refl _), Nat.sub_self]
  rfl
theorem at_last1 {xs : List V} {u v : V} : atI (xs ++ [u, v]) (-1) = some v := by
  unfold atI ixN
  have e : ((xs ++ [u, v]).length : Int) = xs.length + 2 := by rw [List.length_append]; rfl
  rw [if_neg (by omega), if_pos (by omega), e]
  show (xs ++ [u, v])[((-1 : Int) + (xs.length + 2)).toNat]? = some v
  rw [show ((-1 : Int) + (xs.length + 2)).toNat = xs.length + 1 by omega, List.getElem?_append_right (by omega), Nat.add_sub_cancel_left]
  rfl
theorem Dqs.last2 {Ex : Addr → Prop} {H : Hp} {vs : List V} {ini : List PyData} {o b : Int} (h : Dqs Ex H vs (ini ++ [.int o, .int b])) : ∃ us, vs = us ++ [.int o, .int b] := by
  induction ini generalizing vs with
  | nil =>
    cases h with
    | cons h1 r =>
      cases h1
      cases r with
      | cons h2 r2 =>
        cases h2
        cases r2
        exact ⟨[], rfl⟩
  | cons x l ih =>
    cases h with
    | cons h1 r =>
      obtain ⟨us, e⟩ := ih r
      exact ⟨_ :: us, by rw [e]; rfl⟩
def boundsV (tn tm tc : Addr) : List (Key × V) := [(Sum.inr (SX.S [110]), .ref tn), (Sum.inr (SX.S [116]), .ref tm), (Sum.inr (SX.S [99]), .ref tc)]
theorem boundsV_at {tn tm tc : Addr} {c : Nat} (h : c = 110 ∨ c = 116 ∨ c = 99) : valV (boundsV tn tm tc) (Sum.inr ⟨#[c]⟩) = some (.ref (if c = 110 then tn else if c = 116 then tm else tc)) := by
  rcases h with rfl | rfl | rfl <;> rfl
theorem eqv_nil {ds : List PyData} : PyData.eqv (.tuple ds) (.tuple []) = true ↔ ds = [] := by
  cases ds <;> simp [PyData.eqv, PyData.eqvAll]
theorem not_row_word {hs : List Str} {w : Str} {ds : List PyData} (h : ¬ Is3 w) : ¬ IsRowD hs (.tuple (.str w :: ds)) := fun ⟨r, e, _⟩ => h (by
  rw [← row_word (PyData.tuple.inj e)]
  exact word3 r)
theorem sgn_eq (c n : Nat) : decide (V.str ⟨#[c]⟩ = V.str (SX.S [n])) = decide (c = n) := by
  by_cases h : c = n
  · subst h
    rw [decide_eq_true rfl, decide_eq_true rfl]
  · rw [decide_eq_false h, decide_eq_false]
    intro e
    have e2 : SX.S [c] = SX.S [n] := V.str.inj e
    exact h (List.cons.inj (SX.S_inj e2)).1
theorem ok_l_is_row (T : Txt K mg af fd) : FnOk P w K mg base CX0 2 (af 44) (fd 44) ["town", "thing"] sp_l_is_row := by
  refine T.F_l_is_row.ok sc_l_is_row (fun vs H Q E h => ?_) (fun cdv A outer s H vs Q E hr h => ?_)
  · obtain ⟨Ex, t, v, d, hs, gs, rfl, _⟩ := h
    rfl
  · obtain ⟨Ex, t, v, d, hs, gs, rfl, ht, hok, hd, hsh, q⟩ := h
    refine ⟨_, (pss_cons (ps_set (i := 2) sc_l_is_row.nd rfl (by first | exact Or.inl rfl | exact Or.inr rfl) (pe_disp (pps_cons pe_str pe_str (pps_cons pe_str pe_str (pps_cons pe_str pe_str pps_nil))) (by rfl) (by rfl) (fun z => by cases z) (by decide)))
        (pss_cons (ps_if (PW.pt (pw_or (pt_not (pt_val (pe_callB call_isi (by rfl) T.m_isinstance (by decide +kernel) (pa_cons (pv 1) (pa_cons (pe_bltn (v := .ty "tuple") (by rfl) T.m_tuple (by decide +kernel) rfl) pa_nil))))) (pw_or (pt_cmpR (op_eqD hr.units) (pv 1) (pe_tup pa_nil) (nomark _)) (pw_or (pt_not (pt_val (pe_callB call_isi (by rfl) T.m_isinstance (by decide +kernel) (pa_cons (pe_ix ix_tup (pv 1) pe_int (fun _ _ => rfl)) (pa_cons (pe_bltn (v := .ty "str") (by rfl) T.m_str (by decide +kernel) rfl) pa_nil))))) (pw_or1 (pt_cmp (pc_dnotin (hu_of hr) (pe_ix ix_tup (pv 1) pe_int (fun _ _ => rfl)) (pv 2)))))))) (pss_one (ps_ret pe_bl)) pss_nil)
        (pss_cons (ps_if (pt_cmpR op_ne (pe_callB call_len_seq (by rfl) T.m_len (by decide +kernel) (pa_cons (pv 1) pa_nil)) (pe_op op_add pe_int (pe_callB call_len_str (by rfl) T.m_len (by decide +kernel) (pa_cons (pe_dget (hu_of hr) (pv 2) (pe_ix ix_tup (pv 1) pe_int (fun _ _ => rfl)) (fun _ _ => rfl)) pa_nil))) (nomark _)) (pss_one (ps_ret pe_bl)) pss_nil)
        (pss_cons (ps_for PassesOwn.never rfl (Zs.pi_zs (by rfl) T.m_zip (pa_cons (pe_dget (hu_of hr) (pv 2) (pe_ix ix_tup (pv 1) pe_int (fun _ _ => rfl)) (fun _ _ => rfl)) (pa_cons (pe_slice sl_tupA (pv 1) (po_some pe_int) po_none) pa_nil))) (pg_tup rfl (pgs_cons (pg_name (i := 3) sc_l_is_row.nd rfl (by first | exact Or.inl rfl | exact Or.inr rfl)) (pgs_cons (pg_name (i := 4) sc_l_is_row.nd rfl (by first | exact Or.inl rfl | exact Or.inr rfl)) pgs_nil))) (pss_one (ps_if (pt_cmpR op_eq (pv 3) pe_str (nomark _)) (pss_one (ps_if (PW.pt (pw_or (pt_not (pt_val (pe_callB call_isi (by rfl) T.m_isinstance (by decide +kernel) (pa_cons (pv 4) (pa_cons (pe_bltn (v := .ty "str") (by rfl) T.m_str (by decide +kernel) rfl) pa_nil))))) (pw_or1 (pt_cmpR (op_notInTD (hu65 hr)) (pv 4) (pe_ix ix_tup (pv 0) pe_int (fun _ _ => rfl)) (by rfl))))) (pss_one (ps_ret pe_bl)) pss_nil)) (pss_cons (ps_asg (pe_dget (hu_of hr) (pe_disp (pps_cons pe_str (pe_tup (pa_cons pe_int (pa_cons pe_int pa_nil))) (pps_cons pe_str (pe_tup (pa_cons (pe_op op_sub pe_int (pe_op op_pow pe_int pe_int)) (pa_cons (pe_op op_pow pe_int pe_int) pa_nil))) (pps_cons pe_str (pe_tup (pa_cons pe_int (pa_cons pe_int pa_nil))) pps_nil))) (by rfl) (by rfl) (fun z => by cases z) (by decide)) (pv 3) (fun _ _ => rfl)) (pg_tup rfl (pgs_cons (pg_name (i := 5) sc_l_is_row.nd rfl (by first | exact Or.inl rfl | exact Or.inr rfl)) (pgs_cons (pg_name (i := 6) sc_l_is_row.nd rfl (by first | exact Or.inl rfl | exact Or.inr rfl)) pgs_nil))))
        (pss_one (ps_if (PW.pt (pw_or (pt_not (pt_val (pe_call (ok_l_whole T) (hr.mono (by first | decide | omega)) (by rfl) T.g_l_whole T.F_l_whole.kp T.b_l_whole .nil pass0 (pa_cons (pv 4) pa_nil)))) (pw_or1 (pt_not (pt_chain op_le op_le (pv 5) (pv 4) (pv 6)))))) (pss_one (ps_ret pe_bl)) pss_nil))))))
        (pss_one (ps_ret (pe_or (pe_cmpR op_eq (pe_ix ix_tup (pv 1) pe_int (fun _ _ => rfl)) pe_str (nomark _)) (pe_one (pe_cmpR op_le (pe_ix ix_tup (pv 1) (pe_un un_neg pe_int) (fun _ _ => rfl)) (pe_ix ix_tup (pv 1) (pe_un un_neg pe_int) (fun _ _ => rfl)) (nomark _)))))))))), ?_⟩
    refine fun p np => ⟨upd_same, formsV, rfl, by decide, ?_⟩
    have em : mergeK [] formsV = formsV := rfl
    rw [em, upd_upd]
    have s1 : Same H (upd H p (.dK formsV)) := same_upd np
    have hp1 : (upd H p (.dK formsV)) p = some (.dK formsV) := upd_same
    generalize upd H p (.dK formsV) = H1 at s1 hp1 ⊢
    have hd1 := hd.same s1
    refine ⟨_, rfl, _, _, _, _, _, rfl, .ty "tuple", hd1.ty, isi_kit hd1 n_tuple, _, rfl, ?_⟩
    cases hd1 with
    | @tup a xs ds ha hds =>
      refine iteF ⟨_, rfl, Nat.zero_le _, fun e ne => ?_⟩
      have s2 : Same H (upd H1 e (.tup [])) := same_mut s1 (s1.free ne)
      have s12 : Same H1 (upd H1 e (.tup [])) := same_upd ne
      refine ⟨.tuple ds, .tuple [], (Dq.tup (s12 _ _ ha) (hds.same s12)).dp, .tup (SqT.of upd_same) .nil, hsh.shaped, rfl, _, rfl, ite2 (fun z => iteT ?_) (fun z => ?_)⟩
      · refine q false _ s2 (ff ?_)
        rw [eqv_nil.mp z]
        rintro ⟨r, er, _⟩
        cases r <;> cases er
      have ha2 := s12 _ _ ha
      have hp2 := s12 _ _ hp1
      have hds2 := hds.same s12
      generalize upd H1 e (.tup []) = H2 at s2 ha2 hp2 hds2 ⊢
      cases hds2 with
      | nil => exact absurd (eqv_nil.mpr rfl) z
      | @cons v0 vs d0 rest hd0 hrest =>
        refine ⟨_, rfl, a, _, 0, _, rfl, rfl, SqT.of ha2, at_head, _, _, _, _, _, rfl, .ty "str", hd0.ty, isi_kit hd0 n_str, _, rfl, ?_⟩
        cases hd0 with
        | str w =>
          refine iteF ⟨_, rfl, a, _, 0, _, rfl, rfl, SqT.of ha2, at_head, _, rfl, p, _, rfl, DGet.k (k := Sum.inr w) hp2, _, rfl, ?_⟩
          by_cases h3 : Is3 w
          · rw [formsV_at h3]
            refine iteF ?_
            refine ⟨_, rfl, a, _, rfl, .inr (SqT.of ha2), _, rfl, _, rfl, a, _, 0, _, rfl, rfl, SqT.of ha2, at_head, p, .str (SX.S (formL w)), rfl, ?_, _, rfl, ?_, _, _, rfl, rfl, rfl, _, rfl, ?_⟩
            · have e := DGet.k (k := Sum.inr w) hp2
              rw [formsV_at h3] at e
              exact e
            · rw [SX.S_len]
              exact Nat.le_trans (show _ ≤ 6 by rcases h3 with rfl | rfl | rfl <;> first | (rw [formL_ask]; decide) | (rw [formL_job]; decide) | (rw [formL_all]; decide)) (by decide)
            rw [SX.S_len]
            refine ite2 (fun z2 => ?_) (fun z2 => ?_)
            · refine q false _ s2 (ff ?_)
              rintro ⟨r, er, _⟩
              have e1 := PyData.tuple.inj er
              have e2 := row_len r
              rw [← e1, row_word e1, List.length_cons] at e2
              have l1 := hrest.len
              have e3 : ((.str w :: vs : List V).length : Int) = 1 + ((formL w).length : Int) := by
                rw [List.length_cons]
                omega
              rw [e3, decide_eq_true rfl] at z2
              cases z2
            have hlen : vs.length = (formL w).length := by
              have e3 : decide (V.int ((.str w :: vs : List V).length : Int) = V.int (1 + ((formL w).length : Int))) = true := by
                cases e4 : decide (V.int ((.str w :: vs : List V).length : Int) = V.int (1 + ((formL w).length : Int))) with
                | true => rfl
                | false => exact absurd (by rw [e4]; rfl) z2
              have e5 := V.int.inj (of_decide_eq_true e3)
              rw [List.length_cons] at e5
              omega
            -- for sort, part in zip(..)
            refine ⟨_, rfl, _, rfl, a, _, 0, _, rfl, rfl, SqT.of ha2, at_head, p, .str (SX.S (formL w)), rfl, ?_, _, rfl, 1, rfl, a, _, rfl, SqT.of ha2, fun hw => ?_, fun _ b nb => ?_⟩
            · have e := DGet.k (k := Sum.inr w) hp2
              rw [formsV_at h3] at e
              exact e
            · exact (not_whole hw.1).elim
            rw [cut_tail]
            have s3 : Same H (upd H2 b (.tup vs)) := same_mut s2 (s2.free nb)
            have s23 : Same H2 (upd H2 b (.tup vs)) := same_upd nb
            have hb3 : (upd H2 b (.tup vs)) b = some (.tup vs) := upd_same
            have ha3 := s23 _ _ ha2
            have hrest3 := hrest.same s23
            generalize upd H2 b (.tup vs) = H3 at s3 hb3 ha3 hrest3 ⊢
            refine ⟨_, b, _, rfl, SqT.of hb3, for_it (Zs.walk_zs (K := K) (x := SX.S (formL w)) (b := b) (ys := vs) (by simp [hlen])) (fun i σ H' => (∃ v3 v4 v5 v6 : Option V, σ = [some (.ref t), some (.ref a), some (.ref p), v3, v4, v5, v6]) ∧ Same H3 H' ∧ ∀ (j c : Nat) (d : PyData), j < i → (formL w)[j]? = some c → rest[j]? = some d → okP hs c d)
              ⟨⟨none, none, none, none, rfl⟩, Same.refl _, fun j _ _ hj => absurd hj (Nat.not_lt_zero j)⟩ (fun i σ H' _ h => SqT.of (h.2.1 _ _ hb3)) ?_ ?_⟩
            · rintro i pv σ H4 H5 hi ⟨⟨v3, v4, v5, v6, rfl⟩, s4, hj⟩ ⟨Tp, c, y, rfl, nT, rfl, hc, hy⟩
              have hcL : (formL w)[i]? = some c := by
                rw [← hc]
                exact (Array.getElem?_toList (xs := (SX.S (formL w)).cps)).symm ▸ rfl
              have hc4 := formL_mem h3 c (List.mem_of_getElem? hcL)
              have hir : i < rest.length := by rw [← hrest.len]; exact hi
              obtain ⟨y', hy', hdy⟩ := hrest3.get (List.getElem?_eq_getElem hir)
              obtain rfl : y' = y := Option.some.inj (hy'.symm.trans hy)
              generalize hdy0 : rest[i] = dy at hdy
              have hri : rest[i]? = some dy := by rw [List.getElem?_eq_getElem hir, hdy0]
              have shy : Sh dy := hsh.items dy (List.mem_cons_of_mem _ (List.mem_of_getElem? hri))
              -- what a wrong part says
              have bad : ¬ okP hs c dy → ¬ IsRowD hs (.tuple (.str w :: rest)) := fun hno ⟨r, er, hin, hb⟩ => by
                have e1 := PyData.tuple.inj er
                have e2 := row_word e1
                refine hno (row_okP hin hb i c dy (by rw [e2]; exact hcL) ?_)
                rw [← e1]
                exact hri
              have good : okP hs c dy → ∀ (j c' : Nat) (d : PyData), j < i + 1 → (formL w)[j]? = some c' → rest[j]? = some d → okP hs c' d := fun hyes j c' d hji e1 e2 => by
                by_cases e : j = i
                · subst e
                  obtain rfl : c = c' := Option.some.inj (hcL.symm.trans e1)
                  obtain rfl : dy = d := Option.some.inj (hri.symm.trans e2)
                  exact hyes
                · exact hj j c' d (by omega) e1 e2
              have s5 : Same H3 (upd H4 Tp (.tup [.str ⟨#[c]⟩, y'])) := same_mut s4 (s4.free nT)
              refine ⟨Tp, _, rfl, SqT.of upd_same, rfl, _, _, rfl, _, _, rfl, rfl, ?_⟩
              generalize upd H4 Tp (.tup [.str ⟨#[c]⟩, y']) = H5 at s5 ⊢
              have s35 : Same H H5 := s3.trans s5
              have hdy5 := hdy.same s5
              obtain ⟨th, tg, t1, t2, t3⟩ := ht.same' s35
              refine ⟨_, rfl, rfl, _, rfl, ?_⟩
              rw [show decide (V.str ⟨#[c]⟩ = V.str (Str.ofString "h")) = decide (c = 104) from sgn_eq c 104]
              refine ite2 (fun z4 => ?_) (fun z4 => ?_)
              · have ec : c = 104 := of_decide_eq_true z4
                have okh : okP hs c dy ↔ ∃ h ∈ hs, dy = .str h := by unfold okP; rw [if_pos ec]
                refine ⟨_, rfl, _, _, _, _, _, rfl, .ty "str", hdy5.ty, isi_kit hdy5 n_str, _, rfl, ?_⟩
                cases e5 : isB dy "str" with
                | false =>
                  refine iteT (iteT (q false _ s35 (ff (bad fun hy2 => ?_))))
                  obtain ⟨h, _, rfl⟩ := okh.mp hy2
                  exact absurd e5 (by simp [isB])
                | true =>
                  refine iteF ⟨_, rfl, _, rfl, t, _, 0, _, rfl, rfl, SqT.of t1, rfl, dy, _, hdy5.dp, dp_tup_strs t2, shy.shaped, shaped_tup_strs hok, _, rfl, ite2 (fun z6 => ?_) (fun z6 => ?_)⟩
                  · refine q false _ s35 (ff (bad fun hy2 => ?_))
                    rw [any_strs.mpr (okh.mp hy2)] at z6
                    cases z6
                  · refine ⟨⟨_, _, _, _, rfl⟩, s5, good (okh.mpr (any_strs.mp ?_))⟩
                    cases e7 : ((hs.map PyData.str).any fun z => PyData.eqv z dy) with
                    | true => rfl
                    | false => exact absurd (by rw [e7]; rfl) z6
              · have ec : ¬ c = 104 := fun e => z4 (decide_eq_true e)
                have hc3 : c = 110 ∨ c = 116 ∨ c = 99 := by omega
                have okn : okP hs c dy ↔ InI (loC c) (hiC c) dy := by unfold okP; rw [if_neg ec]
                refine fun pd npd => ?_
                refine ⟨(by show 2 ≤ sizeLine; decide), fun tn ntn => ?_⟩
                refine ⟨_, _, rfl, rfl, ⟨by decide, by decide, by decide⟩, _, _, rfl, rfl, _, _, rfl, rfl, ⟨by decide, by decide, by decide⟩, (by show 2 ≤ sizeLine; decide), fun tm ntm => ?_⟩
                refine ⟨(by show 2 ≤ sizeLine; decide), fun tc ntc => ?_⟩
                have e12 : (10 : Int) ^ (12 : Int).toNat = 1000000000000 := by decide
                dsimp only at ntc ⊢
                simp only [e12] at ntc ⊢
                have m1 : Same H5 (upd H5 pd (.dK [])) := same_upd npd
                have m2 := same_mut (o := .tup [.int 0, .int 14]) m1 (m1.free ntn)
                have m3 := same_mut (o := .tup [.int (0 - 1000000000000), .int 1000000000000]) m2 (m2.free ntm)
                have m4 := same_mut (o := .tup [.int 0, .int 15]) m3 (m3.free ntc)
                have p1 : (upd H5 pd (.dK [])) pd = some (.dK []) := upd_same
                have p2 := same_upd (o := .tup [.int 0, .int 14]) ntn _ _ p1
                have p3 := same_upd (o := .tup [.int (0 - 1000000000000), .int 1000000000000]) ntm _ _ p2
                have p4 := same_upd (o := .tup [.int 0, .int 15]) ntc _ _ p3
                have n2 := same_upd (o := .tup [.int (0 - 1000000000000), .int 1000000000000]) ntm tn _ upd_same
                have n3 := same_upd (o := .tup [.int 0, .int 15]) ntc tn _ n2
                have k3 := same_upd (o := .tup [.int 0, .int 15]) ntc tm _ upd_same
                have c3 : (upd (upd (upd (upd H5 pd (.dK [])) tn (.tup [.int 0, .int 14])) tm (.tup [.int (0 - 1000000000000), .int 1000000000000])) tc (.tup [.int 0, .int 15])) tc = some (.tup [.int 0, .int 15]) := upd_same
                generalize upd (upd (upd (upd H5 pd (.dK [])) tn (.tup [.int 0, .int 14])) tm (.tup [.int (0 - 1000000000000), .int 1000000000000])) tc (.tup [.int 0, .int 15]) = G at m4 p4 n3 k3 c3 ⊢
                have s6 : Same H3 (upd G pd (.dK (boundsV tn tm tc))) := same_mut (s5.trans m4) (s5.free npd)
                have tX : ∃ x : Addr, valV (boundsV tn tm tc) (Sum.inr ⟨#[c]⟩) = some (.ref x) ∧ (upd G pd (.dK (boundsV tn tm tc))) x = some (.tup [.int (loC c), .int (hiC c)]) := by
                  have ne : ∀ {x : Addr} {xs : List V}, G x = some (.tup xs) → (upd G pd (.dK (boundsV tn tm tc))) x = some (.tup xs) := fun {x xs} hx => by
                    rw [upd_ne (ne_of hx p4 fun z => nomatch z)]
                    exact hx
                  rcases hc3 with rfl | rfl | rfl
                  · exact ⟨tn, rfl, ne n3⟩
                  · exact ⟨tm, rfl, ne k3⟩
                  · exact ⟨tc, rfl, ne c3⟩
                obtain ⟨x, hx1, hx2⟩ := tX
                refine ⟨p4, boundsV tn tm tc, rfl, (by show 3 ≤ 15; decide), _, rfl, pd, .ref x, rfl, ?_, ?_⟩
                · have e := DGet.k (H := upd G pd (.dK (boundsV tn tm tc))) (k := Sum.inr ⟨#[c]⟩) upd_same
                  rw [hx1] at e
                  exact e
                refine ⟨x, _, rfl, SqT.of hx2, rfl, _, _, rfl, _, _, rfl, rfl, ?_⟩
                have em2 : mergeK [] (boundsV tn tm tc) = boundsV tn tm tc := rfl
                rw [em2]
                generalize upd G pd (.dK (boundsV tn tm tc)) = G2 at s6 ⊢
                have s36 : Same H G2 := s3.trans s6
                have hdy6 := hdy.same s6
                refine ⟨_, rfl, Ex, y', dy, rfl, hdy6, fun r hr1 => ⟨r, rfl, ?_⟩⟩
                cases r with
                | false =>
                  refine iteT (iteT (q false _ s36 (ff (bad fun hy2 => ?_))))
                  obtain ⟨i2, e2, _⟩ := okn.mp hy2
                  exact Bool.noConfusion (hr1.mpr ⟨i2, e2⟩)
                | true =>
                  obtain ⟨i2, rfl⟩ := hr1.mp rfl
                  cases hdy6
                  refine iteF ⟨_, rfl, _, rfl, _, _, rfl, rfl, _, rfl, ite2 (fun z6 => ?_) (fun z6 => ?_)⟩
                  · have z7 := of_decide_eq_true z6
                    refine ⟨_, rfl, _, _, rfl, rfl, _, rfl, ?_⟩
                    cases e8 : decide (i2 ≤ hiC c) with
                    | true =>
                      have z8 := of_decide_eq_true e8
                      exact iteF ⟨⟨_, _, _, _, rfl⟩, s6, good (okn.mpr ⟨i2, rfl, z7, z8⟩)⟩
                    | false =>
                      have z8 := of_decide_eq_false e8
                      refine iteT (q false _ s36 (ff (bad fun hy2 => ?_)))
                      obtain ⟨i3, e3, _, h3⟩ := okn.mp hy2
                      obtain rfl := PyData.int.inj e3
                      exact z8 h3
                  · refine ⟨_, rfl, ?_⟩
                    refine iteT (q false _ s36 (ff (bad fun hy2 => z6 ?_)))
                    obtain ⟨i3, e3, h3, _⟩ := okn.mp hy2
                    obtain rfl := PyData.int.inj e3
                    exact decide_eq_true h3
            · rintro σ H4 ⟨⟨v3, v4, v5, v6, rfl⟩, s4, hj⟩
              have s34 : Same H H4 := s3.trans s4
              have ha4 := s4 _ _ ha3
              have hl2 : rest.length = (formL w).length := by rw [← hrest.len]; exact hlen
              have fin := okP_row h3 hl2 fun j c d e1 e2 => hj j c d (by
                have := (List.getElem?_eq_some_iff.mp e2).1
                rw [hrest.len]
                exact this) e1 e2
              refine ⟨_, rfl, a, _, 0, _, rfl, rfl, SqT.of ha4, at_head, rfl, _, rfl, ite2 (fun z5 => ?_) (fun z5 => ?_)⟩
              · have ew := V.str.inj (of_decide_eq_true z5)
                rcases fin with ⟨_, hy⟩ | ⟨hn, _⟩
                · exact q true _ s34 (tt hy)
                · exact absurd ew hn
              · rcases fin with ⟨e, _⟩ | ⟨_, o, b2, ini, er, hiff⟩
                · exact absurd (decide_eq_true (congrArg V.str e)) z5
                · subst er
                  obtain ⟨us, rfl⟩ := hrest.last2
                  refine ⟨_, rfl, 2, rfl, a, _, -2, .int o, rfl, rfl, SqT.of ha4, (at_last2 (xs := .str w :: us)), _, rfl, 1, rfl, a, _, -1, .int b2, rfl, rfl, SqT.of ha4, (at_last1 (xs := .str w :: us)), _, _, rfl, rfl, q _ _ s34 ?_⟩
                  rw [decide_eq_true_eq]
                  exact hiff.symm
          · rw [formsV_no h3]
            exact iteT (q false _ s2 (ff (not_row_word h3)))
        | _ =>
          refine iteT (iteT (q false _ s2 (ff ?_)))
          rintro ⟨r, er, _⟩
          cases r <;> cases er
    | _ =>
      refine iteT (iteT (q false _ s1 (ff fun ⟨x, e, _⟩ => nomatch e)))
/-! ### how long data is when it is written -/
mutual
def szD : PyData → Nat
  | .none => 4
  | .bool _ => 5
  | .int i => (Str.ofString (toString i)).length
  | .str x => (reprText x).length
  | .list xs => 4 + szDs xs
  | .tuple xs => 4 + szDs xs
  | .dict _ => 0
def szDs : List PyData → Nat
  | [] => 0
  | x :: xs => szD x + 2 + szDs xs
end
structure Th (k n : Nat) (d : PyData) : Prop where
  lay : d.canLay0 = true
  dep : d.depth ≤ k
  shw : d.showable = true
  sz : szD d ≤ n
theorem Th.sh {k n : Nat} {d : PyData} (h : Th k n d) (hk : k ≤ 60) : Sh d := ⟨h.lay, Nat.le_trans h.dep hk⟩
theorem Th.mono {k n k' n' : Nat} {d : PyData} (h : Th k n d) (hk : k ≤ k') (hn : n ≤ n') : Th k' n' d := ⟨h.lay, Nat.le_trans h.dep hk, h.shw, Nat.le_trans h.sz hn⟩
theorem th_all {k n : Nat} : ∀ {ds : List PyData}, (∀ d ∈ ds, Th k n d) → PyData.canLayAll0 ds = true ∧ PyData.depthAll ds ≤ k ∧ PyData.showableAll ds = true ∧ szDs ds ≤ ds.length * (n + 2)
  | [], _ => ⟨rfl, Nat.zero_le _, rfl, Nat.zero_le _⟩
  | x :: xs, h => by
    obtain ⟨h1, h2, h3, h4⟩ := th_all (ds := xs) fun d m => h d (List.mem_cons_of_mem _ m)
    have hx := h x List.mem_cons_self
    refine ⟨?_, ?_, ?_, ?_⟩
    · show (x.canLay0 && PyData.canLayAll0 xs) = true
      rw [hx.lay, h1]; rfl
    · show max x.depth (PyData.depthAll xs) ≤ k
      exact Nat.max_le.mpr ⟨hx.dep, h2⟩
    · show (x.showable && PyData.showableAll xs) = true
      rw [hx.shw, h3]; rfl
    · show szD x + 2 + szDs xs ≤ (xs.length + 1) * (n + 2)
      have := hx.sz
      rw [Nat.add_mul, Nat.one_mul]
      omega
theorem th_tup {k n m : Nat} {ds : List PyData} (h : ∀ d ∈ ds, Th k n d) (hm : ds.length ≤ m) : Th (k + 1) (4 + m * (n + 2)) (.tuple ds) := by
  obtain ⟨h1, h2, h3, h4⟩ := th_all h
  refine ⟨h1, Nat.succ_le_succ h2, h3, ?_⟩
  show 4 + szDs ds ≤ _
  exact Nat.add_le_add_left (Nat.le_trans h4 (Nat.mul_le_mul_right _ hm)) _
theorem th_lst {k n m : Nat} {ds : List PyData} (h : ∀ d ∈ ds, Th k n d) (hm : ds.length ≤ m) : Th (k + 1) (4 + m * (n + 2)) (.list ds) := by
  obtain ⟨h1, h2, h3, h4⟩ := th_all h
  refine ⟨h1, Nat.succ_le_succ h2, h3, ?_⟩
  show 4 + szDs ds ≤ _
  exact Nat.add_le_add_left (Nat.le_trans h4 (Nat.mul_le_mul_right _ hm)) _
theorem th_int {i : Int} (h : i.natAbs < 10 ^ 20) : Th 0 100 (.int i) := by
  refine ⟨rfl, Nat.le_refl _, ?_, ?_⟩
  · refine decide_eq_true ?_
    have h2 : i.natAbs < 2 ^ 1900 := Nat.lt_trans h (by decide +kernel)
    exact Nat.lt_of_lt_of_le (PySem.Flt.log2_lt_of (by decide) h2) (by decide)
  · have e := int_text_length_le10 (a := i) (k := 20) (by decide) h
    show (Str.ofString (toString i)).length ≤ 100
    rw [PySem.ofString_length]
    omega
theorem th_str {x : Str} (h : PyData.strOk x = true) (hl : x.length ≤ 9) : Th 0 100 (.str x) := by
  refine ⟨h, Nat.le_refl _, rfl, ?_⟩
  have e := StrLaws.reprText_len x fun c hc => by
    unfold PyData.strOk at h
    rw [← Array.all_toList, List.all_eq_true] at h
    have := of_decide_eq_true (h c hc)
    exact Nat.lt_trans this (by decide)
  show (reprText x).length ≤ 100
  omega
theorem th_non : Th 0 100 .none := ⟨rfl, Nat.le_refl _, rfl, by show 4 ≤ 100; decide⟩
theorem th_bl (b : Bool) : Th 0 100 (.bool b) := ⟨rfl, Nat.le_refl _, rfl, by show 5 ≤ 100; decide⟩
theorem HouseS.len {h : Str} (x : HouseS h) : h.length ≤ 8 := by
  have e : h.length = h.cps.toList.length := by simp [Str.length]
  rw [e]
  exact x.2.1
theorem Dq.stp {Ex : Addr → Prop} {p c : Addr} {H H' : Hp} {v : V} {d : PyData} (h : Dq Ex H v d) (hp : Ex p) (hP : Pen H p c) (s : Stp p c H H') : Dq Ex H' v d :=
  h.go (fun _ a b => absurd a b) (fun a xs n e => s.2 a _ (fun z => n (z ▸ hp)) e) (fun a xs e => s.tup hP e)
theorem Dqs.stp {Ex : Addr → Prop} {p c : Addr} {H H' : Hp} {v : List V} {d : List PyData} (h : Dqs Ex H v d) (hp : Ex p) (hP : Pen H p c) (s : Stp p c H H') : Dqs Ex H' v d :=
  h.go (fun _ a b => absurd a b) (fun a xs n e => s.2 a _ (fun z => n (z ▸ hp)) e) (fun a xs e => s.tup hP e)
theorem cut_from (xs : List V) (n : Nat) : cutV xs (some (n : Int)) none = xs.drop n := by
  unfold cutV
  rw [HT.sIx_nat, HT.sIx_none]
  by_cases h : n ≤ xs.length
  · rw [Nat.min_eq_left h, List.take_of_length_le (by rw [List.length_drop]; omega)]
  · rw [Nat.min_eq_right (by omega), List.drop_length, List.drop_of_length_le (by omega), List.take_nil]
theorem cut_but2 (xs : List V) (h : 2 ≤ xs.length) : cutV xs none (some (-2)) = xs.take (xs.length - 2) := by
  unfold cutV
  rw [HT.sIx_none, List.drop_zero, Nat.sub_zero]
  have e : HT.sIx xs.length xs.length (some (-2)) = xs.length - 2 := by
    show (if (-2 : Int) < 0 then ((-2 : Int) + (xs.length : Int)).toNat else min (-2 : Int).toNat xs.length) = xs.length - 2
    rw [if_pos (by decide)]
    omega
  rw [e]
theorem cut_whole {xs : List V} {lo hi : Option Int} (h : HT.sIx xs.length 0 lo = 0 ∧ HT.sIx xs.length xs.length hi = xs.length) : cutV xs lo hi = xs := by
  unfold cutV
  rw [h.1, h.2, List.drop_zero, Nat.sub_zero, List.take_length]
/-! a slice, a sum of tuples, told alike whether they are new or not -/
theorem slA_of {K : PySem.W.Frag} {p c a : Addr} {H0 H : Hp} {xs : List V} {lo hi : Option Int} {Q : VK} (hP : Pen H0 p c) (s : Stp p c H0 H) (ha : H a = some (.tup xs)) (q : ∀ b H', Stp p c H0 H' → Stp p c H H' → H' b = some (.tup (cutV xs lo hi)) → Q (.ref b) H') : rSlA K (.ref a) lo hi H Q := by
  refine ⟨a, xs, rfl, SqT.of ha, fun h => q a H s (Stp.refl s.1) (by rw [cut_whole h]; exact ha), fun _ b nb => q b _ (s.new hP nb) ((Stp.refl s.1).new s.1 nb) upd_same⟩
theorem catA_of {K : PySem.W.Frag} {p c a b : Addr} {H0 H : Hp} {xs ys : List V} {Q : VK} (hP : Pen H0 p c) (s : Stp p c H0 H) (ha : H a = some (.tup xs)) (hb : H b = some (.tup ys)) (hl : xs.length + ys.length ≤ 1000) (q : ∀ e H', Stp p c H0 H' → Stp p c H H' → H' e = some (.tup (xs ++ ys)) → Q (.ref e) H') : rCatA K (.ref a) (.ref b) H Q := by
  refine ⟨a, b, xs, ys, rfl, rfl, SqT.of ha, SqT.of hb, Nat.le_trans hl (by decide), fun h => q b H s (Stp.refl s.1) (by rw [h]; exact hb), fun _ h => q a H s (Stp.refl s.1) (by rw [h, List.append_nil]; exact ha), fun _ _ e ne => q e _ (s.new hP ne) ((Stp.refl s.1).new s.1 ne) upd_same⟩
theorem row_th {hs : List Str} (hh : ∀ h ∈ hs, HouseS h) {r : Row} (w : r.Wf) (i : r.In hs) : ∀ d ∈ r.data, Th 0 100 d := by
  have num : ∀ k : Int, NumI k → Th 0 100 (.int k) := fun k h => th_int (Nat.lt_of_le_of_lt (show k.natAbs ≤ 14 by have := h.1; have := h.2; omega) (by decide))
  have cnt : ∀ k : Int, CntI k → Th 0 100 (.int k) := fun k h => th_int (Nat.lt_of_le_of_lt (show k.natAbs ≤ 15 by have := h.1; have := h.2; omega) (by decide))
  have tim : ∀ k : Int, TimeI k → Th 0 100 (.int k) := fun k h => th_int (Nat.lt_of_le_of_lt (show k.natAbs ≤ 1000000000000 by have := h.1; have := h.2; omega) (by decide))
  have hou : ∀ h : Str, h ∈ hs → Th 0 100 (.str h) := fun h m => th_str (hh h m).ok (Nat.le_succ_of_le (hh h m).len)
  intro d hd
  cases r with
  | ask h g k n o b =>
    simp only [Row.data, List.mem_cons, List.not_mem_nil, or_false] at hd
    rcases hd with rfl | rfl | rfl | rfl | rfl | rfl | rfl
    · exact th_str (by decide +kernel) (by decide +kernel)
    · exact hou h i.1
    · exact num k w.2.2.1
    · exact num n w.2.2.2.1
    · exact hou g i.2
    · exact tim o w.2.2.2.2.1
    · exact tim b w.2.2.2.2.2.1
  | job h k o b =>
    simp only [Row.data, List.mem_cons, List.not_mem_nil, or_false] at hd
    rcases hd with rfl | rfl | rfl | rfl | rfl
    · exact th_str (by decide +kernel) (by decide +kernel)
    · exact hou h i
    · exact num k w.2.1
    · exact tim o w.2.2.1
    · exact tim b w.2.2.2.1
  | all h a j =>
    simp only [Row.data, List.mem_cons, List.not_mem_nil, or_false] at hd
    rcases hd with rfl | rfl | rfl | rfl
    · exact th_str (by decide +kernel) (by decide +kernel)
    · exact hou h i
    · exact cnt a w.2.1
    · exact cnt j w.2.2
theorem word_ok (r : Row) : PyData.strOk r.word = true := by
  cases r
  · exact (by decide +kernel : PyData.strOk (Str.ofString "ask") = true)
  · exact (by decide +kernel : PyData.strOk (Str.ofString "job") = true)
  · exact (by decide +kernel : PyData.strOk (Str.ofString "all") = true)
theorem dqs_row {Ex : Addr → Prop} {H : Hp} (r : Row) : Dqs Ex H r.vals r.data := by
  cases r with
  | ask h g k n o b => exact .cons (.str _) (.cons (.str _) (.cons (.int _) (.cons (.int _) (.cons (.str _) (.cons (.int _) (.cons (.int _) .nil))))))
  | job h k o b => exact .cons (.str _) (.cons (.str _) (.cons (.int _) (.cons (.int _) (.cons (.int _) .nil))))
  | all h a j => exact .cons (.str _) (.cons (.str _) (.cons (.int _) (.cons (.int _) .nil)))
theorem row_len7 (r : Row) : 4 ≤ r.data.length ∧ r.data.length ≤ 7 := by
  cases r
  · exact ⟨(by decide : 4 ≤ 7), (by decide : 7 ≤ 7)⟩
  · exact ⟨(by decide : 4 ≤ 5), (by decide : 5 ≤ 7)⟩
  · exact ⟨(by decide : 4 ≤ 4), (by decide : 4 ≤ 7)⟩
theorem vals_len (r : Row) : r.vals.length = r.data.length := by unfold Row.vals; rw [List.length_map]
def sp_l_no_row : Sp := fun vs H Q _ => ∃ (p c t : Addr) (hs gs : List Str), vs = [.ref p, .ref t] ∧ Pen H p c ∧ TownAt H t hs gs ∧ 1 ≤ hs.length ∧ hs.length ≤ 6 ∧ (∀ h ∈ hs, HouseS h) ∧
  ∀ (v : V) (d : PyData) (H' : Hp), Stp p c H H' → Dq (fun a => H a ≠ none) H' v d → Th 3 3000 d → Q v H'
/-! ### the refusals are made -/
def sp_init1 (C : Addr) (f : Str) : Sp := fun vs H Q _ => ∃ (a : Addr) (v : V), vs = [.ref a, v] ∧ H a = some (exo a C none) ∧ ∀ dx, H dx = none → dx ≠ a → Q .non (upd (upd H dx (exd dx [(f, v)])) a (exo a C (some dx)))
def sp_init2 (C : Addr) (f g : Str) : Sp := fun vs H Q _ => ∃ (a : Addr) (v u : V), vs = [.ref a, v, u] ∧ H a = some (exo a C none) ∧ ∀ dx, H dx = none → dx ≠ a → Q .non (upd (upd (upd H dx (exd dx [(f, v)])) a (exo a C (some dx))) dx (exd dx [(g, u), (f, v)]))
theorem ok_init_NoRow (T : Txt K mg af fd) : FnOk P w K mg base CX0 1 (af 60) (fd 60) ["self", "number"] (sp_init1 (af 59) "number") := by
  refine T.e_NoRow.F.ok sc_init_NoRow (fun vs H Q E h => ?_) (fun cdv A outer s H vs Q E hr h => ?_)
  · obtain ⟨a, v, rfl, _⟩ := h
    rfl
  · obtain ⟨a, v, rfl, ha, q⟩ := h
    refine ⟨_, (pss_one (ps_ost (pv 0) (pv 1))), ?_⟩
    exact ⟨_, rfl, _, rfl, a, _, rfl, T.e_NoRow.T, T.e_NoRow.no _ List.mem_cons_self, .inl ⟨ha, q⟩⟩
theorem ok_init_Clash (T : Txt K mg af fd) : FnOk P w K mg base CX0 1 (af 62) (fd 62) ["self", "first", "second"] (sp_init2 (af 61) "first" "second") := by
  refine T.e_Clash.F.ok sc_init_Clash (fun vs H Q E h => ?_) (fun cdv A outer s H vs Q E hr h => ?_)
  · obtain ⟨a, v, u, rfl, _⟩ := h
    rfl
  · obtain ⟨a, v, u, rfl, ha, q⟩ := h
    refine ⟨_, (pss_cons (ps_ost (pv 0) (pv 1))
        (pss_one (ps_ost (pv 0) (pv 2)))), ?_⟩
    refine ⟨_, rfl, _, rfl, a, _, rfl, T.e_Clash.T, T.e_Clash.no _ List.mem_cons_self, .inl ⟨ha, fun dx nd ne => ?_⟩⟩
    refine ⟨_, rfl, _, rfl, a, _, rfl, T.e_Clash.T, T.e_Clash.no _ (List.mem_cons_of_mem _ List.mem_cons_self), .inr ⟨dx, _, upd_same, ?_, (by show 1 ≤ 900; decide), q dx nd ne⟩⟩
    rw [upd_ne ne, upd_same]
/-! the heap behind a raise: all that stood stands, the fields at d -/
theorem raised1 {H : Hp} {a d : Addr} {o1 o2 o3 : HO} {fs : List (Str × V)} (na : H a = none) (nd : (upd H a o1) d = none) : Same H (upd (del (upd (upd (upd H a o1) d o2) a o3) a) d (.xd fs)) := fun b o e => by
  have nd0 : H d = none := (same_upd na).free nd
  rw [upd_ne (ne_of_none e nd0), del_ne (ne_of_none e na), upd_ne (ne_of_none e na), upd_ne (ne_of_none e nd0), upd_ne (ne_of_none e na)]
  exact e
theorem raised2 {H : Hp} {a d : Addr} {o1 o2 o3 o4 : HO} {fs : List (Str × V)} (na : H a = none) (nd : (upd H a o1) d = none) : Same H (upd (del (upd (upd (upd (upd H a o1) d o2) a o3) d o4) a) d (.xd fs)) := fun b o e => by
  have nd0 : H d = none := (same_upd na).free nd
  rw [upd_ne (ne_of_none e nd0), del_ne (ne_of_none e na), upd_ne (ne_of_none e nd0), upd_ne (ne_of_none e na), upd_ne (ne_of_none e nd0), upd_ne (ne_of_none e na)]
  exact e
/-! ### rows, or the first that is none -/
def RowsD (hs : List Str) (ds : List PyData) (n : Nat) : Prop := ∀ (j : Nat) (d : PyData), j < n → ds[j]? = some d → IsRowD hs d
def Thing (Ex : Addr → Prop) (H : Hp) (vs : List V) (ds : List PyData) : Prop := Dqs Ex H vs ds ∧ ∀ d ∈ ds, Sh d
def sp_need_rows (C : Addr) : Sp := fun vs H Q E => ∃ (Ex : Addr → Prop) (t l : Addr) (hs gs : List Str) (xs : List V) (ds : List PyData), vs = [.ref t, .ref l] ∧ TownAt H t hs gs ∧ (∀ h ∈ hs, PyData.strOk h = true) ∧ H l = some (.lst xs) ∧ Thing Ex H xs ds ∧
  (∀ H', Same H H' → RowsD hs ds ds.length → Q .non H') ∧
  ∀ (i : Nat) (dv : PyData) (d : Addr) (H' : Hp), RowsD hs ds i → ds[i]? = some dv → ¬ IsRowD hs dv → Same H H' → H' d = some (.xd [("number", .int (i : Nat))]) → E (.ref C) (some d) H'
theorem ok_need_rows (T : Txt K mg af fd) : FnOk P w K mg base (L2.CX P w) 6 (af 20) (fd 20) ["town", "rows"] (sp_need_rows (af 59)) := by
  refine T.F_need_rows.okX sc_need_rows (fun vs H Q E h => ?_) (fun cdv A outer s H vs Q E hr h => ?_)
  · obtain ⟨Ex, t, l, hs, gs, xs, ds, rfl, _⟩ := h
    rfl
  · obtain ⟨Ex, t, l, hs, gs, xs, ds, rfl, ht, hok, hl, ⟨hds, hsh⟩, qQ, qE⟩ := h
    refine ⟨_, (pss_one (ps_for (passes_of rfl) rfl (pi_enum (by rfl) T.m_enumerate (pa_cons (pv 1) pa_nil)) (pg_tup rfl (pgs_cons (pg_name (i := 2) sc_need_rows.nd rfl (by first | exact Or.inl rfl | exact Or.inr rfl)) (pgs_cons (pg_name (i := 3) sc_need_rows.nd rfl (by first | exact Or.inl rfl | exact Or.inr rfl)) pgs_nil))) (pss_one (ps_if (pt_not (pt_val (pe_call (ok_is_row T) (hr.mono (by first | decide | omega)) (by rfl) T.g_is_row T.F_is_row.kp T.b_is_row .nil pass0 (pa_cons (pv 0) (pa_cons (pv 3) pa_nil))))) (pss_one (ps_raise rfl (takes_of rfl rfl rfl rfl) (pmk_oex T.e_NoRow.T T.e_NoRow.iC T.e_NoRow.tI (ok_init_NoRow T) (hr.mono (by decide)) T.e_NoRow.b .nil pass0 (by rfl) T.e_NoRow.g (pa_cons (pv 2) pa_nil)))) pss_nil)))), ?_⟩
    refine ⟨_, rfl, l, _, rfl, SqL.of hl, for_it (walk_enum (K := K) (a := l) (xs := xs)) (fun i σ H' => (∃ v2 v3 : Option V, σ = [some (.ref t), some (.ref l), v2, v3]) ∧ Same H H' ∧ RowsD hs ds i)
      ⟨⟨none, none, rfl⟩, Same.refl _, fun j d hj => absurd hj (Nat.not_lt_zero j)⟩ (fun i σ H' _ h => SqL.of (h.2.1 _ _ hl)) ?_ ?_⟩
    · rintro i pv σ H1 H2 hi ⟨⟨v2, v3, rfl⟩, s1, hrows⟩ ⟨Tp, x1, x2, rfl, nT, rfl, e1, e2⟩
      obtain rfl : V.int (i : Nat) = x1 := Option.some.inj e1
      have e2 : xs[i]? = some x2 := e2
      have hid : i < ds.length := by rw [← hds.len]; exact hi
      obtain ⟨x2', hx2, dq⟩ := hds.get (List.getElem?_eq_getElem hid)
      obtain rfl : x2' = x2 := Option.some.inj (hx2.symm.trans e2)
      have hdi : ds[i]? = some ds[i] := List.getElem?_eq_getElem hid
      generalize ds[i] = dv at dq hdi
      have s2 : Same H (upd H1 Tp (.tup [.int (i : Nat), x2'])) := same_mut s1 (s1.free nT)
      refine ⟨Tp, _, rfl, SqT.of upd_same, rfl, _, _, rfl, _, _, rfl, rfl, ?_⟩
      generalize upd H1 Tp (.tup [.int (i : Nat), x2']) = H2 at s2 ⊢
      refine ⟨_, rfl, _, rfl, Ex, t, x2', dv, hs, gs, rfl, ht.same' s2, hok, dq.same s2, hsh dv (List.mem_of_getElem? hdi), fun r hr1 => ⟨r, rfl, ?_⟩⟩
      cases r with
      | true =>
        refine iteF ⟨⟨_, _, rfl⟩, s2, fun j d hj hd => ?_⟩
        by_cases e : j = i
        · subst e
          obtain rfl : dv = d := Option.some.inj (hdi.symm.trans hd)
          exact hr1.mp rfl
        · exact hrows j d (by omega) hd
      | false =>
        refine iteT ⟨_, rfl, (by show 1 ≤ 1000; decide), fun a na => ⟨a, _, rfl, upd_same, fun dx nd ne => ⟨rfl, dx, [("number", .int (i : Nat))], upd_same, ?_, ?_, ?_⟩⟩⟩
        · rw [upd_ne ne, upd_same]
        · exact (same_upd na).free nd
        · refine qE i dv dx _ hrows hdi (fun z => Bool.noConfusion (hr1.mpr z)) (s2.trans ?_) upd_same
          exact raised1 na nd
    · rintro σ H1 ⟨⟨v2, v3, rfl⟩, s1, hrows⟩
      exact qQ H1 s1 (by rw [hds.len] at hrows; exact hrows)
/-! ### clashes in a list -/
theorem dqs_flat {Ex : Addr → Prop} {H : Hp} {xs : List V} {r : Row} (h : Dqs Ex H xs r.data) : xs = r.vals := by
  have key : ∀ {xs : List V} {ds : List PyData}, ds.all Fl.flatD = true → Dqs Ex H xs ds → xs = ds.map Fl.dV := by
    intro xs ds
    induction ds generalizing xs with
    | nil =>
      intro _ h
      cases h
      rfl
    | cons d ds ih =>
      intro hf h
      rw [List.all_cons, Bool.and_eq_true] at hf
      cases h with
      | cons h1 h2 =>
        rw [ih hf.2 h2]
        cases h1 with
        | int i => rfl
        | str x => rfl
        | _ => exact absurd hf.1 (by simp [Fl.flatD])
  exact key (row_flat r) h
theorem row_at {Ex : Addr → Prop} {H : Hp} {v : V} {r : Row} (h : Dq Ex H v (.tuple r.data)) : ∃ a, v = .ref a ∧ RowAt H a r := by
  cases h with
  | @tup a xs _ h1 h2 => exact ⟨a, rfl, by rw [dqs_flat h2] at h1; exact h1⟩
theorem isRow_wf {hs : List Str} (hok : ∀ h ∈ hs, PyData.strOk h = true) {d : PyData} (h : IsRowD hs d) : ∃ r : Row, d = .tuple r.data ∧ r.Wf ∧ r.In hs := by
  obtain ⟨r, e, hin, hb⟩ := h
  refine ⟨r, e, ?_, hin⟩
  cases r with
  | ask h g k n o b => exact ⟨hok h hin.1, hok g hin.2, hb.1, hb.2.1, hb.2.2.1, hb.2.2.2.1, hb.2.2.2.2⟩
  | job h k o b => exact ⟨hok h hin, hb.1, hb.2.1, hb.2.2.1, hb.2.2.2⟩
  | all h a j => exact ⟨hok h hin, hb.1, hb.2⟩
def ClashAt (ds : List PyData) (i j : Nat) : Prop := ∃ r t : Row, ds[i]? = some (.tuple r.data) ∧ ds[j]? = some (.tuple t.data) ∧ ClashP r t
def NoClash (ds : List PyData) (n : Nat) : Prop := ∀ s, s < n → ∀ f, f < s → ¬ ClashAt ds f s
structure FirstClash (ds : List PyData) (f s : Nat) : Prop where
  lt : f < s
  len : s < ds.length
  at_ : ClashAt ds f s
  no : NoClash ds s
  low : ∀ g, g < f → ¬ ClashAt ds g s
theorem data_inj {r t : Row} (h : r.data = t.data) : r = t := by
  have e := row_eqv r t
  have e1 : PyData.eqv (.tuple r.data) (.tuple t.data) = true := by
    rw [h, row_eqv]
    exact decide_eq_true rfl
  rw [e1] at e
  exact of_decide_eq_true e.symm
theorem clashAt_iff {ds : List PyData} {i j : Nat} {r t : Row} (hi : ds[i]? = some (.tuple r.data)) (hj : ds[j]? = some (.tuple t.data)) : ClashAt ds i j ↔ ClashP r t := by
  constructor
  · rintro ⟨r2, t2, e1, e2, h⟩
    obtain rfl := data_inj (PyData.tuple.inj (Option.some.inj (hi.symm.trans e1)))
    obtain rfl := data_inj (PyData.tuple.inj (Option.some.inj (hj.symm.trans e2)))
    exact h
  · exact fun h => ⟨r, t, hi, hj, h⟩
def sp_need_book (CN CC : Addr) : Sp := fun vs H Q E => ∃ (Ex : Addr → Prop) (t l : Addr) (hs gs : List Str) (xs : List V) (ds : List PyData), vs = [.ref t, .ref l] ∧ TownAt H t hs gs ∧ (∀ h ∈ hs, PyData.strOk h = true) ∧ H l = some (.lst xs) ∧ Thing Ex H xs ds ∧ ds.length ≤ 1000 ∧
  (∀ H', Same H H' → RowsD hs ds ds.length → NoClash ds ds.length → Q .non H') ∧
  (∀ (i : Nat) (dv : PyData) (d : Addr) (H' : Hp), RowsD hs ds i → ds[i]? = some dv → ¬ IsRowD hs dv → Same H H' → H' d = some (.xd [("number", .int (i : Nat))]) → E (.ref CN) (some d) H') ∧
  ∀ (f s : Nat) (d : Addr) (H' : Hp), RowsD hs ds ds.length → FirstClash ds f s → Same H H' → H' d = some (.xd [("second", .int (s : Nat)), ("first", .int (f : Nat))]) → E (.ref CC) (some d) H'
theorem ok_need_book (T : Txt K mg af fd) : FnOk P w K mg base (L2.CX P w) 7 (af 21) (fd 21) ["town", "rows"] (sp_need_book (af 59) (af 61)) := by
  refine T.F_need_book.okX sc_need_book (fun vs H Q E h => ?_) (fun cdv A outer s H vs Q E hr h => ?_)
  · obtain ⟨Ex, t, l, hs, gs, xs, ds, rfl, _⟩ := h
    rfl
  · obtain ⟨Ex, t, l, hs, gs, xs, ds, rfl, ht, hok, hl, hth, hlen, qQ, qN, qC⟩ := h
    refine ⟨_, (pss_cons (ps_expr (pe_call (ok_need_rows T) (hr.mono (by first | decide | omega)) (by rfl) T.g_need_rows T.F_need_rows.kp T.b_need_rows .nil (passes_call (takes_of rfl rfl rfl rfl) (fun _ _ _ _ h => h)) (pa_cons (pv 0) (pa_cons (pv 1) pa_nil))))
        (pss_one (ps_for (passes_of rfl) rfl (pi_range1 (by rfl) T.m_range (pa_cons (pe_callB call_len_seq (by rfl) T.m_len (by decide +kernel) (pa_cons (pv 1) pa_nil)) pa_nil)) (pg_name (i := 2) sc_need_book.nd rfl (by first | exact Or.inl rfl | exact Or.inr rfl)) (pss_one (ps_for (passes_of rfl) rfl (pi_range1 (by rfl) T.m_range (pa_cons (pv 2) pa_nil)) (pg_name (i := 3) sc_need_book.nd rfl (by first | exact Or.inl rfl | exact Or.inr rfl)) (pss_one (ps_if (pt_val (pe_call (ok_do_clash T) (hr.mono (by first | decide | omega)) (by rfl) T.g_do_clash T.F_do_clash.kp T.b_do_clash .nil pass0 (pa_cons (pe_ix ix_list (pv 1) (pv 3) (fun _ _ => rfl)) (pa_cons (pe_ix ix_list (pv 1) (pv 2) (fun _ _ => rfl)) pa_nil)))) (pss_one (ps_raise rfl (takes_of rfl rfl rfl rfl) (pmk_oex T.e_Clash.T T.e_Clash.iC T.e_Clash.tI (ok_init_Clash T) (hr.mono (by decide)) T.e_Clash.b .nil pass0 (by rfl) T.e_Clash.g (pa_cons (pv 3) (pa_cons (pv 2) pa_nil))))) pss_nil))))))), ?_⟩
    refine ⟨_, rfl, _, rfl, Ex, t, l, hs, gs, xs, ds, rfl, ht, hok, hl, hth, fun H1 s1 hrows => ?_, qN⟩
    obtain ⟨hds, hsh⟩ := hth
    have hl1 := s1 _ _ hl
    have hxl := hds.len
    refine ⟨_, rfl, l, _, rfl, .inl (SqL.of hl1), _, rfl, by omega, by omega, for_range (lo := 0) (n := ((xs.length : Int)).toNat) (fun i σ H' => (∃ v2 v3 : Option V, σ = [some (.ref t), some (.ref l), v2, v3]) ∧ H' = H1 ∧ NoClash ds i)
      ⟨⟨none, none, rfl⟩, rfl, fun s hs => absurd hs (Nat.not_lt_zero s)⟩ ?_ ?_⟩
    · rintro s2 σ H2 hs2 ⟨⟨v2, v3, rfl⟩, rfl, hno⟩
      rw [Int.toNat_natCast] at hs2
      have hs2d : s2 < ds.length := by omega
      obtain ⟨t2, et2, wt2, _⟩ := isRow_wf hok (hrows s2 _ hs2d (List.getElem?_eq_getElem hs2d))
      have hd2 : ds[s2]? = some (.tuple t2.data) := by rw [List.getElem?_eq_getElem hs2d, et2]
      obtain ⟨y, hy, dy⟩ := hds.get hd2
      obtain ⟨b, rfl, hb⟩ := row_at (dy.same s1)
      refine ⟨_, rfl, _, rfl, by omega, by omega, for_range (lo := 0) (n := ((0 : Int) + (s2 : Nat)).toNat) (fun i σ H' => (∃ v3 : Option V, σ = [some (.ref t), some (.ref l), some (.int (0 + (s2 : Nat))), v3]) ∧ H' = H2 ∧ ∀ g, g < i → ¬ ClashAt ds g s2)
        ⟨⟨_, rfl⟩, rfl, fun g hg => absurd hg (Nat.not_lt_zero g)⟩ ?_ ?_⟩
      · rintro f2 σ H3 hf2 ⟨⟨v3, rfl⟩, rfl, hlow⟩
        have hf2s : f2 < s2 := by omega
        have hf2d : f2 < ds.length := by omega
        obtain ⟨r2, er2, wr2, _⟩ := isRow_wf hok (hrows f2 _ hf2d (List.getElem?_eq_getElem hf2d))
        have hd1 : ds[f2]? = some (.tuple r2.data) := by rw [List.getElem?_eq_getElem hf2d, er2]
        obtain ⟨x, hx, dx⟩ := hds.get hd1
        obtain ⟨a, rfl, ha⟩ := row_at (dx.same s1)
        have hiff := clashAt_iff hd1 hd2
        refine ⟨_, rfl, _, rfl, l, _, _, .ref a, rfl, rfl, SqL.of hl1, at_any (j := f2) (by omega) hx, _, rfl, _, rfl, l, _, _, .ref b, rfl, rfl, SqL.of hl1, at_any (j := s2) (by omega) hy, a, b, r2, t2, rfl, ha, hb, wr2, wt2, trivial, fun bb hbb => ⟨bb, rfl, ?_⟩⟩
        cases bb with
        | false =>
          refine iteF ⟨⟨_, rfl⟩, rfl, fun g hg => ?_⟩
          by_cases e : g = f2
          · subst e
            exact fun z => Bool.noConfusion (hbb.mpr (hiff.mp z))
          · exact hlow g (by omega)
        | true =>
          refine iteT ⟨_, rfl, _, rfl, (by show 2 ≤ 1000; decide), fun a3 na => ⟨a3, _, _, rfl, upd_same, fun dx3 nd ne => ⟨rfl, dx3, [("second", .int (0 + (s2 : Nat))), ("first", .int (0 + (f2 : Nat)))], ?_, upd_same, ?_, ?_⟩⟩⟩
          · rw [upd_ne (Ne.symm ne), upd_same]
          · exact (same_upd na).free nd
          · rw [Int.zero_add, Int.zero_add]
            refine qC f2 s2 dx3 _ hrows ⟨hf2s, hs2d, hiff.mpr (hbb.mp rfl), hno, hlow⟩ (s1.trans ?_) upd_same
            exact raised2 na nd
      · rintro σ H3 ⟨⟨v3, rfl⟩, rfl, hlow⟩
        refine ⟨⟨_, _, rfl⟩, rfl, fun s3 hs3 g hg => ?_⟩
        by_cases e : s3 = s2
        · subst e
          exact hlow g (by omega)
        · exact hno s3 (by omega) g hg
    · rintro σ H2 ⟨⟨v2, v3, rfl⟩, rfl, hno⟩
      refine qQ H2 s1 hrows ?_
      rw [Int.toNat_natCast, hxl] at hno
      exact hno
/-! ### the law's first clash -/
def RowsW (ds : List PyData) : Prop := ∀ (j : Nat) (d : PyData), ds[j]? = some d → ∃ r : Row, d = .tuple r.data ∧ r.Wf
def sp_l_first_clash : Sp := fun vs H Q _ => ∃ (Ex : Addr → Prop) (l : Addr) (xs : List V) (ds : List PyData), vs = [.ref l] ∧ H l = some (.lst xs) ∧ Dqs Ex H xs ds ∧ RowsW ds ∧ ds.length ≤ 1000 ∧
  (∀ H', Same H H' → NoClash ds ds.length → Q .non H') ∧ ∀ (f s : Nat) (p : Addr) (H' : Hp), FirstClash ds f s → Same H H' → H' p = some (.tup [.int (f : Nat), .int (s : Nat)]) → Q (.ref p) H'
theorem ok_l_first_clash (T : Txt K mg af fd) : FnOk P w K mg base CX0 2 (af 46) (fd 46) ["rows"] sp_l_first_clash := by
  refine T.F_l_first_clash.ok sc_l_first_clash (fun vs H Q E h => ?_) (fun cdv A outer s H vs Q E hr h => ?_)
  · obtain ⟨Ex, l, xs, ds, rfl, _⟩ := h
    rfl
  · obtain ⟨Ex, l, xs, ds, rfl, hl, hds, hrows, hlen, qN, qC⟩ := h
    refine ⟨_, (pss_cons (ps_for PassesOwn.never rfl (pi_range1 (by rfl) T.m_range (pa_cons (pe_callB call_len_seq (by rfl) T.m_len (by decide +kernel) (pa_cons (pv 0) pa_nil)) pa_nil)) (pg_name (i := 1) sc_l_first_clash.nd rfl (by first | exact Or.inl rfl | exact Or.inr rfl)) (pss_one (ps_for PassesOwn.never rfl (pi_range1 (by rfl) T.m_range (pa_cons (pv 1) pa_nil)) (pg_name (i := 2) sc_l_first_clash.nd rfl (by first | exact Or.inl rfl | exact Or.inr rfl)) (pss_one (ps_if (pt_val (pe_call (ok_l_do_clash T) (hr.mono (by first | decide | omega)) (by rfl) T.g_l_do_clash T.F_l_do_clash.kp T.b_l_do_clash .nil pass0 (pa_cons (pe_ix ix_list (pv 0) (pv 2) (fun _ _ => rfl)) (pa_cons (pe_ix ix_list (pv 0) (pv 1) (fun _ _ => rfl)) pa_nil)))) (pss_one (ps_ret (pe_tup (pa_cons (pv 2) (pa_cons (pv 1) pa_nil))))) pss_nil)))))
        (pss_one (ps_ret pe_non))), ?_⟩
    have hxl := hds.len
    refine ⟨_, rfl, l, _, rfl, .inl (SqL.of hl), _, rfl, by omega, by omega, for_range (lo := 0) (n := ((xs.length : Int)).toNat) (fun i σ H' => (∃ v2 v3 : Option V, σ = [some (.ref l), v2, v3]) ∧ Same H H' ∧ NoClash ds i)
      ⟨⟨none, none, rfl⟩, Same.refl _, fun s hs => absurd hs (Nat.not_lt_zero s)⟩ ?_ ?_⟩
    · rintro s2 σ H2 hs2 ⟨⟨v2, v3, rfl⟩, g2, hno⟩
      rw [Int.toNat_natCast] at hs2
      have hs2d : s2 < ds.length := by omega
      obtain ⟨t2, et2, wt2⟩ := hrows s2 _ (List.getElem?_eq_getElem hs2d)
      have hd2 : ds[s2]? = some (.tuple t2.data) := by rw [List.getElem?_eq_getElem hs2d, et2]
      obtain ⟨y, hy, dy⟩ := hds.get hd2
      obtain ⟨b, rfl, hb⟩ := row_at dy
      refine ⟨_, rfl, _, rfl, by omega, by omega, for_range (lo := 0) (n := ((0 : Int) + (s2 : Nat)).toNat) (fun i σ H' => (∃ v3 : Option V, σ = [some (.ref l), some (.int (0 + (s2 : Nat))), v3]) ∧ Same H H' ∧ ∀ g, g < i → ¬ ClashAt ds g s2)
        ⟨⟨_, rfl⟩, g2, fun g hg => absurd hg (Nat.not_lt_zero g)⟩ ?_ ?_⟩
      · rintro f2 σ H3 hf2 ⟨⟨v3, rfl⟩, g3, hlow⟩
        have hf2s : f2 < s2 := by omega
        have hf2d : f2 < ds.length := by omega
        obtain ⟨r2, er2, wr2⟩ := hrows f2 _ (List.getElem?_eq_getElem hf2d)
        have hd1 : ds[f2]? = some (.tuple r2.data) := by rw [List.getElem?_eq_getElem hf2d, er2]
        obtain ⟨x, hx, dx⟩ := hds.get hd1
        obtain ⟨a, rfl, ha⟩ := row_at dx
        have hiff := clashAt_iff hd1 hd2
        have hl3 := g3 _ _ hl
        refine ⟨_, rfl, _, rfl, l, _, _, .ref a, rfl, rfl, SqL.of hl3, at_any (j := f2) (by omega) hx, _, rfl, _, rfl, l, _, _, .ref b, rfl, rfl, SqL.of hl3, at_any (j := s2) (by omega) hy, a, b, r2, t2, rfl, Same.row g3 ha, Same.row g3 hb, wr2, wt2, fun bb H4 g4 hbb => ⟨bb, rfl, ?_⟩⟩
        cases bb with
        | false =>
          refine iteF ⟨⟨_, rfl⟩, g3.trans g4, fun g hg => ?_⟩
          by_cases e : g = f2
          · subst e
            exact fun z => Bool.noConfusion (hbb.mpr (hiff.mp z))
          · exact hlow g (by omega)
        | true =>
          refine iteT ⟨_, rfl, _, rfl, (by show 2 ≤ sizeLine; decide), fun p np => ?_⟩
          rw [Int.zero_add, Int.zero_add]
          exact qC f2 s2 p _ ⟨hf2s, hs2d, hiff.mpr (hbb.mp rfl), hno, hlow⟩ (same_mut (g3.trans g4) ((g3.trans g4).free np)) upd_same
      · rintro σ H3 ⟨⟨v3, rfl⟩, g3, hlow⟩
        refine ⟨⟨_, _, rfl⟩, g3, fun s3 hs3 g hg => ?_⟩
        by_cases e : s3 = s2
        · subst e
          exact hlow g (by omega)
        · exact hno s3 (by omega) g hg
    · rintro σ H2 ⟨⟨v2, v3, rfl⟩, g2, hno⟩
      refine qN H2 g2 ?_
      rw [Int.toNat_natCast, hxl] at hno
      exact hno
/-! ### the same data -/
/-! ### x is True, x is not True, of any value -/
theorem is_bool_gen {M : Model} {A : Around} {E : Value → Shared → Prop} {s : Shared} {Q : Value → Shared → Prop} {v : Value} {b : Bool} (hb : ∀ i, v ≠ .builtin i) (h : Q (.bool (v == .bool b)) s) : wpAny M A (compareOp .Is v (.bool b)) Q E s := by
  cases v <;> first | exact wpAny_pure h | exact absurd rfl (hb _)
theorem op_isB {X : Cx} (b : Bool) : OpR X (compareOp .Is) (fun x y H Q => y = .bl b ∧ Q (.bl (decide (x = .bl b))) H) := by
  intro pins s σ H x y v u Q I rx ry h
  obtain ⟨rfl, q⟩ := h
  obtain rfl : u = Value.bool b := ry
  refine is_bool_gen (fun i z => ?_) ⟨.bl (decide (x = .bl b)), H, I, ?_, q⟩
  · subst z
    cases x <;> first
      | (cases rx; done)
      | (obtain ⟨t, e⟩ := rx; cases e; done)
  show Value.bool (v == .bool b) = Value.bool (decide (x = .bl b))
  congr 1
  cases x with
  | bl c =>
    obtain rfl : v = .bool c := rx
    by_cases e : c = b
    · subst e
      rw [decide_eq_true rfl, beq_self_eq_true]
    · rw [decide_eq_false (fun z => e (V.bl.inj z)), beq_eq_false_iff_ne.mpr (fun z => e (Value.bool.inj z))]
  | _ =>
    rw [decide_eq_false (fun z => by cases z)]
    refine beq_eq_false_iff_ne.mpr fun z => ?_
    subst z
    first
      | (cases rx; done)
      | (obtain ⟨t, e⟩ := rx; cases e; done)
def rIsB (b : Bool) : R2 := fun x y H Q => y = .bl b ∧ Q (.bl (decide (x = .bl b))) H
theorem isnot_bool_gen {M : Model} {A : Around} {E : Value → Shared → Prop} {s : Shared} {Q : Value → Shared → Prop} {v : Value} {b : Bool} (hb : ∀ i, v ≠ .builtin i) (h : Q (.bool (!(v == .bool b))) s) : wpAny M A (compareOp .IsNot v (.bool b)) Q E s := by
  cases v <;> first | exact wpAny_pure h | exact absurd rfl (hb _)
theorem op_notB {X : Cx} (b : Bool) : OpR X (compareOp .IsNot) (fun x y H Q => y = .bl b ∧ Q (.bl (!decide (x = .bl b))) H) := by
  intro pins s σ H x y v u Q I rx ry h
  obtain ⟨rfl, q⟩ := h
  obtain rfl : u = Value.bool b := ry
  refine isnot_bool_gen (fun i z => ?_) ⟨.bl (!decide (x = .bl b)), H, I, ?_, q⟩
  · subst z
    cases x <;> first
      | (cases rx; done)
      | (obtain ⟨t, e⟩ := rx; cases e; done)
  show Value.bool (!(v == .bool b)) = Value.bool (!decide (x = .bl b))
  congr 2
  cases x with
  | bl c =>
    obtain rfl : v = .bool c := rx
    by_cases e : c = b
    · subst e
      rw [decide_eq_true rfl, beq_self_eq_true]
    · rw [decide_eq_false (fun z => e (V.bl.inj z)), beq_eq_false_iff_ne.mpr (fun z => e (Value.bool.inj z))]
  | _ =>
    rw [decide_eq_false (fun z => by cases z)]
    refine beq_eq_false_iff_ne.mpr fun z => ?_
    subst z
    first
      | (cases rx; done)
      | (obtain ⟨t, e⟩ := rx; cases e; done)
def sp_same (n : Nat) : Sp := fun vs H Q _ => ∃ (Ex Ey : Addr → Prop) (v u : V) (d : PyData), vs = [v, u] ∧ Dq Ex H v d ∧ Dq Ey H u d ∧ d.depth < n ∧ ∀ H', Same H H' → Q (.bl true) H'
theorem depth_mem : ∀ {ds : List PyData} {d : PyData}, d ∈ ds → d.depth ≤ PyData.depthAll ds
  | x :: xs, d, h => by
    show d.depth ≤ max x.depth (PyData.depthAll xs)
    rcases List.mem_cons.mp h with e | m
    · rw [e]
      exact Nat.le_max_left _ _
    · exact Nat.le_trans (depth_mem m) (Nat.le_max_right _ _)
theorem ok_same_n (T : Txt K mg af fd) : ∀ n : Nat, FnOk P w K mg base CX0 (n + 1) (af 53) (fd 53) ["found", "due"] (sp_same n) := by
  intro n
  induction n with
  | zero => exact ⟨fun vs H Q E ⟨_, _, _, _, _, _, _, _, h, _⟩ => absurd h (Nat.not_lt_zero _), fun A outer s H args us vs Q E hr he hb hv ⟨_, _, _, _, _, _, _, _, h, _⟩ => absurd h (Nat.not_lt_zero _)⟩
  | succ n ih =>
    refine T.F_l_same.ok sc_l_same (fun vs H Q E h => ?_) (fun cdv A outer s H vs Q E hr h => ?_)
    · obtain ⟨Ex, Ey, v, u, d, rfl, _⟩ := h
      rfl
    · obtain ⟨Ex, Ey, v, u, d, rfl, hv, hu, hdep, q⟩ := h
      refine ⟨_, (pss_cons (ps_if (pt_cmpR op_isN (pv 1) pe_non (nomark _)) (pss_one (ps_ret (pe_cmpR op_isN (pv 0) pe_non (nomark _)))) pss_nil)
        (pss_cons (ps_if (pt_cmpR (op_isB true) (pv 1) pe_bl (nomark _)) (pss_one (ps_ret (pe_cmpR (op_isB true) (pv 0) pe_bl (nomark _)))) pss_nil)
        (pss_cons (ps_if (pt_cmpR (op_isB false) (pv 1) pe_bl (nomark _)) (pss_one (ps_ret (pe_cmpR (op_isB false) (pv 0) pe_bl (nomark _)))) pss_nil)
        (pss_cons (ps_if (pt_val (pe_callB call_isi (by rfl) T.m_isinstance (by decide +kernel) (pa_cons (pv 1) (pa_cons (pe_bltn (v := .ty "int") (by rfl) T.m_int (by decide +kernel) rfl) pa_nil)))) (pss_one (ps_ret (pe_and (pe_callB call_isi (by rfl) T.m_isinstance (by decide +kernel) (pa_cons (pv 0) (pa_cons (pe_bltn (v := .ty "int") (by rfl) T.m_int (by decide +kernel) rfl) pa_nil))) (pe_and (pe_not (pe_callB call_isi (by rfl) T.m_isinstance (by decide +kernel) (pa_cons (pv 0) (pa_cons (pe_bltn (v := .ty "bool") (by rfl) T.m_bool (by decide +kernel) rfl) pa_nil)))) (pe_one (pe_cmpR op_eq (pv 0) (pv 1) (nomark _))))))) pss_nil)
        (pss_cons (ps_if (pt_val (pe_callB call_isi (by rfl) T.m_isinstance (by decide +kernel) (pa_cons (pv 1) (pa_cons (pe_bltn (v := .ty "str") (by rfl) T.m_str (by decide +kernel) rfl) pa_nil)))) (pss_one (ps_ret (pe_and (pe_callB call_isi (by rfl) T.m_isinstance (by decide +kernel) (pa_cons (pv 0) (pa_cons (pe_bltn (v := .ty "str") (by rfl) T.m_str (by decide +kernel) rfl) pa_nil))) (pe_one (pe_cmpR op_eq (pv 0) (pv 1) (nomark _)))))) pss_nil)
        (pss_cons (ps_if (PW.pt (pw_or (pt_cmpR op_ne (pe_callB call_isi (by rfl) T.m_isinstance (by decide +kernel) (pa_cons (pv 1) (pa_cons (pe_bltn (v := .ty "tuple") (by rfl) T.m_tuple (by decide +kernel) rfl) pa_nil))) (pe_callB call_isi (by rfl) T.m_isinstance (by decide +kernel) (pa_cons (pv 0) (pa_cons (pe_bltn (v := .ty "tuple") (by rfl) T.m_tuple (by decide +kernel) rfl) pa_nil))) (nomark _)) (pw_or1 (pt_cmpR op_ne (pe_callB call_isi (by rfl) T.m_isinstance (by decide +kernel) (pa_cons (pv 1) (pa_cons (pe_bltn (v := .ty "list") (by rfl) T.m_list (by decide +kernel) rfl) pa_nil))) (pe_callB call_isi (by rfl) T.m_isinstance (by decide +kernel) (pa_cons (pv 0) (pa_cons (pe_bltn (v := .ty "list") (by rfl) T.m_list (by decide +kernel) rfl) pa_nil))) (nomark _))))) (pss_one (ps_ret pe_bl)) pss_nil)
        (pss_cons (ps_if (pt_cmpR op_ne (pe_callB call_len_seq (by rfl) T.m_len (by decide +kernel) (pa_cons (pv 0) pa_nil)) (pe_callB call_len_seq (by rfl) T.m_len (by decide +kernel) (pa_cons (pv 1) pa_nil)) (nomark _)) (pss_one (ps_ret pe_bl)) pss_nil)
        (pss_cons (ps_for PassesOwn.never rfl (RZ.pi_zipA (by rfl) T.m_zip (pa_cons (pv 0) (pa_cons (pv 1) pa_nil))) (pg_tup rfl (pgs_cons (pg_name (i := 2) sc_l_same.nd rfl (by first | exact Or.inl rfl | exact Or.inr rfl)) (pgs_cons (pg_name (i := 3) sc_l_same.nd rfl (by first | exact Or.inl rfl | exact Or.inr rfl)) pgs_nil))) (pss_one (ps_if (pt_not (pt_val (pe_call ih (hr.mono (by omega)) (by rfl) T.g_l_same T.F_l_same.kp T.b_l_same .nil pass0 (pa_cons (pv 2) (pa_cons (pv 3) pa_nil))))) (pss_one (ps_ret pe_bl)) pss_nil)))
        (pss_one (ps_ret pe_bl)))))))))), ?_⟩
      refine ⟨_, rfl, rfl, _, rfl, ?_⟩
      cases hu with
      | non =>
        cases hv
        exact iteTd rfl ⟨_, rfl, rfl, by rw [decide_eq_true rfl]; exact q H (Same.refl H)⟩
      | bl b =>
        cases hv
        refine iteFd (fun z => by cases z) ⟨_, rfl, rfl, _, rfl, ?_⟩
        cases b with
        | true => exact iteTd rfl ⟨_, rfl, rfl, by rw [decide_eq_true rfl]; exact q H (Same.refl H)⟩
        | false => exact iteFd (fun z => by cases z) ⟨_, rfl, rfl, _, rfl, iteTd rfl ⟨_, rfl, rfl, by rw [decide_eq_true rfl]; exact q H (Same.refl H)⟩⟩
      | int i =>
        cases hv
        refine iteFd (fun z => by cases z) ⟨_, rfl, rfl, _, rfl, iteFd (fun z => by cases z) ⟨_, rfl, rfl, _, rfl, iteFd (fun z => by cases z) ?_⟩⟩
        have hd : Dq Ex H (.int i) (.int i) := .int i
        refine ⟨_, rfl, _, _, _, _, _, rfl, .ty "int", hd.ty, isi_kit hd n_int, _, rfl, iteT ?_⟩
        refine ⟨_, rfl, _, _, _, _, _, rfl, .ty "int", hd.ty, isi_kit hd n_int, _, rfl, iteT ?_⟩
        refine ⟨_, rfl, _, _, _, _, _, rfl, .ty "bool", hd.ty, isi_kit hd n_bool, _, rfl, _, rfl, iteT ?_⟩
        exact ⟨_, rfl, _, rfl, rfl, by rw [decide_eq_true rfl]; exact q H (Same.refl H)⟩
      | str x =>
        cases hv
        refine iteFd (fun z => by cases z) ⟨_, rfl, rfl, _, rfl, iteFd (fun z => by cases z) ⟨_, rfl, rfl, _, rfl, iteFd (fun z => by cases z) ?_⟩⟩
        have hd : Dq Ex H (.str x) (.str x) := .str x
        refine ⟨_, rfl, _, _, _, _, _, rfl, .ty "int", hd.ty, isi_kit hd n_int, _, rfl, iteF ?_⟩
        refine ⟨_, rfl, _, _, _, _, _, rfl, .ty "str", hd.ty, isi_kit hd n_str, _, rfl, iteT ?_⟩
        refine ⟨_, rfl, _, _, _, _, _, rfl, .ty "str", hd.ty, isi_kit hd n_str, _, rfl, iteT ?_⟩
        exact ⟨_, rfl, _, rfl, rfl, by rw [decide_eq_true rfl]; exact q H (Same.refl H)⟩
      | @lst b ys ds nb hb hds =>
        cases hv with
        | @lst a xs _ na ha hxs =>
          have hdu : Dq Ey H (.ref b) (.list ds) := .lst nb hb hds
          have hdv : Dq Ex H (.ref a) (.list ds) := .lst na ha hxs
          refine iteFd (fun z => by cases z) ⟨_, rfl, rfl, _, rfl, iteFd (fun z => by cases z) ⟨_, rfl, rfl, _, rfl, iteFd (fun z => by cases z) ?_⟩⟩
          refine ⟨_, rfl, _, _, _, _, _, rfl, .ty "int", hdu.ty, isi_kit hdu n_int, _, rfl, iteF ?_⟩
          refine ⟨_, rfl, _, _, _, _, _, rfl, .ty "str", hdu.ty, isi_kit hdu n_str, _, rfl, iteF ?_⟩
          refine ⟨_, rfl, _, _, _, _, _, rfl, .ty "tuple", hdu.ty, isi_kit hdu n_tuple, _, rfl, _, _, _, _, _, rfl, .ty "tuple", hdv.ty, isi_kit hdv n_tuple, rfl, _, rfl, iteNS rfl ?_⟩
          refine ⟨_, rfl, _, _, _, _, _, rfl, .ty "list", hdu.ty, isi_kit hdu n_list, _, rfl, _, _, _, _, _, rfl, .ty "list", hdv.ty, isi_kit hdv n_list, rfl, _, rfl, iteNS rfl ?_⟩
          have hl : xs.length = ys.length := by rw [hxs.len, hds.len]
          refine ⟨_, rfl, a, _, rfl, .inl (SqL.of ha), _, rfl, b, _, rfl, .inl (SqL.of hb), rfl, _, rfl, iteNS (by rw [hl]) ?_⟩
          have hdp : PyData.depthAll ds < n := Nat.lt_of_succ_lt_succ hdep
          refine ⟨_, rfl, _, rfl, a, b, xs, ys, rfl, .inl ⟨SqL.of ha, SqL.of hb, RZ.for_zipL hl (fun i σ H' => (∃ v2 v3 : Option V, σ = [some (.ref a), some (.ref b), v2, v3]) ∧ Same H H') ⟨⟨none, none, rfl⟩, Same.refl H⟩ (fun i σ H' h => ⟨SqL.of (h.2 _ _ ha), SqL.of (h.2 _ _ hb)⟩) ?_ ?_⟩⟩
          · rintro i x y Tp σ H1 hx hy ⟨⟨v2, v3, rfl⟩, g1⟩ nT
            have hid : i < ds.length := by rw [← hxs.len]; exact (List.getElem?_eq_some_iff.mp hx).1
            obtain ⟨x', hx', dx⟩ := hxs.get (List.getElem?_eq_getElem hid)
            obtain ⟨y', hy', dy⟩ := hds.get (List.getElem?_eq_getElem hid)
            obtain rfl : x' = x := Option.some.inj (hx'.symm.trans hx)
            obtain rfl : y' = y := Option.some.inj (hy'.symm.trans hy)
            have g2 : Same H (upd H1 Tp (.tup [x', y'])) := same_mut g1 (g1.free nT)
            refine ⟨Tp, _, rfl, SqT.of upd_same, rfl, _, _, rfl, _, _, rfl, rfl, ?_⟩
            generalize upd H1 Tp (.tup [x', y']) = H2 at g2 ⊢
            refine ⟨_, rfl, _, rfl, Ex, Ey, x', y', ds[i], rfl, dx.same g2, dy.same g2, Nat.lt_of_le_of_lt (depth_mem (List.getElem_mem hid)) hdp, fun H3 g3 => ⟨true, rfl, iteF ⟨⟨_, _, rfl⟩, g2.trans g3⟩⟩⟩
          · rintro σ H1 ⟨⟨v2, v3, rfl⟩, g1⟩
            exact q H1 g1
      | @tup b ys ds hb hds =>
        cases hv with
        | @tup a xs _ ha hxs =>
          have hdu : Dq Ey H (.ref b) (.tuple ds) := .tup hb hds
          have hdv : Dq Ex H (.ref a) (.tuple ds) := .tup ha hxs
          refine iteFd (fun z => by cases z) ⟨_, rfl, rfl, _, rfl, iteFd (fun z => by cases z) ⟨_, rfl, rfl, _, rfl, iteFd (fun z => by cases z) ?_⟩⟩
          refine ⟨_, rfl, _, _, _, _, _, rfl, .ty "int", hdu.ty, isi_kit hdu n_int, _, rfl, iteF ?_⟩
          refine ⟨_, rfl, _, _, _, _, _, rfl, .ty "str", hdu.ty, isi_kit hdu n_str, _, rfl, iteF ?_⟩
          refine ⟨_, rfl, _, _, _, _, _, rfl, .ty "tuple", hdu.ty, isi_kit hdu n_tuple, _, rfl, _, _, _, _, _, rfl, .ty "tuple", hdv.ty, isi_kit hdv n_tuple, rfl, _, rfl, iteNS rfl ?_⟩
          refine ⟨_, rfl, _, _, _, _, _, rfl, .ty "list", hdu.ty, isi_kit hdu n_list, _, rfl, _, _, _, _, _, rfl, .ty "list", hdv.ty, isi_kit hdv n_list, rfl, _, rfl, iteNS rfl ?_⟩
          have hl : xs.length = ys.length := by rw [hxs.len, hds.len]
          refine ⟨_, rfl, a, _, rfl, .inr (SqT.of ha), _, rfl, b, _, rfl, .inr (SqT.of hb), rfl, _, rfl, iteNS (by rw [hl]) ?_⟩
          have hdp : PyData.depthAll ds < n := Nat.lt_of_succ_lt_succ hdep
          refine ⟨_, rfl, _, rfl, a, b, xs, ys, rfl, .inr ⟨SqT.of ha, SqT.of hb, RZ.for_zipT hl (fun i σ H' => (∃ v2 v3 : Option V, σ = [some (.ref a), some (.ref b), v2, v3]) ∧ Same H H') ⟨⟨none, none, rfl⟩, Same.refl H⟩ (fun i σ H' h => ⟨SqT.of (h.2 _ _ ha), SqT.of (h.2 _ _ hb)⟩) ?_ ?_⟩⟩
          · rintro i x y Tp σ H1 hx hy ⟨⟨v2, v3, rfl⟩, g1⟩ nT
            have hid : i < ds.length := by rw [← hxs.len]; exact (List.getElem?_eq_some_iff.mp hx).1
            obtain ⟨x', hx', dx⟩ := hxs.get (List.getElem?_eq_getElem hid)
            obtain ⟨y', hy', dy⟩ := hds.get (List.getElem?_eq_getElem hid)
            obtain rfl : x' = x := Option.some.inj (hx'.symm.trans hx)
            obtain rfl : y' = y := Option.some.inj (hy'.symm.trans hy)
            have g2 : Same H (upd H1 Tp (.tup [x', y'])) := same_mut g1 (g1.free nT)
            refine ⟨Tp, _, rfl, SqT.of upd_same, rfl, _, _, rfl, _, _, rfl, rfl, ?_⟩
            generalize upd H1 Tp (.tup [x', y']) = H2 at g2 ⊢
            refine ⟨_, rfl, _, rfl, Ex, Ey, x', y', ds[i], rfl, dx.same g2, dy.same g2, Nat.lt_of_le_of_lt (depth_mem (List.getElem_mem hid)) hdp, fun H3 g3 => ⟨true, rfl, iteF ⟨⟨_, _, rfl⟩, g2.trans g3⟩⟩⟩
          · rintro σ H1 ⟨⟨v2, v3, rfl⟩, g1⟩
            exact q H1 g1
theorem ok_l_same (T : Txt K mg af fd) : FnOk P w K mg base CX0 6 (af 53) (fd 53) ["found", "due"] (sp_same 5) := ok_same_n T 5
/-! ### sorted(d), d of keys (text, int) -/
namespace Gr
open PySem.W
abbrev HK := Str × Int
def keyOf (p : HK) : List Key := [.inr p.1, .inl p.2]
def datOf (p : HK) : List PyData := [.str p.1, .int p.2]
def vD : V → PyData
  | .int i => .int i
  | .str x => .str x
  | _ => .none
def hkOf : List PyData → HK
  | [.str h, .int n] => (h, n)
  | _ => ("", 0)
def datAt (H : Hp) : Value → List PyData
  | .ref b => match H b with
    | some (.tup us) => us.map vD
    | _ => []
  | _ => []
theorem datAt_key {H : Hp} {b : Addr} {p : HK} (h : H b = some (.tup ((keyOf p).map kV))) : datAt H (.ref b) = datOf p := by
  show (match H b with
    | some (.tup us) => us.map vD
    | _ => []) = datOf p
  rw [h]
  rfl
theorem hk_dat (p : HK) : hkOf (datOf p) = p := rfl
theorem can_dat (p q : HK) : Fl.Can (datOf p) (datOf q) := ⟨p.1, [.int p.2], q.1, [.int q.2], rfl, rfl, fun _ => rfl⟩
theorem fl_sortable {prog : Program} {w : World} {A : Around} {s : Shared} {a : Addr} {vs : List Value} {k : Value → List PyData} (h2 : 2 ≤ vs.length) (hp : ∀ v ∈ vs, Fl.IsFl s.heap v (k v)) (hc : ∀ v ∈ vs, ∀ u ∈ vs, Fl.Can (k v) (k u)) (ha : s.heap.get? a = some (seqObj "list" vs.toArray 0)) :
    SrtO.SortableO prog w A s a vs (fun v u => Fl.ltD (k v) (k u)) := by
  intro h' keep
  have hne : ∀ o, s.heap.get? a = some o → o.cls ≠ .type "tuple" := fun o e => by
    have e' : some o = some (seqObj "list" vs.toArray 0) := e.symm.trans ha
    cases e'
    intro c
    exact absurd (Value.type.inj c) (by decide)
  have hp' : ∀ v ∈ vs, Fl.IsFl h' v (k v) := fun v hm => (hp v hm).keeps fun b o e c => keep b o (fun z => by subst z; exact hne o e c) e
  obtain ⟨fs, f1, f2, f3⟩ := Fl.firsts_fl (vs := vs) (k := k) fun v hm => ⟨hp' v hm, by
    obtain ⟨x, r, _, _, e, _⟩ := hc v hm v hm
    exact ⟨x, r, e⟩⟩
  refine ⟨tuples' true, fun Q E hq => ?_, Fl.flat_cmp hp' hc⟩
  refine kat_kind (T := .type "str") f1 (by omega) (fun f hm => ?_) (by rfl) ?_
  · obtain ⟨x, t, rfl⟩ := f3 f hm
    exact Looks.now
  · have e : (Value.type "str" != Value.type "tuple") = true := by first | decide +kernel | rfl | decide
    rw [e]
    exact hq
def rSortedDT : List V → Hp → VK → Prop := fun vs H Q => ∃ (a : Addr) (kvs : List (List Key × V)) (ks : List HK), vs = [V.ref a] ∧ Rd H a (.dT kvs) ∧ kvs.map (·.1) = ks.map keyOf ∧
  ∀ (ys : List (Addr × HK)) (p : Addr), (ys.map (·.2)).Perm ks → (ys.map (·.2)).Pairwise (fun x y => Fl.ltD (datOf y) (datOf x) = false) → (∀ y ∈ ys, H y.1 = some (.tup ((keyOf y.2).map kV))) → H p = none → Q (.ref p) (upd H p (.lst (ys.map fun y => V.ref y.1)))
theorem kt_at {H : Hp} : ∀ {kvs : List (List Key × V)} {xs : List (List Key × Addr × Value)} {ks : List HK}, KT H kvs xs → kvs.map (·.1) = ks.map keyOf → (xs.map fun x => Value.ref x.2.1).map (fun v => hkOf (datAt H v)) = ks ∧ ∀ v ∈ xs.map (fun x => Value.ref x.2.1), ∃ b p, v = .ref b ∧ H b = some (.tup ((keyOf p).map kV))
  | [], _, [], .nil, _ => ⟨rfl, fun _ m => nomatch m⟩
  | [], _, _ :: _, _, h => nomatch h
  | _ :: _, _, [], _, h => nomatch h
  | kv :: kvs, x :: xs, k :: ks, .cons h t, e => by
    injection e with e1 e2
    obtain ⟨i1, i2⟩ := kt_at t e2
    have hb : H x.2.1 = some (.tup ((keyOf k).map kV)) := by
      have e1 : kv.1 = keyOf k := e1
      rw [← e1]
      exact h.2.1
    refine ⟨?_, fun v m => ?_⟩
    · rw [List.map_cons, List.map_cons, i1, datAt_key hb, hk_dat]
    · rcases List.mem_cons.mp m with rfl | m
      · exact ⟨_, k, rfl, hb⟩
      · exact i2 v m
theorem cr_sortedDT {X : Cx} (hc : X.calm = true) : CallR X (.builtin "sorted") rSortedDT := by
  intro pins s σ H vs us Q I r h
  obtain ⟨a, kvs, ks, rfl, hd, hks, q⟩ := h
  obtain ⟨u, rfl, ru⟩ := vals1 r
  obtain rfl : u = Value.ref a := ru
  obtain ⟨z, hs, xs, pr, o, es, ep, ho, hx, hdt, he, hn⟩ := (show ObjOk X.prog X.w H s.heap a (.dT kvs) from hd.ok I.hok)
  have l1 : es.size = xs.length := size_of_entries he
  have l2 : kvs.length = xs.length := Paired.length pr
  refine Calls.call_function_entry PyProof.Rows.kind_sorted PyProof.Rows.plain_sorted PyProof.Rows.entry_sorted (PyProof.Rows.args_sorted1 _) ?_
  unfold Builtin.«sorted»
  refine wpAny_bind (m := checkCount "sorted" 1 1 _) (wpAny_pure ?_)
  refine wpAny_bind (PySem.W.kdu_collect (A := X.A.in1) (kdl_raw hs hx hdt) (I.ok.hd hc) ho (by omega) fun g tk acc hk hacc => ?_)
  have ea : acc.toList = xs.map fun x => Value.ref x.2.1 := by
    have hl : acc.toList.length = xs.length := by rw [Array.length_toList, hacc.1]; exact l1
    apply List.ext_getElem?
    intro j
    rw [List.getElem?_map]
    cases hj : acc.toList[j]? with
    | none =>
      have h1 := List.getElem?_eq_none_iff.mp hj
      rw [List.getElem?_eq_none (by omega)]
      all_goals rfl
    | some v =>
      obtain ⟨en, hen, hv⟩ := hacc.2 j v (by rw [← Array.getElem?_toList]; exact hj)
      have qe := entry_at he j
      rw [hen] at qe
      cases hb : xs[j]? with
      | none =>
        rw [hb] at qe
        exact nomatch (show some en = none from qe)
      | some b =>
        rw [hb] at qe
        have e2 : en = entryOfKey (tupleKind (mixKind X.prog X.w)) b := Option.some.inj qe
        rw [hv, e2]
        all_goals rfl
  obtain ⟨k1, k2⟩ := kt_at pr hks
  have I1 : Inv X pins σ H { s with heap := g, toks := tk } := I.kept hk
  rw [ea]
  generalize xs.map (fun x => Value.ref x.2.1) = vs at k1 k2 ea ⊢
  have hvl : vs.length = kvs.length := by rw [← ea, Array.length_toList, hacc.1]; omega
  have hz : vs.length ≤ sizeLine := by omega
  refine wpAny_bind (wpAny_newList ?_ hz)
  have hoL : (g.push (seqObj "list" vs.toArray 0)).get? g.objs.size = some (seqObj "list" vs.toArray 0) := Heap.get?_push_size _ rfl
  show wpAny _ _ _ _ _ { s with heap := g.push (seqObj "list" vs.toArray 0), toks := tk }
  have hfl : ∀ v ∈ vs, Fl.IsFl (g.push (seqObj "list" vs.toArray 0)) v (datAt H v) := fun v hv => by
    obtain ⟨b, p, rfl, hb⟩ := k2 v hv
    obtain ⟨_, its2, r2, o2, ho2, hc2, n2, hd2⟩ := I1.hok _ _ hb
    refine ⟨b, o2, its2.toArray, n2, rfl, Heap.get?_push_of_some _ ho2, hc2, hd2, ?_⟩
    rw [List.toList_toArray, datAt_key hb]
    exact Fl.fvs_of (ds := datOf p) rfl r2
  have hcn : ∀ v ∈ vs, ∀ u ∈ vs, Fl.Can (datAt H v) (datAt H u) := fun v hv u hu => by
    obtain ⟨b, p, rfl, hb⟩ := k2 v hv
    obtain ⟨c, t, rfl, hc'⟩ := k2 u hu
    rw [datAt_key hb, datAt_key hc']
    exact can_dat p t
  refine wpAny_bind (wpAny_holding (wpAny_call_entry PyProof.Rows.slot_list_sort ⟨_, hoL, rfl⟩ PyProof.Rows.entry_list_sort
    (SrtO.list_sort_ord (s := { s with heap := g.push (seqObj "list" vs.toArray 0), toks := tk }) (Fl.swo_ltD (datAt H)) hoL hz (fun h2 => fl_sortable (s := { s with heap := g.push (seqObj "list" vs.toArray 0), toks := tk }) h2 hfl hcn hoL) fun out o1 o2 => ⟨_, rfl, ?_⟩) (PyProof.Rows.args_list_sort _)))
  obtain ⟨e', he'⟩ := PyProof.Rows.sortedHeap_at (vs := vs) (out := out.toArray) hoL
  have hm : ∀ v ∈ out, ∃ b p, v = .ref b ∧ H b = some (.tup ((keyOf p).map kV)) := fun v m => k2 v (o2.perm.mem_iff.mp m)
  let back : Value → Addr := fun v => match v with
    | .ref b => b
    | _ => 0
  have ev : (out.map fun v => ((back v, hkOf (datAt H v)) : Addr × HK)).map (fun y => V.ref y.1) = out.map fun v => V.ref (back v) := by rw [List.map_map]; rfl
  have rv : ∀ l : List Value, (∀ v ∈ l, ∃ b p, v = .ref b ∧ H b = some (.tup ((keyOf p).map kV))) → Vals (l.map fun v => V.ref (back v)) l := by
    intro l
    induction l with
    | nil => intro _; exact .nil
    | cons v l ih =>
      intro hv
      obtain ⟨b, p, rfl, hb⟩ := hv v List.mem_cons_self
      exact .cons rfl (ih fun u m => hv u (List.mem_cons_of_mem _ m))
  have hlen : (out.map fun v => V.ref (back v)).length ≤ sizeLine := by rw [List.length_map, o2.len]; exact hz
  refine wpAny_pure ⟨_, rfl, .ref g.objs.size, upd H g.objs.size (.lst (out.map fun v => V.ref (back v))), I1.laid (t' := tk) (fun b u e => ?_) (Nat.le_refl _)
    (show ObjOk X.prog X.w _ _ _ (.lst (out.map fun v => V.ref (back v))) from ⟨hlen, out, e', rv out hm, he'⟩), rfl, ?_⟩
  · have hb : b < g.objs.size := Heap.lt_size e
    rw [PyProof.Rows.sortedHeap_old (Nat.ne_of_lt hb) (by rw [size_push']; exact Nat.lt_succ_of_lt hb)]
    exact Heap.get?_push_of_some _ e
  · have := q (out.map fun v => (back v, hkOf (datAt H v))) g.objs.size ?_ ?_ ?_ (I1.hok.fresh (Nat.le_refl _))
    · rw [ev] at this
      exact this
    · rw [List.map_map]
      show (out.map fun v => hkOf (datAt H v)).Perm ks
      rw [← k1]
      exact o2.perm.map _
    · rw [List.map_map]
      show (out.map fun v => hkOf (datAt H v)).Pairwise _
      rw [List.pairwise_map]
      refine List.Pairwise.imp_of_mem (fun {x y} mx my hxy => ?_) o1
      obtain ⟨b, p, rfl, hb⟩ := hm x mx
      obtain ⟨c, t, rfl, hc'⟩ := hm y my
      have hxy : Fl.ltD (datAt H (.ref c)) (datAt H (.ref b)) = false := hxy
      rw [datAt_key hb, datAt_key hc'] at hxy
      rw [datAt_key hb, datAt_key hc', hk_dat, hk_dat]
      exact hxy
    · intro y my
      obtain ⟨v, mv, rfl⟩ := List.mem_map.mp my
      obtain ⟨b, p, rfl, hb⟩ := hm v mv
      show H b = some (.tup ((keyOf (hkOf (datAt H (.ref b)))).map kV))
      rw [datAt_key hb, hk_dat]
      exact hb
/-! ### a call of one of several defs, picked by a subscript -/
structure HeldX (X : Cx) (CX : CXT) (k : Nat) (f : Addr) (sp : Sp) : Prop where
  ex : ∃ (fd : FuncData) (ps : List Str), FnOk X.prog X.w X.K X.mg X.base CX k f fd ps sp ∧ PySem.W.keepIn X.K (.ref f) = true ∧ Binds X.K fd ps []
def tCallE (S : Addr → Prop) (sp : Sp) (E : XK) (tf : TE) (t : TA) : TE := fun σ H Q => tf σ H fun v H1 => ∃ f, v = .ref f ∧ S f ∧ t σ H1 fun vs H2 => sp vs H2 Q E
theorem pe_callE {X : Cx} {CX : CXT} {k : Nat} {S : Addr → Prop} {sp : Sp} {E : XK} {o i e : Expr} {es : List Expr} {p pos : Pos} {tf : TE} {t : TA} (A : ∀ f, S f → HeldX X CX k f sp) (hr : Room k X.A) (hx : Passes CX X E) (hf : PE X (.Subscript o i p) tf) (ha : PA X (e :: es) t)
    (he : starEach (e :: es) X.env = (false, eval e X.env) :: starEach es X.env := by rfl) (hpl : (backTo pos (starEach es X.env)).any (·.1) = false := by rfl) : PE X (.Call (.Subscript o i p) (e :: es) [] pos) (tCallE S sp E tf t) := by
  refine ⟨fun pins s σ H Q I h => ?_⟩
  show wpAny _ _ (do callWith pos (← eval (.Subscript o i p) X.env) [] (backTo pos (starEach (e :: es) X.env)) (backToKw pos (keywordEach [] X.env))) _ _ s
  refine wpAny_bind (thn (hf.run pins s σ H _ I h) fun u s1 ⟨v, H1, I1, r1, f, ev, hS, q1⟩ => ?_)
  subst ev
  obtain rfl : u = Value.ref f := r1
  obtain ⟨fd, ps, F, hk, hb⟩ := (A f hS).ex
  refine PySem.W.callWith_K (h₀ := X.base) I.ok.mod.kin hk (thn (ha.run pos pins s1 σ _ _ I1 q1) fun us s2 ⟨vs, H2, I2, r, q⟩ => ⟨I2.kIn, ?_⟩) he hpl
  exact run_fn F hr hb .nil hx I2 r (by rw [List.append_nil]; exact q)
end Gr
/-! ### the rows of a book, one by one -/
def Row.k : Row → Int
  | .ask _ _ k _ _ _ => k
  | .job _ k _ _ => k
  | .all _ a _ => a
theorem at2 (r : Row) : atI r.vals 2 = some (.int r.k) := by cases r <;> rfl
def Row.key (r : Row) : Gr.HK := (r.h, r.k)
def Rws (H : Hp) (xs : List V) (rs : List Row) : Prop := xs.length = rs.length ∧ ∀ (i : Nat) (r : Row), rs[i]? = some r → ∃ a, xs[i]? = some (.ref a) ∧ RowAt H a r
theorem Rws.same {H H' : Hp} {xs : List V} {rs : List Row} (h : Rws H xs rs) (s : Same H H') : Rws H' xs rs := ⟨h.1, fun i r e => let ⟨a, e1, e2⟩ := h.2 i r e; ⟨a, e1, s _ _ e2⟩⟩
/-! a dict of rows by some key of theirs -/
structure DRow {κ : Type} (key : Row → κ) (H : Hp) (P : Row → Prop) (kvs : List (κ × V)) : Prop where
  own : ∀ kv ∈ kvs, ∃ a r, kv.2 = .ref a ∧ RowAt H a r ∧ P r ∧ kv.1 = key r
  all : ∀ r, P r → ∃ v, (key r, v) ∈ kvs
  nd : (kvs.map (·.1)).Nodup
theorem DRow.same {κ : Type} {key : Row → κ} {H H' : Hp} {P : Row → Prop} {kvs : List (κ × V)} (h : DRow key H P kvs) (s : ∀ a r, RowAt H a r → RowAt H' a r) : DRow key H' P kvs :=
  ⟨fun kv m => let ⟨a, r, e1, e2, e3, e4⟩ := h.own kv m; ⟨a, r, e1, s _ _ e2, e3, e4⟩, h.all, h.nd⟩
section
variable {κ : Type} [DecidableEq κ]
theorem put_mem {kvs : List (κ × V)} {k : κ} {v : V} {x : κ × V} (h : x ∈ putK kvs k v) : (x ∈ kvs ∧ x.1 ≠ k) ∨ x = (k, v) := by
  unfold putK at h
  split at h
  · obtain ⟨y, my, rfl⟩ := List.mem_map.mp h
    by_cases e : y.1 = k
    · rw [if_pos e]
      exact .inr (by rw [← e])
    · rw [if_neg e]
      exact .inl ⟨my, e⟩
  · rename_i hn
    rcases List.mem_append.mp h with m | m
    · refine .inl ⟨m, fun e => hn ?_⟩
      exact List.any_eq_true.mpr ⟨x, m, decide_eq_true e⟩
    · exact .inr (List.mem_singleton.mp m)
theorem put_keys (kvs : List (κ × V)) (k : κ) (v : V) : (putK kvs k v).map (·.1) = kvs.map (·.1) ++ (if k ∈ kvs.map (·.1) then [] else [k]) := by
  unfold putK
  by_cases h : (kvs.any fun kv => decide (kv.1 = k)) = true
  · rw [if_pos h]
    obtain ⟨y, my, ey⟩ := List.any_eq_true.mp h
    have ey := of_decide_eq_true ey
    rw [if_pos (List.mem_map.mpr ⟨y, my, ey⟩), List.append_nil, List.map_map]
    refine List.map_congr_left fun z _ => ?_
    show (if z.1 = k then (z.1, v) else z).1 = z.1
    split <;> rfl
  · rw [if_neg h, if_neg, List.map_append]
    · rfl
    · intro m
      obtain ⟨y, my, ey⟩ := List.mem_map.mp m
      exact h (List.any_eq_true.mpr ⟨y, my, decide_eq_true ey⟩)
theorem put_nd {kvs : List (κ × V)} {k : κ} {v : V} (h : (kvs.map (·.1)).Nodup) : ((putK kvs k v).map (·.1)).Nodup := by
  rw [put_keys]
  split
  · rw [List.append_nil]
    exact h
  · rename_i hn
    rw [List.nodup_append]
    refine ⟨h, (by simp), fun a ma b mb e => hn ?_⟩
    rw [← List.mem_singleton.mp mb, ← e]
    exact ma
theorem put_self (kvs : List (κ × V)) (k : κ) (v : V) : (k, v) ∈ putK kvs k v := by
  have h : k ∈ (putK kvs k v).map (·.1) := by
    rw [put_keys]
    split
    · rename_i h
      rw [List.append_nil]
      exact h
    · exact List.mem_append_right _ (List.mem_singleton.mpr rfl)
  obtain ⟨x, mx, ex⟩ := List.mem_map.mp h
  rcases put_mem mx with ⟨_, n⟩ | e
  · exact absurd ex n
  · rw [← e]
    exact mx
theorem put_keep {kvs : List (κ × V)} {k j : κ} {v u : V} (h : (j, u) ∈ kvs) : ∃ z, (j, z) ∈ putK kvs k v := by
  have h2 : j ∈ (putK kvs k v).map (·.1) := by
    rw [put_keys]
    exact List.mem_append_left _ (List.mem_map.mpr ⟨_, h, rfl⟩)
  obtain ⟨x, mx, ex⟩ := List.mem_map.mp h2
  exact ⟨x.2, by rw [← ex]; exact mx⟩
theorem DRow.put {key : Row → κ} {H : Hp} {P : Row → Prop} {kvs : List (κ × V)} {a : Addr} {r : Row} (h : DRow key H P kvs) (ha : RowAt H a r) : DRow key H (fun x => P x ∨ x = r) (putK kvs (key r) (.ref a)) where
  own := fun kv m => by
    rcases put_mem m with ⟨m, _⟩ | e
    · obtain ⟨b, t, e1, e2, e3, e4⟩ := h.own kv m
      exact ⟨b, t, e1, e2, .inl e3, e4⟩
    · exact ⟨a, r, by rw [e], ha, .inr rfl, by rw [e]⟩
  all := fun x hx => by
    rcases hx with hx | rfl
    · obtain ⟨v, m⟩ := h.all x hx
      exact put_keep m
    · exact ⟨_, put_self _ _ _⟩
  nd := put_nd h.nd
theorem val_mem {kvs : List (κ × V)} {k : κ} {v : V} (h : valV kvs k = some v) : (k, v) ∈ kvs := by
  induction kvs with
  | nil => exact nomatch h
  | cons p r ih =>
    by_cases e : p.1 = k
    · rw [valV_pos e] at h
      obtain rfl := Option.some.inj h
      rw [← e]
      exact List.mem_cons_self
    · rw [valV_neg e] at h
      exact List.mem_cons_of_mem _ (ih h)
theorem val_none {kvs : List (κ × V)} {k : κ} (h : valV kvs k = none) : ∀ v, (k, v) ∉ kvs := by
  induction kvs with
  | nil => exact fun _ m => nomatch m
  | cons p r ih =>
    by_cases e : p.1 = k
    · rw [valV_pos e] at h
      cases h
    · rw [valV_neg e] at h
      intro v m
      rcases List.mem_cons.mp m with z | m
      · exact e (by rw [← z])
      · exact ih h v m
end
theorem DRow.iff {κ : Type} {key : Row → κ} {H : Hp} {P P' : Row → Prop} {kvs : List (κ × V)} (h : DRow key H P kvs) (e : ∀ r, P r ↔ P' r) : DRow key H P' kvs := by
  have : P = P' := funext fun r => propext (e r)
  subst this
  exact h
theorem DRow.nil {κ : Type} {key : Row → κ} {H : Hp} {P : Row → Prop} (h : ∀ r, ¬ P r) : DRow key H P [] := ⟨fun _ m => (nomatch m), fun r p => absurd p (h r), List.nodup_nil⟩
def key2 (r : Row) : List Key := Gr.keyOf r.key
theorem put_len {κ : Type} [DecidableEq κ] {kvs : List (κ × V)} {k : κ} {v : V} {n : Nat} (h : kvs.length ≤ n) : (putK kvs k v).length ≤ n + 1 := Nat.le_trans (length_putK kvs k v) (Nat.succ_le_succ h)
theorem small_line {n : Nat} (h : n ≤ 5000) : n < sizeLine := Nat.lt_of_le_of_lt h (by decide)
theorem of_take {rs : List Row} {i : Nat} {r : Row} (e : rs[i]? = some r) (x : Row) : x ∈ rs.take (i + 1) ↔ x ∈ rs.take i ∨ x = r := by
  rw [List.take_add_one, e, Option.toList_some, List.mem_append, List.mem_singleton]
/-! ### books -/
structure Book (hs : List Str) (rs : List Row) : Prop where
  wf : ∀ r ∈ rs, r.Wf
  inn : ∀ r ∈ rs, r.In hs
  nc : ∀ r ∈ rs, ∀ t ∈ rs, ¬ ClashP r t
def rowD (r : Row) : PyData := .tuple r.data
theorem rows_of {P : Row → Prop} : ∀ {ds : List PyData}, (∀ d ∈ ds, ∃ r, d = rowD r ∧ P r) → ∃ rs : List Row, ds = rs.map rowD ∧ ∀ r ∈ rs, P r
  | [], _ => ⟨[], rfl, fun _ m => (nomatch m)⟩
  | d :: ds, h => by
    obtain ⟨rs, e, hp⟩ := rows_of (P := P) (ds := ds) fun x m => h x (List.mem_cons_of_mem _ m)
    obtain ⟨r, rfl, hr⟩ := h d List.mem_cons_self
    refine ⟨r :: rs, by rw [List.map_cons, ← e], fun x m => ?_⟩
    rcases List.mem_cons.mp m with rfl | m
    · exact hr
    · exact hp x m
theorem book_of {Ex : Addr → Prop} {H : Hp} {hs : List Str} {xs : List V} {ds : List PyData} (hok : ∀ h ∈ hs, PyData.strOk h = true) (hd : Dqs Ex H xs ds) (hr : RowsD hs ds ds.length) (hn : NoClash ds ds.length) : ∃ rs : List Row, ds = rs.map rowD ∧ Rws H xs rs ∧ Book hs rs := by
  obtain ⟨rs, rfl, hp⟩ := rows_of (P := fun r => r.Wf ∧ r.In hs) (ds := ds) fun d m => by
    obtain ⟨j, hj⟩ := List.getElem?_of_mem m
    obtain ⟨r, e, w, i⟩ := isRow_wf hok (hr j d (List.getElem?_eq_some_iff.mp hj).1 hj)
    exact ⟨r, e, w, i⟩
  have hat : ∀ {i : Nat} {r : Row}, rs[i]? = some r → (rs.map rowD)[i]? = some (.tuple r.data) := fun e => by rw [List.getElem?_map, e]; rfl
  refine ⟨rs, rfl, ⟨by rw [hd.len, List.length_map], fun i r e => ?_⟩, fun r m => (hp r m).1, fun r m => (hp r m).2, fun r mr t mt hc => ?_⟩
  · obtain ⟨v, hv, dv⟩ := hd.get (hat e)
    obtain ⟨a, rfl, ha⟩ := row_at dv
    exact ⟨a, hv, ha⟩
  · obtain ⟨i, hi⟩ := List.getElem?_of_mem mr
    obtain ⟨j, hj⟩ := List.getElem?_of_mem mt
    have li : i < (rs.map rowD).length := by rw [List.length_map]; exact (List.getElem?_eq_some_iff.mp hi).1
    have lj : j < (rs.map rowD).length := by rw [List.length_map]; exact (List.getElem?_eq_some_iff.mp hj).1
    rcases Nat.lt_trichotomy i j with h | h | h
    · exact hn j lj i h ⟨r, t, hat hi, hat hj, hc⟩
    · subst h
      obtain rfl := Option.some.inj (hi.symm.trans hj)
      cases r <;> simp [ClashP] at hc
    · exact hn i li j h ⟨t, r, hat hj, hat hi, (clash_comm r t).mp hc⟩
theorem take_snoc {A : Type} {xs : List A} {i : Nat} {x : A} (e : xs[i]? = some x) : xs.take (i + 1) = xs.take i ++ [x] := by
  rw [List.take_add_one, e]
  rfl
theorem filter_snoc {A : Type} (p : A → Bool) (xs : List A) (x : A) : (xs ++ [x]).filter p = xs.filter p ++ (if p x = true then [x] else []) := by
  rw [List.filter_append]
  congr 1
  rw [List.filter_cons]
  rfl
/-! ### the law's list -/
theorem Dqs.put {Ex : Addr → Prop} {H : Hp} {l : Addr} {o : HO} {xs vs : List V} {ds : List PyData} (h : Dqs Ex H vs ds) (hl : Ex l) (hH : H l = some (.lst xs)) : Dqs Ex (upd H l o) vs ds :=
  h.go (fun _ a b => absurd a b) (fun a ys n e => by rw [upd_ne (fun (z : a = l) => n (by rw [z]; exact hl))]; exact e) (fun a ys e => by rw [upd_ne (ne_of e hH (fun z => nomatch z))]; exact e)
theorem Dqs.ins {Ex : Addr → Prop} {H : Hp} {xs : List V} {ds : List PyData} {v : V} {d : PyData} (h : Dqs Ex H xs ds) (hv : Dq Ex H v d) (n : Nat) : Dqs Ex H (xs.take n ++ [v] ++ xs.drop n) (ds.take n ++ [d] ++ ds.drop n) :=
  ((h.take n).app (.cons hv .nil)).app (h.drop n)
theorem ins_mem {ds : List PyData} {d x : PyData} {n : Nat} (h : x ∈ ds.take n ++ [d] ++ ds.drop n) : x ∈ ds ∨ x = d := by
  rcases List.mem_append.mp h with m | m
  · rcases List.mem_append.mp m with m | m
    · exact .inl (List.mem_of_mem_take m)
    · exact .inr (List.mem_singleton.mp m)
  · exact .inl (List.mem_of_mem_drop m)
theorem ins_len {ds : List PyData} {d : PyData} {n : Nat} : (ds.take n ++ [d] ++ ds.drop n).length = ds.length + 1 := by
  rw [List.length_append, List.length_append, List.length_take, List.length_drop, List.length_singleton]
  omega
def Ths (ds : List PyData) : Prop := ∀ d ∈ ds, Th 3 3000 d
def AtL (p l : Addr) : Addr → Prop := fun a => a = p ∨ a = l
def Lst (p c l : Addr) (H : Hp) (R : PyData → Prop) (n : Nat) (H' : Hp) : Prop := Stp p c H H' ∧ ∃ xs ds, H' l = some (.lst xs) ∧ Dqs (AtL p l) H' xs ds ∧ Ths ds ∧ (∀ d ∈ ds, R d) ∧ ds.length ≤ n
theorem lst_ins {p c l : Addr} {H G : Hp} {R : PyData → Prop} {n : Nat} {xs : List V} {ds : List PyData} {v : V} {d : PyData} (hP : Pen H p c) (nl : H l = none) (s : Stp p c H G) (hl : G l = some (.lst xs)) (hd : Dqs (AtL p l) G xs ds) (th : Ths ds) (hR : ∀ d ∈ ds, R d) (hn : ds.length ≤ n)
    (dv : Dq (AtL p l) G v d) (thd : Th 3 3000 d) (Rd : R d) (k : Nat) : Lst p c l H R (n + 1) (upd G l (.lst (xs.take k ++ [v] ++ xs.drop k))) := by
  refine ⟨s.mut hP nl, _, _, upd_same, (hd.ins dv k).put (.inr rfl) hl, fun x m => ?_, fun x m => ?_, ?_⟩
  · rcases ins_mem m with m | e
    · exact th x m
    · rw [e]
      exact thd
  · rcases ins_mem m with m | e
    · exact hR x m
    · rw [e]
      exact Rd
  · rw [ins_len]
    omega
theorem lst_app {p c l : Addr} {H G : Hp} {R : PyData → Prop} {n : Nat} {xs : List V} {ds : List PyData} {v : V} {d : PyData} (hP : Pen H p c) (nl : H l = none) (s : Stp p c H G) (hl : G l = some (.lst xs)) (hd : Dqs (AtL p l) G xs ds) (th : Ths ds) (hR : ∀ d ∈ ds, R d) (hn : ds.length ≤ n)
    (dv : Dq (AtL p l) G v d) (thd : Th 3 3000 d) (Rd : R d) : Lst p c l H R (n + 1) (upd G l (.lst (xs ++ [v]))) := by
  have h := lst_ins hP nl s hl hd th hR hn dv thd Rd xs.length
  rw [List.take_length, List.drop_length, List.append_nil] at h
  exact h
theorem Stp.sm {p c : Addr} {H H1 H2 : Hp} (s : Stp p c H H1) (g : Same H1 H2) : Stp p c H H2 := by
  obtain ⟨cs, n, st, h1, h2, h3, h4⟩ := s.1
  exact ⟨⟨cs, n, st, g _ _ h1, g _ _ h2, h3, h4⟩, fun b o nb e => g _ _ (s.2 b o nb e)⟩
theorem ths_lst {ds : List PyData} (h : Ths ds) (hn : ds.length ≤ 1000) : SeqAt.shaped (.list ds) = true := ((th_lst h hn).sh (by decide)).shaped
def RowW (d : PyData) : Prop := ∃ r : Row, d = .tuple r.data ∧ r.Wf
/-! ### worlds: jobs and asks as the law lays them -/
structure WJ where
  h : Str
  b : Int
  e : Int
structure WA where
  pl : Nat
  g : Str
  o : Int
  k : Int
  ch : Nat
def WJ.v (j : WJ) : List V := [.str j.h, .int j.b, .int j.e]
def WA.v (x : WA) : List V := [.int (x.pl : Nat), .str x.g, .int x.o, .int x.k, .int (x.ch : Nat)]
def Cells {A : Type} (f : A → List V) (H : Hp) (rs : List Addr) (xs : List A) : Prop := rs.length = xs.length ∧ ∀ (i : Nat) (r : Addr) (x : A), rs[i]? = some r → xs[i]? = some x → H r = some (.lst (f x))
structure WorldAt (H : Hp) (w lj la : Addr) (rs qs : List Addr) (js : List WJ) (as : List WA) (most : Int) : Prop where
  w : H w = some (.lst [.ref lj, .ref la, .int most])
  j : H lj = some (.lst (rs.map V.ref))
  a : H la = some (.lst (qs.map V.ref))
  cj : Cells WJ.v H rs js
  ca : Cells WA.v H qs as
  pl : ∀ x ∈ as, x.pl < js.length
theorem Cells.same {A : Type} {f : A → List V} {H H' : Hp} {rs : List Addr} {xs : List A} (h : Cells f H rs xs) (s : Same H H') : Cells f H' rs xs := ⟨h.1, fun i r x e1 e2 => s _ _ (h.2 i r x e1 e2)⟩
theorem WorldAt.same {H H' : Hp} {w lj la : Addr} {rs qs : List Addr} {js : List WJ} {as : List WA} {most : Int} (h : WorldAt H w lj la rs qs js as most) (s : Same H H') : WorldAt H' w lj la rs qs js as most := ⟨s _ _ h.w, s _ _ h.j, s _ _ h.a, h.cj.same s, h.ca.same s, h.pl⟩
theorem Cells.at {A : Type} {f : A → List V} {H : Hp} {rs : List Addr} {xs : List A} {i : Nat} {x : A} (h : Cells f H rs xs) (e : xs[i]? = some x) : ∃ r, rs[i]? = some r ∧ H r = some (.lst (f x)) := by
  have hi : i < rs.length := by rw [h.1]; exact (List.getElem?_eq_some_iff.mp e).1
  exact ⟨rs[i], List.getElem?_eq_getElem hi, h.2 i _ x (List.getElem?_eq_getElem hi) e⟩
theorem map_ref {rs : List Addr} {i : Nat} {r : Addr} (e : rs[i]? = some r) : (rs.map V.ref)[i]? = some (.ref r) := by
  rw [List.getElem?_map, e]
  rfl
/-! whose an ask is, and how many there are of a house -/
def WA.of (js : List WJ) (x : WA) (h : Str) : Bool := match js[x.pl]? with
  | some j => decide (j.h = h)
  | none => false
def nA (js : List WJ) (as : List WA) (h : Str) : Nat := (as.filter fun x => x.of js h).length
def nJ (js : List WJ) (h : Str) : Nat := (js.filter fun j => decide (j.h = h)).length
def sp_room : Sp := fun vs H Q _ => ∃ (w lj la : Addr) (rs qs : List Addr) (js : List WJ) (as : List WA) (most : Int) (h g : Str), vs = [.ref w, .str h, .str g] ∧ WorldAt H w lj la rs qs js as most ∧ js.length ≤ 500 ∧ as.length ≤ 500 ∧
  ∀ (b : Bool) (H' : Hp), Same H H' → (b = true ↔ nA js as h < 15 ∧ nJ js g < 15 ∧ (js.length : Int) < most) → Q (.bl b) H'
theorem take_succ_filter {A : Type} (f : A → Bool) (xs : List A) {i : Nat} {x : A} (e : xs[i]? = some x) : (xs.take (i + 1)).filter f = (xs.take i).filter f ++ (if f x = true then [x] else []) := by
  rw [List.take_add_one, e, Option.toList_some, List.filter_append]
  congr 1
  rw [List.filter_cons]
  rfl
theorem ok_l_room (T : Txt K mg af fd) : FnOk P w K mg base CX0 1 (af 33) (fd 33) ["world", "house", "goal"] sp_room := by
  refine T.F_l_room.ok sc_l_room (fun vs H Q E h => ?_) (fun cdv A outer s H vs Q E hr h => ?_)
  · obtain ⟨w, lj, la, rs, qs, js, as, most, hh, g, rfl, _⟩ := h
    rfl
  · obtain ⟨w, lj, la, rs, qs, js, as, most, hh, g, rfl, W, lenj, lena, q⟩ := h
    refine ⟨_, (pss_cons (ps_setLc (i := 3) (own := [("ask", 4)]) (g := gName 4) (by rfl) sc_l_room.nd rfl rfl (sw_true rfl rfl rfl (by decide +kernel)) (pi_list (pe_ix ix_list (pv 0) pe_int (fun _ _ => rfl))) (blkOk_by (own := [("ask", 4)]) (N := ["world", "house", "goal", "asks", "ask", "jobs", "job"]) (sc := defScope s_l_room) (by decide +kernel)) (fun _ _ _ _ _ => pg_name (i := 4) sc_l_room.nd rfl (Or.inl rfl)) (fun _ _ _ _ _ => (pts_one (pt_cmpR op_eq (pe_ix (show IxR _ (rIxL K) from ix_list) (pe_ix (show IxR _ (rIxL K) from ix_list) (pe_ix (show IxR _ (rIxL K) from ix_list) (pv 0) pe_int (fun _ _ => rfl)) (pe_ix (show IxR _ (rIxL K) from ix_list) (pv 4) pe_int (fun _ _ => rfl)) (fun _ _ => rfl)) pe_int (fun _ _ => rfl)) (pv 1) (nomark _)))) (fun _ _ _ _ _ => (pv 4)))
        (pss_cons (ps_setLc (i := 5) (own := [("job", 6)]) (g := gName 6) (by rfl) sc_l_room.nd rfl rfl (sw_true rfl rfl rfl (by decide +kernel)) (pi_list (pe_ix (show IxR _ (rIxL K) from ix_list) (pv 0) pe_int (fun _ _ => rfl))) (blkOk_by (own := [("job", 6)]) (N := ["world", "house", "goal", "asks", "ask", "jobs", "job"]) (sc := defScope s_l_room) (by decide +kernel)) (fun _ _ _ _ _ => pg_name (i := 6) sc_l_room.nd rfl (Or.inl rfl)) (fun _ _ _ _ _ => (pts_one (pt_cmpR op_eq (pe_ix (show IxR _ (rIxL K) from ix_list) (pv 6) pe_int (fun _ _ => rfl)) (pv 2) (nomark _)))) (fun _ _ _ _ _ => (pv 6)))
        (pss_one (ps_ret (pe_and (pe_cmpR op_lt (pe_callB call_len_seq (by rfl) T.m_len (by decide +kernel) (pa_cons (pv 3) pa_nil)) pe_int (nomark _)) (pe_and (pe_cmpR op_lt (pe_callB call_len_seq (by rfl) T.m_len (by decide +kernel) (pa_cons (pv 5) pa_nil)) pe_int (nomark _)) (pe_one (pe_cmpR op_lt (pe_callB call_len_seq (by rfl) T.m_len (by decide +kernel) (pa_cons (pe_ix (show IxR _ (rIxL K) from ix_list) (pv 0) pe_int (fun _ _ => rfl)) pa_nil)) (pe_ix ix_list (pv 0) pe_int (fun _ _ => rfl)) (nomark _))))))))), ?_⟩
    refine ⟨_, rfl, w, _, 1, _, rfl, rfl, SqL.of W.w, rfl, la, rfl, ⟨_, SqL.of W.a⟩, fun D nD => ?_⟩
    refine lc_list (K := K) (a := la) (xs := qs.map V.ref) (fun i H' => Same H H' ∧ ∃ vs : List V, H' D = some (.lst vs) ∧ vs.length = ((as.take i).filter fun x => x.of js hh).length)
      ⟨same_upd nD, [], upd_same, rfl⟩ (fun i H' _ h => SqL.of (h.1 _ _ W.a)) ?_ ?_
    · rintro i v H2 hv ⟨g2, vs, hD, hl⟩
      rw [List.getElem?_map] at hv
      obtain ⟨r, hr1, rfl⟩ := Option.map_eq_some_iff.mp hv
      have hi : i < as.length := by rw [← W.ca.1]; exact (List.getElem?_eq_some_iff.mp hr1).1
      have hx : as[i]? = some as[i] := List.getElem?_eq_getElem hi
      generalize as[i] = x at hx
      have W2 := W.same g2
      have hr2 := W2.ca.2 i r x hr1 hx
      have hpl := W.pl x (List.mem_of_getElem? hx)
      have hj : js[x.pl]? = some js[x.pl] := List.getElem?_eq_getElem hpl
      have eof : x.of js hh = decide (js[x.pl].h = hh) := by
        unfold WA.of
        rw [hj]
      generalize js[x.pl] = j at hj eof
      obtain ⟨rj, erj, hrj⟩ := W2.cj.at hj
      refine ⟨rfl, _, rfl, w, _, 0, _, rfl, rfl, SqL.of W2.w, rfl, _, rfl, r, _, 0, _, rfl, rfl, SqL.of hr2, rfl, lj, _, _, _, rfl, rfl, SqL.of W2.j, atI_nat (map_ref erj), rj, _, 0, _, rfl, rfl, SqL.of hrj, rfl, _, rfl, rfl, _, rfl, ?_⟩
      rw [take_succ_filter _ as hx, eof]
      by_cases e : j.h = hh
      · rw [decide_eq_true e]
        refine iteTd (congrArg V.str e) ⟨_, rfl, vs, hD, small1000 ?_, same_mut g2 nD, vs ++ [.ref r], upd_same, ?_⟩
        · rw [hl]
          exact Nat.le_trans (List.length_filter_le _ _) (by rw [List.length_take]; omega)
        · rw [List.length_append, List.length_append, hl, if_pos rfl]
          rfl
      · rw [decide_eq_false e]
        refine iteFd (fun z => e (V.str.inj z)) ⟨g2, vs, hD, ?_⟩
        rw [List.length_append, hl, if_neg (fun z => Bool.noConfusion z)]
        rfl
    · rintro H2 ⟨g2, vs, hD, hl⟩
      rw [List.length_map, W.ca.1, List.take_length] at hl
      have W2 := W.same g2
      refine ⟨_, rfl, w, _, 0, _, rfl, rfl, SqL.of W2.w, rfl, lj, rfl, ⟨_, SqL.of W2.j⟩, fun D2 nD2 => ?_⟩
      refine lc_list (K := K) (a := lj) (xs := rs.map V.ref) (fun i H' => Same H2 H' ∧ ∃ us : List V, H' D2 = some (.lst us) ∧ us.length = ((js.take i).filter fun j => decide (j.h = g)).length)
        ⟨same_upd nD2, [], upd_same, rfl⟩ (fun i H' _ h => SqL.of (h.1 _ _ W2.j)) ?_ ?_
      · rintro i v H3 hv ⟨g3, us, hD3, hl3⟩
        rw [List.getElem?_map] at hv
        obtain ⟨r, hr1, rfl⟩ := Option.map_eq_some_iff.mp hv
        have hi : i < js.length := by rw [← W.cj.1]; exact (List.getElem?_eq_some_iff.mp hr1).1
        have hx : js[i]? = some js[i] := List.getElem?_eq_getElem hi
        generalize js[i] = j at hx
        have hr3 := (W2.same g3).cj.2 i r j hr1 hx
        refine ⟨rfl, _, rfl, r, _, 0, _, rfl, rfl, SqL.of hr3, rfl, _, rfl, rfl, _, rfl, ?_⟩
        rw [take_succ_filter _ js hx]
        by_cases e : j.h = g
        · rw [decide_eq_true e]
          refine iteTd (congrArg V.str e) ⟨_, rfl, us, hD3, small1000 ?_, same_mut g3 nD2, us ++ [.ref r], upd_same, ?_⟩
          · rw [hl3]
            exact Nat.le_trans (List.length_filter_le _ _) (by rw [List.length_take]; omega)
          · rw [List.length_append, List.length_append, hl3, if_pos rfl]
            rfl
        · rw [decide_eq_false e]
          refine iteFd (fun z => e (V.str.inj z)) ⟨g3, us, hD3, ?_⟩
          rw [List.length_append, hl3, if_neg (fun z => Bool.noConfusion z)]
          rfl
      · rintro H3 ⟨g3, us, hD3, hl3⟩
        rw [List.length_map, W.cj.1, List.take_length] at hl3
        have W3 := W2.same g3
        have g13 := g2.trans g3
        refine ⟨_, rfl, D, _, rfl, .inl (SqL.of (g3 _ _ hD)), _, _, rfl, rfl, _, rfl, ?_⟩
        have na : vs.length = nA js as hh := hl
        have nj : us.length = nJ js g := hl3
        refine ite2 (fun e1 => ?_) (fun e1 => ?_)
        · have e1 := of_decide_eq_true e1
          refine ⟨_, rfl, D2, _, rfl, .inl (SqL.of hD3), _, _, rfl, rfl, _, rfl, ite2 (fun e2 => ?_) (fun e2 => ?_)⟩
          · have e2 := of_decide_eq_true e2
            refine ⟨_, rfl, w, _, 0, _, rfl, rfl, SqL.of W3.w, rfl, lj, _, rfl, .inl (SqL.of W3.j), _, rfl, w, _, 2, _, rfl, rfl, SqL.of W3.w, rfl, _, _, rfl, rfl, ?_⟩
            refine q _ _ g13 ?_
            rw [decide_eq_true_iff, List.length_map, W.cj.1]
            exact ⟨fun z => ⟨by omega, by omega, z⟩, fun z => z.2.2⟩
          · have e2 := fun z => e2 (decide_eq_true z)
            exact q _ _ g13 ⟨fun z => Bool.noConfusion z, fun z => absurd (show (us.length : Int) < 15 by have := z.2.1; omega) e2⟩
        · have e1 := fun z => e1 (decide_eq_true z)
          exact q _ _ g13 ⟨fun z => Bool.noConfusion z, fun z => absurd (show (vs.length : Int) < 15 by have := z.1; omega) e1⟩
/-! ### what a job with its asks brings -/
def Dn : Nat → Int
  | 0 => 5
  | n + 1 => 3 * Dn n + 17
theorem nJ_eq (js : List WJ) (h : Str) : nJ js h = (js.map WJ.h).countP fun z => decide (z = h) := by
  unfold nJ
  rw [List.countP_map, List.countP_eq_length_filter]
  rfl
theorem of_eq (js : List WJ) (x : WA) (h : Str) : x.of js h = decide ((js.map WJ.h)[x.pl]? = some h) := by
  unfold WA.of
  rw [List.getElem?_map]
  cases js[x.pl]? with
  | none => simp
  | some j => simp
theorem nA_congr {js js2 : List WJ} (as : List WA) (h : Str) (e : ∀ x ∈ as, (js.map WJ.h)[x.pl]? = (js2.map WJ.h)[x.pl]?) : nA js as h = nA js2 as h := by
  unfold nA
  congr 1
  refine List.filter_congr fun x hx => ?_
  rw [of_eq, of_eq, e x hx]
theorem nJ_snoc (js : List WJ) (j : WJ) (h : Str) : nJ (js ++ [j]) h = nJ js h + (if j.h = h then 1 else 0) := by
  unfold nJ
  rw [List.filter_append, List.length_append]
  congr 1
  by_cases e : j.h = h <;> simp [e]
theorem nA_snoc (js : List WJ) (as : List WA) (x : WA) (h : Str) : nA js (as ++ [x]) h = nA js as h + (if x.of js h = true then 1 else 0) := by
  unfold nA
  rw [List.filter_append, List.length_append]
  congr 1
  by_cases e : x.of js h = true <;> simp [e]
/-! the part of an ask that speaks of the job it led to -/
def ChildOk (n0 : Nat) (nj : List WJ) (x : WA) : Prop := n0 < x.ch ∧ x.pl < x.ch ∧ ∃ j, nj[x.ch - n0]? = some j ∧ j.h = x.g ∧ x.o ≤ j.b ∧ j.e ≤ x.k
structure AskOk (hs : List Str) (n0 : Nat) (nj : List WJ) (x : WA) : Prop where
  g : x.g ∈ hs
  lo : n0 ≤ x.pl
  par : ∃ j, nj[x.pl - n0]? = some j ∧ j.b < x.o ∧ x.o ≤ x.k ∧ x.k < j.e
  ch : ChildOk n0 nj x
structure JobPost (hs : List Str) (n0 : Nat) (start D : Int) (house : Str) (nj : List WJ) (na : List WA) (res : Int) : Prop where
  hd : ∃ j0 rest, nj = j0 :: rest ∧ j0.h = house ∧ j0.e = res
  jb : ∀ j ∈ nj, j.h ∈ hs ∧ start ≤ j.b ∧ j.b ≤ j.e ∧ j.e ≤ res
  rb : res ≤ start + D
  ab : ∀ x ∈ na, AskOk hs n0 nj x
  inc : (na.map WA.ch).Pairwise (· < ·)
  cnt : na.length + 1 = nj.length
theorem ChildOk.app {n0 : Nat} {nj : List WJ} {x : WA} (h : ChildOk n0 nj x) (more : List WJ) : ChildOk n0 (nj ++ more) x := by
  obtain ⟨h1, h2, j, e, r⟩ := h
  exact ⟨h1, h2, j, by rw [List.getElem?_append_left (List.getElem?_eq_some_iff.mp e).1]; exact e, r⟩
theorem AskOk.app {hs : List Str} {n0 : Nat} {nj : List WJ} {x : WA} (h : AskOk hs n0 nj x) (more : List WJ) : AskOk hs n0 (nj ++ more) x := by
  obtain ⟨h1, h2, ⟨j, e, r⟩, h4⟩ := h
  exact ⟨h1, h2, ⟨j, by rw [List.getElem?_append_left (List.getElem?_eq_some_iff.mp e).1]; exact e, r⟩, h4.app more⟩
theorem get_shift {A : Type} {n0 i : Nat} {xs ys : List A} {y : A} (hi : n0 + xs.length ≤ i) (e : ys[i - (n0 + xs.length)]? = some y) : (xs ++ ys)[i - n0]? = some y := by
  rw [List.getElem?_append_right (by omega), show i - n0 - xs.length = i - (n0 + xs.length) by omega]
  exact e
theorem AskOk.shift {hs : List Str} {n0 : Nat} {nj more : List WJ} {x : WA} (h : AskOk hs (n0 + nj.length) more x) : AskOk hs n0 (nj ++ more) x := by
  obtain ⟨h1, h2, ⟨j, e, r⟩, ⟨c1, c2, j', e', r'⟩⟩ := h
  exact ⟨h1, by omega, ⟨j, get_shift h2 e, r⟩, ⟨by omega, c2, j', get_shift (by omega) e', r'⟩⟩
/-! in the making: the asks of the job itself, those of the jobs under it -/
structure Half (hs : List Str) (n0 : Nat) (begin last now lim : Int) (house : Str) (nj : List WJ) (na : List WA) : Prop where
  hd : ∃ rest, nj = ⟨house, begin, begin⟩ :: rest ∧ ∀ j ∈ rest, j.h ∈ hs ∧ begin ≤ j.b ∧ j.b ≤ j.e ∧ j.e ≤ last
  nb : begin ≤ now
  nl : now ≤ last
  ll : last ≤ lim
  ab : ∀ x ∈ na, (x.pl = n0 ∧ x.g ∈ hs ∧ begin < x.o ∧ x.o ≤ x.k ∧ x.k ≤ last ∧ ChildOk n0 nj x) ∨ (n0 < x.pl ∧ AskOk hs n0 nj x)
  inc : (na.map WA.ch).Pairwise (· < ·)
  top : ∀ x ∈ na, x.ch < n0 + nj.length
  cnt : na.length + 1 = nj.length
theorem half_new {hs : List Str} {n0 : Nat} {begin : Int} {house : Str} : Half hs n0 begin begin begin begin house [⟨house, begin, begin⟩] [] :=
  ⟨⟨[], rfl, fun _ m => nomatch m⟩, Int.le_refl _, Int.le_refl _, Int.le_refl _, (fun _ m => nomatch m), List.Pairwise.nil, (fun _ m => nomatch m), rfl⟩
/-! one ask more, with what it led to -/
theorem Half.more {hs : List Str} {n0 : Nat} {begin last now lim out d t : Int} {house g : Str} {nj nj2 : List WJ} {na na2 : List WA} {res : Int} (h : Half hs n0 begin last now lim house nj na) (hg : g ∈ hs) (ho1 : now < out) (ho2 : out ≤ now + 2)
    (J : JobPost hs (n0 + nj.length) out d g nj2 na2 res) (t0 : 0 ≤ t) (t2 : t ≤ 2) (hd : 0 ≤ d) {now' : Int} (hn : now' = out ∨ now' = res + t) :
    Half hs n0 begin (max last (res + t)) now' (lim + d + 4) house (nj ++ nj2) (na ++ ⟨n0, g, out, res + t, n0 + nj.length⟩ :: na2) := by
  obtain ⟨⟨rest, rfl, hrest⟩, nb, nl, ll, ab, inc, top, cnt⟩ := h
  obtain ⟨⟨j0, r2, rfl, hj0, rfl⟩, jb, rb, ab2, inc2, cnt2⟩ := J
  have b0 := jb j0 List.mem_cons_self
  have ch2 : ∀ x ∈ na2, n0 + (⟨house, begin, begin⟩ :: rest : List WJ).length < x.ch := fun x m => (ab2 x m).ch.1
  refine ⟨⟨rest ++ j0 :: r2, rfl, fun j m => ?_⟩, ?_, ?_, ?_, fun x m => ?_, ?_, fun x m => ?_, ?_⟩
  · rcases List.mem_append.mp m with m | m
    · have := hrest j m
      exact ⟨this.1, this.2.1, this.2.2.1, by omega⟩
    · have := jb j m
      exact ⟨this.1, by omega, this.2.2.1, by omega⟩
  · omega
  · omega
  · omega
  · rcases List.mem_append.mp m with m | m
    · rcases ab x m with ⟨e, g1, o1, o2, o3, c1⟩ | ⟨e, a1⟩
      · exact .inl ⟨e, g1, o1, o2, by omega, c1.app _⟩
      · exact .inr ⟨e, a1.app _⟩
    · rcases List.mem_cons.mp m with e | m
      · subst e
        refine .inl ⟨rfl, hg, by show begin < out; omega, by show out ≤ j0.e + t; omega, by show j0.e + t ≤ max last (j0.e + t); omega, ?_, ?_, j0, ?_, hj0, b0.2.1, by show j0.e ≤ j0.e + t; omega⟩
        · show n0 < n0 + (rest.length + 1)
          omega
        · show n0 < n0 + (rest.length + 1)
          omega
        · exact get_shift (Nat.le_refl _) (by rw [Nat.sub_self]; rfl)
      · have a1 := ab2 x m
        have := a1.lo
        rw [List.length_cons] at this
        exact .inr ⟨by omega, a1.shift⟩
  · rw [List.map_append, List.map_cons]
    refine List.pairwise_append.mpr ⟨inc, List.pairwise_cons.mpr ⟨fun z m => ?_, inc2⟩, fun z m y m2 => ?_⟩
    · obtain ⟨x, mx, rfl⟩ := List.mem_map.mp m
      exact ch2 x mx
    · obtain ⟨x, mx, rfl⟩ := List.mem_map.mp m
      have h1 := top x mx
      rcases List.mem_cons.mp m2 with e | m2
      · subst e
        exact h1
      · obtain ⟨x2, mx2, rfl⟩ := List.mem_map.mp m2
        exact Nat.lt_trans h1 (ch2 x2 mx2)
  · rw [List.length_append]
    rcases List.mem_append.mp m with m | m
    · have := top x m
      omega
    · rcases List.mem_cons.mp m with e | m
      · subst e
        show n0 + (rest.length + 1) < n0 + ((rest.length + 1) + (r2.length + 1))
        omega
      · obtain ⟨c1, c2, j', e', _⟩ := (ab2 x m).ch
        have := (List.getElem?_eq_some_iff.mp e').1
        omega
  · rw [List.length_append, List.length_append, List.length_cons]
    omega
/-! the job ends -/
theorem Half.done {hs : List Str} {n0 : Nat} {begin last now lim start t D : Int} {house : Str} {nj : List WJ} {na : List WA} (h : Half hs n0 begin last now lim house nj na) (hh : house ∈ hs) (sb : start ≤ begin) (t0 : 0 ≤ t) (hD : lim + 1 + t ≤ start + D) :
    ∃ rest, nj = ⟨house, begin, begin⟩ :: rest ∧ JobPost hs n0 start D house (⟨house, begin, last + (if last > begin then 1 else 0) + t⟩ :: rest) na (last + (if last > begin then 1 else 0) + t) := by
  obtain ⟨⟨rest, rfl, hrest⟩, nb, nl, ll, ab, inc, top, cnt⟩ := h
  have he : last ≤ last + (if last > begin then 1 else 0) + t := by split <;> omega
  have hu : last + (if last > begin then 1 else 0) + t ≤ lim + 1 + t := by split <;> omega
  have chO : ∀ x : WA, ChildOk n0 (⟨house, begin, begin⟩ :: rest) x → ChildOk n0 (⟨house, begin, last + (if last > begin then 1 else 0) + t⟩ :: rest) x := by
    rintro x ⟨c1, c2, j, e, r⟩
    refine ⟨c1, c2, j, ?_, r⟩
    obtain ⟨k, hk⟩ : ∃ k, x.ch - n0 = k + 1 := ⟨x.ch - n0 - 1, by omega⟩
    rw [hk] at e ⊢
    exact e
  refine ⟨rest, rfl, ⟨_, rest, rfl, rfl, rfl⟩, fun j m => ?_, by omega, fun x m => ?_, inc, cnt⟩
  · rcases List.mem_cons.mp m with e | m
    · subst e
      exact ⟨hh, sb, by show begin ≤ last + (if last > begin then 1 else 0) + t; omega, Int.le_refl _⟩
    · have := hrest j m
      exact ⟨this.1, by omega, this.2.2.1, by omega⟩
  · rcases ab x m with ⟨e, g1, o1, o2, o3, c1⟩ | ⟨e, ⟨g1, lo, ⟨j, ej, r⟩, c1⟩⟩
    · refine ⟨g1, by omega, ⟨⟨house, begin, last + (if last > begin then 1 else 0) + t⟩, ?_, o1, o2, ?_⟩, chO x c1⟩
      · rw [e, Nat.sub_self]
        rfl
      · show x.k < last + (if last > begin then 1 else 0) + t
        rw [if_pos (by omega)]
        omega
    · refine ⟨g1, lo, ⟨j, ?_, r⟩, chO x c1⟩
      obtain ⟨k, hk⟩ : ∃ k, x.pl - n0 = k + 1 := ⟨x.pl - n0 - 1, by omega⟩
      rw [hk] at ej ⊢
      exact ej
/-! ### worlds on the heap -/
def Fr (p lj la : Addr) (H H' : Hp) : Prop := ∀ b o, b ≠ p → b ≠ lj → b ≠ la → H b = some o → H' b = some o
structure Apart (p c lj la : Addr) (rs qs : List Addr) : Prop where
  jl : lj ≠ la
  cj : c ≠ lj
  ca : c ≠ la
  pj : p ≠ lj
  pa : p ≠ la
  rn : rs.Nodup
  qn : qs.Nodup
theorem Fr.refl {p lj la : Addr} {H : Hp} : Fr p lj la H H := fun _ _ _ _ _ e => e
theorem Fr.trans {p lj la : Addr} {H H1 H2 : Hp} (a : Fr p lj la H H1) (b : Fr p lj la H1 H2) : Fr p lj la H H2 := fun x o h1 h2 h3 e => b x o h1 h2 h3 (a x o h1 h2 h3 e)
theorem Fr.stp {p c lj la : Addr} {H H1 : Hp} (s : Stp p c H H1) : Fr p lj la H H1 := fun x o h1 _ _ e => s.2 x o h1 e
theorem Fr.same {p lj la : Addr} {H H1 : Hp} (s : Same H H1) : Fr p lj la H H1 := fun x o _ _ _ e => s x o e
theorem cell_ne {H : Hp} {a b : Addr} {xs ys : List V} (ha : H a = some (.lst xs)) (hb : H b = some (.lst ys)) (h : xs ≠ ys) : a ≠ b := ne_of ha hb fun z => h (HO.lst.inj z)
theorem jv_ne {j : WJ} {v : V} {vs : List V} (h : ∀ x, v ≠ .str x) : j.v ≠ v :: vs := fun z => h _ (List.cons.inj z).1.symm
theorem av_ne {x : WA} {v : V} {vs : List V} (h : ∀ i, v ≠ .int i) : x.v ≠ v :: vs := fun z => h _ (List.cons.inj z).1.symm
theorem jv_av {j : WJ} {x : WA} : j.v ≠ x.v := fun z => by cases (List.cons.inj z).1
theorem refs_jv {rs : List Addr} {j : WJ} : rs.map V.ref ≠ j.v := by
  cases rs with
  | nil => exact fun z => nomatch z
  | cons r rs => exact fun z => by cases (List.cons.inj z).1
theorem refs_av {rs : List Addr} {x : WA} : rs.map V.ref ≠ x.v := by
  cases rs with
  | nil => exact fun z => nomatch z
  | cons r rs => exact fun z => by cases (List.cons.inj z).1
theorem refs_w {rs : List Addr} {a b : Addr} {m : Int} : rs.map V.ref ≠ [.ref a, .ref b, .int m] := by
  match rs with
  | [] => exact fun z => nomatch z
  | [r] => exact fun z => nomatch (List.cons.inj z).2
  | [r, s] => exact fun z => nomatch (List.cons.inj (List.cons.inj z).2).2
  | r :: s :: u :: v => exact fun z => by cases (List.cons.inj (List.cons.inj (List.cons.inj z).2).2).1
/-! any step that keeps all but p, when p is the pen -/
theorem Cells.keep {A : Type} {f : A → List V} {H H' : Hp} {rs : List Addr} {xs : List A} (h : Cells f H rs xs) (k : ∀ (i : Nat) (r : Addr) (x : A), rs[i]? = some r → xs[i]? = some x → H r = some (.lst (f x)) → H' r = some (.lst (f x))) : Cells f H' rs xs := ⟨h.1, fun i r x e1 e2 => k i r x e1 e2 (h.2 i r x e1 e2)⟩
theorem Cells.snoc {A : Type} {f : A → List V} {H : Hp} {rs : List Addr} {xs : List A} {r : Addr} {x : A} (h : Cells f H rs xs) (hr : H r = some (.lst (f x))) : Cells f H (rs ++ [r]) (xs ++ [x]) := by
  refine ⟨by rw [List.length_append, List.length_append, h.1]; rfl, fun i r' x' e1 e2 => ?_⟩
  by_cases hi : i < rs.length
  · rw [List.getElem?_append_left hi] at e1
    rw [List.getElem?_append_left (by rw [← h.1]; exact hi)] at e2
    exact h.2 i r' x' e1 e2
  · rw [List.getElem?_append_right (by omega)] at e1
    rw [List.getElem?_append_right (by rw [← h.1]; omega), ← h.1] at e2
    cases hk : i - rs.length with
    | zero =>
      rw [hk] at e1 e2
      obtain rfl := Option.some.inj e1
      obtain rfl := Option.some.inj e2
      exact hr
    | succ k =>
      rw [hk] at e1
      cases e1
theorem WorldAt.stp {p c w lj la : Addr} {H H' : Hp} {rs qs : List Addr} {js : List WJ} {as : List WA} {most : Int} (h : WorldAt H w lj la rs qs js as most) (hP : Pen H p c) (s : Stp p c H H') (ap : Apart p c lj la rs qs) : WorldAt H' w lj la rs qs js as most := by
  obtain ⟨cs, n, st, h1, _⟩ := hP
  refine ⟨s.2 _ _ (cell_ne h.w h1 fun z => by cases (List.cons.inj (List.cons.inj z).2).1) h.w, s.2 _ _ (Ne.symm ap.pj) h.j, s.2 _ _ (Ne.symm ap.pa) h.a, h.cj.keep fun i r x _ _ e => s.2 _ _ (cell_ne e h1 (jv_ne fun x z => by cases z)) e, h.ca.keep fun i r x _ _ e => s.2 _ _ (cell_ne e h1 (av_ne fun x z => by cases z)) e, h.pl⟩
theorem WorldAt.addJ {w lj la r : Addr} {H : Hp} {rs qs : List Addr} {js : List WJ} {as : List WA} {most : Int} {j : WJ} (h : WorldAt H w lj la rs qs js as most) (hjl : lj ≠ la) (nr : H r = none) : WorldAt (upd (upd H r (.lst j.v)) lj (.lst (rs.map V.ref ++ [.ref r]))) w lj la (rs ++ [r]) qs (js ++ [j]) as most := by
  have s := same_upd (o := .lst j.v) nr
  have rl : r ≠ lj := fun e => ne_of_none h.j nr e.symm
  refine ⟨?_, ?_, ?_, ?_, ?_, fun x m => ?_⟩
  · rw [upd_ne (cell_ne h.w h.j fun z => refs_w z.symm)]
    exact s _ _ h.w
  · rw [upd_same, List.map_append]
    rfl
  · rw [upd_ne (Ne.symm hjl)]
    exact s _ _ h.a
  · refine Cells.snoc (h.cj.keep fun i r' x _ _ e => ?_) ?_
    · rw [upd_ne (cell_ne e h.j fun z => refs_jv z.symm)]
      exact s _ _ e
    · rw [upd_ne rl, upd_same]
  · refine h.ca.keep fun i r' x _ _ e => ?_
    rw [upd_ne (cell_ne e h.j fun z => refs_av z.symm)]
    exact s _ _ e
  · rw [List.length_append]
    exact Nat.lt_of_lt_of_le (h.pl x m) (Nat.le_add_right _ _)
theorem WorldAt.addA {w lj la r : Addr} {H : Hp} {rs qs : List Addr} {js : List WJ} {as : List WA} {most : Int} {x : WA} (h : WorldAt H w lj la rs qs js as most) (hjl : lj ≠ la) (hr : H r = some (.lst x.v)) (hp : x.pl < js.length) : WorldAt (upd H la (.lst (qs.map V.ref ++ [.ref r]))) w lj la rs (qs ++ [r]) js (as ++ [x]) most := by
  refine ⟨?_, ?_, ?_, ?_, ?_, fun y m => ?_⟩
  · rw [upd_ne (cell_ne h.w h.a fun z => refs_w z.symm)]
    exact h.w
  · rw [upd_ne hjl]
    exact h.j
  · rw [upd_same, List.map_append]
    rfl
  · refine h.cj.keep fun i r' x _ _ e => ?_
    rw [upd_ne (cell_ne e h.a fun z => refs_jv z.symm)]
    exact e
  · refine Cells.snoc (h.ca.keep fun i r' x _ _ e => ?_) ?_
    · rw [upd_ne (cell_ne e h.a fun z => refs_av z.symm)]
      exact e
    · rw [upd_ne (cell_ne hr h.a fun z => refs_av z.symm)]
      exact hr
  · rcases List.mem_append.mp m with m | m
    · exact h.pl y m
    · rw [List.mem_singleton.mp m]
      exact hp
theorem Cells.put {A : Type} {f : A → List V} {H : Hp} {rs : List Addr} {xs : List A} {r : Addr} {x : A} {k : Nat} (h : Cells f H rs xs) (nd : rs.Nodup) (hr : rs[k]? = some r) : Cells f (upd H r (.lst (f x))) rs (xs.set k x) := by
  refine ⟨by rw [List.length_set]; exact h.1, fun i r' x' e1 e2 => ?_⟩
  by_cases hi : i = k
  · subst hi
    obtain rfl : r = r' := Option.some.inj (hr.symm.trans e1)
    have hk : i < xs.length := by rw [← h.1]; exact (List.getElem?_eq_some_iff.mp e1).1
    rw [List.getElem?_set_self hk] at e2
    rw [upd_same, Option.some.inj e2]
  · rw [List.getElem?_set_ne (Ne.symm hi)] at e2
    have hne : r' ≠ r := fun z => by
      subst z
      obtain ⟨a1, a2⟩ := List.getElem?_eq_some_iff.mp e1
      obtain ⟨b1, b2⟩ := List.getElem?_eq_some_iff.mp hr
      exact hi ((List.getElem_inj nd).mp (a2.trans b2.symm))
    rw [upd_ne hne]
    exact h.2 i r' x' e1 e2
theorem WorldAt.setJ {w lj la r : Addr} {H : Hp} {rs qs : List Addr} {js : List WJ} {as : List WA} {most : Int} {j j0 : WJ} {k : Nat} (h : WorldAt H w lj la rs qs js as most) (nd : rs.Nodup) (hr : rs[k]? = some r) (hj : js[k]? = some j0) : WorldAt (upd H r (.lst j.v)) w lj la rs qs (js.set k j) as most := by
  have hH := h.cj.2 k r j0 hr hj
  refine ⟨?_, ?_, ?_, h.cj.put nd hr, ?_, fun x m => ?_⟩
  · rw [upd_ne (cell_ne h.w hH fun z => jv_ne (fun x z => by cases z) z.symm)]
    exact h.w
  · rw [upd_ne (cell_ne h.j hH refs_jv)]
    exact h.j
  · rw [upd_ne (cell_ne h.a hH refs_jv)]
    exact h.a
  · refine h.ca.keep fun i r' x _ _ e => ?_
    rw [upd_ne (cell_ne e hH fun z => jv_av z.symm)]
    exact e
  · rw [List.length_set]
    exact h.pl x m
theorem WorldAt.setA {w lj la r : Addr} {H : Hp} {rs qs : List Addr} {js : List WJ} {as : List WA} {most : Int} {x x0 : WA} {k : Nat} (h : WorldAt H w lj la rs qs js as most) (nd : qs.Nodup) (hr : qs[k]? = some r) (hx : as[k]? = some x0) (hp : x.pl = x0.pl) : WorldAt (upd H r (.lst x.v)) w lj la rs qs js (as.set k x) most := by
  have hH := h.ca.2 k r x0 hr hx
  refine ⟨?_, ?_, ?_, ?_, h.ca.put nd hr, fun y m => ?_⟩
  · rw [upd_ne (cell_ne h.w hH fun z => av_ne (fun x z => by cases z) z.symm)]
    exact h.w
  · rw [upd_ne (cell_ne h.j hH refs_av)]
    exact h.j
  · rw [upd_ne (cell_ne h.a hH refs_av)]
    exact h.a
  · refine h.cj.keep fun i r' y _ _ e => ?_
    rw [upd_ne (cell_ne e hH jv_av)]
    exact e
  · rcases List.mem_or_eq_of_mem_set m with m | e
    · exact h.pl y m
    · rw [e, hp]
      exact h.pl x0 (List.mem_of_getElem? hx)
theorem Pen.put {p c l : Addr} {H : Hp} {o : HO} (h : Pen H p c) (hp : p ≠ l) (hc : c ≠ l) : Pen (upd H l o) p c := by
  obtain ⟨cs, n, st, h1, h2, h3, h4⟩ := h
  exact ⟨cs, n, st, by rw [upd_ne hp]; exact h1, by rw [upd_ne hc]; exact h2, h3, h4⟩
theorem Cells.nin {A : Type} {f : A → List V} {H : Hp} {rs : List Addr} {xs : List A} {r : Addr} (h : Cells f H rs xs) (nr : H r = none) : r ∉ rs := fun m => by
  obtain ⟨i, hi, e⟩ := List.getElem_of_mem m
  have hi' : i < xs.length := by rw [← h.1]; exact hi
  have := h.2 i r xs[i] (by rw [List.getElem?_eq_getElem hi, e]) (List.getElem?_eq_getElem hi')
  rw [nr] at this
  cases this
theorem nodup_snoc {rs : List Addr} {r : Addr} (nd : rs.Nodup) (h : r ∉ rs) : (rs ++ [r]).Nodup := List.nodup_append.mpr ⟨nd, List.pairwise_singleton _ _, fun a ha b hb e => h (by rw [List.mem_singleton.mp hb] at e; rw [← e]; exact ha)⟩
theorem nA_more (js more : List WJ) (as : List WA) (h : Str) (hp : ∀ x ∈ as, x.pl < js.length) : nA (js ++ more) as h = nA js as h := nA_congr as h fun x m => by rw [List.map_append, List.getElem?_append_left (by rw [List.length_map]; exact hp x m)]
theorem Pen.cellJ {p c r : Addr} {H : Hp} {j : WJ} {o : HO} (h : Pen H p c) (hr : H r = some (.lst j.v)) : Pen (upd H r o) p c := by
  have h' := h
  obtain ⟨cs, n, st, h1, h2, _⟩ := h'
  refine h.put (Ne.symm (cell_ne hr h1 (jv_ne fun x z => by cases z))) (Ne.symm (cell_ne hr h2 ?_))
  cases cs with
  | nil => exact fun z => nomatch z
  | cons x xs => exact fun z => by cases (List.cons.inj z).1
theorem Pen.cellA {p c r : Addr} {H : Hp} {x : WA} {o : HO} (h : Pen H p c) (hr : H r = some (.lst x.v)) : Pen (upd H r o) p c := by
  have h' := h
  obtain ⟨cs, n, st, h1, h2, _⟩ := h'
  refine h.put (Ne.symm (cell_ne hr h1 (av_ne fun x z => by cases z))) (Ne.symm (cell_ne hr h2 ?_))
  match cs with
  | [] => exact fun z => nomatch z
  | [y] => exact fun z => nomatch (List.cons.inj z).2
  | y :: z :: ys => exact fun z => by cases (List.cons.inj (List.cons.inj z).2).1
theorem set_at {A : Type} (xs ys : List A) (y z : A) : (xs ++ y :: ys).set xs.length z = xs ++ z :: ys := by
  rw [List.set_append_right _ _ (Nat.le_refl _), Nat.sub_self]
  rfl
theorem get_at {A : Type} (xs ys : List A) (y : A) : (xs ++ y :: ys)[xs.length]? = some y := by
  rw [List.getElem?_append_right (Nat.le_refl _), Nat.sub_self]
  rfl
def Fresh (H : Hp) (l : List Addr) : Prop := ∀ r ∈ l, H r = none
theorem Fresh.back {p c lj la : Addr} {H H1 : Hp} {l : List Addr} {xs ys : List V} (f : Fresh H1 l) (fr : Fr p lj la H H1) (hP : Pen H1 p c) (hj : H1 lj = some (.lst xs)) (ha : H1 la = some (.lst ys)) : Fresh H l := fun r m => by
  have n1 := f r m
  cases e : H r with
  | none => rfl
  | some o =>
    have k1 : r ≠ p := fun z => hP.neP n1 z.symm
    have k2 : r ≠ lj := fun z => ne_of_none hj n1 z.symm
    have k3 : r ≠ la := fun z => ne_of_none ha n1 z.symm
    rw [fr r o k1 k2 k3 e] at n1
    cases n1
theorem Fr.town {p c lj la t : Addr} {H H1 : Hp} {hs gs : List Str} {xs ys : List V} (fr : Fr p lj la H H1) (hP : Pen H p c) (hj : H lj = some (.lst xs)) (ha : H la = some (.lst ys)) (ht : TownAt H t hs gs) : TownAt H1 t hs gs := by
  have key : ∀ (b : Addr) (zs : List V), H b = some (.tup zs) → H1 b = some (.tup zs) := fun b zs e => fr b _ (hP.tup e) (ne_of e hj fun z => nomatch z) (ne_of e ha fun z => nomatch z) e
  obtain ⟨ta, tb, t1, t2, t3⟩ := ht
  exact ⟨ta, tb, key _ _ t1, key _ _ t2, key _ _ t3⟩
theorem Half.up {hs : List Str} {n0 : Nat} {begin last now lim lim' : Int} {house : Str} {nj : List WJ} {na : List WA} (h : Half hs n0 begin last now lim house nj na) (l : lim ≤ lim') : Half hs n0 begin last now lim' house nj na := ⟨h.hd, h.nb, h.nl, Int.le_trans h.ll l, h.ab, h.inc, h.top, h.cnt⟩
theorem Pen.sm {p c : Addr} {H H' : Hp} (h : Pen H p c) (s : Same H H') : Pen H' p c := by
  obtain ⟨cs, n, st, h1, h2, h3, h4⟩ := h
  exact ⟨cs, n, st, s _ _ h1, s _ _ h2, h3, h4⟩
theorem nA_swap (js : List WJ) (as1 as2 : List WA) {x x' : WA} (h : Str) (e : x.pl = x'.pl) : nA js (as1 ++ x :: as2) h = nA js (as1 ++ x' :: as2) h := by
  have eo : x.of js h = x'.of js h := by
    unfold WA.of
    rw [e]
  unfold nA
  rw [List.filter_append, List.filter_append, List.length_append, List.length_append, List.filter_cons, List.filter_cons, eo]
  split <;> rfl
/-! ### a job -/
def Cnt (js : List WJ) (as : List WA) : Prop := ∀ h, nJ js h ≤ 15 ∧ nA js as h ≤ 15
def sp_job (n : Nat) : Sp := fun vs H Q _ => ∃ (p c w lj la t : Addr) (hs gs : List Str) (rs qs : List Addr) (js : List WJ) (as : List WA) (most : Int) (house : Str) (start : Int) (deep : Nat), vs = [.ref p, .ref w, .ref t, .str house, .int start, .int (deep : Nat)] ∧ deep < n ∧
  Pen H p c ∧ TownAt H t hs gs ∧ 1 ≤ hs.length ∧ hs.length ≤ 6 ∧ WorldAt H w lj la rs qs js as most ∧ Apart p c lj la rs qs ∧ house ∈ hs ∧ (js.length : Int) < most ∧ most ≤ 100 ∧ as.length ≤ js.length ∧ Cnt js as ∧ nJ js house < 15 ∧
  ∀ (nr nq : List Addr) (nj : List WJ) (na : List WA) (res : Int) (H' : Hp), Fr p lj la H H' → Fresh H (nr ++ nq) → Pen H' p c → WorldAt H' w lj la (rs ++ nr) (qs ++ nq) (js ++ nj) (as ++ na) most → Apart p c lj la (rs ++ nr) (qs ++ nq) → JobPost hs js.length start (Dn deep) house nj na res → Cnt (js ++ nj) (as ++ na) → ((js ++ nj).length : Int) ≤ most → Q (.int res) H'
theorem ok_job_n (T : Txt K mg af fd) : ∀ n : Nat, FnOk P w K mg base CX0 (n + 3) (af 34) (fd 34) ["pen", "world", "town", "house", "start", "deep"] (sp_job n) := by
  intro n
  induction n with
  | zero => exact ⟨fun vs H Q E ⟨_, _, _, _, _, _, _, _, _, _, _, _, _, _, _, _, _, h, _⟩ => absurd h (Nat.not_lt_zero _), fun A outer s H args us vs Q E hr he hb hv ⟨_, _, _, _, _, _, _, _, _, _, _, _, _, _, _, _, _, h, _⟩ => absurd h (Nat.not_lt_zero _)⟩
  | succ n ih =>
    refine T.F_l_job.ok sc_l_job (fun vs H Q E h => ?_) (fun cdv A outer s H vs Q E hr h => ?_)
    · obtain ⟨p, c, w, lj, la, t, hs, gs, rs, qs, js, as, most, house, start, deep, rfl, _⟩ := h
      rfl
    · obtain ⟨p, c, w, lj, la, t, hs, gs, rs, qs, js, as, most, house, start, deep, rfl, hdn, hP, ht, l1, l6, W, ap, hh, hm, hm100, hal, hC, hJ, q⟩ := h
      refine ⟨_, (pss_cons (ps_set (i := 6) sc_l_job.nd rfl (by first | exact Or.inl rfl | exact Or.inr rfl) (pe_callB call_len_seq (by rfl) T.m_len (by decide +kernel) (pa_cons (pe_ix ix_list (pv 1) pe_int (fun _ _ => rfl)) pa_nil)))
        (pss_cons (ps_set (i := 7) sc_l_job.nd rfl (by first | exact Or.inl rfl | exact Or.inr rfl) (pe_op op_add (pv 4) (pe_call (ok_l_take T) (hr.mono (by first | decide | omega)) (by rfl) T.g_l_take T.F_l_take.kp T.b_l_take .nil pass0 (pa_cons (pv 0) (pa_cons pe_int pa_nil)))))
        (pss_cons (ps_set (i := 8) sc_l_job.nd rfl (by first | exact Or.inl rfl | exact Or.inr rfl) (pv 7))
        (pss_cons (ps_set (i := 9) sc_l_job.nd rfl (by first | exact Or.inl rfl | exact Or.inr rfl) (pv 7))
        (pss_cons (ps_expr (pe_bm PySem.F.plainAttrs_list PySem.F.slot_list_append PySem.F.type_list_append mt_append (pe_ix ix_list (pv 1) pe_int (fun _ _ => rfl)) (pa_cons (pe_lst (pa_cons (pv 3) (pa_cons (pv 7) (pa_cons (pv 7) pa_nil)))) pa_nil)))
        (pss_cons (ps_for PassesOwn.never rfl (pi_range1 (by rfl) T.m_range (pa_cons (pe_op op_mul (pe_call (ok_l_take T) (hr.mono (by first | decide | omega)) (by rfl) T.g_l_take T.F_l_take.kp T.b_l_take .nil pass0 (pa_cons (pv 0) (pa_cons pe_int pa_nil))) (pe_callTy call_int1 (by rfl) T.m_int (by decide +kernel) (pa_cons (pe_cmpR op_gt (pv 5) pe_int (nomark _)) pa_nil))) pa_nil)) (pg_name (i := 10) sc_l_job.nd rfl (by first | exact Or.inl rfl | exact Or.inr rfl)) (pss_cons (ps_set (i := 11) sc_l_job.nd rfl (by first | exact Or.inl rfl | exact Or.inr rfl) (pe_ix ix_tup (pe_ix ix_tup (pv 2) pe_int (fun _ _ => rfl)) (pe_call (ok_l_take T) (hr.mono (by first | decide | omega)) (by rfl) T.g_l_take T.F_l_take.kp T.b_l_take .nil pass0 (pa_cons (pv 0) (pa_cons (pe_callB call_len_seq (by rfl) T.m_len (by decide +kernel) (pa_cons (pe_ix ix_tup (pv 2) pe_int (fun _ _ => rfl)) pa_nil)) pa_nil))) (fun _ _ => rfl)))
        (pss_one (ps_if (pt_val (pe_call (ok_l_room T) (hr.mono (by first | decide | omega)) (by rfl) T.g_l_room T.F_l_room.kp T.b_l_room .nil pass0 (pa_cons (pv 1) (pa_cons (pv 3) (pa_cons (pv 11) pa_nil))))) (pss_cons (ps_set (i := 12) sc_l_job.nd rfl (by first | exact Or.inl rfl | exact Or.inr rfl) (pe_op op_add (pe_op op_add (pv 9) pe_int) (pe_call (ok_l_take T) (hr.mono (by first | decide | omega)) (by rfl) T.g_l_take T.F_l_take.kp T.b_l_take .nil pass0 (pa_cons (pv 0) (pa_cons pe_int pa_nil)))))
        (pss_cons (ps_set (i := 13) sc_l_job.nd rfl (by first | exact Or.inl rfl | exact Or.inr rfl) (pe_lst (pa_cons (pv 6) (pa_cons (pv 11) (pa_cons (pv 12) (pa_cons (pv 12) (pa_cons (pe_callB call_len_seq (by rfl) T.m_len (by decide +kernel) (pa_cons (pe_ix ix_list (pv 1) pe_int (fun _ _ => rfl)) pa_nil)) pa_nil)))))))
        (pss_cons (ps_expr (pe_bm PySem.F.plainAttrs_list PySem.F.slot_list_append PySem.F.type_list_append mt_append (pe_ix ix_list (pv 1) pe_int (fun _ _ => rfl)) (pa_cons (pv 13) pa_nil)))
        (pss_cons (ps_asg (pe_op op_add (pe_call ih (hr.mono (by omega)) (by rfl) T.g_l_job T.F_l_job.kp T.b_l_job .nil pass0 (pa_cons (pv 0) (pa_cons (pv 1) (pa_cons (pv 2) (pa_cons (pv 11) (pa_cons (pv 12) (pa_cons (pe_op op_sub (pv 5) pe_int) pa_nil))))))) (pe_call (ok_l_take T) (hr.mono (by first | decide | omega)) (by rfl) T.g_l_take T.F_l_take.kp T.b_l_take .nil pass0 (pa_cons (pv 0) (pa_cons pe_int pa_nil)))) (pg_sub (pv 13) pe_int set_list))
        (pss_cons (ps_set (i := 8) sc_l_job.nd rfl (by first | exact Or.inl rfl | exact Or.inr rfl) (pe_callB (call_max2 rfl) (by rfl) T.m_max (by decide +kernel) (pa_cons (pv 8) (pa_cons (pe_ix ix_list (pv 13) pe_int (fun _ _ => rfl)) pa_nil))))
        (pss_one (ps_set (i := 9) sc_l_job.nd rfl (by first | exact Or.inl rfl | exact Or.inr rfl) (pe_ix ix_list (pe_lst (pa_cons (pv 12) (pa_cons (pe_ix ix_list (pv 13) pe_int (fun _ _ => rfl)) pa_nil))) (pe_call (ok_l_take T) (hr.mono (by first | decide | omega)) (by rfl) T.g_l_take T.F_l_take.kp T.b_l_take .nil pass0 (pa_cons (pv 0) (pa_cons pe_int pa_nil))) (fun _ _ => rfl))))))))) pss_nil))))
        (pss_cons (ps_asg (pe_op op_add (pe_op op_add (pv 8) (pe_callTy call_int1 (by rfl) T.m_int (by decide +kernel) (pa_cons (pe_cmpR op_gt (pv 8) (pv 7) (nomark _)) pa_nil))) (pe_call (ok_l_take T) (hr.mono (by first | decide | omega)) (by rfl) T.g_l_take T.F_l_take.kp T.b_l_take .nil pass0 (pa_cons (pv 0) (pa_cons pe_int pa_nil)))) (pg_sub (pe_ix ix_list (pe_ix ix_list (pv 1) pe_int (fun _ _ => rfl)) (pv 6) (fun _ _ => rfl)) pe_int set_list))
        (pss_one (ps_ret (pe_ix ix_list (pe_ix ix_list (pe_ix ix_list (pv 1) pe_int (fun _ _ => rfl)) (pv 6) (fun _ _ => rfl)) pe_int (fun _ _ => rfl))))))))))), ?_⟩
      have hlr : (rs.map V.ref).length = js.length := by rw [List.length_map]; exact W.cj.1
      refine ⟨_, rfl, w, _, 0, _, rfl, rfl, SqL.of W.w, rfl, lj, _, rfl, .inl (SqL.of W.j), ?_⟩
      rw [hlr]
      refine ⟨_, rfl, _, rfl, p, c, 3, rfl, hP, by decide, by decide, fun r1 H1 r10 r11 s1 => ⟨_, _, rfl, rfl, ?_⟩⟩
      have W1 := W.stp hP s1 ap
      refine ⟨_, rfl, _, rfl, ?_⟩
      refine ⟨_, rfl, w, _, 0, _, rfl, rfl, SqL.of W1.w, rfl, .inl ⟨rfl, _, SqL.of W1.j⟩, _, rfl, _, rfl, _, rfl, (by show 3 ≤ sizeLine; decide), fun r nr => ⟨lj, _, _, rfl, rfl, same_upd nr _ _ W1.j, small1000 (by omega), ?_⟩⟩
      have W2 := W1.addJ (j := ⟨house, start + r1, start + r1⟩) ap.jl nr
      have hP2 : Pen (upd (upd H1 r (.lst (WJ.v ⟨house, start + r1, start + r1⟩))) lj (.lst (rs.map V.ref ++ [.ref r]))) p c := ((s1.1).put (s1.1.neP nr) (s1.1.neC nr)).put ap.pj ap.cj
      have fr2 : Fr p lj la H (upd (upd H1 r (.lst (WJ.v ⟨house, start + r1, start + r1⟩))) lj (.lst (rs.map V.ref ++ [.ref r]))) := fun b o hbp hbj hba e => by
        rw [upd_ne hbj]
        exact same_upd nr _ _ (s1.2 b o hbp e)
      have ap2 : Apart p c lj la (rs ++ [r]) qs := ⟨ap.jl, ap.cj, ap.ca, ap.pj, ap.pa, nodup_snoc ap.rn (W1.cj.nin nr), ap.qn⟩
      show tSeq _ _ _ _ (upd (upd H1 r (.lst (WJ.v ⟨house, start + r1, start + r1⟩))) lj (.lst (rs.map V.ref ++ [.ref r])))
      generalize upd (upd H1 r (.lst (WJ.v ⟨house, start + r1, start + r1⟩))) lj (.lst (rs.map V.ref ++ [.ref r])) = H2 at W2 hP2 fr2 ⊢
      refine ⟨_, rfl, p, c, 4, rfl, hP2, by decide, by decide, fun m H3 m0 m1 s3 => ?_⟩
      refine ⟨_, rfl, _, _, rfl, rfl, .inr ⟨_, rfl, _, _, rfl, rfl, .inl ⟨by omega, by omega⟩, ?_⟩⟩
      have ht3 : TownAt H3 t hs gs := by
        obtain ⟨ta, tb, t1, t2, t3⟩ := s1.town hP ht
        have key : ∀ (b : Addr) (xs : List V), H b = some (.tup xs) → H3 b = some (.tup xs) := fun b xs e => s3.tup hP2 (fr2 b _ (hP.tup e) (ne_of e W.j fun z => nomatch z) (ne_of e W.a fun z => nomatch z) e)
        obtain ⟨ta, tb, t1, t2, t3⟩ := ht
        exact ⟨ta, tb, key _ _ t1, key _ _ t2, key _ _ t3⟩
      have W3 := W2.stp hP2 s3 ap2
      have cnt0 : Cnt (js ++ [⟨house, start + r1, start + r1⟩]) as := fun h => ⟨by
        rw [nJ_snoc]
        by_cases e : house = h
        · subst e
          rw [if_pos rfl]
          omega
        · rw [if_neg e]
          exact (hC h).1, by
        rw [nA_more _ _ _ _ W.pl]
        exact (hC h).2⟩
      have nar : ∀ deep' : Nat, (Dn deep' : Int) ≥ 4 := fun d => by
        induction d with
        | zero => exact (by decide : (5 : Int) ≥ 4)
        | succ d ihd => show 3 * Dn d + 17 ≥ 4; omega
      refine ⟨_, rfl, ?_, ?_, for_range (lo := 0) (n := (m * (if decide ((0 : Int) < (deep : Nat)) = true then 1 else 0)).toNat) (fun i σ H' => ∃ (last now : Int), (∃ v10 v11 v12 v13 : Option V, σ = [some (.ref p), some (.ref w), some (.ref t), some (.str house), some (.int start), some (.int (deep : Nat)), some (.int (js.length : Nat)), some (.int (start + r1)), some (.int last), some (.int now), v10, v11, v12, v13]) ∧
          ∃ nr nq nj na, Fr p lj la H H' ∧ Fresh H (nr ++ nq) ∧ Pen H' p c ∧ WorldAt H' w lj la (rs ++ nr) (qs ++ nq) (js ++ nj) (as ++ na) most ∧ Apart p c lj la (rs ++ nr) (qs ++ nq) ∧ Half hs js.length (start + r1) last now (start + r1 + (i : Nat) * (Dn (deep - 1) + 4)) house nj na ∧ Cnt (js ++ nj) (as ++ na) ∧ ((js ++ nj).length : Int) ≤ most)
        ⟨start + r1, start + r1, ⟨none, none, none, none, rfl⟩, [r], [], [_], [], fr2.trans (Fr.stp s3), (fun z mz => by rw [List.append_nil] at mz; rw [List.mem_singleton.mp mz]; exact s1.back hP nr), s3.1, by rw [List.append_nil, List.append_nil]; exact W3, by rw [List.append_nil]; exact ap2, ?_, by rw [List.append_nil]; exact cnt0, ?_⟩ ?_ ?_⟩
      · split <;> omega
      · split <;> omega
      · have h := half_new (hs := hs) (n0 := js.length) (begin := start + r1) (house := house)
        rw [show start + r1 + ((0 : Nat) : Int) * (Dn (deep - 1) + 4) = start + r1 by omega]
        exact h
      · rw [List.length_append]
        show ((js.length + 1 : Nat) : Int) ≤ most
        omega
      · rintro i σ G hi ⟨last, now, ⟨v10, v11, v12, v13, rfl⟩, nr', nq, nj, na, fr, frs, hPG, WG, apG, hH, cG, lG⟩
        have hdp : 0 < deep := by
          rcases Nat.eq_zero_or_pos deep with e | e
          · subst e
            simp at hi
          · exact e
        have D4 := nar (deep - 1)
        have estep : start + r1 + ((i + 1 : Nat) : Int) * (Dn (deep - 1) + 4) = start + r1 + (i : Nat) * (Dn (deep - 1) + 4) + Dn (deep - 1) + 4 := by
          rw [Int.natCast_add, Int.add_mul]
          show start + r1 + (_ + 1 * (Dn (deep - 1) + 4)) = _
          omega
        obtain ⟨ta, tb, t1, t2, t3⟩ := fr.town hP W.j W.a ht
        have lb : 0 < ((hs.map V.str).length : Int) := by rw [List.length_map]; omega
        have lc : ((hs.map V.str).length : Int).natAbs < 2 ^ 100 := by
          rw [List.length_map]
          exact Nat.lt_of_le_of_lt (show _ ≤ 6 by omega) (by decide)
        have hcnt := hH.cnt
        have lJ : (js ++ nj).length = js.length + nj.length := List.length_append
        have lA : (as ++ na).length = as.length + na.length := List.length_append
        refine ⟨_, rfl, t, _, 0, _, rfl, rfl, SqT.of t1, rfl, _, rfl, _, rfl, t, _, 0, _, rfl, rfl, SqT.of t1, rfl, ta, _, rfl, .inr (SqT.of t2), p, c, _, rfl, hPG, lb, lc, fun z G1 z0 z1 s5 => ?_⟩
        obtain ⟨g, mg2, eg⟩ := pick_house z0 z1
        refine ⟨ta, _, z, _, rfl, rfl, SqT.of (s5.tup hPG t2), eg, ?_⟩
        have W5 := WG.stp hPG s5 apG
        refine ⟨_, rfl, _, rfl, _, rfl, w, lj, la, _, _, _, _, most, house, g, rfl, W5, by omega, by omega, fun b G2 g2 hb => ⟨b, rfl, ?_⟩⟩
        have W6 := W5.same g2
        have hP6 := s5.1.sm g2
        have fr6 := (fr.trans (Fr.stp s5)).trans (Fr.same g2)
        cases b with
        | false => exact iteF ⟨last, now, ⟨_, _, _, _, rfl⟩, nr', nq, nj, na, fr6, frs, hP6, W6, apG, hH.up (by omega), cG, lG⟩
        | true =>
          obtain ⟨ra, rj, rm⟩ := hb.mp rfl
          refine iteT ⟨_, rfl, _, _, rfl, rfl, _, rfl, p, c, 2, rfl, hP6, by decide, by decide, fun o2 G3 o20 o21 s6 => ⟨_, _, rfl, rfl, ?_⟩⟩
          have W7 := W6.stp hP6 s6 apG
          have fr7 := fr6.trans (Fr.stp s6)
          refine ⟨_, rfl, _, rfl, _, rfl, _, rfl, _, rfl, w, _, 0, _, rfl, rfl, SqL.of W7.w, rfl, lj, _, rfl, .inl (SqL.of W7.j), (by show 5 ≤ sizeLine; decide), fun qa nqa => ?_⟩
          have eln : ((rs ++ nr').map V.ref).length = (js ++ nj).length := by rw [List.length_map]; exact WG.cj.1
          rw [eln]
          obtain ⟨x, ex⟩ : ∃ x : WA, x = ⟨js.length, g, now + 1 + o2, now + 1 + o2, (js ++ nj).length⟩ := ⟨_, rfl⟩
          obtain ⟨G4, eG4, g4, hqa⟩ : ∃ G4, upd G3 qa (.lst x.v) = G4 ∧ Same G3 G4 ∧ G4 qa = some (.lst x.v) := ⟨_, rfl, same_upd nqa, upd_same⟩
          have eG4' : upd G3 qa (.lst [.int (js.length : Nat), .str g, .int (now + 1 + o2), .int (now + 1 + o2), .int ((js ++ nj).length : Nat)]) = G4 := by rw [← eG4, ex]; rfl
          dsimp only
          rw [eG4']
          have W8 := W7.same g4
          refine ⟨_, rfl, w, _, 1, _, rfl, rfl, SqL.of W8.w, rfl, .inl ⟨rfl, _, SqL.of W8.a⟩, _, rfl, la, _, _, rfl, rfl, W8.a, small1000 (by rw [List.length_map, WG.ca.1]; omega), ?_⟩
          have W9 := W8.addA apG.jl hqa (by rw [ex]; show js.length < (js ++ nj).length; omega)
          have hqn : qa ∉ qs ++ nq := W7.ca.nin nqa
          have ap9 : Apart p c lj la (rs ++ nr') (qs ++ nq ++ [qa]) := ⟨apG.jl, apG.cj, apG.ca, apG.pj, apG.pa, apG.rn, nodup_snoc apG.qn hqn⟩
          have hP9 : Pen (upd G4 la (.lst ((qs ++ nq).map V.ref ++ [.ref qa]))) p c := (s6.1.sm g4).put apG.pa apG.ca
          have fr9 : Fr p lj la H (upd G4 la (.lst ((qs ++ nq).map V.ref ++ [.ref qa]))) := fun b o h1 h2 h3 e => by
            rw [upd_ne h3]
            exact g4 _ _ (fr7 b o h1 h2 h3 e)
          have qaH : H qa = none := by
            have := Fresh.back (l := [qa]) (fun r m => by rw [List.mem_singleton.mp m]; exact nqa) fr7 s6.1 W7.j W7.a
            exact this qa List.mem_cons_self
          have hq9 : (upd G4 la (.lst ((qs ++ nq).map V.ref ++ [.ref qa]))) qa = some (.lst x.v) := by
            rw [upd_ne (cell_ne hqa W8.a fun z => refs_av z.symm)]
            exact hqa
          generalize upd G4 la (.lst ((qs ++ nq).map V.ref ++ [.ref qa])) = G5 at W9 hP9 fr9 hq9 ⊢
          have cnt9 : Cnt (js ++ nj) (as ++ na ++ [x]) := fun h => ⟨(cG h).1, by
            rw [nA_snoc]
            by_cases e : x.of (js ++ nj) h = true
            · rw [if_pos e]
              have eh : h = house := by
                rw [of_eq, decide_eq_true_eq, ex] at e
                obtain ⟨rest, rfl, _⟩ := hH.hd
                rw [List.getElem?_map, get_at] at e
                exact (Option.some.inj e).symm
              rw [eh]
              exact ra
            · rw [if_neg e]
              exact (cG h).2⟩
          refine ⟨_, rfl, _, rfl, _, rfl, _, rfl, _, rfl, _, rfl, _, _, rfl, rfl, p, c, w, lj, la, t, hs, gs, rs ++ nr', qs ++ nq ++ [qa], js ++ nj, as ++ na ++ [x], most, g, now + 1 + o2, deep - 1, ?_, by omega, hP9, fr9.town hP W.j W.a ht, l1, l6, W9, ap9, mg2, rm, hm100, ?_, cnt9, rj, fun nr2 nq2 nj2 na2 res G6 fr10 frs10 hP10 W10 ap10 JP c10 l10 => ?_⟩
          · show [V.ref p, .ref w, .ref t, .str g, .int (now + 1 + o2), .int ((deep : Nat) - 1)] = _
            rw [show ((deep : Nat) : Int) - 1 = ((deep - 1 : Nat) : Int) by omega]
          · rw [List.length_append, List.length_singleton]
            omega
          refine ⟨_, rfl, p, c, 3, rfl, hP10, by decide, by decide, fun t4 G7 t40 t41 s7 => ⟨_, _, rfl, rfl, ?_⟩⟩
          have W11 := W10.stp hP10 s7 ap10
          have eq1 : qs ++ nq ++ [qa] ++ nq2 = (qs ++ nq) ++ qa :: nq2 := by rw [List.append_assoc (qs ++ nq)]; rfl
          have eq2 : as ++ na ++ [x] ++ na2 = (as ++ na) ++ x :: na2 := by rw [List.append_assoc (as ++ na)]; rfl
          rw [eq1, eq2] at W11
          rw [eq1] at ap10
          rw [eq2] at c10
          subst ex
          have eqa : ((qs ++ nq) ++ qa :: nq2)[(as ++ na).length]? = some qa := by rw [← WG.ca.1]; exact get_at _ _ _
          have eax := get_at (as ++ na) na2 ⟨js.length, g, now + 1 + o2, now + 1 + o2, (js ++ nj).length⟩
          have hq11 := W11.ca.2 _ _ _ eqa eax
          refine ⟨_, rfl, qa, _, 3, 3, rfl, rfl, hq11, rfl, ?_⟩
          have W12 := W11.setA (x := ⟨js.length, g, now + 1 + o2, res + t4, (js ++ nj).length⟩) ap10.qn eqa eax rfl
          rw [set_at] at W12
          have hP12 := s7.1.cellA (o := .lst (WA.v ⟨js.length, g, now + 1 + o2, res + t4, (js ++ nj).length⟩)) hq11
          have fr12 : Fr p lj la H (upd G7 qa (.lst (WA.v ⟨js.length, g, now + 1 + o2, res + t4, (js ++ nj).length⟩))) := fun b o h1 h2 h3 e => by
            rw [upd_ne (ne_of_none e qaH)]
            exact s7.2 b o h1 ((fr9.trans fr10) b o h1 h2 h3 e)
          have hq12 : (upd G7 qa (.lst (WA.v ⟨js.length, g, now + 1 + o2, res + t4, (js ++ nj).length⟩))) qa = some (.lst (WA.v ⟨js.length, g, now + 1 + o2, res + t4, (js ++ nj).length⟩)) := upd_same
          show tSeq _ _ _ _ (upd G7 qa (.lst (WA.v ⟨js.length, g, now + 1 + o2, res + t4, (js ++ nj).length⟩)))
          generalize upd G7 qa (.lst (WA.v ⟨js.length, g, now + 1 + o2, res + t4, (js ++ nj).length⟩)) = G8 at W12 hP12 fr12 hq12 ⊢
          refine ⟨_, rfl, _, rfl, qa, _, 3, _, rfl, rfl, SqL.of hq12, rfl, _, _, rfl, ?_⟩
          refine ⟨_, rfl, _, rfl, qa, _, 3, _, rfl, rfl, SqL.of hq12, rfl, (by show 2 ≤ sizeLine; decide), fun ln nln => ?_⟩
          obtain ⟨G9, eG9, g9, hln⟩ : ∃ G9, upd G8 ln (.lst [.int (now + 1 + o2), .int (res + t4)]) = G9 ∧ Same G8 G9 ∧ G9 ln = some (.lst [.int (now + 1 + o2), .int (res + t4)]) := ⟨_, rfl, same_upd nln, upd_same⟩
          rw [eG9]
          have hP13 := hP12.sm g9
          have W13 := W12.same g9
          have lnp : ln ≠ p := fun e => hP12.neP nln e.symm
          refine ⟨_, rfl, p, c, 2, rfl, hP13, by decide, by decide, fun z2 Ga z20 z21 s8 => ?_⟩
          obtain ⟨nw, enw, hnw⟩ : ∃ nw : Int, atI [V.int (now + 1 + o2), .int (res + t4)] z2 = some (.int nw) ∧ (nw = now + 1 + o2 ∨ nw = res + t4) := by
            have hz : z2 = 0 ∨ z2 = 1 := by omega
            rcases hz with rfl | rfl
            · exact ⟨_, rfl, .inl rfl⟩
            · exact ⟨_, rfl, .inr rfl⟩
          have W14 := W13.stp hP13 s8 ap10
          rw [lJ] at JP
          have hH2 := hH.more mg2 (by omega) (by omega) JP t40 (by omega) (by omega) hnw
          rw [← lJ, show max last (res + t4) = if res + t4 > last then res + t4 else last by split <;> omega] at hH2
          rw [List.append_assoc rs, List.append_assoc qs, List.append_assoc js, List.append_assoc as] at W14
          rw [List.append_assoc rs, List.append_assoc qs] at ap10
          have fb := Fresh.back frs10 fr9 hP9 W9.j W9.a
          refine ⟨ln, _, z2, _, rfl, rfl, SqL.of (s8.2 ln _ lnp hln), enw, _, nw, ⟨_, _, _, _, rfl⟩, nr' ++ nr2, nq ++ qa :: nq2, nj ++ nj2, na ++ ⟨js.length, g, now + 1 + o2, res + t4, (js ++ nj).length⟩ :: na2, (fr12.trans (Fr.same g9)).trans (Fr.stp s8), fun r' m' => ?_, s8.1, W14, ap10, ?_, fun h => ⟨?_, ?_⟩, ?_⟩
          · rcases List.mem_append.mp m' with m' | m'
            · rcases List.mem_append.mp m' with m' | m'
              · exact frs _ (List.mem_append_left _ m')
              · exact fb _ (List.mem_append_left _ m')
            · rcases List.mem_append.mp m' with m' | m'
              · exact frs _ (List.mem_append_right _ m')
              · rcases List.mem_cons.mp m' with e | m'
                · rw [e]
                  exact qaH
                · exact fb _ (List.mem_append_right _ m')
          · rw [estep]
            exact hH2
          · rw [← List.append_assoc]
            exact (c10 h).1
          · rw [← List.append_assoc, ← List.append_assoc, nA_swap (x := ⟨js.length, g, now + 1 + o2, res + t4, (js ++ nj).length⟩) (x' := ⟨js.length, g, now + 1 + o2, now + 1 + o2, (js ++ nj).length⟩) _ _ _ _ rfl]
            exact (c10 h).2
          · rw [← List.append_assoc]
            exact l10
      · rintro σ G ⟨last, now, ⟨v10, v11, v12, v13, rfl⟩, nr', nq, nj, na, fr, frs, hPG, WG, apG, hH, cG, lG⟩
        obtain ⟨rest, rfl, _⟩ := hH.hd
        have ej := get_at js rest ⟨house, start + r1, start + r1⟩
        obtain ⟨r0, er0, hr0⟩ := WG.cj.at ej
        refine ⟨_, rfl, _, rfl, _, rfl, _, _, rfl, rfl, .inr ⟨_, rfl, _, _, rfl, rfl, _, rfl, p, c, 3, rfl, hPG, by decide, by decide, fun t3 G1 t30 t31 s4 => ⟨_, _, rfl, rfl, ?_⟩⟩⟩
        have W4 := WG.stp hPG s4 apG
        have hr4 := W4.cj.2 _ _ _ er0 ej
        refine ⟨_, rfl, w, _, 0, _, rfl, rfl, SqL.of W4.w, rfl, _, rfl, lj, _, _, .ref r0, rfl, rfl, SqL.of W4.j, atI_nat (map_ref er0), r0, _, 2, 2, rfl, rfl, hr4, rfl, ?_⟩
        have W5 := W4.setJ (j := ⟨house, start + r1, last + (if decide (start + r1 < last) = true then 1 else 0) + t3⟩) apG.rn er0 ej
        rw [set_at] at W5
        have r0n : H r0 = none := by
          refine frs r0 (List.mem_append_left _ ?_)
          rw [List.getElem?_append_right (by rw [W.cj.1]; exact Nat.le_refl _)] at er0
          exact List.mem_of_getElem? er0
        have ev : last + (if decide (start + r1 < last) = true then 1 else 0) + t3 = last + (if last > start + r1 then 1 else 0) + t3 := by simp only [decide_eq_true_eq, gt_iff_lt]
        obtain ⟨rest', er, JP⟩ := hH.done (start := start) (t := t3) (D := Dn deep) hh (by omega) t30 (by
          cases deep with
          | zero =>
            have : (m * (if decide ((0 : Int) < ((0 : Nat) : Int)) = true then 1 else 0)).toNat = 0 := by simp
            rw [this]
            show start + r1 + ((0 : Nat) : Int) * _ + 1 + t3 ≤ start + 5
            omega
          | succ d =>
            have hm3 : (m * (if decide ((0 : Int) < ((d + 1 : Nat) : Int)) = true then 1 else 0)).toNat ≤ 3 := by
              split <;> omega
            show start + r1 + _ * (Dn d + 4) + 1 + t3 ≤ start + (3 * Dn d + 17)
            have h4 := nar d
            have : (((m * (if decide ((0 : Int) < ((d + 1 : Nat) : Int)) = true then 1 else 0)).toNat : Nat) : Int) * (Dn d + 4) ≤ 3 * (Dn d + 4) := Int.mul_le_mul_of_nonneg_right (by omega) (by omega)
            omega)
        obtain rfl := (List.cons.inj er).2
        rw [← ev] at JP
        refine ⟨_, rfl, w, _, 0, _, rfl, rfl, SqL.of W5.w, rfl, _, rfl, lj, _, _, .ref r0, rfl, rfl, SqL.of W5.j, atI_nat (map_ref er0), r0, _, 2, _, rfl, rfl, SqL.of upd_same, rfl, ?_⟩
        have emap : (js ++ ⟨house, start + r1, start + r1⟩ :: rest).map WJ.h = (js ++ ⟨house, start + r1, last + (if decide (start + r1 < last) = true then 1 else 0) + t3⟩ :: rest).map WJ.h := by
          rw [List.map_append, List.map_append]
          rfl
        refine q nr' nq _ na _ _ (fun b o h1 h2 h3 e => ?_) frs (s4.1.cellJ hr4) W5 apG JP (fun h => ⟨?_, ?_⟩) ?_
        · rw [upd_ne (ne_of_none e r0n)]
          exact s4.2 b o h1 (fr b o h1 h2 h3 e)
        · rw [nJ_eq, ← emap, ← nJ_eq]
          exact (cG h).1
        · rw [← nA_congr (as ++ na) h fun x _ => by rw [emap]]
          exact (cG h).2
        · rw [List.length_append] at lG ⊢
          exact lG
theorem ok_l_job (T : Txt K mg af fd) : FnOk P w K mg base CX0 7 (af 34) (fd 34) ["pen", "world", "town", "house", "start", "deep"] (sp_job 4) := ok_job_n T 4
/-! ### a world -/
structure WOk (hs : List Str) (js : List WJ) (as : List WA) : Prop where
  jb : ∀ j ∈ js, j.h ∈ hs ∧ 0 ≤ j.b ∧ j.b ≤ j.e ∧ j.e ≤ 400
  ab : ∀ x ∈ as, AskOk hs 0 js x
  inc : (as.map WA.ch).Pairwise (· < ·)
  cnt : Cnt js as
  len : as.length ≤ js.length
theorem WOk.more {hs : List Str} {js nj : List WJ} {as na : List WA} {start res : Int} {house : Str} (h : WOk hs js as) (J : JobPost hs js.length start (Dn 2) house nj na res) (s0 : 0 ≤ start) (s1 : start ≤ 11) (c : Cnt (js ++ nj) (as ++ na)) : WOk hs (js ++ nj) (as ++ na) := by
  have d3 : Dn 2 = 113 := by decide
  have rb := J.rb
  have c2 := J.cnt
  refine ⟨fun j m => ?_, fun x m => ?_, ?_, c, ?_⟩
  · rcases List.mem_append.mp m with m | m
    · exact h.jb j m
    · have := J.jb j m
      exact ⟨this.1, by omega, this.2.2.1, by omega⟩
  · rcases List.mem_append.mp m with m | m
    · exact (h.ab x m).app nj
    · have a := J.ab x m
      exact AskOk.shift (n0 := 0) (by rw [Nat.zero_add]; exact a)
  · rw [List.map_append]
    refine List.pairwise_append.mpr ⟨h.inc, J.inc, fun z m y m2 => ?_⟩
    obtain ⟨x, mx, rfl⟩ := List.mem_map.mp m
    obtain ⟨x2, mx2, rfl⟩ := List.mem_map.mp m2
    obtain ⟨_, _, j, e, _⟩ := (h.ab x mx).ch
    have h1 := (List.getElem?_eq_some_iff.mp e).1
    have h2 := (J.ab x2 mx2).ch.1
    omega
  · rw [List.length_append, List.length_append]
    have := h.len
    omega
def sp_world : Sp := fun vs H Q _ => ∃ (p c t : Addr) (hs gs : List Str) (tops most stray : Int), vs = [.ref p, .ref t, .int tops, .int 2, .int most, .int stray] ∧ Pen H p c ∧ TownAt H t hs gs ∧ 1 ≤ hs.length ∧ hs.length ≤ 6 ∧ gs.Sublist hs ∧ (∀ h ∈ hs, HouseS h) ∧ 0 < tops ∧ tops ≤ 10 ∧ 0 ≤ most ∧ most ≤ 100 ∧
  ∀ (w lj la : Addr) (rs qs : List Addr) (js : List WJ) (as : List WA) (H' : Hp), Stp p c H H' → H w = none → WorldAt H' w lj la rs qs js as most → Apart p c lj la rs qs → WOk hs js as → (js.length : Int) ≤ most → Q (.ref w) H'
theorem ok_l_world (T : Txt K mg af fd) : FnOk P w K mg base CX0 8 (af 35) (fd 35) ["pen", "town", "tops", "deep", "most", "stray"] sp_world := by
  refine T.F_l_world.ok sc_l_world (fun vs H Q E h => ?_) (fun cdv A outer s H vs Q E hr h => ?_)
  · obtain ⟨p, c, t, hs, gs, tops, most, stray, rfl, _⟩ := h
    rfl
  · obtain ⟨p, c, t, hs, gs, tops, most, stray, rfl, hP, ht, l1, l6, hsub, hou, to0, to1, mo0, mo1, q⟩ := h
    refine ⟨_, (pss_cons (ps_set (i := 6) sc_l_world.nd rfl (by first | exact Or.inl rfl | exact Or.inr rfl) (pe_lst (pa_cons (pe_lst pa_nil) (pa_cons (pe_lst pa_nil) (pa_cons (pv 4) pa_nil)))))
        (pss_cons (ps_for PassesOwn.never rfl (pi_range1 (by rfl) T.m_range (pa_cons (pe_op op_add pe_int (pe_call (ok_l_take T) (hr.mono (by first | decide | omega)) (by rfl) T.g_l_take T.F_l_take.kp T.b_l_take .nil pass0 (pa_cons (pv 0) (pa_cons (pv 2) pa_nil)))) pa_nil)) (pg_name (i := 7) sc_l_world.nd rfl (by first | exact Or.inl rfl | exact Or.inr rfl)) (pss_cons (ps_set (i := 8) sc_l_world.nd rfl (by first | exact Or.inl rfl | exact Or.inr rfl) (pe_ix ix_tup (pv 1) pe_int (fun _ _ => rfl)))
        (C8.pss_cut (ps_if (PW.pt (pw_or (pt_cmpR (op_eqD hr.units) (pv 8) (pe_tup pa_nil) (nomark _)) (pw_or1 (pt_cmpR op_lt (pe_call (ok_l_take T) (hr.mono (by first | decide | omega)) (by rfl) T.g_l_take T.F_l_take.kp T.b_l_take .nil pass0 (pa_cons (pv 0) (pa_cons pe_int pa_nil))) (pv 5) (nomark _))))) (pss_one (ps_set (i := 8) sc_l_world.nd rfl (by first | exact Or.inl rfl | exact Or.inr rfl) (pe_ix ix_tup (pv 1) pe_int (fun _ _ => rfl)))) pss_nil)
        (pss_cons (ps_set (i := 9) sc_l_world.nd rfl (by first | exact Or.inl rfl | exact Or.inr rfl) (pe_ix ix_tup (pv 8) (pe_call (ok_l_take T) (hr.mono (by first | decide | omega)) (by rfl) T.g_l_take T.F_l_take.kp T.b_l_take .nil pass0 (pa_cons (pv 0) (pa_cons (pe_callB call_len_seq (by rfl) T.m_len (by decide +kernel) (pa_cons (pv 8) pa_nil)) pa_nil))) (fun _ _ => rfl)))
        (pss_one (ps_if (pt_val (pe_call (ok_l_room T) (hr.mono (by first | decide | omega)) (by rfl) T.g_l_room T.F_l_room.kp T.b_l_room .nil pass0 (pa_cons (pv 6) (pa_cons pe_str (pa_cons (pv 9) pa_nil))))) (pss_one (ps_expr (pe_call (ok_l_job T) (hr.mono (by first | decide | omega)) (by rfl) T.g_l_job T.F_l_job.kp T.b_l_job .nil pass0 (pa_cons (pv 0) (pa_cons (pv 6) (pa_cons (pv 1) (pa_cons (pv 9) (pa_cons (pe_call (ok_l_take T) (hr.mono (by first | decide | omega)) (by rfl) T.g_l_take T.F_l_take.kp T.b_l_take .nil pass0 (pa_cons (pv 0) (pa_cons pe_int pa_nil))) (pa_cons (pv 3) pa_nil))))))))) pss_nil))))))
        (pss_one (ps_ret (pv 6))))), ?_⟩
    refine ⟨Nat.zero_le _, fun lj nlj => ⟨Nat.zero_le _, fun la nla => ⟨_, rfl, (by show 3 ≤ sizeLine; decide), fun w nw => ?_⟩⟩⟩
    obtain ⟨H0, e0, s0, w0, j0, a0⟩ : ∃ H0, upd (upd (upd H lj (.lst [])) la (.lst [])) w (.lst [.ref lj, .ref la, .int most]) = H0 ∧ Same H H0 ∧ H0 w = some (.lst [.ref lj, .ref la, .int most]) ∧ H0 lj = some (.lst []) ∧ H0 la = some (.lst []) :=
      ⟨_, rfl, ((same_upd nlj).trans (same_upd nla)).trans (same_upd nw), upd_same, same_upd nw _ _ (same_upd nla _ _ upd_same), same_upd nw _ _ upd_same⟩
    rw [e0]
    have hjl : lj ≠ la := ne_of_none upd_same nla
    have nlaH : H la = none := (same_upd nlj).free nla
    have nwH : H w = none := ((same_upd nlj).trans (same_upd nla)).free nw
    have hP0 := hP.sm s0
    have W0 : WorldAt H0 w lj la [] [] [] [] most := ⟨w0, j0, a0, ⟨rfl, fun i r x e => by cases e⟩, ⟨rfl, fun i r x e => by cases e⟩, fun x m => nomatch m⟩
    have ap0 : Apart p c lj la [] [] := ⟨hjl, hP.neC nlj, hP.neC nlaH, hP.neP nlj, hP.neP nlaH, List.Pairwise.nil, List.Pairwise.nil⟩
    have wok0 : WOk hs [] [] := ⟨fun j m => (nomatch m), fun x m => (nomatch m), List.Pairwise.nil, fun h => ⟨Nat.zero_le _, Nat.zero_le _⟩, Nat.le_refl _⟩
    refine ⟨_, rfl, _, rfl, p, c, tops, rfl, hP0, to0, Nat.lt_of_le_of_lt (show tops.natAbs ≤ 10 by omega) (by decide), fun k H1 k0 k1 s1 => ⟨_, _, rfl, rfl, ?_⟩⟩
    refine ⟨_, rfl, by omega, by omega, for_range (lo := 0) (n := (1 + k).toNat) (fun i σ H' => (∃ v7 v8 v9 : Option V, σ = [some (.ref p), some (.ref t), some (.int tops), some (.int 2), some (.int most), some (.int stray), some (.ref w), v7, v8, v9]) ∧
      ∃ rs qs js as, Fr p lj la H0 H' ∧ Pen H' p c ∧ WorldAt H' w lj la rs qs js as most ∧ Apart p c lj la rs qs ∧ WOk hs js as ∧ (js.length : Int) ≤ most)
      ⟨⟨none, none, none, rfl⟩, [], [], [], [], Fr.stp s1, s1.1, W0.stp hP0 s1 ap0, ap0, wok0, mo0⟩ ?_ ?_⟩
    · rintro i σ G hi ⟨⟨v7, v8, v9, rfl⟩, rs, qs, js, as, fr, hPG, WG, apG, wok, lG⟩
      obtain ⟨ta, tb, t1, t2, t3⟩ := fr.town hP0 j0 a0 (show TownAt H0 t hs gs from let ⟨a, b, h1, h2, h3⟩ := ht; ⟨a, b, s0 _ _ h1, s0 _ _ h2, s0 _ _ h3⟩)
      have gok : ∀ h ∈ gs, PyData.strOk h = true := fun h m => (hou h (hsub.subset m)).ok
      refine ⟨_, rfl, t, _, 1, _, rfl, rfl, SqT.of t1, rfl, ?_⟩
      refine ⟨fun σ' H' => ∃ (dr : Addr) (ds : List Str), (∃ v7 v9 : Option V, σ' = [some (.ref p), some (.ref t), some (.int tops), some (.int 2), some (.int most), some (.int stray), some (.ref w), v7, some (.ref dr), v9]) ∧ Stp p c G H' ∧ H' dr = some (.tup (ds.map V.str)) ∧ 1 ≤ ds.length ∧ ds.length ≤ 6 ∧ ∀ h ∈ ds, h ∈ hs, ?_, ?_⟩
      · refine ⟨_, rfl, Nat.zero_le _, fun e ne => ?_⟩
        have s2 := (Stp.refl hPG).new (o := .tup []) hPG ne
        have u2 := s2.tup hPG t2
        have u3 := s2.tup hPG t3
        have u1 := s2.tup hPG t1
        have ue : (upd G e (.tup [])) e = some (.tup []) := upd_same
        generalize upd G e (.tup []) = G1 at s2 u1 u2 u3 ue ⊢
        refine ⟨.tuple (gs.map PyData.str), .tuple [], Dp.tup (SqT.of u3) (dp_strs gs), Dp.tup (SqT.of ue) .nil, ?_, rfl, _, rfl, ite2 (fun e1 => iteT ?_) (fun e1 => ?_)⟩
        · unfold SeqAt.shaped
          rw [Bool.and_eq_true, decide_eq_true_eq]
          refine ⟨canLay_strs gok, ?_⟩
          show PyData.depthAll (gs.map PyData.str) + 1 ≤ 64
          rw [depth_strs]
          decide
        · exact ⟨_, rfl, t, _, 0, _, rfl, rfl, SqT.of u1, rfl, ta, hs, ⟨_, _, rfl⟩, s2, u2, l1, l6, fun h m => m⟩
        · have gne : gs ≠ [] := fun z => by
            subst z
            exact e1 rfl
          refine ⟨_, rfl, p, c, 8, rfl, s2.1, by decide, by decide, fun r G2 r0 r1 s3 => ?_⟩
          have s23 := s2.trans s3
          refine ⟨_, rfl, _, _, rfl, rfl, _, rfl, ite2 (fun e2 => ?_) (fun e2 => ?_)⟩
          · exact ⟨_, rfl, t, _, 0, _, rfl, rfl, SqT.of (s3.tup s2.1 u1), rfl, ta, hs, ⟨_, _, rfl⟩, s23, s3.tup s2.1 u2, l1, l6, fun h m => m⟩
          · exact ⟨tb, gs, ⟨_, _, rfl⟩, s23, s3.tup s2.1 u3, List.length_pos_iff.mpr gne, Nat.le_trans hsub.length_le l6, fun h m => hsub.subset m⟩
      · rintro σ' G1 ⟨dr, ds, ⟨v7', v9', rfl⟩, s2, hdr, d1, d6, hds⟩
        have lb : 0 < ((ds.map V.str).length : Int) := by rw [List.length_map]; omega
        have lc : ((ds.map V.str).length : Int).natAbs < 2 ^ 100 := by
          rw [List.length_map]
          exact Nat.lt_of_le_of_lt (show _ ≤ 6 by omega) (by decide)
        refine ⟨_, rfl, _, rfl, _, rfl, dr, _, rfl, .inr (SqT.of hdr), p, c, _, rfl, s2.1, lb, lc, fun z G2 z0 z1 s3 => ?_⟩
        obtain ⟨h, mh, eh⟩ := pick_house z0 z1
        have s23 := s2.trans s3
        refine ⟨dr, _, z, _, rfl, rfl, SqT.of (s3.tup s2.1 hdr), eh, ?_⟩
        have W3 := WG.stp hPG s23 apG
        have fr3 := fr.trans (Fr.stp s23)
        refine ⟨_, rfl, _, rfl, w, lj, la, _, _, _, _, most, "", h, rfl, W3, by omega, by have := wok.len; omega, fun b G3 g3 hb => ⟨b, rfl, ?_⟩⟩
        have W4 := W3.same g3
        have hP4 := s3.1.sm g3
        have fr4 := fr3.trans (Fr.same g3)
        cases b with
        | false => exact iteF ⟨⟨_, _, _, rfl⟩, rs, qs, js, as, fr4, hP4, W4, apG, wok, lG⟩
        | true =>
          obtain ⟨ra, rj, rm⟩ := hb.mp rfl
          refine iteT ⟨_, rfl, _, rfl, _, rfl, _, rfl, _, rfl, p, c, 12, rfl, hP4, by decide, by decide, fun st G4 st0 st1 s5 => ?_⟩
          have W5 := W4.stp hP4 s5 apG
          have fr5 := fr4.trans (Fr.stp s5)
          have ht5 : TownAt G4 t hs gs := fr5.town hP0 j0 a0 (let ⟨a, b, h1, h2, h3⟩ := ht; ⟨a, b, s0 _ _ h1, s0 _ _ h2, s0 _ _ h3⟩)
          refine ⟨_, rfl, p, c, w, lj, la, t, hs, gs, rs, qs, js, as, most, h, st, 2, rfl, by decide, s5.1, ht5, l1, l6, W5, apG, hds h mh, rm, mo1, wok.len, wok.cnt, rj, fun nr nq nj na res G5 fr6 frs6 hP6 W6 ap6 JP c6 l6' => ?_⟩
          exact ⟨⟨_, _, _, rfl⟩, rs ++ nr, qs ++ nq, js ++ nj, as ++ na, fr5.trans fr6, hP6, W6, ap6, wok.more JP st0 (by omega) c6, l6'⟩
    · rintro σ G ⟨⟨v7, v8, v9, rfl⟩, rs, qs, js, as, fr, hPG, WG, apG, wok, lG⟩
      refine ⟨_, rfl, q w lj la rs qs js as G ⟨hPG, fun b o hb e => ?_⟩ nwH WG apG wok lG⟩
      exact fr b o hb (ne_of_none e nlj) (ne_of_none e nlaH) (s0 _ _ e)
/-! ### what is left of the rows -/
def sp_left : Sp := fun vs H Q _ => ∃ (p c lr : Addr) (fewer : Int) (xs : List V) (ds : List PyData), vs = [.ref p, .ref lr, .int fewer] ∧ Pen H p c ∧ lr ≠ p ∧ H lr = some (.lst xs) ∧ Dqs (fun _ => True) H xs ds ∧ Ths ds ∧ (∀ d ∈ ds, RowW d) ∧ 0 ≤ fewer ∧ fewer ≤ 100 ∧ ds.length ≤ 200 ∧
  ∀ (l : Addr) (ys : List V) (es : List PyData) (H' : Hp), Stp p c H H' → H l = none → H' l = some (.lst ys) → Dqs (AtL p l) H' ys es → (∀ d ∈ es, d ∈ ds) → es.length ≤ ds.length + 2 → Q (.ref l) H'
theorem Dqs.any {Ex : Addr → Prop} {H : Hp} {vs : List V} {ds : List PyData} (h : Dqs (fun _ => True) H vs ds) : Dqs Ex H vs ds := h.go (fun _ _ n => absurd trivial n) (fun _ _ n _ => absurd trivial n) (fun _ _ e => e)
theorem Dq.any {Ex : Addr → Prop} {H : Hp} {v : V} {d : PyData} (h : Dq (fun _ => True) H v d) : Dq Ex H v d := h.go (fun _ _ n => absurd trivial n) (fun _ _ n _ => absurd trivial n) (fun _ _ e => e)
theorem ok_l_left (T : Txt K mg af fd) : FnOk P w K mg base CX0 3 (af 39) (fd 39) ["pen", "rows", "fewer"] sp_left := by
  refine T.F_l_left.ok sc_l_left (fun vs H Q E h => ?_) (fun cdv A outer s H vs Q E hr h => ?_)
  · obtain ⟨p, c, lr, fewer, xs, ds, rfl, _⟩ := h
    rfl
  · obtain ⟨p, c, lr, fewer, xs, ds, rfl, hP, lrp, hlr, hds, hth, hrw, f0, f1, hlen, q⟩ := h
    refine ⟨_, (pss_cons (ps_set (i := 3) sc_l_left.nd rfl (by first | exact Or.inl rfl | exact Or.inr rfl) (pe_lst (pa_cons (pe_call (ok_l_take T) (hr.mono (by first | decide | omega)) (by rfl) T.g_l_take T.F_l_take.kp T.b_l_take .nil pass0 (pa_cons (pv 0) (pa_cons (pe_op op_add (pv 2) pe_int) pa_nil))) (pa_cons (pe_ix ix_list (pe_lst (pa_cons pe_int (pa_cons pe_int (pa_cons pe_int (pa_cons pe_int pa_nil))))) (pe_call (ok_l_take T) (hr.mono (by first | decide | omega)) (by rfl) T.g_l_take T.F_l_take.kp T.b_l_take .nil pass0 (pa_cons (pv 0) (pa_cons pe_int pa_nil))) (fun _ _ => rfl)) pa_nil))))
        (pss_cons (ps_set (i := 4) sc_l_left.nd rfl (by first | exact Or.inl rfl | exact Or.inr rfl) (pe_lst pa_nil))
        (pss_cons (ps_for PassesOwn.never rfl (pi_list (pv 1)) (pg_name (i := 5) sc_l_left.nd rfl (by first | exact Or.inl rfl | exact Or.inr rfl)) (pss_one (ps_if (pt_cmpR op_ge (pe_call (ok_l_take T) (hr.mono (by first | decide | omega)) (by rfl) T.g_l_take T.F_l_take.kp T.b_l_take .nil pass0 (pa_cons (pv 0) (pa_cons pe_int pa_nil))) (pe_ix ix_list (pv 3) (pe_callTy call_int1 (by rfl) T.m_int (by decide +kernel) (pa_cons (pe_cmpR op_eq (pe_ix ix_tup (pv 5) pe_int (fun _ _ => rfl)) pe_str (nomark _)) pa_nil)) (fun _ _ => rfl)) (nomark _)) (pss_one (ps_expr (pe_bm PySem.F.plainAttrs_list PySem.F.slot_list_insert PySem.F.type_list_insert mt_insert (pv 4) (pa_cons (pe_call (ok_l_take T) (hr.mono (by first | decide | omega)) (by rfl) T.g_l_take T.F_l_take.kp T.b_l_take .nil pass0 (pa_cons (pv 0) (pa_cons (pe_op op_add (pe_callB call_len_seq (by rfl) T.m_len (by decide +kernel) (pa_cons (pv 4) pa_nil)) pe_int) pa_nil))) (pa_cons (pv 5) pa_nil))))) pss_nil)))
        (pss_cons (ps_for PassesOwn.never rfl (pi_range1 (by rfl) T.m_range (pa_cons (pe_op op_mul (pe_call (ok_l_take T) (hr.mono (by first | decide | omega)) (by rfl) T.g_l_take T.F_l_take.kp T.b_l_take .nil pass0 (pa_cons (pv 0) (pa_cons pe_int pa_nil))) (pe_callTy call_int1 (by rfl) T.m_int (by decide +kernel) (pa_cons (pe_cmpR (op_neD hr.units) (pv 4) (pe_lst pa_nil) (nomark _)) pa_nil))) pa_nil)) (pg_name (i := 6) sc_l_left.nd rfl (by first | exact Or.inl rfl | exact Or.inr rfl)) (pss_one (ps_expr (pe_bm PySem.F.plainAttrs_list PySem.F.slot_list_insert PySem.F.type_list_insert mt_insert (pv 4) (pa_cons (pe_call (ok_l_take T) (hr.mono (by first | decide | omega)) (by rfl) T.g_l_take T.F_l_take.kp T.b_l_take .nil pass0 (pa_cons (pv 0) (pa_cons (pe_op op_add (pe_callB call_len_seq (by rfl) T.m_len (by decide +kernel) (pa_cons (pv 4) pa_nil)) pe_int) pa_nil))) (pa_cons (pe_ix ix_list (pv 4) (pe_call (ok_l_take T) (hr.mono (by first | decide | omega)) (by rfl) T.g_l_take T.F_l_take.kp T.b_l_take .nil pass0 (pa_cons (pv 0) (pa_cons (pe_callB call_len_seq (by rfl) T.m_len (by decide +kernel) (pa_cons (pv 4) pa_nil)) pa_nil))) (fun _ _ => rfl)) pa_nil))))))
        (pss_one (ps_ret (pv 4))))))), ?_⟩
    refine ⟨_, rfl, _, rfl, _, _, rfl, rfl, p, c, _, rfl, hP, by omega, Nat.lt_of_le_of_lt (show _ ≤ 101 by omega) (by decide), fun r1 H1 r10 r11 s1 => ?_⟩
    refine ⟨(by show 4 ≤ sizeLine; decide), fun lb nlb => ?_⟩
    have s2 := s1.new (o := .lst [.int 0, .int 2, .int 4, .int 6]) hP nlb
    refine ⟨_, rfl, p, c, 4, rfl, s2.1, by decide, by decide, fun r2 H2 r20 r21 s3 => ?_⟩
    have hlb : H2 lb = some (.lst [.int 0, .int 2, .int 4, .int 6]) := s3.2 lb _ (fun e => s1.1.neP nlb e.symm) upd_same
    obtain ⟨v2, e2⟩ : ∃ v : Int, atI [V.int 0, .int 2, .int 4, .int 6] r2 = some (.int v) := by
      have hz : r2 = 0 ∨ r2 = 1 ∨ r2 = 2 ∨ r2 = 3 := by omega
      rcases hz with rfl | rfl | rfl | rfl <;> exact ⟨_, rfl⟩
    refine ⟨lb, _, r2, _, rfl, rfl, SqL.of hlb, e2, (by show 2 ≤ sizeLine; decide), fun ls nls => ?_⟩
    have s23 := s2.trans s3
    have s4 := s23.new (o := .lst [.int r1, .int v2]) hP nls
    have nlsH := s23.back hP nls
    have lsp : ls ≠ p := fun e => hP.neP nlsH e.symm
    have hls : (upd H2 ls (.lst [.int r1, .int v2])) ls = some (.lst [.int r1, .int v2]) := upd_same
    generalize upd H2 ls (.lst [.int r1, .int v2]) = H3 at s4 hls ⊢
    refine ⟨Nat.zero_le _, fun l nl => ?_⟩
    have nlH := s4.back hP nl
    have lp : l ≠ p := fun e => hP.neP nlH e.symm
    have s5 := s4.new (o := .lst []) hP nl
    have hls5 : (upd H3 l (.lst [])) ls = some (.lst [.int r1, .int v2]) := same_upd nl _ _ hls
    have hl5 : (upd H3 l (.lst [])) l = some (.lst []) := upd_same
    generalize upd H3 l (.lst []) = H4 at s5 hls5 hl5 ⊢
    have hlr4 := s5.2 lr _ lrp hlr
    have lsl : ls ≠ l := cell_ne hls5 hl5 (fun z => nomatch z)
    have lrl : lr ≠ l := ne_of_none hlr nlH
    refine ⟨_, rfl, lr, rfl, ⟨_, SqL.of hlr4⟩, for_list (K := K) (a := lr) (xs := xs) (fun i σ H' => (∃ v5 v6 : Option V, σ = [some (.ref p), some (.ref lr), some (.int fewer), some (.ref ls), some (.ref l), v5, v6]) ∧ H' lr = some (.lst xs) ∧ H' ls = some (.lst [.int r1, .int v2]) ∧ Lst p c l H (fun d => d ∈ ds) i H')
      ⟨⟨none, none, rfl⟩, hlr4, hls5, s5, [], [], hl5, .nil, (fun _ m => nomatch m), (fun _ m => nomatch m), Nat.le_refl _⟩ (fun i σ H' _ h => SqL.of h.2.1) ?_ ?_⟩
    · rintro i v σ G hv ⟨⟨v5, v6, rfl⟩, hlrG, hlsG, sG, ys, es, hlG, hdG, thG, hRG, lenG⟩
      have hil : i < ds.length := by rw [← hds.len]; exact (List.getElem?_eq_some_iff.mp hv).1
      have hdi : ds[i]? = some ds[i] := List.getElem?_eq_getElem hil
      generalize ds[i] = d at hdi
      have md := List.mem_of_getElem? hdi
      obtain ⟨v', hv', dv⟩ := hds.get hdi
      obtain rfl : v' = v := Option.some.inj (hv'.symm.trans hv)
      obtain ⟨r, rfl, wr⟩ := hrw d md
      cases dv with
      | @tup a zs _ ha hzs =>
        have hw : r.data[0]? = some (.str r.word) := by cases r <;> rfl
        obtain ⟨z, hz, dz⟩ := hzs.get hw
        obtain rfl : z = .str r.word := by cases dz; rfl
        refine ⟨_, rfl, p, c, 6, rfl, sG.1, by decide, by decide, fun r6 G1 r60 r61 s6 => ?_⟩
        have sG1 := sG.trans s6
        have haG := sG1.tup hP ha
        obtain ⟨vv, evv⟩ : ∃ vv : Int, atI [V.int r1, .int v2] (if decide (V.str r.word = V.str "all") = true then 1 else 0) = some (.int vv) := by split <;> exact ⟨_, rfl⟩
        have hlG1 := s6.2 l _ lp hlG
        have hdG1 := hdG.stp (.inl rfl) sG.1 s6
        have hlr1 := s6.2 lr _ lrp hlrG
        have hls1 := s6.2 ls _ lsp hlsG
        refine ⟨_, rfl, _, rfl, a, _, 0, _, rfl, rfl, SqT.of haG, atI_nat hz, rfl, .inr ⟨_, rfl, ls, _, _, _, rfl, rfl, SqL.of hls1, evv, _, _, rfl, rfl, _, rfl, ite2 (fun e => ?_) (fun e => ?_)⟩⟩
        · have hyl := hdG1.len
          refine ⟨_, rfl, .inl ⟨rfl, _, SqL.of hlG1⟩, _, rfl, _, rfl, l, _, rfl, .inl (SqL.of hlG1), _, _, rfl, rfl, p, c, _, rfl, s6.1, by omega, Nat.lt_of_le_of_lt (show _ ≤ 1000 by omega) (by decide), fun a1 G2 a10 a11 s7 => ?_⟩
          have hlG2 := s7.2 l _ lp hlG1
          have hdG2 := hdG1.stp (.inl rfl) s6.1 s7
          have sG2 := sG1.trans s7
          refine ⟨_, rfl, l, _, a1, _, rfl, rfl, hlG2, Nat.lt_of_lt_of_le (show ys.length < 1000 by omega) (by decide), a10, by omega, ⟨_, _, rfl⟩, ?_, ?_, ?_⟩
          · rw [upd_ne lrl]
            exact s7.2 lr _ lrp hlr1
          · rw [upd_ne lsl]
            exact s7.2 ls _ lsp hls1
          · exact lst_ins hP nlH sG2 hlG2 hdG2 thG hRG lenG (.tup (sG2.tup hP ha) (hzs.go (fun _ _ n => absurd trivial n) (fun _ _ n _ => absurd trivial n) (fun _ _ e => sG2.tup hP e))) (hth _ md) md _
        · exact ⟨⟨_, _, rfl⟩, hlr1, hls1, sG1, ys, es, hlG1, hdG1, thG, hRG, Nat.le_succ_of_le lenG⟩
    · rintro σ G ⟨⟨v5, v6, rfl⟩, hlrG, hlsG, sG, ys, es, hlG, hdG, thG, hRG, lenG⟩
      rw [hds.len] at lenG
      refine ⟨_, rfl, p, c, 3, rfl, sG.1, by decide, by decide, fun m G1 m0 m1 s6 => ?_⟩
      refine ⟨_, rfl, Nat.zero_le _, fun b nb => ?_⟩
      have sG1 := sG.trans s6
      have s7 := (Stp.refl s6.1).new (o := .lst []) s6.1 nb
      have hb7 : (upd G1 b (.lst [])) b = some (.lst []) := upd_same
      generalize upd G1 b (.lst []) = G2 at s7 hb7 ⊢
      have s67 := s6.trans s7
      have hlG2 := s67.2 l _ lp hlG
      have hdG2 := hdG.stp (.inl rfl) sG.1 s67
      refine ⟨.list es, .list [], Dp.lst (SqL.of hlG2) hdG2.dp, Dp.lst (SqL.of hb7) .nil, ths_lst thG (by omega), rfl, .inr ⟨_, rfl, _, _, rfl, rfl, .inl ⟨by omega, by omega⟩, ?_⟩⟩
      have sG2 := sG.trans s67
      refine ⟨_, rfl, ?_, ?_, for_range (lo := 0) (n := (m * (if (!PyData.eqv (.list es) (.list [])) = true then 1 else 0)).toNat) (fun i σ H' => (∃ v5 v6 : Option V, σ = [some (.ref p), some (.ref lr), some (.int fewer), some (.ref ls), some (.ref l), v5, v6]) ∧ Lst p c l H (fun d => d ∈ ds) (ds.length + i) H' ∧ ∀ us, H' l = some (.lst us) → es.length ≤ us.length)
        ⟨⟨_, _, rfl⟩, ⟨sG2, ys, es, hlG2, hdG2, thG, hRG, lenG⟩, fun us e => by rw [hlG2] at e; rw [← HO.lst.inj (Option.some.inj e), hdG2.len]; exact Nat.le_refl _⟩ ?_ ?_⟩
      · split <;> omega
      · split <;> omega
      · rintro i σ F hi ⟨⟨v5, v6, rfl⟩, ⟨sF, us, fs, hlF, hdF, thF, hRF, lenF⟩, hlow⟩
        have hes : 0 < es.length := by
          cases es with
          | nil => exact absurd hi (by simp [PyData.eqv, PyData.eqvAll])
          | cons x y => exact Nat.succ_pos _
        have hus := hlow us hlF
        have hul := hdF.len
        have him : i < 2 := by
          have : (m * (if (!PyData.eqv (.list es) (.list [])) = true then 1 else 0)).toNat ≤ 2 := by split <;> omega
          omega
        refine ⟨_, rfl, .inl ⟨rfl, _, SqL.of hlF⟩, _, rfl, _, rfl, l, _, rfl, .inl (SqL.of hlF), _, _, rfl, rfl, p, c, _, rfl, sF.1, by omega, Nat.lt_of_le_of_lt (show _ ≤ 1000 by omega) (by decide), fun a1 F1 a10 a11 u1 => ?_⟩
        have hlF1 := u1.2 l _ lp hlF
        have hdF1 := hdF.stp (.inl rfl) sF.1 u1
        refine ⟨_, rfl, _, rfl, _, rfl, l, _, rfl, .inl (SqL.of hlF1), p, c, _, rfl, u1.1, by omega, Nat.lt_of_le_of_lt (show _ ≤ 1000 by omega) (by decide), fun a2 F2 a20 a21 u2 => ?_⟩
        have hlF2 := u2.2 l _ lp hlF1
        have hdF2 := hdF1.stp (.inl rfl) u1.1 u2
        have hlt : a2.toNat < fs.length := by omega
        obtain ⟨v, hv, dv⟩ := hdF2.get (List.getElem?_eq_getElem hlt)
        refine ⟨l, _, a2, v, rfl, rfl, SqL.of hlF2, at_any (j := a2.toNat) (by omega) hv, ?_⟩
        refine ⟨l, _, a1, v, rfl, rfl, hlF2, Nat.lt_of_lt_of_le (show us.length < 1000 by omega) (by decide), a10, by omega, ⟨_, _, rfl⟩, ?_, fun ws e => ?_⟩
        · exact lst_ins hP nlH ((sF.trans u1).trans u2) hlF2 hdF2 thF hRF lenF dv (thF _ (List.getElem_mem hlt)) (hRF _ (List.getElem_mem hlt)) _
        · rw [upd_same] at e
          rw [← HO.lst.inj (Option.some.inj e), List.length_append, List.length_append, List.length_take, List.length_drop, List.length_singleton]
          omega
      · rintro σ F ⟨⟨v5, v6, rfl⟩, ⟨sF, us, fs, hlF, hdF, thF, hRF, lenF⟩, hlow⟩
        have him : (m * (if (!PyData.eqv (.list es) (.list [])) = true then 1 else 0)).toNat ≤ 2 := by split <;> omega
        exact ⟨_, rfl, q l us fs F sF nlH hlF hdF hRF (by omega)⟩
/-! ### numbers by order: among the things of one house, by time, then by place -/
def lx (ti : Nat → Int) (i j : Nat) : Bool := decide (ti i < ti j ∨ (ti i = ti j ∧ i < j))
def rk (N : Nat) (ho : Nat → Str) (ti : Nat → Int) (a : Nat) : Nat := ((List.range N).filter fun j => decide (ho j = ho a) && lx ti j a).length
def itemsOf (N : Nat) (ho : Nat → Str) (h : Str) : List Nat := (List.range N).filter fun j => decide (ho j = h)
theorem mem_items {N : Nat} {ho : Nat → Str} {h : Str} {j : Nat} : j ∈ itemsOf N ho h ↔ j < N ∧ ho j = h := by
  unfold itemsOf
  rw [List.mem_filter, List.mem_range, decide_eq_true_eq]
theorem rk_eq {N : Nat} {ho : Nat → Str} {ti : Nat → Int} {a : Nat} : rk N ho ti a = ((itemsOf N ho (ho a)).filter fun j => lx ti j a).length := by
  unfold rk itemsOf
  rw [List.filter_filter]
  congr 1
  refine List.filter_congr fun j _ => ?_
  rw [Bool.and_comm]
theorem rk_lt {N : Nat} {ho : Nat → Str} {ti : Nat → Int} {a : Nat} (ha : a < N) : rk N ho ti a < (itemsOf N ho (ho a)).length := by
  rw [rk_eq]
  refine Nat.lt_of_le_of_ne (List.length_filter_le _ _) fun e => ?_
  have := List.length_filter_eq_length_iff.mp e a (mem_items.mpr ⟨ha, rfl⟩)
  unfold lx at this
  have := of_decide_eq_true this
  omega
theorem filter_le {A : Type} (p q : A → Bool) (h : ∀ x, p x = true → q x = true) : ∀ l : List A, (l.filter p).length ≤ (l.filter q).length
  | [] => Nat.le_refl _
  | x :: l => by
    have ih := filter_le p q h l
    rw [List.filter_cons, List.filter_cons]
    by_cases hp : p x = true
    · rw [if_pos hp, if_pos (h x hp), List.length_cons, List.length_cons]
      omega
    · rw [if_neg hp]
      split
      · rw [List.length_cons]
        omega
      · exact ih
theorem filter_lt {A : Type} (p q : A → Bool) (h : ∀ x, p x = true → q x = true) {y : A} (hy : p y = false) (hq : q y = true) : ∀ {l : List A}, y ∈ l → (l.filter p).length < (l.filter q).length
  | x :: l, m => by
    have ih := filter_le p q h l
    rw [List.filter_cons, List.filter_cons]
    rcases List.mem_cons.mp m with rfl | m
    · rw [hy, hq, if_neg (by decide), if_pos rfl, List.length_cons]
      omega
    · have i2 := filter_lt p q h hy hq m
      by_cases hp : p x = true
      · rw [if_pos hp, if_pos (h x hp), List.length_cons, List.length_cons]
        omega
      · rw [if_neg hp]
        split
        · rw [List.length_cons]
          omega
        · exact i2
theorem lx_trans {ti : Nat → Int} {i j k : Nat} (h1 : lx ti i j = true) (h2 : lx ti j k = true) : lx ti i k = true := by
  unfold lx at *
  have h1 := of_decide_eq_true h1
  have h2 := of_decide_eq_true h2
  exact decide_eq_true (by omega)
theorem lx_irrefl {ti : Nat → Int} {i : Nat} : lx ti i i = false := by
  unfold lx
  exact decide_eq_false (by omega)
theorem lx_total {ti : Nat → Int} {i j : Nat} (h : i ≠ j) : lx ti i j = true ∨ lx ti j i = true := by
  unfold lx
  rw [decide_eq_true_eq, decide_eq_true_eq]
  omega
theorem rk_mono {N : Nat} {ho : Nat → Str} {ti : Nat → Int} {a b : Nat} (ha : a < N) (e : ho a = ho b) (h : lx ti a b = true) : rk N ho ti a < rk N ho ti b := by
  rw [rk_eq, rk_eq, e]
  exact filter_lt (fun j => lx ti j a) (fun j => lx ti j b) (fun x hx => lx_trans hx h) (y := a) lx_irrefl h (mem_items.mpr ⟨ha, e⟩)
theorem rk_inj {N : Nat} {ho : Nat → Str} {ti : Nat → Int} {a b : Nat} (ha : a < N) (hb : b < N) (e : ho a = ho b) (h : rk N ho ti a = rk N ho ti b) : a = b := by
  refine Decidable.byContradiction fun ne => ?_
  rcases lx_total (ti := ti) ne with l | l
  · have := rk_mono ha e l
    omega
  · have := rk_mono hb e.symm l
    omega
theorem rk_time {N : Nat} {ho : Nat → Str} {ti : Nat → Int} {a b : Nat} (ha : a < N) (hb : b < N) (e : ho a = ho b) (h : rk N ho ti a ≤ rk N ho ti b) : ti a ≤ ti b := by
  by_cases ne : a = b
  · rw [ne]
    exact Int.le_refl _
  · rcases lx_total (ti := ti) ne with l | l
    · unfold lx at l
      have := of_decide_eq_true l
      omega
    · have := rk_mono hb e.symm l
      omega
/-! the things of a house, sorted: each stands at its number -/
theorem sorted_rank {N : Nat} {ho : Nat → Str} {ti : Nat → Int} {h : Str} {S : List Nat} (pm : S.Perm (itemsOf N ho h)) (srt : S.Pairwise fun x y => lx ti y x = false) {i a : Nat} (e : S[i]? = some a) : a < N ∧ ho a = h ∧ rk N ho ti a = i := by
  have ma := mem_items.mp (pm.mem_iff.mp (List.mem_of_getElem? e))
  refine ⟨ma.1, ma.2, ?_⟩
  have nd : S.Nodup := pm.nodup_iff.mpr (List.nodup_range.sublist List.filter_sublist)
  have hi := (List.getElem?_eq_some_iff.mp e).1
  rw [rk_eq, ma.2, ← (pm.filter fun j => lx ti j a).length_eq]
  have es : S = S.take i ++ a :: S.drop (i + 1) := by
    have e2 : S.drop i = a :: S.drop (i + 1) := by rw [List.drop_eq_getElem_cons hi, (List.getElem?_eq_some_iff.mp e).2]
    rw [← e2, List.take_append_drop]
  rw [es] at srt nd
  rw [es, List.filter_append, List.length_append]
  have h1 : ((S.take i).filter fun j => lx ti j a) = S.take i := by
    rw [List.filter_eq_self]
    intro x mx
    have ne : x ≠ a := fun z => by
      rw [List.nodup_append] at nd
      exact nd.2.2 x mx a List.mem_cons_self z
    rcases lx_total (ti := ti) ne with l | l
    · exact l
    · have := (List.pairwise_append.mp srt).2.2 x mx a List.mem_cons_self
      rw [l] at this
      cases this
  have h2 : ((a :: S.drop (i + 1)).filter fun j => lx ti j a) = [] := by
    rw [List.filter_eq_nil_iff]
    intro x mx
    rcases List.mem_cons.mp mx with rfl | mx
    · rw [lx_irrefl]
      decide
    · have := (List.pairwise_cons.mp (List.pairwise_append.mp srt).2.1).1 x mx
      rw [this]
      decide
  rw [h1, h2, List.length_take]
  simp
  omega
theorem sorted_has {N : Nat} {ho : Nat → Str} {ti : Nat → Int} {h : Str} {S : List Nat} (pm : S.Perm (itemsOf N ho h)) (srt : S.Pairwise fun x y => lx ti y x = false) {a : Nat} (ha : a < N) (e : ho a = h) : S[rk N ho ti a]? = some a := by
  obtain ⟨i, hi⟩ := List.getElem?_of_mem (pm.mem_iff.mpr (mem_items.mpr ⟨ha, e⟩))
  rw [(sorted_rank pm srt hi).2.2]
  exact hi
/-! ### pairs of a time and a place -/
inductive Prs (H : Hp) : List V → List (Int × Nat) → Prop
  | nil : Prs H [] []
  | cons {t : Addr} {q : Int × Nat} {us : List V} {qs : List (Int × Nat)} : H t = some (.tup [.int q.1, .int (q.2 : Nat)]) → Prs H us qs → Prs H (.ref t :: us) (q :: qs)
theorem Prs.go {H H' : Hp} (s : ∀ b xs, H b = some (.tup xs) → H' b = some (.tup xs)) : ∀ {us : List V} {ks : List (Int × Nat)}, Prs H us ks → Prs H' us ks
  | _, _, .nil => .nil
  | _, _, .cons h r => .cons (s _ _ h) (r.go s)
theorem Prs.snoc {H : Hp} {b : Addr} {k : Int × Nat} (hb : H b = some (.tup [.int k.1, .int (k.2 : Nat)])) : ∀ {us : List V} {ks : List (Int × Nat)}, Prs H us ks → Prs H (us ++ [.ref b]) (ks ++ [k])
  | _, _, .nil => .cons hb .nil
  | _, _, .cons h r => .cons h (r.snoc hb)
theorem Prs.len {H : Hp} : ∀ {us : List V} {ks : List (Int × Nat)}, Prs H us ks → us.length = ks.length
  | _, _, .nil => rfl
  | _, _, .cons _ r => by rw [List.length_cons, List.length_cons, r.len]
def kp (H : Hp) : V → Int × Int
  | .ref t => match H t with
    | some (.tup [.int a, .int b]) => (a, b)
    | _ => (0, 0)
  | _ => (0, 0)
theorem kp_at {H : Hp} {t : Addr} {a b : Int} (h : H t = some (.tup [.int a, .int b])) : kp H (.ref t) = (a, b) := by
  show (match H t with
    | some (.tup [.int a, .int b]) => (a, b)
    | _ => ((0, 0) : Int × Int)) = (a, b)
  rw [h]
def q2 (q : Int × Int) : Int × Nat := (q.1, q.2.toNat)
theorem Prs.each {H : Hp} : ∀ {us : List V} {ks : List (Int × Nat)}, Prs H us ks → (∀ x ∈ us, ∃ t, x = .ref t ∧ H t = some (.tup [.int (kp H x).1, .int (kp H x).2])) ∧ us.map (fun x => q2 (kp H x)) = ks ∧ ∀ x ∈ us, 0 ≤ (kp H x).2
  | _, _, .nil => ⟨fun _ m => (nomatch m), rfl, fun _ m => (nomatch m)⟩
  | _, _, .cons (t := t) (q := q) h r => by
    obtain ⟨r1, r2, r3⟩ := r.each
    have e := kp_at h
    refine ⟨fun x m => ?_, ?_, fun x m => ?_⟩
    · rcases List.mem_cons.mp m with rfl | m
      · exact ⟨t, rfl, by rw [e]; exact h⟩
      · exact r1 x m
    · rw [List.map_cons, r2, e]
      rfl
    · rcases List.mem_cons.mp m with rfl | m
      · rw [e]
        exact Int.natCast_nonneg _
      · exact r3 x m
theorem prs_of {H : Hp} : ∀ {us : List V}, (∀ x ∈ us, ∃ t, x = .ref t ∧ H t = some (.tup [.int (kp H x).1, .int (kp H x).2]) ∧ 0 ≤ (kp H x).2) → Prs H us (us.map fun x => q2 (kp H x))
  | [], _ => .nil
  | x :: us, h => by
    obtain ⟨t, rfl, ht, h0⟩ := h x List.mem_cons_self
    refine .cons ?_ (prs_of fun y m => h y (List.mem_cons_of_mem _ m))
    show H t = some (.tup [.int (kp H (.ref t)).1, .int (((kp H (.ref t)).2.toNat : Nat) : Int)])
    rw [Int.toNat_of_nonneg h0]
    exact ht
/-! the sorted pairs of a house's things stand by their numbers -/
theorem prs_sorted {H : Hp} {N : Nat} {ho : Nat → Str} {ti : Nat → Int} {h : Str} {us ys : List V} (p : Prs H us ((itemsOf N ho h).map fun j => (ti j, j))) (srt : SrtO.Srtd (L2.ltP (kp H)) ys) (stb : SrtO.Stb (L2.ltP (kp H)) ys us) :
    ∃ S : List Nat, Prs H ys (S.map fun j => (ti j, j)) ∧ S.Perm (itemsOf N ho h) ∧ S.Pairwise fun x y => lx ti y x = false := by
  obtain ⟨p1, p2, p3⟩ := p.each
  have hm : ∀ x ∈ ys, x ∈ us := fun x m => stb.perm.mem_iff.mp m
  have py := prs_of (H := H) (us := ys) fun x m => let ⟨t, e1, e2⟩ := p1 x (hm x m); ⟨t, e1, e2, p3 x (hm x m)⟩
  have pe : (ys.map fun x => q2 (kp H x)).Perm ((itemsOf N ho h).map fun j => (ti j, j)) := by
    rw [← p2]
    exact stb.perm.map _
  have each : ∀ q ∈ ys.map fun x => q2 (kp H x), q = (ti q.2, q.2) := fun q m => by
    obtain ⟨j, _, rfl⟩ := List.mem_map.mp (pe.mem_iff.mp m)
    rfl
  refine ⟨(ys.map fun x => q2 (kp H x)).map (·.2), ?_, ?_, ?_⟩
  · have e : ((ys.map fun x => q2 (kp H x)).map (·.2)).map (fun j => (ti j, j)) = ys.map fun x => q2 (kp H x) := by
      rw [List.map_map]
      conv => rhs; rw [← List.map_id (ys.map fun x => q2 (kp H x))]
      exact List.map_congr_left fun q m => (each q m).symm
    rw [e]
    exact py
  · have := pe.map (·.2)
    rw [List.map_map (l := itemsOf N ho h)] at this
    have e : (itemsOf N ho h).map ((fun x : Int × Nat => x.2) ∘ fun j => (ti j, j)) = itemsOf N ho h := by
      conv => rhs; rw [← List.map_id (itemsOf N ho h)]
      rfl
    rw [e] at this
    exact this
  · rw [List.map_map, List.pairwise_map]
    refine List.Pairwise.imp_of_mem (fun {x y} mx my hxy => ?_) srt
    have ex := each _ (List.mem_map.mpr ⟨x, mx, rfl⟩)
    have ey := each _ (List.mem_map.mpr ⟨y, my, rfl⟩)
    have x0 := p3 x (hm x mx)
    have y0 := p3 y (hm y my)
    show lx ti (q2 (kp H y)).2 (q2 (kp H x)).2 = false
    have hx : ti (q2 (kp H x)).2 = (kp H x).1 := (congrArg Prod.fst ex).symm
    have hy : ti (q2 (kp H y)).2 = (kp H y).1 := (congrArg Prod.fst ey).symm
    unfold lx
    rw [hx, hy]
    refine decide_eq_false fun z => ?_
    have hl : ¬ (SrtO.lexB (kp H y) (kp H x) = true) := by
      have : SrtO.lexB (kp H y) (kp H x) = false := hxy
      rw [this]
      decide
    refine hl (SrtO.lexB_iff.mpr ?_)
    rcases z with z | ⟨z1, z2⟩
    · exact .inl z
    · refine .inr ⟨z1, ?_⟩
      have z2 : (kp H y).2.toNat < (kp H x).2.toNat := z2
      omega
theorem nodup_len {A : Type} [DecidableEq A] : ∀ {xs ys : List A}, xs.Nodup → (∀ x ∈ xs, x ∈ ys) → xs.length ≤ ys.length
  | [], _, _, _ => Nat.zero_le _
  | x :: xs, ys, nd, h => by
    have hx := h x List.mem_cons_self
    have nd2 := List.nodup_cons.mp nd
    have ih := nodup_len (ys := ys.erase x) nd2.2 fun y m => (List.mem_erase_of_ne (fun z => nd2.1 (by rw [← z]; exact m))).mpr (h y (List.mem_cons_of_mem _ m))
    rw [List.length_erase_of_mem hx] at ih
    have := List.length_pos_of_mem hx
    rw [List.length_cons]
    omega
/-! ### dicts from places to numbers -/
structure NumD (H : Hp) (N : Nat) (ho : Nat → Str) (ti : Nat → Int) (done : Nat → Prop) (kvs : List (Key × V)) : Prop where
  own : ∀ kv ∈ kvs, ∃ (a : Nat) (b : Addr), kv.1 = .inl (a : Int) ∧ a < N ∧ done a ∧ kv.2 = .ref b ∧ H b = some (.tup [.str (ho a), .int (rk N ho ti a : Nat)])
  all : ∀ a, a < N → done a → ∃ v, ((.inl (a : Int) : Key), v) ∈ kvs
  nd : (kvs.map (·.1)).Nodup
theorem NumD.go {H H' : Hp} {N : Nat} {ho : Nat → Str} {ti : Nat → Int} {done : Nat → Prop} {kvs : List (Key × V)} (h : NumD H N ho ti done kvs) (s : ∀ b xs, H b = some (.tup xs) → H' b = some (.tup xs)) : NumD H' N ho ti done kvs :=
  ⟨fun kv m => let ⟨a, b, e1, e2, e3, e4, e5⟩ := h.own kv m; ⟨a, b, e1, e2, e3, e4, s _ _ e5⟩, h.all, h.nd⟩
theorem NumD.iff {H : Hp} {N : Nat} {ho : Nat → Str} {ti : Nat → Int} {done done' : Nat → Prop} {kvs : List (Key × V)} (h : NumD H N ho ti done kvs) (e : ∀ a, a < N → (done a ↔ done' a)) : NumD H N ho ti done' kvs :=
  ⟨fun kv m => let ⟨a, b, e1, e2, e3, e4, e5⟩ := h.own kv m; ⟨a, b, e1, e2, (e a e2).mp e3, e4, e5⟩, fun a ha hd => h.all a ha ((e a ha).mpr hd), h.nd⟩
theorem NumD.put {H : Hp} {N : Nat} {ho : Nat → Str} {ti : Nat → Int} {done : Nat → Prop} {kvs : List (Key × V)} {a : Nat} {b : Addr} (h : NumD H N ho ti done kvs) (ha : a < N) (hb : H b = some (.tup [.str (ho a), .int (rk N ho ti a : Nat)])) : NumD H N ho ti (fun x => done x ∨ x = a) (putK kvs (.inl (a : Int)) (.ref b)) where
  own := fun kv m => by
    rcases put_mem m with ⟨m, _⟩ | rfl
    · obtain ⟨x, c, e1, e2, e3, e4, e5⟩ := h.own kv m
      exact ⟨x, c, e1, e2, .inl e3, e4, e5⟩
    · exact ⟨a, b, rfl, ha, .inr rfl, rfl, hb⟩
  all := fun x hx hd => by
    rcases hd with hd | rfl
    · obtain ⟨v, m⟩ := h.all x hx hd
      exact put_keep m
    · exact ⟨_, put_self _ _ _⟩
  nd := put_nd h.nd
theorem NumD.len {H : Hp} {N : Nat} {ho : Nat → Str} {ti : Nat → Int} {done : Nat → Prop} {kvs : List (Key × V)} (h : NumD H N ho ti done kvs) : kvs.length ≤ N := by
  have hs : ∀ k ∈ kvs.map (·.1), k ∈ (List.range N).map fun a : Nat => (Sum.inl (a : Int) : Key) := fun k m => by
    obtain ⟨kv, mk, rfl⟩ := List.mem_map.mp m
    obtain ⟨a, b, e1, e2, _⟩ := h.own kv mk
    rw [e1]
    exact List.mem_map.mpr ⟨a, List.mem_range.mpr e2, rfl⟩
  have := nodup_len h.nd hs
  rw [List.length_map, List.length_map, List.length_range] at this
  exact this
theorem NumD.at {H : Hp} {N : Nat} {ho : Nat → Str} {ti : Nat → Int} {done : Nat → Prop} {kvs : List (Key × V)} (h : NumD H N ho ti done kvs) {a : Nat} (ha : a < N) (hd : done a) : ∃ b, valV kvs (.inl (a : Int)) = some (.ref b) ∧ H b = some (.tup [.str (ho a), .int (rk N ho ti a : Nat)]) := by
  cases e : valV kvs (.inl (a : Int)) with
  | none =>
    obtain ⟨v, m⟩ := h.all a ha hd
    exact absurd m (val_none e v)
  | some v =>
    obtain ⟨x, b, e1, e2, e3, e4, e5⟩ := h.own _ (val_mem e)
    have e1 : (a : Int) = (x : Int) := Sum.inl.inj e1
    obtain rfl : a = x := Int.ofNat.inj e1
    exact ⟨b, by rw [← e4], e5⟩
def hoJ (js : List WJ) (i : Nat) : Str := match js[i]? with
  | some j => j.h
  | none => ""
def tiJ (js : List WJ) (i : Nat) : Int := match js[i]? with
  | some j => j.b
  | none => 0
def hoA (js : List WJ) (as : List WA) (i : Nat) : Str := match as[i]? with
  | some x => hoJ js x.pl
  | none => ""
def tiA (as : List WA) (i : Nat) : Int := match as[i]? with
  | some x => x.o
  | none => 0
def sp_called : Sp := fun vs H Q _ => ∃ (t w lj la : Addr) (hs gs : List Str) (rs qs : List Addr) (js : List WJ) (as : List WA) (most : Int), vs = [.ref t, .ref w] ∧ TownAt H t hs gs ∧ WorldAt H w lj la rs qs js as most ∧ js.length ≤ 500 ∧ as.length ≤ 500 ∧
  ∀ (p dA dJ : Addr) (kA kJ : List (Key × V)) (H' : Hp), Same H H' → H' p = some (.tup [.ref dA, .ref dJ]) → H' dA = some (.dK kA) → H' dJ = some (.dK kJ) → H dA = none → H dJ = none → NumD H' as.length (hoA js as) (tiA as) (fun a => hoA js as a ∈ hs) kA → NumD H' js.length (hoJ js) (tiJ js) (fun a => hoJ js a ∈ hs) kJ → Q (.ref p) H'
theorem items_succ (k : Nat) (ho : Nat → Str) (h : Str) : itemsOf (k + 1) ho h = itemsOf k ho h ++ (if ho k = h then [k] else []) := by
  unfold itemsOf
  rw [List.range_succ, filter_snoc]
  congr 1
  by_cases e : ho k = h <;> simp [e]
theorem items_len (k : Nat) (ho : Nat → Str) (h : Str) : (itemsOf k ho h).length ≤ k := by
  unfold itemsOf
  exact Nat.le_trans (List.length_filter_le _ _) (by rw [List.length_range]; exact Nat.le_refl _)
theorem Prs.at {H : Hp} : ∀ {us : List V} {ks : List (Int × Nat)} {i : Nat} {k : Int × Nat}, Prs H us ks → ks[i]? = some k → ∃ t, us[i]? = some (.ref t) ∧ H t = some (.tup [.int k.1, .int (k.2 : Nat)])
  | _, _, 0, _, .cons h _, e => ⟨_, rfl, by obtain rfl := Option.some.inj e; exact h⟩
  | _, _, _ + 1, _, .cons _ r, e => r.at e
def Kp (d : Addr) (H H' : Hp) : Prop := ∀ b o, b ≠ d → H b = some o → H' b = some o
set_option maxHeartbeats 16000000 in
theorem ok_l_called (T : Txt K mg af fd) : FnOk P w K mg base CX0 1 (af 36) (fd 36) ["town", "world"] sp_called := by
  refine T.F_l_called.ok sc_l_called (fun vs H Q E h => ?_) (fun cdv A outer s H vs Q E hr h => ?_)
  · obtain ⟨t, w, lj, la, hs, gs, rs, qs, js, as, most, rfl, _⟩ := h
    rfl
  · obtain ⟨t, w, lj, la, hs, gs, rs, qs, js, as, most, rfl, ⟨ta, tb, t1, t2, t3⟩, W, lenj, lena, q⟩ := h
    refine ⟨_, (pss_cons (ps_set (i := 2) sc_l_called.nd rfl (by first | exact Or.inl rfl | exact Or.inr rfl) pe_dnewK)
        (pss_cons (ps_set (i := 3) sc_l_called.nd rfl (by first | exact Or.inl rfl | exact Or.inr rfl) pe_dnewK)
        (pss_cons (ps_for PassesOwn.never rfl (pi_tup (pe_ix ix_tup (pv 0) pe_int (fun _ _ => rfl))) (pg_name (i := 4) sc_l_called.nd rfl (by first | exact Or.inl rfl | exact Or.inr rfl)) (pss_cons (ps_set (i := 5) sc_l_called.nd rfl (by first | exact Or.inl rfl | exact Or.inr rfl) (pe_callB cr_sortedPO (by rfl) T.m_sorted (by decide +kernel) (pa_cons (pe_lc (own := [("at", 6), ("ask", 7)]) (g := gTup K 2 (gCons (gName 6) (gCons (gName 7) gNil))) (by rfl) sc_l_called.nd (pi_enum (by rfl) T.m_enumerate (pa_cons (pe_ix ix_list (pv 1) pe_int (fun _ _ => rfl)) pa_nil)) (blkOk_by (own := [("at", 6), ("ask", 7)]) (N := ["town", "world", "asks", "jobs", "house", "outs", "at", "ask", "begins", "place", "job", "number"]) (sc := defScope s_l_called) (by decide +kernel)) (fun _ _ _ _ _ => pg_tup rfl (pgs_cons (pg_name (i := 6) sc_l_called.nd rfl (Or.inl rfl)) (pgs_cons (pg_name (i := 7) sc_l_called.nd rfl (Or.inl rfl)) pgs_nil))) (fun _ _ _ _ _ => (pts_one (pt_cmpR op_eq (pe_ix (show IxR _ (rIxL K) from ix_list) (pe_ix (show IxR _ (rIxL K) from ix_list) (pe_ix (show IxR _ (rIxL K) from ix_list) (pv 1) pe_int (fun _ _ => rfl)) (pe_ix (show IxR _ (rIxL K) from ix_list) (pv 7) pe_int (fun _ _ => rfl)) (fun _ _ => rfl)) pe_int (fun _ _ => rfl)) (pv 4) (nomark _)))) (fun _ _ _ _ _ => (pe_tup (pa_cons (pe_ix (show IxR _ (rIxL K) from ix_list) (pv 7) pe_int (fun _ _ => rfl)) (pa_cons (pv 6) pa_nil))))) pa_nil)))
        (pss_cons (ps_set (i := 8) sc_l_called.nd rfl (by first | exact Or.inl rfl | exact Or.inr rfl) (pe_callB cr_sortedPO (by rfl) T.m_sorted (by decide +kernel) (pa_cons (pe_lc (own := [("place", 9), ("job", 10)]) (g := gTup K 2 (gCons (gName 9) (gCons (gName 10) gNil))) (by rfl) sc_l_called.nd (pi_enum (by rfl) T.m_enumerate (pa_cons (pe_ix (show IxR _ (rIxL K) from ix_list) (pv 1) pe_int (fun _ _ => rfl)) pa_nil)) (blkOk_by (own := [("place", 9), ("job", 10)]) (N := ["town", "world", "asks", "jobs", "house", "outs", "at", "ask", "begins", "place", "job", "number"]) (sc := defScope s_l_called) (by decide +kernel)) (fun _ _ _ _ _ => pg_tup rfl (pgs_cons (pg_name (i := 9) sc_l_called.nd rfl (Or.inl rfl)) (pgs_cons (pg_name (i := 10) sc_l_called.nd rfl (Or.inl rfl)) pgs_nil))) (fun _ _ _ _ _ => (pts_one (pt_cmpR op_eq (pe_ix (show IxR _ (rIxL K) from ix_list) (pv 10) pe_int (fun _ _ => rfl)) (pv 4) (nomark _)))) (fun _ _ _ _ _ => (pe_tup (pa_cons (pe_ix (show IxR _ (rIxL K) from ix_list) (pv 10) pe_int (fun _ _ => rfl)) (pa_cons (pv 9) pa_nil))))) pa_nil)))
        (pss_cons (ps_for PassesOwn.never rfl (pi_range1 (by rfl) T.m_range (pa_cons (pe_callB call_len_seq (by rfl) T.m_len (by decide +kernel) (pa_cons (pv 5) pa_nil)) pa_nil)) (pg_name (i := 11) sc_l_called.nd rfl (by first | exact Or.inl rfl | exact Or.inr rfl)) (pss_one (ps_dput (hu_of hr) (pv 2) (pe_ix ix_tup (pe_ix ix_list (pv 5) (pv 11) (fun _ _ => rfl)) pe_int (fun _ _ => rfl)) (pe_tup (pa_cons (pv 4) (pa_cons (pv 11) pa_nil))) rfl)))
        (pss_one (ps_for PassesOwn.never rfl (pi_range1 (by rfl) T.m_range (pa_cons (pe_callB call_len_seq (by rfl) T.m_len (by decide +kernel) (pa_cons (pv 8) pa_nil)) pa_nil)) (pg_name (i := 11) sc_l_called.nd rfl (by first | exact Or.inl rfl | exact Or.inr rfl)) (pss_one (ps_dput (hu_of hr) (pv 3) (pe_ix ix_tup (pe_ix ix_list (pv 8) (pv 11) (fun _ _ => rfl)) pe_int (fun _ _ => rfl)) (pe_tup (pa_cons (pv 4) (pa_cons (pv 11) pa_nil))) rfl))))))))
        (pss_one (ps_ret (pe_tup (pa_cons (pv 2) (pa_cons (pv 3) pa_nil)))))))), ?_⟩
    intro dA ndA dJ ndJ
    have ndJ0 : H dJ = none := (same_upd ndA).free ndJ
    have neAJ : dA ≠ dJ := ne_of_none upd_same ndJ
    have s0 : Same H (upd (upd H dA (.dK [])) dJ (.dK [])) := (same_upd ndA).trans (same_upd ndJ)
    have hA0 : (upd (upd H dA (.dK [])) dJ (.dK [])) dA = some (.dK []) := by rw [upd_ne neAJ, upd_same]
    have hJ0 : (upd (upd H dA (.dK [])) dJ (.dK [])) dJ = some (.dK []) := upd_same
    generalize upd (upd H dA (.dK [])) dJ (.dK []) = H0 at s0 hA0 hJ0 ⊢
    refine ⟨_, rfl, t, _, 0, _, rfl, rfl, SqT.of (s0 _ _ t1), rfl, ta, rfl, ⟨_, SqT.of (s0 _ _ t2)⟩, ?_⟩
    refine for_it (walk_tup (K := K) (a := ta) (xs := hs.map V.str)) (fun i σ H' => (∃ v4 v5 v6 v7 v8 v9 v10 v11 : Option V, σ = [some (.ref t), some (.ref w), some (.ref dA), some (.ref dJ), v4, v5, v6, v7, v8, v9, v10, v11]) ∧ Same H H' ∧ ∃ kA kJ, H' dA = some (.dK kA) ∧ H' dJ = some (.dK kJ) ∧ NumD H' as.length (hoA js as) (tiA as) (fun a => hoA js as a ∈ hs.take i) kA ∧ NumD H' js.length (hoJ js) (tiJ js) (fun a => hoJ js a ∈ hs.take i) kJ)
      ⟨⟨none, none, none, none, none, none, none, none, rfl⟩, s0, [], [], hA0, hJ0, ⟨fun _ m => (nomatch m), (fun a _ h => by rw [List.take_zero] at h; exact nomatch h), List.nodup_nil⟩, ⟨fun _ m => (nomatch m), (fun a _ h => by rw [List.take_zero] at h; exact nomatch h), List.nodup_nil⟩⟩ (fun i σ H' _ h => SqT.of (h.2.1 _ _ t2)) ?_ ?_
    · rintro i v σ H1 H2 hi ⟨⟨v4, v5, v6, v7, v8, v9, v10, v11, rfl⟩, s1, kA, kJ, hA, hJ, nA, nJ⟩ ⟨rfl, ev⟩
      rw [List.length_map] at hi
      have eh : hs[i]? = some hs[i] := List.getElem?_eq_getElem hi
      generalize hs[i] = h at eh
      rw [List.getElem?_map, eh] at ev
      obtain rfl : V.str h = v := Option.some.inj ev
      have W1 := W.same s1
      -- outs
      refine ⟨_, rfl, w, _, 1, _, rfl, rfl, SqL.of W1.w, rfl, la, qs.map V.ref, rfl, SqL.of W1.a, fun D nD => ?_⟩
      refine lc_it (walk_enum (K := K) (a := la) (xs := qs.map V.ref)) (fun k H' => Same H2 H' ∧ ∃ us, H' D = some (.lst us) ∧ Prs H' us ((itemsOf k (hoA js as) h).map fun j => (tiA as j, j)))
        ⟨same_upd nD, [], upd_same, .nil⟩ (fun k H' _ h => SqL.of (h.1 _ _ W1.a)) ?_ ?_
      · rintro k v G1 G2 hk ⟨g1, us, hD, pr⟩ ⟨Tp, x1, x2, rfl, nT, rfl, e1, e2⟩
        obtain rfl : V.int (k : Nat) = x1 := Option.some.inj e1
        have e2 : (qs.map V.ref)[k]? = some x2 := e2
        rw [List.getElem?_map] at e2
        obtain ⟨r, hr1, rfl⟩ := Option.map_eq_some_iff.mp e2
        have hka : k < as.length := by rw [← W.ca.1]; exact (List.getElem?_eq_some_iff.mp hr1).1
        have hx : as[k]? = some as[k] := List.getElem?_eq_getElem hka
        generalize as[k] = x at hx
        have g2 : Same H2 (upd G1 Tp (.tup [.int (k : Nat), .ref r])) := same_mut g1 (g1.free nT)
        have hDT : (upd G1 Tp (.tup [.int (k : Nat), .ref r])) D = some (.lst us) := by rw [upd_ne (ne_of_none hD nT)]; exact hD
        have prT := pr.go (H' := upd G1 Tp (.tup [.int (k : Nat), .ref r])) fun b ys e => (same_upd nT) _ _ e
        refine ⟨Tp, _, rfl, SqT.of upd_same, rfl, _, _, rfl, _, _, rfl, rfl, rfl, ?_⟩
        generalize upd G1 Tp (.tup [.int (k : Nat), .ref r]) = G3 at g2 hDT prT ⊢
        have W2 := W1.same g2
        have hr2 := W2.ca.2 k r x hr1 hx
        have hpl := W.pl x (List.mem_of_getElem? hx)
        have hj : js[x.pl]? = some js[x.pl] := List.getElem?_eq_getElem hpl
        generalize js[x.pl] = j at hj
        obtain ⟨rj, erj, hrj⟩ := W2.cj.at hj
        have eho : hoA js as k = j.h := by unfold hoA hoJ; rw [hx]; show (match js[x.pl]? with | some j => j.h | none => "") = _; rw [hj]
        have eti : tiA as k = x.o := by unfold tiA; rw [hx]
        have l1 := prT.len
        rw [List.length_map] at l1
        have l2 := items_len k (hoA js as) h
        refine ⟨_, rfl, w, _, 0, _, rfl, rfl, SqL.of W2.w, rfl, _, rfl, r, _, 0, _, rfl, rfl, SqL.of hr2, rfl, lj, _, _, _, rfl, rfl, SqL.of W2.j, atI_nat (map_ref erj), rj, _, 0, _, rfl, rfl, SqL.of hrj, rfl, _, rfl, rfl, _, rfl, ?_⟩
        by_cases e : j.h = h
        · refine iteTd (congrArg V.str e) ⟨_, rfl, r, _, 2, _, rfl, rfl, SqL.of hr2, rfl, _, rfl, (by show 2 ≤ sizeLine; decide), fun b nb => ?_⟩
          have hDb : (upd G3 b (.tup [.int x.o, .int (k : Nat)])) D = some (.lst us) := by rw [upd_ne (ne_of_none hDT nb)]; exact hDT
          refine ⟨us, hDb, small_line (by omega), same_mut (same_mut g2 (g2.free nb)) nD, _, upd_same, ?_⟩
          rw [items_succ, if_pos (eho.trans e), List.map_append]
          refine (prT.go fun c ys ec => ?_).snoc (k := (tiA as k, k)) ?_
          · rw [upd_ne (ne_of ec hDT (fun z => nomatch z)), upd_ne (ne_of_none ec nb)]
            exact ec
          · rw [upd_ne (fun z => by rw [z] at nb; rw [nb] at hDT; cases hDT), upd_same, eti]
        · refine iteFd (fun z => e (V.str.inj z)) ⟨g2, us, hDT, ?_⟩
          rw [items_succ, if_neg (fun z => e (eho.symm.trans z)), List.append_nil]
          exact prT
      rintro G1 ⟨g1, us, hD, pr⟩
      rw [List.length_map, W.ca.1] at pr
      obtain ⟨pe1, _, _⟩ := pr.each
      refine ⟨D, us, kp G1, rfl, SqL.of hD, pe1, fun ys pO srt stb npO => ?_⟩
      obtain ⟨SA, pA, pmA, srA⟩ := prs_sorted pr srt stb
      have g2 := g1.trans (same_upd (o := .lst ys) npO)
      have hO : (upd G1 pO (.lst ys)) pO = some (.lst ys) := upd_same
      have pA := pA.go (H' := upd G1 pO (.lst ys)) fun b zs e => (same_upd npO) _ _ e
      generalize upd G1 pO (.lst ys) = G2 at g2 hO pA ⊢
      have W2 := W1.same g2
      -- begins
      refine ⟨_, rfl, w, _, 0, _, rfl, rfl, SqL.of W2.w, rfl, lj, rs.map V.ref, rfl, SqL.of W2.j, fun D nD => ?_⟩
      refine lc_it (walk_enum (K := K) (a := lj) (xs := rs.map V.ref)) (fun k H' => Same G2 H' ∧ ∃ us, H' D = some (.lst us) ∧ Prs H' us ((itemsOf k (hoJ js) h).map fun j => (tiJ js j, j)))
        ⟨same_upd nD, [], upd_same, .nil⟩ (fun k H' _ h => SqL.of (h.1 _ _ W2.j)) ?_ ?_
      · rintro k v F1 F2 hk ⟨f1, us, hD, pr⟩ ⟨Tp, x1, x2, rfl, nT, rfl, e1, e2⟩
        obtain rfl : V.int (k : Nat) = x1 := Option.some.inj e1
        have e2 : (rs.map V.ref)[k]? = some x2 := e2
        rw [List.getElem?_map] at e2
        obtain ⟨r, hr1, rfl⟩ := Option.map_eq_some_iff.mp e2
        have hkj : k < js.length := by rw [← W.cj.1]; exact (List.getElem?_eq_some_iff.mp hr1).1
        have hx : js[k]? = some js[k] := List.getElem?_eq_getElem hkj
        generalize js[k] = j at hx
        have f2 : Same G2 (upd F1 Tp (.tup [.int (k : Nat), .ref r])) := same_mut f1 (f1.free nT)
        have hDT : (upd F1 Tp (.tup [.int (k : Nat), .ref r])) D = some (.lst us) := by rw [upd_ne (ne_of_none hD nT)]; exact hD
        have prT := pr.go (H' := upd F1 Tp (.tup [.int (k : Nat), .ref r])) fun b ys e => (same_upd nT) _ _ e
        refine ⟨Tp, _, rfl, SqT.of upd_same, rfl, _, _, rfl, _, _, rfl, rfl, rfl, ?_⟩
        generalize upd F1 Tp (.tup [.int (k : Nat), .ref r]) = F3 at f2 hDT prT ⊢
        have hr2 := (W2.same f2).cj.2 k r j hr1 hx
        have eho : hoJ js k = j.h := by unfold hoJ; rw [hx]
        have eti : tiJ js k = j.b := by unfold tiJ; rw [hx]
        have l1 := prT.len
        rw [List.length_map] at l1
        have l2 := items_len k (hoJ js) h
        refine ⟨_, rfl, r, _, 0, _, rfl, rfl, SqL.of hr2, rfl, _, rfl, rfl, _, rfl, ?_⟩
        by_cases e : j.h = h
        · refine iteTd (congrArg V.str e) ⟨_, rfl, r, _, 1, _, rfl, rfl, SqL.of hr2, rfl, _, rfl, (by show 2 ≤ sizeLine; decide), fun b nb => ?_⟩
          have hDb : (upd F3 b (.tup [.int j.b, .int (k : Nat)])) D = some (.lst us) := by rw [upd_ne (ne_of_none hDT nb)]; exact hDT
          refine ⟨us, hDb, small_line (by omega), same_mut (same_mut f2 (f2.free nb)) nD, _, upd_same, ?_⟩
          rw [items_succ, if_pos (eho.trans e), List.map_append]
          refine (prT.go fun c ys ec => ?_).snoc (k := (tiJ js k, k)) ?_
          · rw [upd_ne (ne_of ec hDT (fun z => nomatch z)), upd_ne (ne_of_none ec nb)]
            exact ec
          · rw [upd_ne (fun z => by rw [z] at nb; rw [nb] at hDT; cases hDT), upd_same, eti]
        · refine iteFd (fun z => e (V.str.inj z)) ⟨f2, us, hDT, ?_⟩
          rw [items_succ, if_neg (fun z => e (eho.symm.trans z)), List.append_nil]
          exact prT
      rintro F1 ⟨f1, us, hD, pr⟩
      rw [List.length_map, W.cj.1] at pr
      obtain ⟨pe1, _, _⟩ := pr.each
      refine ⟨D, us, kp F1, rfl, SqL.of hD, pe1, fun zs pB srt stb npB => ?_⟩
      obtain ⟨SJ, pJ, pmJ, srJ⟩ := prs_sorted pr srt stb
      have f2 := f1.trans (same_upd (o := .lst zs) npB)
      have hB : (upd F1 pB (.lst zs)) pB = some (.lst zs) := upd_same
      have pJ := pJ.go (H' := upd F1 pB (.lst zs)) fun b ys e => (same_upd npB) _ _ e
      generalize upd F1 pB (.lst zs) = F2 at f2 hB pJ ⊢
      have gF := g2.trans f2
      have hO := f2 _ _ hO
      have pA := pA.go (H' := F2) fun b xs e => f2 _ _ e
      have hA := gF _ _ hA
      have hJ := gF _ _ hJ
      have nA := nA.go (H' := F2) fun b xs e => gF _ _ e
      have nJ := nJ.go (H' := F2) fun b xs e => gF _ _ e
      have sF := s1.trans gF
      have lA := pA.len
      rw [List.length_map] at lA
      have lA2 : SA.length ≤ 500 := by rw [pmA.length_eq]; exact Nat.le_trans (items_len _ _ _) lena
      have lJ := pJ.len
      rw [List.length_map] at lJ
      have lJ2 : SJ.length ≤ 500 := by rw [pmJ.length_eq]; exact Nat.le_trans (items_len _ _ _) lenj
      clear hD pr pe1 srt stb npB f1
      -- the asks
      refine ⟨_, rfl, pO, _, rfl, .inl (SqL.of hO), _, rfl, by omega, by omega, for_range (lo := 0) (n := ((ys.length : Int)).toNat) (fun n σ H' => (∃ v6 v7 v9 v10 v11 : Option V, σ = [some (.ref t), some (.ref w), some (.ref dA), some (.ref dJ), some (.str h), some (.ref pO), v6, v7, some (.ref pB), v9, v10, v11]) ∧ Kp dA F2 H' ∧ ∃ kA, H' dA = some (.dK kA) ∧ NumD H' as.length (hoA js as) (tiA as) (fun a => hoA js as a ∈ hs.take i ∨ (hoA js as a = h ∧ rk as.length (hoA js as) (tiA as) a < n)) kA)
        ⟨⟨_, _, _, _, _, rfl⟩, fun b o _ e => e, kA, hA, nA.iff fun a _ => ⟨fun z => .inl z, fun z => z.elim (fun z => z) fun z => absurd z.2 (Nat.not_lt_zero _)⟩⟩ ?_ ?_⟩
      · rintro n σ G hn ⟨⟨v6, v7, v9, v10, v11, rfl⟩, kG, kA2, hA2, nA2⟩
        rw [Int.toNat_natCast] at hn
        have hnS : n < SA.length := by omega
        have eS : SA[n]? = some SA[n] := List.getElem?_eq_getElem hnS
        generalize SA[n] = a at eS
        obtain ⟨a1, a2, a3⟩ := sorted_rank pmA srA eS
        obtain ⟨tq, etq, htq⟩ := pA.at (i := n) (k := (tiA as a, a)) (by rw [List.getElem?_map, eS]; rfl)
        have hOG : G pO = some (.lst ys) := kG _ _ (ne_of hO hA (fun z => nomatch z)) hO
        have htG := kG _ _ (ne_of htq hA (fun z => nomatch z)) htq
        refine ⟨_, rfl, _, rfl, (by show 2 ≤ sizeLine; decide), fun b nb => ?_⟩
        have sb : Same G (upd G b (.tup [.str h, .int (0 + (n : Nat))])) := same_upd nb
        have hbb : (upd G b (.tup [.str h, .int (0 + (n : Nat))])) b = some (.tup [.str (hoA js as a), .int (rk as.length (hoA js as) (tiA as) a : Nat)]) := by rw [upd_same, a2, a3, Int.zero_add]
        generalize upd G b (.tup [.str h, .int (0 + (n : Nat))]) = G2 at sb hbb ⊢
        have hk2 := nA2.len
        refine ⟨_, rfl, _, rfl, _, rfl, pO, _, _, .ref tq, rfl, rfl, SqL.of (sb _ _ hOG), at_any (j := n) (by omega) etq, tq, _, 1, _, rfl, rfl, SqT.of (sb _ _ htG), rfl, dA, _, rfl, DPut.k (k := Sum.inl (a : Int)) (sb _ _ hA2) (small_line (by omega)), ?_⟩
        have tup : ∀ c xs, G2 c = some (.tup xs) → (upd G2 dA (.dK (putK kA2 (Sum.inl (a : Int)) (.ref b)))) c = some (.tup xs) := fun c xs e => by
          rw [upd_ne (ne_of e (sb _ _ hA2) (fun z => nomatch z))]
          exact e
        refine ⟨⟨_, _, _, _, _, rfl⟩, fun c o nc e => by rw [upd_ne nc]; exact sb _ _ (kG c o nc e), _, upd_same, ?_⟩
        refine ((((nA2.go fun c xs e => sb _ _ e).put a1 hbb).go tup).iff fun x hx => ?_)
        constructor
        · rintro ((h1 | ⟨h1, h2⟩) | rfl)
          · exact .inl h1
          · exact .inr ⟨h1, by omega⟩
          · exact .inr ⟨a2, by omega⟩
        · rintro (h1 | ⟨h1, h2⟩)
          · exact .inl (.inl h1)
          · by_cases e : rk as.length (hoA js as) (tiA as) x = n
            · exact .inr (rk_inj hx a1 (h1.trans a2.symm) (e.trans a3.symm))
            · exact .inl (.inr ⟨h1, by omega⟩)
      rintro σ G ⟨⟨v6, v7, v9, v10, v11, rfl⟩, kG, kA2, hA2, nA2⟩
      rw [Int.toNat_natCast, lA] at nA2
      have nA3 : NumD G as.length (hoA js as) (tiA as) (fun a => hoA js as a ∈ hs.take (i + 1)) kA2 := nA2.iff fun a ha => by
        rw [take_snoc eh, List.mem_append, List.mem_singleton]
        constructor
        · exact fun z => z.elim .inl fun z => .inr z.1
        · refine fun z => z.elim .inl fun z => .inr ⟨z, ?_⟩
          rw [pmA.length_eq, ← z]
          exact rk_lt ha
      have hBG : G pB = some (.lst zs) := kG _ _ (ne_of hB hA (fun z => nomatch z)) hB
      have hJG : G dJ = some (.dK kJ) := kG _ _ (Ne.symm neAJ) hJ
      have nJG := nJ.go (H' := G) fun b xs e => kG _ _ (ne_of e hA (fun z => nomatch z)) e
      have pJG := pJ.go (H' := G) fun b xs e => kG _ _ (ne_of e hA (fun z => nomatch z)) e
      have sG : Same H G := fun b o e => kG b o (ne_of_none e ndA) (sF b o e)
      -- the jobs
      refine ⟨_, rfl, pB, _, rfl, .inl (SqL.of hBG), _, rfl, by omega, by omega, for_range (lo := 0) (n := ((zs.length : Int)).toNat) (fun n σ H' => (∃ v6 v7 v9 v10 v11 : Option V, σ = [some (.ref t), some (.ref w), some (.ref dA), some (.ref dJ), some (.str h), some (.ref pO), v6, v7, some (.ref pB), v9, v10, v11]) ∧ Kp dJ G H' ∧ ∃ kJ, H' dJ = some (.dK kJ) ∧ NumD H' js.length (hoJ js) (tiJ js) (fun a => hoJ js a ∈ hs.take i ∨ (hoJ js a = h ∧ rk js.length (hoJ js) (tiJ js) a < n)) kJ)
        ⟨⟨_, _, _, _, _, rfl⟩, fun b o _ e => e, kJ, hJG, nJG.iff fun a _ => ⟨fun z => .inl z, fun z => z.elim (fun z => z) fun z => absurd z.2 (Nat.not_lt_zero _)⟩⟩ ?_ ?_⟩
      · rintro n σ M hn ⟨⟨v6, v7, v9, v10, v11, rfl⟩, kM, kJ2, hJ2, nJ2⟩
        rw [Int.toNat_natCast] at hn
        have hnS : n < SJ.length := by omega
        have eS : SJ[n]? = some SJ[n] := List.getElem?_eq_getElem hnS
        generalize SJ[n] = a at eS
        obtain ⟨a1, a2, a3⟩ := sorted_rank pmJ srJ eS
        obtain ⟨tq, etq, htq⟩ := pJG.at (i := n) (k := (tiJ js a, a)) (by rw [List.getElem?_map, eS]; rfl)
        have hBM : M pB = some (.lst zs) := kM _ _ (ne_of hBG hJG (fun z => nomatch z)) hBG
        have htM := kM _ _ (ne_of htq hJG (fun z => nomatch z)) htq
        refine ⟨_, rfl, _, rfl, (by show 2 ≤ sizeLine; decide), fun b nb => ?_⟩
        have sb : Same M (upd M b (.tup [.str h, .int (0 + (n : Nat))])) := same_upd nb
        have hbb : (upd M b (.tup [.str h, .int (0 + (n : Nat))])) b = some (.tup [.str (hoJ js a), .int (rk js.length (hoJ js) (tiJ js) a : Nat)]) := by rw [upd_same, a2, a3, Int.zero_add]
        generalize upd M b (.tup [.str h, .int (0 + (n : Nat))]) = M2 at sb hbb ⊢
        have hk2 := nJ2.len
        refine ⟨_, rfl, _, rfl, _, rfl, pB, _, _, .ref tq, rfl, rfl, SqL.of (sb _ _ hBM), at_any (j := n) (by omega) etq, tq, _, 1, _, rfl, rfl, SqT.of (sb _ _ htM), rfl, dJ, _, rfl, DPut.k (k := Sum.inl (a : Int)) (sb _ _ hJ2) (small_line (by omega)), ?_⟩
        have tup : ∀ c xs, M2 c = some (.tup xs) → (upd M2 dJ (.dK (putK kJ2 (Sum.inl (a : Int)) (.ref b)))) c = some (.tup xs) := fun c xs e => by
          rw [upd_ne (ne_of e (sb _ _ hJ2) (fun z => nomatch z))]
          exact e
        refine ⟨⟨_, _, _, _, _, rfl⟩, fun c o nc e => by rw [upd_ne nc]; exact sb _ _ (kM c o nc e), _, upd_same, ?_⟩
        refine ((((nJ2.go fun c xs e => sb _ _ e).put a1 hbb).go tup).iff fun x hx => ?_)
        constructor
        · rintro ((h1 | ⟨h1, h2⟩) | rfl)
          · exact .inl h1
          · exact .inr ⟨h1, by omega⟩
          · exact .inr ⟨a2, by omega⟩
        · rintro (h1 | ⟨h1, h2⟩)
          · exact .inl (.inl h1)
          · by_cases e : rk js.length (hoJ js) (tiJ js) x = n
            · exact .inr (rk_inj hx a1 (h1.trans a2.symm) (e.trans a3.symm))
            · exact .inl (.inr ⟨h1, by omega⟩)
      rintro σ M ⟨⟨v6, v7, v9, v10, v11, rfl⟩, kM, kJ2, hJ2, nJ2⟩
      rw [Int.toNat_natCast, lJ] at nJ2
      refine ⟨⟨_, _, _, _, _, _, _, _, rfl⟩, fun b o e => kM b o (ne_of_none e ndJ0) (sG b o e), kA2, kJ2, kM _ _ neAJ hA2, hJ2, nA3.go fun b xs e => kM _ _ (ne_of e hJG (fun z => nomatch z)) e, nJ2.iff fun a ha => ?_⟩
      rw [take_snoc eh, List.mem_append, List.mem_singleton]
      constructor
      · exact fun z => z.elim .inl fun z => .inr z.1
      · refine fun z => z.elim .inl fun z => .inr ⟨z, ?_⟩
        rw [pmJ.length_eq, ← z]
        exact rk_lt ha
    · rintro σ H1 ⟨⟨v4, v5, v6, v7, v8, v9, v10, v11, rfl⟩, s1, kA, kJ, hA, hJ, nA, nJ⟩
      rw [List.length_map, List.take_length] at nA nJ
      refine ⟨_, rfl, _, rfl, (by show 2 ≤ sizeLine; decide), fun p np => ?_⟩
      have sp := same_upd (o := .tup [.ref dA, .ref dJ]) np
      exact q p dA dJ kA kJ _ (s1.trans sp) upd_same (sp _ _ hA) (sp _ _ hJ) ndA ndJ0 (nA.go fun b xs e => sp _ _ e) (nJ.go fun b xs e => sp _ _ e)
/-! ### the houses' first times -/
def BasI (b : Int) : Prop := -1000000000000 ≤ b ∧ b ≤ 1000000000000 - 4000
theorem merge_each {P : Key × V → Prop} : ∀ {more kvs : List (Key × V)}, (∀ x ∈ kvs, P x) → (∀ x ∈ more, P x) → ∀ x ∈ mergeK kvs more, P x
  | [], _, h, _, x, m => h x m
  | p :: r, kvs, h, h2, x, m => by
    refine merge_each (more := r) (kvs := putK kvs p.1 p.2) (fun y my => ?_) (fun y my => h2 y (List.mem_cons_of_mem _ my)) x m
    rcases put_mem my with ⟨my, _⟩ | rfl
    · exact h y my
    · exact h2 p List.mem_cons_self
theorem merge_keys : ∀ {more kvs : List (Key × V)} {k : Key}, k ∈ kvs.map (·.1) ∨ k ∈ more.map (·.1) → k ∈ (mergeK kvs more).map (·.1)
  | [], _, _, h => h.elim (fun z => z) fun z => nomatch z
  | p :: r, kvs, k, h => by
    refine merge_keys (more := r) (kvs := putK kvs p.1 p.2) ?_
    rcases h with h | h
    · refine .inl ?_
      rw [put_keys]
      exact List.mem_append_left _ h
    · rcases List.mem_cons.mp h with rfl | h
      · exact .inl (List.mem_map.mpr ⟨_, put_self kvs p.1 p.2, rfl⟩)
      · exact .inr h
/-! a dict from the houses to ints -/
def BasD (hs : List Str) (bs : Str → Int) (kvs : List (Key × V)) : Prop := ∀ h ∈ hs, valV kvs (.inr h) = some (.int (bs h)) ∧ BasI (bs h)
def basOf (kvs : List (Key × V)) (h : Str) : Int := match valV kvs (.inr h) with
  | some (.int n) => n
  | _ => 0
inductive Pkv (H : Hp) : List Addr → List (Key × V) → Prop
  | nil : Pkv H [] []
  | cons {p : Addr} {kv : Key × V} {ps : List Addr} {kvs : List (Key × V)} : H p = some (.tup [kV kv.1, kv.2]) → Pkv H ps kvs → Pkv H (p :: ps) (kv :: kvs)
theorem Pkv.go {H H' : Hp} (s : ∀ b xs, H b = some (.tup xs) → H' b = some (.tup xs)) : ∀ {us : List Addr} {ks : List (Key × V)}, Pkv H us ks → Pkv H' us ks
  | _, _, .nil => .nil
  | _, _, .cons h r => .cons (s _ _ h) (r.go s)
theorem Pkv.snoc {H : Hp} {b : Addr} {k : Key × V} (hb : H b = some (.tup [kV k.1, k.2])) : ∀ {us : List Addr} {ks : List (Key × V)}, Pkv H us ks → Pkv H (us ++ [b]) (ks ++ [k])
  | _, _, .nil => .cons hb .nil
  | _, _, .cons h r => .cons h (r.snoc hb)
theorem Pkv.len {H : Hp} : ∀ {us : List Addr} {ks : List (Key × V)}, Pkv H us ks → us.length = ks.length
  | _, _, .nil => rfl
  | _, _, .cons _ r => by rw [List.length_cons, List.length_cons, r.len]
theorem Pkv.pair {H : Hp} : ∀ {us : List Addr} {ks : List (Key × V)}, Pkv H us ks → Paired (fun p kv => SqT K H p [kV kv.1, kv.2]) us ks
  | _, _, .nil => .nil
  | _, _, .cons h r => .cons (SqT.of h) r.pair
def sp_bases : Sp := fun vs H Q _ => ∃ (p c t : Addr) (hs gs : List Str) (many : Int), vs = [.ref p, .ref t, .int many] ∧ Pen H p c ∧ TownAt H t hs gs ∧ hs.length ≤ 6 ∧ 0 < many ∧ many ≤ 1000 ∧
  ∀ (d : Addr) (bs : Str → Int) (kvs : List (Key × V)) (H' : Hp), Stp p c H H' → H d = none → H' d = some (.dK kvs) → BasD hs bs kvs → (∃ b0 : Int, ∀ h ∈ hs, b0 ≤ bs h ∧ bs h < b0 + many) → Q (.ref d) H'
theorem ok_l_bases (T : Txt K mg af fd) : FnOk P w K mg base CX0 3 (af 37) (fd 37) ["pen", "town", "many"] sp_bases := by
  refine T.F_l_bases.ok sc_l_bases (fun vs H Q E h => ?_) (fun cdv A outer s H vs Q E hr h => ?_)
  · obtain ⟨p, c, t, hs, gs, many, rfl, _⟩ := h
    rfl
  · obtain ⟨p, c, t, hs, gs, many, rfl, hP, ht, l6, m0, m1, q⟩ := h
    refine ⟨_, (pss_cons (ps_set (i := 3) sc_l_bases.nd rfl (by first | exact Or.inl rfl | exact Or.inr rfl) (pe_ix ix_list (pe_lst (pa_cons pe_int (pa_cons (pe_un un_neg pe_int) (pa_cons (pe_op op_sub (pe_op op_pow pe_int pe_int) pe_int) (pa_cons (pe_op op_sub pe_int (pe_op op_pow pe_int pe_int)) pa_nil))))) (pe_call (ok_l_take T) (hr.mono (by first | decide | omega)) (by rfl) T.g_l_take T.F_l_take.kp T.b_l_take .nil pass0 (pa_cons (pv 0) (pa_cons pe_int pa_nil))) (fun _ _ => rfl)))
        (pss_one (ps_ret (pe_callTy (call_dictP rfl) (by rfl) T.m_dict (by decide +kernel) (pa_cons (pe_lc (own := [("house", 4)]) (g := gName 4) (by rfl) sc_l_bases.nd (pi_tup (pe_ix ix_tup (pv 1) pe_int (fun _ _ => rfl))) (blkOk_by (own := [("house", 4)]) (N := ["pen", "town", "many", "base", "house"]) (sc := defScope s_l_bases) (by decide +kernel)) (fun _ _ _ _ _ => pg_name (i := 4) sc_l_bases.nd rfl (Or.inl rfl)) (fun _ _ _ _ _ => pts_nil) (fun _ _ _ _ _ => (pe_tup (pa_cons (pv 4) (pa_cons (pe_op op_add (pv 3) (pe_call (ok_l_take T) (hr.mono (by first | decide | omega)) (by rfl) T.g_l_take T.F_l_take.kp T.b_l_take .nil pass0 (pa_cons (pv 0) (pa_cons (pv 2) pa_nil)))) pa_nil))))) pa_nil))))), ?_⟩
    have e12 : (10 : Int) ^ (12 : Int).toNat = 1000000000000 := by decide
    refine ⟨_, rfl, _, _, rfl, rfl, ⟨by decide, by decide, by decide⟩, _, _, rfl, rfl, _, _, rfl, rfl, ⟨by decide, by decide, by decide⟩, _, _, rfl, rfl, (by show 4 ≤ sizeLine; decide), fun l nl => ?_⟩
    rw [e12]
    have s1 := (Stp.refl hP).new (o := .lst [.int 0, .int (-7), .int (1000000000000 - 5000), .int (0 - 1000000000000)]) hP nl
    have nlp : l ≠ p := fun e => hP.neP nl e.symm
    refine ⟨_, rfl, p, c, 4, rfl, s1.1, by decide, by decide, fun z H2 z0 z1 s2 => ?_⟩
    have hl2 := s2.2 l _ nlp upd_same
    obtain ⟨b0, eb, b1, b2⟩ : ∃ b0 : Int, atI [V.int 0, .int (-7), .int (1000000000000 - 5000), .int (0 - 1000000000000)] z = some (.int b0) ∧ -1000000000000 ≤ b0 ∧ b0 ≤ 1000000000000 - 5000 := by
      have hz : z = 0 ∨ z = 1 ∨ z = 2 ∨ z = 3 := by omega
      rcases hz with rfl | rfl | rfl | rfl
      · exact ⟨_, rfl, by decide, by decide⟩
      · exact ⟨_, rfl, by decide, by decide⟩
      · exact ⟨_, rfl, by decide, by decide⟩
      · exact ⟨_, rfl, by decide, by decide⟩
    refine ⟨l, _, z, _, rfl, rfl, SqL.of hl2, eb, ?_⟩
    have s12 := s1.trans s2
    obtain ⟨ta, tb, t1, t2, t3⟩ := s12.town hP ht
    refine ⟨_, rfl, t, _, 0, _, rfl, rfl, SqT.of t1, rfl, ta, rfl, ⟨_, SqT.of t2⟩, fun D nD => ?_⟩
    have nD0 := s12.back hP nD
    have nDp : D ≠ p := fun e => hP.neP nD0 e.symm
    refine lc_it (walk_tup (K := K) (a := ta) (xs := hs.map V.str)) (fun i H' => Stp p c H2 H' ∧ ∃ (us : List Addr) (kvs : List (Key × V)), H' D = some (.lst (us.map V.ref)) ∧ Pkv H' us kvs ∧ kvs.map (·.1) = (hs.take i).map Sum.inr ∧ ∀ kv ∈ kvs, ∃ n : Int, kv.2 = .int n ∧ BasI n ∧ b0 ≤ n ∧ n < b0 + many)
      ⟨(Stp.refl s2.1).new s2.1 nD, [], [], upd_same, .nil, by rw [List.take_zero]; rfl, fun _ m => nomatch m⟩ (fun i H' _ h => SqT.of (h.1.tup s2.1 t2)) ?_ ?_
    · rintro i v G1 G2 hi ⟨g1, us, kvs, hD, pk, ek, hb⟩ ⟨rfl, ev⟩
      rw [List.length_map] at hi
      have eh : hs[i]? = some hs[i] := List.getElem?_eq_getElem hi
      generalize hs[i] = h at eh
      rw [List.getElem?_map, eh] at ev
      obtain rfl : V.str h = v := Option.some.inj ev
      refine ⟨rfl, yes_if ⟨_, rfl, _, rfl, _, rfl, _, rfl, p, c, many, rfl, g1.1, m0, Nat.lt_of_le_of_lt (show many.natAbs ≤ 1000 by omega) (by decide), fun r G3 r0 r1 g3 => ⟨_, _, rfl, rfl, (by show 2 ≤ sizeLine; decide), fun b nb => ?_⟩⟩⟩
      have g13 := g1.trans g3
      have hD3 := g3.2 D _ nDp hD
      have hDb : (upd G3 b (.tup [.str h, .int (b0 + r)])) D = some (.lst (us.map V.ref)) := by rw [upd_ne (ne_of_none hD3 nb)]; exact hD3
      have l1 := pk.len
      have l2 : kvs.length ≤ 6 := by
        have := congrArg List.length ek
        rw [List.length_map, List.length_map, List.length_take] at this
        omega
      refine ⟨_, hDb, small_line (by rw [List.length_map]; omega), ((g13.new s2.1 nb).mut s2.1 nD), us ++ [b], kvs ++ [(.inr h, .int (b0 + r))], by rw [upd_same, List.map_append]; rfl, ?_, ?_, fun kv m => ?_⟩
      · refine (pk.go fun c ys e => ?_).snoc ?_
        · have e3 := g3.tup g1.1 e
          rw [upd_ne (ne_of e3 hD3 (fun z => nomatch z)), upd_ne (ne_of_none e3 nb)]
          exact e3
        · rw [upd_ne (fun z => by rw [z] at nb; rw [nb] at hD3; cases hD3), upd_same]
          rfl
      · rw [List.map_append, ek, take_snoc eh, List.map_append]
        rfl
      · rcases List.mem_append.mp m with m | m
        · exact hb kv m
        · rw [List.mem_singleton.mp m]
          exact ⟨_, rfl, by unfold BasI; omega, by omega, by omega⟩
    · rintro G ⟨g, us, kvs, hD, pk, ek, hb⟩
      rw [List.length_map, List.take_length] at ek
      refine ⟨D, us, kvs, rfl, SqL.of hD, pk.pair, fun d nd => ?_⟩
      have sG := s12.trans g
      have key : ∀ h ∈ hs, valV (mergeK [] kvs) (.inr h : Key) = some (.int (basOf (mergeK [] kvs) h)) ∧ BasI (basOf (mergeK [] kvs) h) ∧ b0 ≤ basOf (mergeK [] kvs) h ∧ basOf (mergeK [] kvs) h < b0 + many := fun h mh => by
        have mk : (.inr h : Key) ∈ (mergeK [] kvs).map (·.1) := merge_keys (.inr (by rw [ek]; exact List.mem_map.mpr ⟨h, mh, rfl⟩))
        cases e : valV (mergeK [] kvs) (.inr h : Key) with
        | none =>
          obtain ⟨x, mx, ex⟩ := List.mem_map.mp mk
          exact absurd (show ((.inr h : Key), x.2) ∈ mergeK [] kvs by rw [← ex]; exact mx) (val_none e _)
        | some v =>
          obtain ⟨n, e1, e2⟩ := merge_each (P := fun kv => ∃ n : Int, kv.2 = .int n ∧ BasI n ∧ b0 ≤ n ∧ n < b0 + many) (kvs := []) (fun _ m => nomatch m) hb _ (val_mem e)
          have e1 : v = .int n := e1
          subst e1
          have eb : basOf (mergeK [] kvs) h = n := by
            unfold basOf
            rw [e]
          rw [eb]
          exact ⟨rfl, e2⟩
      exact q d (basOf (mergeK [] kvs)) _ _ (sG.new hP nd) (sG.back hP nd) upd_same (fun h mh => ⟨(key h mh).1, (key h mh).2.1⟩) ⟨b0, fun h mh => (key h mh).2.2⟩
/-! ### the rows of a world -/
def rkJ (js : List WJ) (i : Nat) : Nat := rk js.length (hoJ js) (tiJ js) i
def rkA (js : List WJ) (as : List WA) (i : Nat) : Nat := rk as.length (hoA js as) (tiA as) i
def jobRow (js : List WJ) (bs : Str → Int) (i : Nat) : Row := match js[i]? with
  | some j => .job j.h (rkJ js i : Nat) (bs j.h + j.b) (bs j.h + j.e)
  | none => .all "" 0 0
def askRow (js : List WJ) (as : List WA) (bs : Str → Int) (i : Nat) : Row := match as[i]? with
  | some x => .ask (hoA js as i) x.g (rkA js as i : Nat) (rkJ js x.pl : Nat) (bs (hoA js as i) + x.o) (bs (hoA js as i) + x.k)
  | none => .all "" 0 0
def allRow (js : List WJ) (as : List WA) (h : Str) : Row := .all h ((itemsOf as.length (hoA js as) h).length : Nat) ((itemsOf js.length (hoJ js) h).length : Nat)
def wRows (hs : List Str) (js : List WJ) (as : List WA) (bs : Str → Int) : List Row := ((List.range js.length).map (jobRow js bs) ++ (List.range as.length).map (askRow js as bs)) ++ hs.map (allRow js as)
theorem Rws.go {H H' : Hp} {xs : List V} {rs : List Row} (h : Rws H xs rs) (s : ∀ b ys, H b = some (.tup ys) → H' b = some (.tup ys)) : Rws H' xs rs := ⟨h.1, fun i r e => let ⟨a, e1, e2⟩ := h.2 i r e; ⟨a, e1, s _ _ e2⟩⟩
theorem Rws.snoc {H : Hp} {xs : List V} {rs : List Row} {b : Addr} {r : Row} (h : Rws H xs rs) (hb : RowAt H b r) : Rws H (xs ++ [.ref b]) (rs ++ [r]) := by
  refine ⟨by rw [List.length_append, List.length_append, h.1]; rfl, fun i t e => ?_⟩
  by_cases hi : i < rs.length
  · rw [List.getElem?_append_left hi] at e
    obtain ⟨a, e1, e2⟩ := h.2 i t e
    exact ⟨a, by rw [List.getElem?_append_left (by rw [h.1]; exact hi)]; exact e1, e2⟩
  · have hl := (List.getElem?_eq_some_iff.mp e).1
    rw [List.length_append, List.length_singleton] at hl
    have ei : i = rs.length := by omega
    subst ei
    rw [List.getElem?_append_right (Nat.le_refl _), Nat.sub_self] at e
    obtain rfl := Option.some.inj e
    exact ⟨b, by rw [List.getElem?_append_right (by rw [h.1]; exact Nat.le_refl _), h.1, Nat.sub_self]; rfl, hb⟩
def keyN (k : Key) : Nat := match k with
  | .inl z => z.toNat
  | _ => 0
/-! how many places of a house a dict holds -/
theorem num_count {H : Hp} {N : Nat} {ho : Nat → Str} {ti : Nat → Int} {done : Nat → Prop} {kvs : List (Key × V)} (d : NumD H N ho ti done kvs) (hd : ∀ a, a < N → done a) (h : Str) : (kvs.filter fun kv => decide (ho (keyN kv.1) = h)).length = (itemsOf N ho h).length := by
  have hk : ∀ kv ∈ kvs, ∃ a, kv.1 = .inl ((a : Nat) : Int) ∧ a < N := fun kv m => let ⟨a, _, e1, e2, _⟩ := d.own kv m; ⟨a, e1, e2⟩
  have nd : ((kvs.filter fun kv => decide (ho (keyN kv.1) = h)).map fun kv => keyN kv.1).Nodup := by
    have n1 : ((kvs.filter fun kv => decide (ho (keyN kv.1) = h)).map (·.1)).Nodup := d.nd.sublist (List.filter_sublist.map _)
    rw [List.nodup_iff_pairwise_ne, List.pairwise_map] at n1 ⊢
    refine List.Pairwise.imp_of_mem (fun {x y} mx my ne z => ne ?_) n1
    obtain ⟨a, ea, _⟩ := hk x (List.mem_filter.mp mx).1
    obtain ⟨b, eb, _⟩ := hk y (List.mem_filter.mp my).1
    rw [ea, eb] at z ⊢
    have z : a = b := z
    rw [z]
  refine Nat.le_antisymm ?_ ?_
  · have := nodup_len nd (ys := itemsOf N ho h) fun a m => by
      obtain ⟨kv, mk, rfl⟩ := List.mem_map.mp m
      obtain ⟨m1, m2⟩ := List.mem_filter.mp mk
      obtain ⟨a, ea, la⟩ := hk kv m1
      have e : keyN kv.1 = a := by rw [ea]; rfl
      rw [e] at m2 ⊢
      exact mem_items.mpr ⟨la, of_decide_eq_true m2⟩
    rw [List.length_map] at this
    exact this
  · have n2 : (itemsOf N ho h).Nodup := List.nodup_range.sublist List.filter_sublist
    have := nodup_len n2 (ys := (kvs.filter fun kv => decide (ho (keyN kv.1) = h)).map fun kv => keyN kv.1) fun a m => by
      obtain ⟨la, ea⟩ := mem_items.mp m
      obtain ⟨v, mv⟩ := d.all a la (hd a la)
      exact List.mem_map.mpr ⟨_, List.mem_filter.mpr ⟨mv, decide_eq_true ea⟩, rfl⟩
    rw [List.length_map] at this
    exact this
def sp_all_rows : Sp := fun vs H Q _ => ∃ (t w d lj la : Addr) (hs gs : List Str) (rs qs : List Addr) (js : List WJ) (as : List WA) (most : Int) (bs : Str → Int) (kB : List (Key × V)), vs = [.ref t, .ref w, .ref d] ∧ TownAt H t hs gs ∧ WorldAt H w lj la rs qs js as most ∧ WOk hs js as ∧ js.length ≤ 100 ∧ hs.length ≤ 6 ∧ H d = some (.dK kB) ∧ BasD hs bs kB ∧
  ∀ (l : Addr) (us : List V) (H' : Hp), Same H H' → H l = none → H' l = some (.lst us) → Rws H' us (wRows hs js as bs) → Q (.ref l) H'
theorem snoc_step {l b : Addr} {H G : Hp} {us : List V} {rs : List Row} {r : Row} (g : Same H G) (nl : H l = none) (hl : G l = some (.lst us)) (hr : Rws G us rs) (hb : RowAt G b r) : Same H (upd G l (.lst (us ++ [.ref b]))) ∧ (upd G l (.lst (us ++ [.ref b]))) l = some (.lst (us ++ [.ref b])) ∧ Rws (upd G l (.lst (us ++ [.ref b]))) (us ++ [.ref b]) (rs ++ [r]) :=
  ⟨same_mut g nl, upd_same, (hr.snoc hb).go fun c ys e => by rw [upd_ne (ne_of e hl (fun z => nomatch z))]; exact e⟩
theorem wok_ho {hs : List Str} {js : List WJ} {as : List WA} (h : WOk hs js as) : (∀ a, a < js.length → hoJ js a ∈ hs) ∧ ∀ a, a < as.length → hoA js as a ∈ hs := by
  have h1 : ∀ a, a < js.length → hoJ js a ∈ hs := fun a ha => by
    unfold hoJ
    rw [List.getElem?_eq_getElem ha]
    exact (h.jb _ (List.getElem_mem ha)).1
  refine ⟨h1, fun a ha => ?_⟩
  unfold hoA
  rw [List.getElem?_eq_getElem ha]
  obtain ⟨j, ej, _⟩ := (h.ab _ (List.getElem_mem ha)).par
  exact h1 _ (List.getElem?_eq_some_iff.mp ej).1
theorem rws_nil {H : Hp} : Rws H [] [] := ⟨rfl, fun i r e => by rw [List.getElem?_nil] at e; cases e⟩
theorem range_snoc {A : Type} (f : Nat → A) (k : Nat) : (List.range (k + 1)).map f = (List.range k).map f ++ [f k] := by
  rw [List.range_succ, List.map_append]
  rfl
def Slots (t w d dA dJ l : Addr) (σ : L2.St) : Prop := ∃ v6 v7 v8 v9 v10 v11 v12 v13 v14 v15 v16 : Option V, σ = [some (.ref t), some (.ref w), some (.ref d), some (.ref dA), some (.ref dJ), some (.ref l), v6, v7, v8, v9, v10, v11, v12, v13, v14, v15, v16]
theorem frz_get {H : Hp} {a : Addr} {od : Obj} {kvs : List (Key × V)} {k : Key} (h : H a = some (.frz od (.dK kvs))) : DGet H a (kV k) (valV kvs k) := .inl ⟨kvs, k, .inr ⟨od, h⟩, rfl, rfl⟩
set_option maxHeartbeats 16000000 in
theorem ok_l_all_rows (T : Txt K mg af fd) : FnOk P w K mg base CX0 2 (af 38) (fd 38) ["town", "world", "bases"] sp_all_rows := by
  refine T.F_l_all_rows.ok sc_l_all_rows (fun vs H Q E h => ?_) (fun cdv A outer s H vs Q E hr h => ?_)
  · obtain ⟨t, w, d, lj, la, hs, gs, rs, qs, js, as, most, bs, kB, rfl, _⟩ := h
    rfl
  · obtain ⟨t, w, d, lj, la, hs, gs, rs, qs, js, as, most, bs, kB, rfl, ht, W, wok, lenj, h6, hd, hbd, q⟩ := h
    refine ⟨_, (pss_cons (ps_asg (pe_call (ok_l_called T) (hr.mono (by first | decide | omega)) (by rfl) T.g_l_called T.F_l_called.kp T.b_l_called .nil pass0 (pa_cons (pv 0) (pa_cons (pv 1) pa_nil))) (pg_tup rfl (pgs_cons (pg_name (i := 3) sc_l_all_rows.nd rfl (by first | exact Or.inl rfl | exact Or.inr rfl)) (pgs_cons (pg_name (i := 4) sc_l_all_rows.nd rfl (by first | exact Or.inl rfl | exact Or.inr rfl)) pgs_nil))))
        (pss_cons (ps_set (i := 5) sc_l_all_rows.nd rfl (by first | exact Or.inl rfl | exact Or.inr rfl) (pe_lst pa_nil))
        (pss_cons (ps_for PassesOwn.never rfl (pi_enum (by rfl) T.m_enumerate (pa_cons (pe_ix ix_list (pv 1) pe_int (fun _ _ => rfl)) pa_nil)) (pg_tup rfl (pgs_cons (pg_name (i := 6) sc_l_all_rows.nd rfl (by first | exact Or.inl rfl | exact Or.inr rfl)) (pgs_cons (pg_unl rfl (pgs_cons (pg_name (i := 7) sc_l_all_rows.nd rfl (by first | exact Or.inl rfl | exact Or.inr rfl)) (pgs_cons (pg_name (i := 8) sc_l_all_rows.nd rfl (by first | exact Or.inl rfl | exact Or.inr rfl)) (pgs_cons (pg_name (i := 9) sc_l_all_rows.nd rfl (by first | exact Or.inl rfl | exact Or.inr rfl)) pgs_nil)))) pgs_nil))) (pss_one (ps_expr (pe_bm PySem.F.plainAttrs_list PySem.F.slot_list_append PySem.F.type_list_append mt_append (pv 5) (pa_cons (pe_op op_catT (pe_op op_catT (pe_tup (pa_cons pe_str pa_nil)) (pe_dget (hu_of hr) (pv 4) (pv 6) (fun _ _ => rfl))) (pe_tup (pa_cons (pe_op op_add (pe_dget (hu_of hr) (pv 2) (pv 7) (fun _ _ => rfl)) (pv 8)) (pa_cons (pe_op op_add (pe_dget (hu_of hr) (pv 2) (pv 7) (fun _ _ => rfl)) (pv 9)) pa_nil)))) pa_nil)))))
        (pss_cons (ps_for PassesOwn.never rfl (pi_enum (by rfl) T.m_enumerate (pa_cons (pe_ix ix_list (pv 1) pe_int (fun _ _ => rfl)) pa_nil)) (pg_tup rfl (pgs_cons (pg_name (i := 10) sc_l_all_rows.nd rfl (by first | exact Or.inl rfl | exact Or.inr rfl)) (pgs_cons (pg_unl rfl (pgs_cons (pg_name (i := 6) sc_l_all_rows.nd rfl (by first | exact Or.inl rfl | exact Or.inr rfl)) (pgs_cons (pg_name (i := 11) sc_l_all_rows.nd rfl (by first | exact Or.inl rfl | exact Or.inr rfl)) (pgs_cons (pg_name (i := 12) sc_l_all_rows.nd rfl (by first | exact Or.inl rfl | exact Or.inr rfl)) (pgs_cons (pg_name (i := 13) sc_l_all_rows.nd rfl (by first | exact Or.inl rfl | exact Or.inr rfl)) (pgs_cons (pg_name (i := 14) sc_l_all_rows.nd rfl (by first | exact Or.inl rfl | exact Or.inr rfl)) pgs_nil)))))) pgs_nil))) (pss_cons (ps_asg (pe_dget (hu_of hr) (pv 3) (pv 10) (fun _ _ => rfl)) (pg_tup rfl (pgs_cons (pg_name (i := 7) sc_l_all_rows.nd rfl (by first | exact Or.inl rfl | exact Or.inr rfl)) (pgs_cons (pg_name (i := 15) sc_l_all_rows.nd rfl (by first | exact Or.inl rfl | exact Or.inr rfl)) pgs_nil))))
        (pss_one (ps_expr (pe_bm PySem.F.plainAttrs_list PySem.F.slot_list_append PySem.F.type_list_append mt_append (pv 5) (pa_cons (pe_tup (pa_cons pe_str (pa_cons (pv 7) (pa_cons (pv 15) (pa_cons (pe_ix ix_tup (pe_dget (hu_of hr) (pv 4) (pv 6) (fun _ _ => rfl)) pe_int (fun _ _ => rfl)) (pa_cons (pv 11) (pa_cons (pe_op op_add (pe_dget (hu_of hr) (pv 2) (pv 7) (fun _ _ => rfl)) (pv 12)) (pa_cons (pe_op op_add (pe_dget (hu_of hr) (pv 2) (pv 7) (fun _ _ => rfl)) (pv 13)) pa_nil)))))))) pa_nil))))))
        (pss_cons (ps_for PassesOwn.never rfl (pi_tup (pe_ix ix_tup (pv 0) pe_int (fun _ _ => rfl))) (pg_name (i := 7) sc_l_all_rows.nd rfl (by first | exact Or.inl rfl | exact Or.inr rfl)) (pss_cons (ps_set (i := 16) sc_l_all_rows.nd rfl (by first | exact Or.inl rfl | exact Or.inr rfl) (pe_callB call_len_seq (by rfl) T.m_len (by decide +kernel) (pa_cons (pe_lock (pe_lc (own := [("at", 10)]) (g := gName 10) (by rfl) sc_l_all_rows.nd (pi_keys (pv 3)) (blkOk_by (own := [("at", 10)]) (N := ["town", "world", "bases", "asks", "jobs", "rows", "place", "house", "begin", "end", "at", "goal", "out", "back", "child", "number", "many"]) (sc := defScope s_l_all_rows) (by decide +kernel)) (fun _ _ _ _ _ => pg_name (i := 10) sc_l_all_rows.nd rfl (Or.inl rfl)) (fun _ _ _ _ _ => (pts_one (pt_cmpR op_eq (pe_ix (show IxR _ (rIxT K) from ix_tup) (pe_dget (hu_of hr) (pv 3) (pv 10) (fun _ _ => rfl)) pe_int (fun _ _ => rfl)) (pv 7) (nomark _)))) (fun _ _ _ _ _ => (pv 10)))) pa_nil)))
        (pss_one (ps_expr (pe_bm PySem.F.plainAttrs_list PySem.F.slot_list_append PySem.F.type_list_append mt_append (pv 5) (pa_cons (pe_tup (pa_cons pe_str (pa_cons (pv 7) (pa_cons (pv 16) (pa_cons (pe_callB call_len_seq (by rfl) T.m_len (by decide +kernel) (pa_cons (pe_lock (pe_lc (own := [("place", 6)]) (g := gName 6) (by rfl) sc_l_all_rows.nd (pi_keys (pv 4)) (blkOk_by (own := [("place", 6)]) (N := ["town", "world", "bases", "asks", "jobs", "rows", "place", "house", "begin", "end", "at", "goal", "out", "back", "child", "number", "many"]) (sc := defScope s_l_all_rows) (by decide +kernel)) (fun _ _ _ _ _ => pg_name (i := 6) sc_l_all_rows.nd rfl (Or.inl rfl)) (fun _ _ _ _ _ => (pts_one (pt_cmpR op_eq (pe_ix (show IxR _ (rIxT K) from ix_tup) (pe_dget (hu_of hr) (pv 4) (pv 6) (fun _ _ => rfl)) pe_int (fun _ _ => rfl)) (pv 7) (nomark _)))) (fun _ _ _ _ _ => (pv 6)))) pa_nil)) pa_nil))))) pa_nil))))))
        (pss_one (ps_ret (pv 5)))))))), ?_⟩
    have lena : as.length ≤ 100 := Nat.le_trans wok.len lenj
    obtain ⟨hoj, hoa⟩ := wok_ho wok
    refine ⟨_, rfl, _, rfl, t, w, lj, la, hs, gs, rs, qs, js, as, most, rfl, ht, W, by omega, by omega, fun p dA dJ kA kJ H1 s1 hp hA hJ ndA ndJ nA nJ => ?_⟩
    refine ⟨p, _, rfl, SqT.of hp, rfl, _, _, rfl, _, _, rfl, rfl, ?_⟩
    refine ⟨Nat.zero_le _, fun l nl1 => ?_⟩
    have nl : H l = none := s1.free nl1
    have s2 : Same H1 (upd H1 l (.lst [])) := same_upd nl1
    have hl2 : (upd H1 l (.lst [])) l = some (.lst []) := upd_same
    generalize upd H1 l (.lst []) = H2 at s2 hl2 ⊢
    have W1 := W.same s1
    have hd1 := s1 _ _ hd
    have ht1 := ht.same' s1
    -- jobs
    refine ⟨_, rfl, w, _, 0, _, rfl, rfl, SqL.of (s2 _ _ W1.w), rfl, lj, rs.map V.ref, rfl, SqL.of (s2 _ _ W1.j), ?_⟩
    refine for_it (walk_enum (K := K) (a := lj) (xs := rs.map V.ref)) (fun k σ H' => Slots t w d dA dJ l σ ∧ Same H1 H' ∧ ∃ us, H' l = some (.lst us) ∧ Rws H' us ((List.range k).map (jobRow js bs)))
      ⟨⟨none, none, none, none, none, none, none, none, none, none, none, rfl⟩, s2, [], hl2, rws_nil⟩ (fun k σ H' _ h => SqL.of (h.2.1 _ _ W1.j)) ?_ ?_
    · rintro k v σ G1 G2 hk ⟨⟨v6, v7, v8, v9, v10, v11, v12, v13, v14, v15, v16, rfl⟩, g1, us, hl, hrw⟩ ⟨Tp, x1, x2, rfl, nT, rfl, e1, e2⟩
      obtain rfl : V.int (k : Nat) = x1 := Option.some.inj e1
      have e2 : (rs.map V.ref)[k]? = some x2 := e2
      rw [List.getElem?_map] at e2
      obtain ⟨r, hr1, rfl⟩ := Option.map_eq_some_iff.mp e2
      have hkj : k < js.length := by rw [← W.cj.1]; exact (List.getElem?_eq_some_iff.mp hr1).1
      have hx : js[k]? = some js[k] := List.getElem?_eq_getElem hkj
      generalize js[k] = j at hx
      have sT : Same G1 (upd G1 Tp (.tup [.int (k : Nat), .ref r])) := same_upd nT
      have g3 := g1.trans sT
      have hl3 := sT _ _ hl
      have hrw3 := hrw.go (H' := upd G1 Tp (.tup [.int (k : Nat), .ref r])) fun b ys e => sT _ _ e
      have hT : (upd G1 Tp (.tup [.int (k : Nat), .ref r])) Tp = some (.tup [.int (k : Nat), .ref r]) := upd_same
      generalize upd G1 Tp (.tup [.int (k : Nat), .ref r]) = G3 at sT g3 hl3 hrw3 hT ⊢
      have hr3 := (W1.same g3).cj.2 k r j hr1 hx
      have eho : hoJ js k = j.h := by unfold hoJ; rw [hx]
      have hjh : j.h ∈ hs := by rw [← eho]; exact hoj k hkj
      obtain ⟨b, eb, hb⟩ := nJ.at hkj (hoj k hkj)
      rw [eho] at hb
      obtain ⟨bv1, bv2⟩ := hbd j.h hjh
      refine ⟨Tp, _, rfl, SqT.of hT, rfl, _, _, rfl, _, _, rfl, r, _, rfl, SqL.of hr3, rfl, _, _, rfl, _, _, rfl, _, _, rfl, rfl, rfl, ?_⟩
      refine ⟨_, rfl, .inl ⟨rfl, _, SqL.of hl3⟩, (by show 1 ≤ sizeLine; decide), fun c1 n1 => ?_⟩
      have u1 : Same G3 (upd G3 c1 (.tup [.str "job"])) := same_upd n1
      have hc1 : (upd G3 c1 (.tup [.str "job"])) c1 = some (.tup [.str "job"]) := upd_same
      generalize upd G3 c1 (.tup [.str "job"]) = G4 at u1 hc1 ⊢
      have g4 := g3.trans u1
      refine ⟨_, rfl, _, rfl, dJ, _, rfl, (by rw [← eb]; exact DGet.k (k := Sum.inl (k : Int)) (g4 _ _ hJ)), c1, b, _, _, rfl, rfl, SqT.of hc1, SqT.of (g4 _ _ hb), (fun z => nomatch z), (by show 3 ≤ sizeLine; decide), (fun z => nomatch z), fun _ c2 n2 => ?_⟩
      have u2 : Same G4 (upd G4 c2 (.tup ([.str "job"] ++ [.str j.h, .int (rk js.length (hoJ js) (tiJ js) k : Nat)]))) := same_upd n2
      have hc2 : (upd G4 c2 (.tup ([.str "job"] ++ [.str j.h, .int (rk js.length (hoJ js) (tiJ js) k : Nat)]))) c2 = some (.tup ([.str "job"] ++ [.str j.h, .int (rk js.length (hoJ js) (tiJ js) k : Nat)])) := upd_same
      generalize upd G4 c2 (.tup ([.str "job"] ++ [.str j.h, .int (rk js.length (hoJ js) (tiJ js) k : Nat)])) = G5 at u2 hc2 ⊢
      have g5 := g4.trans u2
      have dg := DGet.k (k := Sum.inr j.h) (g5 _ _ hd1)
      rw [bv1] at dg
      refine ⟨_, rfl, _, rfl, d, _, rfl, dg, _, rfl, _, _, rfl, rfl, _, rfl, _, rfl, d, _, rfl, dg, _, rfl, _, _, rfl, rfl, (by show 2 ≤ sizeLine; decide), fun c3 n3 => ?_⟩
      have u3 : Same G5 (upd G5 c3 (.tup [.int (bs j.h + j.b), .int (bs j.h + j.e)])) := same_upd n3
      have hc3 : (upd G5 c3 (.tup [.int (bs j.h + j.b), .int (bs j.h + j.e)])) c3 = some (.tup [.int (bs j.h + j.b), .int (bs j.h + j.e)]) := upd_same
      generalize upd G5 c3 (.tup [.int (bs j.h + j.b), .int (bs j.h + j.e)]) = G6 at u3 hc3 ⊢
      refine ⟨c2, c3, _, _, rfl, rfl, SqT.of (u3 _ _ hc2), SqT.of hc3, (fun z => nomatch z), (by show 5 ≤ sizeLine; decide), (fun z => nomatch z), fun _ c4 n4 => ?_⟩
      have u4 : Same G6 (upd G6 c4 (.tup (([.str "job"] ++ [.str j.h, .int (rk js.length (hoJ js) (tiJ js) k : Nat)]) ++ [.int (bs j.h + j.b), .int (bs j.h + j.e)]))) := same_upd n4
      have hc4 : (upd G6 c4 (.tup (([.str "job"] ++ [.str j.h, .int (rk js.length (hoJ js) (tiJ js) k : Nat)]) ++ [.int (bs j.h + j.b), .int (bs j.h + j.e)]))) c4 = _ := upd_same
      generalize upd G6 c4 (.tup (([.str "job"] ++ [.str j.h, .int (rk js.length (hoJ js) (tiJ js) k : Nat)]) ++ [.int (bs j.h + j.b), .int (bs j.h + j.e)])) = G7 at u4 hc4 ⊢
      have v := ((u1.trans u2).trans u3).trans u4
      have rw4 : RowAt G7 c4 (jobRow js bs k) := by
        show G7 c4 = some (.tup (jobRow js bs k).vals)
        rw [hc4]
        unfold jobRow
        rw [hx]
        rfl
      obtain ⟨z1, z2, z3⟩ := snoc_step (g3.trans v) nl1 (v _ _ hl3) (hrw3.go fun c ys e => v _ _ e) rw4
      have ll := hrw3.1
      rw [List.length_map, List.length_range] at ll
      refine ⟨l, _, _, rfl, rfl, v _ _ hl3, small_line (by omega), ⟨_, _, _, _, _, _, _, _, _, _, _, rfl⟩, z1, _, z2, ?_⟩
      rw [range_snoc]
      exact z3
    rintro σ G1 ⟨⟨v6, v7, v8, v9, v10, v11, v12, v13, v14, v15, v16, rfl⟩, g1, us1, hl1, hrw1⟩
    rw [List.length_map, W.cj.1] at hrw1
    -- asks
    refine ⟨_, rfl, w, _, 1, _, rfl, rfl, SqL.of (g1 _ _ W1.w), rfl, la, qs.map V.ref, rfl, SqL.of (g1 _ _ W1.a), ?_⟩
    refine for_it (walk_enum (K := K) (a := la) (xs := qs.map V.ref)) (fun k σ H' => Slots t w d dA dJ l σ ∧ Same H1 H' ∧ ∃ us, H' l = some (.lst us) ∧ Rws H' us ((List.range js.length).map (jobRow js bs) ++ (List.range k).map (askRow js as bs)))
      ⟨⟨_, _, _, _, _, _, _, _, _, _, _, rfl⟩, g1, us1, hl1, by rw [List.range_zero, List.map_nil, List.append_nil]; exact hrw1⟩ (fun k σ H' _ h => SqL.of (h.2.1 _ _ W1.a)) ?_ ?_
    · rintro k v σ G1 G2 hk ⟨⟨v6, v7, v8, v9, v10, v11, v12, v13, v14, v15, v16, rfl⟩, g1, us, hl, hrw⟩ ⟨Tp, x1, x2, rfl, nT, rfl, e1, e2⟩
      obtain rfl : V.int (k : Nat) = x1 := Option.some.inj e1
      have e2 : (qs.map V.ref)[k]? = some x2 := e2
      rw [List.getElem?_map] at e2
      obtain ⟨r, hr1, rfl⟩ := Option.map_eq_some_iff.mp e2
      have hka : k < as.length := by rw [← W.ca.1]; exact (List.getElem?_eq_some_iff.mp hr1).1
      have hx : as[k]? = some as[k] := List.getElem?_eq_getElem hka
      generalize as[k] = x at hx
      have sT : Same G1 (upd G1 Tp (.tup [.int (k : Nat), .ref r])) := same_upd nT
      have g3 := g1.trans sT
      have hl3 := sT _ _ hl
      have hrw3 := hrw.go (H' := upd G1 Tp (.tup [.int (k : Nat), .ref r])) fun b ys e => sT _ _ e
      have hT : (upd G1 Tp (.tup [.int (k : Nat), .ref r])) Tp = some (.tup [.int (k : Nat), .ref r]) := upd_same
      generalize upd G1 Tp (.tup [.int (k : Nat), .ref r]) = G3 at sT g3 hl3 hrw3 hT ⊢
      have hr3 := (W1.same g3).ca.2 k r x hr1 hx
      have hpl := W.pl x (List.mem_of_getElem? hx)
      obtain ⟨bj, ebj, hbj⟩ := nJ.at hpl (hoj x.pl hpl)
      obtain ⟨b, eb, hb⟩ := nA.at hka (hoa k hka)
      obtain ⟨bv1, bv2⟩ := hbd (hoA js as k) (hoa k hka)
      generalize eho : hoA js as k = ho at hb bv1
      refine ⟨Tp, _, rfl, SqT.of hT, rfl, _, _, rfl, _, _, rfl, r, _, rfl, SqL.of hr3, rfl, _, _, rfl, _, _, rfl, _, _, rfl, _, _, rfl, _, _, rfl, rfl, rfl, ?_⟩
      refine ⟨_, rfl, _, rfl, dA, _, rfl, (by rw [← eb]; exact DGet.k (k := Sum.inl (k : Int)) (g3 _ _ hA)), b, _, rfl, SqT.of (g3 _ _ hb), rfl, _, _, rfl, _, _, rfl, rfl, ?_⟩
      have dg := DGet.k (k := Sum.inr ho) (g3 _ _ hd1)
      rw [bv1] at dg
      refine ⟨_, rfl, .inl ⟨rfl, _, SqL.of hl3⟩, _, rfl, _, rfl, _, rfl, _, rfl, dJ, _, rfl, (by rw [← ebj]; exact DGet.k (k := Sum.inl (x.pl : Int)) (g3 _ _ hJ)), bj, _, 1, _, rfl, rfl, SqT.of (g3 _ _ hbj), rfl, _, rfl, _, rfl, _, rfl, d, _, rfl, dg, _, rfl, _, _, rfl, rfl, _, rfl, _, rfl, d, _, rfl, dg, _, rfl, _, _, rfl, rfl, (by show 7 ≤ sizeLine; decide), fun c4 n4 => ?_⟩
      have u4 : Same G3 (upd G3 c4 (.tup [.str "ask", .str ho, .int (rk as.length (hoA js as) (tiA as) k : Nat), .int (rk js.length (hoJ js) (tiJ js) x.pl : Nat), .str x.g, .int (bs ho + x.o), .int (bs ho + x.k)])) := same_upd n4
      have hc4 : (upd G3 c4 (.tup [.str "ask", .str ho, .int (rk as.length (hoA js as) (tiA as) k : Nat), .int (rk js.length (hoJ js) (tiJ js) x.pl : Nat), .str x.g, .int (bs ho + x.o), .int (bs ho + x.k)])) c4 = _ := upd_same
      generalize upd G3 c4 (.tup [.str "ask", .str ho, .int (rk as.length (hoA js as) (tiA as) k : Nat), .int (rk js.length (hoJ js) (tiJ js) x.pl : Nat), .str x.g, .int (bs ho + x.o), .int (bs ho + x.k)]) = G7 at u4 hc4 ⊢
      have rw4 : RowAt G7 c4 (askRow js as bs k) := by
        show G7 c4 = some (.tup (askRow js as bs k).vals)
        rw [hc4]
        unfold askRow
        rw [hx, eho]
        rfl
      obtain ⟨z1, z2, z3⟩ := snoc_step (g3.trans u4) nl1 (u4 _ _ hl3) (hrw3.go fun c ys e => u4 _ _ e) rw4
      have ll := hrw3.1
      rw [List.length_append, List.length_map, List.length_range, List.length_map, List.length_range] at ll
      refine ⟨l, _, _, rfl, rfl, u4 _ _ hl3, small_line (by omega), ⟨_, _, _, _, _, _, _, _, _, _, _, rfl⟩, z1, _, z2, ?_⟩
      rw [range_snoc, ← List.append_assoc]
      exact z3
    rintro σ G2 ⟨⟨v6, v7, v8, v9, v10, v11, v12, v13, v14, v15, v16, rfl⟩, g2, us2, hl2', hrw2⟩
    rw [List.length_map, W.ca.1] at hrw2
    -- the counts
    obtain ⟨ta, tb, t1, t2, t3⟩ := id ht1
    refine ⟨_, rfl, t, _, 0, _, rfl, rfl, SqT.of (g2 _ _ t1), rfl, ta, rfl, ⟨_, SqT.of (g2 _ _ t2)⟩, ?_⟩
    refine for_it (walk_tup (K := K) (a := ta) (xs := hs.map V.str)) (fun k σ H' => Slots t w d dA dJ l σ ∧ Same H1 H' ∧ ∃ us, H' l = some (.lst us) ∧ Rws H' us (((List.range js.length).map (jobRow js bs) ++ (List.range as.length).map (askRow js as bs)) ++ (hs.take k).map (allRow js as)))
      ⟨⟨_, _, _, _, _, _, _, _, _, _, _, rfl⟩, g2, us2, hl2', by rw [List.take_zero, List.map_nil, List.append_nil]; exact hrw2⟩ (fun k σ H' _ h => SqT.of (h.2.1 _ _ t2)) ?_ ?_
    · rintro k v σ G1 G2 hk ⟨⟨v6, v7, v8, v9, v10, v11, v12, v13, v14, v15, v16, rfl⟩, g1, us, hl, hrw⟩ ⟨rfl, ev⟩
      rw [List.length_map] at hk
      have eh : hs[k]? = some hs[k] := List.getElem?_eq_getElem hk
      generalize hs[k] = h at eh
      rw [List.getElem?_map, eh] at ev
      obtain rfl : V.str h = v := Option.some.inj ev
      refine ⟨dA, _, g1 _ _ hA, trivial, fun od => ?_⟩
      have fz0 : ∀ b o, b ≠ dA → G2 b = some o → (upd G2 dA (.frz od (.dK kA))) b = some o := fun b o nb e => by rw [upd_ne nb]; exact e
      have fz1 : (upd G2 dA (.frz od (.dK kA))) dA = some (.frz od (.dK kA)) := upd_same
      generalize upd G2 dA (.frz od (.dK kA)) = Z at fz0 fz1 ⊢
      refine ⟨_, rfl, dA, od, rfl, .inl ⟨kA, fz1, fun D nD => ?_⟩⟩
      have nDd : D ≠ dA := fun e => by rw [e, fz1] at nD; cases nD
      have nDG : G2 D = none := by
        cases e : G2 D with
        | none => rfl
        | some o =>
          rw [fz0 D o nDd e] at nD
          cases nD
      refine lc_it (walk_keys (d := dA) (o := od) (kvs := kA)) (fun i H' => (∀ b o, b ≠ dA → G2 b = some o → H' b = some o) ∧ H' dA = some (.frz od (.dK kA)) ∧ ∃ vs : List V, H' D = some (.lst vs) ∧ vs.length = ((kA.take i).filter fun kv => decide ((hoA js as) (keyN kv.1) = h)).length)
        ⟨fun b o nb e => by rw [upd_ne (ne_of_none e nDG)]; exact fz0 b o nb e, by rw [upd_ne (Ne.symm nDd)]; exact fz1, [], upd_same, by rw [List.take_zero]; rfl⟩ (fun i H' _ h => h.2.1) ?_ ?_
      · rintro i v F1 F2 hi ⟨fr, hfz, vs, hD, hlv⟩ ⟨rfl, kk, v0, ek, rfl⟩
        obtain ⟨a, b0, ea, la, _, _, _⟩ := nA.own _ (List.mem_of_getElem? ek)
        have ea : kk = .inl (a : Int) := ea
        subst ea
        obtain ⟨b, eb, hb⟩ := nA.at la (hoa a la)
        have hbF : F2 b = some (.tup [.str ((hoA js as) a), .int (rk as.length (hoA js as) (tiA as) a : Nat)]) := fr _ _ (ne_of hb hA (fun z => nomatch z)) (g1 _ _ hb)
        have lk := nA.len
        have lf : ((kA.take i).filter fun kv => decide ((hoA js as) (keyN kv.1) = h)).length ≤ kA.length := Nat.le_trans (List.length_filter_le _ _) (by rw [List.length_take]; omega)
        refine ⟨rfl, _, rfl, _, rfl, dA, _, rfl, (by rw [← eb]; exact frz_get (k := Sum.inl (a : Int)) hfz), b, _, 0, _, rfl, rfl, SqT.of hbF, rfl, _, rfl, rfl, _, rfl, ?_⟩
        rw [take_succ_filter _ kA ek]
        have ekn : keyN (.inl (a : Int)) = a := rfl
        by_cases e : (hoA js as) a = h
        · rw [show decide ((hoA js as) (keyN ((.inl (a : Int) : Key), v0).1) = h) = true from decide_eq_true e]
          refine iteTd (congrArg V.str e) ⟨_, rfl, vs, hD, small_line (by omega), fun c o nc ec => by rw [upd_ne (ne_of_none ec nDG)]; exact fr c o nc ec, by rw [upd_ne (Ne.symm nDd)]; exact hfz, _, upd_same, ?_⟩
          rw [List.length_append, List.length_append, hlv, if_pos rfl]
          rfl
        · rw [show decide ((hoA js as) (keyN ((.inl (a : Int) : Key), v0).1) = h) = false from decide_eq_false e]
          refine iteFd (fun z => e (V.str.inj z)) ⟨fr, hfz, vs, hD, ?_⟩
          rw [List.length_append, hlv, if_neg (fun z => Bool.noConfusion z)]
          rfl
      rintro F ⟨fr, hfz, vs, hD, hlv⟩
      rw [List.take_length, num_count nA hoa h] at hlv
      refine ⟨hfz, ?_⟩
      have smM1 : Same G2 (upd F dA (.dK kA)) := fun b o e => by
        by_cases nb : b = dA
        · subst nb
          rw [upd_same, ← g1 _ _ hA]
          exact e
        · rw [upd_ne nb]
          exact fr b o nb e
      have hDf : (upd F dA (.dK kA)) D = some (.lst vs) := by rw [upd_ne nDd]; exact hD
      generalize upd F dA (.dK kA) = M1 at smM1 hDf ⊢
      refine ⟨D, _, rfl, .inl (SqL.of hDf), ?_⟩
      rw [hlv]
      clear fz0 fz1 nD fr hfz hD hlv hDf
      have g4 := g1.trans smM1
      refine ⟨_, rfl, .inl ⟨rfl, _, SqL.of (smM1 _ _ hl)⟩, _, rfl, _, rfl, ?_⟩
      refine ⟨dJ, _, g4 _ _ hJ, trivial, fun od => ?_⟩
      have fz0 : ∀ b o, b ≠ dJ → M1 b = some o → (upd M1 dJ (.frz od (.dK kJ))) b = some o := fun b o nb e => by rw [upd_ne nb]; exact e
      have fz1 : (upd M1 dJ (.frz od (.dK kJ))) dJ = some (.frz od (.dK kJ)) := upd_same
      generalize upd M1 dJ (.frz od (.dK kJ)) = Z at fz0 fz1 ⊢
      refine ⟨_, rfl, dJ, od, rfl, .inl ⟨kJ, fz1, fun D nD => ?_⟩⟩
      have nDd : D ≠ dJ := fun e => by rw [e, fz1] at nD; cases nD
      have nDG : M1 D = none := by
        cases e : M1 D with
        | none => rfl
        | some o =>
          rw [fz0 D o nDd e] at nD
          cases nD
      refine lc_it (walk_keys (d := dJ) (o := od) (kvs := kJ)) (fun i H' => (∀ b o, b ≠ dJ → M1 b = some o → H' b = some o) ∧ H' dJ = some (.frz od (.dK kJ)) ∧ ∃ vs : List V, H' D = some (.lst vs) ∧ vs.length = ((kJ.take i).filter fun kv => decide ((hoJ js) (keyN kv.1) = h)).length)
        ⟨fun b o nb e => by rw [upd_ne (ne_of_none e nDG)]; exact fz0 b o nb e, by rw [upd_ne (Ne.symm nDd)]; exact fz1, [], upd_same, by rw [List.take_zero]; rfl⟩ (fun i H' _ h => h.2.1) ?_ ?_
      · rintro i v F1 F2 hi ⟨fr, hfz, vs, hD, hlv⟩ ⟨rfl, kk, v0, ek, rfl⟩
        obtain ⟨a, b0, ea, la, _, _, _⟩ := nJ.own _ (List.mem_of_getElem? ek)
        have ea : kk = .inl (a : Int) := ea
        subst ea
        obtain ⟨b, eb, hb⟩ := nJ.at la (hoj a la)
        have hbF : F2 b = some (.tup [.str ((hoJ js) a), .int (rk js.length (hoJ js) (tiJ js) a : Nat)]) := fr _ _ (ne_of hb hJ (fun z => nomatch z)) (g4 _ _ hb)
        have lk := nJ.len
        have lf : ((kJ.take i).filter fun kv => decide ((hoJ js) (keyN kv.1) = h)).length ≤ kJ.length := Nat.le_trans (List.length_filter_le _ _) (by rw [List.length_take]; omega)
        refine ⟨rfl, _, rfl, _, rfl, dJ, _, rfl, (by rw [← eb]; exact frz_get (k := Sum.inl (a : Int)) hfz), b, _, 0, _, rfl, rfl, SqT.of hbF, rfl, _, rfl, rfl, _, rfl, ?_⟩
        rw [take_succ_filter _ kJ ek]
        have ekn : keyN (.inl (a : Int)) = a := rfl
        by_cases e : (hoJ js) a = h
        · rw [show decide ((hoJ js) (keyN ((.inl (a : Int) : Key), v0).1) = h) = true from decide_eq_true e]
          refine iteTd (congrArg V.str e) ⟨_, rfl, vs, hD, small_line (by omega), fun c o nc ec => by rw [upd_ne (ne_of_none ec nDG)]; exact fr c o nc ec, by rw [upd_ne (Ne.symm nDd)]; exact hfz, _, upd_same, ?_⟩
          rw [List.length_append, List.length_append, hlv, if_pos rfl]
          rfl
        · rw [show decide ((hoJ js) (keyN ((.inl (a : Int) : Key), v0).1) = h) = false from decide_eq_false e]
          refine iteFd (fun z => e (V.str.inj z)) ⟨fr, hfz, vs, hD, ?_⟩
          rw [List.length_append, hlv, if_neg (fun z => Bool.noConfusion z)]
          rfl
      rintro F ⟨fr, hfz, vs, hD, hlv⟩
      rw [List.take_length, num_count nJ hoj h] at hlv
      refine ⟨hfz, ?_⟩
      have smM2 : Same M1 (upd F dJ (.dK kJ)) := fun b o e => by
        by_cases nb : b = dJ
        · subst nb
          rw [upd_same, ← g4 _ _ hJ]
          exact e
        · rw [upd_ne nb]
          exact fr b o nb e
      have hDf : (upd F dJ (.dK kJ)) D = some (.lst vs) := by rw [upd_ne nDd]; exact hD
      generalize upd F dJ (.dK kJ) = M2 at smM2 hDf ⊢
      refine ⟨D, _, rfl, .inl (SqL.of hDf), ?_⟩
      rw [hlv]
      clear fz0 fz1 nD fr hfz hD hlv hDf
      refine ⟨(by show 4 ≤ sizeLine; decide), fun c4 n4 => ?_⟩
      have u4 : Same M2 (upd M2 c4 (.tup [.str "all", .str h, .int ((itemsOf as.length (hoA js as) h).length : Nat), .int ((itemsOf js.length (hoJ js) h).length : Nat)])) := same_upd n4
      have hc4 : RowAt (upd M2 c4 (.tup [.str "all", .str h, .int ((itemsOf as.length (hoA js as) h).length : Nat), .int ((itemsOf js.length (hoJ js) h).length : Nat)])) c4 (allRow js as h) := upd_same
      generalize upd M2 c4 (.tup [.str "all", .str h, .int ((itemsOf as.length (hoA js as) h).length : Nat), .int ((itemsOf js.length (hoJ js) h).length : Nat)]) = G7 at u4 hc4 ⊢
      have v := (smM1.trans smM2).trans u4
      obtain ⟨z1, z2, z3⟩ := snoc_step (g1.trans v) nl1 (v _ _ hl) (hrw.go fun c ys e => v _ _ e) hc4
      have ll := hrw.1
      rw [List.length_append, List.length_append, List.length_map, List.length_range, List.length_map, List.length_range, List.length_map, List.length_take] at ll
      have lh : hs.length ≤ 6 := h6
      refine ⟨l, _, _, rfl, rfl, v _ _ hl, small_line (by omega), ⟨_, _, _, _, _, _, _, _, _, _, _, rfl⟩, z1, _, z2, ?_⟩
      rw [take_snoc eh, List.map_append, ← List.append_assoc]
      exact z3
    · rintro σ G3 ⟨⟨v6, v7, v8, v9, v10, v11, v12, v13, v14, v15, v16, rfl⟩, g3, us3, hl3, hrw3⟩
      rw [List.length_map, List.take_length] at hrw3
      exact ⟨_, rfl, q l us3 G3 (s1.trans g3) nl hl3 hrw3⟩
/-! ### the rows of a world are a book -/
theorem count_range {A : Type} (xs : List A) (p : A → Bool) (f : Nat → Bool) (h : ∀ i x, xs[i]? = some x → f i = p x) : ∀ k, k ≤ xs.length → ((List.range k).filter f).length = ((xs.take k).filter p).length
  | 0, _ => by rw [List.take_zero]; rfl
  | k + 1, hk => by
    have ih := count_range xs p f h k (Nat.le_of_succ_le hk)
    have e : xs[k]? = some xs[k] := List.getElem?_eq_getElem hk
    rw [List.range_succ, filter_snoc, take_snoc e, filter_snoc, List.length_append, List.length_append, ih, h k _ e]
    split <;> rfl
theorem items_nJ (js : List WJ) (h : Str) : (itemsOf js.length (hoJ js) h).length = nJ js h := by
  unfold itemsOf nJ
  rw [count_range js (fun j => decide (j.h = h)) _ (fun i x e => by unfold hoJ; rw [e]) _ (Nat.le_refl _), List.take_length]
theorem items_nA (js : List WJ) (as : List WA) (h : Str) (hp : ∀ x ∈ as, x.pl < js.length) : (itemsOf as.length (hoA js as) h).length = nA js as h := by
  unfold itemsOf nA
  rw [count_range as (fun x => x.of js h) _ (fun i x e => ?_) _ (Nat.le_refl _), List.take_length]
  have hpl := hp x (List.mem_of_getElem? e)
  have ej : js[x.pl]? = some js[x.pl] := List.getElem?_eq_getElem hpl
  generalize js[x.pl] = j at ej
  have e1 : hoA js as i = j.h := by
    unfold hoA hoJ
    rw [e]
    show (match js[x.pl]? with | some j => j.h | none => "") = _
    rw [ej]
  unfold WA.of
  rw [e1, ej]
theorem WOk.pl {hs : List Str} {js : List WJ} {as : List WA} (w : WOk hs js as) : ∀ x ∈ as, x.pl < js.length := fun x m => by
  obtain ⟨j, e, _⟩ := (w.ab x m).par
  exact (List.getElem?_eq_some_iff.mp e).1
/-! what each row says -/
inductive WRow (hs : List Str) (js : List WJ) (as : List WA) (bs : Str → Int) : Row → Prop
  | job (i : Nat) (j : WJ) : js[i]? = some j → WRow hs js as bs (.job j.h (rkJ js i : Nat) (bs j.h + j.b) (bs j.h + j.e))
  | ask (i : Nat) (x : WA) (j : WJ) : as[i]? = some x → js[x.pl]? = some j → WRow hs js as bs (.ask j.h x.g (rkA js as i : Nat) (rkJ js x.pl : Nat) (bs j.h + x.o) (bs j.h + x.k))
  | all (h : Str) : h ∈ hs → WRow hs js as bs (.all h ((itemsOf as.length (hoA js as) h).length : Nat) ((itemsOf js.length (hoJ js) h).length : Nat))
theorem hoA_at {js : List WJ} {as : List WA} {i : Nat} {x : WA} {j : WJ} (e : as[i]? = some x) (ej : js[x.pl]? = some j) : hoA js as i = j.h := by
  unfold hoA hoJ
  rw [e]
  show (match js[x.pl]? with | some j => j.h | none => "") = _
  rw [ej]
theorem hoJ_at {js : List WJ} {i : Nat} {j : WJ} (e : js[i]? = some j) : hoJ js i = j.h := by
  unfold hoJ
  rw [e]
theorem tiJ_at {js : List WJ} {i : Nat} {j : WJ} (e : js[i]? = some j) : tiJ js i = j.b := by
  unfold tiJ
  rw [e]
theorem tiA_at {as : List WA} {i : Nat} {x : WA} (e : as[i]? = some x) : tiA as i = x.o := by
  unfold tiA
  rw [e]
theorem wrow_of {hs : List Str} {js : List WJ} {as : List WA} {bs : Str → Int} (w : WOk hs js as) {r : Row} (m : r ∈ wRows hs js as bs) : WRow hs js as bs r := by
  unfold wRows at m
  rcases List.mem_append.mp m with m | m
  · rcases List.mem_append.mp m with m | m
    · obtain ⟨i, mi, rfl⟩ := List.mem_map.mp m
      have li := List.mem_range.mp mi
      have e : js[i]? = some js[i] := List.getElem?_eq_getElem li
      generalize js[i] = j at e
      unfold jobRow
      rw [e]
      exact .job i _ e
    · obtain ⟨i, mi, rfl⟩ := List.mem_map.mp m
      have li := List.mem_range.mp mi
      have e : as[i]? = some as[i] := List.getElem?_eq_getElem li
      generalize as[i] = x at e
      have lp := w.pl x (List.mem_of_getElem? e)
      have ej : js[x.pl]? = some js[x.pl] := List.getElem?_eq_getElem lp
      generalize js[x.pl] = j at ej
      unfold askRow
      rw [e]
      show WRow hs js as bs (.ask (hoA js as i) _ _ _ (bs (hoA js as i) + _) (bs (hoA js as i) + _))
      rw [hoA_at e ej]
      exact .ask i _ _ e ej
  · obtain ⟨h, mh, rfl⟩ := List.mem_map.mp m
    exact .all h mh
theorem rkJ_lt {js : List WJ} {i : Nat} {j : WJ} (e : js[i]? = some j) : rkJ js i < (itemsOf js.length (hoJ js) j.h).length := by
  rw [← hoJ_at e]
  exact rk_lt (List.getElem?_eq_some_iff.mp e).1
theorem rkA_lt {js : List WJ} {as : List WA} {i : Nat} {x : WA} {j : WJ} (e : as[i]? = some x) (ej : js[x.pl]? = some j) : rkA js as i < (itemsOf as.length (hoA js as) j.h).length := by
  rw [← hoA_at e ej]
  exact rk_lt (List.getElem?_eq_some_iff.mp e).1
theorem world_book {hs : List Str} {js : List WJ} {as : List WA} {bs : Str → Int} (w : WOk hs js as) (hb : ∀ h ∈ hs, BasI (bs h)) (hok : ∀ h ∈ hs, PyData.strOk h = true) : Book hs (wRows hs js as bs) := by
  have cJ : ∀ h, (itemsOf js.length (hoJ js) h).length ≤ 15 := fun h => by rw [items_nJ]; exact (w.cnt h).1
  have cA : ∀ h, (itemsOf as.length (hoA js as) h).length ≤ 15 := fun h => by rw [items_nA js as h w.pl]; exact (w.cnt h).2
  have jb : ∀ {i : Nat} {j : WJ}, js[i]? = some j → j.h ∈ hs ∧ 0 ≤ j.b ∧ j.b ≤ j.e ∧ j.e ≤ 400 := fun e => w.jb _ (List.mem_of_getElem? e)
  have ab : ∀ {i : Nat} {x : WA} {j : WJ}, as[i]? = some x → js[x.pl]? = some j → x.g ∈ hs ∧ j.b < x.o ∧ x.o ≤ x.k ∧ x.k < j.e := fun {i x j} e ej => by
    have a := w.ab x (List.mem_of_getElem? e)
    obtain ⟨j', ej', h1, h2, h3⟩ := a.par
    rw [Nat.sub_zero] at ej'
    obtain rfl := Option.some.inj (ej.symm.trans ej')
    exact ⟨a.g, h1, h2, h3⟩
  refine ⟨fun r m => ?_, fun r m => ?_, fun r mr t mt => ?_⟩
  · cases wrow_of w m with
    | job i j e =>
      obtain ⟨h1, h2, h3, h4⟩ := jb e
      have b := hb j.h h1
      unfold BasI at b
      have k1 := rkJ_lt e
      have k2 := cJ j.h
      exact ⟨hok _ h1, ⟨Int.natCast_nonneg _, by omega⟩, by unfold TimeI; omega, by unfold TimeI; omega, by omega⟩
    | ask i x j e ej =>
      obtain ⟨h1, h2, h3, h4⟩ := jb ej
      obtain ⟨g1, g2, g3, g4⟩ := ab e ej
      have b := hb j.h h1
      unfold BasI at b
      have k1 := rkA_lt e ej
      have k2 := cA j.h
      have k3 := rkJ_lt ej
      have k4 := cJ j.h
      exact ⟨hok _ h1, hok _ g1, ⟨Int.natCast_nonneg _, by omega⟩, ⟨Int.natCast_nonneg _, by omega⟩, by unfold TimeI; omega, by unfold TimeI; omega, by omega⟩
    | all h mh =>
      have k2 := cA h
      have k4 := cJ h
      exact ⟨hok _ mh, ⟨Int.natCast_nonneg _, by omega⟩, ⟨Int.natCast_nonneg _, by omega⟩⟩
  · cases wrow_of w m with
    | job i j e => exact (jb e).1
    | ask i x j e ej => exact ⟨(jb ej).1, (ab e ej).1⟩
    | all h mh => exact mh
  · have jj : ∀ {i i' : Nat} {j j' : WJ}, js[i]? = some j → js[i']? = some j' → j.h = j'.h → (rkJ js i = rkJ js i' → i = i') ∧ (rkJ js i ≤ rkJ js i' → j.b ≤ j'.b) := fun {i i' j j'} e e' eh => by
      have l := (List.getElem?_eq_some_iff.mp e).1
      have l' := (List.getElem?_eq_some_iff.mp e').1
      have eho : hoJ js i = hoJ js i' := by rw [hoJ_at e, hoJ_at e', eh]
      refine ⟨fun z => rk_inj l l' eho z, fun z => ?_⟩
      have := rk_time (ti := tiJ js) l l' eho z
      rw [tiJ_at e, tiJ_at e'] at this
      exact this
    have aa : ∀ {i i' : Nat} {x x' : WA} {j j' : WJ}, as[i]? = some x → js[x.pl]? = some j → as[i']? = some x' → js[x'.pl]? = some j' → j.h = j'.h → (rkA js as i = rkA js as i' → i = i') ∧ (rkA js as i ≤ rkA js as i' → x.o ≤ x'.o) := fun {i i' x x' j j'} e ej e' ej' eh => by
      have l := (List.getElem?_eq_some_iff.mp e).1
      have l' := (List.getElem?_eq_some_iff.mp e').1
      have eho : hoA js as i = hoA js as i' := by rw [hoA_at e ej, hoA_at e' ej', eh]
      refine ⟨fun z => rk_inj l l' eho z, fun z => ?_⟩
      have := rk_time (ti := tiA as) l l' eho z
      rw [tiA_at e, tiA_at e'] at this
      exact this
    have ja : ∀ {i i' : Nat} {j j' : WJ} {x : WA}, js[i]? = some j → as[i']? = some x → js[x.pl]? = some j' → ¬ ClashP (.job j.h (rkJ js i : Nat) (bs j.h + j.b) (bs j.h + j.e)) (.ask j'.h x.g (rkA js as i' : Nat) (rkJ js x.pl : Nat) (bs j'.h + x.o) (bs j'.h + x.k)) := fun {i i' j j' x} e e' ej' z => by
      obtain ⟨eh, z⟩ := z
      obtain ⟨g1, g2, g3, g4⟩ := ab e' ej'
      obtain ⟨q1, q2⟩ := jj e ej' eh
      rw [eh] at z
      rcases z with ⟨z1, z2⟩ | ⟨z1, z2⟩
      · have := q2 (by omega)
        omega
      · have ei := q1 (by omega)
        subst ei
        obtain rfl := Option.some.inj (e.symm.trans ej')
        omega
    have la : ∀ {i' : Nat} {j' : WJ} {x : WA} {h : Str}, as[i']? = some x → js[x.pl]? = some j' → ¬ ClashP (.all h ((itemsOf as.length (hoA js as) h).length : Nat) ((itemsOf js.length (hoJ js) h).length : Nat)) (.ask j'.h x.g (rkA js as i' : Nat) (rkJ js x.pl : Nat) (bs j'.h + x.o) (bs j'.h + x.k)) := fun {i' j' x h} e' ej' z => by
      obtain ⟨eh, z⟩ := z
      subst eh
      have k1 := rkA_lt e' ej'
      have k3 := rkJ_lt ej'
      omega
    have lj : ∀ {i : Nat} {j : WJ} {h : Str}, js[i]? = some j → ¬ ClashP (.all h ((itemsOf as.length (hoA js as) h).length : Nat) ((itemsOf js.length (hoJ js) h).length : Nat)) (.job j.h (rkJ js i : Nat) (bs j.h + j.b) (bs j.h + j.e)) := fun {i j h} e z => by
      obtain ⟨eh, z⟩ := z
      subst eh
      have k3 := rkJ_lt e
      omega
    cases wrow_of w mr with
    | job i j e =>
      cases wrow_of w mt with
      | job i' j' e' =>
        rintro ⟨eh, ne, z⟩
        obtain ⟨q1, q2⟩ := jj e e' eh
        obtain ⟨q3, q4⟩ := jj e' e eh.symm
        rcases z with z | ⟨z1, z2⟩ | ⟨z1, z2⟩
        · have ei := q1 (by omega)
          subst ei
          obtain rfl := Option.some.inj (e.symm.trans e')
          exact ne rfl
        · have := q2 (by omega)
          rw [eh] at z2
          omega
        · have := q4 (by omega)
          rw [eh] at z2
          omega
      | ask i' x j' e' ej' => exact ja e e' ej'
      | all h mh => exact fun z => lj e ((clash_comm _ _).mp z)
    | ask i x j e ej =>
      cases wrow_of w mt with
      | job i' j' e' => exact fun z => ja e' e ej ((clash_comm _ _).mp z)
      | ask i' x' j' e' ej' =>
        rintro ⟨eh, ne, z⟩
        obtain ⟨q1, q2⟩ := aa e ej e' ej' eh
        obtain ⟨q3, q4⟩ := aa e' ej' e ej eh.symm
        rcases z with z | ⟨z1, z2⟩ | ⟨z1, z2⟩
        · have ei := q1 (by omega)
          subst ei
          obtain rfl := Option.some.inj (e.symm.trans e')
          obtain rfl := Option.some.inj (ej.symm.trans ej')
          exact ne rfl
        · have := q2 (by omega)
          rw [eh] at z2
          omega
        · have := q4 (by omega)
          rw [eh] at z2
          omega
      | all h mh => exact fun z => la e ej ((clash_comm _ _).mp z)
    | all h mh =>
      cases wrow_of w mt with
      | job i' j' e' => exact lj e'
      | ask i' x' j' e' ej' => exact la e' ej'
      | all h' mh' =>
        rintro ⟨eh, ne⟩
        subst eh
        exact ne rfl
theorem dqs_rows {Ex : Addr → Prop} {H : Hp} : ∀ {xs : List V} {rs : List Row}, Rws H xs rs → Dqs Ex H xs (rs.map rowD)
  | [], [], _ => .nil
  | [], _ :: _, h => nomatch h.1
  | _ :: _, [], h => nomatch h.1
  | v :: xs, r :: rs, h => by
    obtain ⟨a, e, ha⟩ := h.2 0 r rfl
    obtain rfl : v = .ref a := Option.some.inj e
    exact .cons (.tup ha (dqs_row r)) (dqs_rows ⟨Nat.succ.inj h.1, fun i t e => h.2 (i + 1) t e⟩)
theorem rws_of {Ex : Addr → Prop} {H : Hp} {xs : List V} {rs : List Row} (h : Dqs Ex H xs (rs.map rowD)) : Rws H xs rs := by
  refine ⟨by rw [h.len, List.length_map], fun i r e => ?_⟩
  obtain ⟨v, hv, dv⟩ := h.get (show (rs.map rowD)[i]? = some (.tuple r.data) by rw [List.getElem?_map, e]; rfl)
  obtain ⟨a, rfl, ha⟩ := row_at dv
  exact ⟨a, hv, ha⟩
theorem Book.sub {hs : List Str} {rs ts : List Row} (B : Book hs rs) (h : ∀ r ∈ ts, r ∈ rs) : Book hs ts := ⟨fun r m => B.wf r (h r m), fun r m => B.inn r (h r m), fun r m t mt => B.nc r (h r m) t (h t mt)⟩
/-! ### a small book of a small world -/
def sp_small : Sp := fun vs H Q _ => ∃ (p c : Addr) (houses : Nat) (most fewer stray : Int), vs = [.ref p, .int (houses : Nat), .int most, .int fewer, .int stray] ∧ Pen H p c ∧ 1 ≤ houses ∧ houses ≤ 6 ∧ 0 ≤ most ∧ most ≤ 90 ∧ 0 ≤ fewer ∧ fewer ≤ 100 ∧
  ∀ (b t l : Addr) (hs gs : List Str) (xs : List V) (rws : List Row) (H' : Hp), Stp p c H H' → H l = none → H' b = some (.tup [.ref t, .ref l]) → TownAt H' t hs gs → Good hs gs houses → H' l = some (.lst xs) → Rws H' xs rws → Book hs rws → rws.length ≤ 200 → Q (.ref b) H'
theorem ok_l_small_book (T : Txt K mg af fd) : FnOk P w K mg base CX0 9 (af 40) (fd 40) ["pen", "houses", "most", "fewer", "stray"] sp_small := by
  refine T.F_l_small_book.ok sc_l_small_book (fun vs H Q E h => ?_) (fun cdv A outer s H vs Q E hr h => ?_)
  · obtain ⟨p, c, houses, most, fewer, stray, rfl, _⟩ := h
    rfl
  · obtain ⟨p, c, houses, most, fewer, stray, rfl, hP, h0, h1, m0, m1, f0, f1, q⟩ := h
    refine ⟨_, (pss_cons (ps_set (i := 5) sc_l_small_book.nd rfl (by first | exact Or.inl rfl | exact Or.inr rfl) (pe_call (ok_l_town T) (hr.mono (by first | decide | omega)) (by rfl) T.g_l_town T.F_l_town.kp T.b_l_town .nil pass0 (pa_cons (pv 0) (pa_cons (pv 1) pa_nil))))
        (pss_cons (ps_set (i := 6) sc_l_small_book.nd rfl (by first | exact Or.inl rfl | exact Or.inr rfl) (pe_call (ok_l_world T) (hr.mono (by first | decide | omega)) (by rfl) T.g_l_world T.F_l_world.kp T.b_l_world .nil pass0 (pa_cons (pv 0) (pa_cons (pv 5) (pa_cons pe_int (pa_cons pe_int (pa_cons (pv 2) (pa_cons (pv 4) pa_nil))))))))
        (pss_one (ps_ret (pe_tup (pa_cons (pv 5) (pa_cons (pe_call (ok_l_left T) (hr.mono (by first | decide | omega)) (by rfl) T.g_l_left T.F_l_left.kp T.b_l_left .nil pass0 (pa_cons (pv 0) (pa_cons (pe_call (ok_l_all_rows T) (hr.mono (by first | decide | omega)) (by rfl) T.g_l_all_rows T.F_l_all_rows.kp T.b_l_all_rows .nil pass0 (pa_cons (pv 5) (pa_cons (pv 6) (pa_cons (pe_call (ok_l_bases T) (hr.mono (by first | decide | omega)) (by rfl) T.g_l_bases T.F_l_bases.kp T.b_l_bases .nil pass0 (pa_cons (pv 0) (pa_cons (pv 5) (pa_cons pe_int pa_nil)))) pa_nil)))) (pa_cons (pv 3) pa_nil)))) pa_nil))))))), ?_⟩
    refine ⟨_, rfl, _, rfl, p, c, houses, rfl, hP, h0, h1, fun t hs gs H1 s1 ht hg => ?_⟩
    have l6 : hs.length ≤ 6 := Nat.le_trans hg.few h1
    refine ⟨_, rfl, _, rfl, _, rfl, _, rfl, p, c, t, hs, gs, 2, most, stray, rfl, s1.1, ht, hg.one, l6, hg.sub, hg.hou, by decide, by decide, m0, by omega, fun w lj la rs qs js as H2 s2 nw W ap wok lm => ?_⟩
    have ht2 := s2.town s1.1 ht
    refine ⟨_, rfl, _, rfl, _, rfl, _, rfl, _, rfl, _, rfl, p, c, t, hs, gs, 1, rfl, s2.1, ht2, l6, by decide, by decide, fun d bs kB H3 s3 nd hd hbd _ => ?_⟩
    have ht3 := s3.town s2.1 ht2
    have W3 := W.stp s2.1 s3 ap
    have hok : ∀ h ∈ hs, PyData.strOk h = true := fun h m => (hg.hou h m).ok
    refine ⟨t, w, d, lj, la, hs, gs, rs, qs, js, as, most, bs, kB, rfl, ht3, W3, wok, by omega, l6, hd, hbd, fun l us H4 s4 nl hl hrw => ?_⟩
    have B := world_book (bs := bs) wok (fun h m => (hbd h m).2) hok
    have lena : as.length ≤ js.length := wok.len
    have lw : (wRows hs js as bs).length ≤ 190 := by
      unfold wRows
      rw [List.length_append, List.length_append, List.length_map, List.length_range, List.length_map, List.length_range, List.length_map]
      omega
    have th : ∀ r ∈ wRows hs js as bs, Th 3 3000 (rowD r) := fun r m => (th_tup (row_th hg.hou (B.wf r m) (B.inn r m)) (row_len7 r).2).mono (by decide) (by decide)
    have P3 := s3.1
    have nlp : l ≠ p := fun e => P3.neP nl e.symm
    refine ⟨_, rfl, p, c, l, fewer, us, (wRows hs js as bs).map rowD, rfl, P3.sm s4, nlp, hl, dqs_rows hrw, fun x m => ?_, fun x m => ?_, f0, f1, by rw [List.length_map]; omega, fun l2 ys es H5 s5 nl2 hl2 dq5 sub len5 => ?_⟩
    · obtain ⟨r, mr, rfl⟩ := List.mem_map.mp m
      exact th r mr
    · obtain ⟨r, mr, rfl⟩ := List.mem_map.mp m
      exact ⟨r, rfl, B.wf r mr⟩
    · refine ⟨(by show 2 ≤ sizeLine; decide), fun b nb => ?_⟩
      obtain ⟨rws, rfl, hsub⟩ := rows_of (P := fun r => r ∈ wRows hs js as bs) (ds := es) fun x m => by
        obtain ⟨r, mr, rfl⟩ := List.mem_map.mp (sub x m)
        exact ⟨r, rfl, mr⟩
      have P4 := P3.sm s4
      have st4 : Stp p c H3 H4 := ⟨P4, fun b o _ e => s4 b o e⟩
      have st35 := st4.trans s5
      have stb : Stp p c H5 (upd H5 b (.tup [.ref t, .ref l2])) := (Stp.refl s5.1).new s5.1 nb
      have st36 := st35.trans stb
      have sb : Same H5 (upd H5 b (.tup [.ref t, .ref l2])) := same_upd nb
      have st14 := ((s1.trans s2).trans s3).trans st4
      have nl0 : H l2 = none := st14.back hP nl2
      refine q b t l2 hs gs ys rws _ (st14.trans (s5.trans stb)) nl0 upd_same (st36.town P3 ht3) hg (sb _ _ hl2) ((rws_of dq5).go fun c ys e => sb _ _ e) (B.sub hsub) ?_
      rw [List.length_map, List.length_map] at len5
      omega
theorem wipe_one (σ : L2.St) (i : Nat) (v : V) : wipe ((wipe σ [i]).set i (some v)) [i] = wipe σ [i] := by
  show ((σ.set i none).set i (some v)).set i none = σ.set i none
  rw [List.set_set, List.set_set]
theorem inV_strs {g : Str} {hs : List Str} : inV (.str g) (hs.map V.str) = true ↔ g ∈ hs := by
  unfold inV
  rw [List.any_map, List.any_eq_true]
  constructor
  · rintro ⟨h, m, e⟩
    have e : eqV (.str h) (.str g) = true := e
    have e2 : h = g := by simpa [eqV] using e
    rw [← e2]
    exact m
  · exact fun m => ⟨g, m, by show eqV (.str g) (.str g) = true; simp [eqV]⟩
theorem flat_strs (hs : List Str) : (hs.map V.str).all flatV = true := by
  rw [List.all_map, List.all_eq_true]
  exact fun _ _ => rfl
/-! ### rows and books as texts -/
theorem call_str_two {X : Cx} : CallR X (.type "str") (fun xs H Q => (∃ i, xs = [.int i] ∧ i.natAbs.log2 < 1920 ∧ Q (.str (toString i)) H) ∨ ∃ a, xs = [.str a] ∧ Q (.str a) H) := by
  intro pins s σ H xs us Q I r h
  rcases h with h | h
  · exact call_str_int pins s σ H xs us Q I r h
  · exact SkE.call_str_str pins s σ H xs us Q I r h
def vS : V → Str
  | .str z => z
  | .int i => toString i
  | _ => ""
def rowS (r : Row) : Str := Txt.join " " (r.vals.map vS)
def PrtOk (v : V) : Prop := (∃ z : Str, v = .str z ∧ z.length ≤ 100) ∨ ∃ i : Int, v = .int i ∧ i.natAbs < 10 ^ 20
/-! a list of texts made of things, one by one -/
theorem lc_strs {J : It} {G : Hp → Prop} {xs : List V} (w : Walk J xs.length G (YAt xs)) {i : Nat} {te : TE} {σ : L2.St} {H1 : Hp} {D : Addr} {Qd : Hp → Prop} (f : V → Str) (nD : H1 D = none) (hG : ∀ H, Same H1 H → G H) (len : xs.length ≤ 2000)
    (hte : ∀ v H2 (Ke : V → Hp → Prop), v ∈ xs → Same H1 H2 → (∀ H3, Same H2 H3 → Ke (.str (f v)) H3) → te ((wipe σ [i]).set i (some v)) H2 Ke)
    (hd : ∀ H', Same H1 H' → H' D = some (.lst ((xs.map f).map V.str)) → Qd H') :
    ∃ W : Nat → Nat → Hp → Prop, (∃ m, W 0 m (upd H1 D (.lst []))) ∧ ∀ k m H, W k m H →
      (J.stop k H ∧ Qd H) ∨ (J.go k H ∧ ∃ Nx : Hp → Prop, (∀ H', Nx H' → ∃ m', m' < m ∧ W (k + 1) m' H') ∧ ∀ x H', J.yld k H x H' → gName i x (wipe σ [i]) H' fun σ2 H2 => wipe σ2 [i] = wipe σ [i] ∧ tYes σ2 H2 fun b H3 =>
        if b = true then te σ2 H3 fun y H4 => ∃ acc, H4 D = some (.lst acc) ∧ acc.length < sizeLine ∧ Nx (upd H4 D (.lst (acc ++ [y]))) else Nx H3) := by
  refine lc_it w (g := gName i) (fun k H' => Same H1 H' ∧ H' D = some (.lst (((xs.take k).map f).map V.str))) ⟨same_upd nD, by rw [upd_same, List.take_zero]; rfl⟩ (fun k H' _ h => hG H' h.1) ?_ ?_
  · rintro k v G1 G2 hk ⟨g1, hD⟩ ⟨rfl, ev⟩
    refine ⟨wipe_one σ i _, yes_if (hte v G2 _ (List.mem_of_getElem? ev) g1 fun H3 s3 => ⟨_, s3 _ _ hD, small_line (by rw [List.length_map, List.length_map, List.length_take]; omega), same_mut (g1.trans s3) nD, ?_⟩)⟩
    rw [upd_same, take_snoc ev, List.map_append, List.map_append]
    rfl
  · rintro G1 ⟨g1, hD⟩
    rw [List.take_length] at hD
    exact hd G1 g1 hD
theorem int_text {i : Int} (h : i.natAbs < 10 ^ 20) : i.natAbs.log2 < 1920 ∧ (Str.ofString (toString i)).length ≤ 100 := by
  refine ⟨?_, (th_int h).sz⟩
  have h2 : i.natAbs < 2 ^ 1900 := Nat.lt_trans h (by decide +kernel)
  exact Nat.lt_of_lt_of_le (PySem.Flt.log2_lt_of (by decide) h2) (by decide)
theorem prt_len {v : V} (h : PrtOk v) : (vS v).length ≤ 100 := by
  rcases h with ⟨z, rfl, hz⟩ | ⟨i, rfl, hi⟩
  · exact hz
  · exact (int_text hi).2
theorem sum_le {A : Type} {f : A → Nat} {b : Nat} : ∀ {xs : List A}, (∀ x ∈ xs, f x ≤ b) → (xs.map f).sum ≤ xs.length * b
  | [], _ => by simp
  | x :: xs, h => by
    have := sum_le (xs := xs) fun y m => h y (List.mem_cons_of_mem _ m)
    have h1 := h x List.mem_cons_self
    rw [List.map_cons, List.sum_cons, List.length_cons, Nat.add_mul, Nat.one_mul]
    omega
def sp_show_row : Sp := fun vs H Q _ => ∃ (a : Addr) (r : Row), vs = [.ref a] ∧ RowAt H a r ∧ (∀ v ∈ r.vals, PrtOk v) ∧ ∀ H', Same H H' → Q (.str (rowS r)) H'
def houS (gs : List Str) (h : Str) : Str := if h ∈ gs then h ++ ("+" : Str) else h
def townS (hs gs : List Str) : Str := Txt.join " " (hs.map (houS gs))
theorem str_app_len (a b : Str) : (a ++ b).length = a.length + b.length := by
  show (Array.size _) = _
  exact Array.size_append
theorem houS_len {gs : List Str} {h : Str} (l : h.length ≤ 9) : (houS gs h).length ≤ 100 := by
  unfold houS
  split
  · rw [str_app_len, show (Str.ofString "+").length = 1 by decide +kernel]
    omega
  · omega
def sp_show_town : Sp := fun vs H Q _ => ∃ (t : Addr) (hs gs : List Str), vs = [.ref t] ∧ TownAt H t hs gs ∧ hs.length ≤ 6 ∧ (∀ h ∈ hs, h.length ≤ 9) ∧ ∀ H', Same H H' → Q (.str (townS hs gs)) H'
/-! the texts of a book, each ended by a line feed -/
def lineS (t : Str) : Str := t ++ ("\n" : Str)
def bookS (hs gs : List Str) (rs : List Row) : Str := Txt.join "" ((townS hs gs :: rs.map rowS).map lineS)
theorem join_len {a : Str} {ys : List Str} {b : Nat} (h : ∀ y ∈ ys, y.length ≤ b) : (Txt.join a ys).length ≤ ys.length * b + ys.length * a.length := by
  have e : (Txt.join a ys).length = (ys.map (·.length)).sum + (ys.length - 1) * a.length := size_glued a ys
  have h1 : (ys.map (·.length)).sum ≤ ys.length * b := sum_le h
  have h2 : (ys.length - 1) * a.length ≤ ys.length * a.length := Nat.mul_le_mul_right _ (Nat.sub_le _ _)
  omega
theorem row_prts {hs : List Str} {r : Row} (w : r.Wf) (i : r.In hs) (hh : ∀ h ∈ hs, h.length ≤ 9) : ∀ v ∈ r.vals, PrtOk v := by
  have e20 : (10 : Nat) ^ 20 = 100000000000000000000 := by decide
  have wd : (Str.ofString "ask").length ≤ 100 ∧ (Str.ofString "job").length ≤ 100 ∧ (Str.ofString "all").length ≤ 100 := by decide +kernel
  have ho : ∀ h ∈ hs, PrtOk (.str h) := fun h m => .inl ⟨h, rfl, by have := hh h m; omega⟩
  have num : ∀ n : Int, -1000000000000 ≤ n → n ≤ 1000000000000 → PrtOk (.int n) := fun n a b => .inr ⟨n, rfl, by omega⟩
  intro v m
  cases r with
  | ask h g k n o b =>
    have m : v ∈ [V.str "ask", .str h, .int k, .int n, .str g, .int o, .int b] := m
    obtain ⟨w1, w2, w3, w4, w5, w6, w7⟩ := w
    unfold NumI at w3 w4
    unfold TimeI at w5 w6
    simp only [List.mem_cons, List.not_mem_nil, or_false] at m
    rcases m with rfl | rfl | rfl | rfl | rfl | rfl | rfl
    · exact .inl ⟨_, rfl, wd.1⟩
    · exact ho h i.1
    · exact num k (by omega) (by omega)
    · exact num n (by omega) (by omega)
    · exact ho g i.2
    · exact num o (by omega) (by omega)
    · exact num b (by omega) (by omega)
  | job h k o b =>
    have m : v ∈ [V.str "job", .str h, .int k, .int o, .int b] := m
    obtain ⟨w1, w2, w3, w4, w5⟩ := w
    unfold NumI at w2
    unfold TimeI at w3 w4
    simp only [List.mem_cons, List.not_mem_nil, or_false] at m
    rcases m with rfl | rfl | rfl | rfl | rfl
    · exact .inl ⟨_, rfl, wd.2.1⟩
    · exact ho h i
    · exact num k (by omega) (by omega)
    · exact num o (by omega) (by omega)
    · exact num b (by omega) (by omega)
  | all h a j =>
    have m : v ∈ [V.str "all", .str h, .int a, .int j] := m
    obtain ⟨w1, w2, w3⟩ := w
    unfold CntI at w2 w3
    simp only [List.mem_cons, List.not_mem_nil, or_false] at m
    rcases m with rfl | rfl | rfl | rfl
    · exact .inl ⟨_, rfl, wd.2.2⟩
    · exact ho h i
    · exact num a (by omega) (by omega)
    · exact num j (by omega) (by omega)
theorem rowS_len {r : Row} (h : ∀ v ∈ r.vals, PrtOk v) : (rowS r).length ≤ 800 := by
  have l7 : r.vals.length ≤ 7 := by cases r <;> exact Nat.le_of_ble_eq_true rfl
  have := join_len (a := (" " : Str)) (ys := r.vals.map vS) (b := 100) fun y m => by
    obtain ⟨v, mv, rfl⟩ := List.mem_map.mp m
    exact prt_len (h v mv)
  rw [List.length_map, show (Str.ofString " ").length = 1 by decide +kernel] at this
  unfold rowS
  omega
theorem townS_len {hs gs : List Str} (l6 : hs.length ≤ 6) (hh : ∀ h ∈ hs, h.length ≤ 9) : (townS hs gs).length ≤ 800 := by
  have := join_len (a := (" " : Str)) (ys := hs.map (houS gs)) (b := 100) fun y m => by
    obtain ⟨v, mv, rfl⟩ := List.mem_map.mp m
    exact houS_len (hh v mv)
  rw [List.length_map, show (Str.ofString " ").length = 1 by decide +kernel] at this
  unfold townS
  omega
/-! a town and a list, and what refuses it -/
structure Ask (Ex : Addr → Prop) (H : Hp) (t l : Addr) (hs gs : List Str) (xs : List V) (ds : List PyData) : Prop where
  town : TownAt H t hs gs
  ok : ∀ h ∈ hs, PyData.strOk h = true
  lst : H l = some (.lst xs)
  thing : Thing Ex H xs ds
  len : ds.length ≤ 1000
  h6 : hs.length ≤ 6
  nd : hs.Nodup
def Refuse (CN CC : Addr) (H : Hp) (hs : List Str) (ds : List PyData) (E : XK) : Prop :=
  (∀ (i : Nat) (dv : PyData) (d : Addr) (H' : Hp), RowsD hs ds i → ds[i]? = some dv → ¬ IsRowD hs dv → Same H H' → H' d = some (.xd [("number", .int (i : Nat))]) → E (.ref CN) (some d) H') ∧
  ∀ (f s : Nat) (d : Addr) (H' : Hp), RowsD hs ds ds.length → FirstClash ds f s → Same H H' → H' d = some (.xd [("second", .int (s : Nat)), ("first", .int (f : Nat))]) → E (.ref CC) (some d) H'
/-! the rows' texts, one by one -/
theorem lc_rowS {J : It} {G : Hp → Prop} {xs : List V} {rs : List Row} (w : Walk J xs.length G (YAt xs)) {i : Nat} {te : TE} {σ : L2.St} {H1 : Hp} {D : Addr} {Qd : Hp → Prop} (nD : H1 D = none) (hG : ∀ H, Same H1 H → G H) (hr : Rws H1 xs rs) (len : xs.length ≤ 2000)
    (hte : ∀ a r H2 (Ke : V → Hp → Prop), r ∈ rs → RowAt H2 a r → (∀ H3, Same H2 H3 → Ke (.str (rowS r)) H3) → te ((wipe σ [i]).set i (some (.ref a))) H2 Ke)
    (hd : ∀ H', Same H1 H' → H' D = some (.lst ((rs.map rowS).map V.str)) → Qd H') :
    ∃ W : Nat → Nat → Hp → Prop, (∃ m, W 0 m (upd H1 D (.lst []))) ∧ ∀ k m H, W k m H →
      (J.stop k H ∧ Qd H) ∨ (J.go k H ∧ ∃ Nx : Hp → Prop, (∀ H', Nx H' → ∃ m', m' < m ∧ W (k + 1) m' H') ∧ ∀ x H', J.yld k H x H' → gName i x (wipe σ [i]) H' fun σ2 H2 => wipe σ2 [i] = wipe σ [i] ∧ tYes σ2 H2 fun b H3 =>
        if b = true then te σ2 H3 fun y H4 => ∃ acc, H4 D = some (.lst acc) ∧ acc.length < sizeLine ∧ Nx (upd H4 D (.lst (acc ++ [y]))) else Nx H3) := by
  refine lc_it w (g := gName i) (fun k H' => Same H1 H' ∧ H' D = some (.lst (((rs.take k).map rowS).map V.str))) ⟨same_upd nD, by rw [upd_same, List.take_zero]; rfl⟩ (fun k H' _ h => hG H' h.1) ?_ ?_
  · rintro k v G1 G2 hk ⟨g1, hD⟩ ⟨rfl, ev⟩
    have hkr : k < rs.length := by rw [← hr.1]; exact hk
    have er : rs[k]? = some rs[k] := List.getElem?_eq_getElem hkr
    generalize rs[k] = r at er
    obtain ⟨a, ea, ha⟩ := hr.2 k r er
    obtain rfl : V.ref a = v := Option.some.inj (ea.symm.trans ev)
    refine ⟨wipe_one σ i _, yes_if (hte a r G2 _ (List.mem_of_getElem? er) (g1 _ _ ha) fun H3 s3 => ⟨_, s3 _ _ hD, small_line (by rw [List.length_map, List.length_map, List.length_take]; omega), same_mut (g1.trans s3) nD, ?_⟩)⟩
    rw [upd_same, take_snoc er, List.map_append, List.map_append]
    rfl
  · rintro G1 ⟨g1, hD⟩
    rw [hr.1, List.take_length] at hD
    exact hd G1 g1 hD
/-! ### the law's texts -/
theorem app_empty (h : Str) : h ++ ("" : Str) = h := by
  have e : (Str.ofString "") = ⟨#[]⟩ := by decide +kernel
  rw [e]
  show Str.mk (h.cps ++ #[]) = h
  rw [Array.append_empty]
theorem ok_l_town_text (T : Txt K mg af fd) : FnOk P w K mg base CX0 1 (af 48) (fd 48) ["town"] sp_show_town := by
  refine T.F_l_town_text.ok sc_l_town_text (fun vs H Q E h => ?_) (fun cdv A outer s H vs Q E hr h => ?_)
  · obtain ⟨t, hs, gs, rfl, _⟩ := h
    rfl
  · obtain ⟨t, hs, gs, rfl, ⟨ta, tb, t1, t2, t3⟩, l6, hh, q⟩ := h
    refine ⟨_, (pss_one (ps_ret (pe_join pe_str (pe_lc (own := [("house", 1)]) (g := gName 1) (by rfl) sc_l_town_text.nd (pi_tup (pe_ix ix_tup (pv 0) pe_int (fun _ _ => rfl))) (blkOk_by (own := [("house", 1)]) (N := ["town", "house"]) (sc := defScope s_l_town_text) (by decide +kernel)) (fun _ _ _ _ _ => pg_name (i := 1) sc_l_town_text.nd rfl (Or.inl rfl)) (fun _ _ _ _ _ => pts_nil) (fun _ _ _ _ _ => (pe_op op_add_str (pv 1) (pe_ix (show IxR _ (rIxL K) from ix_list) (pe_lst (pa_cons pe_str (pa_cons pe_str pa_nil))) (pe_callTy call_int1 (by rfl) T.m_int (by decide +kernel) (pa_cons (pe_cmpR (show OpR _ _ (rIn K false) from op_in_seq) (pv 1) (pe_ix (show IxR _ (rIxT K) from ix_tup) (pv 0) pe_int (fun _ _ => rfl)) (by rfl)) pa_nil)) (fun _ _ => rfl)))))))), ?_⟩
    refine ⟨⟨_, rfl⟩, _, rfl, t, _, 0, _, rfl, rfl, SqT.of t1, rfl, ta, rfl, ⟨_, SqT.of t2⟩, fun D nD => ?_⟩
    refine lc_strs (walk_tup (K := K) (a := ta) (xs := hs.map V.str)) (fun v => houS gs (vS v)) nD (fun H' s => SqT.of (s _ _ t2)) (by rw [List.length_map]; omega) (fun v H2 Ke mv s2 hk => ?_) (fun H2 s2 hD => ?_)
    · obtain ⟨h, mh, rfl⟩ := List.mem_map.mp mv
      refine ⟨_, rfl, (by show 2 ≤ sizeLine; decide), fun l nl => ?_⟩
      have s3 : Same H2 (upd H2 l (.lst [.str "", .str "+"])) := same_upd nl
      have hl3 : (upd H2 l (.lst [.str "", .str "+"])) l = some (.lst [.str "", .str "+"]) := upd_same
      generalize upd H2 l (.lst [.str "", .str "+"]) = H3 at s3 hl3 ⊢
      have s23 := s2.trans s3
      refine ⟨_, rfl, _, rfl, t, _, 1, _, rfl, rfl, SqT.of (s23 _ _ t1), rfl, tb, _, rfl, .inr (SqT.of (s23 _ _ t3)), rfl, flat_strs gs, .inr ⟨_, rfl, ?_⟩⟩
      have hk : ∀ H3, Same H2 H3 → Ke (.str (if h ∈ gs then h ++ ("+" : Str) else h)) H3 := hk
      have l9 := hh h mh
      by_cases hm : h ∈ gs
      · rw [if_pos hm] at hk
        rw [show (if false = true then !inV (.str h) (gs.map V.str) else inV (.str h) (gs.map V.str)) = true from inV_strs.mpr hm]
        refine ⟨l, _, 1, _, rfl, rfl, SqL.of hl3, rfl, _, _, rfl, rfl, ?_, hk _ s3⟩
        rw [show (Str.ofString "+").length = 1 by decide +kernel]
        exact Nat.le_trans (show _ ≤ 10 by omega) (by decide)
      · rw [if_neg hm] at hk
        have e0 : inV (.str h) (gs.map V.str) = false := by
          cases e0 : inV (.str h) (gs.map V.str) with
          | false => rfl
          | true => exact absurd (inV_strs.mp e0) hm
        rw [show (if false = true then !inV (.str h) (gs.map V.str) else inV (.str h) (gs.map V.str)) = false from e0]
        refine ⟨l, _, 0, _, rfl, rfl, SqL.of hl3, rfl, _, _, rfl, rfl, ?_, ?_⟩
        · rw [show (Str.ofString "").length = 0 by decide +kernel]
          exact Nat.le_trans (show _ ≤ 10 by omega) (by decide)
        · rw [app_empty]
          exact hk _ s3
    · rw [show (((hs.map V.str).map fun v => houS gs (vS v)).map V.str) = (hs.map (houS gs)).map V.str by rw [List.map_map, List.map_map, List.map_map]; rfl] at hD
      refine ⟨_, D, hs.map (houS gs), rfl, rfl, .inl (SqL.of hD), ?_, q H2 s2⟩
      have h1 : ((hs.map (houS gs)).map (·.length)).sum ≤ (hs.map (houS gs)).length * 100 := sum_le fun x m => by
        obtain ⟨v, mv, rfl⟩ := List.mem_map.mp m
        exact houS_len (hh v mv)
      rw [List.length_map] at h1 ⊢
      have : (Str.ofString " ").length = 1 := by decide +kernel
      rw [this]
      omega
theorem ok_l_row_text (T : Txt K mg af fd) : FnOk P w K mg base CX0 1 (af 49) (fd 49) ["row"] sp_show_row := by
  refine T.F_l_row_text.ok sc_l_row_text (fun vs H Q E h => ?_) (fun cdv A outer s H vs Q E hr h => ?_)
  · obtain ⟨a, r, rfl, _⟩ := h
    rfl
  · obtain ⟨a, r, rfl, ha, hp, q⟩ := h
    refine ⟨_, (pss_one (ps_ret (pe_join pe_str (pe_lc (own := [("part", 1)]) (g := gName 1) (by rfl) sc_l_row_text.nd (pi_tup (pv 0)) (blkOk_by (own := [("part", 1)]) (N := ["row", "part"]) (sc := defScope s_l_row_text) (by decide +kernel)) (fun _ _ _ _ _ => pg_name (i := 1) sc_l_row_text.nd rfl (Or.inl rfl)) (fun _ _ _ _ _ => pts_nil) (fun _ _ _ _ _ => (pe_ifExp (pt_val (pe_callB (show CallR _ (.builtin "isinstance") (rIsi K) from call_isi) (by rfl) T.m_isinstance (by decide +kernel) (pa_cons (pv 1) (pa_cons (pe_bltn (v := .ty "str") (by rfl) T.m_str (by decide +kernel) rfl) pa_nil)))) (pv 1) (pe_callTy call_str_int (by rfl) T.m_str (by decide +kernel) (pa_cons (pv 1) pa_nil)))))))), ?_⟩
    have l7 : r.vals.length ≤ 7 := by cases r <;> exact Nat.le_of_ble_eq_true rfl
    refine ⟨⟨_, rfl⟩, _, rfl, a, rfl, ⟨_, SqT.of ha⟩, fun D nD => ?_⟩
    refine lc_strs (walk_tup (K := K) (a := a) (xs := r.vals)) vS nD (fun H' s => SqT.of (s _ _ ha)) (by omega) (fun v H2 Ke mv s2 hk => ?_) (fun H2 s2 hD => ?_)
    · rcases hp v mv with ⟨z, rfl, hz⟩ | ⟨i, rfl, hi⟩
      · have hd : Dq (fun _ => False) H2 (.str z) (.str z) := .str z
        refine ⟨_, rfl, _, _, _, _, _, rfl, .ty "str", hd.ty, isi_kit hd n_str, _, rfl, ?_⟩
        exact iteT ⟨_, rfl, hk _ (Same.refl _)⟩
      · have hd : Dq (fun _ => False) H2 (.int i) (.int i) := .int i
        refine ⟨_, rfl, _, _, _, _, _, rfl, .ty "str", hd.ty, isi_kit hd n_str, _, rfl, ?_⟩
        exact iteF ⟨_, rfl, i, rfl, (int_text hi).1, hk _ (Same.refl _)⟩
    · refine ⟨_, D, r.vals.map vS, rfl, rfl, .inl (SqL.of hD), ?_, q H2 s2⟩
      have h1 : ((r.vals.map vS).map (·.length)).sum ≤ (r.vals.map vS).length * 100 := sum_le fun x m => by
        obtain ⟨v, mv, rfl⟩ := List.mem_map.mp m
        exact prt_len (hp v mv)
      rw [List.length_map] at h1 ⊢
      have : (Str.ofString " ").length = 1 := by decide +kernel
      rw [this]
      omega
/-! ### from H to H': all that stood stands, tables of code objects may have grown -/
structure Sm (H H' : Hp) : Prop where
  keep : ∀ b o, H b = some o → (∀ ps, o ≠ .tbl ps) → H' b = some o
  tab : ∀ b ps, H b = some (.tbl ps) → ∃ ps', H' b = some (.tbl ps') ∧ (TriplesOk ps.toList → TriplesOk ps'.toList)
theorem Sm.refl (H : Hp) : Sm H H := ⟨fun _ _ e _ => e, fun _ ps e => ⟨ps, e, id⟩⟩
theorem Sm.trans {H H1 H2 : Hp} (a : Sm H H1) (b : Sm H1 H2) : Sm H H2 := ⟨fun x o e n => b.keep x o (a.keep x o e n) n, fun x ps e => by
  obtain ⟨p1, e1, t1⟩ := a.tab x ps e
  obtain ⟨p2, e2, t2⟩ := b.tab x p1 e1
  exact ⟨p2, e2, fun t => t2 (t1 t)⟩⟩
theorem Sm.of {H H' : Hp} (s : Same H H') : Sm H H' := ⟨fun b o e _ => s b o e, fun b ps e => ⟨ps, s b _ e, id⟩⟩
theorem Sm.tabbed {P : Addr} {H H' : Hp} (h : GxR.TabG H P) (t : GxR.Tabbed P H H') : Sm H H' := by
  obtain ⟨ps0, e0, t0⟩ := h
  obtain ⟨⟨ps1, e1, t1⟩, rest⟩ := t
  refine ⟨fun b o e n => ?_, fun b ps e => ?_⟩
  · by_cases hb : b = P
    · subst hb
      exact absurd (Option.some.inj (e.symm.trans e0)) (n ps0)
    · rw [rest b hb]
      exact e
  · by_cases hb : b = P
    · subst hb
      exact ⟨ps1, e1, fun _ => t1⟩
    · exact ⟨ps, by rw [rest b hb]; exact e, id⟩
theorem Sm.free {H H' : Hp} (s : Sm H H') {b : Addr} (h : H' b = none) : H b = none := by
  cases e : H b with
  | none => rfl
  | some o =>
    by_cases n : ∃ ps, o = .tbl ps
    · obtain ⟨ps, rfl⟩ := n
      obtain ⟨p1, e1, _⟩ := s.tab b ps e
      rw [h] at e1
      cases e1
    · rw [s.keep b o e fun ps z => n ⟨ps, z⟩] at h
      cases h
theorem Sm.mut {H H1 : Hp} {p : Addr} {o : HO} (s : Sm H H1) (h : H p = none) : Sm H (upd H1 p o) :=
  ⟨fun b x e n => by rw [upd_ne (ne_of_none e h)]; exact s.keep b x e n, fun b ps e => by rw [upd_ne (ne_of_none e h)]; exact s.tab b ps e⟩
theorem Sm.tup {H H' : Hp} (s : Sm H H') {b : Addr} {xs : List V} (e : H b = some (.tup xs)) : H' b = some (.tup xs) := s.keep b _ e (fun _ z => nomatch z)
theorem Sm.lst {H H' : Hp} (s : Sm H H') {b : Addr} {xs : List V} (e : H b = some (.lst xs)) : H' b = some (.lst xs) := s.keep b _ e (fun _ z => nomatch z)
theorem Sm.dK {H H' : Hp} (s : Sm H H') {b : Addr} {kvs : List (Key × V)} (e : H b = some (.dK kvs)) : H' b = some (.dK kvs) := s.keep b _ e (fun _ z => nomatch z)
theorem Sm.dT {H H' : Hp} (s : Sm H H') {b : Addr} {kvs : List (List Key × V)} (e : H b = some (.dT kvs)) : H' b = some (.dT kvs) := s.keep b _ e (fun _ z => nomatch z)
theorem Sm.ins {H H' : Hp} (s : Sm H H') {b C dx : Addr} {fs : List (Str × V)} (e : H b = some (.ins C dx fs)) : H' b = some (.ins C dx fs) := s.keep b _ e (fun _ z => nomatch z)
theorem Dq.sm {Ex : Addr → Prop} {H H' : Hp} {v : V} {d : PyData} (h : Dq Ex H v d) (s : Sm H H') : Dq Ex H' v d := h.go (fun _ a b => absurd a b) (fun _ _ _ e => s.lst e) (fun _ _ e => s.tup e)
theorem Dqs.sm {Ex : Addr → Prop} {H H' : Hp} {v : List V} {d : List PyData} (h : Dqs Ex H v d) (s : Sm H H') : Dqs Ex H' v d := h.go (fun _ a b => absurd a b) (fun _ _ _ e => s.lst e) (fun _ _ e => s.tup e)
theorem TownAt.sm {t : Addr} {H H' : Hp} {hs gs : List Str} (h : TownAt H t hs gs) (s : Sm H H') : TownAt H' t hs gs := by
  obtain ⟨a, b, h1, h2, h3⟩ := h
  exact ⟨a, b, s.tup h1, s.tup h2, s.tup h3⟩
theorem Pen.smm {p c : Addr} {H H' : Hp} (h : Pen H p c) (s : Sm H H') : Pen H' p c := by
  obtain ⟨cs, n, st, h1, h2, h3, h4⟩ := h
  exact ⟨cs, n, st, s.lst h1, s.lst h2, h3, h4⟩
/-! the tables of the defs that hold generator expressions -/
def Tbs (af : Nat → Addr) (H : Hp) : Prop := ∀ i ∈ tabIx, GxR.TabG H (af i)
theorem Tbs.sm {af : Nat → Addr} {H H' : Hp} (t : Tbs af H) (s : Sm H H') : Tbs af H' := fun i hi => by
  obtain ⟨ps, e, tr⟩ := t i hi
  obtain ⟨p1, e1, t1⟩ := s.tab _ ps e
  exact ⟨p1, e1, t1 tr⟩
theorem Tbs.same {af : Nat → Addr} {H H' : Hp} (t : Tbs af H) (s : Same H H') : Tbs af H' := t.sm (.of s)
theorem Tbs.stp {af : Nat → Addr} {p c : Addr} {H H' : Hp} (t : Tbs af H) (s : Stp p c H H') (hP : Pen H p c) : Tbs af H' := fun i hi => by
  obtain ⟨ps, e, tr⟩ := t i hi
  obtain ⟨_, _, _, h1, _⟩ := hP
  exact ⟨ps, s.2 _ _ (ne_of e h1 (fun z => nomatch z)) e, tr⟩
/-! ### towns, of anything -/
def rInSg : R2 := fun x y H Q => ∃ (c : Nat) (z : Str), x = .str ⟨#[c]⟩ ∧ y = .str z ∧ Q (.bl (decide (c ∈ z.cps.toList))) H
def rLtSs : R2 := fun x y H Q => ∃ i j, x = .str i ∧ y = .str j ∧ Q (.bl (decide (i.cps.toList < j.cps.toList))) H
mutual
def bndD : PyData → Prop
  | .str x => x.length ≤ 1000000
  | .list xs => xs.length ≤ 1000000 ∧ bndDs xs
  | .tuple xs => xs.length ≤ 1000000 ∧ bndDs xs
  | _ => True
def bndDs : List PyData → Prop
  | [] => True
  | x :: xs => bndD x ∧ bndDs xs
end
theorem bndDs_mem : ∀ {ds : List PyData} {d : PyData}, bndDs ds → d ∈ ds → bndD d
  | x :: xs, d, h, m => by
    rcases List.mem_cons.mp m with rfl | m
    · exact h.1
    · exact bndDs_mem h.2 m
theorem letters_in {c : Nat} : c ∈ (Str.ofString "abcdefghijklmnopqrstuvwxyz").cps.toList ↔ 97 ≤ c ∧ c ≤ 122 := by
  have e : (Str.ofString "abcdefghijklmnopqrstuvwxyz").cps.toList = (List.range 26).map (· + 97) := by decide +kernel
  rw [e, List.mem_map]
  constructor
  · rintro ⟨i, hi, rfl⟩
    have := List.mem_range.mp hi
    omega
  · rintro ⟨h1, h2⟩
    exact ⟨c - 97, List.mem_range.mpr (by omega), by omega⟩
def HouseD (d : PyData) : Prop := ∃ x, d = .str x ∧ HouseS x
def sp_is_house (af : Nat → Addr) : Sp := fun vs H Q _ => ∃ (Ex : Addr → Prop) (v : V) (d : PyData), vs = [v] ∧ Dq Ex H v d ∧ bndD d ∧ Tbs af H ∧ ∀ (r : Bool) (H' : Hp), Sm H H' → (r = true ↔ HouseD d) → Q (.bl r) H'
theorem str_len (x : Str) : x.length = x.cps.toList.length := by simp [Str.length]
theorem ok_is_house (T : Txt K mg af fd) (B : TxtB base mg af) : FnOk P w K mg base CX0 2 (af 4) (fd 4) ["thing"] (sp_is_house af) := by
  refine Gx.okC T.F_is_house T.d_is_house sc_is_house (fun vs H Q E h => ?_) (fun A outer s H vs Q E hr h => ?_)
  · obtain ⟨Ex, v, d, rfl, _⟩ := h
    rfl
  · obtain ⟨Ex, v, d, rfl, hd, hb, ht, q⟩ := h
    refine ⟨_, (pss_cons (ps_if (PW.pt (pw_or (pt_not (pt_val (pe_callB call_isi (by rfl) T.m_isinstance (by decide +kernel) (pa_cons (pv 0) (pa_cons (pe_bltn (v := .ty "str") (by rfl) T.m_str (by decide +kernel) rfl) pa_nil))))) (pw_or1 (pt_not (pt_chain op_le op_le pe_int (pe_callB call_len_str (by rfl) T.m_len (by decide +kernel) (pa_cons (pv 0) pa_nil)) (pe_glob (v := .int (8)) rfl T.c_MOST_LETTERS.choose_spec ⟨_, rfl⟩)))))) (pss_one (ps_ret pe_bl)) pss_nil)
        (pss_one (ps_ret (Gx.pe_all (k := 0) (own := [("sign", 1)]) (gt := gName 1) (hr.mono (by first | decide | omega)) (by rfl) T.m_all B.t_is_house rfl sc_is_house.nd (pi_str (pv 0)) (blkOk_by (own := [("sign", 1)]) (N := ["thing", "sign"]) (sc := defScope s_is_house) (by decide +kernel)) (fun _ _ _ _ _ _ _ hr => pg_name (i := 1) sc_is_house.nd rfl (Or.inl rfl)) (fun _ _ _ _ _ _ _ hr => (pe_cmpR (show OpR _ _ rInSg from op_in_sign) (pv 1) (pe_glob (v := .str "abcdefghijklmnopqrstuvwxyz") rfl T.c_LETTERS.choose_spec ⟨_, rfl⟩) (by rfl))))))), ?_⟩
    refine ⟨_, rfl, _, _, _, _, _, rfl, .ty "str", hd.ty, isi_kit hd n_str, _, rfl, ?_⟩
    cases e1 : isB d "str" with
    | false =>
      refine iteT (iteT ?_)
      refine q false H (.refl H) (ff fun ⟨x, e, _⟩ => ?_)
      subst e
      exact absurd e1 (by simp [isB])
    | true =>
      refine iteF ?_
      obtain ⟨x, rfl⟩ : ∃ x, d = .str x := by
        cases d <;> first | exact ⟨_, rfl⟩ | exact absurd e1 (by simp [isB])
      cases hd
      have hx : x.length ≤ 1000000 := hb
      have hxl : x.length ≤ sizeLine := Nat.le_trans hx (by decide)
      have el := str_len x
      refine ⟨_, rfl, _, rfl, hxl, _, _, rfl, rfl, _, rfl, ite2 (fun z => ?_) (fun z => ?_)⟩
      · have z1 := of_decide_eq_true z
        refine ⟨_, _, rfl, rfl, _, rfl, ?_⟩
        cases e2 : decide ((x.length : Int) ≤ 8) with
        | false =>
          refine iteT ?_
          have := of_decide_eq_false e2
          refine q false H (.refl H) (ff fun ⟨y, e, h1, h2, h3⟩ => ?_)
          obtain rfl := PyData.str.inj e
          omega
        | true =>
          have := of_decide_eq_true e2
          refine iteF ⟨_, rfl, x, rfl, ht _ (by decide), fun H2 tb => ?_⟩
          have s2 := Sm.tabbed (ht _ (by decide)) tb
          refine Gx.gx_it walk_str (fun i H' => H' = H2 ∧ ∀ c ∈ x.cps.toList.take i, 97 ≤ c ∧ c ≤ 122) ⟨rfl, fun c m => by rw [List.take_zero] at m; exact nomatch m⟩ (fun _ _ _ _ => trivial) ?_ ?_
          · rintro i v H3 H4 hi ⟨rfl, hall⟩ ⟨rfl, c, hc, rfl⟩
            have hc' : x.cps.toList[i]? = some c := by rw [Array.getElem?_toList]; exact hc
            refine ⟨rfl, _, rfl, c, _, rfl, rfl, _, rfl, ?_⟩
            by_cases hm : 97 ≤ c ∧ c ≤ 122
            · rw [decide_eq_true (letters_in.mpr hm), if_neg (by decide)]
              refine ⟨rfl, fun c2 m => ?_⟩
              rw [List.take_add_one, hc'] at m
              rcases List.mem_append.mp m with m | m
              · exact hall c2 m
              · have m : c2 ∈ [c] := m
                rw [List.mem_singleton.mp m]
                exact hm
            · rw [decide_eq_false (fun z => hm (letters_in.mp z)), if_pos rfl]
              refine q false _ s2 (ff fun ⟨y, e, h1, h2, h3⟩ => hm ?_)
              obtain rfl := PyData.str.inj e
              exact h3 c (List.mem_of_getElem? hc')
          · rintro H3 ⟨rfl, hall⟩
            have e5 : x.cps.size = x.cps.toList.length := by simp
            rw [e5, List.take_length] at hall
            refine q true _ s2 ⟨fun _ => ⟨x, rfl, by omega, by omega, hall⟩, fun _ => rfl⟩
      · have z1 : ¬ ((1 : Int) ≤ x.length) := fun z2 => z (decide_eq_true z2)
        refine ⟨false, rfl, iteT ?_⟩
        refine q false H (.refl H) (ff fun ⟨y, e, h1, h2, h3⟩ => ?_)
        obtain rfl := PyData.str.inj e
        omega
def RisS (xs : List Str) : Prop := ∀ (i : Nat) (x y : Str), xs[i]? = some x → xs[i + 1]? = some y → x.cps.toList < y.cps.toList
def sp_is_risingS (af : Nat → Addr) : Sp := fun vs H Q _ => ∃ (a : Addr) (xs : List Str), vs = [.ref a] ∧ H a = some (.tup (xs.map V.str)) ∧ xs.length ≤ 1000000 ∧ Tbs af H ∧ ∀ (r : Bool) (H' : Hp), Sm H H' → (r = true ↔ RisS xs) → Q (.bl r) H'
theorem ok_is_rising (T : Txt K mg af fd) (B : TxtB base mg af) : FnOk P w K mg base CX0 2 (af 5) (fd 5) ["things"] (sp_is_risingS af) := by
  refine Gx.okC T.F_is_rising T.d_is_rising sc_is_rising (fun vs H Q E h => ?_) (fun A outer s H vs Q E hr h => ?_)
  · obtain ⟨a, xs, rfl, _⟩ := h
    rfl
  · obtain ⟨a, xs, rfl, ha, hl, ht, q⟩ := h
    refine ⟨_, (pss_one (ps_ret (Gx.pe_all (k := 0) (own := [("at", 1)]) (gt := gName 1) (hr.mono (by first | decide | omega)) (by rfl) T.m_all B.t_is_rising rfl sc_is_rising.nd (pi_range1 (by rfl) T.m_range (pa_cons (pe_op op_sub (pe_callB call_len_seq (by rfl) T.m_len (by decide +kernel) (pa_cons (pv 0) pa_nil)) pe_int) pa_nil)) (blkOk_by (own := [("at", 1)]) (N := ["things", "at"]) (sc := defScope s_is_rising) (by decide +kernel)) (fun _ _ _ _ _ _ _ hr => pg_name (i := 1) sc_is_rising.nd rfl (Or.inl rfl)) (fun _ _ _ _ _ _ _ hr => (pe_cmpR (show OpR _ _ rLtSs from op_lt_str) (pe_ix (show IxR _ (rIxT K) from ix_tup) (pv 0) (pv 1) (fun _ _ => rfl)) (pe_ix (show IxR _ (rIxT K) from ix_tup) (pv 0) (pe_op op_add (pv 1) pe_int) (fun _ _ => rfl)) (nomark _)))))), ?_⟩
    refine ⟨_, rfl, a, _, rfl, .inr (SqT.of ha), _, _, rfl, rfl, _, rfl, ?_, ?_, ht _ (by decide), fun H2 tb => ?_⟩
    · rw [List.length_map]; omega
    · rw [List.length_map]; omega
    have s2 := Sm.tabbed (ht _ (by decide)) tb
    have en : (((xs.map V.str).length : Int) - 1).toNat = xs.length - 1 := by rw [List.length_map]; omega
    refine Gx.gx_it walk_range (fun i H' => H' = H2 ∧ ∀ (j : Nat) (x y : Str), j < i → xs[j]? = some x → xs[j + 1]? = some y → x.cps.toList < y.cps.toList) ⟨rfl, fun j _ _ h => absurd h (Nat.not_lt_zero j)⟩ (fun _ _ _ _ => trivial) ?_ ?_
    · rintro i v H3 H4 hi ⟨rfl, hall⟩ ⟨rfl, rfl⟩
      rw [en] at hi
      have e1 : xs[i]? = some xs[i] := List.getElem?_eq_getElem (by omega)
      have e2 : xs[i + 1]? = some xs[i + 1] := List.getElem?_eq_getElem (by omega)
      generalize xs[i] = x at e1
      generalize xs[i + 1] = y at e2
      have ha2 := s2.tup ha
      refine ⟨rfl, _, rfl, _, rfl, a, _, _, .str x, rfl, rfl, SqT.of ha2, at_any (j := i) (by omega) (by rw [List.getElem?_map, e1]; rfl), ?_⟩
      refine ⟨_, rfl, _, rfl, _, _, rfl, rfl, a, _, _, .str y, rfl, rfl, SqT.of ha2, at_any (j := i + 1) (by omega) (by rw [List.getElem?_map, e2]; rfl), x, y, rfl, rfl, _, rfl, ?_⟩
      by_cases hc : x.cps.toList < y.cps.toList
      · rw [decide_eq_true hc, if_neg (by decide)]
        refine ⟨rfl, fun j u v hj eu ev => ?_⟩
        by_cases ej : j = i
        · subst ej
          obtain rfl := Option.some.inj (e1.symm.trans eu)
          obtain rfl := Option.some.inj (e2.symm.trans ev)
          exact hc
        · exact hall j u v (by omega) eu ev
      · rw [decide_eq_false hc, if_pos rfl]
        exact q false _ s2 (ff fun h => hc (h i x y e1 e2))
    · rintro H3 ⟨rfl, hall⟩
      rw [en] at hall
      refine q true _ s2 ⟨fun _ i x y e1 e2 => hall i x y ?_ e1 e2, fun _ => rfl⟩
      have := (List.getElem?_eq_some_iff.mp e2).1
      omega
def RisHD (d : PyData) (xs : List Str) : Prop := d = .tuple (xs.map PyData.str) ∧ (∀ x ∈ xs, HouseS x) ∧ RisS xs
def sp_are_rising_houses (af : Nat → Addr) : Sp := fun vs H Q _ => ∃ (Ex : Addr → Prop) (v : V) (d : PyData), vs = [v] ∧ Dq Ex H v d ∧ bndD d ∧ Tbs af H ∧ ∀ (r : Bool) (H' : Hp), Sm H H' → (r = true ↔ ∃ xs, RisHD d xs) → Q (.bl r) H'
theorem strs_of : ∀ {ds : List PyData}, (∀ d ∈ ds, HouseD d) → ∃ xs : List Str, ds = xs.map PyData.str ∧ ∀ x ∈ xs, HouseS x
  | [], _ => ⟨[], rfl, fun _ m => nomatch m⟩
  | d :: ds, h => by
    obtain ⟨xs, rfl, hx⟩ := strs_of (ds := ds) fun e m => h e (List.mem_cons_of_mem _ m)
    obtain ⟨x, rfl, hh⟩ := h d List.mem_cons_self
    refine ⟨x :: xs, rfl, fun y m => ?_⟩
    rcases List.mem_cons.mp m with rfl | m
    · exact hh
    · exact hx y m
theorem dqs_strs {Ex : Addr → Prop} {H : Hp} : ∀ {xs : List Str} {vs : List V}, Dqs Ex H vs (xs.map PyData.str) → vs = xs.map V.str
  | [], _, .nil => rfl
  | x :: xs, _, .cons (.str _) r => by rw [dqs_strs r]; rfl
theorem strs_inj : ∀ {xs ys : List Str}, xs.map PyData.str = ys.map PyData.str → xs = ys
  | [], [], _ => rfl
  | x :: xs, y :: ys, h => by
    obtain ⟨h1, h2⟩ := List.cons.inj h
    rw [PyData.str.inj h1, strs_inj h2]
theorem ok_are_rising_houses (T : Txt K mg af fd) (B : TxtB base mg af) : FnOk P w K mg base CX0 4 (af 6) (fd 6) ["thing"] (sp_are_rising_houses af) := by
  refine Gx.okC T.F_are_rising_houses T.d_are_rising_houses sc_are_rising_houses (fun vs H Q E h => ?_) (fun A outer s H vs Q E hr h => ?_)
  · obtain ⟨Ex, v, d, rfl, _⟩ := h
    rfl
  · obtain ⟨Ex, v, d, rfl, hd, hb, ht, q⟩ := h
    refine ⟨_, (pss_cons (ps_if (PW.pt (pw_or (pt_not (pt_val (pe_callB call_isi (by rfl) T.m_isinstance (by decide +kernel) (pa_cons (pv 0) (pa_cons (pe_bltn (v := .ty "tuple") (by rfl) T.m_tuple (by decide +kernel) rfl) pa_nil))))) (pw_or1 (pt_not (pt_val (Gx.pe_all (k := 2) (own := [("house", 1)]) (gt := gName 1) (hr.mono (by first | decide | omega)) (by rfl) T.m_all B.t_are_rising_houses rfl sc_are_rising_houses.nd (pi_tup (pv 0)) (blkOk_by (own := [("house", 1)]) (N := ["thing", "house"]) (sc := defScope s_are_rising_houses) (by decide +kernel)) (fun _ _ _ _ _ _ _ hr => pg_name (i := 1) sc_are_rising_houses.nd rfl (Or.inl rfl)) (fun _ _ _ _ _ _ _ hr => (pe_call (ok_is_house T B) (hr.mono (by first | decide | omega)) (by rfl) T.g_is_house T.F_is_house.kp T.b_is_house .nil pass0 (pa_cons (pv 1) pa_nil))))))))) (pss_one (ps_ret pe_bl)) pss_nil)
        (pss_one (ps_ret (pe_call (ok_is_rising T B) (hr.mono (by first | decide | omega)) (by rfl) T.g_is_rising T.F_is_rising.kp T.b_is_rising .nil pass0 (pa_cons (pv 0) pa_nil))))), ?_⟩
    refine ⟨_, rfl, _, _, _, _, _, rfl, .ty "tuple", hd.ty, isi_kit hd n_tuple, _, rfl, ?_⟩
    cases e1 : isB d "tuple" with
    | false =>
      refine iteT (iteT ?_)
      refine q false H (.refl H) (ff fun ⟨x, e, _⟩ => ?_)
      subst e
      exact absurd e1 (by simp [isB])
    | true =>
      refine iteF ?_
      obtain ⟨ds, rfl⟩ : ∃ ds, d = .tuple ds := by
        cases d <;> first | exact ⟨_, rfl⟩ | exact absurd e1 (by simp [isB])
      cases hd with
      | @tup a xs _ ha hds =>
      have hlen := hds.len
      have hb2 : ds.length ≤ 1000000 ∧ bndDs ds := hb
      refine ⟨_, rfl, a, rfl, ⟨_, SqT.of ha⟩, ht _ (by decide), fun H2 tb => ?_⟩
      have s2 := Sm.tabbed (ht _ (by decide)) tb
      refine Gx.gx_it (walk_tup (xs := xs)) (fun i H' => Sm H H' ∧ ∀ (j : Nat) (d : PyData), j < i → ds[j]? = some d → HouseD d) ⟨s2, fun j _ h => absurd h (Nat.not_lt_zero j)⟩ (fun i H' _ h => SqT.of (h.1.tup ha)) ?_ ?_
      · rintro i v H3 H4 hi ⟨s3, hall⟩ ⟨rfl, hv⟩
        have e2 : ds[i]? = some ds[i] := List.getElem?_eq_getElem (by omega)
        generalize ds[i] = d at e2
        obtain ⟨v', hv', dv⟩ := hds.get e2
        obtain rfl := Option.some.inj (hv'.symm.trans hv)
        refine ⟨rfl, _, rfl, Ex, v', d, rfl, dv.sm s3, bndDs_mem hb2.2 (List.mem_of_getElem? e2), ht.sm s3, fun r H5 s5 hr5 => ⟨r, rfl, ?_⟩⟩
        cases r with
        | true =>
          rw [if_neg (by decide)]
          refine ⟨s3.trans s5, fun j d2 hj ed => ?_⟩
          by_cases ej : j = i
          · subst ej
            obtain rfl := Option.some.inj (e2.symm.trans ed)
            exact hr5.mp rfl
          · exact hall j d2 (by omega) ed
        | false =>
          rw [if_pos rfl]
          refine ⟨_, rfl, iteT (q false _ (s3.trans s5) (ff fun ⟨ys, e, hy, _⟩ => ?_))⟩
          obtain rfl := PyData.tuple.inj e
          rw [List.getElem?_map] at e2
          obtain ⟨y, ey, rfl⟩ := Option.map_eq_some_iff.mp e2
          exact Bool.noConfusion (hr5.mpr ⟨y, rfl, hy y (List.mem_of_getElem? ey)⟩)
      · rintro H3 ⟨s3, hall⟩
        refine ⟨_, rfl, iteF ?_⟩
        obtain ⟨ys, rfl, hy⟩ := strs_of (ds := ds) fun d m => by
          obtain ⟨j, hj⟩ := List.getElem?_of_mem m
          exact hall j d (by rw [hlen]; exact (List.getElem?_eq_some_iff.mp hj).1) hj
        obtain rfl := dqs_strs hds
        refine ⟨_, rfl, a, ys, rfl, s3.tup ha, by have := hb2.1; rw [List.length_map] at this; exact this, ht.sm s3, fun r H5 s5 hr5 => ?_⟩
        refine q r _ (s3.trans s5) (hr5.trans ⟨fun h => ⟨ys, rfl, hy, h⟩, fun ⟨zs, e, _, h⟩ => ?_⟩)
        rw [strs_inj (PyData.tuple.inj e)]
        exact h
/-! a town, of anything -/
def TownD (d : PyData) : Prop := ∃ hs gs, d = .tuple [.tuple (hs.map PyData.str), .tuple (gs.map PyData.str)] ∧ (∀ x ∈ hs, HouseS x) ∧ RisS hs ∧ (∀ x ∈ gs, HouseS x) ∧ RisS gs ∧ 1 ≤ hs.length ∧ hs.length ≤ 6 ∧ ∀ g ∈ gs, g ∈ hs
def sp_is_town (af : Nat → Addr) : Sp := fun vs H Q _ => ∃ (Ex : Addr → Prop) (v : V) (d : PyData), vs = [v] ∧ Dq Ex H v d ∧ bndD d ∧ Tbs af H ∧ ∀ (r : Bool) (H' : Hp), Sm H H' → (r = true ↔ TownD d) → Q (.bl r) H'
theorem ok_is_town (T : Txt K mg af fd) (B : TxtB base mg af) : FnOk P w K mg base CX0 5 (af 7) (fd 7) ["thing"] (sp_is_town af) := by
  refine Gx.okC T.F_is_town T.d_is_town sc_is_town (fun vs H Q E h => ?_) (fun A outer s H vs Q E hr h => ?_)
  · obtain ⟨Ex, v, d, rfl, _⟩ := h
    rfl
  · obtain ⟨Ex, v, d, rfl, hd, hb, ht, q⟩ := h
    refine ⟨_, (pss_cons (ps_if (PW.pt (pw_or (pt_not (pt_val (pe_callB call_isi (by rfl) T.m_isinstance (by decide +kernel) (pa_cons (pv 0) (pa_cons (pe_bltn (v := .ty "tuple") (by rfl) T.m_tuple (by decide +kernel) rfl) pa_nil))))) (pw_or1 (pt_cmpR op_ne (pe_callB call_len_seq (by rfl) T.m_len (by decide +kernel) (pa_cons (pv 0) pa_nil)) pe_int (nomark _))))) (pss_one (ps_ret pe_bl)) pss_nil)
        (pss_cons (ps_asg (pv 0) (pg_tup rfl (pgs_cons (pg_name (i := 1) sc_is_town.nd rfl (by first | exact Or.inl rfl | exact Or.inr rfl)) (pgs_cons (pg_name (i := 2) sc_is_town.nd rfl (by first | exact Or.inl rfl | exact Or.inr rfl)) pgs_nil))))
        (pss_cons (ps_if (PW.pt (pw_or (pt_not (pt_val (pe_call (ok_are_rising_houses T B) (hr.mono (by first | decide | omega)) (by rfl) T.g_are_rising_houses T.F_are_rising_houses.kp T.b_are_rising_houses .nil pass0 (pa_cons (pv 1) pa_nil)))) (pw_or1 (pt_not (pt_val (pe_call (ok_are_rising_houses T B) (hr.mono (by first | decide | omega)) (by rfl) T.g_are_rising_houses T.F_are_rising_houses.kp T.b_are_rising_houses .nil pass0 (pa_cons (pv 2) pa_nil))))))) (pss_one (ps_ret pe_bl)) pss_nil)
        (pss_one (ps_ret (pe_and (pe_chain op_le op_le pe_int (pe_callB call_len_seq (by rfl) T.m_len (by decide +kernel) (pa_cons (pv 1) pa_nil)) (pe_glob (v := .int (6)) rfl T.c_MOST_HOUSES.choose_spec ⟨_, rfl⟩)) (pe_one (Gx.pe_all (k := 3) (own := [("gate", 3)]) (gt := gName 3) (hr.mono (by first | decide | omega)) (by rfl) T.m_all B.t_is_town rfl sc_is_town.nd (pi_tup (pv 2)) (blkOk_by (own := [("gate", 3)]) (N := ["thing", "houses", "gates", "gate"]) (sc := defScope s_is_town) (by decide +kernel)) (fun _ _ _ _ _ _ _ hr => pg_name (i := 3) sc_is_town.nd rfl (Or.inl rfl)) (fun _ _ _ _ _ _ _ hr => (pe_cmpR (show OpR _ _ (rIn K false) from op_in_seq) (pv 3) (pv 1) (by rfl))))))))))), ?_⟩
    refine ⟨_, rfl, _, _, _, _, _, rfl, .ty "tuple", hd.ty, isi_kit hd n_tuple, _, rfl, ?_⟩
    cases e1 : isB d "tuple" with
    | false =>
      refine iteT (iteT ?_)
      refine q false H (.refl H) (ff fun ⟨x, y, e, _⟩ => ?_)
      subst e
      exact absurd e1 (by simp [isB])
    | true =>
      refine iteF ?_
      obtain ⟨ds, rfl⟩ : ∃ ds, d = .tuple ds := by
        cases d <;> first | exact ⟨_, rfl⟩ | exact absurd e1 (by simp [isB])
      cases hd with
      | @tup a xs _ ha hds =>
      have hlen := hds.len
      have hb2 : ds.length ≤ 1000000 ∧ bndDs ds := hb
      refine ⟨_, rfl, a, _, rfl, .inr (SqT.of ha), rfl, _, rfl, ite2 (fun z => ?_) (fun z => ?_)⟩
      · refine q false H (.refl H) (ff fun ⟨hs, gs, e, _⟩ => len_ne' (m := 2) z ?_)
        rw [hlen, PyData.tuple.inj e]
        rfl
      have hl := len_ne (m := 2) z
      match xs, ds, hds, hl with
      | [v0, v1], [d0, d1], .cons q0 (.cons q1 .nil), _ =>
        refine ⟨_, rfl, a, _, rfl, SqT.of ha, rfl, _, _, rfl, _, _, rfl, rfl, ?_⟩
        refine ⟨_, rfl, Ex, v0, d0, rfl, q0, hb2.2.1, ht, fun r1 H1 s1 h1 => ⟨r1, rfl, ?_⟩⟩
        cases r1 with
        | false =>
          refine iteT (iteT (q false _ s1 (ff fun ⟨hs, gs, e, e3, e4, _⟩ => ?_)))
          obtain ⟨rfl, _⟩ := List.cons.inj (PyData.tuple.inj e)
          exact Bool.noConfusion (h1.mpr ⟨hs, rfl, e3, e4⟩)
        | true =>
          obtain ⟨hs, rfl, hh, hris⟩ := h1.mp rfl
          refine iteF ⟨_, rfl, Ex, v1, d1, rfl, q1.sm s1, hb2.2.2.1, ht.sm s1, fun r2 H2 s2 h2 => ⟨r2, rfl, ?_⟩⟩
          have s12 := s1.trans s2
          cases r2 with
          | false =>
            refine iteT (q false _ s12 (ff fun ⟨hs', gs, e, _, _, e5, e6, _⟩ => ?_))
            obtain ⟨_, e7⟩ := List.cons.inj (PyData.tuple.inj e)
            obtain ⟨rfl, _⟩ := List.cons.inj e7
            exact Bool.noConfusion (h2.mpr ⟨gs, rfl, e5, e6⟩)
          | true =>
            obtain ⟨gs, rfl, hg, gris⟩ := h2.mp rfl
            cases q0 with
            | @tup ta ys _ h3 r3 =>
            obtain rfl := dqs_strs r3
            cases q1 with
            | @tup tb zs _ h4 r4 =>
            obtain rfl := dqs_strs r4
            have k3 := s12.tup h3
            have k4 := s12.tup h4
            have eT : TownD (.tuple [.tuple (hs.map PyData.str), .tuple (gs.map PyData.str)]) ↔ (1 ≤ hs.length ∧ hs.length ≤ 6 ∧ ∀ g ∈ gs, g ∈ hs) := by
              constructor
              · rintro ⟨hs', gs', e, _, _, _, _, h⟩
                obtain ⟨e8, e7⟩ := List.cons.inj (PyData.tuple.inj e)
                obtain ⟨e9, _⟩ := List.cons.inj e7
                rw [strs_inj (PyData.tuple.inj e8), strs_inj (PyData.tuple.inj e9)]
                exact h
              · exact fun h => ⟨hs, gs, rfl, hh, hris, hg, gris, h⟩
            refine iteF ⟨_, rfl, ta, _, rfl, .inr (SqT.of k3), _, _, rfl, rfl, _, rfl, ite2 (fun z1 => ?_) (fun z1 => ?_)⟩
            · have z1 := of_decide_eq_true z1
              rw [List.length_map] at z1
              refine ⟨_, _, rfl, rfl, _, rfl, ?_⟩
              cases e5 : decide (((hs.map V.str).length : Int) ≤ 6) with
              | false =>
                have := of_decide_eq_false e5
                rw [List.length_map] at this
                refine iteF (q false _ s12 (ff fun h => ?_))
                have := (eT.mp h).2.1
                omega
              | true =>
                have e6 := of_decide_eq_true e5
                rw [List.length_map] at e6
                refine iteT ⟨_, rfl, tb, rfl, ⟨_, SqT.of k4⟩, (ht.sm s12) _ (by decide), fun H3 tbd => ?_⟩
                have s3 := s12.trans (Sm.tabbed ((ht.sm s12) _ (by decide)) tbd)
                refine Gx.gx_it (walk_tup (xs := gs.map V.str)) (fun i H' => H' = H3 ∧ ∀ g ∈ gs.take i, g ∈ hs) ⟨rfl, fun g m => by rw [List.take_zero] at m; exact nomatch m⟩ (fun i H' _ h => by rw [h.1]; exact SqT.of (s3.tup h4)) ?_ ?_
                · rintro i v H4 H5 hi ⟨rfl, hall⟩ ⟨rfl, hv⟩
                  rw [List.length_map] at hi
                  have eg : gs[i]? = some gs[i] := List.getElem?_eq_getElem hi
                  generalize gs[i] = g at eg
                  rw [List.getElem?_map, eg] at hv
                  obtain rfl : V.str g = v := Option.some.inj hv
                  refine ⟨rfl, _, rfl, _, rfl, ta, _, rfl, .inr (SqT.of (s3.tup h3)), rfl, flat_strs hs, _, rfl, ?_⟩
                  by_cases hm : g ∈ hs
                  · rw [show (if false = true then !inV (.str g) (hs.map V.str) else inV (.str g) (hs.map V.str)) = true from inV_strs.mpr hm, if_neg (by decide)]
                    refine ⟨rfl, fun g2 m => ?_⟩
                    rw [List.take_add_one, eg] at m
                    rcases List.mem_append.mp m with m | m
                    · exact hall g2 m
                    · have m : g2 ∈ [g] := m
                      rw [List.mem_singleton.mp m]
                      exact hm
                  · have e0 : inV (.str g) (hs.map V.str) = false := by
                      cases e0 : inV (.str g) (hs.map V.str) with
                      | false => rfl
                      | true => exact absurd (inV_strs.mp e0) hm
                    rw [show (if false = true then !inV (.str g) (hs.map V.str) else inV (.str g) (hs.map V.str)) = false from e0, if_pos rfl]
                    exact q false _ s3 (ff fun h => hm ((eT.mp h).2.2 g (List.mem_of_getElem? eg)))
                · rintro H4 ⟨rfl, hall⟩
                  rw [List.length_map, List.take_length] at hall
                  exact q true _ s3 ⟨fun _ => eT.mpr ⟨by omega, by omega, hall⟩, fun _ => rfl⟩
            · have z1 : ¬ ((1 : Int) ≤ (hs.map V.str).length) := fun z2 => z1 (decide_eq_true z2)
              rw [List.length_map] at z1
              refine ⟨false, rfl, iteF (q false _ s12 (ff fun h => ?_))⟩
              have := (eT.mp h).1
              omega
/-! ### words, read -/
def figsOf (x : Str) : Str := Txt.removeprefix x "-"
def DigS (z : Str) : Prop := ∀ c ∈ z.cps.toList, 48 ≤ c ∧ c ≤ 57
def NumS (x : Str) : Prop := 1 ≤ (figsOf x).length ∧ (figsOf x).length ≤ 13 ∧ DigS (figsOf x) ∧ (Txt.startswith (figsOf x) "0" = true → x = "0")
theorem figs_in {c : Nat} : c ∈ (Str.ofString "0123456789").cps.toList ↔ 48 ≤ c ∧ c ≤ 57 := by
  have e : (Str.ofString "0123456789").cps.toList = (List.range 10).map (· + 48) := by decide +kernel
  rw [e, List.mem_map]
  constructor
  · rintro ⟨i, hi, rfl⟩
    have := List.mem_range.mp hi
    omega
  · rintro ⟨h1, h2⟩
    exact ⟨c - 48, List.mem_range.mpr (by omega), by omega⟩
theorem dash_sg : (Str.ofString "-") = Tt.sg 45 := rfl
theorem num_some {x : Str} (h : NumS x) : ∃ n, PySem.intText? x = some n ∧ x.length ≤ 14 := by
  obtain ⟨h1, h2, h3, _⟩ := h
  have l := Tt.len_list x
  have lf := Tt.len_list (figsOf x)
  by_cases d : ∃ cs, x.cps.toList = 45 :: cs
  · obtain ⟨cs, e⟩ := d
    have ef : (figsOf x).cps.toList = cs := Tt.rp_yes (c := 45) e
    rw [ef] at lf
    have lx : x.length = cs.length + 1 := by rw [l, e]; rfl
    refine ⟨_, PySem.intText_neg e (fun c m => h3 c (by rw [ef]; exact m)) (fun z => by rw [z] at lf; rw [lf] at h1; cases h1) (by omega), by omega⟩
  · have ef : figsOf x = x := Tt.rp_no (c := 45) fun cs e => d ⟨cs, e⟩
    rw [ef] at h1 h2 h3
    refine ⟨_, PySem.intText_digits h3 (fun z => by rw [l, z] at h1; cases h1) (by omega), by omega⟩
def numV (x : Str) (v : V) : Prop := (NumS x ∧ ∃ n, PySem.intText? x = some n ∧ v = .int n) ∨ (¬ NumS x ∧ v = .non)
def sp_read_number (af : Nat → Addr) : Sp := fun vs H Q _ => ∃ x : Str, vs = [.str x] ∧ x.length ≤ sizeLine ∧ Tbs af H ∧ ∀ (v : V) (H' : Hp), Sm H H' → numV x v → Q v H'
theorem ok_read_number (T : Txt K mg af fd) (B : TxtB base mg af) : FnOk P w K mg base CX0 2 (af 22) (fd 22) ["word"] (sp_read_number af) := by
  refine Gx.okC T.F_read_number T.d_read_number sc_read_number (fun vs H Q E h => ?_) (fun A outer s H vs Q E hr h => ?_)
  · obtain ⟨x, rfl, _⟩ := h
    rfl
  · obtain ⟨x, rfl, hx, ht, q⟩ := h
    refine ⟨_, (pss_cons (ps_set (i := 1) sc_read_number.nd rfl (by first | exact Or.inl rfl | exact Or.inr rfl) (pe_bm PySem.F.plainAttrs_str PySem.F.slot_str_removeprefix PySem.F.type_str_removeprefix mt_removeprefix (pv 0) (pa_cons pe_str pa_nil)))
        (pss_cons (ps_if (PW.pt (pw_or (pt_not (pt_chain op_le op_le pe_int (pe_callB call_len_str (by rfl) T.m_len (by decide +kernel) (pa_cons (pv 1) pa_nil)) (pe_glob (v := .int (13)) rfl T.c_MOST_FIGURES.choose_spec ⟨_, rfl⟩))) (pw_or1 (pt_not (pt_val (Gx.pe_all (k := 0) (own := [("sign", 2)]) (gt := gName 2) (hr.mono (by first | decide | omega)) (by rfl) T.m_all B.t_read_number rfl sc_read_number.nd (pi_str (pv 1)) (blkOk_by (own := [("sign", 2)]) (N := ["word", "figures", "sign"]) (sc := defScope s_read_number) (by decide +kernel)) (fun _ _ _ _ _ _ _ hr => pg_name (i := 2) sc_read_number.nd rfl (Or.inl rfl)) (fun _ _ _ _ _ _ _ hr => (pe_cmpR (show OpR _ _ rInSg from op_in_sign) (pv 2) (pe_glob (v := .str "0123456789") rfl T.c_FIGURES.choose_spec ⟨_, rfl⟩) (by rfl))))))))) (pss_one (ps_ret pe_non)) pss_nil)
        (pss_cons (ps_if (PW.pt (pw_and (pt_val (pe_bm PySem.F.plainAttrs_str PySem.F.slot_str_startswith PySem.F.type_str_startswith mt_startswith (pv 1) (pa_cons pe_str pa_nil))) (pw_and1 (pt_cmpR op_ne (pv 0) pe_str (nomark _))))) (pss_one (ps_ret pe_non)) pss_nil)
        (pss_one (ps_ret (pe_callTy call_int_str (by rfl) T.m_int (by decide +kernel) (pa_cons (pv 0) pa_nil))))))), ?_⟩
    have ef : Txt.removeprefix x "-" = figsOf x := rfl
    have lf : (figsOf x).length ≤ sizeLine := by
      by_cases d : ∃ cs, x.cps.toList = 45 :: cs
      · obtain ⟨cs, e⟩ := d
        have e2 : (figsOf x).cps.toList = cs := Tt.rp_yes (c := 45) e
        have l := Tt.len_list x
        rw [Tt.len_list, e2]
        rw [e, List.length_cons] at l
        omega
      · rw [show figsOf x = x from Tt.rp_no (c := 45) fun cs e => d ⟨cs, e⟩]
        exact hx
    refine ⟨_, rfl, rfl, x, _, rfl, rfl, hx, ?_⟩
    rw [ef]
    refine ⟨_, rfl, _, rfl, lf, _, _, rfl, rfl, _, rfl, ite2 (fun z => ?_) (fun z => ?_)⟩
    · have z1 := of_decide_eq_true z
      refine ⟨_, _, rfl, rfl, _, rfl, ?_⟩
      cases e2 : decide (((figsOf x).length : Int) ≤ 13) with
      | false =>
        have := of_decide_eq_false e2
        exact iteT (q _ _ (.refl H) (.inr ⟨fun n => by have := n.2.1; omega, rfl⟩))
      | true =>
        have z2 := of_decide_eq_true e2
        refine iteF ⟨_, rfl, figsOf x, rfl, ht _ (by decide), fun H2 tb => ?_⟩
        have s2 := Sm.tabbed (ht _ (by decide)) tb
        refine Gx.gx_it walk_str (fun i H' => H' = H2 ∧ ∀ c ∈ (figsOf x).cps.toList.take i, 48 ≤ c ∧ c ≤ 57) ⟨rfl, fun c m => by rw [List.take_zero] at m; exact nomatch m⟩ (fun _ _ _ _ => trivial) ?_ ?_
        · rintro i v H3 H4 hi ⟨rfl, hall⟩ ⟨rfl, c, hc, rfl⟩
          have hc' : (figsOf x).cps.toList[i]? = some c := by rw [Array.getElem?_toList]; exact hc
          refine ⟨rfl, _, rfl, c, _, rfl, rfl, _, rfl, ?_⟩
          by_cases hm : 48 ≤ c ∧ c ≤ 57
          · rw [decide_eq_true (figs_in.mpr hm), if_neg (by decide)]
            refine ⟨rfl, fun c2 m => ?_⟩
            rw [List.take_add_one, hc'] at m
            rcases List.mem_append.mp m with m | m
            · exact hall c2 m
            · have m : c2 ∈ [c] := m
              rw [List.mem_singleton.mp m]
              exact hm
          · rw [decide_eq_false (fun z => hm (figs_in.mp z)), if_pos rfl]
            exact ⟨_, rfl, iteT (q _ _ s2 (.inr ⟨fun n => hm (n.2.2.1 c (List.mem_of_getElem? hc')), rfl⟩))⟩
        · rintro H3 ⟨rfl, hall⟩
          have e5 : (figsOf x).cps.size = (figsOf x).cps.toList.length := by simp
          rw [e5, List.take_length] at hall
          refine ⟨_, rfl, iteF ?_⟩
          refine ⟨_, rfl, rfl, figsOf x, _, rfl, rfl, ?_⟩
          have good : (Txt.startswith (figsOf x) "0" = true → x = "0") → NumS x := fun k => ⟨by omega, by omega, hall, k⟩
          cases e3 : Txt.startswith (figsOf x) "0" with
          | false =>
            obtain ⟨n, en, ln⟩ := num_some (good fun z => by rw [e3] at z; cases z)
            refine ⟨false, rfl, iteF (iteF ?_)⟩
            exact ⟨_, rfl, x, n, rfl, en, by omega, q _ _ s2 (.inl ⟨good fun z => (by rw [e3] at z; cases z), n, en, rfl⟩)⟩
          | true =>
            refine ⟨true, rfl, iteT ?_⟩
            refine ⟨_, rfl, rfl, _, rfl, ?_⟩
            by_cases e4 : x = "0"
            · obtain ⟨n, en, ln⟩ := num_some (good fun _ => e4)
              refine iteNS (congrArg V.str e4) ?_
              exact ⟨_, rfl, x, n, rfl, en, by omega, q _ _ s2 (.inl ⟨good fun _ => e4, n, en, rfl⟩)⟩
            · exact ite2 (fun _ => q _ _ s2 (.inr ⟨fun n => e4 (n.2.2.2 e3), rfl⟩)) (fun z => absurd (by rw [decide_eq_false (fun y : V.str x = V.str "0" => e4 (V.str.inj y))]; rfl) z)
    · have z1 : ¬ ((1 : Int) ≤ (figsOf x).length) := fun z2 => z (decide_eq_true z2)
      refine ⟨false, rfl, ?_⟩
      exact iteT (q _ _ (.refl H) (.inr ⟨fun n => by have := n.1; omega, rfl⟩))
/-! a word is a number, or itself -/
def thingD (x : Str) (d : PyData) : Prop := (NumS x ∧ ∃ n, PySem.intText? x = some n ∧ d = .int n) ∨ (¬ NumS x ∧ d = .str x)
theorem thing_ex (x : Str) : ∃ d, thingD x d := by
  by_cases h : NumS x
  · obtain ⟨n, e, _⟩ := num_some h
    exact ⟨_, .inl ⟨h, n, e, rfl⟩⟩
  · exact ⟨_, .inr ⟨h, rfl⟩⟩
theorem thing_eq {x : Str} {d e : PyData} (h : thingD x d) (k : thingD x e) : d = e := by
  rcases h with ⟨a, n, b, rfl⟩ | ⟨a, rfl⟩
  · rcases k with ⟨_, m, c, rfl⟩ | ⟨a2, _⟩
    · rw [Option.some.inj (b.symm.trans c)]
    · exact absurd a a2
  · rcases k with ⟨a2, _⟩ | ⟨_, rfl⟩
    · exact absurd a2 a
    · rfl
def sp_read_thing (af : Nat → Addr) : Sp := fun vs H Q _ => ∃ x : Str, vs = [.str x] ∧ x.length ≤ sizeLine ∧ Tbs af H ∧ ∀ (v : V) (d : PyData) (H' : Hp), Sm H H' → thingD x d → (∀ (Ex : Addr → Prop) (G : Hp), Dq Ex G v d) → Q v H'
theorem ok_read_thing (T : Txt K mg af fd) (B : TxtB base mg af) : FnOk P w K mg base CX0 3 (af 23) (fd 23) ["word"] (sp_read_thing af) := by
  refine T.F_read_thing.ok sc_read_thing (fun vs H Q E h => ?_) (fun cdv A outer s H vs Q E hr h => ?_)
  · obtain ⟨x, rfl, _⟩ := h
    rfl
  · obtain ⟨x, rfl, hx, ht, q⟩ := h
    refine ⟨_, (pss_cons (ps_set (i := 1) sc_read_thing.nd rfl (by first | exact Or.inl rfl | exact Or.inr rfl) (pe_call (ok_read_number T B) (hr.mono (by first | decide | omega)) (by rfl) T.g_read_number T.F_read_number.kp T.b_read_number .nil pass0 (pa_cons (pv 0) pa_nil)))
        (pss_one (ps_ret (pe_ifExp (pt_cmpR op_isN (pv 1) pe_non (nomark _)) (pv 0) (pv 1))))), ?_⟩
    refine ⟨_, rfl, x, rfl, hx, ht, fun v H1 s1 hv => ?_⟩
    rcases hv with ⟨a, n, en, rfl⟩ | ⟨a, rfl⟩
    · exact ⟨_, rfl, rfl, _, rfl, iteFd (fun z => by cases z) ⟨_, rfl, q _ (.int n) _ s1 (.inl ⟨a, n, en, rfl⟩) fun _ _ => .int n⟩⟩
    · exact ⟨_, rfl, rfl, _, rfl, iteTd rfl ⟨_, rfl, q _ (.str x) _ s1 (.inr ⟨a, rfl⟩) fun _ _ => .str x⟩⟩
/-! words' signs are the text's -/
theorem join_mem {c k : Nat} : ∀ {ps : List Str} {p : Str}, p ∈ ps → k ∈ p.cps.toList → k ∈ (Str.join (Tt.sg c) ps).cps.toList
  | [x], p, m, h => by rw [List.mem_singleton.mp m] at h; exact h
  | x :: y :: r, p, m, h => by
    rw [Tt.join_two]
    rcases List.mem_cons.mp m with rfl | m
    · exact List.mem_append_left _ h
    · exact List.mem_append_right _ (List.mem_cons_of_mem _ (join_mem m h))
theorem join_len2 (c : Nat) (x y : Str) (r : List Str) : (Str.join (Tt.sg c) (x :: y :: r)).length = x.length + 1 + (Str.join (Tt.sg c) (y :: r)).length := by
  show (x ++ Tt.sg c ++ Str.join (Tt.sg c) (y :: r)).length = _
  rw [strLen_append, strLen_append]
  rfl
theorem join_ge {c : Nat} : ∀ ps : List Str, ps.length ≤ (Str.join (Tt.sg c) ps).length + 1
  | [] => Nat.zero_le _
  | [x] => Nat.succ_le_succ (Nat.zero_le _)
  | x :: y :: r => by
    have ih := join_ge (c := c) (y :: r)
    rw [join_len2]
    show (y :: r).length + 1 ≤ _
    omega
theorem join_piece {c : Nat} : ∀ {ps : List Str} {p : Str}, p ∈ ps → p.length ≤ (Str.join (Tt.sg c) ps).length
  | [x], p, m => by rw [List.mem_singleton.mp m]; exact Nat.le_refl _
  | x :: y :: r, p, m => by
    rw [join_len2]
    rcases List.mem_cons.mp m with rfl | m
    · omega
    · have := join_piece (c := c) m
      omega
theorem ok_iff {x : Str} : PyData.strOk x = true ↔ ∀ c ∈ x.cps.toList, c < 0x110000 := by
  unfold PyData.strOk
  rw [← Array.all_toList, List.all_eq_true]
  exact ⟨fun h c m => of_decide_eq_true (h c m), fun h c m => decide_eq_true (h c m)⟩
theorem words_ok {x : Str} {c : Nat} (h : PyData.strOk x = true) : ∀ w ∈ Txt.split x (Tt.sg c), PyData.strOk w = true ∧ w.length ≤ x.length := fun w m => by
  have e := StrLaws.join_split x (Tt.sg c)
  refine ⟨ok_iff.mpr fun k mk => ok_iff.mp h k ?_, ?_⟩
  · rw [← e]
    exact join_mem m mk
  · have := join_piece (c := c) m
    rw [e] at this
    exact this
theorem words_few (x : Str) (c : Nat) : (Txt.split x (Tt.sg c)).length ≤ x.length + 1 := by
  have := join_ge (c := c) (Txt.split x (Tt.sg c))
  rw [StrLaws.join_split] at this
  exact this
/-! the things that words are -/
inductive Things : List Str → List PyData → Prop
  | nil : Things [] []
  | cons {x : Str} {d : PyData} {xs : List Str} {ds : List PyData} : thingD x d → Things xs ds → Things (x :: xs) (d :: ds)
theorem Things.snoc {x : Str} {d : PyData} : ∀ {xs : List Str} {ds : List PyData}, Things xs ds → thingD x d → Things (xs ++ [x]) (ds ++ [d])
  | _, _, .nil, h => .cons h .nil
  | _, _, .cons a r, h => .cons a (r.snoc h)
theorem Things.len : ∀ {xs : List Str} {ds : List PyData}, Things xs ds → xs.length = ds.length
  | _, _, .nil => rfl
  | _, _, .cons _ r => by rw [List.length_cons, List.length_cons, r.len]
theorem Things.eq : ∀ {xs : List Str} {ds es : List PyData}, Things xs ds → Things xs es → ds = es
  | _, _, _, .nil, .nil => rfl
  | _, _, _, .cons a r, .cons b t => by rw [thing_eq a b, r.eq t]
theorem Things.sh : ∀ {xs : List Str} {ds : List PyData}, Things xs ds → (∀ x ∈ xs, PyData.strOk x = true) → PyData.canLayAll0 ds = true ∧ PyData.depthAll ds = 0
  | _, _, .nil, _ => ⟨rfl, rfl⟩
  | _, _, .cons (x := x) (d := d) (ds := ds) a r, h => by
    obtain ⟨i1, i2⟩ := r.sh fun y m => h y (List.mem_cons_of_mem _ m)
    have a1 : d.canLay0 = true ∧ d.depth = 0 := by
      rcases a with ⟨_, n, _, rfl⟩ | ⟨_, rfl⟩
      · exact ⟨rfl, rfl⟩
      · exact ⟨h x List.mem_cons_self, rfl⟩
    refine ⟨?_, ?_⟩
    · show (d.canLay0 && PyData.canLayAll0 ds) = true
      rw [a1.1, i1]
      rfl
    · show max d.depth (PyData.depthAll ds) = 0
      rw [a1.2, i2]
      rfl
def sp_read_row (af : Nat → Addr) : Sp := fun vs H Q _ => ∃ (t : Addr) (x : Str) (hs gs : List Str), vs = [.ref t, .str x] ∧ TownAt H t hs gs ∧ (∀ h ∈ hs, PyData.strOk h = true) ∧ PyData.strOk x = true ∧ x.length + 2 ≤ sizeLine ∧ Tbs af H ∧
  (∀ (ds : List PyData) (H' : Hp) (r : Addr) (us : List V), Sm H H' → Things (Txt.split x " ") ds → IsRowD hs (.tuple ds) → H r = none → H' r = some (.tup us) → (∀ (Ex : Addr → Prop) (G : Hp), Dqs Ex G us ds) → Q (.ref r) H') ∧
  ∀ (ds : List PyData) (H' : Hp), Sm H H' → Things (Txt.split x " ") ds → ¬ IsRowD hs (.tuple ds) → Q .non H'
theorem ok_read_row (T : Txt K mg af fd) (B : TxtB base mg af) : FnOk P w K mg base CX0 6 (af 24) (fd 24) ["town", "text"] (sp_read_row af) := by
  refine T.F_read_row.ok sc_read_row (fun vs H Q E h => ?_) (fun cdv A outer s H vs Q E hr h => ?_)
  · obtain ⟨t, x, hs, gs, rfl, _⟩ := h
    rfl
  · obtain ⟨t, x, hs, gs, rfl, hT, hok, xok, hx, ht, q1, q0⟩ := h
    refine ⟨_, (pss_cons (ps_set (i := 2) sc_read_row.nd rfl (by first | exact Or.inl rfl | exact Or.inr rfl) (pe_callTy call_tuple_of (by rfl) T.m_tuple (by decide +kernel) (pa_cons (pe_lc (own := [("word", 3)]) (g := gName 3) (by rfl) sc_read_row.nd (pi_list (pe_bm PySem.F.plainAttrs_str PySem.F.slot_str_split PySem.F.type_str_split mt_split (pv 1) (pa_cons pe_str pa_nil))) (blkOk_by (own := [("word", 3)]) (N := ["town", "text", "row", "word"]) (sc := defScope s_read_row) (by decide +kernel)) (fun _ _ _ _ _ => pg_name (i := 3) sc_read_row.nd rfl (Or.inl rfl)) (fun _ _ _ _ _ => pts_nil) (fun _ _ _ _ _ => (pe_call (ok_read_thing T B) (hr.mono (by first | decide | omega)) (by rfl) T.g_read_thing T.F_read_thing.kp T.b_read_thing .nil pass0 (pa_cons (pv 3) pa_nil)))) pa_nil)))
        (pss_one (ps_ret (pe_ifExp (pt_val (pe_call (ok_is_row T) (hr.mono (by first | decide | omega)) (by rfl) T.g_is_row T.F_is_row.kp T.b_is_row .nil pass0 (pa_cons (pv 0) (pa_cons (pv 2) pa_nil)))) (pv 2) pe_non)))), ?_⟩
    have wf := words_few x 32
    have wo := words_ok (c := 32) xok
    refine ⟨_, rfl, rfl, x, _, rfl, rfl, rfl, hx, fun p np => ⟨p, rfl, ⟨_, SqL.of upd_same⟩, ?_⟩⟩
    have esp : Txt.split x (Str.ofString " ") = Txt.split x (Tt.sg 32) := rfl
    rw [esp]
    rw [esp] at q1 q0
    generalize Txt.split x (Tt.sg 32) = ws at wf wo q1 q0 ⊢
    have s1 : Same H (upd H p (.lst (ws.map V.str))) := same_upd np
    have hp1 : (upd H p (.lst (ws.map V.str))) p = some (.lst (ws.map V.str)) := upd_same
    generalize upd H p (.lst (ws.map V.str)) = H1 at s1 hp1 ⊢
    refine fun D nD => ?_
    refine lc_it (walk_list (K := K) (a := p) (xs := ws.map V.str)) (g := gName 3) (fun k G => Sm H1 G ∧ ∃ us ds, G D = some (.lst us) ∧ Things (ws.take k) ds ∧ (∀ (Ex : Addr → Prop) (G : Hp), Dqs Ex G us ds))
      ⟨Sm.of (same_upd nD), [], [], upd_same, by rw [List.take_zero]; exact .nil, fun _ _ => .nil⟩ (fun k G _ h => SqL.of (h.1.lst hp1)) ?_ ?_
    · rintro k v G1 G2 hk ⟨g1, us, ds, hD, th, dq⟩ ⟨rfl, ev⟩
      rw [List.getElem?_map] at ev
      obtain ⟨w, ew, rfl⟩ := Option.map_eq_some_iff.mp ev
      have mw := List.mem_of_getElem? ew
      refine ⟨rfl, yes_if ⟨_, rfl, w, rfl, by have := (wo w mw).2; omega, (ht.same s1).sm g1, fun v d G3 g3 hd hq => ?_⟩⟩
      have hk2 : k < ws.length := (List.getElem?_eq_some_iff.mp ew).1
      have lu : us.length = k := by
        have a := (dq (fun _ => False) G3).len
        have b := th.len
        rw [List.length_take] at b
        omega
      refine ⟨us, g3.lst hD, by omega, (g1.trans g3).mut nD, us ++ [v], ds ++ [d], upd_same, ?_, fun Ex G => (dq Ex G).app (.cons (hq Ex G) .nil)⟩
      rw [List.take_add_one, ew]
      exact th.snoc hd
    · rintro G1 ⟨g1, us, ds, hD, th, dq⟩
      rw [List.length_map, List.take_length] at th
      have s2 := (Sm.of s1).trans g1
      refine ⟨D, us, rfl, .inl ⟨SqL.of hD, fun r nr => ?_⟩⟩
      have s3 := s2.mut (o := .tup us) (s2.free nr)
      have hr' : (upd G1 r (.tup us)) r = some (.tup us) := upd_same
      generalize upd G1 r (.tup us) = G2 at s3 hr' ⊢
      obtain ⟨c1, c2⟩ := th.sh fun w m => (wo w m).1
      refine ⟨_, rfl, _, rfl, fun _ => False, t, .ref r, .tuple ds, hs, gs, rfl, hT.sm s3, hok, .tup hr' (dq _ _), ⟨c1, by show PyData.depthAll ds + 1 ≤ 60; rw [c2]; decide⟩, fun b hb => ⟨b, rfl, ?_⟩⟩
      cases b with
      | true => exact iteT ⟨_, rfl, q1 ds G2 r us s3 th (hb.mp rfl) (s2.free nr) hr' dq⟩
      | false => exact iteF (q0 ds G2 s3 th fun z => Bool.noConfusion (hb.mpr z))
/-! ### a town's text, read -/
theorem big_line {n : Nat} (h : n ≤ 1000000) : n < sizeLine := Nat.lt_of_le_of_lt h (by decide)
def rOffS : V → List V → Hp → VK → Prop := fun x xs H Q => ∃ a b, x = V.str a ∧ xs = [V.str b] ∧ a.length ≤ sizeLine ∧ Q (V.str (Txt.removesuffix a b)) H
def rEndS : V → List V → Hp → VK → Prop := fun x xs H Q => ∃ a b, x = V.str a ∧ xs = [V.str b] ∧ Q (V.bl (Txt.endswith a b)) H
def offS (w : Str) : Str := Txt.removesuffix w "+"
def gateS (w : Str) : Bool := Txt.endswith w "+"
theorem offS_len (w : Str) : (offS w).length ≤ w.length := by
  by_cases d : ∃ cs, w.cps.toList = cs ++ [43]
  · obtain ⟨cs, e⟩ := d
    have e2 : (offS w).cps.toList = cs := Tt.rs_yes (c := 43) e
    rw [Tt.len_list, Tt.len_list w, e2, e, List.length_append]
    omega
  · rw [show offS w = w from Tt.rs_no (c := 43) fun cs e => d ⟨cs, e⟩]
    exact Nat.le_refl _
theorem bnd_texts : ∀ {hs : List Str}, (∀ h ∈ hs, h.length ≤ 1000000) → bndDs (hs.map PyData.str)
  | [], _ => trivial
  | h :: r, a => ⟨a h List.mem_cons_self, bnd_texts fun x m => a x (List.mem_cons_of_mem _ m)⟩
theorem dqs_texts {Ex : Addr → Prop} {H : Hp} : ∀ hs : List Str, Dqs Ex H (hs.map V.str) (hs.map PyData.str)
  | [] => .nil
  | h :: r => .cons (.str h) (dqs_texts r)
def sp_read_town (af : Nat → Addr) : Sp := fun vs H Q _ => ∃ (x : Str) (ws : List Str), vs = [.str x] ∧ x.length ≤ 700000 ∧ ws = Txt.split x " " ∧ Tbs af H ∧
  (∀ (H' : Hp) (t : Addr), Sm H H' → TownD (.tuple [.tuple ((ws.map offS).map PyData.str), .tuple (((ws.filter gateS).map offS).map PyData.str)]) → H t = none → TownAt H' t (ws.map offS) ((ws.filter gateS).map offS) → Q (.ref t) H') ∧
  ∀ H' : Hp, Sm H H' → ¬ TownD (.tuple [.tuple ((ws.map offS).map PyData.str), .tuple (((ws.filter gateS).map offS).map PyData.str)]) → Q .non H'
theorem ok_read_town (T : Txt K mg af fd) (B : TxtB base mg af) : FnOk P w K mg base CX0 6 (af 25) (fd 25) ["text"] (sp_read_town af) := by
  refine T.F_read_town.ok sc_read_town (fun vs H Q E h => ?_) (fun cdv A outer s H vs Q E hr h => ?_)
  · obtain ⟨x, ws, rfl, _⟩ := h
    rfl
  · obtain ⟨x, ws, rfl, hx, ews, ht, q1, q0⟩ := h
    have big : x.length + 2 ≤ sizeLine := Nat.le_trans (show _ ≤ 1000000 by omega) (by decide)
    have wf := words_few x 32
    have wl : ∀ w ∈ ws, w.length ≤ 700000 := fun w m => by
      rw [ews] at m
      have := join_piece (c := 32) m
      rw [show Str.join (Tt.sg 32) (Txt.split x " ") = x from StrLaws.join_split x (Tt.sg 32)] at this
      omega
    rw [show Txt.split x (Tt.sg 32) = ws from ews.symm] at wf
    refine ⟨_, (pss_cons (ps_set (i := 1) sc_read_town.nd rfl (by first | exact Or.inl rfl | exact Or.inr rfl) (pe_bm PySem.F.plainAttrs_str PySem.F.slot_str_split PySem.F.type_str_split mt_split (pv 0) (pa_cons pe_str pa_nil)))
        (pss_cons (ps_set (i := 2) sc_read_town.nd rfl (by first | exact Or.inl rfl | exact Or.inr rfl) (pe_callTy call_tuple_of (by rfl) T.m_tuple (by decide +kernel) (pa_cons (pe_lc (own := [("word", 3)]) (g := gName 3) (by rfl) sc_read_town.nd (pi_list (pv 1)) (blkOk_by (own := [("word", 3)]) (N := ["text", "words", "houses", "word", "gates"]) (sc := defScope s_read_town) (by decide +kernel)) (fun _ _ _ _ _ => pg_name (i := 3) sc_read_town.nd rfl (Or.inl rfl)) (fun _ _ _ _ _ => pts_nil) (fun _ _ _ _ _ => (show PE _ _ (tBM K "str" rOffS (tVar 3) (tCons (tC (.str "+")) tNil)) from pe_bm PySem.F.plainAttrs_str PySem.F.slot_str_removesuffix PySem.F.type_str_removesuffix mt_removesuffix (pv 3) (pa_cons pe_str pa_nil)))) pa_nil)))
        (pss_cons (ps_set (i := 4) sc_read_town.nd rfl (by first | exact Or.inl rfl | exact Or.inr rfl) (pe_callTy call_tuple_of (by rfl) T.m_tuple (by decide +kernel) (pa_cons (pe_lc (own := [("word", 3)]) (g := gName 3) (by rfl) sc_read_town.nd (pi_list (pv 1)) (blkOk_by (own := [("word", 3)]) (N := ["text", "words", "houses", "word", "gates"]) (sc := defScope s_read_town) (by decide +kernel)) (fun _ _ _ _ _ => pg_name (i := 3) sc_read_town.nd rfl (Or.inl rfl)) (fun _ _ _ _ _ => (pts_one (pt_val (show PE _ _ (tBM K "str" rEndS (tVar 3) (tCons (tC (.str "+")) tNil)) from pe_bm PySem.F.plainAttrs_str PySem.F.slot_str_endswith PySem.F.type_str_endswith mt_endswith (pv 3) (pa_cons pe_str pa_nil))))) (fun _ _ _ _ _ => (show PE _ _ (tBM K "str" rOffS (tVar 3) (tCons (tC (.str "+")) tNil)) from pe_bm PySem.F.plainAttrs_str PySem.F.slot_str_removesuffix PySem.F.type_str_removesuffix mt_removesuffix (pv 3) (pa_cons pe_str pa_nil)))) pa_nil)))
        (pss_one (ps_ret (pe_ifExp (pt_val (pe_call (ok_is_town T B) (hr.mono (by first | decide | omega)) (by rfl) T.g_is_town T.F_is_town.kp T.b_is_town .nil pass0 (pa_cons (pe_tup (pa_cons (pv 2) (pa_cons (pv 4) pa_nil))) pa_nil))) (pe_tup (pa_cons (pv 2) (pa_cons (pv 4) pa_nil))) pe_non)))))), ?_⟩
    refine ⟨_, rfl, rfl, x, _, rfl, rfl, rfl, big, fun p np => ?_⟩
    rw [show Txt.split x (Str.ofString " ") = ws from ews.symm]
    have s1 : Same H (upd H p (.lst (ws.map V.str))) := same_upd np
    have hp1 : (upd H p (.lst (ws.map V.str))) p = some (.lst (ws.map V.str)) := upd_same
    generalize upd H p (.lst (ws.map V.str)) = H1 at s1 hp1 ⊢
    refine ⟨_, rfl, p, rfl, ⟨_, SqL.of hp1⟩, fun D nD => ?_⟩
    refine lc_it (walk_list (K := K) (a := p) (xs := ws.map V.str)) (g := gName 3) (fun k G => Same H1 G ∧ G D = some (.lst (((ws.take k).map offS).map V.str)))
      ⟨same_upd nD, by rw [List.take_zero]; exact upd_same⟩ (fun k G _ h => SqL.of (h.1 _ _ hp1)) ?_ ?_
    · rintro k v G1 G2 hk ⟨g1, hD⟩ ⟨rfl, ev⟩
      rw [List.getElem?_map] at ev
      obtain ⟨w, ew, rfl⟩ := Option.map_eq_some_iff.mp ev
      have mw := List.mem_of_getElem? ew
      have lw := wl w mw
      have hk2 : k < ws.length := (List.getElem?_eq_some_iff.mp ew).1
      refine ⟨rfl, yes_if ⟨_, rfl, rfl, w, _, rfl, rfl, Nat.le_trans lw (by decide), ?_⟩⟩
      refine ⟨_, hD, big_line (by rw [List.length_map, List.length_map, List.length_take]; omega), same_mut g1 nD, ?_⟩
      rw [upd_same, List.take_add_one, ew, List.map_append, List.map_append]
      rfl
    · rintro G1 ⟨g1, hD⟩
      rw [List.length_map, List.take_length] at hD
      refine ⟨D, _, rfl, .inl ⟨SqL.of hD, fun a na => ?_⟩⟩
      have g2 := g1.trans (same_upd (o := .tup ((ws.map offS).map V.str)) na)
      have ha : (upd G1 a (.tup ((ws.map offS).map V.str))) a = some (.tup ((ws.map offS).map V.str)) := upd_same
      generalize upd G1 a (.tup ((ws.map offS).map V.str)) = G2 at g2 ha ⊢
      refine ⟨_, rfl, p, rfl, ⟨_, SqL.of (g2 _ _ hp1)⟩, fun D2 nD2 => ?_⟩
      refine lc_it (walk_list (K := K) (a := p) (xs := ws.map V.str)) (g := gName 3) (fun k G => Same G2 G ∧ ∃ ys, G D2 = some (.lst ((ys : List Str).map V.str)) ∧ ys = ((ws.take k).filter gateS).map offS)
        ⟨same_upd nD2, [], upd_same, by rw [List.take_zero]; rfl⟩ (fun k G _ h => SqL.of (h.1 _ _ (g2 _ _ hp1))) ?_ ?_
      · rintro k v G3 G4 hk ⟨g3, ys, hD3, ey⟩ ⟨rfl, ev⟩
        rw [List.getElem?_map] at ev
        obtain ⟨w, ew, rfl⟩ := Option.map_eq_some_iff.mp ev
        have mw := List.mem_of_getElem? ew
        have lw := wl w mw
        have hk2 : k < ws.length := (List.getElem?_eq_some_iff.mp ew).1
        have ly : ys.length ≤ k := by
          rw [ey, List.length_map]
          exact Nat.le_trans (List.length_filter_le _ _) (by rw [List.length_take]; omega)
        refine ⟨rfl, _, rfl, rfl, w, _, rfl, rfl, gateS w, rfl, ?_⟩
        have et : ((ws.take (k + 1)).filter gateS).map offS = ys ++ (([w].filter gateS).map offS) := by
          rw [List.take_add_one, ew, List.filter_append, List.map_append, ← ey]
          rfl
        cases eg : gateS w with
        | true =>
          refine iteT ⟨_, rfl, rfl, w, _, rfl, rfl, Nat.le_trans lw (by decide), ?_⟩
          refine ⟨_, hD3, big_line (by rw [List.length_map]; omega), same_mut g3 nD2, ys ++ [offS w], by rw [upd_same, List.map_append]; rfl, ?_⟩
          rw [et, List.filter_cons, if_pos eg]
          rfl
        | false =>
          refine iteF ⟨g3, ys, hD3, ?_⟩
          rw [et, List.filter_cons, if_neg (by rw [eg]; decide)]
          exact (List.append_nil _).symm
      · rintro G3 ⟨g3, ys, hD3, ey⟩
        rw [List.length_map, List.take_length] at ey
        subst ey
        refine ⟨D2, _, rfl, .inl ⟨SqL.of hD3, fun b nb => ?_⟩⟩
        have g4 := g3.trans (same_upd (o := .tup (((ws.filter gateS).map offS).map V.str)) nb)
        have hb : (upd G3 b (.tup (((ws.filter gateS).map offS).map V.str))) b = some (.tup (((ws.filter gateS).map offS).map V.str)) := upd_same
        generalize upd G3 b (.tup (((ws.filter gateS).map offS).map V.str)) = G4 at g4 hb ⊢
        have l1 : ∀ h ∈ ws.map offS, h.length ≤ 1000000 := fun h m => by
          obtain ⟨w, mw, rfl⟩ := List.mem_map.mp m
          have := wl w mw
          have := offS_len w
          omega
        have l2 : ∀ h ∈ (ws.filter gateS).map offS, h.length ≤ 1000000 := fun h m => by
          obtain ⟨w, mw, rfl⟩ := List.mem_map.mp m
          exact l1 _ (List.mem_map.mpr ⟨w, (List.mem_filter.mp mw).1, rfl⟩)
        have n1 : (ws.map offS).length ≤ 1000000 := by rw [List.length_map]; omega
        have n2 : ((ws.filter gateS).map offS).length ≤ 1000000 := by
          rw [List.length_map]
          exact Nat.le_trans (List.length_filter_le _ _) (by omega)
        generalize ws.map offS = hs at l1 n1 ha q1 q0
        generalize (ws.filter gateS).map offS = gs at l2 n2 hb hD3 q1 q0
        refine ⟨_, rfl, _, rfl, (by show 2 ≤ sizeLine; decide), fun t nt => ?_⟩
        have s14 : Sm H G4 := ((Sm.of s1).trans (Sm.of g2)).trans (Sm.of g4)
        have s15 : Sm H (upd G4 t (.tup [.ref a, .ref b])) := s14.mut (s14.free nt)
        have g5 := same_upd (o := .tup [.ref a, .ref b]) nt
        have ht5 : (upd G4 t (.tup [.ref a, .ref b])) t = some (.tup [.ref a, .ref b]) := upd_same
        have ha5 := g5 _ _ (g4 _ _ ha)
        have hb5 := g5 _ _ hb
        generalize upd G4 t (.tup [.ref a, .ref b]) = G5 at s15 ht5 ha5 hb5 ⊢
        refine ⟨fun _ => False, .ref t, _, rfl, .tup ht5 (.cons (.tup ha5 (dqs_texts hs)) (.cons (.tup hb5 (dqs_texts gs)) .nil)), ⟨(by show 2 ≤ 1000000; decide), ⟨by rw [List.length_map]; exact n1, bnd_texts l1⟩, ⟨by rw [List.length_map]; exact n2, bnd_texts l2⟩, trivial⟩, ht.sm s15, fun r G6 s6 hr6 => ⟨r, rfl, ?_⟩⟩
        have s16 := s15.trans s6
        cases r with
        | false => exact iteF (q0 G6 s16 fun z => Bool.noConfusion (hr6.mpr z))
        | true =>
          refine iteT ⟨_, rfl, _, rfl, (by show 2 ≤ sizeLine; decide), fun u nu => ?_⟩
          have s17 := s16.mut (o := .tup [.ref a, .ref b]) (s16.free nu)
          refine q1 _ u s17 (hr6.mp rfl) (s16.free nu) ⟨a, b, upd_same, ?_, ?_⟩
          · exact same_upd nu _ _ (s6.tup ha5)
          · exact same_upd nu _ _ (s6.tup hb5)
theorem isRow_of {hs : List Str} {r : Row} (w : r.Wf) (i : r.In hs) : IsRowD hs (.tuple r.data) := by
  cases r with
  | ask h g k n o b => exact ⟨_, rfl, i, w.2.2.1, w.2.2.2.1, w.2.2.2.2.1, w.2.2.2.2.2.1, w.2.2.2.2.2.2⟩
  | job h k o b => exact ⟨_, rfl, i, w.2.1, w.2.2.1, w.2.2.2.1, w.2.2.2.2⟩
  | all h a j => exact ⟨_, rfl, i, w.2.1, w.2.2⟩
/-! ### a book's text, read -/
theorem ok_init_NoText (T : Txt K mg af fd) : FnOk P w K mg base CX0 1 (af 64) (fd 64) ["self", "number"] (sp_init1 (af 63) "number") := by
  refine T.e_NoText.F.ok sc_init_NoText (fun vs H Q E h => ?_) (fun cdv A outer s H vs Q E hr h => ?_)
  · obtain ⟨a, v, rfl, _⟩ := h
    rfl
  · obtain ⟨a, v, rfl, ha, q⟩ := h
    refine ⟨_, (pss_one (ps_ost (pv 0) (pv 1))), ?_⟩
    exact ⟨_, rfl, _, rfl, a, _, rfl, T.e_NoText.T, T.e_NoText.no _ List.mem_cons_self, .inl ⟨ha, q⟩⟩
theorem book_rowsD {hs : List Str} {rs : List Row} (B : Book hs rs) (n : Nat) : RowsD hs (rs.map rowD) n := fun j d _ e => by
  rw [List.getElem?_map] at e
  obtain ⟨r, er, rfl⟩ := Option.map_eq_some_iff.mp e
  have m := List.mem_of_getElem? er
  exact isRow_of (B.wf r m) (B.inn r m)
theorem book_calm {hs : List Str} {rs : List Row} (B : Book hs rs) {f s : Nat} : ¬ FirstClash (rs.map rowD) f s := fun F => by
  obtain ⟨r, t, e1, e2, c⟩ := F.at_
  rw [List.getElem?_map] at e1 e2
  obtain ⟨r', er, h1⟩ := Option.map_eq_some_iff.mp e1
  obtain ⟨t', et, h2⟩ := Option.map_eq_some_iff.mp e2
  have k1 : r' = r := data_inj (PyData.tuple.inj h1)
  have k2 : t' = t := data_inj (PyData.tuple.inj h2)
  subst k1 k2
  exact B.nc _ (List.mem_of_getElem? er) _ (List.mem_of_getElem? et) c
theorem Dqs.anyE {Ex : Addr → Prop} {H H' : Hp} {vs : List V} {ds : List PyData} (h : Dqs (fun _ => True) H vs ds) (k : ∀ a xs, H a = some (.tup xs) → H' a = some (.tup xs)) : Dqs Ex H' vs ds := h.go (fun _ _ n => absurd trivial n) (fun _ _ n _ => absurd trivial n) k
theorem rows_lay : ∀ {rs : List Row}, (∀ r ∈ rs, PyData.canLayAll0 r.data = true ∧ PyData.depthAll r.data = 0) → PyData.canLayAll0 (rs.map rowD) = true ∧ PyData.depthAll (rs.map rowD) ≤ 1
  | [], _ => ⟨rfl, Nat.zero_le _⟩
  | r :: rs, h => by
    obtain ⟨i1, i2⟩ := rows_lay (rs := rs) fun x m => h x (List.mem_cons_of_mem _ m)
    obtain ⟨a1, a2⟩ := h r List.mem_cons_self
    refine ⟨?_, ?_⟩
    · show (PyData.canLayAll0 r.data && PyData.canLayAll0 (rs.map rowD)) = true
      rw [a1, i1]
      rfl
    · show max (PyData.depthAll r.data + 1) (PyData.depthAll (rs.map rowD)) ≤ 1
      rw [a2]
      omega
noncomputable def thingOf (x : Str) : PyData := (thing_ex x).choose
theorem thingOf_is (x : Str) : thingD x (thingOf x) := (thing_ex x).choose_spec
theorem things_of : ∀ ws : List Str, Things ws (ws.map thingOf)
  | [] => .nil
  | w :: ws => .cons (thingOf_is w) (things_of ws)
noncomputable def lineDs (l : Str) : List PyData := (Txt.split l " ").map thingOf
noncomputable def lineD (l : Str) : PyData := .tuple (lineDs l)
theorem line_is {l : Str} {ds : List PyData} (h : Things (Txt.split l " ") ds) : ds = lineDs l := Things.eq h (things_of _)
def hsOf (l : Str) : List Str := (Txt.split l " ").map offS
def gsOf (l : Str) : List Str := ((Txt.split l " ").filter gateS).map offS
def townD (hs gs : List Str) : PyData := .tuple [.tuple (hs.map PyData.str), .tuple (gs.map PyData.str)]
def townL (l : Str) : PyData := townD (hsOf l) (gsOf l)
def askD (hs gs : List Str) (rs : List Row) : PyData := .tuple [townD hs gs, .list (rs.map rowD)]
/-- what a text with a line feed is told to be -/
inductive Res8 (l0 : Str) (mid : List Str) (rest : Str) : PyData → Prop
  | town : ¬ TownD (townL l0) → Res8 l0 mid rest (.list [.str "text", .int 0])
  | row (k : Nat) (l : Str) : TownD (townL l0) → RowsD (hsOf l0) (mid.map lineD) k → mid[k]? = some l → ¬ IsRowD (hsOf l0) (lineD l) → Res8 l0 mid rest (.list [.str "text", .int ((1 + k : Nat) : Int)])
  | rest : TownD (townL l0) → RowsD (hsOf l0) (mid.map lineD) mid.length → rest ≠ "" → Res8 l0 mid rest (.list [.str "text", .int ((1 + mid.length : Nat) : Int)])
  | clash (f s : Nat) : TownD (townL l0) → RowsD (hsOf l0) (mid.map lineD) mid.length → rest = "" → FirstClash (mid.map lineD) f s → Res8 l0 mid rest (.list [.str "clash", .int (f : Nat), .int (s : Nat)])
  | told (rs : List Row) : TownD (townL l0) → RowsD (hsOf l0) (mid.map lineD) mid.length → rest = "" → NoClash (mid.map lineD) mid.length → mid.map lineD = rs.map rowD → Res8 l0 mid rest (.list [.str "told", askD (hsOf l0) (gsOf l0) rs])
def Out (x : Str) (d : PyData) : Prop := (∃ r, Txt.split x "\n" = [r] ∧ d = .list [.str "text", .int 0]) ∨ ∃ l0 mid rest, Txt.split x "\n" = l0 :: (mid ++ [rest]) ∧ Res8 l0 mid rest d
/-- a text that is no longer than what we look at -/
structure Fit (x : Str) : Prop where
  ok : PyData.strOk x = true
  len : x.length ≤ 700000
  few : (Txt.split x "\n").length ≤ 900
/-- what was read of a line: a row, or None -/
inductive Rd1 (Ex : Addr → Prop) (H : Hp) (hs : List Str) : V → PyData → Prop
  | yes {v : V} {d : PyData} : IsRowD hs d → Dq Ex H v d → Rd1 Ex H hs v d
  | no {d : PyData} : ¬ IsRowD hs d → Rd1 Ex H hs .non d
inductive Rd8 (Ex : Addr → Prop) (H : Hp) (hs : List Str) : List V → List PyData → Prop
  | nil : Rd8 Ex H hs [] []
  | cons {v : V} {d : PyData} {vs : List V} {ds : List PyData} : Rd1 Ex H hs v d → Rd8 Ex H hs vs ds → Rd8 Ex H hs (v :: vs) (d :: ds)
theorem Rd1.go {H H' : Hp} {hs : List Str} {v : V} {d : PyData} (h : Rd1 (fun _ => True) H hs v d) (k : ∀ a xs, H a = some (.tup xs) → H' a = some (.tup xs)) : Rd1 (fun _ => True) H' hs v d := by
  cases h with
  | yes i q => exact .yes i (q.go (fun _ _ n => absurd trivial n) (fun _ _ n _ => absurd trivial n) k)
  | no i => exact .no i
theorem Rd8.go {H H' : Hp} {hs : List Str} : ∀ {vs : List V} {ds : List PyData}, Rd8 (fun _ => True) H hs vs ds → (∀ a xs, H a = some (.tup xs) → H' a = some (.tup xs)) → Rd8 (fun _ => True) H' hs vs ds
  | _, _, .nil, _ => .nil
  | _, _, .cons a r, k => .cons (a.go k) (r.go k)
theorem Rd8.snoc {Ex : Addr → Prop} {H : Hp} {hs : List Str} {v : V} {d : PyData} : ∀ {vs : List V} {ds : List PyData}, Rd8 Ex H hs vs ds → Rd1 Ex H hs v d → Rd8 Ex H hs (vs ++ [v]) (ds ++ [d])
  | _, _, .nil, a => .cons a .nil
  | _, _, .cons b r, a => .cons b (r.snoc a)
theorem Rd8.len {Ex : Addr → Prop} {H : Hp} {hs : List Str} : ∀ {vs : List V} {ds : List PyData}, Rd8 Ex H hs vs ds → vs.length = ds.length
  | _, _, .nil => rfl
  | _, _, .cons _ r => congrArg Nat.succ r.len
open Classical in
noncomputable def rdD (hs : List Str) (d : PyData) : PyData := if IsRowD hs d then d else .none
theorem rdD_yes {hs : List Str} {d : PyData} (h : IsRowD hs d) : rdD hs d = d := if_pos h
theorem rdD_no {hs : List Str} {d : PyData} (h : ¬ IsRowD hs d) : rdD hs d = .none := if_neg h
theorem Rd8.dqs {Ex : Addr → Prop} {H : Hp} {hs : List Str} : ∀ {vs : List V} {ds : List PyData}, Rd8 Ex H hs vs ds → Dqs Ex H vs (ds.map (rdD hs))
  | _, _, .nil => .nil
  | _, _, .cons (.yes i q) r => .cons (by rw [rdD_yes i]; exact q) r.dqs
  | _, _, .cons (.no i) r => .cons (by rw [rdD_no i]; exact .non) r.dqs
theorem first_no (P : PyData → Prop) : ∀ ds : List PyData, (∀ d ∈ ds, P d) ∨ ∃ (k : Nat) (d : PyData), ds[k]? = some d ∧ ¬ P d ∧ ∀ (j : Nat) (e : PyData), j < k → ds[j]? = some e → P e
  | [] => .inl fun _ m => nomatch m
  | d :: ds => by
    by_cases h : P d
    · rcases first_no P ds with a | ⟨k, e, ek, ne, b⟩
      · exact .inl fun x m => (List.mem_cons.mp m).elim (fun z => z ▸ h) (a x)
      · refine .inr ⟨k + 1, e, ek, ne, fun j x l ex => ?_⟩
        cases j with
        | zero => exact Option.some.inj ex ▸ h
        | succ j => exact b j x (Nat.lt_of_succ_lt_succ l) ex
    · exact .inr ⟨0, d, rfl, h, fun j _ l => absurd l (Nat.not_lt_zero j)⟩
theorem rdD_eqv {hs : List Str} {d : PyData} : (IsRowD hs d → PyData.eqv (rdD hs d) .none = false) ∧ (¬ IsRowD hs d → PyData.eqv (rdD hs d) .none = true) := by
  refine ⟨fun h => ?_, fun h => by rw [rdD_no h]; rfl⟩
  rw [rdD_yes h]
  obtain ⟨r, rfl, _⟩ := h
  rfl
theorem rdD_lay {hs : List Str} : ∀ {ds : List PyData}, PyData.canLayAll0 ds = true ∧ PyData.depthAll ds ≤ 1 → PyData.canLayAll0 (ds.map (rdD hs)) = true ∧ PyData.depthAll (ds.map (rdD hs)) ≤ 1
  | [], _ => ⟨rfl, Nat.zero_le _⟩
  | d :: ds, ⟨a, b⟩ => by
    have a : (d.canLay0 && PyData.canLayAll0 ds) = true := a
    have b : max d.depth (PyData.depthAll ds) ≤ 1 := b
    rw [Bool.and_eq_true] at a
    obtain ⟨i, j⟩ := rdD_lay (hs := hs) (ds := ds) ⟨a.2, by omega⟩
    by_cases h : IsRowD hs d
    · refine ⟨?_, ?_⟩
      · show ((rdD hs d).canLay0 && PyData.canLayAll0 (ds.map (rdD hs))) = true
        rw [rdD_yes h, a.1, i]
        rfl
      · show max (rdD hs d).depth (PyData.depthAll (ds.map (rdD hs))) ≤ 1
        rw [rdD_yes h]
        omega
    · refine ⟨?_, ?_⟩
      · show ((rdD hs d).canLay0 && PyData.canLayAll0 (ds.map (rdD hs))) = true
        rw [rdD_no h, i]
        rfl
      · show max (rdD hs d).depth (PyData.depthAll (ds.map (rdD hs))) ≤ 1
        rw [rdD_no h]
        exact Nat.max_le.mpr ⟨Nat.zero_le _, j⟩
def sp_read_book (af : Nat → Addr) (CN CC : Addr) : Sp := fun vs H Q E => ∃ x : Str, vs = [.str x] ∧ Fit x ∧ Tbs af H ∧
  (∀ (l0 : Str) (mid : List Str) (rs : List Row) (u t l : Addr) (us : List V) (H' : Hp), Sm H H' → H' u = some (.tup [.ref t, .ref l]) → TownAt H' t (hsOf l0) (gsOf l0) → H' l = some (.lst us) → H l = none → (∀ Ex : Addr → Prop, Dqs Ex H' us (rs.map rowD)) → Out x (.list [.str "told", askD (hsOf l0) (gsOf l0) rs]) → Q (.ref u) H') ∧
  (∀ (n : Nat) (d : Addr) (H' : Hp), Sm H H' → H' d = some (.xd [("number", .int (n : Nat))]) → Out x (.list [.str "text", .int (n : Nat)]) → E (.ref CN) (some d) H') ∧
  ∀ (f s : Nat) (d : Addr) (H' : Hp), Sm H H' → H' d = some (.xd [("second", .int (s : Nat)), ("first", .int (f : Nat))]) → Out x (.list [.str "clash", .int (f : Nat), .int (s : Nat)]) → E (.ref CC) (some d) H'
theorem snoc_of {α : Type} : ∀ {xs : List α}, xs ≠ [] → ∃ ys z, xs = ys ++ [z]
  | [x], _ => ⟨[], x, rfl⟩
  | x :: y :: r, _ => by
    obtain ⟨ys, z, e⟩ := snoc_of (xs := y :: r) fun z => nomatch z
    exact ⟨x :: ys, z, by rw [e]; rfl⟩
theorem rowsD_lay {hs : List Str} (hok : ∀ h ∈ hs, PyData.strOk h = true) {ls : List Str} (h : ∀ l ∈ ls, PyData.strOk l = true) : PyData.canLayAll0 (ls.map lineD) = true ∧ PyData.depthAll (ls.map lineD) ≤ 1 := by
  induction ls with
  | nil => exact ⟨rfl, Nat.zero_le _⟩
  | cons l r ih =>
    obtain ⟨i1, i2⟩ := ih fun x m => h x (List.mem_cons_of_mem _ m)
    obtain ⟨a1, a2⟩ := (things_of (Txt.split l " ")).sh fun w mw => (words_ok (c := 32) (h l List.mem_cons_self) w mw).1
    refine ⟨?_, ?_⟩
    · show (PyData.canLayAll0 (lineDs l) && PyData.canLayAll0 (r.map lineD)) = true
      rw [show PyData.canLayAll0 (lineDs l) = true from a1, i1]
      rfl
    · show max (PyData.depthAll (lineDs l) + 1) (PyData.depthAll (r.map lineD)) ≤ 1
      rw [show PyData.depthAll (lineDs l) = 0 from a2]
      omega
theorem ok_read_book (T : Txt K mg af fd) (B : TxtB base mg af) : FnOk P w K mg base (L2.CX P w) 8 (af 26) (fd 26) ["text"] (sp_read_book af (af 63) (af 61)) := by
  refine T.F_read_book.okX sc_read_book (fun vs H Q E h => ?_) (fun cdv A outer s H vs Q E hr h => ?_)
  · obtain ⟨x, rfl, _⟩ := h
    rfl
  · obtain ⟨x, rfl, W, ht, qQ, qT, qC⟩ := h
    refine ⟨_, (pss_cons (ps_asg (pe_bm PySem.F.plainAttrs_str PySem.F.slot_str_split PySem.F.type_str_split mt_split (pv 0) (pa_cons pe_str pa_nil)) (St.pg_star rfl (St.pgs_star (pg_name (i := 1) sc_read_book.nd rfl (by first | exact Or.inl rfl | exact Or.inr rfl)) (pgs_cons (pg_name (i := 2) sc_read_book.nd rfl (by first | exact Or.inl rfl | exact Or.inr rfl)) pgs_nil))))
        (pss_cons (ps_set (i := 3) sc_read_book.nd rfl (by first | exact Or.inl rfl | exact Or.inr rfl) (pe_ifExp (pt_truth (pv 1) (by intro _; rfl)) (pe_call (ok_read_town T B) (hr.mono (by first | decide | omega)) (by rfl) T.g_read_town T.F_read_town.kp T.b_read_town .nil pass0 (pa_cons (pe_ix ix_list (pv 1) pe_int (fun _ _ => rfl)) pa_nil)) pe_non))
        (pss_cons (ps_if (pt_cmpR op_isN (pv 3) pe_non (nomark _)) (pss_one (ps_raise rfl (takes_of rfl rfl rfl rfl) (pmk_oex T.e_NoText.T T.e_NoText.iC T.e_NoText.tI (ok_init_NoText T) (hr.mono (by decide)) T.e_NoText.b .nil pass0 (by rfl) T.e_NoText.g (pa_cons pe_int pa_nil)))) pss_nil)
        (pss_cons (ps_setLc (i := 4) (own := [("one", 5)]) (g := gName 5) (by rfl) sc_read_book.nd rfl rfl (sw_true rfl rfl rfl (by decide +kernel)) (pi_list (pe_slice sl_list (pv 1) (po_some pe_int) po_none)) (blkOk_by (own := [("one", 5)]) (N := ["text", "texts", "rest", "town", "rows", "one"]) (sc := defScope s_read_book) (by decide +kernel)) (fun _ _ _ _ _ => pg_name (i := 5) sc_read_book.nd rfl (Or.inl rfl)) (fun _ _ _ _ _ => pts_nil) (fun _ _ _ _ _ => (pe_call (ok_read_row T B) (hr.mono (by first | decide | omega)) (by rfl) T.g_read_row T.F_read_row.kp T.b_read_row .nil pass0 (pa_cons (pv 3) (pa_cons (pv 5) pa_nil)))))
        (pss_cons (ps_if (pt_cmpR (op_inD (hu65 hr)) pe_non (pv 4) (by rfl)) (pss_one (ps_raise rfl (takes_of rfl rfl rfl rfl) (pmk_oex T.e_NoText.T T.e_NoText.iC T.e_NoText.tI (ok_init_NoText T) (hr.mono (by decide)) T.e_NoText.b .nil pass0 (by rfl) T.e_NoText.g (pa_cons (pe_op op_add pe_int (pe_bm PySem.F.plainAttrs_list PySem.F.slot_list_index PySem.F.type_list_index (mt_indexD (hu65 hr)) (pv 4) (pa_cons pe_non pa_nil))) pa_nil)))) pss_nil)
        (pss_cons (ps_if (pt_truth (pv 2) (by intro _; rfl)) (pss_one (ps_raise rfl (takes_of rfl rfl rfl rfl) (pmk_oex T.e_NoText.T T.e_NoText.iC T.e_NoText.tI (ok_init_NoText T) (hr.mono (by decide)) T.e_NoText.b .nil pass0 (by rfl) T.e_NoText.g (pa_cons (pe_callB call_len_seq (by rfl) T.m_len (by decide +kernel) (pa_cons (pv 1) pa_nil)) pa_nil)))) pss_nil)
        (pss_cons (ps_expr (pe_call (ok_need_book T) (hr.mono (by first | decide | omega)) (by rfl) T.g_need_book T.F_need_book.kp T.b_need_book .nil (passes_call (takes_of rfl rfl rfl rfl) (fun _ _ _ _ h => h)) (pa_cons (pv 3) (pa_cons (pv 4) pa_nil))))
        (pss_one (ps_ret (pe_tup (pa_cons (pv 3) (pa_cons (pv 4) pa_nil)))))))))))), ?_⟩
    obtain ⟨tl, rest, cut⟩ := snoc_of (Tt.split_some x 10)
    have fitx : x.length + 2 ≤ sizeLine := Nat.le_trans (show _ ≤ 1000000 by have := W.len; omega) (by decide)
    refine ⟨_, rfl, rfl, x, _, rfl, rfl, rfl, fitx, fun p np => ?_⟩
    have cut : Txt.split x (Str.ofString "\n") = tl ++ [rest] := cut
    have few : tl.length ≤ 899 := by
      have := W.few
      rw [cut, List.length_append] at this
      have e : [rest].length = 1 := rfl
      omega
    have okx := W.ok
    have lok : ∀ l ∈ tl, PyData.strOk l = true ∧ l.length ≤ x.length := fun l m => words_ok (c := 10) okx l (by
      rw [show Txt.split x (Tt.sg 10) = tl ++ [rest] from cut]
      exact List.mem_append_left _ m)
    rw [cut]
    have s1 : Same H (upd H p (.lst ((tl ++ [rest]).map V.str))) := same_upd np
    have hp1 : (upd H p (.lst ((tl ++ [rest]).map V.str))) p = some (.lst ((tl ++ [rest]).map V.str)) := upd_same
    generalize upd H p (.lst ((tl ++ [rest]).map V.str)) = H1 at s1 hp1 ⊢
    have lines : ((tl ++ [rest]).map V.str).length - 1 = tl.length := by rw [List.length_map, List.length_append]; rfl
    have e1 : ((tl ++ [rest]).map V.str).take tl.length = tl.map V.str := by rw [← List.map_take, List.take_left]
    have e2 : ((tl ++ [rest]).map V.str).drop tl.length = [.str rest] := by rw [← List.map_drop, List.drop_left]; rfl
    refine ⟨p, _, rfl, SqL.of hp1, by rw [List.length_map, List.length_append]; exact Nat.succ_pos _, fun a na => ?_⟩
    rw [lines, e1, e2]
    have s2 : Same H (upd H1 a (.lst (tl.map V.str))) := same_mut s1 (s1.free na)
    have ha2 : (upd H1 a (.lst (tl.map V.str))) a = some (.lst (tl.map V.str)) := upd_same
    generalize upd H1 a (.lst (tl.map V.str)) = H2 at s2 ha2 ⊢
    refine ⟨_, _, rfl, _, _, rfl, rfl, ?_⟩
    refine ⟨_, rfl, _, .inl ⟨_, SqL.of ha2, rfl⟩, ?_⟩
    cases tl with
    | nil =>
      refine iteF ?_
      refine ⟨_, rfl, rfl, _, rfl, iteT ⟨(by show 1 ≤ 1000; decide), fun a2 na2 => ⟨a2, _, rfl, upd_same, fun dx nd ne => ⟨rfl, dx, [("number", .int 0)], upd_same, ?_, (same_upd na2).free nd, ?_⟩⟩⟩⟩
      · rw [upd_ne ne, upd_same]
      · exact qT 0 dx _ ((Sm.of s2).trans (Sm.of (raised1 na2 nd))) upd_same (.inl ⟨rest, cut, rfl⟩)
    | cons l0 mid =>
      refine iteT ?_
      have lok0 := lok l0 List.mem_cons_self
      have lx := W.len
      refine ⟨_, rfl, a, _, 0, .str l0, rfl, rfl, SqL.of ha2, at_any (j := 0) rfl rfl, l0, _, rfl, by omega, rfl, ht.same s2, fun H3 t s3 hTD nt hT => ?_, fun H3 s3 no => ?_⟩
      · have hTD : TownD (townL l0) := hTD
        have hT : TownAt H3 t (hsOf l0) (gsOf l0) := hT
        refine ⟨_, rfl, rfl, _, rfl, iteFd (fun z => by cases z) ?_⟩
        have s23 := (Sm.of s2).trans s3
        refine ⟨_, rfl, 1, rfl, a, _, rfl, SqL.of (s3.lst ha2), fun b nb => ⟨b, rfl, ⟨_, SqL.of upd_same⟩, ?_⟩⟩
        have ec : cutV ((l0 :: mid).map V.str) (some 1) none = mid.map V.str := by
          have := cut_from ((l0 :: mid).map V.str) 1
          rw [show ((1 : Nat) : Int) = 1 from rfl] at this
          rw [this]
          rfl
        rw [ec]
        have s4 : Same H3 (upd H3 b (.lst (mid.map V.str))) := same_upd nb
        have hb4 : (upd H3 b (.lst (mid.map V.str))) b = some (.lst (mid.map V.str)) := upd_same
        generalize upd H3 b (.lst (mid.map V.str)) = H4 at s4 hb4 ⊢
        have hT4 := hT.same' s4
        have s24 := s23.trans (Sm.of s4)
        have hokh : ∀ h ∈ hsOf l0, PyData.strOk h = true := fun h m => by
          obtain ⟨hs', gs', e, hh, _⟩ := hTD
          obtain ⟨e8, _⟩ := List.cons.inj (PyData.tuple.inj e)
          rw [strs_inj (PyData.tuple.inj e8)] at m
          exact (hh h m).ok
        have cut2 : Txt.split x "\n" = l0 :: (mid ++ [rest]) := cut
        have flen : mid.length ≤ 898 := by have : (l0 :: mid).length = mid.length + 1 := rfl; omega
        refine fun D nD => ?_
        refine lc_it (walk_list (K := K) (a := b) (xs := mid.map V.str)) (g := gName 5) (fun k G => Sm H4 G ∧ ∃ us, G D = some (.lst us) ∧ Rd8 (fun _ => True) G (hsOf l0) us ((mid.take k).map lineD))
          ⟨Sm.of (same_upd nD), [], upd_same, by rw [List.take_zero]; exact .nil⟩ (fun k G _ h => SqL.of (h.1.lst hb4)) ?_ ?_
        · rintro k v G1 G2 hk ⟨g1, us, hD, dq⟩ ⟨rfl, ev⟩
          rw [List.getElem?_map] at ev
          obtain ⟨w, ew, rfl⟩ := Option.map_eq_some_iff.mp ev
          have hk2 : k < mid.length := (List.getElem?_eq_some_iff.mp ew).1
          have mw := List.mem_cons_of_mem l0 (List.mem_of_getElem? ew)
          have lw := lok w mw
          have lu : us.length = k := by
            have a := dq.len
            rw [List.length_map, List.length_take] at a
            omega
          have nx : ∀ (v : V) (G3 : Hp), Sm G2 G3 → Rd1 (fun _ => True) (upd G3 D (.lst (us ++ [v]))) (hsOf l0) v (lineD w) → (∀ a xs, G3 a = some (.tup xs) → (upd G3 D (.lst (us ++ [v]))) a = some (.tup xs)) → Sm H4 (upd G3 D (.lst (us ++ [v]))) ∧ ∃ us', (upd G3 D (.lst (us ++ [v]))) D = some (.lst us') ∧ Rd8 (fun _ => True) (upd G3 D (.lst (us ++ [v]))) (hsOf l0) us' ((mid.take (k + 1)).map lineD) := fun v G3 g3 d1 kept => by
            refine ⟨(g1.trans g3).mut nD, us ++ [v], upd_same, ?_⟩
            rw [List.take_add_one, ew, List.map_append]
            exact (dq.go fun a xs e => kept a xs (g3.tup e)).snoc d1
          refine ⟨rfl, yes_if ⟨_, rfl, _, rfl, t, w, hsOf l0, gsOf l0, rfl, hT4.sm g1, hokh, lw.1, by omega, (ht.sm s24).sm g1, fun ds G3 r1 us1 g3 th1 isr nr hr1 dq1 => ?_, fun ds G3 g3 th1 no => ?_⟩⟩
          · obtain rfl := line_is th1
            have hD3 := g3.lst hD
            have kept : ∀ a xs, G3 a = some (.tup xs) → (upd G3 D (.lst (us ++ [.ref r1]))) a = some (.tup xs) := fun a xs e => by
              rw [upd_ne (ne_of e hD3 (fun z => nomatch z))]
              exact e
            exact ⟨us, hD3, small1000 (by omega), nx (.ref r1) G3 g3 (.yes isr (.tup (kept _ _ hr1) (dq1 _ _))) kept⟩
          · obtain rfl := line_is th1
            have hD3 := g3.lst hD
            have kept : ∀ a xs, G3 a = some (.tup xs) → (upd G3 D (.lst (us ++ [.non]))) a = some (.tup xs) := fun a xs e => by
              rw [upd_ne (ne_of e hD3 (fun z => nomatch z))]
              exact e
            exact ⟨us, hD3, small1000 (by omega), nx .non G3 g3 (.no no) kept⟩
        · rintro G1 ⟨g1, us, hD, dq⟩
          rw [List.length_map, List.take_length] at dq
          have lay := rowsD_lay (hs := hsOf l0) hokh (ls := mid) fun l m => (lok l (List.mem_cons_of_mem _ m)).1
          obtain ⟨c1, c2⟩ := rdD_lay (hs := hsOf l0) lay
          have shp : SeqAt.shaped (.list ((mid.map lineD).map (rdD (hsOf l0)))) = true := by
            unfold SeqAt.shaped
            rw [Bool.and_eq_true, decide_eq_true_eq]
            exact ⟨c1, by show PyData.depthAll ((mid.map lineD).map (rdD (hsOf l0))) + 1 ≤ 64; omega⟩
          have s5 := s24.trans g1
          have hT5 := hT4.sm g1
          have lus : us.length = mid.length := by rw [dq.len, List.length_map]
          refine ⟨_, rfl, .none, (mid.map lineD).map (rdD (hsOf l0)), .non, Dp.lst (SqL.of hD) dq.dqs.dp, rfl, shp, _, rfl, ?_⟩
          rcases first_no (IsRowD (hsOf l0)) (mid.map lineD) with all | ⟨k, d, ek, nod, before⟩
          · have noN : (((mid.map lineD).map (rdD (hsOf l0))).any fun z => PyData.eqv z .none) = false := by
              rw [List.any_map, List.any_eq_false]
              intro d m
              rw [Function.comp_apply, rdD_eqv.1 (all d m)]
              decide
            rw [noN]
            have rows : RowsD (hsOf l0) (mid.map lineD) mid.length := fun j d _ e => all d (List.mem_of_getElem? e)
            have lr : rest.length ≤ sizeLine := by
              have := (words_ok (c := 10) okx rest (by rw [show Txt.split x (Tt.sg 10) = (l0 :: mid) ++ [rest] from cut]; exact List.mem_append_right _ List.mem_cons_self)).2
              omega
            refine iteF ⟨_, rfl, ?_⟩
            by_cases e0 : rest = ""
            · subst e0
              refine ⟨false, ⟨lr, rfl⟩, iteF ?_⟩
              have qs : (mid.map lineD).map (rdD (hsOf l0)) = mid.map lineD := by
                refine (List.map_congr_left fun d m => rdD_yes (all d m)).trans (List.map_id _)
              have dq2 := dq.dqs
              rw [qs] at dq2
              refine ⟨_, rfl, _, rfl, fun _ => True, t, D, hsOf l0, gsOf l0, us, mid.map lineD, rfl, hT5, hokh, hD, ⟨dq2, fun d m => ?_⟩, by rw [List.length_map]; omega, fun H6 s6 _ nc => ?_, fun i dv d H6 hr6 e6 no => ?_, fun f s' d H6 hr6 F s6 h6 => ?_⟩
              · obtain ⟨l, ml, rfl⟩ := List.mem_map.mp m
                obtain ⟨d1, d2⟩ := (things_of (Txt.split l " ")).sh fun w mw => (words_ok (c := 32) (lok l (List.mem_cons_of_mem _ ml)).1 w mw).1
                exact ⟨d1, by show PyData.depthAll (lineDs l) + 1 ≤ 60; rw [show PyData.depthAll (lineDs l) = 0 from d2]; decide⟩
              · refine ⟨_, rfl, _, rfl, (by show 2 ≤ sizeLine; decide), fun u nu => ?_⟩
                have s7 := s5.trans (Sm.of s6)
                have hD6 := s6 _ _ hD
                have su := same_upd (o := .tup [.ref t, .ref D]) nu
                obtain ⟨rs, e, hrw, Bk⟩ := book_of hokh (dq2.same s6) (by rw [List.length_map]; exact rows) nc
                rw [e] at dq2
                refine qQ l0 mid rs u t D us _ (s7.mut (s7.free nu)) upd_same ((hT5.same' s6).same' su) (su _ _ hD6) (s24.free nD) (fun Ex => dq2.anyE fun a xs e => su _ _ (s6 _ _ e)) (.inr ⟨l0, mid, "", cut, .told rs hTD rows rfl ?_ e⟩)
                rw [List.length_map] at nc
                exact nc
              · exact absurd (all dv (List.mem_of_getElem? e6)) no
              · exact qC f s' d H6 (s5.trans (Sm.of s6)) h6 (.inr ⟨l0, mid, "", cut, .clash f s' hTD rows rfl F⟩)
            · have l1 : rest.length ≠ 0 := fun z => e0 (Tt.str_ext (by rw [List.length_eq_zero_iff.mp ((Tt.len_list rest).symm.trans z)]; rfl))
              refine ⟨true, ⟨lr, ?_⟩, iteT ?_⟩
              · rw [bne_iff_ne.mpr (show ((rest.length : Int)) ≠ 0 by omega)]
              have lenE : ((l0 :: mid).map V.str).length = 1 + mid.length := by rw [List.length_map, List.length_cons]; omega
              refine ⟨_, rfl, a, _, rfl, .inl (SqL.of ((((s3.trans (Sm.of s4)).trans g1)).lst ha2)), ?_⟩
              rw [lenE]
              refine ⟨(by show 1 ≤ 1000; decide), fun a2 na2 => ⟨a2, _, rfl, upd_same, fun dx nd ne => ⟨rfl, dx, [("number", .int ((1 + mid.length : Nat) : Int))], upd_same, ?_, (same_upd na2).free nd, ?_⟩⟩⟩
              · rw [upd_ne ne, upd_same]
              · exact qT _ dx _ (s5.trans (Sm.of (raised1 na2 nd))) upd_same (.inr ⟨l0, mid, rest, cut, .rest hTD rows e0⟩)
          · have yesN : (((mid.map lineD).map (rdD (hsOf l0))).any fun z => PyData.eqv z .none) = true := by
              rw [List.any_map, List.any_eq_true]
              exact ⟨d, List.mem_of_getElem? ek, rdD_eqv.2 nod⟩
            rw [yesN]
            rw [List.getElem?_map] at ek
            obtain ⟨l, el, rfl⟩ := Option.map_eq_some_iff.mp ek
            have ek2 : ((mid.map lineD).map (rdD (hsOf l0)))[k]? = some (rdD (hsOf l0) (lineD l)) := by rw [List.getElem?_map, List.getElem?_map, el]; rfl
            have hk : k < mid.length := (List.getElem?_eq_some_iff.mp el).1
            refine iteT ⟨_, rfl, .inl ⟨rfl, _, SqL.of hD⟩, D, .non, .none, _, k, _, rfl, rfl, Dp.lst (SqL.of hD) dq.dqs.dp, .non, shp, rfl, ek2, rdD_eqv.2 nod, fun m z lm ez => ?_, _, _, rfl, rfl, ?_⟩
            · rw [List.getElem?_map] at ez
              obtain ⟨d, ed, rfl⟩ := Option.map_eq_some_iff.mp ez
              exact rdD_eqv.1 (before m d lm ed)
            · refine ⟨(by show 1 ≤ 1000; decide), fun a2 na2 => ⟨a2, _, rfl, upd_same, fun dx nd ne => ⟨rfl, dx, [("number", .int ((1 + k : Nat) : Int))], upd_same, ?_, (same_upd na2).free nd, ?_⟩⟩⟩
              · rw [upd_ne ne, upd_same]
                rfl
              · exact qT _ dx _ (s5.trans (Sm.of (raised1 na2 nd))) upd_same (.inr ⟨l0, mid, rest, cut, .row k l hTD (fun j d lj e => before j d lj e) el nod⟩)
      · refine ⟨_, rfl, rfl, _, rfl, iteT ⟨(by show 1 ≤ 1000; decide), fun a2 na2 => ⟨a2, _, rfl, upd_same, fun dx nd ne => ⟨rfl, dx, [("number", .int 0)], upd_same, ?_, (same_upd na2).free nd, ?_⟩⟩⟩⟩
        · rw [upd_ne ne, upd_same]
        · exact qT 0 dx _ (((Sm.of s2).trans s3).trans (Sm.of (raised1 na2 nd))) upd_same (.inr ⟨l0, mid, rest, cut, .town no⟩)
theorem cps_lt_of {a b : Str} (h : ¬ b.cps.toList < a.cps.toList) (ne : a ≠ b) : a.cps.toList < b.cps.toList := by
  refine Decidable.byContradiction fun n => ne ?_
  have e : a.cps.toList = b.cps.toList := List.le_antisymm (List.not_lt.mp h) (List.not_lt.mp n)
  cases a
  cases b
  simp at e
  rw [e]
theorem rising_pair : ∀ {r : List Str} {p : Str}, risingS p r = true → (∀ x ∈ r, ¬ x.cps.toList < p.cps.toList) ∧ r.Pairwise fun a b => ¬ b.cps.toList < a.cps.toList
  | [], _, _ => ⟨fun _ m => (nomatch m), List.Pairwise.nil⟩
  | x :: r, p, h => by
    have h : (!ltCps x.cps.toList p.cps.toList && risingS x r) = true := h
    rw [Bool.and_eq_true] at h
    obtain ⟨i1, i2⟩ := rising_pair h.2
    have hx : ¬ x.cps.toList < p.cps.toList := by
      have := h.1
      rw [ltCps_eq] at this
      simpa using this
    refine ⟨fun y m => ?_, List.pairwise_cons.mpr ⟨i1, i2⟩⟩
    rcases List.mem_cons.mp m with rfl | m
    · exact hx
    · exact List.not_lt.mpr (List.le_trans (List.not_lt.mp hx) (List.not_lt.mp (i1 y m)))
theorem up_pair {hs : List Str} (h : sortedS hs = true) (nd : hs.Nodup) : hs.Pairwise fun a b => a.cps.toList < b.cps.toList := by
  cases hs with
  | nil => exact List.Pairwise.nil
  | cons x r =>
    obtain ⟨h1, h2⟩ := rising_pair (show risingS x r = true from h)
    have p : (x :: r).Pairwise fun a b => ¬ b.cps.toList < a.cps.toList := List.pairwise_cons.mpr ⟨h1, h2⟩
    have both := p.and (List.nodup_iff_pairwise_ne.mp nd)
    exact both.imp fun z => cps_lt_of z.1 z.2
theorem rising_of {xs : List Str} (h : xs.Pairwise fun a b => a.cps.toList < b.cps.toList) : RisS xs := fun i x y e1 e2 => by
  obtain ⟨h1, rfl⟩ := List.getElem?_eq_some_iff.mp e1
  obtain ⟨h2, rfl⟩ := List.getElem?_eq_some_iff.mp e2
  exact (List.pairwise_iff_getElem.mp h) i (i + 1) h1 h2 (Nat.lt_succ_self _)
theorem Good.isTown {hs gs : List Str} {n : Nat} (g : Good hs gs n) (h : n ≤ 6) : TownD (.tuple [.tuple (hs.map PyData.str), .tuple (gs.map PyData.str)]) :=
  ⟨hs, gs, rfl, g.hou, rising_of (up_pair g.up g.nd), fun x m => g.hou x (g.sub.subset m), rising_of ((up_pair g.up g.nd).sublist g.sub), g.one, Nat.le_trans g.few h, fun x m => g.sub.subset m⟩
theorem dqs_of_strs {Ex : Addr → Prop} {H : Hp} : ∀ hs : List Str, Dqs Ex H (hs.map V.str) (hs.map PyData.str)
  | [] => .nil
  | h :: r => .cons (.str h) (dqs_of_strs r)
theorem TownAt.dq {Ex : Addr → Prop} {H : Hp} {t : Addr} {hs gs : List Str} (h : TownAt H t hs gs) : Dq Ex H (.ref t) (.tuple [.tuple (hs.map PyData.str), .tuple (gs.map PyData.str)]) := by
  obtain ⟨a, b, h1, h2, h3⟩ := h
  exact .tup h1 (.cons (.tup h2 (dqs_of_strs hs)) (.cons (.tup h3 (dqs_of_strs gs)) .nil))
theorem bnd_strs : ∀ {hs : List Str}, (∀ h ∈ hs, HouseS h) → bndDs (hs.map PyData.str)
  | [], _ => trivial
  | h :: r, a => ⟨Nat.le_trans (a h List.mem_cons_self).len (by decide), bnd_strs fun x m => a x (List.mem_cons_of_mem _ m)⟩
theorem Good.bnd {hs gs : List Str} {n : Nat} (g : Good hs gs n) (h : n ≤ 6) : bndD (.tuple [.tuple (hs.map PyData.str), .tuple (gs.map PyData.str)]) := by
  have l1 := g.few
  have l2 := g.sub.length_le
  refine ⟨(by show 2 ≤ 1000000; decide), ⟨?_, bnd_strs g.hou⟩, ⟨?_, bnd_strs fun x m => g.hou x (g.sub.subset m)⟩, trivial⟩
  · rw [List.length_map]; omega
  · rw [List.length_map]; omega
/-! ### what is shown reads as it was -/
def LowS (x : Str) : Prop := 1 ≤ x.length ∧ ∀ c ∈ x.cps.toList, 97 ≤ c ∧ c ≤ 122
theorem low_house {h : Str} (x : HouseS h) : LowS h := ⟨by rw [Tt.len_list]; exact x.1, x.2.2⟩
theorem low_no {x : Str} (h : LowS x) : ¬ NumS x := fun ⟨_, _, d, _⟩ => by
  have nd : ∀ cs, x.cps.toList ≠ 45 :: cs := fun cs e => by
    have := (h.2 45 (by rw [e]; exact List.mem_cons_self)).1
    omega
  rw [show figsOf x = x from Tt.rp_no (c := 45) nd] at d
  cases e : x.cps.toList with
  | nil =>
    have := h.1
    rw [Tt.len_list, e] at this
    cases this
  | cons c cs =>
    have m : c ∈ x.cps.toList := by rw [e]; exact List.mem_cons_self
    have := (h.2 c m).1
    have := (d c m).2
    omega
theorem low_words : LowS "ask" ∧ LowS "job" ∧ LowS "all" := by
  refine ⟨⟨by decide, ?_⟩, ⟨by decide, ?_⟩, ⟨by decide, ?_⟩⟩ <;> decide +kernel
theorem low_ok {x : Str} (h : LowS x) : PyData.strOk x = true := ok_iff.mpr fun c m => by
  have := (h.2 c m).2
  omega
def numT (n : Int) : Str := Str.ofString (toString n)
theorem numT_sg {n : Int} (h : n.natAbs < 10 ^ 13) : NumS (numT n) ∧ PySem.intText? (numT n) = some n ∧ (∀ c ∈ (numT n).cps.toList, c = 45 ∨ (48 ≤ c ∧ c ≤ 57)) := by
  cases n with
  | ofNat m =>
    have hm : m < 10 ^ 13 := h
    have e : (numT (Int.ofNat m)).cps.toList = (Nat.toDigits 10 m).map Char.toNat := PySem.W.KIN.signs_num m
    have ds := Tt.dig_nat m
    have dl := Tt.dig_len 12 m hm
    have ln : (numT (Int.ofNat m)).length = (Nat.toDigits 10 m).length := by rw [Tt.len_list, e, List.length_map]
    have nd : ∀ cs, (numT (Int.ofNat m)).cps.toList ≠ 45 :: cs := fun cs k => by
      have := (ds 45 (by rw [← e, k]; exact List.mem_cons_self)).1
      omega
    have ef : figsOf (numT (Int.ofNat m)) = numT (Int.ofNat m) := Tt.rp_no (c := 45) nd
    refine ⟨⟨by rw [ef]; omega, by rw [ef]; omega, fun c mc => by rw [ef, e] at mc; exact ds c mc, fun sw => ?_⟩, ?_, fun c mc => .inr (by rw [e] at mc; exact ds c mc)⟩
    · rw [ef] at sw
      by_cases z : ∃ cs, (numT (Int.ofNat m)).cps.toList = 48 :: cs
      · obtain ⟨cs, k⟩ := z
        have m0 := Tt.dig_head m 48 cs (by rw [← e]; exact k) rfl
        subst m0
        exact Tt.str_ext (by decide +kernel)
      · rw [show Txt.startswith (numT (Int.ofNat m)) "0" = false from Tt.sw_no (c := 48) fun cs k => z ⟨cs, k⟩] at sw
        cases sw
    · have k := PySem.intText_digits (x := numT (Int.ofNat m)) (fun c mc => by rw [e] at mc; exact ds c mc) (fun z => by
        rw [e] at z
        have := congrArg List.length z
        rw [List.length_map] at this
        rw [this] at dl
        exact absurd dl.2 (by decide)) (by omega)
      rw [e, PySem.W.KIN.val_back] at k
      exact k
  | negSucc m =>
    have hm : m + 1 < 10 ^ 13 := h
    have e : (numT (Int.negSucc m)).cps.toList = 45 :: (Nat.toDigits 10 (m + 1)).map Char.toNat := Tt.neg_text m
    have ds := Tt.dig_nat (m + 1)
    have dl := Tt.dig_len 12 (m + 1) hm
    have ef : (figsOf (numT (Int.negSucc m))).cps.toList = (Nat.toDigits 10 (m + 1)).map Char.toNat := Tt.rp_yes (c := 45) e
    have lf : (figsOf (numT (Int.negSucc m))).length = (Nat.toDigits 10 (m + 1)).length := by rw [Tt.len_list, ef, List.length_map]
    have ln : (numT (Int.negSucc m)).length = (Nat.toDigits 10 (m + 1)).length + 1 := by rw [Tt.len_list, e, List.length_cons, List.length_map]
    refine ⟨⟨by omega, by omega, fun c mc => by rw [ef] at mc; exact ds c mc, fun sw => ?_⟩, ?_, fun c mc => ?_⟩
    · by_cases z : ∃ cs, (figsOf (numT (Int.negSucc m))).cps.toList = 48 :: cs
      · obtain ⟨cs, k⟩ := z
        exact absurd (Tt.dig_head (m + 1) 48 cs (by rw [← ef]; exact k) rfl) (Nat.succ_ne_zero m)
      · rw [show Txt.startswith (figsOf (numT (Int.negSucc m))) "0" = false from Tt.sw_no (c := 48) fun cs k => z ⟨cs, k⟩] at sw
        cases sw
    · have k := PySem.intText_neg (x := numT (Int.negSucc m)) e ds (fun z => by
        have := congrArg List.length z
        rw [List.length_map] at this
        rw [this] at dl
        exact absurd dl.2 (by decide)) (by omega)
      rw [PySem.W.KIN.val_back] at k
      exact k
    · rw [e] at mc
      rcases List.mem_cons.mp mc with z | z
      · exact .inl z
      · exact .inr (ds c z)
/-! a row's words -/
theorem row_words {hs : List Str} (hh : ∀ h ∈ hs, HouseS h) {r : Row} (w : r.Wf) (i : r.In hs) : Things (r.vals.map vS) r.data ∧ (∀ x ∈ r.vals.map vS, PyData.strOk x = true ∧ 32 ∉ x.cps.toList ∧ 10 ∉ x.cps.toList) := by
  have num : ∀ k : Int, k.natAbs < 10 ^ 13 → thingD (vS (.int k)) (.int k) ∧ (PyData.strOk (vS (.int k)) = true ∧ 32 ∉ (vS (.int k)).cps.toList ∧ 10 ∉ (vS (.int k)).cps.toList) := fun k h => by
    obtain ⟨a, b, c⟩ := numT_sg h
    refine ⟨.inl ⟨a, k, b, rfl⟩, ok_iff.mpr fun d m => ?_, fun m => ?_, fun m => ?_⟩
    · have := c d m; omega
    · have := c 32 m; omega
    · have := c 10 m; omega
  have low : ∀ x : Str, LowS x → thingD (vS (.str x)) (.str x) ∧ (PyData.strOk (vS (.str x)) = true ∧ 32 ∉ (vS (.str x)).cps.toList ∧ 10 ∉ (vS (.str x)).cps.toList) := fun x h =>
    ⟨.inr ⟨low_no h, rfl⟩, low_ok h, fun m => by have := h.2 32 m; omega, fun m => by have := h.2 10 m; omega⟩
  have t13 : (10 : Nat) ^ 13 = 10000000000000 := by decide
  have nm : ∀ k : Int, NumI k → k.natAbs < 10 ^ 13 := fun k h => by have := h.1; have := h.2; omega
  have ct : ∀ k : Int, CntI k → k.natAbs < 10 ^ 13 := fun k h => by have := h.1; have := h.2; omega
  have tm : ∀ k : Int, TimeI k → k.natAbs < 10 ^ 13 := fun k h => by have := h.1; have := h.2; omega
  obtain ⟨wa, wj, wl⟩ := low_words
  have nilm : ∀ x ∈ ([] : List Str), PyData.strOk x = true ∧ 32 ∉ x.cps.toList ∧ 10 ∉ x.cps.toList := fun _ m => nomatch m
  have cm : ∀ {x : Str} {xs : List Str}, (PyData.strOk x = true ∧ 32 ∉ x.cps.toList ∧ 10 ∉ x.cps.toList) → (∀ y ∈ xs, PyData.strOk y = true ∧ 32 ∉ y.cps.toList ∧ 10 ∉ y.cps.toList) → ∀ y ∈ x :: xs, PyData.strOk y = true ∧ 32 ∉ y.cps.toList ∧ 10 ∉ y.cps.toList := fun a b y m => (List.mem_cons.mp m).elim (fun e => e ▸ a) (b y)
  cases r with
  | ask h g k n o b =>
    obtain ⟨w1, w2, w3, w4, w5, w6, w7⟩ := w
    have a1 := low _ wa
    have a2 := low h (low_house (hh h i.1))
    have a3 := num k (nm k w3)
    have a4 := num n (nm n w4)
    have a5 := low g (low_house (hh g i.2))
    have a6 := num o (tm o w5)
    have a7 := num b (tm b w6)
    exact ⟨.cons a1.1 (.cons a2.1 (.cons a3.1 (.cons a4.1 (.cons a5.1 (.cons a6.1 (.cons a7.1 .nil)))))), cm a1.2 (cm a2.2 (cm a3.2 (cm a4.2 (cm a5.2 (cm a6.2 (cm a7.2 nilm))))))⟩
  | job h k o b =>
    obtain ⟨w1, w2, w3, w4, w5⟩ := w
    have a1 := low _ wj
    have a2 := low h (low_house (hh h i))
    have a3 := num k (nm k w2)
    have a6 := num o (tm o w3)
    have a7 := num b (tm b w4)
    exact ⟨.cons a1.1 (.cons a2.1 (.cons a3.1 (.cons a6.1 (.cons a7.1 .nil)))), cm a1.2 (cm a2.2 (cm a3.2 (cm a6.2 (cm a7.2 nilm))))⟩
  | all h a j =>
    obtain ⟨w1, w2, w3⟩ := w
    have a1 := low _ wl
    have a2 := low h (low_house (hh h i))
    have a3 := num a (ct a w2)
    have a4 := num j (ct j w3)
    exact ⟨.cons a1.1 (.cons a2.1 (.cons a3.1 (.cons a4.1 .nil))), cm a1.2 (cm a2.2 (cm a3.2 (cm a4.2 nilm)))⟩
theorem joinE (sep : Str) (ys : List Str) : Txt.join sep ys = Str.join sep ys := StrLaws.glued_eq_join sep ys
theorem join_from {c k : Nat} : ∀ {ps : List Str}, k ∈ (Str.join (Tt.sg c) ps).cps.toList → k = c ∨ ∃ p ∈ ps, k ∈ p.cps.toList
  | [], h => by
    have e : (Str.join (Tt.sg c) []).cps.toList = [] := (by decide +kernel : Str.empty.cps.toList = [])
    rw [e] at h
    exact nomatch h
  | [x], h => .inr ⟨x, List.mem_cons_self, h⟩
  | x :: y :: r, h => by
    rw [Tt.join_two] at h
    rcases List.mem_append.mp h with h | h
    · exact .inr ⟨x, List.mem_cons_self, h⟩
    · rcases List.mem_cons.mp h with h | h
      · exact .inl h
      · rcases join_from h with h | ⟨p, mp, h⟩
        · exact .inl h
        · exact .inr ⟨p, List.mem_cons_of_mem _ mp, h⟩
theorem row_text {hs : List Str} (hh : ∀ h ∈ hs, HouseS h) {r : Row} (w : r.Wf) (i : r.In hs) : Things (Txt.split (rowS r) " ") r.data ∧ 10 ∉ (rowS r).cps.toList ∧ PyData.strOk (rowS r) = true := by
  obtain ⟨th, free⟩ := row_words hh w i
  have ne : r.vals.map vS ≠ [] := by cases r <;> exact fun z => (nomatch z)
  have es : rowS r = Str.join (Tt.sg 32) (r.vals.map vS) := joinE _ _
  refine ⟨?_, ?_, ?_⟩
  · rw [es, show Txt.split (Str.join (Tt.sg 32) (r.vals.map vS)) " " = r.vals.map vS from Tt.split_join (c := 32) ne fun x m => (free x m).2.1]
    exact th
  · rw [es]
    intro m
    rcases join_from m with e | ⟨p, mp, e⟩
    · cases e
    · exact (free p mp).2.2 e
  · rw [es]
    refine ok_iff.mpr fun c m => ?_
    rcases join_from m with e | ⟨p, mp, e⟩
    · rw [e]; decide
    · exact ok_iff.mp (free p mp).1 c e
/-! a town's words -/
theorem plus_list (h : Str) : (h ++ ("+" : Str)).cps.toList = h.cps.toList ++ [43] := by
  rw [Tt.cat_list]
  rfl
theorem low_last {h : Str} (x : LowS h) : ∀ cs, h.cps.toList ≠ cs ++ [43] := fun cs e => by
  have := (x.2 43 (by rw [e]; exact List.mem_append_right _ List.mem_cons_self)).1
  omega
theorem hou_off {gs : List Str} {h : Str} (x : LowS h) : offS (houS gs h) = h ∧ gateS (houS gs h) = decide (h ∈ gs) := by
  unfold houS
  by_cases m : h ∈ gs
  · rw [if_pos m, decide_eq_true m]
    exact ⟨Tt.str_ext (Tt.rs_yes (c := 43) (plus_list h)), Tt.ew_yes (c := 43) (plus_list h)⟩
  · rw [if_neg m, decide_eq_false m]
    exact ⟨Tt.rs_no (c := 43) (low_last x), Tt.ew_no (c := 43) (low_last x)⟩
theorem hou_free {gs : List Str} {h : Str} (x : LowS h) : PyData.strOk (houS gs h) = true ∧ 32 ∉ (houS gs h).cps.toList ∧ 10 ∉ (houS gs h).cps.toList := by
  have key : ∀ c ∈ (houS gs h).cps.toList, c = 43 ∨ (97 ≤ c ∧ c ≤ 122) := fun c mc => by
    unfold houS at mc
    by_cases m : h ∈ gs
    · rw [if_pos m, plus_list] at mc
      rcases List.mem_append.mp mc with mc | mc
      · exact .inr (x.2 c mc)
      · exact .inl (List.mem_singleton.mp mc)
    · rw [if_neg m] at mc
      exact .inr (x.2 c mc)
  exact ⟨ok_iff.mpr fun c m => by have := key c m; omega, fun m => by have := key 32 m; omega, fun m => by have := key 10 m; omega⟩
theorem sub_filter : ∀ {gs hs : List Str}, gs.Sublist hs → hs.Nodup → hs.filter (fun h => decide (h ∈ gs)) = gs
  | _, _, .slnil, _ => rfl
  | gs, a :: hs, .cons _ s, nd => by
    obtain ⟨n1, n2⟩ := List.nodup_cons.mp nd
    rw [List.filter_cons, if_neg (by rw [decide_eq_true_iff]; exact fun m => n1 (s.subset m)), sub_filter s n2]
  | a :: gs, _ :: hs, .cons₂ _ s, nd => by
    obtain ⟨n1, n2⟩ := List.nodup_cons.mp nd
    rw [List.filter_cons, if_pos (decide_eq_true List.mem_cons_self)]
    congr 1
    refine Eq.trans ?_ (sub_filter s n2)
    refine List.filter_congr fun x mx => decide_eq_decide.mpr ⟨fun m => ?_, List.mem_cons_of_mem _⟩
    rcases List.mem_cons.mp m with e | m
    · exact absurd (e ▸ mx) n1
    · exact m
theorem town_text {hs gs : List Str} {n : Nat} (g : Good hs gs n) : (Txt.split (townS hs gs) " ").map offS = hs ∧ ((Txt.split (townS hs gs) " ").filter gateS).map offS = gs ∧ 10 ∉ (townS hs gs).cps.toList ∧ PyData.strOk (townS hs gs) = true := by
  have low : ∀ h ∈ hs, LowS h := fun h m => low_house (g.hou h m)
  have free : ∀ x ∈ hs.map (houS gs), PyData.strOk x = true ∧ 32 ∉ x.cps.toList ∧ 10 ∉ x.cps.toList := fun x m => by
    obtain ⟨h, mh, rfl⟩ := List.mem_map.mp m
    exact hou_free (low h mh)
  have ne : hs.map (houS gs) ≠ [] := fun z => by
    have := g.one
    rw [List.map_eq_nil_iff.mp z] at this
    cases this
  have es : townS hs gs = Str.join (Tt.sg 32) (hs.map (houS gs)) := joinE _ _
  have sp : Txt.split (townS hs gs) " " = hs.map (houS gs) := by
    rw [es]
    exact Tt.split_join (c := 32) ne fun x m => (free x m).2.1
  rw [sp, List.filter_map, List.map_map, List.map_map]
  refine ⟨?_, ?_, ?_, ?_⟩
  · refine (List.map_congr_left fun h m => (hou_off (low h m)).1).trans (List.map_id _)
  · rw [show hs.filter (gateS ∘ houS gs) = hs.filter (fun h => decide (h ∈ gs)) from List.filter_congr fun h m => (hou_off (low h m)).2, sub_filter g.sub g.nd]
    exact (List.map_congr_left fun h m => (hou_off (low h (g.sub.subset m))).1).trans (List.map_id _)
  · rw [es]
    intro m
    rcases join_from m with e | ⟨p, mp, e⟩
    · cases e
    · exact (free p mp).2.2 e
  · rw [es]
    refine ok_iff.mpr fun c m => ?_
    rcases join_from m with e | ⟨p, mp, e⟩
    · rw [e]; decide
    · exact ok_iff.mp (free p mp).1 c e
/-! lines, each ended by a line feed -/
theorem lines_join : ∀ {ls : List Str}, ls ≠ [] → Str.join "" (ls.map lineS) = Str.join (Tt.sg 10) (ls ++ [("" : Str)])
  | [x], _ => Tt.str_ext (by
    show (x ++ ("\n" : Str)).cps.toList = (x ++ Tt.sg 10 ++ ("" : Str)).cps.toList
    rw [Tt.cat_list, Tt.cat_list, Tt.cat_list]
    exact (List.append_nil _).symm)
  | x :: y :: r, _ => Tt.str_ext (by
    have ih := congrArg (fun z : Str => z.cps.toList) (lines_join (ls := y :: r) (fun z => nomatch z))
    have ih : (Str.join "" ((y :: r).map lineS)).cps.toList = (Str.join (Tt.sg 10) (y :: r ++ [("" : Str)])).cps.toList := ih
    show (lineS x ++ ("" : Str) ++ Str.join "" ((y :: r).map lineS)).cps.toList = (x ++ Tt.sg 10 ++ Str.join (Tt.sg 10) (y :: r ++ [("" : Str)])).cps.toList
    rw [Tt.cat_list, Tt.cat_list, Tt.cat_list, Tt.cat_list, ih]
    show ((x ++ ("\n" : Str)).cps.toList ++ []) ++ _ = _
    rw [List.append_nil, Tt.cat_list]
    rfl)
/-! ### numbers as texts, one and only one text each -/
open PySem.NumText in
theorem dig_uniq : ∀ (n : Nat) (cs : List Nat), cs.length = n → AllDigits cs → cs ≠ [] → (∀ r, cs = 48 :: r → r = []) → (Nat.toDigits 10 (digitsVal cs)).map Char.toNat = cs := by
  intro n
  induction n with
  | zero => exact fun cs l _ ne => absurd (List.length_eq_zero_iff.mp l) ne
  | succ n ih =>
    intro cs l ad ne z
    obtain ⟨ini, c, rfl⟩ := snoc_of ne
    have hc : 48 ≤ c ∧ c ≤ 57 := ad c (List.mem_append_right _ List.mem_cons_self)
    have ev : digitsVal (ini ++ [c]) = digitsVal ini * 10 + (c - 48) := by
      unfold digitsVal
      rw [List.foldl_append]
      rfl
    have back : ∀ k : Nat, k < 10 → (Nat.digitChar k).toNat = k + 48 := by decide
    cases ini with
    | nil =>
      rw [ev, show digitsVal [] * 10 + (c - 48) = c - 48 from by show 0 * 10 + (c - 48) = _; omega, Nat.toDigits_of_lt_base (show c - 48 < 10 by omega)]
      show [(Nat.digitChar (c - 48)).toNat] = [c]
      rw [back (c - 48) (by omega), show c - 48 + 48 = c by omega]
    | cons d r =>
      have h48 : d ≠ 48 := fun e => by
        have := z (r ++ [c]) (by rw [e]; rfl)
        exact absurd this (by cases r <;> exact fun z => nomatch z)
      have i := ih (d :: r) (by
        rw [List.length_append] at l
        exact Nat.succ.inj l) (fun x m => ad x (List.mem_append_left _ m)) (fun z => nomatch z) (fun t e => absurd (List.cons.inj e).1 h48)
      have big : digitsVal (d :: r) ≠ 0 := fun e => by
        rw [e] at i
        exact h48 (List.cons.inj (show [48] = d :: r from i)).1.symm
      rw [ev, Tt.dig_step (show ¬ digitsVal (d :: r) * 10 + (c - 48) < 10 by omega), List.map_append, show (digitsVal (d :: r) * 10 + (c - 48)) / 10 = digitsVal (d :: r) by omega, show (digitsVal (d :: r) * 10 + (c - 48)) % 10 = c - 48 by omega, i, Nat.toDigits_of_lt_base (show c - 48 < 10 by omega)]
      show (d :: r) ++ [(Nat.digitChar (c - 48)).toNat] = _
      rw [back (c - 48) (by omega), show c - 48 + 48 = c by omega]
/-- a text of digits, or of a dash and digits, none too much -/
inductive CanonS (x : Str) : Int → Prop
  | pos (m : Nat) : x.cps.toList = (Nat.toDigits 10 m).map Char.toNat → CanonS x (m : Int)
  | neg (m : Nat) : x.cps.toList = 45 :: (Nat.toDigits 10 (m + 1)).map Char.toNat → CanonS x (-((m + 1 : Nat) : Int))
theorem numT_canon (n : Int) : CanonS (numT n) n := by
  cases n with
  | ofNat m => exact .pos m (PySem.W.KIN.signs_num m)
  | negSucc m => exact .neg m (Tt.neg_text m)
theorem CanonS.eq {x : Str} {n : Int} (h : CanonS x n) : x = numT n := by
  cases h with
  | pos m e => exact Tt.str_ext (e.trans (PySem.W.KIN.signs_num m).symm)
  | neg m e => exact Tt.str_ext (e.trans (Tt.neg_text m).symm)
theorem numT_inj {m n : Int} (h : numT m = numT n) : m = n := by
  have a := numT_canon m
  rw [h] at a
  have key : ∀ {k l : Nat}, (Nat.toDigits 10 k).map Char.toNat = (Nat.toDigits 10 l).map Char.toNat → k = l := fun {k l} e => by
    rw [← PySem.W.KIN.val_back k, e, PySem.W.KIN.val_back]
  have nd : ∀ {k : Nat} {cs : List Nat}, (Nat.toDigits 10 k).map Char.toNat = 45 :: cs → False := fun {k cs} e => by
    have := (Tt.dig_nat k 45 (by rw [e]; exact List.mem_cons_self)).1
    omega
  generalize e : numT n = x at a
  have b := numT_canon n
  rw [e] at b
  cases a with
  | pos k e1 =>
    cases b with
    | pos l e2 => rw [key (e1.symm.trans e2)]
    | neg l e2 => exact (nd (e1.symm.trans e2)).elim
  | neg k e1 =>
    cases b with
    | pos l e2 => exact (nd (e2.symm.trans e1)).elim
    | neg l e2 =>
      have := key (List.cons.inj (e1.symm.trans e2)).2
      rw [this]
theorem num_canon {x : Str} {n : Int} (h : NumS x) (e : PySem.intText? x = some n) : x = numT n := by
  obtain ⟨l1, l2, dg, z⟩ := h
  refine CanonS.eq ?_
  by_cases d : ∃ cs, x.cps.toList = 45 :: cs
  · obtain ⟨cs, ex⟩ := d
    have ef : (figsOf x).cps.toList = cs := Tt.rp_yes (c := 45) ex
    have lx : x.length = (figsOf x).length + 1 := by rw [Tt.len_list, ex, Tt.len_list, ef]; rfl
    have dc : PySem.NumText.AllDigits cs := fun c m => dg c (by rw [ef]; exact m)
    have ne : cs ≠ [] := fun k => by
      rw [Tt.len_list, ef, k] at l1
      cases l1
    have v := PySem.intText_neg ex dc ne (by omega)
    obtain rfl := Option.some.inj (v.symm.trans e)
    have lead : ∀ r, cs = 48 :: r → False := fun r k => by
      have := z (Tt.sw_yes (c := 48) (x := figsOf x) (by rw [ef]; exact k))
      rw [this] at ex
      exact absurd (show [48] = 45 :: cs from ex) (fun z => by cases (List.cons.inj z).1)
    have u := dig_uniq _ cs rfl dc ne fun r k => (lead r k).elim
    cases m : PySem.NumText.digitsVal cs with
    | zero =>
      rw [m] at u
      exact (lead [] (show cs = [48] from u.symm)).elim
    | succ k =>
      rw [m] at u
      exact .neg k (by rw [ex, u])
  · have ef : figsOf x = x := Tt.rp_no (c := 45) fun cs k => d ⟨cs, k⟩
    rw [ef] at l1 l2 dg z
    have ne : x.cps.toList ≠ [] := fun k => by
      rw [Tt.len_list, k] at l1
      cases l1
    have v := PySem.intText_digits (x := x) dg ne (by omega)
    obtain rfl := Option.some.inj (v.symm.trans e)
    refine .pos _ (dig_uniq _ _ rfl dg ne fun r k => ?_).symm
    have := z (Tt.sw_yes (c := 48) k)
    rw [this] at k
    exact (List.cons.inj (show [48] = 48 :: r from k)).2.symm
theorem thing_int {w : Str} {k : Int} (h : k.natAbs < 10 ^ 13) : thingOf w = .int k ↔ w = numT k := by
  constructor
  · intro e
    rcases thingOf_is w with ⟨n, m, em, d⟩ | ⟨_, d⟩
    · obtain rfl : m = k := PyData.int.inj (d.symm.trans e)
      exact num_canon n em
    · exact absurd (d.symm.trans e) (fun z => nomatch z)
  · rintro rfl
    obtain ⟨a, b, _⟩ := numT_sg h
    exact thing_eq (thingOf_is _) (.inl ⟨a, k, b, rfl⟩)
theorem thing_str {w z : Str} (e : thingOf w = .str z) : w = z := by
  rcases thingOf_is w with ⟨n, m, em, d⟩ | ⟨_, d⟩
  · exact absurd (d.symm.trans e) (fun z => nomatch z)
  · exact PyData.str.inj (d.symm.trans e)
theorem thing_low {w : Str} (h : LowS w) : thingOf w = .str w := thing_eq (thingOf_is _) (.inr ⟨low_no h, rfl⟩)
/-! ### the law's own look at a house, at a town -/
def rNotSg : R2 := fun x y H Q => ∃ (c : Nat) (z : Str), x = .str ⟨#[c]⟩ ∧ y = .str z ∧ Q (.bl (!decide (c ∈ z.cps.toList))) H
def one (c : Nat) : Str := ⟨#[c]⟩
def sp_lis_house : Sp := fun vs H Q _ => ∃ (Ex : Addr → Prop) (v : V) (d : PyData), vs = [v] ∧ Dq Ex H v d ∧ bndD d ∧ d.canLay0 = true ∧ ∀ (r : Bool) (H' : Hp), Same H H' → (r = true ↔ HouseD d) → Q (.bl r) H'
theorem ok_l_is_house (T : Txt K mg af fd) : FnOk P w K mg base CX0 1 (af 41) (fd 41) ["thing"] sp_lis_house := by
  refine T.F_l_is_house.ok sc_l_is_house (fun vs H Q E h => ?_) (fun cdv A outer s H vs Q E hr h => ?_)
  · obtain ⟨Ex, v, d, rfl, _⟩ := h
    rfl
  · obtain ⟨Ex, v, d, rfl, hd, hb, hc, q⟩ := h
    refine ⟨_, (pss_cons (ps_if (PW.pt (pw_or (pt_not (pt_val (pe_callB call_isi (by rfl) T.m_isinstance (by decide +kernel) (pa_cons (pv 0) (pa_cons (pe_bltn (v := .ty "str") (by rfl) T.m_str (by decide +kernel) rfl) pa_nil))))) (pw_or (pt_cmpR op_lt (pe_callB call_len_str (by rfl) T.m_len (by decide +kernel) (pa_cons (pv 0) pa_nil)) pe_int (nomark _)) (pw_or1 (pt_cmpR op_gt (pe_callB call_len_str (by rfl) T.m_len (by decide +kernel) (pa_cons (pv 0) pa_nil)) pe_int (nomark _)))))) (pss_one (ps_ret pe_bl)) pss_nil)
        (pss_one (ps_ret (pe_cmpR (op_eqD hr.units) (pe_lc (own := [("sign", 1)]) (g := gName 1) (by rfl) sc_l_is_house.nd (pi_str (pv 0)) (blkOk_by (own := [("sign", 1)]) (N := ["thing", "sign"]) (sc := defScope s_l_is_house) (by decide +kernel)) (fun _ _ _ _ _ => pg_name (i := 1) sc_l_is_house.nd rfl (Or.inl rfl)) (fun _ _ _ _ _ => (pts_one (pt_cmpR (show OpR _ _ rNotSg from op_notIn_sign) (pv 1) pe_str (by rfl)))) (fun _ _ _ _ _ => (pv 1))) (pe_lst pa_nil) (nomark _))))), ?_⟩
    refine ⟨_, rfl, _, _, _, _, _, rfl, .ty "str", hd.ty, isi_kit hd n_str, _, rfl, ?_⟩
    cases e1 : isB d "str" with
    | false =>
      refine iteT (iteT ?_)
      refine q false H (.refl H) (ff fun ⟨x, e, _⟩ => ?_)
      subst e
      exact absurd e1 (by simp [isB])
    | true =>
      refine iteF ?_
      obtain ⟨x, rfl⟩ : ∃ x, d = .str x := by
        cases d <;> first | exact ⟨_, rfl⟩ | exact absurd e1 (by simp [isB])
      cases hd
      have hx : x.length ≤ 1000000 := hb
      have hxl : x.length ≤ sizeLine := Nat.le_trans hx (by decide)
      have el := str_len x
      have xok : PyData.strOk x = true := hc
      refine ⟨_, rfl, _, rfl, hxl, _, _, rfl, rfl, _, rfl, ite2 (fun z => ?_) (fun z => ?_)⟩
      · have z1 := of_decide_eq_true z
        refine iteT (q false H (.refl H) (ff fun ⟨y, e, h1, h2, h3⟩ => ?_))
        obtain rfl := PyData.str.inj e
        omega
      have z1 : ¬ ((x.length : Int) < 1) := fun k => z (decide_eq_true k)
      refine ⟨_, rfl, _, rfl, hxl, _, _, rfl, rfl, _, rfl, ite2 (fun z2 => ?_) (fun z2 => ?_)⟩
      · have z2 := of_decide_eq_true z2
        refine q false H (.refl H) (ff fun ⟨y, e, h1, h2, h3⟩ => ?_)
        obtain rfl := PyData.str.inj e
        omega
      have z3 : ¬ ((8 : Int) < x.length) := fun k => z2 (decide_eq_true k)
      refine ⟨_, rfl, x, rfl, fun D nD => ?_⟩
      refine lc_it walk_str (g := gName 1) (fun i H' => Same H H' ∧ ∃ ys : List Str, H' D = some (.lst (ys.map V.str)) ∧ (∀ y ∈ ys, PyData.strOk y = true) ∧ ys.length ≤ i ∧ (ys = [] ↔ ∀ c ∈ x.cps.toList.take i, 97 ≤ c ∧ c ≤ 122))
        ⟨same_upd nD, [], upd_same, fun _ m => (nomatch m), Nat.le_refl _, ⟨fun _ c m => (by rw [List.take_zero] at m; exact nomatch m), fun _ => rfl⟩⟩ (fun _ _ _ _ => trivial) ?_ ?_
      · rintro i v H3 H4 hi ⟨s3, ys, hD, oky, ly, ey⟩ ⟨rfl, c, hc', rfl⟩
        have ec : x.cps.toList[i]? = some c := by rw [Array.getElem?_toList]; exact hc'
        have et : x.cps.toList.take (i + 1) = x.cps.toList.take i ++ [c] := by rw [List.take_add_one, ec]; rfl
        have cok : c < 0x110000 := by
          unfold PyData.strOk at xok
          rw [← Array.all_toList, List.all_eq_true] at xok
          exact of_decide_eq_true (xok c (List.mem_of_getElem? ec))
        refine ⟨rfl, _, rfl, c, _, rfl, rfl, _, rfl, ite2 (fun y => ?_) (fun y => ?_)⟩
        · have no : ¬ (97 ≤ c ∧ c ≤ 122) := fun k => by
            rw [decide_eq_true (letters_in.mpr k)] at y
            exact Bool.noConfusion y
          refine ⟨_, rfl, _, hD, big_line (by rw [List.length_map]; have ei : i < x.length := hi; omega), same_mut s3 nD, ys ++ [⟨#[c]⟩], by rw [upd_same, List.map_append]; rfl, fun y m => ?_, by rw [List.length_append]; exact Nat.succ_le_succ ly, ?_⟩
          · rcases List.mem_append.mp m with m | m
            · exact oky y m
            · rw [List.mem_singleton.mp m]
              show (#[c].all fun c => decide (c < 0x110000)) = true
              rw [← Array.all_toList, List.all_eq_true]
              intro k mk
              have mk : k ∈ [c] := mk
              rw [List.mem_singleton.mp mk]
              exact decide_eq_true cok
          · rw [et]
            refine ⟨fun e => ?_, fun all => absurd (all c (List.mem_append_right _ List.mem_cons_self)) no⟩
            have := congrArg List.length e
            rw [List.length_append] at this
            cases this
        · have yes : 97 ≤ c ∧ c ≤ 122 := by
            rcases Classical.em (97 ≤ c ∧ c ≤ 122) with k | k
            · exact k
            · exact absurd (by rw [decide_eq_false fun m => k (letters_in.mp m)]; rfl) y
          refine ⟨s3, ys, hD, oky, Nat.le_succ_of_le ly, ?_⟩
          rw [et, ey]
          refine ⟨fun all k m => ?_, fun all k m => all k (List.mem_append_left _ m)⟩
          rcases List.mem_append.mp m with m | m
          · exact all k m
          · rw [List.mem_singleton.mp m]
            exact yes
      · rintro H3 ⟨s3, ys, hD, oky, ly, ey⟩
        have e5 : x.cps.size = x.cps.toList.length := by simp
        rw [e5, List.take_length] at ey
        refine ⟨Nat.zero_le _, fun e ne => ?_⟩
        have hD2 := same_upd (o := .lst []) ne _ _ hD
        refine ⟨.list (ys.map PyData.str), .list [], Dp.lst (SqL.of hD2) (dp_strs ys), Dp.lst (SqL.of upd_same) .nil, shaped_strs oky, rfl, ?_⟩
        refine q _ _ (s3.trans (same_upd ne)) ?_
        have eq0 : PyData.eqv (.list (ys.map PyData.str)) (.list []) = true ↔ ys = [] := by
          cases ys with
          | nil => exact ⟨fun _ => rfl, fun _ => rfl⟩
          | cons y r => exact ⟨fun z => (nomatch z), fun z => (nomatch z)⟩
        refine eq0.trans (ey.trans ⟨fun all => ⟨x, rfl, ?_, ?_, all⟩, fun ⟨y, e, h1, h2, h3⟩ => ?_⟩)
        · omega
        · omega
        · obtain rfl := PyData.str.inj e
          exact h3
/-! the sorted set of texts -/
theorem ris_pair : ∀ {xs : List Str}, RisS xs → xs.Pairwise fun a b => a.cps.toList < b.cps.toList
  | [], _ => .nil
  | [x], _ => List.pairwise_cons.mpr ⟨fun _ m => (nomatch m), .nil⟩
  | x :: y :: r, h => by
    have t := ris_pair (xs := y :: r) fun i a b e1 e2 => h (i + 1) a b e1 e2
    refine List.pairwise_cons.mpr ⟨fun z m => ?_, t⟩
    rcases List.mem_cons.mp m with rfl | m
    · exact h 0 x z rfl rfl
    · exact List.lt_trans (h 0 x y rfl rfl) ((List.pairwise_cons.mp t).1 z m)
theorem strict_same : ∀ {xs ys : List Str}, (xs.Pairwise fun a b => a.cps.toList < b.cps.toList) → (ys.Pairwise fun a b => a.cps.toList < b.cps.toList) → (∀ k, k ∈ xs ↔ k ∈ ys) → xs = ys
  | [], [], _, _, _ => rfl
  | [], y :: _, _, _, h => nomatch (h y).mpr List.mem_cons_self
  | x :: _, [], _, _, h => nomatch (h x).mp List.mem_cons_self
  | x :: xs, y :: ys, px, py, h => by
    obtain ⟨px1, px2⟩ := List.pairwise_cons.mp px
    obtain ⟨py1, py2⟩ := List.pairwise_cons.mp py
    have irr : ∀ a : Str, ¬ a.cps.toList < a.cps.toList := fun a => List.lt_irrefl _
    have e : x = y := by
      rcases List.mem_cons.mp ((h x).mp List.mem_cons_self) with e | m
      · exact e
      rcases List.mem_cons.mp ((h y).mpr List.mem_cons_self) with e | n
      · exact e.symm
      exact absurd (List.lt_trans (px1 y n) (py1 x m)) (irr x)
    subst e
    rw [strict_same px2 py2 fun k => ⟨fun m => ?_, fun m => ?_⟩]
    · exact (List.mem_cons.mp ((h k).mp (List.mem_cons_of_mem _ m))).elim (fun e => absurd (px1 k m) (by rw [e]; exact irr x)) id
    · exact (List.mem_cons.mp ((h k).mpr (List.mem_cons_of_mem _ m))).elim (fun e => absurd (py1 k m) (by rw [e]; exact irr x)) id
theorem is_sorted_set {xs zs ys : List Str} (hz : ∀ k, k ∈ zs ↔ k ∈ xs) (nz : zs.Nodup) (py : ys.Perm zs) (sy : sortedS ys = true) : xs = ys ↔ RisS xs := by
  have sp := up_pair sy (py.nodup_iff.mpr nz)
  refine ⟨fun e => e ▸ rising_of sp, fun r => strict_same (ris_pair r) sp fun k => ?_⟩
  rw [py.mem_iff, hz k]
theorem strs_eqvs : ∀ {xs ys : List Str}, PyData.eqvAll (xs.map PyData.str) (ys.map PyData.str) = decide (xs = ys)
  | [], [] => rfl
  | [], _ :: _ => rfl
  | _ :: _, [] => rfl
  | x :: xs, y :: ys => by
    show (PyData.eqv (.str x) (.str y) && PyData.eqvAll (xs.map PyData.str) (ys.map PyData.str)) = _
    rw [strs_eqvs]
    by_cases e : x = y
    · subst e
      rw [show PyData.eqv (.str x) (.str x) = true from eqv_str.mpr rfl, Bool.true_and]
      exact decide_eq_decide.mpr ⟨fun e => by rw [e], fun e => (List.cons.inj e).2⟩
    · rw [decide_eq_false (fun z => e (List.cons.inj z).1)]
      cases k : PyData.eqv (.str x) (.str y) with
      | false => rfl
      | true => exact absurd (PyData.str.inj (eqv_str.mp k)) e
theorem lay_mem : ∀ {ds : List PyData} {d : PyData}, PyData.canLayAll0 ds = true → d ∈ ds → d.canLay0 = true
  | x :: xs, d, h, m => by
    have h : (x.canLay0 && PyData.canLayAll0 xs) = true := h
    rw [Bool.and_eq_true] at h
    rcases List.mem_cons.mp m with rfl | m
    · exact h.1
    · exact lay_mem h.2 m
/-! no part of it is long -/
mutual
def lenD : PyData → Prop
  | .str x => x.length ≤ 1000000
  | .list xs => xs.length ≤ 60 ∧ lenDs xs
  | .tuple xs => xs.length ≤ 60 ∧ lenDs xs
  | _ => True
def lenDs : List PyData → Prop
  | [] => True
  | x :: xs => lenD x ∧ lenDs xs
end
mutual
theorem len_bnd : ∀ {d : PyData}, lenD d → bndD d
  | .none, _ => trivial
  | .bool _, _ => trivial
  | .int _, _ => trivial
  | .dict _, _ => trivial
  | .str _, h => Nat.le_trans h (by decide)
  | .list _, h => ⟨Nat.le_trans h.1 (by decide), len_bnds h.2⟩
  | .tuple _, h => ⟨Nat.le_trans h.1 (by decide), len_bnds h.2⟩
theorem len_bnds : ∀ {ds : List PyData}, lenDs ds → bndDs ds
  | [], _ => trivial
  | _ :: _, h => ⟨len_bnd h.1, len_bnds h.2⟩
end
def sp_lis_town : Sp := fun vs H Q _ => ∃ (Ex : Addr → Prop) (v : V) (d : PyData), vs = [v] ∧ Dq Ex H v d ∧ lenD d ∧ d.canLay0 = true ∧ ∀ (r : Bool) (H' : Hp), Same H H' → (r = true ↔ TownD d) → Q (.bl r) H'
theorem ok_l_is_town (T : Txt K mg af fd) : FnOk P w K mg base CX0 2 (af 42) (fd 42) ["thing"] sp_lis_town := by
  refine T.F_l_is_town.ok sc_l_is_town (fun vs H Q E h => ?_) (fun cdv A outer s H vs Q E hr h => ?_)
  · obtain ⟨Ex, v, d, rfl, _⟩ := h
    rfl
  · obtain ⟨Ex, v, d, rfl, hd, hb, hc, q⟩ := h
    refine ⟨_, (pss_cons (ps_if (PW.pt (pw_or (pt_not (pt_val (pe_callB call_isi (by rfl) T.m_isinstance (by decide +kernel) (pa_cons (pv 0) (pa_cons (pe_bltn (v := .ty "tuple") (by rfl) T.m_tuple (by decide +kernel) rfl) pa_nil))))) (pw_or1 (pt_cmpR op_ne (pe_callB call_len_seq (by rfl) T.m_len (by decide +kernel) (pa_cons (pv 0) pa_nil)) pe_int (nomark _))))) (pss_one (ps_ret pe_bl)) pss_nil)
        (pss_cons (ps_for PassesOwn.never rfl (pi_tup (pv 0)) (pg_name (i := 1) sc_l_is_town.nd rfl (by first | exact Or.inl rfl | exact Or.inr rfl)) (pss_cons (ps_if (PW.pt (pw_or (pt_not (pt_val (pe_callB call_isi (by rfl) T.m_isinstance (by decide +kernel) (pa_cons (pv 1) (pa_cons (pe_bltn (v := .ty "tuple") (by rfl) T.m_tuple (by decide +kernel) rfl) pa_nil))))) (pw_or1 (pt_not (pt_val (pe_callB (cr_all rfl) (by rfl) T.m_all (by decide +kernel) (pa_cons (pe_lc (own := [("one", 2)]) (g := gName 2) (by rfl) sc_l_is_town.nd (pi_tup (pv 1)) (blkOk_by (own := [("one", 2)]) (N := ["thing", "part", "one", "gate"]) (sc := defScope s_l_is_town) (by decide +kernel)) (fun _ _ _ _ _ => pg_name (i := 2) sc_l_is_town.nd rfl (Or.inl rfl)) (fun _ _ _ _ _ => pts_nil) (fun _ _ _ _ _ => (pe_call (ok_l_is_house T) (hr.mono (by first | decide | omega)) (by rfl) T.g_l_is_house T.F_l_is_house.kp T.b_l_is_house .nil pass0 (pa_cons (pv 2) pa_nil)))) pa_nil))))))) (pss_one (ps_ret pe_bl)) pss_nil)
        (pss_one (ps_if (pt_cmpR (op_neD hr.units) (pe_callTy call_list_of (by rfl) T.m_list (by decide +kernel) (pa_cons (pv 1) pa_nil)) (pe_callB (Tx.cr_sortS rfl) (by rfl) T.m_sorted (by decide +kernel) (pa_cons (pe_callTy (Tx.cr_setS rfl) (by rfl) T.m_set (by decide +kernel) (pa_cons (pv 1) pa_nil)) pa_nil)) (nomark _)) (pss_one (ps_ret pe_bl)) pss_nil))))
        (pss_one (ps_ret (pe_and (pe_chain op_le op_le pe_int (pe_callB call_len_seq (by rfl) T.m_len (by decide +kernel) (pa_cons (pe_ix (show IxR _ (rIxT _) from ix_tup) (pv 0) pe_int (fun _ _ => rfl)) pa_nil)) pe_int) (pe_one (pe_callB (cr_all rfl) (by rfl) T.m_all (by decide +kernel) (pa_cons (pe_lc (own := [("gate", 3)]) (g := gName 3) (by rfl) sc_l_is_town.nd (pi_tup (pe_ix ix_tup (pv 0) pe_int (fun _ _ => rfl))) (blkOk_by (own := [("gate", 3)]) (N := ["thing", "part", "one", "gate"]) (sc := defScope s_l_is_town) (by decide +kernel)) (fun _ _ _ _ _ => pg_name (i := 3) sc_l_is_town.nd rfl (Or.inl rfl)) (fun _ _ _ _ _ => pts_nil) (fun _ _ _ _ _ => (pe_cmpR (show OpR _ _ (rIn K false) from op_in_seq) (pv 3) (pe_ix (show IxR _ (rIxT _) from ix_tup) (pv 0) pe_int (fun _ _ => rfl)) (by rfl)))) pa_nil)))))))), ?_⟩
    refine ⟨_, rfl, _, _, _, _, _, rfl, .ty "tuple", hd.ty, isi_kit hd n_tuple, _, rfl, ?_⟩
    cases e1 : isB d "tuple" with
    | false =>
      refine iteT (iteT ?_)
      refine q false H (.refl H) (ff fun ⟨x, y, e, _⟩ => ?_)
      subst e
      exact absurd e1 (by simp [isB])
    | true =>
      refine iteF ?_
      obtain ⟨ds, rfl⟩ : ∃ ds, d = .tuple ds := by
        cases d <;> first | exact ⟨_, rfl⟩ | exact absurd e1 (by simp [isB])
      cases hd with
      | @tup a vs _ ha hds =>
      have hlen := hds.len
      refine ⟨_, rfl, a, _, rfl, .inr (SqT.of ha), rfl, _, rfl, ite2 (fun z => ?_) (fun z => ?_)⟩
      · refine q false H (.refl H) (ff fun ⟨hs, gs, e, _⟩ => len_ne' (m := 2) z ?_)
        rw [hlen, PyData.tuple.inj e]
        rfl
      have hl := len_ne (m := 2) z
      match vs, ds, hds, hl with
      | [v0, v1], [d0, d1], .cons q0 (.cons q1 .nil), _ =>
        have hb0 : lenD d0 ∧ lenD d1 := ⟨hb.2.1, hb.2.2.1⟩
        have hc0 : d0.canLay0 = true ∧ d1.canLay0 = true := by
          have hc : (d0.canLay0 && (d1.canLay0 && true)) = true := hc
          rw [Bool.and_eq_true, Bool.and_true] at hc
          exact hc
        have parts : ∀ (i : Nat) (v : V), ([v0, v1] : List V)[i]? = some v → ∃ d, ([d0, d1] : List PyData)[i]? = some d ∧ Dq Ex H v d ∧ lenD d ∧ d.canLay0 = true := fun i v e => match i, e with
          | 0, e => ⟨d0, rfl, by obtain rfl := Option.some.inj e; exact q0, hb0.1, hc0.1⟩
          | 1, e => ⟨d1, rfl, by obtain rfl := Option.some.inj e; exact q1, hb0.2, hc0.2⟩
        refine ⟨_, rfl, a, rfl, ⟨_, SqT.of ha⟩, ?_⟩
        refine for_it (walk_tup (K := K) (a := a) (xs := [v0, v1])) (fun i σ H' => (∃ x1 x2 x3 : Option V, σ = [some (.ref a), x1, x2, x3]) ∧ Same H H' ∧ ∀ (j : Nat) (d : PyData), j < i → ([d0, d1] : List PyData)[j]? = some d → ∃ xs, RisHD d xs)
          ⟨⟨_, _, _, rfl⟩, Same.refl H, fun j _ h => absurd h (Nat.not_lt_zero j)⟩ (fun i σ H' _ h => SqT.of (h.2.1 _ _ ha)) ?_ ?_
        · rintro i v σ H1 H2 hi ⟨⟨x1, x2, x3, rfl⟩, s1, done⟩ ⟨rfl, ev⟩
          obtain ⟨d, ed, dv, hbd, hcd⟩ := parts i v ev
          have bad : (¬ ∃ xs, RisHD d xs) → ¬ TownD (.tuple [d0, d1]) := fun n ⟨hs, gs, e, h1, h2, h3, h4, _⟩ => n (by
            obtain ⟨f1, f2⟩ := List.cons.inj (PyData.tuple.inj e)
            obtain ⟨f3, _⟩ := List.cons.inj f2
            match i, ed with
            | 0, ed => obtain rfl := Option.some.inj ed; exact ⟨hs, f1, h1, h2⟩
            | 1, ed => obtain rfl := Option.some.inj ed; exact ⟨gs, f3, h3, h4⟩)
          have dv1 := dv.same s1
          refine ⟨_, rfl, _, _, _, _, _, rfl, .ty "tuple", dv1.ty, isi_kit dv1 n_tuple, _, rfl, ?_⟩
          cases e2 : isB d "tuple" with
          | false =>
            refine iteT (iteT (q false _ s1 (ff (bad fun ⟨xs, e, _⟩ => ?_))))
            rw [e] at e2
            exact absurd e2 (by simp [isB])
          | true =>
            refine iteF ?_
            obtain ⟨es, rfl⟩ : ∃ es, d = .tuple es := by
              cases d <;> first | exact ⟨_, rfl⟩ | exact absurd e2 (by simp [isB])
            cases dv with
            | @tup b us _ hb2 hes =>
            have hlen2 := hes.len
            have hbe : es.length ≤ 60 ∧ bndDs es := ⟨hbd.1, len_bnds hbd.2⟩
            refine ⟨_, rfl, b, rfl, ⟨_, SqT.of (s1 _ _ hb2)⟩, fun D nD => ?_⟩
            refine lc_it (walk_tup (K := K) (a := b) (xs := us)) (g := gName 2) (fun k H' => Same H H' ∧ Same H2 H' ∧ ∃ bs : List Bool, H' D = some (.lst (bs.map V.bl)) ∧ bs.length = k ∧ (bs.all id = true ↔ ∀ (j : Nat) (d : PyData), j < k → es[j]? = some d → HouseD d))
              ⟨s1.trans (same_upd nD), same_upd nD, [], upd_same, rfl, ⟨fun _ j _ h => absurd h (Nat.not_lt_zero j), fun _ => rfl⟩⟩ (fun k H' _ h => SqT.of (h.1 _ _ hb2)) ?_ ?_
            · rintro k y H3 H4 hk ⟨s3, t3, bs, hD, lb, eb⟩ ⟨rfl, ey⟩
              have e5 : es[k]? = some es[k] := List.getElem?_eq_getElem (by omega)
              generalize es[k] = d at e5
              obtain ⟨y', hy', dy⟩ := hes.get e5
              obtain rfl := Option.some.inj (hy'.symm.trans ey)
              refine ⟨rfl, yes_if ⟨_, rfl, Ex, y', d, rfl, dy.same s3, bndDs_mem hbe.2 (List.mem_of_getElem? e5), ?_, fun r G s4 hr4 => ?_⟩⟩
              · exact lay_mem hcd (List.mem_of_getElem? e5)
              · refine ⟨_, s4 _ _ hD, big_line (by rw [List.length_map]; omega), same_mut (s3.trans s4) (s1.free nD), same_mut (t3.trans s4) nD, bs ++ [r], by rw [upd_same, List.map_append]; rfl, by rw [List.length_append, lb]; rfl, ?_⟩
                rw [List.all_append, Bool.and_eq_true, eb]
                have er : [r].all id = true ↔ HouseD d := by
                  rw [← hr4]
                  cases r <;> decide
                rw [er]
                refine ⟨fun z j d2 hj ed2 => ?_, fun z => ⟨fun j d2 hj => z j d2 (by omega), z k d (Nat.lt_succ_self _) e5⟩⟩
                rcases Nat.lt_succ_iff_lt_or_eq.mp hj with hj | rfl
                · exact z.1 j d2 hj ed2
                · obtain rfl := Option.some.inj (e5.symm.trans ed2)
                  exact z.2
            · rintro H3 ⟨s3, t3, bs, hD, lb, eb⟩
              refine ⟨D, bs, rfl, SqL.of hD, ?_⟩
              cases ea : bs.all id with
              | false =>
                refine ⟨_, rfl, iteT (q false _ s3 (ff (bad fun ⟨xs, e, hx, _⟩ => ?_)))⟩
                rw [eb.mpr fun j d2 hj ed2 => ?_] at ea
                · cases ea
                obtain rfl := PyData.tuple.inj e
                rw [List.getElem?_map] at ed2
                obtain ⟨x, ex, rfl⟩ := Option.map_eq_some_iff.mp ed2
                exact ⟨x, rfl, hx x (List.mem_of_getElem? ex)⟩
              | true =>
                obtain ⟨xs, rfl, hx⟩ := strs_of (ds := es) fun d2 m => by
                  obtain ⟨j, hj⟩ := List.getElem?_of_mem m
                  exact eb.mp ea j d2 (by rw [hlen2]; exact (List.getElem?_eq_some_iff.mp hj).1) hj
                obtain rfl := dqs_strs hes
                refine ⟨_, rfl, iteF ?_⟩
                have hbx := hbe.1
                rw [List.length_map] at hbx
                have okx : ∀ x ∈ xs, PyData.strOk x = true := fun x m => (hx x m).ok
                have hb3 := s3 _ _ hb2
                refine ⟨_, rfl, b, _, rfl, .inr (SqT.of hb3), fun L nL => ?_⟩
                have s4 : Same H3 (upd H3 L (.lst (xs.map V.str))) := same_upd nL
                have hL4 : (upd H3 L (.lst (xs.map V.str))) L = some (.lst (xs.map V.str)) := upd_same
                generalize upd H3 L (.lst (xs.map V.str)) = H4 at s4 hL4 ⊢
                refine ⟨_, rfl, b, xs, rfl, SqT.of (s4 _ _ hb3), by omega, fun S zs nS hz nz => ?_⟩
                have s5 : Same H4 (upd H4 S (Tx.SetS w S zs)) := same_upd nS
                refine ⟨S, zs, rfl, upd_same, fun ys Y py sy nY => ?_⟩
                have s6 := s5.trans (same_upd (o := .lst (ys.map V.str)) nY)
                have oky : ∀ y ∈ ys, PyData.strOk y = true := fun y m => okx y ((hz y).mp (py.mem_iff.mp m))
                refine ⟨.list (xs.map PyData.str), .list (ys.map PyData.str), Dp.lst (SqL.of (s6 _ _ hL4)) (dp_strs xs), Dp.lst (SqL.of upd_same) (dp_strs ys), shaped_strs okx, shaped_strs oky, _, rfl, ?_⟩
                have s7 := (s3.trans s4).trans s6
                have eq1 : PyData.eqv (.list (xs.map PyData.str)) (.list (ys.map PyData.str)) = decide (xs = ys) := strs_eqvs
                have eq2 := is_sorted_set hz nz py sy
                rw [eq1]
                by_cases e : xs = ys
                · refine iteNS e ⟨⟨_, _, _, rfl⟩, s7, fun j d2 hj ed2 => ?_⟩
                  rcases Nat.lt_succ_iff_lt_or_eq.mp hj with hj | rfl
                  · exact done j d2 hj ed2
                  · obtain rfl := Option.some.inj (ed.symm.trans ed2)
                    exact ⟨xs, rfl, hx, eq2.mp e⟩
                · rw [decide_eq_false e]
                  refine iteT (q false _ s7 (ff (bad fun ⟨zs, e3, _, r3⟩ => e (eq2.mpr ?_))))
                  rw [strs_inj (PyData.tuple.inj e3)]
                  exact r3
        · rintro σ H1 ⟨⟨x1, x2, x3, rfl⟩, s1, done⟩
          obtain ⟨hs, rfl, hh, hris⟩ := done 0 d0 (Nat.zero_lt_succ 1) rfl
          obtain ⟨gs, rfl, hg, gris⟩ := done 1 d1 (Nat.lt_succ_self 1) rfl
          cases q0 with
          | @tup ta ys _ h3 r3 =>
          obtain rfl := dqs_strs r3
          cases q1 with
          | @tup tb zs _ h4 r4 =>
          obtain rfl := dqs_strs r4
          have k3 := s1 _ _ h3
          have k4 := s1 _ _ h4
          have kA := s1 _ _ ha
          have eT : TownD (.tuple [.tuple (hs.map PyData.str), .tuple (gs.map PyData.str)]) ↔ (1 ≤ hs.length ∧ hs.length ≤ 6 ∧ ∀ g ∈ gs, g ∈ hs) := by
            constructor
            · rintro ⟨hs', gs', e, _, _, _, _, h⟩
              obtain ⟨e8, e7⟩ := List.cons.inj (PyData.tuple.inj e)
              obtain ⟨e9, _⟩ := List.cons.inj e7
              rw [strs_inj (PyData.tuple.inj e8), strs_inj (PyData.tuple.inj e9)]
              exact h
            · exact fun h => ⟨hs, gs, rfl, hh, hris, hg, gris, h⟩
          refine ⟨_, rfl, a, _, 0, _, rfl, rfl, SqT.of kA, rfl, ta, _, rfl, .inr (SqT.of k3), _, _, rfl, rfl, _, rfl, ite2 (fun z1 => ?_) (fun z1 => ?_)⟩
          · have z1 := of_decide_eq_true z1
            rw [List.length_map] at z1
            refine ⟨_, _, rfl, rfl, _, rfl, ?_⟩
            cases e5 : decide (((hs.map V.str).length : Int) ≤ 6) with
            | false =>
              have := of_decide_eq_false e5
              rw [List.length_map] at this
              refine iteF (q false _ s1 (ff fun h => ?_))
              have := (eT.mp h).2.1
              omega
            | true =>
              have e6 := of_decide_eq_true e5
              rw [List.length_map] at e6
              refine iteT ⟨_, rfl, a, _, 1, _, rfl, rfl, SqT.of kA, rfl, tb, rfl, ⟨_, SqT.of k4⟩, fun D nD => ?_⟩
              refine lc_it (walk_tup (K := K) (a := tb) (xs := gs.map V.str)) (g := gName 3) (fun k H' => Same H H' ∧ Same H1 H' ∧ ∃ bs : List Bool, H' D = some (.lst (bs.map V.bl)) ∧ bs.length = k ∧ (bs.all id = true ↔ ∀ g ∈ gs.take k, g ∈ hs))
                ⟨s1.trans (same_upd nD), same_upd nD, [], upd_same, rfl, ⟨fun _ g m => (by rw [List.take_zero] at m; exact nomatch m), fun _ => rfl⟩⟩ (fun k H' _ h => SqT.of (h.1 _ _ h4)) ?_ ?_
              · rintro k y H3 H4 hk ⟨s3, t3, bs, hD, lb, eb⟩ ⟨rfl, ey⟩
                rw [List.getElem?_map] at ey
                obtain ⟨g, eg, rfl⟩ := Option.map_eq_some_iff.mp ey
                have hk2 : k < gs.length := (List.getElem?_eq_some_iff.mp eg).1
                refine ⟨rfl, yes_if ⟨_, rfl, _, rfl, a, _, 0, _, rfl, rfl, SqT.of (s3 _ _ ha), rfl, ta, _, rfl, .inr (SqT.of (s3 _ _ h3)), rfl, flat_strs hs, ?_⟩⟩
                refine ⟨_, hD, big_line (by rw [List.length_map]; have := hb.2.2.1.1; rw [List.length_map] at this; omega), same_mut s3 (s1.free nD), same_mut t3 nD, bs ++ [inV (.str g) (hs.map V.str)], by rw [upd_same, List.map_append]; rfl, by rw [List.length_append, lb]; rfl, ?_⟩
                rw [List.all_append, Bool.and_eq_true, eb, List.take_add_one, eg]
                have er : [inV (.str g) (hs.map V.str)].all id = true ↔ g ∈ hs := by
                  rw [← inV_strs]
                  cases inV (.str g) (hs.map V.str) <;> decide
                rw [er]
                refine ⟨fun z g2 m => ?_, fun z => ⟨fun g2 m => z g2 (List.mem_append_left _ m), z g (List.mem_append_right _ List.mem_cons_self)⟩⟩
                rcases List.mem_append.mp m with m | m
                · exact z.1 g2 m
                · have m : g2 ∈ [g] := m
                  rw [List.mem_singleton.mp m]
                  exact z.2
              · rintro H3 ⟨s3, t3, bs, hD, lb, eb⟩
                rw [List.length_map, List.take_length] at eb
                refine ⟨D, bs, rfl, SqL.of hD, q _ _ s3 (eb.trans ⟨fun h => eT.mpr ⟨by omega, by omega, h⟩, fun h => (eT.mp h).2.2⟩)⟩
          · have z1 : ¬ ((1 : Int) ≤ (hs.map V.str).length) := fun z2 => z1 (decide_eq_true z2)
            rw [List.length_map] at z1
            refine ⟨false, rfl, iteF (q false _ s1 (ff fun h => ?_))⟩
            have := (eT.mp h).1
            omega
/-! ### the law's own look at a number -/
theorem drop_tw (p : Nat → Bool) : ∀ l : List Nat, l.drop (l.takeWhile p).length = l.dropWhile p
  | [] => rfl
  | a :: l => by
    cases h : p a with
    | true => rw [List.takeWhile_cons, if_pos h, List.dropWhile_cons, if_pos h]; exact drop_tw p l
    | false => rw [List.takeWhile_cons, if_neg (by rw [h]; decide), List.dropWhile_cons, if_neg (by rw [h]; decide)]; rfl
theorem dw_nil (p : Nat → Bool) : ∀ l : List Nat, l.dropWhile p = [] ↔ ∀ c ∈ l, p c = true
  | [] => ⟨fun _ _ m => (nomatch m), fun _ => rfl⟩
  | a :: l => by
    cases h : p a with
    | true =>
      rw [List.dropWhile_cons, if_pos h, dw_nil p l]
      exact ⟨fun k c m => (List.mem_cons.mp m).elim (fun e => e ▸ h) (k c), fun k c m => k c (List.mem_cons_of_mem _ m)⟩
    | false =>
      rw [List.dropWhile_cons, if_neg (by rw [h]; decide)]
      exact ⟨fun z => (nomatch z), fun k => by rw [k a List.mem_cons_self] at h; cases h⟩
theorem lstrip_list (x : Str) : (PySem.Txt.lstripChars x (Tt.sg 45)).cps.toList = x.cps.toList.dropWhile (Tt.sg 45).cps.contains := by
  show (PySem.Txt.stripBy (Tt.sg 45).cps.contains true false x).cps.toList = _
  rw [PyProof.Rows.stripBy_eq]
  show (x.cps.extract (x.cps.toList.takeWhile (Tt.sg 45).cps.contains).length x.length).toList = _
  rw [Array.toList_extract, List.extract_eq_take_drop, drop_tw, List.take_of_length_le]
  rw [Tt.len_list]
  have := congrArg List.length (List.takeWhile_append_dropWhile (p := (Tt.sg 45).cps.contains) (l := x.cps.toList))
  rw [List.length_append] at this
  omega
theorem lstrip_nil (x : Str) : PySem.Txt.lstripChars x (Tt.sg 45) = ("" : Str) ↔ ∀ c ∈ x.cps.toList, c = 45 := by
  have k : ∀ c : Nat, (Tt.sg 45).cps.contains c = true ↔ c = 45 := fun c => by
    show (#[45] : Array Nat).contains c = true ↔ _
    simp
  constructor
  · intro e c m
    have h := lstrip_list x
    rw [e] at h
    exact (k c).mp ((dw_nil _ _).mp h.symm c m)
  · intro h
    refine Tt.str_ext ?_
    rw [lstrip_list]
    exact (dw_nil _ _).mpr fun c m => (k c).mpr (h c m)
open PySem.NumText in
theorem val_lt : ∀ (cs : List Nat) (acc k : Nat), AllDigits cs → acc < 10 ^ k → cs.foldl (fun acc c => acc * 10 + (c - 48)) acc < 10 ^ (k + cs.length)
  | [], _, _, _, h => h
  | c :: cs, acc, k, ad, h => by
    have hc := ad c List.mem_cons_self
    have := val_lt cs (acc * 10 + (c - 48)) (k + 1) (fun d m => ad d (List.mem_cons_of_mem _ m)) (by rw [Nat.pow_succ]; omega)
    rw [show k + (c :: cs).length = k + 1 + cs.length by rw [List.length_cons]; omega]
    exact this
theorem CanonS.facts {x : Str} {n : Int} (h : CanonS x n) : (∀ c ∈ x.cps.toList, c = 45 ∨ (48 ≤ c ∧ c ≤ 57)) ∧ 45 ∉ x.cps.toList.drop 1 ∧ (∃ c ∈ x.cps.toList, 48 ≤ c) ∧ (x.length ≤ 4300 → PySem.intText? x = some n) := by
  have some' : ∀ m : Nat, ∃ c cs, (Nat.toDigits 10 m).map Char.toNat = c :: cs ∧ 48 ≤ c := fun m => by
    have l := (Tt.dig_len m m (Nat.lt_of_lt_of_le (Nat.lt_pow_self (by decide)) (Nat.pow_le_pow_right (by decide) (Nat.le_succ _)))).2
    cases e : (Nat.toDigits 10 m).map Char.toNat with
    | nil =>
      have := congrArg List.length e
      rw [List.length_map] at this
      rw [this] at l
      cases l
    | cons c cs => exact ⟨c, cs, rfl, (Tt.dig_nat m c (by rw [e]; exact List.mem_cons_self)).1⟩
  cases h with
  | pos m e =>
    have dg := Tt.dig_nat m
    obtain ⟨c, cs, ec, hc⟩ := some' m
    refine ⟨fun c mc => .inr (dg c (by rw [← e]; exact mc)), fun mc => ?_, ⟨c, by rw [e, ec]; exact List.mem_cons_self, hc⟩, fun l => ?_⟩
    · have := (dg 45 (by rw [← e]; exact List.mem_of_mem_drop mc)).1
      omega
    · have := PySem.intText_digits (x := x) (by rw [e]; exact dg) (by rw [e, ec]; exact fun z => nomatch z) l
      rw [e, PySem.W.KIN.val_back] at this
      exact this
  | neg m e =>
    have dg := Tt.dig_nat (m + 1)
    obtain ⟨c, cs, ec, hc⟩ := some' (m + 1)
    refine ⟨fun c mc => ?_, fun mc => ?_, ⟨c, by rw [e, ec]; exact List.mem_cons_of_mem _ List.mem_cons_self, hc⟩, fun l => ?_⟩
    · rw [e] at mc
      exact (List.mem_cons.mp mc).imp id (dg c)
    · rw [e] at mc
      have := (dg 45 mc).1
      omega
    · have := PySem.intText_neg e dg (by rw [ec]; exact fun z => nomatch z) l
      rw [PySem.W.KIN.val_back] at this
      exact this
def Lnum (x : Str) (n : Int) : Prop := x = numT n ∧ x.length ≤ 20
theorem Lnum.facts {x : Str} {n : Int} (h : Lnum x n) : CanonS x n := by
  rw [h.1]
  exact numT_canon n
theorem signs_in {c : Nat} : c ∈ (Str.ofString "-0123456789").cps.toList ↔ c = 45 ∨ (48 ≤ c ∧ c ≤ 57) := by
  have e : (Str.ofString "-0123456789").cps.toList = 45 :: (List.range 10).map (· + 48) := by decide +kernel
  rw [e, List.mem_cons, List.mem_map]
  refine or_congr Iff.rfl ⟨?_, fun h => ⟨c - 48, List.mem_range.mpr (by omega), by omega⟩⟩
  rintro ⟨i, hi, rfl⟩
  have := List.mem_range.mp hi
  omega
theorem sh_str {x : Str} (h : PyData.strOk x = true) : SeqAt.shaped (.str x) = true := by
  unfold SeqAt.shaped
  rw [show PyData.canLay0 (.str x) = true from h]
  rfl
def sp_lnum : Sp := fun vs H Q _ => ∃ x : Str, vs = [.str x] ∧ PyData.strOk x = true ∧ x.length ≤ 700000 ∧ (∀ (n : Int) (H' : Hp), Same H H' → Lnum x n → Q (.int n) H') ∧ ∀ H', Same H H' → (¬ ∃ n, Lnum x n) → Q .non H'
theorem ok_l_number_in (T : Txt K mg af fd) : FnOk P w K mg base CX0 1 (af 50) (fd 50) ["word"] sp_lnum := by
  refine T.F_l_number_in.ok sc_l_number_in (fun vs H Q E h => ?_) (fun cdv A outer s H vs Q E hr h => ?_)
  · obtain ⟨x, rfl, _⟩ := h
    rfl
  · obtain ⟨x, rfl, xok, xl, qY, qN⟩ := h
    refine ⟨_, (pss_cons (ps_if (PW.pt (pw_or (pt_cmpR (op_eqD hr.units) (pv 0) pe_str (nomark _)) (pw_or (pt_cmpR (op_eqD hr.units) (pe_bm PySem.F.plainAttrs_str PySem.F.slot_str_lstrip PySem.F.type_str_lstrip mt_lstripChars (pv 0) (pa_cons pe_str pa_nil)) pe_str (nomark _)) (pw_or1 (pt_cmpR op_gt (pe_callB call_len_str (by rfl) T.m_len (by decide +kernel) (pa_cons (pv 0) pa_nil)) pe_int (nomark _)))))) (pss_one (ps_ret pe_non)) pss_nil)
        (pss_cons (ps_if (PW.pt (pw_or (pt_cmpR (op_neD hr.units) (pe_lc (own := [("sign", 1)]) (g := gName 1) (by rfl) sc_l_number_in.nd (pi_str (pv 0)) (blkOk_by (own := [("sign", 1)]) (N := ["word", "sign"]) (sc := defScope s_l_number_in) (by decide +kernel)) (fun _ _ _ _ _ => pg_name (i := 1) sc_l_number_in.nd rfl (Or.inl rfl)) (fun _ _ _ _ _ => (pts_one (pt_cmpR (show OpR _ _ rNotSg from op_notIn_sign) (pv 1) pe_str (by rfl)))) (fun _ _ _ _ _ => (pv 1))) (pe_lst pa_nil) (nomark _)) (pw_or1 (pt_cmpR (show OpR _ _ rInSg from op_in_sign) pe_str (pe_slice sl_str (pv 0) (po_some pe_int) po_none) (by rfl))))) (pss_one (ps_ret pe_non)) pss_nil)
        (pss_cons (ps_if (pt_cmpR (op_neD hr.units) (pe_callTy call_str_int (by rfl) T.m_str (by decide +kernel) (pa_cons (pe_callTy call_int_str (by rfl) T.m_int (by decide +kernel) (pa_cons (pv 0) pa_nil)) pa_nil)) (pv 0) (nomark _)) (pss_one (ps_ret pe_non)) pss_nil)
        (pss_one (ps_ret (pe_callTy call_int_str (by rfl) T.m_int (by decide +kernel) (pa_cons (pv 0) pa_nil))))))), ?_⟩
    have xs : x.length ≤ sizeLine := Nat.le_trans (show _ ≤ 1000000 by omega) (by decide)
    have e0 : PyData.strOk (Str.ofString "") = true := by decide +kernel
    refine ⟨_, rfl, .str x, .str "", .str _, .str _, sh_str xok, sh_str e0, _, rfl, ?_⟩
    cases t1 : PyData.eqv (.str x) (.str "") with
    | true =>
      obtain rfl := PyData.str.inj (eqv_str.mp t1)
      refine iteT (iteT (qN H (.refl H) fun ⟨n, h⟩ => ?_))
      obtain ⟨c, m, _⟩ := h.facts.facts.2.2.1
      exact nomatch m
    | false =>
      have n1 : x ≠ "" := fun e => by
        rw [eqv_str.mpr (by rw [e])] at t1
        exact Bool.noConfusion t1
      refine iteF ⟨_, rfl, rfl, x, _, rfl, rfl, xs, ?_⟩
      have lok : PyData.strOk (PySem.Txt.lstripChars x (Tt.sg 45)) = true := ok_iff.mpr fun c m => by
        rw [lstrip_list] at m
        exact ok_iff.mp xok c ((List.dropWhile_sublist _).subset m)
      refine ⟨.str (PySem.Txt.lstripChars x (Tt.sg 45)), .str "", .str _, .str _, sh_str lok, sh_str e0, _, rfl, ?_⟩
      cases t2 : PyData.eqv (.str (PySem.Txt.lstripChars x (Tt.sg 45))) (.str "") with
      | true =>
        have all := (lstrip_nil x).mp (PyData.str.inj (eqv_str.mp t2))
        refine iteT (iteT (qN H (.refl H) fun ⟨n, h⟩ => ?_))
        obtain ⟨c, m, hc⟩ := h.facts.facts.2.2.1
        have := all c m
        omega
      | false =>
        have n2 : ¬ ∀ c ∈ x.cps.toList, c = 45 := fun all => by
          rw [eqv_str.mpr (by rw [(lstrip_nil x).mpr all])] at t2
          exact Bool.noConfusion t2
        refine iteF ⟨_, rfl, x, rfl, xs, _, _, rfl, rfl, _, rfl, ite2 (fun z => ?_) (fun z => ?_)⟩
        · have z := of_decide_eq_true z
          refine qN H (.refl H) fun ⟨n, h⟩ => ?_
          have := h.2
          omega
        have l20 : x.length ≤ 20 := by
          have : ¬ ((20 : Int) < x.length) := fun k => z (decide_eq_true k)
          omega
        refine ⟨_, rfl, x, rfl, fun D nD => ?_⟩
        refine lc_it walk_str (g := gName 1) (fun i H' => Same H H' ∧ ∃ ys : List Str, H' D = some (.lst (ys.map V.str)) ∧ (∀ y ∈ ys, PyData.strOk y = true) ∧ ys.length ≤ i ∧ (ys = [] ↔ ∀ c ∈ x.cps.toList.take i, c = 45 ∨ (48 ≤ c ∧ c ≤ 57)))
          ⟨same_upd nD, [], upd_same, fun _ m => (nomatch m), Nat.le_refl _, ⟨fun _ c m => (by rw [List.take_zero] at m; exact nomatch m), fun _ => rfl⟩⟩ (fun _ _ _ _ => trivial) ?_ ?_
        · rintro i v H3 H4 hi ⟨s3, ys, hD, oky, ly, ey⟩ ⟨rfl, c, hc', rfl⟩
          have ec : x.cps.toList[i]? = some c := by rw [Array.getElem?_toList]; exact hc'
          have et : x.cps.toList.take (i + 1) = x.cps.toList.take i ++ [c] := by rw [List.take_add_one, ec]; rfl
          have cok : c < 0x110000 := ok_iff.mp xok c (List.mem_of_getElem? ec)
          refine ⟨rfl, _, rfl, c, _, rfl, rfl, _, rfl, ite2 (fun y => ?_) (fun y => ?_)⟩
          · have no : ¬ (c = 45 ∨ (48 ≤ c ∧ c ≤ 57)) := fun k => by
              rw [decide_eq_true (signs_in.mpr k)] at y
              exact Bool.noConfusion y
            refine ⟨_, rfl, _, hD, small1000 (by rw [List.length_map]; have ei : i < x.length := hi; omega), same_mut s3 nD, ys ++ [⟨#[c]⟩], by rw [upd_same, List.map_append]; rfl, fun y m => ?_, by rw [List.length_append]; exact Nat.succ_le_succ ly, ?_⟩
            · rcases List.mem_append.mp m with m | m
              · exact oky y m
              · rw [List.mem_singleton.mp m]
                refine ok_iff.mpr fun k mk => ?_
                rw [List.mem_singleton.mp (show k ∈ [c] from mk)]
                exact cok
            · rw [et]
              refine ⟨fun e => ?_, fun all => absurd (all c (List.mem_append_right _ List.mem_cons_self)) no⟩
              have := congrArg List.length e
              rw [List.length_append] at this
              cases this
          · have yes : c = 45 ∨ (48 ≤ c ∧ c ≤ 57) := by
              rcases Classical.em (c = 45 ∨ (48 ≤ c ∧ c ≤ 57)) with k | k
              · exact k
              · exact absurd (by rw [decide_eq_false fun m => k (signs_in.mp m)]; rfl) y
            refine ⟨s3, ys, hD, oky, Nat.le_succ_of_le ly, ?_⟩
            rw [et, ey]
            refine ⟨fun all k m => ?_, fun all k m => all k (List.mem_append_left _ m)⟩
            rcases List.mem_append.mp m with m | m
            · exact all k m
            · rw [List.mem_singleton.mp m]
              exact yes
        · rintro H3 ⟨s3, ys, hD, oky, ly, ey⟩
          have e5 : x.cps.size = x.cps.toList.length := by simp
          rw [e5, List.take_length] at ey
          refine ⟨Nat.zero_le _, fun e ne => ?_⟩
          have hD2 := same_upd (o := .lst []) ne _ _ hD
          have s4 := s3.trans (same_upd (o := .lst []) ne)
          refine ⟨.list (ys.map PyData.str), .list [], Dp.lst (SqL.of hD2) (dp_strs ys), Dp.lst (SqL.of upd_same) .nil, shaped_strs oky, rfl, _, rfl, ?_⟩
          generalize upd H3 e (.lst []) = H5 at s4 ⊢
          cases ys with
          | cons y r =>
            refine iteT (iteT (qN H5 s4 fun ⟨n, h⟩ => ?_))
            exact absurd (ey.mpr h.facts.facts.1) (fun z => nomatch z)
          | nil =>
            have hs := ey.mp rfl
            have ec : (cutS x (some 1) none).cps.toList = x.cps.toList.drop 1 := by
              show ((x.cps.toList.drop (HT.sIx x.length 0 (some 1))).take (x.length - HT.sIx x.length 0 (some 1))).toArray.toList = _
              have h1 : 1 ≤ x.length := by
                cases e6 : x.length with
                | zero => exact absurd (Tt.str_ext (by rw [List.length_eq_zero_iff.mp ((Tt.len_list x).symm.trans e6)]; rfl)) n1
                | succ n => omega
              rw [show HT.sIx x.length 0 (some 1) = min 1 x.length from HT.sIx_nat _ _ 1, Nat.min_eq_left h1]
              show (x.cps.toList.drop 1).take (x.length - 1) = _
              rw [List.take_of_length_le]
              rw [List.length_drop, ← Tt.len_list]
              omega
            refine iteF ⟨_, rfl, 1, rfl, ?_⟩
            dsimp only [tNoPart]
            refine ⟨x, rfl, xs, 45, cutS x (some 1) none, rfl, rfl, _, rfl, ite2 (fun z => ?_) (fun z => ?_)⟩
            · have z := of_decide_eq_true z
              rw [ec] at z
              exact qN H5 s4 fun ⟨n, h⟩ => h.facts.facts.2.1 z
            have nd : 45 ∉ x.cps.toList.drop 1 := fun m => z (by rw [ec]; exact decide_eq_true m)
            obtain ⟨n, en, hn⟩ : ∃ n : Int, PySem.intText? x = some n ∧ n.natAbs < 10 ^ 20 := by
              have bound : ∀ cs : List Nat, PySem.NumText.AllDigits cs → cs.length ≤ 20 → PySem.NumText.digitsVal cs < 10 ^ 20 := fun cs ad l => by
                have := val_lt cs 0 0 ad (by decide)
                rw [Nat.zero_add] at this
                exact Nat.lt_of_lt_of_le this (Nat.pow_le_pow_right (by decide) l)
              rcases PySem.intText_cases hs (by omega) with ⟨a, _, e⟩ | ⟨cs, e1, a, _, e⟩ | ⟨_, h1, h2⟩
              · refine ⟨_, e, ?_⟩
                rw [Int.natAbs_natCast]
                exact bound _ a (by rw [← Tt.len_list]; exact l20)
              · refine ⟨_, e, ?_⟩
                rw [Int.natAbs_neg, Int.natAbs_natCast]
                refine bound _ a ?_
                rw [Tt.len_list, e1, List.length_cons] at l20
                omega
              · exfalso
                cases e6 : x.cps.toList with
                | nil => exact n1 (Tt.str_ext (by rw [e6]; rfl))
                | cons c cs =>
                  rw [e6] at hs nd
                  have dg : PySem.NumText.AllDigits cs := fun d m => (hs d (List.mem_cons_of_mem _ m)).resolve_left fun e => nd (e ▸ m)
                  rcases hs c List.mem_cons_self with rfl | hc
                  · refine h2 ⟨cs, e6, dg, fun z => n2 fun d m => ?_⟩
                    rw [e6, z] at m
                    exact List.mem_singleton.mp m
                  · refine h1 ⟨fun d m => ?_, fun z => by rw [e6] at z; cases z⟩
                    rw [e6] at m
                    rcases List.mem_cons.mp m with rfl | m
                    · exact hc
                    · exact dg d m
            refine ⟨_, rfl, x, n, rfl, en, by omega, n, rfl, (int_text hn).1, ?_⟩
            have nok : PyData.strOk (numT n) = true := ok_iff.mpr fun c m => by
              have := (numT_canon n).facts.1 c m
              omega
            refine ⟨_, rfl, .str (numT n), .str x, .str _, .str _, sh_str nok, sh_str xok, _, rfl, ?_⟩
            cases t3 : PyData.eqv (.str (numT n)) (.str x) with
            | true =>
              obtain rfl := PyData.str.inj (eqv_str.mp t3)
              exact iteF ⟨_, rfl, numT n, n, rfl, en, by omega, qY n H5 s4 ⟨rfl, l20⟩⟩
            | false =>
              refine iteT (qN H5 s4 fun ⟨m, h⟩ => ?_)
              have := h.facts.facts.2.2.2 (by omega)
              obtain rfl := Option.some.inj (en.symm.trans this)
              rw [eqv_str.mpr (by rw [h.1])] at t3
              exact Bool.noConfusion t3
/-! ### the law's own look at a town's text -/
theorem cut_last {w : Str} (h : gateS w = true) : cutS w none (some (-1)) = offS w := by
  by_cases d : ∃ cs, w.cps.toList = cs ++ [43]
  · obtain ⟨cs, e⟩ := d
    refine Tt.str_ext ?_
    rw [show (offS w).cps.toList = cs from Tt.rs_yes (c := 43) e]
    have lw : w.length = cs.length + 1 := by rw [Tt.len_list, e, List.length_append]; rfl
    show ((w.cps.toList.drop 0).take ((if (-1 : Int) < 0 then (-1 + (w.length : Int)).toNat else min (-1 : Int).toNat w.length) - 0)).toArray.toList = cs
    rw [if_pos (by decide), e, lw, show (-1 + ((cs.length + 1 : Nat) : Int)).toNat = cs.length by omega]
    show (cs ++ [43]).take (cs.length - 0) = cs
    rw [Nat.sub_zero, List.take_left]
  · rw [show gateS w = false from Tt.ew_no (c := 43) fun cs e => d ⟨cs, e⟩] at h
    cases h
theorem offS_ok {w : Str} (h : PyData.strOk w = true) : PyData.strOk (offS w) = true := by
  by_cases d : ∃ cs, w.cps.toList = cs ++ [43]
  · obtain ⟨cs, e⟩ := d
    refine ok_iff.mpr fun c m => ?_
    rw [show (offS w).cps.toList = cs from Tt.rs_yes (c := 43) e] at m
    exact ok_iff.mp h c (by rw [e]; exact List.mem_append_left _ m)
  · rw [show offS w = w from Tt.rs_no (c := 43) fun cs e => d ⟨cs, e⟩]
    exact h
theorem len_texts : ∀ {hs : List Str}, (∀ h ∈ hs, h.length ≤ 1000000) → lenDs (hs.map PyData.str)
  | [], _ => trivial
  | h :: r, a => ⟨a h List.mem_cons_self, len_texts fun x m => a x (List.mem_cons_of_mem _ m)⟩
theorem lay_texts : ∀ {hs : List Str}, (∀ h ∈ hs, PyData.strOk h = true) → PyData.canLayAll0 (hs.map PyData.str) = true
  | [], _ => rfl
  | h :: r, a => by
    show (PyData.strOk h && PyData.canLayAll0 (r.map PyData.str)) = true
    rw [a h List.mem_cons_self, lay_texts fun x m => a x (List.mem_cons_of_mem _ m)]
    rfl
def sp_ltown : Sp := fun vs H Q _ => ∃ x : Str, vs = [.str x] ∧ PyData.strOk x = true ∧ x.length ≤ 700000 ∧ (Txt.split x " ").length ≤ 60 ∧
  (∀ (t : Addr) (H' : Hp), Same H H' → TownD (townL x) → TownAt H' t (hsOf x) (gsOf x) → Q (.ref t) H') ∧ ∀ H', Same H H' → ¬ TownD (townL x) → Q .non H'
theorem ok_l_town_in (T : Txt K mg af fd) : FnOk P w K mg base CX0 3 (af 51) (fd 51) ["text"] sp_ltown := by
  refine T.F_l_town_in.ok sc_l_town_in (fun vs H Q E h => ?_) (fun cdv A outer s H vs Q E hr h => ?_)
  · obtain ⟨x, rfl, _⟩ := h
    rfl
  · obtain ⟨x, rfl, xok, xl, few, qY, qN⟩ := h
    refine ⟨_, (pss_cons (ps_set (i := 1) sc_l_town_in.nd rfl (by first | exact Or.inl rfl | exact Or.inr rfl) (pe_lst pa_nil))
        (pss_cons (ps_set (i := 2) sc_l_town_in.nd rfl (by first | exact Or.inl rfl | exact Or.inr rfl) (pe_lst pa_nil))
        (pss_cons (ps_for PassesOwn.never rfl (pi_list (pe_bm PySem.F.plainAttrs_str PySem.F.slot_str_split PySem.F.type_str_split mt_split (pv 0) (pa_cons pe_str pa_nil))) (pg_name (i := 3) sc_l_town_in.nd rfl (by first | exact Or.inl rfl | exact Or.inr rfl)) (pss_cons (ps_if (pt_val (show PE _ _ (tBM K "str" rEndS (tVar 3) (tCons (tC (.str "+")) tNil)) from pe_bm PySem.F.plainAttrs_str PySem.F.slot_str_endswith PySem.F.type_str_endswith mt_endswith (pv 3) (pa_cons pe_str pa_nil))) (pss_cons (ps_set (i := 3) sc_l_town_in.nd rfl (by first | exact Or.inl rfl | exact Or.inr rfl) (pe_slice sl_str (pv 3) po_none (po_some (pe_un un_neg pe_int))))
        (pss_one (ps_expr (pe_bm PySem.F.plainAttrs_list PySem.F.slot_list_append PySem.F.type_list_append mt_append (pv 2) (pa_cons (pv 3) pa_nil))))) pss_nil)
        (pss_one (ps_expr (pe_bm PySem.F.plainAttrs_list PySem.F.slot_list_append PySem.F.type_list_append mt_append (pv 1) (pa_cons (pv 3) pa_nil))))))
        (pss_cons (ps_set (i := 4) sc_l_town_in.nd rfl (by first | exact Or.inl rfl | exact Or.inr rfl) (pe_tup (pa_cons (pe_callTy call_tuple_of (by rfl) T.m_tuple (by decide +kernel) (pa_cons (pv 1) pa_nil)) (pa_cons (pe_callTy call_tuple_of (by rfl) T.m_tuple (by decide +kernel) (pa_cons (pv 2) pa_nil)) pa_nil))))
        (pss_cons (ps_if (pt_val (pe_call (ok_l_is_town T) (hr.mono (by first | decide | omega)) (by rfl) T.g_l_is_town T.F_l_is_town.kp T.b_l_is_town .nil pass0 (pa_cons (pv 4) pa_nil))) (pss_one (ps_ret (pv 4))) pss_nil)
        (pss_one (ps_ret pe_non))))))), ?_⟩
    have wok : ∀ w ∈ Txt.split x " ", PyData.strOk w = true ∧ w.length ≤ x.length := words_ok (c := 32) xok
    have eh : hsOf x = (Txt.split x " ").map offS := rfl
    have eg : gsOf x = ((Txt.split x " ").filter gateS).map offS := rfl
    have et : townL x = townD (hsOf x) (gsOf x) := rfl
    have big : x.length + 2 ≤ sizeLine := Nat.le_trans (show _ ≤ 1000000 by omega) (by decide)
    refine ⟨Nat.zero_le _, fun h nh => ⟨Nat.zero_le _, fun g ng => ?_⟩⟩
    have nh0 := nh
    have s1 : Same H (upd H h (.lst [])) := same_upd nh
    have ng0 : H g = none := s1.free ng
    have hgh : g ≠ h := fun e => by rw [e, upd_same] at ng; cases ng
    have s2 : Same H (upd (upd H h (.lst [])) g (.lst [])) := s1.trans (same_upd ng)
    have hh2 : (upd (upd H h (.lst [])) g (.lst [])) h = some (.lst (([] : List Str).map V.str)) := by rw [upd_ne hgh.symm, upd_same]; rfl
    have hg2 : (upd (upd H h (.lst [])) g (.lst [])) g = some (.lst (([] : List Str).map V.str)) := upd_same
    generalize upd (upd H h (.lst [])) g (.lst []) = H2 at s2 hh2 hg2 ⊢
    refine ⟨_, rfl, rfl, x, _, rfl, rfl, rfl, big, fun p np => ?_⟩
    have s3 : Same H2 (upd H2 p (.lst ((Txt.split x " ").map V.str))) := same_upd np
    have hp3 : (upd H2 p (.lst ((Txt.split x " ").map V.str))) p = some (.lst ((Txt.split x " ").map V.str)) := upd_same
    have hph : p ≠ h := fun e => by rw [e, hh2] at np; cases np
    have hpg : p ≠ g := fun e => by rw [e, hg2] at np; cases np
    have hh3 := s3 _ _ hh2
    have hg3 := s3 _ _ hg2
    have s03 := s2.trans s3
    generalize Txt.split x (Str.ofString " ") = ws at *
    generalize upd H2 p (.lst (ws.map V.str)) = H3 at s03 hp3 hh3 hg3 ⊢
    refine ⟨p, rfl, ⟨_, SqL.of hp3⟩, ?_⟩
    refine for_list (K := K) (a := p) (xs := ws.map V.str) (fun k σ G => (∃ v3 v4 : Option V, σ = [some (.str x), some (.ref h), some (.ref g), v3, v4]) ∧ Same H G ∧ G p = some (.lst (ws.map V.str)) ∧ G h = some (.lst (((ws.take k).map offS).map V.str)) ∧ G g = some (.lst ((((ws.take k).filter gateS).map offS).map V.str)))
      ⟨⟨none, none, rfl⟩, s03, hp3, hh3, hg3⟩ (fun k σ G _ h => SqL.of h.2.2.1) ?_ ?_
    · rintro k v σ G ev ⟨⟨v3, v4, rfl⟩, s4, hp4, hh4, hg4⟩
      rw [List.getElem?_map] at ev
      obtain ⟨w, ew, rfl⟩ := Option.map_eq_some_iff.mp ev
      have mw := List.mem_of_getElem? ew
      have lw := (wok w mw).2
      have hk := (List.getElem?_eq_some_iff.mp ew).1
      have th : ((ws.take (k + 1)).map offS).map V.str = ((ws.take k).map offS).map V.str ++ [V.str (offS w)] := by
        rw [List.take_add_one, ew, List.map_append, List.map_append]
        rfl
      have tg : (((ws.take (k + 1)).filter gateS).map offS).map V.str = (((ws.take k).filter gateS).map offS).map V.str ++ (if gateS w = true then [V.str (offS w)] else []) := by
        rw [List.take_add_one, ew, List.filter_append, List.map_append, List.map_append]
        congr 1
        cases e : gateS w <;> simp [List.filter, e]
      have lg : (((ws.take k).filter gateS).map offS).length ≤ k := by
        rw [List.length_map]
        exact Nat.le_trans (List.length_filter_le _ _) (by rw [List.length_take]; omega)
      refine ⟨_, rfl, rfl, w, _, rfl, rfl, gateS w, rfl, ?_⟩
      cases eg : gateS w with
      | true =>
        rw [if_pos eg] at tg
        refine iteT ?_
        refine ⟨_, rfl, ?_⟩
        dsimp only [tNoPart]
        refine ⟨1, rfl, -1, rfl, w, rfl, Nat.le_trans (show _ ≤ 1000000 by omega) (by decide), ?_⟩
        rw [cut_last eg]
        refine ⟨_, rfl, .inl ⟨rfl, _, SqL.of hg4⟩, _, rfl, g, _, _, rfl, rfl, hg4, small1000 (by rw [List.length_map]; omega), ?_⟩
        have hh5 : (upd G g (.lst ((((ws.take k).filter gateS).map offS).map V.str ++ [V.str (offS w)]))) h = some (.lst (((ws.take k).map offS).map V.str)) := by rw [upd_ne hgh.symm]; exact hh4
        refine ⟨_, rfl, .inl ⟨rfl, _, SqL.of hh5⟩, _, rfl, h, _, _, rfl, rfl, hh5, small1000 (by rw [List.length_map, List.length_map, List.length_take]; omega), ?_⟩
        refine ⟨⟨_, _, rfl⟩, same_mut (same_mut s4 ng0) nh0, ?_, ?_, ?_⟩
        · rw [upd_ne hph, upd_ne hpg]
          exact hp4
        · rw [upd_same, th]
        · rw [upd_ne hgh, upd_same, tg]
      | false =>
        rw [if_neg (by rw [eg]; decide), List.append_nil] at tg
        refine iteF ?_
        have eo : w = offS w := by
          refine (Tt.rs_no (c := 43) fun cs e => ?_).symm
          rw [show gateS w = true from Tt.ew_yes (c := 43) e] at eg
          cases eg
        refine ⟨_, rfl, .inl ⟨rfl, _, SqL.of hh4⟩, _, rfl, h, _, _, rfl, rfl, hh4, small1000 (by rw [List.length_map, List.length_map, List.length_take]; omega), ?_⟩
        refine ⟨⟨_, _, rfl⟩, same_mut s4 nh0, ?_, ?_, ?_⟩
        · rw [upd_ne hph]
          exact hp4
        · rw [upd_same, th, ← eo]
        · rw [upd_ne hgh, hg4, tg]
    · rintro σ G ⟨⟨v3, v4, rfl⟩, s4, hp4, hh4, hg4⟩
      rw [List.length_map, List.take_length, ← eh] at hh4
      rw [List.length_map, List.take_length, ← eg] at hg4
      have lh : (hsOf x).length ≤ 60 := by rw [eh, List.length_map]; exact few
      have lg : (gsOf x).length ≤ 60 := by rw [eg, List.length_map]; exact Nat.le_trans (List.length_filter_le _ _) few
  
      have oh : ∀ h ∈ hsOf x, PyData.strOk h = true ∧ h.length ≤ 1000000 := fun h m => by
        rw [eh] at m
        obtain ⟨w, mw, rfl⟩ := List.mem_map.mp m
        have := (wok w mw).2
        have := offS_len w
        exact ⟨offS_ok (wok w mw).1, by omega⟩
      have og : ∀ h ∈ gsOf x, PyData.strOk h = true ∧ h.length ≤ 1000000 := fun h m => by
        rw [eg] at m
        obtain ⟨w, mw, rfl⟩ := List.mem_map.mp m
        exact oh _ (by rw [eh]; exact List.mem_map.mpr ⟨w, (List.mem_filter.mp mw).1, rfl⟩)
      refine ⟨_, rfl, h, _, rfl, .inl ⟨SqL.of hh4, fun a na => ?_⟩⟩
      have s5 : Same G (upd G a (.tup ((hsOf x).map V.str))) := same_upd na
      have ha5 : (upd G a (.tup ((hsOf x).map V.str))) a = some (.tup ((hsOf x).map V.str)) := upd_same
      generalize upd G a (.tup ((hsOf x).map V.str)) = G5 at s5 ha5 ⊢
      refine ⟨_, rfl, g, _, rfl, .inl ⟨SqL.of (s5 _ _ hg4), fun b nb => ?_⟩⟩
      have s6 : Same G5 (upd G5 b (.tup ((gsOf x).map V.str))) := same_upd nb
      have hb6 : (upd G5 b (.tup ((gsOf x).map V.str))) b = some (.tup ((gsOf x).map V.str)) := upd_same
      generalize upd G5 b (.tup ((gsOf x).map V.str)) = G6 at s6 hb6 ⊢
      refine ⟨(by show 2 ≤ sizeLine; decide), fun t nt => ?_⟩
      have s7 : Same G6 (upd G6 t (.tup [.ref a, .ref b])) := same_upd nt
      have ht7 : (upd G6 t (.tup [.ref a, .ref b])) t = some (.tup [.ref a, .ref b]) := upd_same
      generalize upd G6 t (.tup [.ref a, .ref b]) = G7 at s7 ht7 ⊢
      have ha7 := s7 _ _ (s6 _ _ ha5)
      have hb7 := s7 _ _ hb6
      have s07 := ((s4.trans s5).trans s6).trans s7
      have lay : (townL x).canLay0 = true := by
        show (PyData.canLayAll0 ((hsOf x).map PyData.str) && (PyData.canLayAll0 ((gsOf x).map PyData.str) && true)) = true
        rw [lay_texts fun h m => (oh h m).1, lay_texts fun h m => (og h m).1]
        rfl
      refine ⟨_, rfl, fun _ => False, .ref t, townL x, rfl, .tup ht7 (.cons (.tup ha7 (dqs_texts (hsOf x))) (.cons (.tup hb7 (dqs_texts (gsOf x))) .nil)), ⟨(by show 2 ≤ 60; decide), ⟨by rw [List.length_map]; exact lh, len_texts fun h m => (oh h m).2⟩, ⟨by rw [List.length_map]; exact lg, len_texts fun h m => (og h m).2⟩, trivial⟩, lay, fun r G8 s8 hr8 => ⟨r, rfl, ?_⟩⟩
      have s08 := s07.trans s8
      cases r with
      | true => exact iteT ⟨_, rfl, qY t G8 s08 (hr8.mp rfl) ⟨a, b, s8 _ _ ht7, s8 _ _ ha7, s8 _ _ hb7⟩⟩
      | false => exact iteF (qN G8 s08 fun z => Bool.noConfusion (hr8.mpr z))
/-! ### the law's own look at a row's text -/
open Classical in
noncomputable def lawN (w : Str) : PyData := if h : ∃ n, Lnum w n then .int h.choose else .none
theorem lnum_uniq {w : Str} {m n : Int} (h : Lnum w m) (k : Lnum w n) : m = n := numT_inj (h.1.symm.trans k.1)
theorem lawN_yes {w : Str} {n : Int} (h : Lnum w n) : lawN w = .int n := by
  have e : ∃ n, Lnum w n := ⟨n, h⟩
  unfold lawN
  rw [dif_pos e, lnum_uniq e.choose_spec h]
theorem lawN_no {w : Str} (h : ¬ ∃ n, Lnum w n) : lawN w = .none := dif_neg h
noncomputable def lawP (c : Nat) (w : Str) : PyData := if c = 104 then .str w else lawN w
theorem small_num {w : Str} {k : Int} (h : k.natAbs < 10 ^ 13) (e : w = numT k) : Lnum w k := by
  refine ⟨e, ?_⟩
  obtain ⟨⟨_, l2, _, _⟩, _, _⟩ := numT_sg h
  rw [e]
  rcases numT_canon k with ⟨m, e1⟩ | ⟨m, e1⟩
  · have ef : figsOf (numT (m : Int)) = numT (m : Int) := Tt.rp_no (c := 45) fun cs z => by
      have := (Tt.dig_nat m 45 (by rw [← e1, z]; exact List.mem_cons_self)).1
      omega
    rw [ef] at l2
    omega
  · have ef : (figsOf (numT (-((m + 1 : Nat) : Int)))).cps.toList = (Nat.toDigits 10 (m + 1)).map Char.toNat := Tt.rp_yes (c := 45) e1
    rw [Tt.len_list, ef] at l2
    rw [Tt.len_list, e1, List.length_cons]
    omega
theorem pos_num {w : Str} {k : Int} (h : k.natAbs < 10 ^ 13) : thingOf w = .int k ↔ lawN w = .int k := by
  rw [thing_int h]
  constructor
  · exact fun e => lawN_yes (small_num h e)
  · intro e
    by_cases x : ∃ n, Lnum w n
    · obtain ⟨n, hn⟩ := x
      rw [lawN_yes hn] at e
      rw [← PyData.int.inj e]
      exact hn.1
    · rw [lawN_no x] at e
      cases e
theorem pos_same {hs : List Str} (hh : ∀ h ∈ hs, HouseS h) {c : Nat} (hc : c = 104 ∨ c = 110 ∨ c = 116 ∨ c = 99) {w : Str} (h : okP hs c (thingOf w) ∨ okP hs c (lawP c w)) : thingOf w = lawP c w := by
  unfold lawP
  unfold okP lawP at h
  by_cases e : c = 104
  · rw [if_pos e, if_pos e, if_pos e] at h
    rw [if_pos e]
    rcases h with ⟨z, mz, e2⟩ | ⟨z, mz, e2⟩
    · rw [e2, thing_str e2]
    · obtain rfl := PyData.str.inj e2
      exact thing_low (low_house (hh w mz))
  · rw [if_neg e, if_neg e, if_neg e] at h
    rw [if_neg e]
    have b : -1000000000000 ≤ loC c ∧ hiC c ≤ 1000000000000 := by
      unfold loC hiC
      rcases hc with rfl | rfl | rfl | rfl <;> decide
    have t13 : (10 : Nat) ^ 13 = 10000000000000 := by decide
    rcases h with ⟨k, e2, l, u⟩ | ⟨k, e2, l, u⟩
    · rw [e2]
      exact ((pos_num (by omega)).mp e2).symm
    · rw [e2]
      exact (pos_num (by omega)).mpr e2
theorem lawP_lay : ∀ (cs : List Nat) (ws : List Str), (∀ w ∈ ws, PyData.strOk w = true) → PyData.canLayAll0 (List.zipWith lawP cs ws) = true ∧ PyData.depthAll (List.zipWith lawP cs ws) = 0
  | [], [], _ => ⟨rfl, rfl⟩
  | [], _ :: _, _ => ⟨rfl, rfl⟩
  | _ :: _, [], _ => ⟨rfl, rfl⟩
  | c :: cs, w :: ws, ok => by
    obtain ⟨i1, i2⟩ := lawP_lay cs ws fun w m => ok w (List.mem_cons_of_mem _ m)
    have one : (lawP c w).canLay0 = true ∧ (lawP c w).depth = 0 := by
      unfold lawP
      by_cases e : c = 104
      · rw [if_pos e]
        exact ⟨ok w List.mem_cons_self, rfl⟩
      · rw [if_neg e]
        by_cases x : ∃ n, Lnum w n
        · obtain ⟨n, hn⟩ := x
          rw [lawN_yes hn]
          exact ⟨rfl, rfl⟩
        · rw [lawN_no x]
          exact ⟨rfl, rfl⟩
    refine ⟨?_, ?_⟩
    · show ((lawP c w).canLay0 && PyData.canLayAll0 (List.zipWith lawP cs ws)) = true
      rw [one.1, i1]
      rfl
    · show max (lawP c w).depth (PyData.depthAll (List.zipWith lawP cs ws)) = 0
      rw [one.2, i2]
      rfl
noncomputable def lawDs (w0 : Str) (ws : List Str) : List PyData := .str w0 :: List.zipWith lawP (formL w0) ws
theorem low3 {w : Str} (h : Is3 w) : LowS w := by
  obtain ⟨a, b, c⟩ := low_words
  rcases h with rfl | rfl | rfl
  · exact a
  · exact b
  · exact c
theorem row_same {hs : List Str} (hh : ∀ h ∈ hs, HouseS h) {x w0 : Str} {ws : List Str} (e : Txt.split x " " = w0 :: ws) (h3 : Is3 w0) (l : ws.length = (formL w0).length) (h : IsRowD hs (lineD x) ∨ IsRowD hs (.tuple (lawDs w0 ws))) : lineDs x = lawDs w0 ws := by
  have e1 : lineDs x = .str w0 :: ws.map thingOf := by
    unfold lineDs
    rw [e, List.map_cons, thing_low (low3 h3)]
  rw [e1]
  unfold lawDs
  congr 1
  refine List.ext_getElem? fun j => ?_
  by_cases hj : j < ws.length
  · have ew : ws[j]? = some ws[j] := List.getElem?_eq_getElem hj
    have ec : (formL w0)[j]? = some (formL w0)[j] := List.getElem?_eq_getElem (by omega)
    have em : (ws.map thingOf)[j]? = some (thingOf ws[j]) := by rw [List.getElem?_map, ew]; rfl
    have el : (List.zipWith lawP (formL w0) ws)[j]? = some (lawP (formL w0)[j] ws[j]) := by
      rw [List.getElem?_zipWith, ec, ew]
    rw [em, el]
    congr 1
    refine pos_same hh (formL_mem h3 _ (List.mem_of_getElem? ec)) ?_
    rcases h with ⟨r, er, hin, hb⟩ | ⟨r, er, hin, hb⟩
    · have e2 := PyData.tuple.inj er
      rw [e1] at e2
      have rw' := row_word e2
      refine .inl (row_okP hin hb j _ _ (by rw [rw']; exact ec) ?_)
      rw [← e2]
      exact em
    · have e2 := PyData.tuple.inj er
      have rw' := row_word (show .str w0 :: List.zipWith lawP (formL w0) ws = r.data from e2)
      refine .inr (row_okP hin hb j _ _ (by rw [rw']; exact ec) ?_)
      rw [← e2]
      exact el
  · rw [List.getElem?_eq_none (by rw [List.length_map]; omega), List.getElem?_eq_none (by rw [List.length_zipWith]; omega)]
theorem row_shape {hs : List Str} {x w0 : Str} {ws : List Str} (e : Txt.split x " " = w0 :: ws) (h : IsRowD hs (lineD x)) : Is3 w0 ∧ ws.length = (formL w0).length := by
  obtain ⟨r, er, _⟩ := h
  have e2 := PyData.tuple.inj er
  unfold lineDs at e2
  rw [e, List.map_cons] at e2
  have ew : w0 = r.word := by
    refine thing_str ?_
    cases r <;> exact (List.cons.inj e2).1
  have l := row_len r
  rw [← e2, List.length_cons, List.length_map, ← ew] at l
  refine ⟨?_, by omega⟩
  rw [ew]
  exact word3 r
def sp_lrow : Sp := fun vs H Q _ => ∃ (t : Addr) (x : Str) (hs gs : List Str), vs = [.ref t, .str x] ∧ TownAt H t hs gs ∧ (∀ h ∈ hs, HouseS h) ∧ PyData.strOk x = true ∧ x.length ≤ 700000 ∧
  (∀ (r : Addr) (us : List V) (H' : Hp), Same H H' → IsRowD hs (lineD x) → H' r = some (.tup us) → (∀ (Ex : Addr → Prop) (G : Hp), Dqs Ex G us (lineDs x)) → Q (.ref r) H') ∧ ∀ H', Same H H' → ¬ IsRowD hs (lineD x) → Q .non H'
theorem ok_l_row_in (T : Txt K mg af fd) : FnOk P w K mg base CX0 3 (af 52) (fd 52) ["town", "text"] sp_lrow := by
  refine T.F_l_row_in.ok sc_l_row_in (fun vs H Q E h => ?_) (fun cdv A outer s H vs Q E hr h => ?_)
  · obtain ⟨t, x, hs, gs, rfl, _⟩ := h
    rfl
  · obtain ⟨t, x, hs, gs, rfl, ht, hh, xok, xl, qY, qN⟩ := h
    refine ⟨_, (pss_cons (ps_set (i := 2) sc_l_row_in.nd rfl (by first | exact Or.inl rfl | exact Or.inr rfl) (pe_bm PySem.F.plainAttrs_str PySem.F.slot_str_split PySem.F.type_str_split mt_split (pv 1) (pa_cons pe_str pa_nil)))
        (pss_cons (ps_set (i := 3) sc_l_row_in.nd rfl (by first | exact Or.inl rfl | exact Or.inr rfl) (pe_disp (pps_cons pe_str pe_str (pps_cons pe_str pe_str (pps_cons pe_str pe_str pps_nil))) (by rfl) (by rfl) (fun z => by cases z) (by decide)))
        (pss_cons (ps_if (PW.pt (pw_or (pt_cmp (pc_dnotin (hu_of hr) (pe_ix ix_list (pv 2) pe_int (fun _ _ => rfl)) (pv 3))) (pw_or1 (pt_cmpR op_ne (pe_callB call_len_seq (by rfl) T.m_len (by decide +kernel) (pa_cons (pv 2) pa_nil)) (pe_op op_add pe_int (pe_callB call_len_str (by rfl) T.m_len (by decide +kernel) (pa_cons (pe_dget (hu_of hr) (pv 3) (pe_ix ix_list (pv 2) pe_int (fun _ _ => rfl)) (fun _ _ => rfl)) pa_nil))) (nomark _))))) (pss_one (ps_ret pe_non)) pss_nil)
        (pss_cons (ps_set (i := 4) sc_l_row_in.nd rfl (by first | exact Or.inl rfl | exact Or.inr rfl) (pe_lst (pa_cons (pe_ix ix_list (pv 2) pe_int (fun _ _ => rfl)) pa_nil)))
        (pss_cons (ps_for PassesOwn.never rfl (Zl.pi_zl (by rfl) T.m_zip (pa_cons (pe_dget (hu_of hr) (pv 3) (pe_ix ix_list (pv 2) pe_int (fun _ _ => rfl)) (fun _ _ => rfl)) (pa_cons (pe_slice sl_list (pv 2) (po_some pe_int) po_none) pa_nil))) (pg_tup rfl (pgs_cons (pg_name (i := 5) sc_l_row_in.nd rfl (by first | exact Or.inl rfl | exact Or.inr rfl)) (pgs_cons (pg_name (i := 6) sc_l_row_in.nd rfl (by first | exact Or.inl rfl | exact Or.inr rfl)) pgs_nil))) (pss_one (ps_if (pt_cmpR op_eq (pv 5) pe_str (nomark _)) (pss_one (ps_expr (pe_bm PySem.F.plainAttrs_list PySem.F.slot_list_append PySem.F.type_list_append mt_append (pv 4) (pa_cons (pv 6) pa_nil)))) (pss_one (ps_expr (pe_bm PySem.F.plainAttrs_list PySem.F.slot_list_append PySem.F.type_list_append mt_append (pv 4) (pa_cons (pe_call (ok_l_number_in T) (hr.mono (by first | decide | omega)) (by rfl) T.g_l_number_in T.F_l_number_in.kp T.b_l_number_in .nil pass0 (pa_cons (pv 6) pa_nil)) pa_nil)))))))
        (pss_cons (ps_if (pt_val (pe_call (ok_l_is_row T) (hr.mono (by first | decide | omega)) (by rfl) T.g_l_is_row T.F_l_is_row.kp T.b_l_is_row .nil pass0 (pa_cons (pv 0) (pa_cons (pe_callTy call_tuple_of (by rfl) T.m_tuple (by decide +kernel) (pa_cons (pv 4) pa_nil)) pa_nil)))) (pss_one (ps_ret (pe_callTy call_tuple_of (by rfl) T.m_tuple (by decide +kernel) (pa_cons (pv 4) pa_nil)))) pss_nil)
        (pss_one (ps_ret pe_non)))))))), ?_⟩
    have wok : ∀ w ∈ Txt.split x " ", PyData.strOk w = true ∧ w.length ≤ x.length := words_ok (c := 32) xok
    have wfew : (Txt.split x " ").length ≤ x.length + 1 := words_few x 32
    have big : x.length + 2 ≤ sizeLine := Nat.le_trans (show _ ≤ 1000000 by omega) (by decide)
    refine ⟨_, rfl, rfl, x, _, rfl, rfl, rfl, big, fun p np => ?_⟩
    obtain ⟨w0, ws, ews⟩ : ∃ w0 ws, Txt.split x " " = w0 :: ws := by
      cases e : Txt.split x " " with
      | nil => exact absurd e (Tt.split_some x 32)
      | cons a b => exact ⟨a, b, rfl⟩
    rw [show Txt.split x (Str.ofString " ") = w0 :: ws from ews]
    rw [ews] at wok wfew
    have s1 : Same H (upd H p (.lst ((w0 :: ws).map V.str))) := same_upd np
    have hp1 : (upd H p (.lst ((w0 :: ws).map V.str))) p = some (.lst (.str w0 :: ws.map V.str)) := upd_same
    generalize upd H p (.lst ((w0 :: ws).map V.str)) = H1 at s1 hp1 ⊢
    refine fun f nf => ⟨upd_same, formsV, rfl, by decide, ?_⟩
    have em : mergeK [] formsV = formsV := rfl
    rw [em, upd_upd]
    have s2 : Same H1 (upd H1 f (.dK formsV)) := same_upd nf
    have hf2 : (upd H1 f (.dK formsV)) f = some (.dK formsV) := upd_same
    have hp2 := s2 _ _ hp1
    have s02 := s1.trans s2
    have hfp : f ≠ p := fun e => by rw [e, hp1] at nf; cases nf
    generalize upd H1 f (.dK formsV) = H2 at s02 hf2 hp2 ⊢
    have w0ok := wok w0 List.mem_cons_self
    have shape : IsRowD hs (lineD x) → Is3 w0 ∧ ws.length = (formL w0).length := row_shape ews
    refine ⟨_, rfl, p, _, 0, _, rfl, rfl, SqL.of hp2, at_head, _, rfl, f, _, rfl, DGet.k (k := Sum.inr w0) hf2, _, rfl, ?_⟩
    by_cases h3 : Is3 w0
    · rw [formsV_at h3]
      refine iteF ?_
      have gf : ∀ {G : Hp}, G f = some (.dK formsV) → DGet G f (.str w0) (some (.str (SX.S (formL w0)))) := fun {G} e => by
        have e := DGet.k (k := Sum.inr w0) e
        rw [formsV_at h3] at e
        exact e
      refine ⟨_, rfl, p, _, rfl, .inl (SqL.of hp2), _, rfl, _, rfl, p, _, 0, _, rfl, rfl, SqL.of hp2, at_head, f, .str (SX.S (formL w0)), rfl, ?_, _, rfl, ?_, _, _, rfl, rfl, rfl, _, rfl, ?_⟩
      · exact gf hf2
      · rw [SX.S_len]
        exact Nat.le_trans (show _ ≤ 6 by rcases h3 with rfl | rfl | rfl <;> first | (rw [formL_ask]; decide) | (rw [formL_job]; decide) | (rw [formL_all]; decide)) (by decide)
      have l6 : (formL w0).length ≤ 6 := by rcases h3 with rfl | rfl | rfl <;> first | (rw [formL_ask]; decide) | (rw [formL_job]; decide) | (rw [formL_all]; decide)
      rw [SX.S_len]
      refine ite2 (fun z2 => ?_) (fun z2 => ?_)
      · refine qN H2 s02 fun z => ?_
        have := (shape z).2
        have e3 : ((.str w0 :: ws.map V.str : List V).length : Int) = 1 + ((formL w0).length : Int) := by
          rw [List.length_cons, List.length_map]
          omega
        rw [e3, decide_eq_true rfl] at z2
        cases z2
      have hlen : ws.length = (formL w0).length := by
        have e3 : decide (V.int ((.str w0 :: ws.map V.str : List V).length : Int) = V.int (1 + ((formL w0).length : Int))) = true := by
          cases e4 : decide (V.int ((.str w0 :: ws.map V.str : List V).length : Int) = V.int (1 + ((formL w0).length : Int))) with
          | true => rfl
          | false => exact absurd (by rw [e4]; rfl) z2
        have e5 := V.int.inj (of_decide_eq_true e3)
        rw [List.length_cons, List.length_map] at e5
        omega
      refine ⟨_, rfl, p, _, 0, _, rfl, rfl, SqL.of hp2, at_head, (by show 1 ≤ sizeLine; decide), fun rw nrw => ?_⟩
      have nrw0 : H rw = none := s02.free nrw
      have s3 : Same H2 (upd H2 rw (.lst [.str w0])) := same_upd nrw
      have hr3 : (upd H2 rw (.lst [.str w0])) rw = some (.lst [.str w0]) := upd_same
      have hp3 := s3 _ _ hp2
      have hf3 := s3 _ _ hf2
      have s03 := s02.trans s3
      generalize upd H2 rw (.lst [.str w0]) = H3 at s03 hr3 hp3 hf3 ⊢
      refine ⟨_, rfl, _, rfl, p, _, 0, _, rfl, rfl, SqL.of hp3, at_head, f, .str (SX.S (formL w0)), rfl, gf hf3, _, rfl, 1, rfl, p, _, rfl, SqL.of hp3, fun b nb => ?_⟩
      rw [cut_tail]
      have s4 : Same H3 (upd H3 b (.lst (ws.map V.str))) := same_upd nb
      have hb4 : (upd H3 b (.lst (ws.map V.str))) b = some (.lst (ws.map V.str)) := upd_same
      have hr4 := s4 _ _ hr3
      have hbr : b ≠ rw := fun e => by rw [e, hr3] at nb; cases nb
      have s04 := s03.trans s4
      generalize upd H3 b (.lst (ws.map V.str)) = H4 at s04 hb4 hr4 ⊢
      have inst : ∀ (k : Nat), (List.zipWith lawP (formL w0) ws).take k = List.zipWith lawP ((formL w0).take k) (ws.take k) := fun k => List.take_zipWith
      refine ⟨_, b, _, rfl, SqL.of hb4, ?_⟩
      refine for_it (Zl.walk_zl (K := K) (x := SX.S (formL w0)) (b := b) (ys := ws.map V.str) (by rw [List.length_map]; simp [hlen])) (fun i σ G => (∃ v5 v6 : Option V, σ = [some (.ref t), some (.str x), some (.ref p), some (.ref f), some (.ref rw), v5, v6]) ∧ Same H G ∧ G b = some (.lst (ws.map V.str)) ∧ ∃ us : List V, G rw = some (.lst (.str w0 :: us)) ∧ ∀ (Ex : Addr → Prop) (G' : Hp), Dqs Ex G' us ((List.zipWith lawP (formL w0) ws).take i))
        ⟨⟨none, none, rfl⟩, s04, hb4, [], hr4, fun _ _ => by rw [List.take_zero]; exact .nil⟩ (fun i σ G _ h => SqL.of h.2.2.1) ?_ ?_
      · rintro i pv σ G G2 hi ⟨⟨v5, v6, rfl⟩, g1, hb5, us, hr5, dq⟩ ⟨Tp, c, y, rfl, nT, rfl, hc, hy⟩
        have hcL : (formL w0)[i]? = some c := by
          rw [← hc]
          exact (Array.getElem?_toList (xs := (SX.S (formL w0)).cps)).symm ▸ rfl
        rw [List.getElem?_map] at hy
        obtain ⟨wd, ew, rfl⟩ := Option.map_eq_some_iff.mp hy
        have hc4 := formL_mem h3 c (List.mem_of_getElem? hcL)
        have wdok := wok wd (List.mem_cons_of_mem _ (List.mem_of_getElem? ew))
        have enext : (List.zipWith lawP (formL w0) ws).take (i + 1) = (List.zipWith lawP (formL w0) ws).take i ++ [lawP c wd] := by
          rw [List.take_add_one, List.getElem?_zipWith, hcL, ew]
          rfl
        have lu : us.length ≤ i := by
          have := (dq (fun _ => True) H).len
          rw [List.length_take] at this
          omega
        have hi6 : i < 6 := by
          have := (List.getElem?_eq_some_iff.mp hcL).1
          omega
        have s5 : Same H (upd G Tp (.tup [.str ⟨#[c]⟩, .str wd])) := same_mut g1 (g1.free nT)
        have hTb : Tp ≠ b := fun e => by rw [e, hb5] at nT; cases nT
        have hTr : Tp ≠ rw := fun e => by rw [e, hr5] at nT; cases nT
        have hb6 : (upd G Tp (.tup [.str ⟨#[c]⟩, .str wd])) b = some (.lst (ws.map V.str)) := by rw [upd_ne hTb.symm]; exact hb5
        have hr6 : (upd G Tp (.tup [.str ⟨#[c]⟩, .str wd])) rw = some (.lst (.str w0 :: us)) := by rw [upd_ne hTr.symm]; exact hr5
        refine ⟨Tp, _, rfl, SqT.of upd_same, rfl, _, _, rfl, _, _, rfl, rfl, ?_⟩
        generalize upd G Tp (.tup [.str ⟨#[c]⟩, .str wd]) = G5 at s5 hb6 hr6 ⊢
        have put : ∀ (v : V) (G6 : Hp), Same G5 G6 → (∀ (Ex : Addr → Prop) (G' : Hp), Dq Ex G' v (lawP c wd)) → Same H (upd G6 rw (.lst (.str w0 :: us ++ [v]))) ∧ (upd G6 rw (.lst (.str w0 :: us ++ [v]))) b = some (.lst (ws.map V.str)) ∧ ∃ us' : List V, (upd G6 rw (.lst (.str w0 :: us ++ [v]))) rw = some (.lst (.str w0 :: us')) ∧ ∀ (Ex : Addr → Prop) (G' : Hp), Dqs Ex G' us' ((List.zipWith lawP (formL w0) ws).take (i + 1)) := fun v G6 g6 d => by
          refine ⟨same_mut (s5.trans g6) nrw0, by rw [upd_ne hbr]; exact g6 _ _ hb6, us ++ [v], by rw [upd_same]; rfl, fun Ex G' => ?_⟩
          rw [enext]
          exact (dq Ex G').app (.cons (d Ex G') .nil)
        refine ⟨_, rfl, rfl, _, rfl, ?_⟩
        rw [show decide (V.str ⟨#[c]⟩ = V.str (Str.ofString "h")) = decide (c = 104) from sgn_eq c 104]
        refine ite2 (fun z4 => ?_) (fun z4 => ?_)
        · have ec : c = 104 := of_decide_eq_true z4
          refine ⟨_, rfl, .inl ⟨rfl, _, SqL.of hr6⟩, _, rfl, rw, _, _, rfl, rfl, hr6, small1000 (by rw [List.length_cons]; omega), ⟨_, _, rfl⟩, ?_⟩
          exact put (.str wd) G5 (.refl G5) fun _ _ => by unfold lawP; rw [if_pos ec]; exact .str _
        · have ec : ¬ c = 104 := fun e => z4 (decide_eq_true e)
          refine ⟨_, rfl, .inl ⟨rfl, _, SqL.of hr6⟩, _, rfl, wd, rfl, wdok.1, by omega, fun n G6 g6 hn => ?_, fun G6 g6 hn => ?_⟩
          · refine ⟨rw, _, _, rfl, rfl, g6 _ _ hr6, small1000 (by rw [List.length_cons]; omega), ⟨_, _, rfl⟩, ?_⟩
            exact put (.int n) G6 g6 fun _ _ => by unfold lawP; rw [if_neg ec, lawN_yes hn]; exact .int _
          · refine ⟨rw, _, _, rfl, rfl, g6 _ _ hr6, small1000 (by rw [List.length_cons]; omega), ⟨_, _, rfl⟩, ?_⟩
            exact put .non G6 g6 fun _ _ => by unfold lawP; rw [if_neg ec, lawN_no hn]; exact .non
      · rintro σ G ⟨⟨v5, v6, rfl⟩, g1, hb5, us, hr5, dq⟩
        have ew2 : (ws.map V.str).length = ws.length := List.length_map _
        rw [ew2, List.take_of_length_le (by rw [List.length_zipWith]; omega)] at dq
        have dq1 : ∀ (Ex : Addr → Prop) (G' : Hp), Dqs Ex G' (.str w0 :: us) (lawDs w0 ws) := fun Ex G' => .cons (.str w0) (dq Ex G')
        have shp : Sh (.tuple (lawDs w0 ws)) := by
          have key := lawP_lay (formL w0) ws fun w m => (wok w (List.mem_cons_of_mem _ m)).1
          refine ⟨?_, ?_⟩
          · show (PyData.strOk w0 && PyData.canLayAll0 (List.zipWith lawP (formL w0) ws)) = true
            rw [w0ok.1, key.1]
            rfl
          · show max 0 (PyData.depthAll (List.zipWith lawP (formL w0) ws)) + 1 ≤ _
            rw [key.2]
            decide
        refine ⟨_, rfl, _, rfl, rw, _, rfl, .inl ⟨SqL.of hr5, fun u nu => ?_⟩⟩
        have s5 : Same G (upd G u (.tup (.str w0 :: us))) := same_upd nu
        have hu5 : (upd G u (.tup (.str w0 :: us))) u = some (.tup (.str w0 :: us)) := upd_same
        generalize upd G u (.tup (.str w0 :: us)) = G5 at s5 hu5 ⊢
        have s05 := g1.trans s5
        refine ⟨fun _ => False, t, .ref u, .tuple (lawDs w0 ws), hs, gs, rfl, ht.same' s05, fun h m => (hh h m).ok, .tup hu5 (dq1 _ _), shp, fun r G6 s6 hr6 => ⟨r, rfl, ?_⟩⟩
        have s06 := s05.trans s6
        cases r with
        | true =>
          have isr := hr6.mp rfl
          have e := row_same hh ews h3 hlen (.inr isr)
          refine iteT ⟨_, rfl, rw, _, rfl, .inl ⟨SqL.of (s6 _ _ (s5 _ _ hr5)), fun u2 nu2 => ?_⟩⟩
          refine qY u2 _ _ (s06.trans (same_upd nu2)) ?_ upd_same fun Ex G' => ?_
          · unfold lineD
            rw [e]
            exact isr
          · rw [e]
            exact dq1 Ex G'
        | false =>
          refine iteF (qN G6 s06 fun z => ?_)
          have e := row_same hh ews h3 hlen (.inl z)
          unfold lineD at z
          rw [e] at z
          exact Bool.noConfusion (hr6.mpr z)
    · rw [formsV_no h3]
      exact iteT (qN H2 s02 fun z => h3 (shape z).1)
/-! ### what is told -/
def sp_told8 (af : Nat → Addr) : Sp := fun vs H Q _ => ∃ x : Str, vs = [.str x] ∧ Fit x ∧ Tbs af H ∧
  ∀ (p : Addr) (d : PyData) (H' : Hp), Sm H H' → Dq (fun _ => False) H' (.ref p) d → Out x d → Q (.ref p) H'
theorem ok_l_told (T : Txt K mg af fd) (B : TxtB base mg af) : FnOk P w K mg base CX0 9 (af 54) (fd 54) ["text"] (sp_told8 af) := by
  refine T.F_l_told.ok sc_l_told (fun vs H Q E h => ?_) (fun cdv A outer s H vs Q E hr h => ?_)
  · obtain ⟨x, rfl, _⟩ := h
    rfl
  · obtain ⟨x, rfl, W, tb, q⟩ := h
    refine ⟨_, pss_cons (ps_set (i := 1) sc_l_told.nd rfl (Or.inl rfl) (pe_lst pa_nil))
      (pss_cons (Xc.ps_try_each (i := 2) rfl rfl sc_l_told.nd rfl rfl takes0
        (fun W pn xe tk _ => pss_one (ps_set (i := 1) sc_l_told.nd rfl (Or.inl rfl) (by exact (pe_lst (pa_cons pe_str (pa_cons (pe_callS (ok_read_book T B) (hr.mono (by decide)) (by rfl) T.g_read_book T.F_read_book.kp T.b_read_book (fun σ => passAt tk σ) (by exact (pa_cons (pv 0) pa_nil))) pa_nil))))))
        (.cons ⟨rfl, by decide, Or.inl T.e_NoText.g⟩ (fun a oe cls d pn hz hf => pss_one (ps_set (i := 1) sc_l_told.nd rfl (Or.inl rfl) (by exact (pe_lst (pa_cons pe_str (pa_cons (pe_xf T.e_NoText.xf (T.e_NoText.no _ List.mem_cons_self) hz hf (pv 2)) pa_nil))))))
        (.cons ⟨rfl, by decide, Or.inl T.e_Clash.g⟩ (fun a oe cls d pn hz hf => pss_one (ps_set (i := 1) sc_l_told.nd rfl (Or.inl rfl) (by exact (pe_lst (pa_cons pe_str (pa_cons (pe_xf T.e_Clash.xf (T.e_Clash.no _ List.mem_cons_self) hz hf (pv 2)) (pa_cons (pe_xf T.e_Clash.xf (T.e_Clash.no _ (List.mem_cons_of_mem _ List.mem_cons_self)) hz hf (pv 2)) pa_nil)))))))
        .nil)))
      (pss_one (ps_ret (pv 1)))), ?_⟩
    refine ⟨Nat.zero_le _, fun e0 ne0 => ?_⟩
    have s1 : Same H (upd H e0 (.lst [])) := same_upd ne0
    generalize upd H e0 (.lst []) = H1 at s1 ⊢
    refine ⟨_, rfl, x, rfl, W, tb.same s1, fun l0 mid rs u t l us H2 g2 hu hT hl nl dq o => ?_, fun n d H2 g2 hd2 o => ?_, fun f s2 d H2 g2 hd2 o => ?_⟩
    · have g := (Sm.of s1).trans g2
      refine ⟨(by show 2 ≤ sizeLine; decide), fun p np => ⟨_, rfl, ?_⟩⟩
      have s3 := same_upd (o := .lst [.str "told", .ref u]) np
      refine q p _ _ (g.mut (g.free np)) (.lst (fun z => z) upd_same (.cons (.str _) (.cons (.tup (s3 _ _ hu) (.cons (hT.same' s3).dq (.cons (.lst (fun z => z) (s3 _ _ hl) ((dq _).same s3)) .nil))) .nil))) o
    · have g := (Sm.of s1).trans g2
      refine ⟨true, T.x_NoText_NoText, fun _ a na => ?_, fun z => Bool.noConfusion z⟩
      refine ⟨_, rfl, rfl, rfl, d, _, .int (n : Nat), rfl, hd2, rfl, (by show 2 ≤ sizeLine; decide), fun p np => ⟨_, rfl, ?_⟩⟩
      exact q p _ _ (g.mut (g.free np)) (.lst (fun z => z) upd_same (.cons (.str _) (.cons (.int _) .nil))) o
    · have g := (Sm.of s1).trans g2
      refine ⟨false, T.x_Clash_NoText, fun z => Bool.noConfusion z, fun _ => ⟨true, T.x_Clash_Clash, fun _ a na => ?_, fun z => Bool.noConfusion z⟩⟩
      refine ⟨_, rfl, rfl, rfl, d, _, .int (f : Nat), rfl, hd2, rfl, _, rfl, rfl, rfl, d, _, .int (s2 : Nat), rfl, hd2, rfl, (by show 3 ≤ sizeLine; decide), fun p np => ⟨_, rfl, ?_⟩⟩
      exact q p _ _ (g.mut (g.free np)) (.lst (fun z => z) upd_same (.cons (.str _) (.cons (.int _) (.cons (.int _) .nil)))) o
/-! ### what is due -/
def sp_due8 : Sp := fun vs H Q _ => ∃ x : Str, vs = [.str x] ∧ Fit x ∧ (∀ l ∈ Txt.split x "\n", (Txt.split l " ").length ≤ 60) ∧
  ∀ (p : Addr) (d : PyData) (H' : Hp), Same H H' → Dq (fun _ => False) H' (.ref p) d → Out x d → Q (.ref p) H'
theorem at_last {xs : List V} {v : V} : atI (xs ++ [v]) (-1) = some v := by
  unfold atI ixN
  have e : ((xs ++ [v]).length : Int) = xs.length + 1 := by rw [List.length_append]; rfl
  rw [if_neg (by omega), if_pos (by omega), e]
  show (xs ++ [v])[((-1 : Int) + (xs.length + 1)).toNat]? = some v
  rw [show ((-1 : Int) + (xs.length + 1)).toNat = xs.length by omega, List.getElem?_append_right (Nat.le_refl _), Nat.sub_self]
  rfl
theorem ok_l_due (T : Txt K mg af fd) : FnOk P w K mg base CX0 4 (af 55) (fd 55) ["text"] sp_due8 := by
  refine T.F_l_due.ok sc_l_due (fun vs H Q E h => ?_) (fun cdv A outer s H vs Q E hr h => ?_)
  · obtain ⟨x, rfl, _⟩ := h
    rfl
  · obtain ⟨x, rfl, W, wrd, q⟩ := h
    refine ⟨_, (pss_cons (ps_set (i := 1) sc_l_due.nd rfl (by first | exact Or.inl rfl | exact Or.inr rfl) (pe_bm PySem.F.plainAttrs_str PySem.F.slot_str_split PySem.F.type_str_split mt_split (pv 0) (pa_cons pe_str pa_nil)))
        (pss_cons (ps_set (i := 2) sc_l_due.nd rfl (by first | exact Or.inl rfl | exact Or.inr rfl) (pe_call (ok_l_town_in T) (hr.mono (by first | decide | omega)) (by rfl) T.g_l_town_in T.F_l_town_in.kp T.b_l_town_in .nil pass0 (pa_cons (pe_ix ix_list (pv 1) pe_int (fun _ _ => rfl)) pa_nil)))
        (pss_cons (ps_if (PW.pt (pw_or (pt_cmpR op_isN (pv 2) pe_non (nomark _)) (pw_or1 (pt_cmpR op_eq (pe_callB call_len_seq (by rfl) T.m_len (by decide +kernel) (pa_cons (pv 1) pa_nil)) pe_int (nomark _))))) (pss_one (ps_ret (pe_lst (pa_cons pe_str (pa_cons pe_int pa_nil))))) pss_nil)
        (pss_cons (ps_set (i := 3) sc_l_due.nd rfl (by first | exact Or.inl rfl | exact Or.inr rfl) (pe_lst pa_nil))
        (pss_cons (ps_for PassesOwn.never rfl (pi_range2 (by rfl) T.m_range (pa_cons pe_int (pa_cons (pe_op op_sub (pe_callB call_len_seq (by rfl) T.m_len (by decide +kernel) (pa_cons (pv 1) pa_nil)) pe_int) pa_nil))) (pg_name (i := 4) sc_l_due.nd rfl (by first | exact Or.inl rfl | exact Or.inr rfl)) (pss_cons (ps_expr (pe_bm PySem.F.plainAttrs_list PySem.F.slot_list_append PySem.F.type_list_append mt_append (pv 3) (pa_cons (pe_call (ok_l_row_in T) (hr.mono (by first | decide | omega)) (by rfl) T.g_l_row_in T.F_l_row_in.kp T.b_l_row_in .nil pass0 (pa_cons (pv 2) (pa_cons (pe_ix ix_list (pv 1) (pv 4) (fun _ _ => rfl)) pa_nil))) pa_nil)))
        (pss_one (ps_if (pt_cmpR op_isN (pe_ix ix_list (pv 3) (pe_un un_neg pe_int) (fun _ _ => rfl)) pe_non (nomark _)) (pss_one (ps_ret (pe_lst (pa_cons pe_str (pa_cons (pv 4) pa_nil))))) pss_nil))))
        (pss_cons (ps_if (pt_cmpR (op_neD hr.units) (pe_ix ix_list (pv 1) (pe_un un_neg pe_int) (fun _ _ => rfl)) pe_str (nomark _)) (pss_one (ps_ret (pe_lst (pa_cons pe_str (pa_cons (pe_op op_sub (pe_callB call_len_seq (by rfl) T.m_len (by decide +kernel) (pa_cons (pv 1) pa_nil)) pe_int) pa_nil))))) pss_nil)
        (pss_cons (ps_set (i := 5) sc_l_due.nd rfl (by first | exact Or.inl rfl | exact Or.inr rfl) (pe_call (ok_l_first_clash T) (hr.mono (by first | decide | omega)) (by rfl) T.g_l_first_clash T.F_l_first_clash.kp T.b_l_first_clash .nil pass0 (pa_cons (pv 3) pa_nil)))
        (pss_cons (ps_if (pt_cmpR op_notN (pv 5) pe_non (nomark _)) (pss_one (ps_ret (pe_lst (pa_cons pe_str (pa_cons (pe_ix ix_tup (pv 5) pe_int (fun _ _ => rfl)) (pa_cons (pe_ix ix_tup (pv 5) pe_int (fun _ _ => rfl)) pa_nil)))))) pss_nil)
        (pss_one (ps_ret (pe_lst (pa_cons pe_str (pa_cons (pe_tup (pa_cons (pv 2) (pa_cons (pv 3) pa_nil))) pa_nil))))))))))))), ?_⟩
    obtain ⟨tl, rest, cut⟩ := snoc_of (Tt.split_some x 10)
    have cut : Txt.split x "\n" = tl ++ [rest] := cut
    have fitx : x.length + 2 ≤ sizeLine := Nat.le_trans (show _ ≤ 1000000 by have := W.len; omega) (by decide)
    have lx := W.len
    have lok : ∀ l ∈ tl ++ [rest], PyData.strOk l = true ∧ l.length ≤ x.length := fun l m => words_ok (c := 10) W.ok l (by
      rw [show Txt.split x (Tt.sg 10) = tl ++ [rest] from cut]
      exact m)
    have few : tl.length ≤ 899 := by
      have := W.few
      rw [cut, List.length_append] at this
      have e : [rest].length = 1 := rfl
      omega
    rw [cut] at wrd
    refine ⟨_, rfl, rfl, x, _, rfl, rfl, rfl, fitx, fun p np => ?_⟩
    rw [show Txt.split x (Str.ofString "\n") = tl ++ [rest] from cut]
    have s1 : Same H (upd H p (.lst ((tl ++ [rest]).map V.str))) := same_upd np
    have hp1 : (upd H p (.lst ((tl ++ [rest]).map V.str))) p = some (.lst ((tl ++ [rest]).map V.str)) := upd_same
    generalize upd H p (.lst ((tl ++ [rest]).map V.str)) = H1 at s1 hp1 ⊢
    have txt : ∀ (n : Nat) {G : Hp}, Same H G → Out x (.list [.str "text", .int (n : Nat)]) → ∀ p2, G p2 = none → Q (.ref p2) (upd G p2 (.lst [.str "text", .int (n : Nat)])) := fun n {G} s o p2 n2 =>
      q p2 _ _ (same_mut s (s.free n2)) (.lst (fun z => z) upd_same (.cons (.str _) (.cons (.int _) .nil))) o
    cases tl with
    | nil =>
      have l0 := lok rest List.mem_cons_self
      refine ⟨_, rfl, p, _, 0, .str rest, rfl, rfl, SqL.of hp1, at_head, rest, rfl, l0.1, by omega, wrd rest List.mem_cons_self, fun t H2 s2 _ _ => ?_, fun H2 s2 _ => ?_⟩
      · have s12 := s1.trans s2
        refine ⟨_, rfl, rfl, _, rfl, iteF ⟨_, rfl, p, _, rfl, .inl (SqL.of (s2 _ _ hp1)), rfl, _, rfl, iteT ⟨(by show 2 ≤ sizeLine; decide), fun p2 n2 => ?_⟩⟩⟩
        exact txt 0 s12 (.inl ⟨rest, cut, rfl⟩) p2 n2
      · have s12 := s1.trans s2
        refine ⟨_, rfl, rfl, _, rfl, iteT (iteT ⟨(by show 2 ≤ sizeLine; decide), fun p2 n2 => ?_⟩)⟩
        exact txt 0 s12 (.inl ⟨rest, cut, rfl⟩) p2 n2
    | cons l0 mid =>
      have ok0 := lok l0 List.mem_cons_self
      have cut2 : Txt.split x "\n" = l0 :: (mid ++ [rest]) := cut
      refine ⟨_, rfl, p, _, 0, .str l0, rfl, rfl, SqL.of hp1, at_head, l0, rfl, ok0.1, by omega, wrd l0 List.mem_cons_self, fun t H2 s2 hTD hT => ?_, fun H2 s2 no => ?_⟩
      · have s12 := s1.trans s2
        refine ⟨_, rfl, rfl, _, rfl, iteF ⟨_, rfl, p, _, rfl, .inl (SqL.of (s2 _ _ hp1)), rfl, _, rfl, ?_⟩⟩
        have len2 : ((l0 :: mid ++ [rest]).map V.str).length = mid.length + 2 := by rw [List.length_map, List.length_append, List.length_cons]; rfl
        refine ite2 (fun z => ?_) (fun z => ?_)
        · have z := V.int.inj (of_decide_eq_true z)
          rw [len2] at z
          omega
        refine ⟨Nat.zero_le _, fun rw nrw => ?_⟩
        have nrw0 : H rw = none := s12.free nrw
        have s3 : Same H2 (upd H2 rw (.lst [])) := same_upd nrw
        have hr3 : (upd H2 rw (.lst [])) rw = some (.lst []) := upd_same
        have hp3 := s3 _ _ (s2 _ _ hp1)
        have hT3 := hT.same' s3
        have s13 := s12.trans s3
        have hrp : p ≠ rw := fun e => by rw [← e, s2 _ _ hp1] at nrw; cases nrw
        generalize upd H2 rw (.lst []) = H3 at s13 hr3 hp3 hT3 ⊢
        have isH : ∀ h ∈ hsOf l0, HouseS h := fun h m => by
          obtain ⟨hs', gs', e, hh, _⟩ := hTD
          obtain ⟨e8, _⟩ := List.cons.inj (PyData.tuple.inj e)
          rw [strs_inj (PyData.tuple.inj e8)] at m
          exact hh h m
        have hokh : ∀ h ∈ hsOf l0, PyData.strOk h = true := fun h m => (isH h m).ok
        have fm : mid.length ≤ 898 := by have : (l0 :: mid).length = mid.length + 1 := rfl; omega
        refine ⟨_, rfl, p, _, rfl, .inl (SqL.of hp3), _, _, rfl, rfl, 1, _, rfl, ⟨by decide, by decide, ?_, ?_⟩, ?_⟩
        · rw [len2]; omega
        · rw [len2]; omega
        refine for_range (lo := 1) (n := ((((l0 :: mid ++ [rest]).map V.str).length : Int) - 1 - 1).toNat) (fun i σ G => (∃ v4 v5 : Option V, σ = [some (.str x), some (.ref p), some (.ref t), some (.ref rw), v4, v5]) ∧ Same H G ∧ G p = some (.lst ((l0 :: mid ++ [rest]).map V.str)) ∧ TownAt G t (hsOf l0) (gsOf l0) ∧ RowsD (hsOf l0) (mid.map lineD) i ∧ ∃ us : List V, G rw = some (.lst us) ∧ Dqs (fun _ => True) G us ((mid.take i).map lineD))
          ⟨⟨none, none, rfl⟩, s13, hp3, hT3, fun j d hj => absurd hj (Nat.not_lt_zero j), [], hr3, by rw [List.take_zero]; exact .nil⟩ ?_ ?_
        · rintro i σ G hi ⟨⟨v4, v5, rfl⟩, g1, hp4, hT4, hrows, us, hr4, dq⟩
          rw [len2] at hi
          have him : i < mid.length := by omega
          have el : mid[i]? = some mid[i] := List.getElem?_eq_getElem him
          generalize mid[i] = l at el
          have ml := List.mem_of_getElem? el
          have okl := lok l (List.mem_append_left _ (List.mem_cons_of_mem _ ml))
          have eat : atI ((l0 :: mid ++ [rest]).map V.str) (1 + (i : Int)) = some (.str l) := by
            refine at_any (j := 1 + i) (by omega) ?_
            rw [List.getElem?_map, show l0 :: mid ++ [rest] = [l0] ++ (mid ++ [rest]) from rfl, List.getElem?_append_right (by show 1 ≤ 1 + i; omega), show 1 + i - [l0].length = i by show 1 + i - 1 = i; omega, List.getElem?_append_left him, el]
            rfl
          have lu : us.length = i := by
            have := dq.len
            rw [List.length_map, List.length_take] at this
            omega
          have enext : (mid.take (i + 1)).map lineD = (mid.take i).map lineD ++ [lineD l] := by
            rw [List.take_add_one, el, List.map_append]
            rfl
          refine ⟨_, rfl, .inl ⟨rfl, _, SqL.of hr4⟩, _, rfl, _, rfl, _, rfl, p, _, _, _, rfl, rfl, SqL.of hp4, eat, t, l, hsOf l0, gsOf l0, rfl, hT4, isH, okl.1, by omega, fun r us2 G5 g5 isr hr5 dq5 => ?_, fun G5 g5 no => ?_⟩
          · have hr6 := g5 _ _ hr4
            refine ⟨rw, us, _, rfl, rfl, hr6, small1000 (by omega), ?_⟩
            have hup : (upd G5 rw (.lst (us ++ [.ref r]))) rw = some (.lst (us ++ [.ref r])) := upd_same
            have g7 : Same H (upd G5 rw (.lst (us ++ [.ref r]))) := same_mut (g1.trans g5) nrw0
            have kept : ∀ a o, a ≠ rw → G5 a = some o → (upd G5 rw (.lst (us ++ [.ref r]))) a = some o := fun a o n e => by rw [upd_ne n]; exact e
            have hT7 : TownAt (upd G5 rw (.lst (us ++ [.ref r]))) t (hsOf l0) (gsOf l0) := by
              obtain ⟨ta, tb, t1, t2, t3⟩ := hT4.same' g5
              exact ⟨ta, tb, kept _ _ (ne_of t1 hr6 fun z => nomatch z) t1, kept _ _ (ne_of t2 hr6 fun z => nomatch z) t2, kept _ _ (ne_of t3 hr6 fun z => nomatch z) t3⟩
            have dq7 : Dqs (fun _ => True) (upd G5 rw (.lst (us ++ [.ref r]))) us ((mid.take i).map lineD) := (dq.same g5).anyE fun a o e => kept _ _ (ne_of e hr6 fun z => nomatch z) e
            have dqr : Dq (fun _ => True) (upd G5 rw (.lst (us ++ [.ref r]))) (.ref r) (lineD l) := .tup (kept _ _ (ne_of hr5 hr6 fun z => nomatch z) hr5) (dq5 _ _)
            refine ⟨_, rfl, 1, rfl, rw, _, -1, _, rfl, rfl, SqL.of hup, at_last, rfl, _, rfl, iteFd (fun z => by cases z) ?_⟩
            refine ⟨⟨_, _, rfl⟩, g7, kept _ _ hrp (g5 _ _ hp4), hT7, fun j d hj e => ?_, us ++ [.ref r], hup, ?_⟩
            · by_cases ej : j = i
              · subst ej
                rw [List.getElem?_map, el] at e
                obtain rfl := Option.some.inj e
                exact isr
              · exact hrows j d (by omega) e
            · rw [enext]
              exact dq7.app (.cons dqr .nil)
          · have hr6 := g5 _ _ hr4
            refine ⟨rw, us, _, rfl, rfl, hr6, small1000 (by omega), ?_⟩
            have hup : (upd G5 rw (.lst (us ++ [.non]))) rw = some (.lst (us ++ [.non])) := upd_same
            have g7 : Same H (upd G5 rw (.lst (us ++ [.non]))) := same_mut (g1.trans g5) nrw0
            refine ⟨_, rfl, 1, rfl, rw, _, -1, _, rfl, rfl, SqL.of hup, at_last, rfl, _, rfl, iteT ⟨_, rfl, (by show 2 ≤ sizeLine; decide), fun p2 n2 => ?_⟩⟩
            exact txt (1 + i) g7 (.inr ⟨l0, mid, rest, cut2, .row i l hTD hrows el no⟩) p2 n2
        · rintro σ G ⟨⟨v4, v5, rfl⟩, g1, hp4, hT4, hrows, us, hr4, dq⟩
          have en : ((((l0 :: mid ++ [rest]).map V.str).length : Int) - 1 - 1).toNat = mid.length := by rw [len2]; omega
          rw [en] at hrows dq
          rw [List.take_length] at dq
          have okr := (lok rest (List.mem_append_right _ List.mem_cons_self)).1
          have e0 : PyData.strOk (Str.ofString "") = true := by decide +kernel
          have eat : atI ((l0 :: mid ++ [rest]).map V.str) (-1) = some (.str rest) := by
            rw [List.map_append]
            exact at_last
          refine ⟨_, rfl, 1, rfl, p, _, -1, _, rfl, rfl, SqL.of hp4, eat, .str rest, .str "", .str _, .str _, sh_str okr, sh_str e0, _, rfl, ?_⟩
          cases t1 : PyData.eqv (.str rest) (.str "") with
          | false =>
            have n1 : rest ≠ "" := fun e => by
              rw [eqv_str.mpr (by rw [e])] at t1
              exact Bool.noConfusion t1
            have e9 : ((((l0 :: mid ++ [rest]).map V.str).length : Nat) : Int) - 1 = ((1 + mid.length : Nat) : Int) := by rw [len2]; omega
            refine iteT ⟨_, rfl, p, _, rfl, .inl (SqL.of hp4), _, _, rfl, rfl, (by show 2 ≤ sizeLine; decide), fun p2 n2 => ?_⟩
            have k := txt (1 + mid.length) g1 (.inr ⟨l0, mid, rest, cut2, .rest hTD hrows n1⟩) p2 n2
            rw [← e9] at k
            exact k
          | true =>
            obtain rfl := PyData.str.inj (eqv_str.mp t1)
            refine iteF ?_
            have wf : RowsW (mid.map lineD) := fun j d e => by
              obtain ⟨r, e2, w, _⟩ := isRow_wf hokh (hrows j d (by have := (List.getElem?_eq_some_iff.mp e).1; rw [List.length_map] at this; exact this) e)
              exact ⟨r, e2, w⟩
            refine ⟨_, rfl, fun _ => True, rw, us, mid.map lineD, rfl, hr4, dq, wf, by rw [List.length_map]; omega, fun G5 g5 nc => ?_, fun f s2 p5 G5 hfc g5 hp5 => ?_⟩
            · refine ⟨_, rfl, rfl, _, rfl, iteF ⟨_, rfl, _, rfl, (by show 2 ≤ sizeLine; decide), fun u nu => ?_⟩⟩
              have su := same_upd (o := .tup [.ref t, .ref rw]) nu
              have hu : (upd G5 u (.tup [.ref t, .ref rw])) u = some (.tup [.ref t, .ref rw]) := upd_same
              generalize upd G5 u (.tup [.ref t, .ref rw]) = G6 at su hu ⊢
              refine ⟨(by show 2 ≤ sizeLine; decide), fun p2 n2 => ?_⟩
              have s2' := same_upd (o := .lst [.str "told", .ref u]) n2
              have g6 := (g1.trans g5).trans su
              obtain ⟨rs, e, hrw, Bk⟩ := book_of hokh dq (by rw [List.length_map]; exact hrows) nc
              rw [e] at dq
              rw [List.length_map] at nc
              refine q p2 _ _ (same_mut g6 (g6.free n2)) (.lst (fun z => z) upd_same (.cons (.str _) (.cons (.tup (s2' _ _ hu) (.cons (((hT4.same' g5).same' su).same' s2').dq (.cons (.lst (fun z => z) (s2' _ _ (su _ _ (g5 _ _ hr4))) (dq.anyE fun a o e => s2' _ _ (su _ _ (g5 _ _ e)))) .nil))) .nil))) (.inr ⟨l0, mid, "", cut2, .told rs hTD hrows rfl nc e⟩)
            · refine ⟨_, rfl, rfl, _, rfl, iteT ⟨_, rfl, p5, _, 0, _, rfl, rfl, SqT.of hp5, rfl, _, rfl, p5, _, 1, _, rfl, rfl, SqT.of hp5, rfl, (by show 3 ≤ sizeLine; decide), fun p2 n2 => ?_⟩⟩
              have g6 := g1.trans g5
              exact q p2 _ _ (same_mut g6 (g6.free n2)) (.lst (fun z => z) upd_same (.cons (.str _) (.cons (.int _) (.cons (.int _) .nil)))) (.inr ⟨l0, mid, "", cut2, .clash f s2 hTD hrows rfl hfc⟩)
      · have s12 := s1.trans s2
        refine ⟨_, rfl, rfl, _, rfl, iteT (iteT ⟨(by show 2 ≤ sizeLine; decide), fun p2 n2 => ?_⟩)⟩
        exact txt 0 s12 (.inr ⟨l0, mid, rest, cut2, .town no⟩) p2 n2
/-! ### one answer only -/
theorem Res8.one {l0 : Str} {mid : List Str} {rest : Str} {a b : PyData} (x : Res8 l0 mid rest a) (y : Res8 l0 mid rest b) : a = b := by
  have bad : ∀ {k : Nat} {l : Str}, mid[k]? = some l → ¬ IsRowD (hsOf l0) (lineD l) → ¬ RowsD (hsOf l0) (mid.map lineD) mid.length := fun {k l} e n h =>
    n (h k (lineD l) (List.getElem?_eq_some_iff.mp e).1 (by rw [List.getElem?_map, e]; rfl))
  have len : (mid.map lineD).length = mid.length := List.length_map _
  cases x with
  | town n =>
    cases y with
    | town _ => rfl
    | row _ _ t _ _ _ => exact absurd t n
    | rest t _ _ => exact absurd t n
    | clash _ _ t _ _ _ => exact absurd t n
    | told _ t _ _ _ _ => exact absurd t n
  | row k l t h e n =>
    cases y with
    | town m => exact absurd t m
    | row j l2 _ h2 e2 n2 =>
      have ej : k = j := by
        rcases Nat.lt_trichotomy k j with lt | eq | gt
        · exact absurd (h2 k (lineD l) lt (by rw [List.getElem?_map, e]; rfl)) n
        · exact eq
        · exact absurd (h j (lineD l2) gt (by rw [List.getElem?_map, e2]; rfl)) n2
      rw [ej]
    | rest _ r _ => exact absurd r (bad e n)
    | clash _ _ _ r _ _ => exact absurd r (bad e n)
    | told _ _ r _ _ _ => exact absurd r (bad e n)
  | rest t r ne =>
    cases y with
    | town m => exact absurd t m
    | row _ _ _ _ e n => exact absurd r (bad e n)
    | rest _ _ _ => rfl
    | clash _ _ _ _ e _ => exact absurd e ne
    | told _ _ _ e _ _ => exact absurd e ne
  | clash f s t r e c =>
    cases y with
    | town m => exact absurd t m
    | row _ _ _ _ e2 n => exact absurd r (bad e2 n)
    | rest _ _ ne => exact absurd e ne
    | clash f' s' _ _ _ k2 =>
      have es : s = s' := by
        rcases Nat.lt_trichotomy s s' with h | h | h
        · exact absurd c.at_ (k2.no s h f c.lt)
        · exact h
        · exact absurd k2.at_ (c.no s' h f' k2.lt)
      subst es
      have ef : f = f' := by
        rcases Nat.lt_trichotomy f f' with h | h | h
        · exact absurd c.at_ (k2.low f h)
        · exact h
        · exact absurd k2.at_ (c.low f' h)
      rw [ef]
    | told _ _ _ _ nc _ => exact absurd c.at_ (nc s (by rw [← len]; exact c.len) f c.lt)
  | told rs t r e nc em =>
    cases y with
    | town m => exact absurd t m
    | row _ _ _ _ e2 n => exact absurd r (bad e2 n)
    | rest _ _ ne => exact absurd e ne
    | clash f s _ _ _ c => exact absurd c.at_ (nc s (by rw [← len]; exact c.len) f c.lt)
    | told ts _ _ _ _ em2 =>
      have : rs = ts := (List.map_inj_right fun r t (e : rowD r = rowD t) => data_inj (PyData.tuple.inj e)).mp (em.symm.trans em2)
      rw [this]
theorem Out.one {x : Str} {a b : PyData} (h : Out x a) (k : Out x b) : a = b := by
  rcases h with ⟨r, e, rfl⟩ | ⟨l0, mid, rest, e, h⟩
  · rcases k with ⟨_, _, rfl⟩ | ⟨l0, mid, rest, e2, _⟩
    · rfl
    · rw [e] at e2
      exact absurd (congrArg List.length e2) (by intro z; simp only [List.length_cons, List.length_append, List.length_nil] at z; omega)
  · rcases k with ⟨r, e2, _⟩ | ⟨l1, mid1, rest1, e2, k⟩
    · rw [e2] at e
      exact absurd (congrArg List.length e) (by intro z; simp only [List.length_cons, List.length_append, List.length_nil] at z; omega)
    · obtain ⟨rfl, e3⟩ := List.cons.inj (e.symm.trans e2)
      obtain ⟨rfl, e4⟩ := List.append_inj' e3 rfl
      obtain ⟨rfl, _⟩ := List.cons.inj e4
      exact h.one k
theorem depth_texts : ∀ hs : List Str, PyData.depthAll (hs.map PyData.str) = 0
  | [] => rfl
  | h :: r => by
    show max 0 (PyData.depthAll (r.map PyData.str)) = 0
    rw [depth_texts r]
    rfl
theorem depth_rows : ∀ rs : List Row, PyData.depthAll (rs.map rowD) ≤ 1
  | [] => Nat.zero_le _
  | r :: rs => by
    have a : PyData.depthAll r.data = 0 := by cases r <;> rfl
    have i := depth_rows rs
    show max (PyData.depthAll r.data + 1) (PyData.depthAll (rs.map rowD)) ≤ 1
    rw [a]
    omega
theorem Out.depth {x : Str} {d : PyData} (h : Out x d) : d.depth < 5 := by
  rcases h with ⟨r, _, rfl⟩ | ⟨l0, mid, rest, _, h⟩
  · exact (by decide : 1 < 5)
  · cases h with
    | told rs _ _ _ _ _ =>
      have a := depth_texts (hsOf l0)
      have b := depth_texts (gsOf l0)
      have c := depth_rows rs
      show max 0 (max (max (max (PyData.depthAll ((hsOf l0).map PyData.str) + 1) (max (PyData.depthAll ((gsOf l0).map PyData.str) + 1) 0) + 1) (max (PyData.depthAll (rs.map rowD) + 1) 0) + 1) 0) + 1 < 5
      rw [a, b]
      omega
    | _ => exact (by decide : 1 < 5)
/-! ### how long a text is, and of how many words a line -/
def LSp (m : Nat) (cs : List Nat) : Prop := ∀ p w s, cs = p ++ w ++ s → 10 ∉ w → w.count 32 ≤ m
structure TL (L m n : Nat) (cs : List Nat) : Prop where
  ok : ∀ c ∈ cs, c < 0x110000
  len : cs.length ≤ L
  nl : cs.count 10 ≤ n
  sp : LSp m cs
theorem TL.mono {L m n L' m' n' : Nat} {cs : List Nat} (h : TL L m n cs) (a : L ≤ L') (b : m ≤ m') (c : n ≤ n') : TL L' m' n' cs :=
  ⟨h.ok, Nat.le_trans h.len a, Nat.le_trans h.nl c, fun p w s e k => Nat.le_trans (h.sp p w s e k) b⟩
theorem TL.infix {L m n : Nat} {cs p w s : List Nat} (h : TL L m n cs) (e : cs = p ++ w ++ s) : TL L m n w := by
  refine ⟨fun c mc => h.ok c ?_, ?_, ?_, fun p' w' s' e' k => ?_⟩
  · rw [e]
    exact List.mem_append_left _ (List.mem_append_right _ mc)
  · have := h.len
    rw [e, List.length_append, List.length_append] at this
    omega
  · have := h.nl
    rw [e, List.count_append, List.count_append] at this
    omega
  · refine h.sp (p ++ p') w' (s' ++ s) ?_ k
    rw [e, e']
    simp only [List.append_assoc]
theorem TL.take {L m n : Nat} {cs : List Nat} (h : TL L m n cs) (k : Nat) : TL L m n (cs.take k) := h.infix (p := []) (s := cs.drop k) (by rw [List.nil_append, List.take_append_drop])
theorem TL.drop {L m n : Nat} {cs : List Nat} (h : TL L m n cs) (k : Nat) : TL L m n (cs.drop k) := h.infix (p := cs.take k) (s := []) (by rw [List.append_nil, List.take_append_drop])
theorem TL.app {L m n L' m' n' : Nat} {a b : List Nat} (h : TL L m n a) (k : TL L' m' n' b) : TL (L + L') (m + m') (n + n') (a ++ b) := by
  refine ⟨fun c mc => (List.mem_append.mp mc).elim (h.ok c) (k.ok c), ?_, ?_, fun p w s e z => ?_⟩
  · have := h.len
    have := k.len
    rw [List.length_append]
    omega
  · have := h.nl
    have := k.nl
    rw [List.count_append]
    omega
  · have e' : a ++ b = p ++ (w ++ s) := by rw [e, List.append_assoc]
    rcases List.append_eq_append_iff.mp e' with ⟨c, e1, e2⟩ | ⟨c, e1, e2⟩
    · have := k.sp c w s (by rw [e2, List.append_assoc]) z
      omega
    · -- a = p ++ c, w ++ s = c ++ b
      rcases List.append_eq_append_iff.mp e2.symm with ⟨d, e3, e4⟩ | ⟨d, e3, e4⟩
      · have := k.sp [] d s (by rw [e4]; rfl) (fun m => z (by rw [e3]; exact List.mem_append_right _ m))
        have := h.sp p c [] (by rw [e1, List.append_nil]) (fun m => z (by rw [e3]; exact List.mem_append_left _ m))
        rw [e3, List.count_append]
        omega
      · have := h.sp p w d (by rw [e1, e3, List.append_assoc]) z
        omega
theorem TL.line {L m n L' n' : Nat} {a b : List Nat} (h : TL L m n a) (k : TL L' m n' b) : TL (L + 1 + L') m (n + 1 + n') (a ++ 10 :: b) := by
  refine ⟨fun c mc => ?_, ?_, ?_, fun p w s e z => ?_⟩
  · rcases List.mem_append.mp mc with mc | mc
    · exact h.ok c mc
    · rcases List.mem_cons.mp mc with rfl | mc
      · decide
      · exact k.ok c mc
  · have := h.len
    have := k.len
    rw [List.length_append, List.length_cons]
    omega
  · have := h.nl
    have := k.nl
    rw [List.count_append, List.count_cons_self]
    omega
  · have e' : a ++ (10 :: b) = p ++ (w ++ s) := by rw [e, List.append_assoc]
    rcases List.append_eq_append_iff.mp e' with ⟨c, e1, e2⟩ | ⟨c, e1, e2⟩
    · cases c with
      | nil =>
        cases w with
        | nil => exact Nat.zero_le _
        | cons x w =>
          have := (List.cons.inj (show 10 :: b = x :: (w ++ s) from e2)).1
          exact absurd (this ▸ List.mem_cons_self) z
      | cons x c =>
        obtain ⟨_, e3⟩ := List.cons.inj (show 10 :: b = x :: (c ++ (w ++ s)) from e2)
        exact k.sp c w s (by rw [e3, List.append_assoc]) z
    · rcases List.append_eq_append_iff.mp e2.symm with ⟨d, e3, e4⟩ | ⟨d, e3, e4⟩
      · cases d with
        | nil =>
          rw [List.append_nil] at e3
          exact h.sp p w [] (by rw [e1, e3, List.append_nil]) z
        | cons x d =>
          have := (List.cons.inj (show 10 :: b = x :: (d ++ s) from e4)).1
          exact absurd (by rw [e3, ← this]; exact List.mem_append_right _ List.mem_cons_self) z
      · exact h.sp p w d (by rw [e1, e3, List.append_assoc]) z
/-! ### a line, bent -/
/-- a line of at most so many signs and spaces -/
structure Ln (L m : Nat) (x : Str) : Prop where
  ok : PyData.strOk x = true
  len : x.length ≤ L
  nl : 10 ∉ x.cps.toList
  sp : x.cps.toList.count 32 ≤ m
/-- a word of at most so many signs -/
structure Wd (L : Nat) (x : Str) : Prop where
  ok : PyData.strOk x = true
  len : x.length ≤ L
  nl : 10 ∉ x.cps.toList
  sp : 32 ∉ x.cps.toList
theorem Wd.mono {L L' : Nat} {x : Str} (h : Wd L x) (k : L ≤ L') : Wd L' x := ⟨h.ok, Nat.le_trans h.len k, h.nl, h.sp⟩
theorem Wd.cat {L L' : Nat} {x y : Str} (h : Wd L x) (k : Wd L' y) : Wd (L + L') (x ++ y) := by
  refine ⟨ok_iff.mpr fun c m => ?_, ?_, fun m => ?_, fun m => ?_⟩
  · rw [Tt.cat_list] at m
    exact (List.mem_append.mp m).elim (ok_iff.mp h.ok c) (ok_iff.mp k.ok c)
  · rw [str_app_len]
    exact Nat.add_le_add h.len k.len
  · rw [Tt.cat_list] at m
    exact (List.mem_append.mp m).elim h.nl k.nl
  · rw [Tt.cat_list] at m
    exact (List.mem_append.mp m).elim h.sp k.sp
def tot (ws : List Str) : Nat := (ws.map fun w => w.length + 1).sum
theorem tot_app (a b : List Str) : tot (a ++ b) = tot a + tot b := by
  unfold tot
  rw [List.map_append, List.sum_append]
theorem tot_cut (ws : List Str) (k : Nat) : tot (ws.take k) + tot (ws.drop k) = tot ws := by
  rw [← tot_app, List.take_append_drop]
theorem tot_len (ws : List Str) : ws.length ≤ tot ws := by
  induction ws with
  | nil => exact Nat.zero_le _
  | cons w ws ih =>
    show ws.length + 1 ≤ w.length + 1 + tot ws
    omega
theorem tot_sum (ws : List Str) : (ws.map (·.length)).sum + ws.length = tot ws := by
  induction ws with
  | nil => rfl
  | cons w ws ih =>
    show w.length + (ws.map (·.length)).sum + (ws.length + 1) = w.length + 1 + tot ws
    omega
theorem tot_join (c : Nat) : ∀ {ws : List Str}, ws ≠ [] → (Str.join (Tt.sg c) ws).length + 1 = tot ws
  | [x], _ => rfl
  | x :: y :: r, _ => by
    have i := tot_join c (ws := y :: r) fun z => nomatch z
    rw [join_len2]
    show _ = x.length + 1 + tot (y :: r)
    omega
theorem cnt_join (c : Nat) : ∀ {ws : List Str}, (∀ w ∈ ws, c ∉ w.cps.toList) → (Str.join (Tt.sg c) ws).cps.toList.count c ≤ ws.length - 1
  | [], _ => by
    have e : (Str.join (Tt.sg c) []).cps.toList = [] := (by decide +kernel : Str.empty.cps.toList = [])
    rw [e]
    exact Nat.le_refl _
  | [x], h => Nat.le_of_eq (List.count_eq_zero.mpr (h x List.mem_cons_self))
  | x :: y :: r, h => by
    have i := cnt_join c (ws := y :: r) fun w m => h w (List.mem_cons_of_mem _ m)
    rw [Tt.join_two, List.count_append, List.count_cons_self, List.count_eq_zero.mpr (h x List.mem_cons_self)]
    show 0 + (_ + 1) ≤ r.length + 1
    have i : _ ≤ r.length := i
    omega
theorem cnt_words (c : Nat) : ∀ {ws : List Str}, ws ≠ [] → (∀ w ∈ ws, c ∉ w.cps.toList) → (Str.join (Tt.sg c) ws).cps.toList.count c + 1 = ws.length
  | [x], _, h => by
    rw [show (Str.join (Tt.sg c) [x]) = x from rfl, List.count_eq_zero.mpr (h x List.mem_cons_self)]
    rfl
  | x :: y :: r, _, h => by
    have i := cnt_words c (ws := y :: r) (fun z => nomatch z) fun w m => h w (List.mem_cons_of_mem _ m)
    rw [Tt.join_two, List.count_append, List.count_cons_self, List.count_eq_zero.mpr (h x List.mem_cons_self)]
    show 0 + (_ + 1) + 1 = (y :: r).length + 1
    omega
/-- words set side by side are a line -/
theorem words_line {ws : List Str} {K L m : Nat} (h : ∀ w ∈ ws, Wd K w) (t : tot ws ≤ L) (n : ws.length ≤ m + 1) : Ln L m (Str.join (Tt.sg 32) ws) := by
  refine ⟨ok_iff.mpr fun c mc => ?_, ?_, fun mc => ?_, ?_⟩
  · rcases join_from mc with rfl | ⟨w, mw, mc⟩
    · decide
    · exact ok_iff.mp (h w mw).ok c mc
  · cases ws with
    | nil => exact Nat.zero_le _
    | cons w r =>
      have := tot_join 32 (ws := w :: r) fun z => nomatch z
      omega
  · rcases join_from mc with e | ⟨w, mw, mc⟩
    · cases e
    · exact (h w mw).nl mc
  · have := cnt_join 32 (ws := ws) fun w m => (h w m).sp
    omega
theorem line_words {l : Str} {L m : Nat} (h : Ln L m l) : (∀ w ∈ Txt.split l " ", Wd l.length w) ∧ tot (Txt.split l " ") = l.length + 1 ∧ (Txt.split l " ").length ≤ m + 1 := by
  have fr := StrLaws.split_free l 32
  have ej : Str.join (Tt.sg 32) (Txt.split l (Tt.sg 32)) = l := StrLaws.join_split l (Tt.sg 32)
  have ne := Tt.split_some l 32
  refine ⟨fun w mw => ?_, ?_, ?_⟩
  · obtain ⟨a, b⟩ := words_ok (c := 32) h.ok w mw
    refine ⟨a, b, fun mc => h.nl ?_, fr w mw⟩
    have := join_mem (c := 32) mw mc
    rw [show Str.join (Tt.sg 32) (Txt.split l (Str.ofString " ")) = l from ej] at this
    exact this
  · have := tot_join 32 ne
    rw [ej] at this
    exact this.symm
  · have := cnt_words 32 ne fr
    rw [ej] at this
    have := h.sp
    show (Txt.split l (Tt.sg 32)).length ≤ m + 1
    omega
def odd0 : List Str := ["", "0", "-0", "00", "+1", "1", "15", "14", "-1", "ask", "job", "all", "a", "a+", "+", "zzzzzzzzz", "A"]
theorem odd_wd : ∀ x ∈ odd0, Wd 20 x := by
  have key : ∀ x ∈ odd0, PyData.strOk x = true ∧ x.length ≤ 20 ∧ 10 ∉ x.cps.toList ∧ 32 ∉ x.cps.toList := by decide +kernel
  exact fun x m => ⟨(key x m).1, (key x m).2.1, (key x m).2.2.1, (key x m).2.2.2⟩
theorem num_wd {k : Int} (h : k.natAbs < 10 ^ 13) : Wd 20 (numT k) := by
  have f := (numT_canon k).facts.1
  have l := (small_num h rfl).2
  refine ⟨ok_iff.mpr fun c m => ?_, l, fun m => ?_, fun m => ?_⟩
  · have := f c m; omega
  · have := f 10 m; omega
  · have := f 32 m; omega
theorem nine_wd {n : Int} (h : 2 ≤ n) (h2 : n ≤ 4400) : Wd 4400 (Txt.mul "9" n) := by
  have e := (Mu.nines h (by omega)).2
  refine ⟨ok_iff.mpr fun c m => ?_, ?_, fun m => ?_, fun m => ?_⟩
  · rw [e] at m
    rw [List.eq_of_mem_replicate m]
    decide
  · rw [Tt.len_list, e, List.length_replicate]
    omega
  · rw [e] at m
    exact absurd (List.eq_of_mem_replicate m) (by decide)
  · rw [e] at m
    exact absurd (List.eq_of_mem_replicate m) (by decide)
def odd1 (size : Int) (word : Str) : List Str := [numT ((10 : Int) ^ (12 : Int).toNat), numT ((10 : Int) ^ (12 : Int).toNat + 1), "1.0", "\t1", Txt.mul "9" size, word ++ ("+" : Str), ("0" : Str) ++ word]
def sp_bentl : Sp := fun vs H Q _ => ∃ (p c : Addr) (l : Str) (m : Nat), vs = [.ref p, .str l] ∧ Pen H p c ∧ Ln 400000 m l ∧ ∀ (y : Str) (H' : Hp), Stp p c H H' → Ln (2 * l.length + 5000) (m + 1) y → Q (.str y) H'
theorem ok_l_bent_line (T : Txt K mg af fd) : FnOk P w K mg base CX0 3 (af 56) (fd 56) ["pen", "line"] sp_bentl := by
  refine T.F_l_bent_line.ok sc_l_bent_line (fun vs H Q E h => ?_) (fun cdv A outer s H vs Q E hr h => ?_)
  · obtain ⟨p, c, l, m, rfl, _⟩ := h
    rfl
  · obtain ⟨p, c, l, m, rfl, hP, hL, q⟩ := h
    refine ⟨_, (pss_cons (ps_set (i := 2) sc_l_bent_line.nd rfl (by first | exact Or.inl rfl | exact Or.inr rfl) (pe_bm PySem.F.plainAttrs_str PySem.F.slot_str_split PySem.F.type_str_split mt_split (pv 1) (pa_cons pe_str pa_nil)))
        (pss_cons (ps_set (i := 3) sc_l_bent_line.nd rfl (by first | exact Or.inl rfl | exact Or.inr rfl) (pe_call (ok_l_take T) (hr.mono (by first | decide | omega)) (by rfl) T.g_l_take T.F_l_take.kp T.b_l_take .nil pass0 (pa_cons (pv 0) (pa_cons (pe_callB call_len_seq (by rfl) T.m_len (by decide +kernel) (pa_cons (pv 2) pa_nil)) pa_nil))))
        (pss_cons (ps_set (i := 4) sc_l_bent_line.nd rfl (by first | exact Or.inl rfl | exact Or.inr rfl) (pe_ix ix_list (pe_lst (pa_cons pe_int (pa_cons pe_int pa_nil))) (pe_call (ok_l_take T) (hr.mono (by first | decide | omega)) (by rfl) T.g_l_take T.F_l_take.kp T.b_l_take .nil pass0 (pa_cons (pv 0) (pa_cons pe_int pa_nil))) (fun _ _ => rfl)))
        (pss_cons (ps_set (i := 5) sc_l_bent_line.nd rfl (by first | exact Or.inl rfl | exact Or.inr rfl) (pe_lst (pa_cons pe_str (pa_cons pe_str (pa_cons pe_str (pa_cons pe_str (pa_cons pe_str (pa_cons pe_str (pa_cons pe_str (pa_cons pe_str (pa_cons pe_str (pa_cons pe_str (pa_cons pe_str (pa_cons pe_str (pa_cons pe_str (pa_cons pe_str (pa_cons pe_str (pa_cons pe_str (pa_cons pe_str pa_nil)))))))))))))))))))
        (pss_cons (ps_set (i := 5) sc_l_bent_line.nd rfl (by first | exact Or.inl rfl | exact Or.inr rfl) (pe_op op_cat (pv 5) (pe_lst (pa_cons (pe_callTy call_str_int (by rfl) T.m_str (by decide +kernel) (pa_cons (pe_op op_pow pe_int pe_int) pa_nil)) (pa_cons (pe_callTy call_str_int (by rfl) T.m_str (by decide +kernel) (pa_cons (pe_op op_add (pe_op op_pow pe_int pe_int) pe_int) pa_nil)) (pa_cons pe_str (pa_cons pe_str (pa_cons (pe_op Mu.op_mul_str pe_str (pv 4)) (pa_cons (pe_op op_add_str (pe_ix ix_list (pv 2) (pv 3) (fun _ _ => rfl)) pe_str) (pa_cons (pe_op op_add_str pe_str (pe_ix ix_list (pv 2) (pv 3) (fun _ _ => rfl))) pa_nil))))))))))
        (pss_cons (ps_set (i := 6) sc_l_bent_line.nd rfl (by first | exact Or.inl rfl | exact Or.inr rfl) (pe_ix ix_list (pv 5) (pe_call (ok_l_take T) (hr.mono (by first | decide | omega)) (by rfl) T.g_l_take T.F_l_take.kp T.b_l_take .nil pass0 (pa_cons (pv 0) (pa_cons pe_int pa_nil))) (fun _ _ => rfl)))
        (pss_cons (ps_set (i := 7) sc_l_bent_line.nd rfl (by first | exact Or.inl rfl | exact Or.inr rfl) (pe_call (ok_l_take T) (hr.mono (by first | decide | omega)) (by rfl) T.g_l_take T.F_l_take.kp T.b_l_take .nil pass0 (pa_cons (pv 0) (pa_cons pe_int pa_nil))))
        (pss_cons (ps_set (i := 8) sc_l_bent_line.nd rfl (by first | exact Or.inl rfl | exact Or.inr rfl) (pe_lst (pa_cons (pe_op op_cat (pe_slice sl_list (pv 2) po_none (po_some (pv 3))) (pe_slice sl_list (pv 2) (po_some (pe_op op_add (pv 3) pe_int)) po_none)) (pa_cons (pe_op op_cat (pe_op op_cat (pe_slice sl_list (pv 2) po_none (po_some (pv 3))) (pe_lst (pa_cons (pv 6) pa_nil))) (pe_slice sl_list (pv 2) (po_some (pv 3)) po_none)) pa_nil))))
        (pss_cons (ps_if (pt_cmpR op_lt (pv 7) pe_int (nomark _)) (pss_one (ps_ret (pe_join pe_str (pe_ix ix_list (pv 8) (pv 7) (fun _ _ => rfl))))) pss_nil)
        (pss_cons (ps_if (pt_cmpR op_eq (pv 7) pe_int (nomark _)) (pss_one (ps_ret (pe_ix ix_list (pe_lst (pa_cons (pe_op op_add_str (pv 1) pe_str) (pa_cons (pe_op op_add_str pe_str (pv 1)) (pa_cons (pe_op op_add_str pe_str (pv 1)) (pa_cons (pe_op op_add_str (pv 1) pe_str) (pa_cons pe_str pa_nil)))))) (pe_call (ok_l_take T) (hr.mono (by first | decide | omega)) (by rfl) T.g_l_take T.F_l_take.kp T.b_l_take .nil pass0 (pa_cons (pv 0) (pa_cons pe_int pa_nil))) (fun _ _ => rfl)))) pss_nil)
        (pss_one (ps_ret (pe_join pe_str (pe_op op_cat (pe_op op_cat (pe_slice sl_list (pv 2) po_none (po_some (pv 3))) (pe_lst (pa_cons (pv 6) pa_nil))) (pe_slice sl_list (pv 2) (po_some (pe_op op_add (pv 3) pe_int)) po_none))))))))))))))), ?_⟩
    have ll := hL.len
    obtain ⟨wd, wt, wn⟩ := line_words hL
    have wfew : (Txt.split l " ").length ≤ l.length + 1 := words_few l 32
    have wne : Txt.split l " " ≠ [] := Tt.split_some l 32
    have big : l.length + 2 ≤ sizeLine := Nat.le_trans (show _ ≤ 1000000 by omega) (by decide)
    refine ⟨_, rfl, rfl, l, _, rfl, rfl, rfl, big, fun wa nwa => ?_⟩
    rw [show Txt.split l (Str.ofString " ") = Txt.split l " " from rfl]
    generalize Txt.split l " " = ws at wd wt wn wfew wne nwa ⊢
    have wpos : 0 < ws.length := List.length_pos_iff.mpr wne
    have s1 : Stp p c H (upd H wa (.lst (ws.map V.str))) := (Stp.refl hP).new hP nwa
    have nwp : wa ≠ p := fun e => hP.neP nwa e.symm
    have hw1 : (upd H wa (.lst (ws.map V.str))) wa = some (.lst (ws.map V.str)) := upd_same
    generalize upd H wa (.lst (ws.map V.str)) = H1 at s1 hw1 ⊢
    refine ⟨_, rfl, _, rfl, wa, _, rfl, .inl (SqL.of hw1), p, c, _, rfl, s1.1, by rw [List.length_map]; omega, Nat.lt_of_le_of_lt (show _ ≤ 1000000 by rw [List.length_map]; omega) (by decide), fun at_ H2 a0 a1 s2 => ?_⟩
    rw [List.length_map] at a1
    have s12 := s1.trans s2
    have hw2 := s2.2 wa _ nwp hw1
    obtain ⟨word, hword⟩ : ∃ w, ws[at_.toNat]? = some w := ⟨_, List.getElem?_eq_getElem (show at_.toNat < ws.length by omega)⟩
    have wdw := wd word (List.mem_of_getElem? hword)
    have eat : atI (ws.map V.str) at_ = some (.str word) := at_any (j := at_.toNat) (by omega) (by rw [List.getElem?_map, hword]; rfl)
    refine ⟨(by show 2 ≤ sizeLine; decide), fun la nla => ?_⟩
    have nlp : la ≠ p := fun e => s2.1.neP nla e.symm
    have s3 := (Stp.refl s2.1).new (o := .lst [.int 30, .int 4400]) s2.1 nla
    have hl3 : (upd H2 la (.lst [.int 30, .int 4400])) la = some (.lst [.int 30, .int 4400]) := upd_same
    generalize upd H2 la (.lst [.int 30, .int 4400]) = H3 at s3 hl3 ⊢
    refine ⟨_, rfl, p, c, 2, rfl, s3.1, by decide, by decide, fun z H4 z0 z1 s4 => ?_⟩
    obtain ⟨size, hsize, sz0, sz1⟩ : ∃ n : Int, atI [V.int 30, .int 4400] z = some (.int n) ∧ 2 ≤ n ∧ n ≤ 4400 := by
      have hz : z = 0 ∨ z = 1 := by omega
      rcases hz with rfl | rfl
      · exact ⟨30, rfl, by decide, by decide⟩
      · exact ⟨4400, rfl, by decide, by decide⟩
    refine ⟨la, _, z, _, rfl, rfl, SqL.of (s4.2 la _ nlp hl3), hsize, ?_⟩
    have s34 := s3.trans s4
    have s14 := s12.trans s34
    have hw4 := s34.2 wa _ nwp hw2
    refine ⟨(by show 17 ≤ sizeLine; decide), fun oa noa => ?_⟩
    have nop : oa ≠ p := fun e => s4.1.neP noa e.symm
    have s5 := (Stp.refl s4.1).new (o := .lst [.str "", .str "0", .str "-0", .str "00", .str "+1", .str "1", .str "15", .str "14", .str "-1", .str "ask", .str "job", .str "all", .str "a", .str "a+", .str "+", .str "zzzzzzzzz", .str "A"]) s4.1 noa
    have ho5 : (upd H4 oa (.lst [.str "", .str "0", .str "-0", .str "00", .str "+1", .str "1", .str "15", .str "14", .str "-1", .str "ask", .str "job", .str "all", .str "a", .str "a+", .str "+", .str "zzzzzzzzz", .str "A"])) oa = some (.lst (odd0.map V.str)) := upd_same
    have hw5 := s5.2 wa _ nwp hw4
    generalize upd H4 oa (.lst [.str "", .str "0", .str "-0", .str "00", .str "+1", .str "1", .str "15", .str "14", .str "-1", .str "ask", .str "job", .str "all", .str "a", .str "a+", .str "+", .str "zzzzzzzzz", .str "A"]) = H5 at s5 ho5 hw5 ⊢
    have e12 : (10 : Int) ^ (12 : Int).toNat = 1000000000000 := by decide
    have plus : Wd 1 ("+" : Str) := ⟨by decide +kernel, by decide +kernel, by decide +kernel, by decide +kernel⟩
    have zero : Wd 1 ("0" : Str) := ⟨by decide +kernel, by decide +kernel, by decide +kernel, by decide +kernel⟩
    refine ⟨_, rfl, _, _, rfl, rfl, ⟨by decide, by decide, by decide⟩, _, rfl, ?_, _, _, rfl, rfl, ⟨by decide, by decide, by decide⟩, _, _, rfl, rfl, _, rfl, ?_, _, rfl, "9", size, rfl, rfl, (Mu.nines sz0 (by omega)).1,
      _, rfl, _, rfl, wa, _, at_, _, rfl, rfl, SqL.of hw5, eat, word, "+", rfl, rfl, ?_, _, rfl, _, rfl, wa, _, at_, _, rfl, rfl, SqL.of hw5, eat, "0", word, rfl, rfl, ?_, (by show 7 ≤ sizeLine; decide), fun ob nob => ?_⟩
    · rw [e12]
      exact (int_text (by decide)).1
    · rw [e12]
      exact (int_text (by decide)).1
    · exact Nat.le_trans (show _ ≤ 1000000 by have := wdw.len; have : (Str.ofString "+").length = 1 := rfl; omega) (by decide)
    · exact Nat.le_trans (show _ ≤ 1000000 by have := wdw.len; have : (Str.ofString "0").length = 1 := rfl; omega) (by decide)
    have nbp : ob ≠ p := fun e => s5.1.neP nob e.symm
    have wd1 : ∀ x ∈ odd1 size word, Wd (l.length + 4401) x := by
      have k1 : Wd 20 ("1.0" : Str) := ⟨by decide +kernel, by decide +kernel, by decide +kernel, by decide +kernel⟩
      have k2 : Wd 20 ("\t1" : Str) := ⟨by decide +kernel, by decide +kernel, by decide +kernel, by decide +kernel⟩
      unfold odd1
      rw [e12]
      intro x mx
      simp only [List.mem_cons, List.not_mem_nil, or_false] at mx
      rcases mx with rfl | rfl | rfl | rfl | rfl | rfl | rfl
      · exact (num_wd (by decide)).mono (by omega)
      · exact (num_wd (by decide)).mono (by omega)
      · exact k1.mono (by omega)
      · exact k2.mono (by omega)
      · exact (nine_wd sz0 sz1).mono (by omega)
      · exact (wdw.cat plus).mono (by omega)
      · exact (zero.cat wdw).mono (by omega)
    have wodd : ∀ x ∈ odd0 ++ odd1 size word, Wd (l.length + 4401) x := fun x mx => (List.mem_append.mp mx).elim (fun m => (odd_wd x m).mono (by omega)) (wd1 x)
    have l24 : (odd0 ++ odd1 size word).length = 24 := rfl
    have s6 := (Stp.refl s5.1).new (o := .lst ((odd1 size word).map V.str)) s5.1 nob
    refine ⟨oa, ob, odd0.map V.str, (odd1 size word).map V.str, rfl, rfl, ?_, ?_, (by show 24 ≤ sizeLine; decide), fun oc noc => ?_⟩
    · rw [upd_ne (fun e => by rw [← e, ho5] at nob; cases nob)]
      exact ho5
    · exact upd_same
    have ncp0 : ∀ {G : Hp}, Stp p c H5 G → G oc = none → oc ≠ p := fun g n e => g.1.neP n e.symm
    have ncp : oc ≠ p := ncp0 s6 noc
    have s7 := s6.new (o := .lst ((odd0 ++ odd1 size word).map V.str)) s5.1 noc
    have hc7 : (upd (upd H5 ob (.lst ((odd1 size word).map V.str))) oc (.lst ((odd0 ++ odd1 size word).map V.str))) oc = some (.lst ((odd0 ++ odd1 size word).map V.str)) := upd_same
    refine ⟨_, rfl, _, rfl, p, c, 24, rfl, s7.1, by decide, by decide, fun z2 H8 y0 y1 s8 => ?_⟩
    have s58 := s7.trans s8
    have hc8 := s8.2 oc _ ncp hc7
    have hw8 := s58.2 wa _ nwp hw5
    obtain ⟨w2, hw2⟩ : ∃ w, (odd0 ++ odd1 size word)[z2.toNat]? = some w := ⟨_, List.getElem?_eq_getElem (show z2.toNat < _ by rw [l24]; omega)⟩
    have wd2 := wodd w2 (List.mem_of_getElem? hw2)
    refine ⟨oc, _, z2, _, rfl, rfl, SqL.of hc8, at_any (j := z2.toNat) (by omega) (by rw [List.getElem?_map, hw2]; rfl), ?_⟩
    refine ⟨_, rfl, p, c, 6, rfl, s58.1, by decide, by decide, fun way H9 x0 x1 s9 => ?_⟩
    have s19 := (s14.trans s5).trans (s58.trans s9)
    have hw9 := s9.2 wa _ nwp hw8
    clear hc8 hc7 s7 s8 s58 s6
    have cT : cutV (ws.map V.str) none (some at_) = (ws.take at_.toNat).map V.str := by
      rw [show at_ = ((at_.toNat : Nat) : Int) by omega, cut_to, List.map_take]
      rfl
    have cD : cutV (ws.map V.str) (some at_) none = (ws.drop at_.toNat).map V.str := by
      rw [show at_ = ((at_.toNat : Nat) : Int) by omega, cut_from, List.map_drop]
      rfl
    have cD1 : cutV (ws.map V.str) (some (at_ + 1)) none = (ws.drop (at_.toNat + 1)).map V.str := by
      rw [show at_ + 1 = ((at_.toNat + 1 : Nat) : Int) by omega, cut_from, List.map_drop]
    have lT : ((ws.take at_.toNat).map V.str).length ≤ ws.length := by rw [List.length_map, List.length_take]; omega
    have lD : ((ws.drop at_.toNat).map V.str).length ≤ ws.length := by rw [List.length_map, List.length_drop]; omega
    have lD1 : ((ws.drop (at_.toNat + 1)).map V.str).length ≤ ws.length := by rw [List.length_map, List.length_drop]; omega
    have big2 : ∀ n : Nat, n ≤ 1000000 → n ≤ sizeLine := fun n h => Nat.le_trans h (by decide)
    refine ⟨_, rfl, _, rfl, at_, rfl, wa, _, rfl, SqL.of hw9, fun b1 m1 => ?_⟩
    rw [cT]
    have g1 : Same H9 (upd H9 b1 (.lst ((ws.take at_.toNat).map V.str))) := same_upd m1
    have h1 : (upd H9 b1 (.lst ((ws.take at_.toNat).map V.str))) b1 = some (.lst ((ws.take at_.toNat).map V.str)) := upd_same
    generalize upd H9 b1 (.lst ((ws.take at_.toNat).map V.str)) = G1 at g1 h1 ⊢
    refine ⟨_, rfl, _, rfl, _, _, rfl, rfl, _, rfl, ?_⟩
    dsimp only [tNoPart]
    refine ⟨wa, _, rfl, SqL.of (g1 _ _ hw9), fun b2 m2 => ?_⟩
    rw [cD1]
    have g2 : Same G1 (upd G1 b2 (.lst ((ws.drop (at_.toNat + 1)).map V.str))) := same_upd m2
    have h2 : (upd G1 b2 (.lst ((ws.drop (at_.toNat + 1)).map V.str))) b2 = some (.lst ((ws.drop (at_.toNat + 1)).map V.str)) := upd_same
    generalize upd G1 b2 (.lst ((ws.drop (at_.toNat + 1)).map V.str)) = G2 at g2 h2 ⊢
    refine ⟨b1, b2, _, _, rfl, rfl, g2 _ _ h1, h2, big2 _ (by omega), fun b3 m3 => ?_⟩
    have g3 : Same G2 (upd G2 b3 (.lst ((ws.take at_.toNat).map V.str ++ (ws.drop (at_.toNat + 1)).map V.str))) := same_upd m3
    have h3 : (upd G2 b3 (.lst ((ws.take at_.toNat).map V.str ++ (ws.drop (at_.toNat + 1)).map V.str))) b3 = some (.lst ((ws.take at_.toNat).map V.str ++ (ws.drop (at_.toNat + 1)).map V.str)) := upd_same
    generalize upd G2 b3 (.lst ((ws.take at_.toNat).map V.str ++ (ws.drop (at_.toNat + 1)).map V.str)) = G3 at g3 h3 ⊢
    have g13 := (g1.trans g2).trans g3
    refine ⟨_, rfl, _, rfl, at_, rfl, wa, _, rfl, SqL.of (g13 _ _ hw9), fun b4 m4 => ?_⟩
    rw [cT]
    have g4 : Same G3 (upd G3 b4 (.lst ((ws.take at_.toNat).map V.str))) := same_upd m4
    have h4 : (upd G3 b4 (.lst ((ws.take at_.toNat).map V.str))) b4 = some (.lst ((ws.take at_.toNat).map V.str)) := upd_same
    generalize upd G3 b4 (.lst ((ws.take at_.toNat).map V.str)) = G4 at g4 h4 ⊢
    refine ⟨_, rfl, (by show 1 ≤ sizeLine; decide), fun b5 m5 => ?_⟩
    have g5 : Same G4 (upd G4 b5 (.lst ([.str w2]))) := same_upd m5
    have h5 : (upd G4 b5 (.lst ([.str w2]))) b5 = some (.lst ([.str w2])) := upd_same
    generalize upd G4 b5 (.lst ([.str w2])) = G5 at g5 h5 ⊢
    refine ⟨b4, b5, _, _, rfl, rfl, g5 _ _ h4, h5, big2 _ (by show _ + 1 ≤ _; omega), fun b6 m6 => ?_⟩
    have g6 : Same G5 (upd G5 b6 (.lst ((ws.take at_.toNat).map V.str ++ [.str w2]))) := same_upd m6
    have h6 : (upd G5 b6 (.lst ((ws.take at_.toNat).map V.str ++ [.str w2]))) b6 = some (.lst ((ws.take at_.toNat).map V.str ++ [.str w2])) := upd_same
    generalize upd G5 b6 (.lst ((ws.take at_.toNat).map V.str ++ [.str w2])) = G6 at g6 h6 ⊢
    have g16 := ((g13.trans g4).trans g5).trans g6
    refine ⟨_, rfl, _, rfl, at_, rfl, ?_⟩
    dsimp only [tNoPart]
    refine ⟨wa, _, rfl, SqL.of (g16 _ _ hw9), fun b7 m7 => ?_⟩
    rw [cD]
    have g7 : Same G6 (upd G6 b7 (.lst ((ws.drop at_.toNat).map V.str))) := same_upd m7
    have h7 : (upd G6 b7 (.lst ((ws.drop at_.toNat).map V.str))) b7 = some (.lst ((ws.drop at_.toNat).map V.str)) := upd_same
    generalize upd G6 b7 (.lst ((ws.drop at_.toNat).map V.str)) = G7 at g7 h7 ⊢
    refine ⟨b6, b7, _, _, rfl, rfl, g7 _ _ h6, h7, big2 _ (by rw [List.length_append]; show _ + 1 + _ ≤ _; omega), fun b8 m8 => ?_⟩
    have g8 : Same G7 (upd G7 b8 (.lst ((ws.take at_.toNat).map V.str ++ [.str w2] ++ (ws.drop at_.toNat).map V.str))) := same_upd m8
    have h8 : (upd G7 b8 (.lst ((ws.take at_.toNat).map V.str ++ [.str w2] ++ (ws.drop at_.toNat).map V.str))) b8 = some (.lst ((ws.take at_.toNat).map V.str ++ [.str w2] ++ (ws.drop at_.toNat).map V.str)) := upd_same
    generalize upd G7 b8 (.lst ((ws.take at_.toNat).map V.str ++ [.str w2] ++ (ws.drop at_.toNat).map V.str)) = G8 at g8 h8 ⊢
    refine ⟨(by show 2 ≤ sizeLine; decide), fun b9 m9 => ?_⟩
    have g9 : Same G8 (upd G8 b9 (.lst ([.ref b3, .ref b8]))) := same_upd m9
    have h9 : (upd G8 b9 (.lst ([.ref b3, .ref b8]))) b9 = some (.lst ([.ref b3, .ref b8])) := upd_same
    generalize upd G8 b9 (.lst ([.ref b3, .ref b8])) = G9 at g9 h9 ⊢
    have g39 := (((((g4.trans g5).trans g6).trans g7).trans g8).trans g9)
    have g19 := g13.trans g39
    have s29 : Stp p c H9 G9 := ⟨s9.1.sm g19, fun b o _ e => g19 b o e⟩
    have k3 := g39 _ _ h3
    have k8 := g9 _ _ h8
    have hw10 := g19 _ _ hw9
    have s20 := s19.trans s29
    have tcut := tot_cut ws at_.toNat
    have tone : tot [w2] = w2.length + 1 := rfl
    have tdrop : tot (ws.drop (at_.toNat + 1)) ≤ tot (ws.drop at_.toNat) := by
      have := tot_cut (ws.drop at_.toNat) 1
      rw [List.drop_drop] at this
      omega
    have lcut : (ws.take at_.toNat).length + (ws.drop at_.toNat).length = ws.length := by rw [← List.length_append, List.take_append_drop]
    have ldrop : (ws.drop (at_.toNat + 1)).length ≤ (ws.drop at_.toNat).length := by rw [List.length_drop, List.length_drop]; omega
    have lw2 := wd2.len
    have wT : ∀ w ∈ ws.take at_.toNat, Wd (l.length + 4401) w := fun w mw => (wd w (List.mem_of_mem_take mw)).mono (by omega)
    have wD : ∀ w ∈ ws.drop at_.toNat, Wd (l.length + 4401) w := fun w mw => (wd w (List.mem_of_mem_drop mw)).mono (by omega)
    have wD1 : ∀ w ∈ ws.drop (at_.toNat + 1), Wd (l.length + 4401) w := fun w mw => (wd w (List.mem_of_mem_drop mw)).mono (by omega)
    have fin : ∀ (ys : List Str) (G : Hp), Stp p c H G → (∀ y ∈ ys, Wd (l.length + 4401) y) → tot ys ≤ 2 * l.length + 5000 → ys.length ≤ m + 2 → (ys.map (·.length)).sum + ys.length * (Str.ofString " ").length ≤ 16777216 ∧ Q (.str (Txt.join " " ys)) G := fun ys G st a b d => by
      refine ⟨?_, q _ G st (by rw [joinE]; exact words_line a b (by omega))⟩
      have := tot_sum ys
      rw [show (Str.ofString " ").length = 1 from rfl]
      omega
    have A0 : (∀ y ∈ ws.take at_.toNat ++ ws.drop (at_.toNat + 1), Wd (l.length + 4401) y) ∧ tot (ws.take at_.toNat ++ ws.drop (at_.toNat + 1)) ≤ 2 * l.length + 5000 ∧ (ws.take at_.toNat ++ ws.drop (at_.toNat + 1)).length ≤ m + 2 := by
      refine ⟨fun y my => (List.mem_append.mp my).elim (wT y) (wD1 y), ?_, ?_⟩
      · rw [tot_app]; omega
      · rw [List.length_append]; omega
    have A1 : (∀ y ∈ ws.take at_.toNat ++ [w2] ++ ws.drop at_.toNat, Wd (l.length + 4401) y) ∧ tot (ws.take at_.toNat ++ [w2] ++ ws.drop at_.toNat) ≤ 2 * l.length + 5000 ∧ (ws.take at_.toNat ++ [w2] ++ ws.drop at_.toNat).length ≤ m + 2 := by
      refine ⟨fun y my => (List.mem_append.mp my).elim (fun my => (List.mem_append.mp my).elim (wT y) (fun e => by rw [List.mem_singleton.mp e]; exact wd2)) (wD y), ?_, ?_⟩
      · rw [tot_app, tot_app]; omega
      · rw [List.length_append, List.length_append]
        show _ + 1 + _ ≤ _
        omega
    have A2 : (∀ y ∈ ws.take at_.toNat ++ [w2] ++ ws.drop (at_.toNat + 1), Wd (l.length + 4401) y) ∧ tot (ws.take at_.toNat ++ [w2] ++ ws.drop (at_.toNat + 1)) ≤ 2 * l.length + 5000 ∧ (ws.take at_.toNat ++ [w2] ++ ws.drop (at_.toNat + 1)).length ≤ m + 2 := by
      refine ⟨fun y my => (List.mem_append.mp my).elim (fun my => (List.mem_append.mp my).elim (wT y) (fun e => by rw [List.mem_singleton.mp e]; exact wd2)) (wD1 y), ?_, ?_⟩
      · rw [tot_app, tot_app]; omega
      · rw [List.length_append, List.length_append]
        show _ + 1 + _ ≤ _
        omega
    refine ⟨_, rfl, _, _, rfl, rfl, _, rfl, ite2 (fun z3 => ?_) (fun z3 => ?_)⟩
    · have z3 := of_decide_eq_true z3
      have hz : way = 0 ∨ way = 1 := by omega
      rcases hz with rfl | rfl
      · obtain ⟨f1, f2⟩ := fin _ G9 s20 A0.1 A0.2.1 A0.2.2
        refine ⟨⟨_, rfl⟩, _, rfl, _, rfl, b9, _, 0, .ref b3, rfl, rfl, SqL.of h9, rfl, " ", b3, _, rfl, rfl, .inl (SqL.of ?_), f1, f2⟩
        rw [List.map_append]
        exact k3
      · obtain ⟨f1, f2⟩ := fin _ G9 s20 A1.1 A1.2.1 A1.2.2
        refine ⟨⟨_, rfl⟩, _, rfl, _, rfl, b9, _, 1, .ref b8, rfl, rfl, SqL.of h9, rfl, " ", b8, _, rfl, rfl, .inl (SqL.of ?_), f1, f2⟩
        rw [List.map_append, List.map_append]
        exact k8
    refine ⟨_, rfl, rfl, _, rfl, ite2 (fun z4 => ?_) (fun z4 => ?_)⟩
    · have lens : ∀ x : Str, x.length = 1 → l.length + x.length ≤ sizeLine ∧ x.length + l.length ≤ sizeLine := fun x e => ⟨Nat.le_trans (show _ ≤ 1000000 by omega) (by decide), Nat.le_trans (show _ ≤ 1000000 by omega) (by decide)⟩
      have sp1 : Ln 1 1 (" " : Str) := ⟨by decide +kernel, by decide +kernel, by decide +kernel, by decide +kernel⟩
      have tb1 : Ln 1 0 ("\t" : Str) := ⟨by decide +kernel, by decide +kernel, by decide +kernel, by decide +kernel⟩
      refine ⟨_, rfl, l, " ", rfl, rfl, (lens _ rfl).1, _, rfl, " ", l, rfl, rfl, (lens _ rfl).2, _, rfl, "\t", l, rfl, rfl, (lens _ rfl).2, _, rfl, l, "\t", rfl, rfl, (lens _ rfl).1, (by show 5 ≤ sizeLine; decide), fun c1 m10 => ?_⟩
      have c1p : c1 ≠ p := fun e => s20.1.neP m10 e.symm
      have s21 := s20.new (o := .lst ([l ++ (" " : Str), (" " : Str) ++ l, ("\t" : Str) ++ l, l ++ ("\t" : Str), ""].map V.str)) hP m10
      refine ⟨_, rfl, p, c, 5, rfl, s21.1, by decide, by decide, fun z5 G10 y5 y6 s22 => ?_⟩
      have hc1 := s22.2 c1 _ c1p upd_same
      have five : ∀ x ∈ [l ++ (" " : Str), (" " : Str) ++ l, ("\t" : Str) ++ l, l ++ ("\t" : Str), ""], Ln (2 * l.length + 5000) (m + 1) x := by
        have hl : Ln l.length m l := ⟨hL.ok, Nat.le_refl _, hL.nl, hL.sp⟩
        have cat : ∀ {A B a b : Nat} {x y : Str}, Ln A a x → Ln B b y → A + B ≤ 2 * l.length + 5000 → a + b ≤ m + 1 → Ln (2 * l.length + 5000) (m + 1) (x ++ y) := fun {A B a b x y} h k u v => by
          refine ⟨ok_iff.mpr fun c mc => ?_, ?_, fun mc => ?_, ?_⟩
          · rw [Tt.cat_list] at mc
            exact (List.mem_append.mp mc).elim (ok_iff.mp h.ok c) (ok_iff.mp k.ok c)
          · rw [str_app_len]
            have := h.len
            have := k.len
            omega
          · rw [Tt.cat_list] at mc
            exact (List.mem_append.mp mc).elim h.nl k.nl
          · rw [Tt.cat_list, List.count_append]
            have := h.sp
            have := k.sp
            omega
        intro x mx
        simp only [List.mem_cons, List.not_mem_nil, or_false] at mx
        rcases mx with rfl | rfl | rfl | rfl | rfl
        · exact cat hl sp1 (by omega) (by omega)
        · exact cat sp1 hl (by omega) (by omega)
        · exact cat tb1 hl (by omega) (by omega)
        · exact cat hl tb1 (by omega) (by omega)
        · exact ⟨by decide +kernel, Nat.zero_le _, fun m => (nomatch m), Nat.zero_le _⟩
      obtain ⟨w5, hw5'⟩ : ∃ w, [l ++ (" " : Str), (" " : Str) ++ l, ("\t" : Str) ++ l, l ++ ("\t" : Str), ""][z5.toNat]? = some w := ⟨_, List.getElem?_eq_getElem (show z5.toNat < 5 by omega)⟩
      exact ⟨c1, _, z5, _, rfl, rfl, SqL.of hc1, at_any (j := z5.toNat) (by omega) (by have k := congrArg (Option.map V.str) hw5'; rw [← List.getElem?_map] at k; exact k), q w5 G10 (s21.trans s22) (five w5 (List.mem_of_getElem? hw5'))⟩
    · refine ⟨⟨_, rfl⟩, _, rfl, _, rfl, at_, rfl, wa, _, rfl, SqL.of hw10, fun d1 n1 => ?_⟩
      rw [cT]
      have f1 : Same G9 (upd G9 d1 (.lst ((ws.take at_.toNat).map V.str))) := same_upd n1
      have j1 : (upd G9 d1 (.lst ((ws.take at_.toNat).map V.str))) d1 = some (.lst ((ws.take at_.toNat).map V.str)) := upd_same
      generalize upd G9 d1 (.lst ((ws.take at_.toNat).map V.str)) = F1 at f1 j1 ⊢
      refine ⟨_, rfl, (by show 1 ≤ sizeLine; decide), fun d2 n2 => ?_⟩
      have f2 : Same F1 (upd F1 d2 (.lst ([.str w2]))) := same_upd n2
      have j2 : (upd F1 d2 (.lst ([.str w2]))) d2 = some (.lst ([.str w2])) := upd_same
      generalize upd F1 d2 (.lst ([.str w2])) = F2 at f2 j2 ⊢
      refine ⟨d1, d2, _, _, rfl, rfl, f2 _ _ j1, j2, big2 _ (by show _ + 1 ≤ _; omega), fun d3 n3 => ?_⟩
      have f3 : Same F2 (upd F2 d3 (.lst ((ws.take at_.toNat).map V.str ++ [.str w2]))) := same_upd n3
      have j3 : (upd F2 d3 (.lst ((ws.take at_.toNat).map V.str ++ [.str w2]))) d3 = some (.lst ((ws.take at_.toNat).map V.str ++ [.str w2])) := upd_same
      generalize upd F2 d3 (.lst ((ws.take at_.toNat).map V.str ++ [.str w2])) = F3 at f3 j3 ⊢
      have f13 := (f1.trans f2).trans f3
      refine ⟨_, rfl, _, rfl, _, _, rfl, rfl, _, rfl, ?_⟩
      dsimp only [tNoPart]
      refine ⟨wa, _, rfl, SqL.of (f13 _ _ hw10), fun d4 n4 => ?_⟩
      rw [cD1]
      have f4 : Same F3 (upd F3 d4 (.lst ((ws.drop (at_.toNat + 1)).map V.str))) := same_upd n4
      have j4 : (upd F3 d4 (.lst ((ws.drop (at_.toNat + 1)).map V.str))) d4 = some (.lst ((ws.drop (at_.toNat + 1)).map V.str)) := upd_same
      generalize upd F3 d4 (.lst ((ws.drop (at_.toNat + 1)).map V.str)) = F4 at f4 j4 ⊢
      refine ⟨d3, d4, _, _, rfl, rfl, f4 _ _ j3, j4, big2 _ (by rw [List.length_append]; show _ + 1 + _ ≤ _; omega), fun d5 n5 => ?_⟩
      have f5 : Same F4 (upd F4 d5 (.lst ((ws.take at_.toNat).map V.str ++ [.str w2] ++ (ws.drop (at_.toNat + 1)).map V.str))) := same_upd n5
      have j5 : (upd F4 d5 (.lst ((ws.take at_.toNat).map V.str ++ [.str w2] ++ (ws.drop (at_.toNat + 1)).map V.str))) d5 = some (.lst ((ws.take at_.toNat).map V.str ++ [.str w2] ++ (ws.drop (at_.toNat + 1)).map V.str)) := upd_same
      generalize upd F4 d5 (.lst ((ws.take at_.toNat).map V.str ++ [.str w2] ++ (ws.drop (at_.toNat + 1)).map V.str)) = F5 at f5 j5 ⊢
      have f15 := (f13.trans f4).trans f5
      have s21 : Stp p c G9 F5 := ⟨s29.1.sm f15, fun b o _ e => f15 b o e⟩
      obtain ⟨e1, e2⟩ := fin _ F5 (s20.trans s21) A2.1 A2.2.1 A2.2.2
      refine ⟨" ", d5, _, rfl, rfl, .inl (SqL.of ?_), e1, e2⟩
      rw [List.map_append, List.map_append]
      exact j5
/-! ### a text, bent -/
theorem join_infix {c : Nat} : ∀ {ps : List Str} {p : Str}, p ∈ ps → ∃ a b, (Str.join (Tt.sg c) ps).cps.toList = a ++ p.cps.toList ++ b
  | [x], p, m => by
    rw [List.mem_singleton.mp m]
    exact ⟨[], [], (List.append_nil _).symm⟩
  | x :: y :: r, p, m => by
    rcases List.mem_cons.mp m with rfl | m
    · exact ⟨[], c :: (Str.join (Tt.sg c) (y :: r)).cps.toList, by rw [Tt.join_two]; rfl⟩
    · obtain ⟨a, b, e⟩ := join_infix (c := c) m
      exact ⟨x.cps.toList ++ c :: a, b, by rw [Tt.join_two, e]; simp only [List.append_assoc, List.cons_append]⟩
theorem text_lines {x : Str} {L m n : Nat} (h : TL L m n x.cps.toList) : (∀ l ∈ Txt.split x "\n", Ln L m l) ∧ tot (Txt.split x "\n") = x.length + 1 ∧ (Txt.split x "\n").length ≤ n + 1 := by
  have fr := StrLaws.split_free x 10
  have ej : Str.join (Tt.sg 10) (Txt.split x (Tt.sg 10)) = x := StrLaws.join_split x (Tt.sg 10)
  have ne := Tt.split_some x 10
  refine ⟨fun l ml => ?_, ?_, ?_⟩
  · obtain ⟨a, b, e⟩ := join_infix (c := 10) ml
    rw [show Str.join (Tt.sg 10) (Txt.split x (Str.ofString "\n")) = x from ej] at e
    have i := h.infix e
    exact ⟨ok_iff.mpr i.ok, by rw [Tt.len_list]; exact i.len, fr l ml, i.sp [] _ [] (by rw [List.append_nil]; rfl) (fr l ml)⟩
  · have := tot_join 10 ne
    rw [ej] at this
    exact this.symm
  · have := cnt_words 10 ne fr
    rw [ej] at this
    have := h.nl
    show (Txt.split x (Tt.sg 10)).length ≤ n + 1
    omega
theorem Ln.tl {K m : Nat} {x : Str} (h : Ln K m x) : TL x.length m 0 x.cps.toList := by
  refine ⟨ok_iff.mp h.ok, by rw [Tt.len_list]; exact Nat.le_refl _, Nat.le_of_eq (List.count_eq_zero.mpr h.nl), fun p w s e _ => ?_⟩
  have := h.sp
  rw [e, List.count_append, List.count_append] at this
  omega
theorem lines_tl {K m : Nat} : ∀ {ls : List Str}, (∀ l ∈ ls, Ln K m l) → TL (tot ls) m ls.length (Str.join (Tt.sg 10) ls).cps.toList
  | [], _ => by
    have e : (Str.join (Tt.sg 10) []).cps.toList = [] := (by decide +kernel : Str.empty.cps.toList = [])
    rw [e]
    refine ⟨fun c mc => (nomatch mc), Nat.le_refl _, Nat.le_refl _, fun p w s e _ => ?_⟩
    have : w = [] := by
      have := congrArg List.length e
      rw [List.length_append, List.length_append] at this
      exact List.length_eq_zero_iff.mp (by show w.length = 0; simp only [List.length_nil] at this; omega)
    rw [this]
    exact Nat.zero_le _
  | [x], h => (h x List.mem_cons_self).tl.mono (Nat.le_succ _) (Nat.le_refl _) (Nat.zero_le _)
  | x :: y :: r, h => by
    have i := lines_tl (ls := y :: r) fun l ml => h l (List.mem_cons_of_mem _ ml)
    rw [Tt.join_two]
    refine ((h x List.mem_cons_self).tl.line i).mono (Nat.le_refl _) (Nat.le_refl _) ?_
    show 0 + 1 + (y :: r).length ≤ (y :: r).length + 1
    omega
theorem cutS_to (x : Str) (k : Nat) : (cutS x none (some (k : Int))).cps.toList = x.cps.toList.take k := by
  show ((x.cps.toList.drop 0).take (HT.sIx x.length x.length (some (k : Int)) - 0)).toArray.toList = _
  rw [HT.sIx_nat, List.drop_zero, Nat.sub_zero]
  show x.cps.toList.take (min k x.length) = _
  rw [Tt.len_list]
  by_cases h : k ≤ x.cps.toList.length
  · rw [Nat.min_eq_left h]
  · rw [Nat.min_eq_right (by omega), List.take_length, List.take_of_length_le (by omega)]
theorem cutS_from (x : Str) (k : Nat) : (cutS x (some (k : Int)) none).cps.toList = x.cps.toList.drop k := by
  show ((x.cps.toList.drop (HT.sIx x.length 0 (some (k : Int)))).take (x.length - HT.sIx x.length 0 (some (k : Int)))).toArray.toList = _
  rw [HT.sIx_nat]
  show (x.cps.toList.drop (min k x.length)).take (x.length - min k x.length) = _
  rw [Tt.len_list, List.take_of_length_le (by rw [List.length_drop]; omega)]
  by_cases h : k ≤ x.cps.toList.length
  · rw [Nat.min_eq_left h]
  · rw [Nat.min_eq_right (by omega), List.drop_length, List.drop_of_length_le (by omega)]
theorem TL.put {L m n : Nat} {cs : List Nat} (h : TL L m n cs) {k j c : Nat} (kj : k ≤ j) (hc : c < 0x110000) : TL (L + 1) (2 * m + 1) (n + 1) ((cs.take k ++ [c]) ++ cs.drop j) := by
  have one : TL 1 1 1 [c] := ⟨fun d md => by rw [List.mem_singleton.mp md]; exact hc, Nat.le_refl _, List.count_le_length, fun p w s e _ => by
    refine Nat.le_trans List.count_le_length ?_
    have := congrArg List.length e
    rw [List.length_append, List.length_append] at this
    have e1 : [c].length = 1 := rfl
    omega⟩
  have a := ((h.take k).app one).app (h.drop j)
  have e1 : cs.take k ++ (cs.drop k).take (j - k) ++ cs.drop j = cs := by
    rw [List.append_assoc, show cs.drop j = (cs.drop k).drop (j - k) by rw [List.drop_drop]; congr 1; omega, List.take_append_drop, List.take_append_drop]
  refine ⟨a.ok, ?_, ?_, fun p w s e z => Nat.le_trans (a.sp p w s e z) (by omega)⟩
  · have l1 := congrArg List.length e1
    have := h.len
    rw [List.length_append, List.length_append] at l1
    rw [List.length_append, List.length_append]
    show _ + 1 + _ ≤ _
    omega
  · have l1 := congrArg (List.count 10) e1
    have := h.nl
    have := one.nl
    rw [List.count_append, List.count_append] at l1
    rw [List.count_append, List.count_append]
    omega
def every : Str := (" !\"#$&'()*+,-./0123456789:;<=>?@ABCDEFGHIJKLMNOPQRSTUVWXYZ[\\]^_`" : Str) ++ ("abcdefghijklmnopqrstuvwxyz{|}~\t\n" : Str)
theorem every_ok : every.cps.toList.length = 96 ∧ ∀ c ∈ every.cps.toList, c < 0x110000 := by decide +kernel
theorem cut_one (xs : List V) (a : Nat) : cutV xs (some (a : Int)) (some ((a + 1 : Nat) : Int)) = (xs.drop a).take 1 := by
  rw [cut_mid]
  by_cases h : a < xs.length
  · rw [Nat.min_eq_left (Nat.le_of_lt h), Nat.min_eq_left h, show a + 1 - a = 1 by omega]
  · rw [Nat.min_eq_right (by omega), Nat.min_eq_right (by omega), List.drop_length, List.drop_of_length_le (by omega), List.take_nil, List.take_nil]
def sp_bent8 : Sp := fun vs H Q _ => ∃ (p c : Addr) (x : Str) (L m n : Nat), vs = [.ref p, .str x] ∧ Pen H p c ∧ TL L m n x.cps.toList ∧ L ≤ 350000 ∧ n ≤ 500 ∧ ∀ (y : Str) (H' : Hp), Stp p c H H' → TL (2 * L + 5010) (2 * m + 1) (n + 2) y.cps.toList → Q (.str y) H'
theorem ok_l_bent (T : Txt K mg af fd) : FnOk P w K mg base CX0 4 (af 57) (fd 57) ["pen", "text"] sp_bent8 := by
  refine T.F_l_bent.ok sc_l_bent (fun vs H Q E h => ?_) (fun cdv A outer s H vs Q E hr h => ?_)
  · obtain ⟨p, c, x, L, m, n, rfl, _⟩ := h
    rfl
  · obtain ⟨p, c, x, L, m, n, rfl, hP, hT, hL, hn, q⟩ := h
    refine ⟨_, (pss_cons (ps_set (i := 2) sc_l_bent.nd rfl (by first | exact Or.inl rfl | exact Or.inr rfl) (pe_bm PySem.F.plainAttrs_str PySem.F.slot_str_split PySem.F.type_str_split mt_split (pv 1) (pa_cons pe_str pa_nil)))
        (pss_cons (ps_set (i := 3) sc_l_bent.nd rfl (by first | exact Or.inl rfl | exact Or.inr rfl) (pe_call (ok_l_take T) (hr.mono (by first | decide | omega)) (by rfl) T.g_l_take T.F_l_take.kp T.b_l_take .nil pass0 (pa_cons (pv 0) (pa_cons (pe_callB call_len_seq (by rfl) T.m_len (by decide +kernel) (pa_cons (pv 2) pa_nil)) pa_nil))))
        (pss_cons (ps_set (i := 4) sc_l_bent.nd rfl (by first | exact Or.inl rfl | exact Or.inr rfl) (pe_call (ok_l_take T) (hr.mono (by first | decide | omega)) (by rfl) T.g_l_take T.F_l_take.kp T.b_l_take .nil pass0 (pa_cons (pv 0) (pa_cons pe_int pa_nil))))
        (pss_cons (ps_if (pt_cmpR op_eq (pv 4) pe_int (nomark _)) (pss_cons (ps_set (i := 5) sc_l_bent.nd rfl (by first | exact Or.inl rfl | exact Or.inr rfl) pe_str)
        (pss_cons (ps_set (i := 5) sc_l_bent.nd rfl (by first | exact Or.inl rfl | exact Or.inr rfl) (pe_op op_add_str (pv 5) pe_str))
        (pss_cons (ps_set (i := 3) sc_l_bent.nd rfl (by first | exact Or.inl rfl | exact Or.inr rfl) (pe_call (ok_l_take T) (hr.mono (by first | decide | omega)) (by rfl) T.g_l_take T.F_l_take.kp T.b_l_take .nil pass0 (pa_cons (pv 0) (pa_cons (pe_op op_add (pe_callB call_len_str (by rfl) T.m_len (by decide +kernel) (pa_cons (pv 1) pa_nil)) pe_int) pa_nil))))
        (pss_one (ps_ret (pe_op op_add_str (pe_op op_add_str (pe_slice sl_str (pv 1) po_none (po_some (pv 3))) (pe_ix ix_str (pv 5) (pe_call (ok_l_take T) (hr.mono (by first | decide | omega)) (by rfl) T.g_l_take T.F_l_take.kp T.b_l_take .nil pass0 (pa_cons (pv 0) (pa_cons pe_int pa_nil))) (fun _ _ => rfl))) (pe_slice sl_str (pv 1) (po_some (pe_op op_add (pv 3) (pe_call (ok_l_take T) (hr.mono (by first | decide | omega)) (by rfl) T.g_l_take T.F_l_take.kp T.b_l_take .nil pass0 (pa_cons (pv 0) (pa_cons pe_int pa_nil))))) po_none))))))) pss_nil)
        (pss_cons (ps_if (pt_cmpR op_eq (pv 4) pe_int (nomark _)) (pss_one (ps_ret (pe_join pe_str (pe_op op_cat (pe_slice sl_list (pv 2) po_none (po_some (pv 3))) (pe_slice sl_list (pv 2) (po_some (pe_op op_add (pv 3) pe_int)) po_none))))) pss_nil)
        (pss_cons (ps_if (pt_cmpR op_eq (pv 4) pe_int (nomark _)) (pss_one (ps_ret (pe_join pe_str (pe_op op_cat (pe_op op_cat (pe_slice sl_list (pv 2) po_none (po_some (pv 3))) (pe_lst (pa_cons (pe_ix ix_list (pv 2) (pv 3) (fun _ _ => rfl)) pa_nil))) (pe_slice sl_list (pv 2) (po_some (pv 3)) po_none))))) pss_nil)
        (pss_cons (ps_if (pt_cmpR op_eq (pv 4) pe_int (nomark _)) (pss_cons (ps_set (i := 6) sc_l_bent.nd rfl (by first | exact Or.inl rfl | exact Or.inr rfl) (pe_op op_cat (pe_slice sl_list (pv 2) (po_some (pe_op op_add (pv 3) pe_int)) (po_some (pe_op op_add (pv 3) pe_int))) (pe_slice sl_list (pv 2) (po_some (pv 3)) (po_some (pe_op op_add (pv 3) pe_int)))))
        (pss_one (ps_ret (pe_join pe_str (pe_op op_cat (pe_op op_cat (pe_slice sl_list (pv 2) po_none (po_some (pv 3))) (pv 6)) (pe_slice sl_list (pv 2) (po_some (pe_op op_add (pv 3) pe_int)) po_none)))))) pss_nil)
        (pss_cons (ps_if (pt_cmpR op_eq (pv 4) pe_int (nomark _)) (pss_one (ps_ret (pe_slice sl_str (pv 1) po_none (po_some (pe_call (ok_l_take T) (hr.mono (by first | decide | omega)) (by rfl) T.g_l_take T.F_l_take.kp T.b_l_take .nil pass0 (pa_cons (pv 0) (pa_cons (pe_op op_add (pe_callB call_len_str (by rfl) T.m_len (by decide +kernel) (pa_cons (pv 1) pa_nil)) pe_int) pa_nil))))))) pss_nil)
        (pss_one (ps_ret (pe_join pe_str (pe_op op_cat (pe_op op_cat (pe_slice sl_list (pv 2) po_none (po_some (pv 3))) (pe_lst (pa_cons (pe_call (ok_l_bent_line T) (hr.mono (by first | decide | omega)) (by rfl) T.g_l_bent_line T.F_l_bent_line.kp T.b_l_bent_line .nil pass0 (pa_cons (pv 0) (pa_cons (pe_ix ix_list (pv 2) (pv 3) (fun _ _ => rfl)) pa_nil))) pa_nil))) (pe_slice sl_list (pv 2) (po_some (pe_op op_add (pv 3) pe_int)) po_none))))))))))))), ?_⟩
    obtain ⟨ld, lt, lc⟩ := text_lines hT
    have xl : x.length ≤ L := by rw [Tt.len_list]; exact hT.len
    have lne : Txt.split x "\n" ≠ [] := Tt.split_some x 10
    have big : x.length + 2 ≤ sizeLine := Nat.le_trans (show _ ≤ 1000000 by omega) (by decide)
    refine ⟨_, rfl, rfl, x, _, rfl, rfl, rfl, big, fun wa nwa => ?_⟩
    rw [show Txt.split x (Str.ofString "\n") = Txt.split x "\n" from rfl]
    generalize Txt.split x "\n" = ls at ld lt lc lne nwa ⊢
    have lpos : 0 < ls.length := List.length_pos_iff.mpr lne
    have s1 : Stp p c H (upd H wa (.lst (ls.map V.str))) := (Stp.refl hP).new hP nwa
    have nwp : wa ≠ p := fun e => hP.neP nwa e.symm
    have hw1 : (upd H wa (.lst (ls.map V.str))) wa = some (.lst (ls.map V.str)) := upd_same
    generalize upd H wa (.lst (ls.map V.str)) = H1 at s1 hw1 ⊢
    refine ⟨_, rfl, _, rfl, wa, _, rfl, .inl (SqL.of hw1), p, c, _, rfl, s1.1, by rw [List.length_map]; omega, Nat.lt_of_le_of_lt (show _ ≤ 1000000 by rw [List.length_map]; omega) (by decide), fun at_ H2 a0 a1 s2 => ?_⟩
    rw [List.length_map] at a1
    have s12 := s1.trans s2
    have hw2 := s2.2 wa _ nwp hw1
    refine ⟨_, rfl, p, c, 9, rfl, s12.1, by decide, by decide, fun way H3 w0 w1 s3 => ?_⟩
    have s13 := s12.trans s3
    have hw3 := s3.2 wa _ nwp hw2
    obtain ⟨line, hline⟩ : ∃ w, ls[at_.toNat]? = some w := ⟨_, List.getElem?_eq_getElem (show at_.toNat < ls.length by omega)⟩
    have lnl := ld line (List.mem_of_getElem? hline)
    have eat : atI (ls.map V.str) at_ = some (.str line) := at_any (j := at_.toNat) (by omega) (by rw [List.getElem?_map, hline]; rfl)
    have tcut := tot_cut ls at_.toNat
    have lcut : (ls.take at_.toNat).length + (ls.drop at_.toNat).length = ls.length := by rw [← List.length_append, List.take_append_drop]
    have dr : ls.drop at_.toNat = line :: ls.drop (at_.toNat + 1) := by
      have h := List.getElem?_eq_some_iff.mp hline
      obtain ⟨hlt, e⟩ := h
      rw [List.drop_eq_getElem_cons hlt, e]
    have d1 : tot (ls.drop at_.toNat) = line.length + 1 + tot (ls.drop (at_.toNat + 1)) := by rw [dr]; rfl
    have c1 : (ls.drop at_.toNat).length = (ls.drop (at_.toNat + 1)).length + 1 := by rw [dr]; rfl
    have lT : ((ls.take at_.toNat).map V.str).length ≤ ls.length := by rw [List.length_map, List.length_take]; omega
    have lDk : ∀ k, ((ls.drop k).map V.str).length ≤ ls.length := fun k => by rw [List.length_map, List.length_drop]; omega
    have wT : ∀ w ∈ ls.take at_.toNat, Ln 710000 (m + 1) w := fun w mw => by
      have h := ld w (List.mem_of_mem_take mw)
      exact ⟨h.ok, Nat.le_trans h.len (by omega), h.nl, Nat.le_succ_of_le h.sp⟩
    have wD : ∀ k, ∀ w ∈ ls.drop k, Ln 710000 (m + 1) w := fun k w mw => by
      have h := ld w (List.mem_of_mem_drop mw)
      exact ⟨h.ok, Nat.le_trans h.len (by omega), h.nl, Nat.le_succ_of_le h.sp⟩
    have wL : Ln 710000 (m + 1) line := ⟨lnl.ok, Nat.le_trans lnl.len (by omega), lnl.nl, Nat.le_succ_of_le lnl.sp⟩
    have cT : cutV (ls.map V.str) none (some at_) = (ls.take at_.toNat).map V.str := by
      rw [show at_ = ((at_.toNat : Nat) : Int) by omega, cut_to, List.map_take]
      rfl
    have cF : ∀ k : Nat, cutV (ls.map V.str) (some (at_ + (k : Int))) none = (ls.drop (at_.toNat + k)).map V.str := fun k => by
      rw [show at_ + (k : Int) = ((at_.toNat + k : Nat) : Int) by omega, cut_from, List.map_drop]
    have cF0 : cutV (ls.map V.str) (some at_) none = (ls.drop at_.toNat).map V.str := by
      have := cF 0
      rw [show at_ + ((0 : Nat) : Int) = at_ by omega] at this
      exact this
    have cF1 : cutV (ls.map V.str) (some (at_ + 1)) none = (ls.drop (at_.toNat + 1)).map V.str := cF 1
    have cF2 : cutV (ls.map V.str) (some (at_ + 2)) none = (ls.drop (at_.toNat + 2)).map V.str := cF 2
    have big2 : ∀ n : Nat, n ≤ 1000000 → n ≤ sizeLine := fun n h => Nat.le_trans h (by decide)
    have ls6 : ls.length ≤ 501 := by omega
    have fin : ∀ (ys : List Str) (G : Hp), Stp p c H G → (∀ y ∈ ys, Ln 710000 (m + 1) y) → tot ys ≤ 2 * L + 5010 → ys.length ≤ n + 2 → (ys.map (·.length)).sum + ys.length * (Str.ofString "\n").length ≤ 16777216 ∧ Q (.str (Txt.join "\n" ys)) G := fun ys G st a b d => by
      refine ⟨?_, q _ G st (by rw [joinE]; exact (lines_tl a).mono b (by omega) d)⟩
      have := tot_sum ys
      rw [show (Str.ofString "\n").length = 1 from rfl]
      omega
    refine ⟨_, rfl, rfl, _, rfl, ite2 (fun z1 => ?_) (fun z1 => ?_)⟩
    · have xs : x.length ≤ sizeLine := big2 _ (by omega)
      refine ⟨_, rfl, _, _, rfl, rfl, ?_, ?_⟩
      · rw [← str_app_len]
        refine big2 _ ?_
        rw [Tt.len_list]
        exact Nat.le_trans (Nat.le_of_eq every_ok.1) (by decide)
      refine ⟨_, rfl, _, rfl, x, rfl, xs, _, _, rfl, rfl, p, c, _, rfl, s13.1, by omega, Nat.lt_of_le_of_lt (show _ ≤ 1000000 by omega) (by decide), fun k H4 k0 k1 s4 => ?_⟩
      refine ⟨_, rfl, _, rfl, k, rfl, x, rfl, xs, _, rfl, _, rfl, p, c, 96, rfl, (s13.trans s4).1, by decide, by decide, fun i H5 i0 i1 s5 => ?_⟩
      obtain ⟨ch, hch⟩ : ∃ ch, every.cps.toList[i.toNat]? = some ch := ⟨_, List.getElem?_eq_getElem (show i.toNat < _ by rw [every_ok.1]; omega)⟩
      have chok := every_ok.2 ch (List.mem_of_getElem? hch)
      have el : every.length ≤ sizeLine := by rw [Tt.len_list, every_ok.1]; decide
      have l1 : (cutS x none (some k)).length ≤ x.length := by
        rw [show k = ((k.toNat : Nat) : Int) by omega, Tt.len_list, cutS_to, List.length_take, ← Tt.len_list]
        omega
      have one : (⟨#[ch]⟩ : Str).length = 1 := rfl
      refine ⟨every, i, ch, rfl, rfl, el, ?_, _, _, rfl, rfl, big2 _ (by rw [one]; omega), ?_⟩
      · have hi : i = ((i.toNat : Nat) : Int) := by omega
        rw [hi]
        exact atI_nat hch
      refine ⟨_, rfl, _, rfl, _, rfl, p, c, 2, rfl, ((s13.trans s4).trans s5).1, by decide, by decide, fun t H6 t0 t1 s6 => ⟨_, _, rfl, rfl, _, rfl, ?_⟩⟩
      dsimp only [tNoPart]
      have kt : k + t = (((k + t).toNat : Nat) : Int) := by omega
      have l2 : (cutS x (some (k + t)) none).length ≤ x.length := by
        rw [kt, Tt.len_list, cutS_from, List.length_drop, ← Tt.len_list]
        omega
      refine ⟨x, rfl, xs, _, _, rfl, rfl, big2 _ (by rw [str_app_len, one]; omega), q _ H6 (((s13.trans s4).trans s5).trans s6) ?_⟩
      rw [Tt.cat_list, Tt.cat_list, kt, cutS_from, show k = ((k.toNat : Nat) : Int) by omega, cutS_to]
      exact (hT.put (show k.toNat ≤ (((k.toNat : Nat) : Int) + t).toNat by omega) chok).mono (by omega) (Nat.le_refl _) (by omega)
    refine ⟨_, rfl, rfl, _, rfl, ite2 (fun z2 => ?_) (fun z2 => ?_)⟩
    · refine ⟨⟨_, rfl⟩, _, rfl, _, rfl, at_, rfl, wa, _, rfl, SqL.of hw3, fun b1 m1 => ?_⟩
      rw [cT]
      have g1 : Same H3 (upd H3 b1 (.lst ((ls.take at_.toNat).map V.str))) := same_upd m1
      have h1 : (upd H3 b1 (.lst ((ls.take at_.toNat).map V.str))) b1 = some (.lst ((ls.take at_.toNat).map V.str)) := upd_same
      generalize upd H3 b1 (.lst ((ls.take at_.toNat).map V.str)) = G1 at g1 h1 ⊢
      refine ⟨_, rfl, _, rfl, _, _, rfl, rfl, _, rfl, ?_⟩
      dsimp only [tNoPart]
      refine ⟨wa, _, rfl, SqL.of (g1 _ _ hw3), fun b2 m2 => ?_⟩
      rw [cF1]
      have g2 : Same G1 (upd G1 b2 (.lst ((ls.drop (at_.toNat + 1)).map V.str))) := same_upd m2
      have h2 : (upd G1 b2 (.lst ((ls.drop (at_.toNat + 1)).map V.str))) b2 = some (.lst ((ls.drop (at_.toNat + 1)).map V.str)) := upd_same
      generalize upd G1 b2 (.lst ((ls.drop (at_.toNat + 1)).map V.str)) = G2 at g2 h2 ⊢
      refine ⟨b1, b2, _, _, rfl, rfl, g2 _ _ h1, h2, big2 _ (by have := lDk (at_.toNat + 1); omega), fun b3 m3 => ?_⟩
      have g3 : Same G2 (upd G2 b3 (.lst ((ls.take at_.toNat).map V.str ++ (ls.drop (at_.toNat + 1)).map V.str))) := same_upd m3
      have h3 : (upd G2 b3 (.lst ((ls.take at_.toNat).map V.str ++ (ls.drop (at_.toNat + 1)).map V.str))) b3 = some (.lst ((ls.take at_.toNat).map V.str ++ (ls.drop (at_.toNat + 1)).map V.str)) := upd_same
      generalize upd G2 b3 (.lst ((ls.take at_.toNat).map V.str ++ (ls.drop (at_.toNat + 1)).map V.str)) = G3 at g3 h3 ⊢
      have g13 := (g1.trans g2).trans g3
      have s33 : Stp p c H3 G3 := ⟨s13.1.sm g13, fun b o _ e => g13 b o e⟩
      obtain ⟨f1, f2⟩ := fin (ls.take at_.toNat ++ ls.drop (at_.toNat + 1)) G3 (s13.trans s33) (fun y my => (List.mem_append.mp my).elim (wT y) (wD _ y)) (by rw [tot_app]; omega) (by rw [List.length_append]; omega)
      refine ⟨"\n", b3, _, rfl, rfl, .inl (SqL.of ?_), f1, f2⟩
      rw [List.map_append]
      exact h3
    refine ⟨_, rfl, rfl, _, rfl, ite2 (fun z3 => ?_) (fun z3 => ?_)⟩
    · refine ⟨⟨_, rfl⟩, _, rfl, _, rfl, at_, rfl, wa, _, rfl, SqL.of hw3, fun b1 m1 => ?_⟩
      rw [cT]
      have g1 : Same H3 (upd H3 b1 (.lst ((ls.take at_.toNat).map V.str))) := same_upd m1
      have h1 : (upd H3 b1 (.lst ((ls.take at_.toNat).map V.str))) b1 = some (.lst ((ls.take at_.toNat).map V.str)) := upd_same
      generalize upd H3 b1 (.lst ((ls.take at_.toNat).map V.str)) = G1 at g1 h1 ⊢
      refine ⟨_, rfl, _, rfl, wa, _, at_, _, rfl, rfl, SqL.of (g1 _ _ hw3), eat, (by show 1 ≤ sizeLine; decide), fun b2 m2 => ?_⟩
      have g2 : Same G1 (upd G1 b2 (.lst ([.str line]))) := same_upd m2
      have h2 : (upd G1 b2 (.lst ([.str line]))) b2 = some (.lst ([.str line])) := upd_same
      generalize upd G1 b2 (.lst ([.str line])) = G2 at g2 h2 ⊢
      refine ⟨b1, b2, _, _, rfl, rfl, g2 _ _ h1, h2, big2 _ (by show _ + 1 ≤ _; omega), fun b3 m3 => ?_⟩
      have g3 : Same G2 (upd G2 b3 (.lst ((ls.take at_.toNat).map V.str ++ [.str line]))) := same_upd m3
      have h3 : (upd G2 b3 (.lst ((ls.take at_.toNat).map V.str ++ [.str line]))) b3 = some (.lst ((ls.take at_.toNat).map V.str ++ [.str line])) := upd_same
      generalize upd G2 b3 (.lst ((ls.take at_.toNat).map V.str ++ [.str line])) = G3 at g3 h3 ⊢
      have g13 := (g1.trans g2).trans g3
      refine ⟨_, rfl, _, rfl, at_, rfl, ?_⟩
      dsimp only [tNoPart]
      refine ⟨wa, _, rfl, SqL.of (g13 _ _ hw3), fun b4 m4 => ?_⟩
      rw [cF0]
      have g4 : Same G3 (upd G3 b4 (.lst ((ls.drop at_.toNat).map V.str))) := same_upd m4
      have h4 : (upd G3 b4 (.lst ((ls.drop at_.toNat).map V.str))) b4 = some (.lst ((ls.drop at_.toNat).map V.str)) := upd_same
      generalize upd G3 b4 (.lst ((ls.drop at_.toNat).map V.str)) = G4 at g4 h4 ⊢
      refine ⟨b3, b4, _, _, rfl, rfl, g4 _ _ h3, h4, big2 _ (by rw [List.length_append]; have := lDk at_.toNat; show _ + 1 + _ ≤ _; omega), fun b5 m5 => ?_⟩
      have g5 : Same G4 (upd G4 b5 (.lst ((ls.take at_.toNat).map V.str ++ [.str line] ++ (ls.drop at_.toNat).map V.str))) := same_upd m5
      have h5 : (upd G4 b5 (.lst ((ls.take at_.toNat).map V.str ++ [.str line] ++ (ls.drop at_.toNat).map V.str))) b5 = some (.lst ((ls.take at_.toNat).map V.str ++ [.str line] ++ (ls.drop at_.toNat).map V.str)) := upd_same
      generalize upd G4 b5 (.lst ((ls.take at_.toNat).map V.str ++ [.str line] ++ (ls.drop at_.toNat).map V.str)) = G5 at g5 h5 ⊢
      have g15 := (g13.trans g4).trans g5
      have s33 : Stp p c H3 G5 := ⟨s13.1.sm g15, fun b o _ e => g15 b o e⟩
      have ll := lnl.len
      obtain ⟨f1, f2⟩ := fin (ls.take at_.toNat ++ [line] ++ ls.drop at_.toNat) G5 (s13.trans s33) (fun y my => (List.mem_append.mp my).elim (fun my => (List.mem_append.mp my).elim (wT y) (fun e => by rw [List.mem_singleton.mp e]; exact wL)) (wD _ y)) (by rw [tot_app, tot_app, show tot [line] = line.length + 1 from rfl]; omega) (by rw [List.length_append, List.length_append]; show _ + 1 + _ ≤ _; omega)
      refine ⟨"\n", b5, _, rfl, rfl, .inl (SqL.of ?_), f1, f2⟩
      rw [List.map_append, List.map_append]
      exact h5
    refine ⟨_, rfl, rfl, _, rfl, ite2 (fun z4 => ?_) (fun z4 => ?_)⟩
    · refine ⟨_, rfl, _, rfl, _, _, rfl, rfl, _, rfl, _, rfl, _, _, rfl, rfl, _, rfl, wa, _, rfl, SqL.of hw3, fun b1 m1 => ?_⟩
      have cM1 : cutV (ls.map V.str) (some (at_ + 1)) (some (at_ + 2)) = ((ls.drop (at_.toNat + 1)).take 1).map V.str := by
        have := cut_one (ls.map V.str) (at_.toNat + 1)
        rw [show ((at_.toNat + 1 : Nat) : Int) = at_ + 1 by omega, show ((at_.toNat + 1 + 1 : Nat) : Int) = at_ + 2 by omega] at this
        rw [this, List.map_take, List.map_drop]
      have cM0 : cutV (ls.map V.str) (some at_) (some (at_ + 1)) = [.str line] := by
        have := cut_one (ls.map V.str) at_.toNat
        rw [show ((at_.toNat : Nat) : Int) = at_ by omega, show ((at_.toNat + 1 : Nat) : Int) = at_ + 1 by omega] at this
        rw [this, ← List.map_drop, dr]
        rfl
      have lN : (((ls.drop (at_.toNat + 1)).take 1).map V.str).length ≤ 1 := by rw [List.length_map, List.length_take]; omega
      rw [cM1]
      have g1 : Same H3 (upd H3 b1 (.lst (((ls.drop (at_.toNat + 1)).take 1).map V.str))) := same_upd m1
      have h1 : (upd H3 b1 (.lst (((ls.drop (at_.toNat + 1)).take 1).map V.str))) b1 = some (.lst (((ls.drop (at_.toNat + 1)).take 1).map V.str)) := upd_same
      generalize upd H3 b1 (.lst (((ls.drop (at_.toNat + 1)).take 1).map V.str)) = G1 at g1 h1 ⊢
      refine ⟨_, rfl, _, rfl, at_, rfl, _, rfl, _, _, rfl, rfl, _, rfl, wa, _, rfl, SqL.of (g1 _ _ hw3), fun b2 m2 => ?_⟩
      rw [cM0]
      have g2 : Same G1 (upd G1 b2 (.lst ([.str line]))) := same_upd m2
      have h2 : (upd G1 b2 (.lst ([.str line]))) b2 = some (.lst ([.str line])) := upd_same
      generalize upd G1 b2 (.lst ([.str line])) = G2 at g2 h2 ⊢
      refine ⟨b1, b2, _, _, rfl, rfl, g2 _ _ h1, h2, big2 _ (by show _ + 1 ≤ _; omega), fun b3 m3 => ?_⟩
      have g3 : Same G2 (upd G2 b3 (.lst (((ls.drop (at_.toNat + 1)).take 1).map V.str ++ [.str line]))) := same_upd m3
      have h3 : (upd G2 b3 (.lst (((ls.drop (at_.toNat + 1)).take 1).map V.str ++ [.str line]))) b3 = some (.lst (((ls.drop (at_.toNat + 1)).take 1).map V.str ++ [.str line])) := upd_same
      generalize upd G2 b3 (.lst (((ls.drop (at_.toNat + 1)).take 1).map V.str ++ [.str line])) = G3 at g3 h3 ⊢
      have g13 := (g1.trans g2).trans g3
      refine ⟨⟨_, rfl⟩, _, rfl, _, rfl, at_, rfl, wa, _, rfl, SqL.of (g13 _ _ hw3), fun b4 m4 => ?_⟩
      rw [cT]
      have g4 : Same G3 (upd G3 b4 (.lst ((ls.take at_.toNat).map V.str))) := same_upd m4
      have h4 : (upd G3 b4 (.lst ((ls.take at_.toNat).map V.str))) b4 = some (.lst ((ls.take at_.toNat).map V.str)) := upd_same
      generalize upd G3 b4 (.lst ((ls.take at_.toNat).map V.str)) = G4 at g4 h4 ⊢
      refine ⟨_, rfl, b4, b3, _, _, rfl, rfl, h4, g4 _ _ h3, big2 _ (by rw [List.length_append]; show _ + (_ + 1) ≤ _; omega), fun b5 m5 => ?_⟩
      have g5 : Same G4 (upd G4 b5 (.lst ((ls.take at_.toNat).map V.str ++ (((ls.drop (at_.toNat + 1)).take 1).map V.str ++ [.str line])))) := same_upd m5
      have h5 : (upd G4 b5 (.lst ((ls.take at_.toNat).map V.str ++ (((ls.drop (at_.toNat + 1)).take 1).map V.str ++ [.str line])))) b5 = some (.lst ((ls.take at_.toNat).map V.str ++ (((ls.drop (at_.toNat + 1)).take 1).map V.str ++ [.str line]))) := upd_same
      generalize upd G4 b5 (.lst ((ls.take at_.toNat).map V.str ++ (((ls.drop (at_.toNat + 1)).take 1).map V.str ++ [.str line]))) = G5 at g5 h5 ⊢
      have g15 := (g13.trans g4).trans g5
      refine ⟨_, rfl, _, rfl, _, _, rfl, rfl, _, rfl, ?_⟩
      dsimp only [tNoPart]
      refine ⟨wa, _, rfl, SqL.of (g15 _ _ hw3), fun b6 m6 => ?_⟩
      rw [cF2]
      have g6 : Same G5 (upd G5 b6 (.lst ((ls.drop (at_.toNat + 2)).map V.str))) := same_upd m6
      have h6 : (upd G5 b6 (.lst ((ls.drop (at_.toNat + 2)).map V.str))) b6 = some (.lst ((ls.drop (at_.toNat + 2)).map V.str)) := upd_same
      generalize upd G5 b6 (.lst ((ls.drop (at_.toNat + 2)).map V.str)) = G6 at g6 h6 ⊢
      refine ⟨b5, b6, _, _, rfl, rfl, g6 _ _ h5, h6, big2 _ (by rw [List.length_append, List.length_append]; have := lDk (at_.toNat + 2); show _ + (_ + 1) + _ ≤ _; omega), fun b7 m7 => ?_⟩
      have g7 : Same G6 (upd G6 b7 (.lst ((ls.take at_.toNat).map V.str ++ (((ls.drop (at_.toNat + 1)).take 1).map V.str ++ [.str line]) ++ (ls.drop (at_.toNat + 2)).map V.str))) := same_upd m7
      have h7 : (upd G6 b7 (.lst ((ls.take at_.toNat).map V.str ++ (((ls.drop (at_.toNat + 1)).take 1).map V.str ++ [.str line]) ++ (ls.drop (at_.toNat + 2)).map V.str))) b7 = some (.lst ((ls.take at_.toNat).map V.str ++ (((ls.drop (at_.toNat + 1)).take 1).map V.str ++ [.str line]) ++ (ls.drop (at_.toNat + 2)).map V.str)) := upd_same
      generalize upd G6 b7 (.lst ((ls.take at_.toNat).map V.str ++ (((ls.drop (at_.toNat + 1)).take 1).map V.str ++ [.str line]) ++ (ls.drop (at_.toNat + 2)).map V.str)) = G7 at g7 h7 ⊢
      have g17 := (g15.trans g6).trans g7
      have s33 : Stp p c H3 G7 := ⟨s13.1.sm g17, fun b o _ e => g17 b o e⟩
      have e2 : tot ((ls.drop (at_.toNat + 1)).take 1) + tot (ls.drop (at_.toNat + 2)) = tot (ls.drop (at_.toNat + 1)) := by
        have := tot_cut (ls.drop (at_.toNat + 1)) 1
        rw [List.drop_drop] at this
        exact this
      have e3 : ((ls.drop (at_.toNat + 1)).take 1).length + (ls.drop (at_.toNat + 2)).length = (ls.drop (at_.toNat + 1)).length := by
        rw [show ls.drop (at_.toNat + 2) = (ls.drop (at_.toNat + 1)).drop 1 by rw [List.drop_drop], ← List.length_append, List.take_append_drop]
      obtain ⟨f1, f2⟩ := fin (ls.take at_.toNat ++ ((ls.drop (at_.toNat + 1)).take 1 ++ [line]) ++ ls.drop (at_.toNat + 2)) G7 (s13.trans s33) (fun y my => (List.mem_append.mp my).elim (fun my => (List.mem_append.mp my).elim (wT y) (fun my => (List.mem_append.mp my).elim (fun my => wD _ y (List.mem_of_mem_take my)) (fun e => by rw [List.mem_singleton.mp e]; exact wL))) (wD _ y)) (by rw [tot_app, tot_app, tot_app, show tot [line] = line.length + 1 from rfl]; omega) (by rw [List.length_append, List.length_append, List.length_append]; show _ + (_ + 1) + _ ≤ _; omega)
      refine ⟨"\n", b7, _, rfl, rfl, .inl (SqL.of ?_), f1, f2⟩
      rw [List.map_append, List.map_append, List.map_append]
      exact h7
    refine ⟨_, rfl, rfl, _, rfl, ite2 (fun z5 => ?_) (fun z5 => ?_)⟩
    · have xs : x.length ≤ sizeLine := big2 _ (by omega)
      refine ⟨_, rfl, _, rfl, _, rfl, x, rfl, xs, _, _, rfl, rfl, p, c, _, rfl, s13.1, by omega, Nat.lt_of_le_of_lt (show _ ≤ 1000000 by omega) (by decide), fun k H4 k0 k1 s4 => ⟨k, rfl, x, rfl, xs, q _ H4 (s13.trans s4) ?_⟩⟩
      rw [show k = ((k.toNat : Nat) : Int) by omega, cutS_to]
      exact (hT.take _).mono (by omega) (by omega) (by omega)
    refine ⟨⟨_, rfl⟩, _, rfl, _, rfl, at_, rfl, wa, _, rfl, SqL.of hw3, fun b1 m1 => ?_⟩
    rw [cT]
    have g1 : Same H3 (upd H3 b1 (.lst ((ls.take at_.toNat).map V.str))) := same_upd m1
    have h1 : (upd H3 b1 (.lst ((ls.take at_.toNat).map V.str))) b1 = some (.lst ((ls.take at_.toNat).map V.str)) := upd_same
    generalize upd H3 b1 (.lst ((ls.take at_.toNat).map V.str)) = G1 at g1 h1 ⊢
    have p1 := s13.1.sm g1
    have nb1 : b1 ≠ p := fun e => s13.1.neP m1 e.symm
    refine ⟨_, rfl, _, rfl, _, rfl, wa, _, at_, _, rfl, rfl, SqL.of (g1 _ _ hw3), eat, p, c, line, m, rfl, p1, ⟨lnl.ok, Nat.le_trans lnl.len (by omega), lnl.nl, lnl.sp⟩, fun y K1 t1 ly => ⟨(by show 1 ≤ sizeLine; decide), fun b2 m2 => ?_⟩⟩
    have hb1 := t1.2 b1 _ nb1 h1
    have hwK := t1.2 wa _ nwp (g1 _ _ hw3)
    have g2 : Same K1 (upd K1 b2 (.lst ([.str y]))) := same_upd m2
    have h2 : (upd K1 b2 (.lst ([.str y]))) b2 = some (.lst ([.str y])) := upd_same
    generalize upd K1 b2 (.lst ([.str y])) = G2 at g2 h2 ⊢
    refine ⟨b1, b2, _, _, rfl, rfl, g2 _ _ hb1, h2, big2 _ (by show _ + 1 ≤ _; omega), fun b3 m3 => ?_⟩
    have g3 : Same G2 (upd G2 b3 (.lst ((ls.take at_.toNat).map V.str ++ [.str y]))) := same_upd m3
    have h3 : (upd G2 b3 (.lst ((ls.take at_.toNat).map V.str ++ [.str y]))) b3 = some (.lst ((ls.take at_.toNat).map V.str ++ [.str y])) := upd_same
    generalize upd G2 b3 (.lst ((ls.take at_.toNat).map V.str ++ [.str y])) = G3 at g3 h3 ⊢
    have g13 := g2.trans g3
    refine ⟨_, rfl, _, rfl, _, _, rfl, rfl, _, rfl, ?_⟩
    dsimp only [tNoPart]
    refine ⟨wa, _, rfl, SqL.of (g13 _ _ hwK), fun b4 m4 => ?_⟩
    rw [cF1]
    have g4 : Same G3 (upd G3 b4 (.lst ((ls.drop (at_.toNat + 1)).map V.str))) := same_upd m4
    have h4 : (upd G3 b4 (.lst ((ls.drop (at_.toNat + 1)).map V.str))) b4 = some (.lst ((ls.drop (at_.toNat + 1)).map V.str)) := upd_same
    generalize upd G3 b4 (.lst ((ls.drop (at_.toNat + 1)).map V.str)) = G4 at g4 h4 ⊢
    refine ⟨b3, b4, _, _, rfl, rfl, g4 _ _ h3, h4, big2 _ (by rw [List.length_append]; have := lDk (at_.toNat + 1); show _ + 1 + _ ≤ _; omega), fun b5 m5 => ?_⟩
    have g5 : Same G4 (upd G4 b5 (.lst ((ls.take at_.toNat).map V.str ++ [.str y] ++ (ls.drop (at_.toNat + 1)).map V.str))) := same_upd m5
    have h5 : (upd G4 b5 (.lst ((ls.take at_.toNat).map V.str ++ [.str y] ++ (ls.drop (at_.toNat + 1)).map V.str))) b5 = some (.lst ((ls.take at_.toNat).map V.str ++ [.str y] ++ (ls.drop (at_.toNat + 1)).map V.str)) := upd_same
    generalize upd G4 b5 (.lst ((ls.take at_.toNat).map V.str ++ [.str y] ++ (ls.drop (at_.toNat + 1)).map V.str)) = G5 at g5 h5 ⊢
    have g15 := (g13.trans g4).trans g5
    have t2 : Stp p c K1 G5 := ⟨t1.1.sm g15, fun b o _ e => g15 b o e⟩
    have t0 : Stp p c H3 G1 := ⟨p1, fun b o _ e => g1 b o e⟩
    have ll := lnl.len
    have yl := ly.len
    have wY : Ln 710000 (m + 1) y := ⟨ly.ok, Nat.le_trans ly.len (by omega), ly.nl, ly.sp⟩
    obtain ⟨f1, f2⟩ := fin (ls.take at_.toNat ++ [y] ++ ls.drop (at_.toNat + 1)) G5 (s13.trans ((t0.trans t1).trans t2)) (fun z mz => (List.mem_append.mp mz).elim (fun mz => (List.mem_append.mp mz).elim (wT z) (fun e => by rw [List.mem_singleton.mp e]; exact wY)) (wD _ z)) (by rw [tot_app, tot_app, show tot [y] = y.length + 1 from rfl]; omega) (by rw [List.length_append, List.length_append]; show _ + 1 + _ ≤ _; omega)
    refine ⟨"\n", b5, _, rfl, rfl, .inl (SqL.of ?_), f1, f2⟩
    rw [List.map_append, List.map_append]
    exact h5
/-! ### the law -/
theorem tl_fit {x : Str} {L m n : Nat} (h : TL L m n x.cps.toList) (a : L ≤ 700000) (b : m ≤ 59) (d : n ≤ 899) : Fit x ∧ ∀ l ∈ Txt.split x "\n", (Txt.split l " ").length ≤ 60 := by
  obtain ⟨h1, h2, h3⟩ := text_lines h
  refine ⟨⟨ok_iff.mpr h.ok, ?_, by omega⟩, fun l ml => ?_⟩
  · rw [Tt.len_list]
    exact Nat.le_trans h.len a
  · have := (line_words (h1 l ml)).2.2
    omega
theorem part_wd {hs : List Str} (hh : ∀ h ∈ hs, HouseS h) {r : Row} (w : r.Wf) (i : r.In hs) (h9 : ∀ h ∈ hs, h.length ≤ 9) : ∀ x ∈ r.vals.map vS, Wd 100 x := fun x mx => by
  obtain ⟨a, b, c⟩ := (row_words hh w i).2 x mx
  obtain ⟨v, mv, rfl⟩ := List.mem_map.mp mx
  exact ⟨a, prt_len (row_prts w i h9 v mv), c, b⟩
theorem tot_le {K : Nat} : ∀ {ws : List Str}, (∀ w ∈ ws, w.length ≤ K) → tot ws ≤ ws.length * (K + 1)
  | [], _ => Nat.zero_le _
  | w :: ws, h => by
    have i := tot_le (ws := ws) fun x m => h x (List.mem_cons_of_mem _ m)
    have a := h w List.mem_cons_self
    show w.length + 1 + tot ws ≤ (ws.length + 1) * (K + 1)
    rw [Nat.add_mul, Nat.one_mul]
    omega
theorem row_ln {hs : List Str} (hh : ∀ h ∈ hs, HouseS h) {r : Row} (w : r.Wf) (i : r.In hs) (h9 : ∀ h ∈ hs, h.length ≤ 9) : Ln 800 6 (rowS r) := by
  have l7 : r.vals.length ≤ 7 := by cases r <;> exact Nat.le_of_ble_eq_true rfl
  have wd := part_wd hh w i h9
  have t := tot_le fun x m => (wd x m).len
  rw [List.length_map] at t
  rw [show rowS r = Str.join (Tt.sg 32) (r.vals.map vS) from joinE _ _]
  exact words_line wd (by omega) (by rw [List.length_map]; exact l7)
theorem town_ln {hs gs : List Str} (g : Good hs gs 6) (h9 : ∀ h ∈ hs, h.length ≤ 9) : Ln 800 6 (townS hs gs) := by
  have wd : ∀ x ∈ hs.map (houS gs), Wd 100 x := fun x m => by
    obtain ⟨h, mh, rfl⟩ := List.mem_map.mp m
    obtain ⟨a, b, c⟩ := hou_free (gs := gs) (low_house (g.hou h mh))
    exact ⟨a, houS_len (h9 h mh), c, b⟩
  have t := tot_le fun x m => (wd x m).len
  rw [List.length_map] at t
  have := g.few
  rw [show townS hs gs = Str.join (Tt.sg 32) (hs.map (houS gs)) from joinE _ _]
  exact words_line wd (by omega) (by rw [List.length_map]; omega)
theorem book_tl {hs gs : List Str} {rs : List Row} (g : Good hs gs 6) (wf : ∀ r ∈ rs, r.Wf) (inn : ∀ r ∈ rs, r.In hs) (len : rs.length ≤ 200) : TL 162000 6 203 (bookS hs gs rs).cps.toList := by
  have h9 : ∀ h ∈ hs, h.length ≤ 9 := fun h m => Nat.le_succ_of_le (g.hou h m).len
  have all : ∀ l ∈ (townS hs gs :: rs.map rowS) ++ [("" : Str)], Ln 800 6 l := fun l ml => by
    rcases List.mem_append.mp ml with ml | ml
    · rcases List.mem_cons.mp ml with rfl | ml
      · exact town_ln g h9
      · obtain ⟨r, mr, rfl⟩ := List.mem_map.mp ml
        exact row_ln g.hou (wf r mr) (inn r mr) h9
    · rw [List.mem_singleton.mp ml]
      exact ⟨by decide +kernel, by decide +kernel, fun m => (nomatch m), by decide +kernel⟩
  have ln : ((townS hs gs :: rs.map rowS) ++ [("" : Str)]).length = rs.length + 2 := by rw [List.length_append, List.length_cons, List.length_map]; rfl
  have t := tot_le fun x m => (all x m).len
  rw [ln] at t
  rw [show bookS hs gs rs = Str.join (Tt.sg 10) ((townS hs gs :: rs.map rowS) ++ [("" : Str)]) from (joinE _ _).trans (lines_join (fun z => nomatch z))]
  exact (lines_tl all).mono (by omega) (Nat.le_refl _) (by rw [ln]; omega)
theorem lc_drawn {p c D : Addr} {hs : List Str} {σ : L2.St} {i n : Nat} {te : TE} {H1 : Hp} {Qd : Hp → Prop} (hn : n ≤ 100) (hP : Pen H1 p c) (nD : H1 D = none)
    (hte : ∀ v H2 (Ke : V → Hp → Prop), Stp p c H1 H2 → (∀ a r H3, Stp p c H2 H3 → RowAt H3 a r → r.Wf → r.In hs → Ke (.ref a) H3) → te ((wipe σ [i]).set i (some v)) H2 Ke)
    (hd : ∀ (xs : List V) (ts : List Row) (H' : Hp), Stp p c H1 H' → H' D = some (.lst xs) → Rws H' xs ts → (∀ r ∈ ts, r.Wf ∧ r.In hs) → ts.length ≤ n → Qd H') :
    ∃ W : Nat → Nat → Hp → Prop, (∃ m, W 0 m (upd H1 D (.lst []))) ∧ ∀ k m H, W k m H →
      ((Itr 0 n).stop k H ∧ Qd H) ∨ ((Itr 0 n).go k H ∧ ∃ Nx : Hp → Prop, (∀ H', Nx H' → ∃ m', m' < m ∧ W (k + 1) m' H') ∧ ∀ x H', (Itr 0 n).yld k H x H' → gName i x (wipe σ [i]) H' fun σ2 H2 => wipe σ2 [i] = wipe σ [i] ∧ tYes σ2 H2 fun b H3 =>
        if b = true then te σ2 H3 fun y H4 => ∃ acc, H4 D = some (.lst acc) ∧ acc.length < sizeLine ∧ Nx (upd H4 D (.lst (acc ++ [y]))) else Nx H3) := by
  have nDp : D ≠ p := fun e => hP.neP nD e.symm
  refine lc_it (walk_range (lo := 0) (n := n)) (g := gName i) (fun k H' => Stp p c H1 H' ∧ ∃ (xs : List V) (ts : List Row), H' D = some (.lst xs) ∧ Rws H' xs ts ∧ (∀ r ∈ ts, r.Wf ∧ r.In hs) ∧ ts.length ≤ k)
    ⟨(Stp.refl hP).new hP nD, [], [], upd_same, rws_nil, (fun _ m => nomatch m), Nat.le_refl _⟩ (fun _ _ _ _ => trivial) ?_ ?_
  · rintro k v G1 G2 hk ⟨g1, xs, ts, hD, hr, hw, ln⟩ ⟨rfl, rfl⟩
    refine ⟨wipe_one σ i _, yes_if (hte _ G2 _ g1 fun a r G3 g3 ha w1 w2 => ?_)⟩
    have hD3 := g3.2 D _ nDp hD
    have lx := hr.1
    refine ⟨_, hD3, small_line (by omega), (g1.trans g3).mut hP nD, _, ts ++ [r], upd_same, ?_, fun x m => ?_, by rw [List.length_append, List.length_singleton]; omega⟩
    · refine ((hr.go fun b ys e => g3.tup g1.1 e).snoc ha).go fun b ys e => ?_
      rw [upd_ne (ne_of e hD3 (fun z => nomatch z))]
      exact e
    · rcases List.mem_append.mp m with m | m
      · exact hw x m
      · rw [List.mem_singleton.mp m]
        exact ⟨w1, w2⟩
  · rintro G1 ⟨g1, xs, ts, hD, hr, hw, ln⟩
    exact hd xs ts G1 g1 hD hr hw ln
def sp_law (af : Nat → Addr) (K : PySem.W.Frag) : Sp := fun vs H Q _ => ∃ (a : Addr) (ns : List Int), vs = [.ref a] ∧ SqL K H a (ns.map V.int) ∧ ns.length ≤ 63 ∧ Tbs af H ∧ ∀ H', Q (.bl true) H'
theorem ok_law (T : Txt K mg af fd) (B : TxtB base mg af) : FnOk P w K mg base CX0 10 (af 58) (fd 58) ["script"] (sp_law af K) := by
  refine T.F_law.ok sc_law (fun vs H Q E h => ?_) (fun cdv A outer s H vs Q E hr h => ?_)
  · obtain ⟨a, ns, rfl, _⟩ := h
    rfl
  · obtain ⟨a, ns, rfl, hS, hlen, tb0, q⟩ := h
    refine ⟨_, (pss_cons (ps_set (i := 1) sc_law.nd rfl (by first | exact Or.inl rfl | exact Or.inr rfl) (pe_call (ok_l_open T) (hr.mono (by first | decide | omega)) (by rfl) T.g_l_open T.F_l_open.kp T.b_l_open .nil pass0 (pa_cons (pv 0) pa_nil)))
        (pss_cons (ps_for PassesOwn.never rfl (pi_range1 (by rfl) T.m_range (pa_cons pe_int pa_nil)) (pg_name (i := 2) sc_law.nd rfl (by first | exact Or.inl rfl | exact Or.inr rfl)) (pss_cons (ps_asg (pe_call (ok_l_small_book T) (hr.mono (by first | decide | omega)) (by rfl) T.g_l_small_book T.F_l_small_book.kp T.b_l_small_book .nil pass0 (pa_cons (pe_call (ok_l_anew T) (hr.mono (by first | decide | omega)) (by rfl) T.g_l_anew T.F_l_anew.kp T.b_l_anew .nil pass0 (pa_cons (pv 1) pa_nil)) (pa_cons pe_int (pa_cons pe_int (pa_cons pe_int (pa_cons pe_int pa_nil)))))) (pg_tup rfl (pgs_cons (pg_name (i := 3) sc_law.nd rfl (by first | exact Or.inl rfl | exact Or.inr rfl)) (pgs_cons (pg_name (i := 4) sc_law.nd rfl (by first | exact Or.inl rfl | exact Or.inr rfl)) pgs_nil))))
        (C8.pss_cut (ps_if (pt_cmpR op_eq (pe_call (ok_l_take T) (hr.mono (by first | decide | omega)) (by rfl) T.g_l_take T.F_l_take.kp T.b_l_take .nil pass0 (pa_cons (pv 1) (pa_cons pe_int pa_nil))) pe_int (nomark _)) (pss_one (ps_setLc (i := 4) (own := [("k", 5)]) (g := gName 5) (by rfl) sc_law.nd rfl rfl (sw_true rfl rfl rfl (by decide +kernel)) (pi_range1 (by rfl) T.m_range (pa_cons (pe_call (ok_l_take T) (hr.mono (by first | decide | omega)) (by rfl) T.g_l_take T.F_l_take.kp T.b_l_take .nil pass0 (pa_cons (pv 1) (pa_cons pe_int pa_nil))) pa_nil)) (blkOk_by (own := [("k", 5)]) (N := ["script", "pen", "turn", "town", "rows", "k", "lines", "row", "text", "line", "bent"]) (sc := defScope s_law) (by decide +kernel)) (fun _ _ _ _ _ => pg_name (i := 5) sc_law.nd rfl (Or.inl rfl)) (fun _ _ _ _ _ => pts_nil) (fun _ _ _ _ _ => (pe_call (ok_l_few_row T) (hr.mono (by first | decide | omega)) (by rfl) T.g_l_few_row T.F_l_few_row.kp T.b_l_few_row .nil pass0 (pa_cons (pv 1) (pa_cons (pv 3) pa_nil)))))) pss_nil)
        (pss_cons (ps_set (i := 6) sc_law.nd rfl (by first | exact Or.inl rfl | exact Or.inr rfl) (pe_op op_cat (pe_lst (pa_cons (pe_call (ok_l_town_text T) (hr.mono (by first | decide | omega)) (by rfl) T.g_l_town_text T.F_l_town_text.kp T.b_l_town_text .nil pass0 (pa_cons (pv 3) pa_nil)) pa_nil)) (pe_lc (own := [("row", 7)]) (g := gName 7) (by rfl) sc_law.nd (pi_list (pv 4)) (blkOk_by (own := [("row", 7)]) (N := ["script", "pen", "turn", "town", "rows", "k", "lines", "row", "text", "line", "bent"]) (sc := defScope s_law) (by decide +kernel)) (fun _ _ _ _ _ => pg_name (i := 7) sc_law.nd rfl (Or.inl rfl)) (fun _ _ _ _ _ => pts_nil) (fun _ _ _ _ _ => (pe_call (ok_l_row_text T) (hr.mono (by first | decide | omega)) (by rfl) T.g_l_row_text T.F_l_row_text.kp T.b_l_row_text .nil pass0 (pa_cons (pv 7) pa_nil))))))
        (pss_cons (ps_set (i := 8) sc_law.nd rfl (by first | exact Or.inl rfl | exact Or.inr rfl) (pe_join pe_str (pe_lc (own := [("line", 9)]) (g := gName 9) (by rfl) sc_law.nd (pi_list (pv 6)) (blkOk_by (own := [("line", 9)]) (N := ["script", "pen", "turn", "town", "rows", "k", "lines", "row", "text", "line", "bent"]) (sc := defScope s_law) (by decide +kernel)) (fun _ _ _ _ _ => pg_name (i := 9) sc_law.nd rfl (Or.inl rfl)) (fun _ _ _ _ _ => pts_nil) (fun _ _ _ _ _ => (pe_op op_add_str (pv 9) pe_str)))))
        (pss_cons (ps_if (pt_not (pt_val (pe_call (ok_l_same T) (hr.mono (by first | decide | omega)) (by rfl) T.g_l_same T.F_l_same.kp T.b_l_same .nil pass0 (pa_cons (pe_call (ok_l_told T B) (hr.mono (by first | decide | omega)) (by rfl) T.g_l_told T.F_l_told.kp T.b_l_told .nil pass0 (pa_cons (pv 8) pa_nil)) (pa_cons (pe_call (ok_l_due T) (hr.mono (by first | decide | omega)) (by rfl) T.g_l_due T.F_l_due.kp T.b_l_due .nil pass0 (pa_cons (pv 8) pa_nil)) pa_nil))))) (pss_one (ps_ret pe_bl)) pss_nil)
        (pss_one (ps_for PassesOwn.never rfl (pi_range1 (by rfl) T.m_range (pa_cons pe_int pa_nil)) (pg_name (i := 5) sc_law.nd rfl (by first | exact Or.inl rfl | exact Or.inr rfl)) (pss_cons (ps_set (i := 10) sc_law.nd rfl (by first | exact Or.inl rfl | exact Or.inr rfl) (pe_call (ok_l_bent T) (hr.mono (by first | decide | omega)) (by rfl) T.g_l_bent T.F_l_bent.kp T.b_l_bent .nil pass0 (pa_cons (pv 1) (pa_cons (pv 8) pa_nil))))
        (C8.pss_cut (ps_if (pt_cmpR op_eq (pe_call (ok_l_take T) (hr.mono (by first | decide | omega)) (by rfl) T.g_l_take T.F_l_take.kp T.b_l_take .nil pass0 (pa_cons (pv 1) (pa_cons pe_int pa_nil))) pe_int (nomark _)) (pss_one (ps_set (i := 10) sc_law.nd rfl (by first | exact Or.inl rfl | exact Or.inr rfl) (pe_call (ok_l_bent T) (hr.mono (by first | decide | omega)) (by rfl) T.g_l_bent T.F_l_bent.kp T.b_l_bent .nil pass0 (pa_cons (pv 1) (pa_cons (pv 10) pa_nil))))) pss_nil)
        (pss_one (ps_if (pt_not (pt_val (pe_call (ok_l_same T) (hr.mono (by first | decide | omega)) (by rfl) T.g_l_same T.F_l_same.kp T.b_l_same .nil pass0 (pa_cons (pe_call (ok_l_told T B) (hr.mono (by first | decide | omega)) (by rfl) T.g_l_told T.F_l_told.kp T.b_l_told .nil pass0 (pa_cons (pv 10) pa_nil)) (pa_cons (pe_call (ok_l_due T) (hr.mono (by first | decide | omega)) (by rfl) T.g_l_due T.F_l_due.kp T.b_l_due .nil pass0 (pa_cons (pv 10) pa_nil)) pa_nil))))) (pss_one (ps_ret pe_bl)) pss_nil))))))))))))
        (pss_one (ps_ret (pe_and (pe_cmpR (op_eqD hr.units) (pe_call (ok_l_told T B) (hr.mono (by first | decide | omega)) (by rfl) T.g_l_told T.F_l_told.kp T.b_l_told .nil pass0 (pa_cons pe_str pa_nil)) (pe_lst (pa_cons pe_str (pa_cons pe_int pa_nil))) (nomark _)) (pe_one (pe_cmpR (op_eqD hr.units) (pe_call (ok_l_told T B) (hr.mono (by first | decide | omega)) (by rfl) T.g_l_told T.F_l_told.kp T.b_l_told .nil pass0 (pa_cons pe_str pa_nil)) (pe_lst (pa_cons pe_str (pa_cons pe_int pa_nil))) (nomark _)))))))), ?_⟩
    refine ⟨_, rfl, a, ns, rfl, hS, hlen, fun p c H1 s1 np nc hP => ?_⟩
    refine ⟨5, rfl, by decide, by decide, for_range (lo := 0) (n := 5) (fun i σ H' => (∃ v2 v3 v4 v5 v6 v7 v8 v9 v10 : Option V, σ = [some (.ref a), some (.ref p), v2, v3, v4, v5, v6, v7, v8, v9, v10]) ∧ Pen H' p c ∧ Tbs af H')
      ⟨⟨none, none, none, none, none, none, none, none, none, rfl⟩, hP, tb0.same s1⟩ ?_ ?_⟩
    · rintro i σ H2 hi ⟨⟨v2, v3, v4, v5, v6, v7, v8, v9, v10, rfl⟩, hP2, tb2⟩
      refine ⟨_, rfl, p, c, rfl, hP2, fun H3 s3 => ?_⟩
      refine ⟨p, c, 4, 6, 2, 1, rfl, s3.1, by decide, by decide, by decide, by decide, by decide, by decide, fun b t l hs gs xs rws H4 s4 nl hb ht hg hl hrw Bk len => ?_⟩
      have tb4 := (tb2.stp s3 hP2).stp s4 s3.1
      have h6 : hs.length ≤ 6 := Nat.le_trans hg.few (by decide)
      have h9 : ∀ h ∈ hs, h.length ≤ 9 := fun h m => Nat.le_succ_of_le (hg.hou h m).len
      have l1 := hg.one
      have hg6 : Good hs gs 6 := ⟨hg.one, h6, hg.nd, hg.up, hg.hou, hg.sub⟩
      refine ⟨b, _, rfl, SqT.of hb, rfl, _, _, rfl, _, _, rfl, rfl, ?_⟩
      refine ⟨fun σ G => (∃ (l' : Addr) (v2 v5 v6 v7 v8 v9 v10 : Option V) (ys : List V) (rs : List Row), σ = [some (.ref a), some (.ref p), v2, some (.ref t), some (.ref l'), v5, v6, v7, v8, v9, v10] ∧ G l' = some (.lst ys) ∧ Rws G ys rs ∧ (∀ r ∈ rs, r.Wf ∧ r.In hs) ∧ rs.length ≤ 200) ∧ Pen G p c ∧ Tbs af G ∧ TownAt G t hs gs, ?_, ?_⟩
      · refine ⟨_, rfl, p, c, 3, rfl, s4.1, by decide, by decide, fun z H5 z0 z1 s5 => ?_⟩
        have P5 := s5.1
        have tb5 := tb4.stp s5 s4.1
        have ht5 := s5.town s4.1 ht
        refine ⟨rfl, _, rfl, ite2 (fun e2 => ?_) (fun e2 => ?_)⟩
        · refine ⟨_, rfl, p, c, 6, rfl, P5, by decide, by decide, fun z2 H8 z20 z21 s8 => ⟨_, rfl, by omega, by omega, fun D nD => ?_⟩⟩
          have ht8 := s8.town P5 ht5
          refine lc_drawn (hs := hs) (n := z2.toNat) (by omega) s8.1 nD (fun v G1 Ke g1 hk => ?_) (fun zs us H9 s9 hD9 hr9 hw9 ln9 => ?_)
          · refine ⟨_, rfl, _, rfl, p, c, t, hs, gs, rfl, g1.1, g1.town s8.1 ht8, l1, h6, fun r ys G3 g3 nr hr3 rv => ?_⟩
            obtain ⟨rr, rfl, w1, w2⟩ := rv.row hg.hou
            exact hk r rr G3 g3 hr3 w1 w2
          · exact ⟨⟨D, _, _, _, _, _, _, _, zs, us, rfl, hD9, hr9, hw9, by omega⟩, s9.1, (tb5.stp s8 P5).stp s9 s8.1, s9.town s8.1 ht8⟩
        · have nlp : l ≠ p := fun e => s3.1.neP nl e.symm
          exact ⟨⟨l, _, _, _, _, _, _, _, xs, rws, rfl, s5.2 l _ nlp hl, hrw.go fun b ys e => s5.tup s4.1 e, fun r m => ⟨Bk.wf r m, Bk.inn r m⟩, len⟩, P5, tb5, ht5⟩
      · rintro σ G ⟨⟨l', v2, v5, v6, v7, v8, v9, v10, ys, rs, rfl, hl', hrs, wi, rlen⟩, PG, tbG, htG⟩
        have pr : ∀ r ∈ rs, ∀ v ∈ r.vals, PrtOk v := fun r m => row_prts (wi r m).1 (wi r m).2 h9
        have hxl := hrs.1
        refine ⟨_, rfl, t, hs, gs, rfl, htG, h6, h9, fun H4 s4 => ⟨(by show 1 ≤ sizeLine; decide), fun p1 n1 => ?_⟩⟩
        have s5 : Same H4 (upd H4 p1 (.lst [.str (townS hs gs)])) := same_upd n1
        have h5 : (upd H4 p1 (.lst [.str (townS hs gs)])) p1 = some (.lst [.str (townS hs gs)]) := upd_same
        generalize upd H4 p1 (.lst [.str (townS hs gs)]) = H5 at s5 h5 ⊢
        have s35 := s4.trans s5
        have hl5 := s35 _ _ hl'
        refine ⟨_, rfl, l', rfl, ⟨_, SqL.of hl5⟩, fun D nD => ?_⟩
        refine lc_rowS (walk_list (K := K) (a := l') (xs := ys)) nD (fun H' s => SqL.of (s _ _ hl5)) (hrs.same s35) (by omega) (fun b r H5 Ke mr hb hk => ⟨_, rfl, b, r, rfl, hb, pr r mr, hk⟩) (fun H6 s6 hD => ?_)
        refine ⟨p1, D, _, _, rfl, rfl, s6 _ _ h5, hD, (by rw [List.length_map, List.length_map]; exact Nat.le_of_lt (small_line (show 1 + rs.length ≤ 5000 by omega))), fun p7 n7 => ?_⟩
        have s7 : Same H6 (upd H6 p7 (.lst ([.str (townS hs gs)] ++ (rs.map rowS).map V.str))) := same_upd n7
        have h7 : (upd H6 p7 (.lst ([.str (townS hs gs)] ++ (rs.map rowS).map V.str))) p7 = some (.lst ((townS hs gs :: rs.map rowS).map V.str)) := upd_same
        generalize upd H6 p7 (.lst ([.str (townS hs gs)] ++ (rs.map rowS).map V.str)) = H7 at s7 h7 ⊢
        have tx : ∀ x ∈ townS hs gs :: rs.map rowS, x.length ≤ 800 := fun x m => by
          rcases List.mem_cons.mp m with rfl | m
          · exact townS_len h6 h9
          · obtain ⟨r, mr, rfl⟩ := List.mem_map.mp m
            exact rowS_len (pr r mr)
        have s37 := (s35.trans s6).trans s7
        refine ⟨⟨_, rfl⟩, _, rfl, p7, rfl, ⟨_, SqL.of h7⟩, fun D8 nD8 => ?_⟩
        refine lc_strs (walk_list (K := K) (a := p7) (xs := (townS hs gs :: rs.map rowS).map V.str)) (fun v => lineS (vS v)) nD8 (fun H' s => SqL.of (s _ _ h7)) (by rw [List.length_map, List.length_cons, List.length_map]; omega) (fun v H7 Ke mv s7 hk => ?_) (fun H8 s8 hD8 => ?_)
        · obtain ⟨x, mx, rfl⟩ := List.mem_map.mp mv
          refine ⟨_, rfl, _, _, rfl, rfl, ?_, hk _ (Same.refl _)⟩
          rw [show (Str.ofString "\n").length = 1 by decide +kernel]
          exact Nat.le_trans (show _ ≤ 801 by have := tx x mx; omega) (by decide)
        rw [show (((townS hs gs :: rs.map rowS).map V.str).map fun v => lineS (vS v)) = (townS hs gs :: rs.map rowS).map lineS by rw [List.map_map]; rfl] at hD8
        refine ⟨"", D8, (townS hs gs :: rs.map rowS).map lineS, rfl, rfl, .inl (SqL.of hD8), ?_, ?_⟩
        · have h1 : (((townS hs gs :: rs.map rowS).map lineS).map (·.length)).sum ≤ ((townS hs gs :: rs.map rowS).map lineS).length * 801 := sum_le fun x m => by
            obtain ⟨y, my, rfl⟩ := List.mem_map.mp m
            unfold lineS
            rw [str_app_len, show (Str.ofString "\n").length = 1 by decide +kernel]
            have := tx y my
            omega
          rw [List.length_map, List.length_cons, List.length_map] at h1 ⊢
          rw [show (Str.ofString "").length = 0 by decide +kernel]
          omega
        have ss := s37.trans s8
        have P8 := PG.sm ss
        have tb8 := tbG.same ss
        have tl : TL 162000 6 203 (bookS hs gs rs).cps.toList := book_tl hg6 (fun r m => (wi r m).1) (fun r m => (wi r m).2) rlen
        show _
        have ex : Txt.join (Str.ofString "") ((townS hs gs :: rs.map rowS).map lineS) = bookS hs gs rs := rfl
        rw [ex]
        generalize bookS hs gs rs = x at tl ⊢
        obtain ⟨fx, fw⟩ := tl_fit tl (by decide) (by decide) (by decide)
        refine ⟨_, rfl, x, rfl, fx, tb8, fun p1 d1 G1 g1 dq1 o1 => ⟨_, rfl, x, rfl, fx, fw, fun p2 d2 G2 g2 dq2 o2 => ⟨fun _ => False, fun _ => False, .ref p1, .ref p2, d1, rfl, dq1.same g2, (o1.one o2) ▸ dq2, o1.depth, fun G3 g3 => ⟨true, rfl, iteF ?_⟩⟩⟩⟩
        have P3 := ((P8.smm g1).sm g2).sm g3
        have t3 := ((tb8.sm g1).same g2).same g3
        refine ⟨3, rfl, by decide, by decide, for_range (lo := 0) (n := 3) (fun i σ G => (∃ v2 v3 v4 v5 v6 v7 v9 v10 : Option V, σ = [some (.ref a), some (.ref p), v2, v3, v4, v5, v6, v7, some (.str x), v9, v10]) ∧ Pen G p c ∧ Tbs af G)
          ⟨⟨_, _, _, _, _, _, _, _, rfl⟩, P3, t3⟩ ?_ ?_⟩
        · rintro j σ G4 hj ⟨⟨v2, v3, v4, v5, v6, v7, v9, v10, rfl⟩, P4, t4⟩
          refine ⟨_, rfl, _, rfl, p, c, x, _, _, _, rfl, P4, tl, by decide, by decide, fun y G5 s5 tly => ?_⟩
          have t5 := t4.stp s5 P4
          refine ⟨fun σ G => (∃ (v2 v3 v4 v5 v6 v7 v9 : Option V) (y : Str), σ = [some (.ref a), some (.ref p), v2, v3, v4, v5, v6, v7, some (.str x), v9, some (.str y)] ∧ TL 700000 59 899 y.cps.toList) ∧ Pen G p c ∧ Tbs af G, ?_, ?_⟩
          · refine ⟨_, rfl, p, c, 4, rfl, s5.1, by decide, by decide, fun z G6 z0 z1 s6 => ⟨rfl, _, rfl, ite2 (fun e2 => ?_) (fun e2 => ?_)⟩⟩
            · exact ⟨_, rfl, _, rfl, p, c, y, _, _, _, rfl, s6.1, tly, by decide, by decide, fun y2 G7 s7 tl2 => ⟨⟨_, _, _, _, _, _, _, y2, rfl, tl2.mono (by decide) (by decide) (by decide)⟩, s7.1, (t5.stp s6 s5.1).stp s7 s6.1⟩⟩
            · exact ⟨⟨_, _, _, _, _, _, _, y, rfl, tly.mono (by decide) (by decide) (by decide)⟩, s6.1, t5.stp s6 s5.1⟩
          · rintro σ G6 ⟨⟨v2, v3, v4, v5, v6, v7, v9, y, rfl, tly⟩, P6, t6⟩
            obtain ⟨fy, fwy⟩ := tl_fit tly (by decide) (by decide) (by decide)
            refine ⟨_, rfl, y, rfl, fy, t6, fun p1 d1 G1 g1 dq1 o1 => ⟨_, rfl, y, rfl, fy, fwy, fun p2 d2 G2 g2 dq2 o2 => ⟨fun _ => False, fun _ => False, .ref p1, .ref p2, d1, rfl, dq1.same g2, (o1.one o2) ▸ dq2, o1.depth, fun G3 g3 => ⟨true, rfl, iteF ?_⟩⟩⟩⟩
            exact ⟨⟨_, _, _, _, _, _, _, _, rfl⟩, ((P6.smm g1).sm g2).sm g3, ((t6.sm g1).same g2).same g3⟩
        · rintro σ G4 ⟨⟨v2, v3, v4, v5, v6, v7, v9, v10, rfl⟩, P4, t4⟩
          exact ⟨⟨_, _, _, _, _, _, _, _, _, rfl⟩, P4, t4⟩
    · rintro σ H2 ⟨⟨v2, v3, v4, v5, v6, v7, v8, v9, v10, rfl⟩, hP2, tb2⟩
      have fit0 : Fit "" := ⟨by decide +kernel, by decide +kernel, by decide +kernel⟩
      have fit1 : Fit "\n" := ⟨by decide +kernel, by decide +kernel, by decide +kernel⟩
      have o0 : Out "" (.list [.str "text", .int 0]) := .inl ⟨"", by decide +kernel, rfl⟩
      have no : ¬ TownD (townL "") := fun ⟨hs', gs', e, hh, _⟩ => by
        obtain ⟨e8, _⟩ := List.cons.inj (PyData.tuple.inj e)
        have e9 := strs_inj (PyData.tuple.inj e8)
        rw [show hsOf "" = [("" : Str)] by decide +kernel] at e9
        exact absurd (low_house (hh "" (by rw [← e9]; exact List.mem_cons_self))).1 (by decide +kernel)
      have o9 : Out "\n" (.list [.str "text", .int 0]) := .inr ⟨"", [], "", by decide +kernel, .town no⟩
      have shp : SeqAt.shaped (.list [.str "text", .int 0]) = true := by decide +kernel
      have lay : PyData.canLay0 (.list [.str "text", .int 0]) = true := by decide +kernel
      refine ⟨"", rfl, fit0, tb2, fun p1 d1 G1 g1 dq1 o1 => ?_⟩
      obtain rfl := o1.one o0
      refine ⟨(by show 2 ≤ sizeLine; decide), fun l nl => ?_⟩
      have sl := same_upd (o := .lst [.str "text", .int 0]) nl
      refine ⟨.list [.str "text", .int 0], .list [.str "text", .int 0], (dq1.same sl).dp, (Dq.lst (Ex := fun _ => False) (fun z => z) upd_same (.cons (.str _) (.cons (.int _) .nil))).dp, shp, shp, ?_⟩
      rw [PySem.SeqAt.eqv_refl _ lay]
      have t1 := (tb2.sm g1).same sl
      refine ⟨true, rfl, iteT ⟨"\n", rfl, fit1, t1, fun p2 d2 G2 g2 dq2 o2 => ?_⟩⟩
      obtain rfl := o2.one o9
      refine ⟨(by show 2 ≤ sizeLine; decide), fun l2 nl2 => ?_⟩
      have sl2 := same_upd (o := .lst [.str "text", .int 0]) nl2
      refine ⟨.list [.str "text", .int 0], .list [.str "text", .int 0], (dq2.same sl2).dp, (Dq.lst (Ex := fun _ => False) (fun z => z) upd_same (.cons (.str _) (.cons (.int _) .nil))).dp, shp, shp, ?_⟩
      rw [PySem.SeqAt.eqv_refl _ lay]
      exact q _
end
theorem all_mk {l : PySem.W.OpenLaw} {q : Program} {w : World} {K : PySem.W.Frag} {h : Heap} {mg : Str → Option Value} {fa : Addr} (X : K.In h) (G : h.Ns mainGlobals mg) (hfa : mg "law" = some (.ref fa))
    {f0 f1 f2 f3 f4 f5 f6 f7 f8 f9 f10 f11 f12 f13 f14 f15 f16 f17 f18 f19 f20 f21 f22 f23 f24 f25 f26 f27 f28 f29 f30 f31 f32 f33 f34 f35 f36 f37 f38 f39 f40 f41 f42 f43 f44 f45 f46 f47 f48 f49 f50 f51 f52 f53 f54 f55 f56 f57 f58 : Addr}
    {od0 an0 od1 an1 od2 an2 od3 an3 od4 an4 od5 an5 od6 an6 od7 an7 od8 an8 od9 an9 od10 an10 od11 an11 od12 an12 od13 an13 od14 an14 od15 an15 od16 an16 od17 an17 od18 an18 od19 an19 od20 an20 od21 an21 od22 an22 od23 an23 od24 an24 od25 an25 od26 an26 od27 an27 od28 an28 od29 an29 od30 an30 od31 an31 od32 an32 od33 an33 od34 an34 od35 an35 od36 an36 od37 an37 od38 an38 od39 an39 od40 an40 od41 an41 od42 an42 od43 an43 od44 an44 od45 an45 od46 an46 od47 an47 od48 an48 od49 an49 od50 an50 od51 an51 od52 an52 od53 an53 od54 an54 od55 an55 od56 an56 od57 an57 od58 an58 : Option Addr} {sl0 sl1 sl2 sl3 sl4 sl5 sl6 sl7 sl8 sl9 sl10 sl11 sl12 sl13 sl14 sl15 sl16 sl17 sl18 sl19 sl20 sl21 sl22 sl23 sl24 sl25 sl26 sl27 sl28 sl29 sl30 sl31 sl32 sl33 sl34 sl35 sl36 sl37 sl38 sl39 sl40 sl41 sl42 sl43 sl44 sl45 sl46 sl47 sl48 sl49 sl50 sl51 sl52 sl53 sl54 sl55 sl56 sl57 sl58 : Array (Option Value)} {oc0 kV0 dc0 pm0 ct0 cd0 oc1 kV1 dc1 pm1 ct1 cd1 oc2 kV2 dc2 pm2 ct2 cd2 oc3 kV3 dc3 pm3 ct3 cd3 oc4 kV4 dc4 pm4 ct4 oc5 kV5 dc5 pm5 ct5 oc6 kV6 dc6 pm6 ct6 oc7 kV7 dc7 pm7 ct7 oc8 kV8 dc8 pm8 ct8 cd8 oc9 kV9 dc9 pm9 ct9 cd9 oc10 kV10 dc10 pm10 ct10 cd10 oc11 kV11 dc11 pm11 ct11 cd11 oc12 kV12 dc12 pm12 ct12 cd12 oc13 kV13 dc13 pm13 ct13 cd13 oc14 kV14 dc14 pm14 ct14 cd14 oc15 kV15 dc15 pm15 ct15 cd15 oc16 kV16 dc16 pm16 ct16 cd16 oc17 kV17 dc17 pm17 ct17 cd17 oc18 kV18 dc18 pm18 ct18 cd18 oc19 kV19 dc19 pm19 ct19 cd19 oc20 kV20 dc20 pm20 ct20 cd20 oc21 kV21 dc21 pm21 ct21 cd21 oc22 kV22 dc22 pm22 ct22 oc23 kV23 dc23 pm23 ct23 cd23 oc24 kV24 dc24 pm24 ct24 cd24 oc25 kV25 dc25 pm25 ct25 cd25 oc26 kV26 dc26 pm26 ct26 cd26 oc27 kV27 dc27 pm27 ct27 cd27 oc28 kV28 dc28 pm28 ct28 cd28 oc29 kV29 dc29 pm29 ct29 cd29 oc30 kV30 dc30 pm30 ct30 cd30 oc31 kV31 dc31 pm31 ct31 cd31 oc32 kV32 dc32 pm32 ct32 cd32 oc33 kV33 dc33 pm33 ct33 cd33 oc34 kV34 dc34 pm34 ct34 cd34 oc35 kV35 dc35 pm35 ct35 cd35 oc36 kV36 dc36 pm36 ct36 cd36 oc37 kV37 dc37 pm37 ct37 cd37 oc38 kV38 dc38 pm38 ct38 cd38 oc39 kV39 dc39 pm39 ct39 cd39 oc40 kV40 dc40 pm40 ct40 cd40 oc41 kV41 dc41 pm41 ct41 cd41 oc42 kV42 dc42 pm42 ct42 cd42 oc43 kV43 dc43 pm43 ct43 cd43 oc44 kV44 dc44 pm44 ct44 cd44 oc45 kV45 dc45 pm45 ct45 cd45 oc46 kV46 dc46 pm46 ct46 cd46 oc47 kV47 dc47 pm47 ct47 cd47 oc48 kV48 dc48 pm48 ct48 cd48 oc49 kV49 dc49 pm49 ct49 cd49 oc50 kV50 dc50 pm50 ct50 cd50 oc51 kV51 dc51 pm51 ct51 cd51 oc52 kV52 dc52 pm52 ct52 cd52 oc53 kV53 dc53 pm53 ct53 cd53 oc54 kV54 dc54 pm54 ct54 cd54 oc55 kV55 dc55 pm55 ct55 cd55 oc56 kV56 dc56 pm56 ct56 cd56 oc57 kV57 dc57 pm57 ct57 cd57 oc58 kV58 dc58 pm58 ct58 cd58 : Value}
    (a0 : PySem.W.nsIn K mainGlobals "is_whole_from" = some (some (.ref f0))) (l0 : K.lookup f0 = some ⟨oc0, od0, .func (PySem.W.fnOf "is_whole_from" "is_whole_from" (defArgs s_is_whole_from) (defBody s_is_whole_from) (defScope s_is_whole_from) .none kV0 dc0 pm0 an0 cd0 ct0), sl0⟩) (c0 : PySem.W.codeIn K cd0 "is_whole_from" = true) (k0 : PySem.W.keepIn K (.ref f0) = true)
    (a1 : PySem.W.nsIn K mainGlobals "is_time" = some (some (.ref f1))) (l1 : K.lookup f1 = some ⟨oc1, od1, .func (PySem.W.fnOf "is_time" "is_time" (defArgs s_is_time) (defBody s_is_time) (defScope s_is_time) .none kV1 dc1 pm1 an1 cd1 ct1), sl1⟩) (c1 : PySem.W.codeIn K cd1 "is_time" = true) (k1 : PySem.W.keepIn K (.ref f1) = true)
    (a2 : PySem.W.nsIn K mainGlobals "is_number" = some (some (.ref f2))) (l2 : K.lookup f2 = some ⟨oc2, od2, .func (PySem.W.fnOf "is_number" "is_number" (defArgs s_is_number) (defBody s_is_number) (defScope s_is_number) .none kV2 dc2 pm2 an2 cd2 ct2), sl2⟩) (c2 : PySem.W.codeIn K cd2 "is_number" = true) (k2 : PySem.W.keepIn K (.ref f2) = true)
    (a3 : PySem.W.nsIn K mainGlobals "is_count" = some (some (.ref f3))) (l3 : K.lookup f3 = some ⟨oc3, od3, .func (PySem.W.fnOf "is_count" "is_count" (defArgs s_is_count) (defBody s_is_count) (defScope s_is_count) .none kV3 dc3 pm3 an3 cd3 ct3), sl3⟩) (c3 : PySem.W.codeIn K cd3 "is_count" = true) (k3 : PySem.W.keepIn K (.ref f3) = true)
    {cc4 tt4 : Addr}
    (a4 : PySem.W.nsIn K mainGlobals "is_house" = some (some (.ref f4))) (l4 : K.lookup f4 = some ⟨oc4, od4, .func (PySem.W.fnOf "is_house" "is_house" (defArgs s_is_house) (defBody s_is_house) (defScope s_is_house) .none kV4 dc4 pm4 an4 (.ref cc4) ct4), sl4⟩) (c4 : PySem.W.codeIn K (.ref cc4) "is_house" = true) (k4 : PySem.W.keepIn K (.ref f4) = true)
    {cc5 tt5 : Addr}
    (a5 : PySem.W.nsIn K mainGlobals "is_rising" = some (some (.ref f5))) (l5 : K.lookup f5 = some ⟨oc5, od5, .func (PySem.W.fnOf "is_rising" "is_rising" (defArgs s_is_rising) (defBody s_is_rising) (defScope s_is_rising) .none kV5 dc5 pm5 an5 (.ref cc5) ct5), sl5⟩) (c5 : PySem.W.codeIn K (.ref cc5) "is_rising" = true) (k5 : PySem.W.keepIn K (.ref f5) = true)
    {cc6 tt6 : Addr}
    (a6 : PySem.W.nsIn K mainGlobals "are_rising_houses" = some (some (.ref f6))) (l6 : K.lookup f6 = some ⟨oc6, od6, .func (PySem.W.fnOf "are_rising_houses" "are_rising_houses" (defArgs s_are_rising_houses) (defBody s_are_rising_houses) (defScope s_are_rising_houses) .none kV6 dc6 pm6 an6 (.ref cc6) ct6), sl6⟩) (c6 : PySem.W.codeIn K (.ref cc6) "are_rising_houses" = true) (k6 : PySem.W.keepIn K (.ref f6) = true)
    {cc7 tt7 : Addr}
    (a7 : PySem.W.nsIn K mainGlobals "is_town" = some (some (.ref f7))) (l7 : K.lookup f7 = some ⟨oc7, od7, .func (PySem.W.fnOf "is_town" "is_town" (defArgs s_is_town) (defBody s_is_town) (defScope s_is_town) .none kV7 dc7 pm7 an7 (.ref cc7) ct7), sl7⟩) (c7 : PySem.W.codeIn K (.ref cc7) "is_town" = true) (k7 : PySem.W.keepIn K (.ref f7) = true)
    (a8 : PySem.W.nsIn K mainGlobals "is_span" = some (some (.ref f8))) (l8 : K.lookup f8 = some ⟨oc8, od8, .func (PySem.W.fnOf "is_span" "is_span" (defArgs s_is_span) (defBody s_is_span) (defScope s_is_span) .none kV8 dc8 pm8 an8 cd8 ct8), sl8⟩) (c8 : PySem.W.codeIn K cd8 "is_span" = true) (k8 : PySem.W.keepIn K (.ref f8) = true)
    (a9 : PySem.W.nsIn K mainGlobals "is_ask_row" = some (some (.ref f9))) (l9 : K.lookup f9 = some ⟨oc9, od9, .func (PySem.W.fnOf "is_ask_row" "is_ask_row" (defArgs s_is_ask_row) (defBody s_is_ask_row) (defScope s_is_ask_row) .none kV9 dc9 pm9 an9 cd9 ct9), sl9⟩) (c9 : PySem.W.codeIn K cd9 "is_ask_row" = true) (k9 : PySem.W.keepIn K (.ref f9) = true)
    (a10 : PySem.W.nsIn K mainGlobals "is_job_row" = some (some (.ref f10))) (l10 : K.lookup f10 = some ⟨oc10, od10, .func (PySem.W.fnOf "is_job_row" "is_job_row" (defArgs s_is_job_row) (defBody s_is_job_row) (defScope s_is_job_row) .none kV10 dc10 pm10 an10 cd10 ct10), sl10⟩) (c10 : PySem.W.codeIn K cd10 "is_job_row" = true) (k10 : PySem.W.keepIn K (.ref f10) = true)
    (a11 : PySem.W.nsIn K mainGlobals "is_all_row" = some (some (.ref f11))) (l11 : K.lookup f11 = some ⟨oc11, od11, .func (PySem.W.fnOf "is_all_row" "is_all_row" (defArgs s_is_all_row) (defBody s_is_all_row) (defScope s_is_all_row) .none kV11 dc11 pm11 an11 cd11 ct11), sl11⟩) (c11 : PySem.W.codeIn K cd11 "is_all_row" = true) (k11 : PySem.W.keepIn K (.ref f11) = true)
    (a12 : PySem.W.nsIn K mainGlobals "is_row" = some (some (.ref f12))) (l12 : K.lookup f12 = some ⟨oc12, od12, .func (PySem.W.fnOf "is_row" "is_row" (defArgs s_is_row) (defBody s_is_row) (defScope s_is_row) .none kV12 dc12 pm12 an12 cd12 ct12), sl12⟩) (c12 : PySem.W.codeIn K cd12 "is_row" = true) (k12 : PySem.W.keepIn K (.ref f12) = true)
    (a13 : PySem.W.nsIn K mainGlobals "is_out_of_order" = some (some (.ref f13))) (l13 : K.lookup f13 = some ⟨oc13, od13, .func (PySem.W.fnOf "is_out_of_order" "is_out_of_order" (defArgs s_is_out_of_order) (defBody s_is_out_of_order) (defScope s_is_out_of_order) .none kV13 dc13 pm13 an13 cd13 ct13), sl13⟩) (c13 : PySem.W.codeIn K cd13 "is_out_of_order" = true) (k13 : PySem.W.keepIn K (.ref f13) = true)
    (a14 : PySem.W.nsIn K mainGlobals "do_asks_clash" = some (some (.ref f14))) (l14 : K.lookup f14 = some ⟨oc14, od14, .func (PySem.W.fnOf "do_asks_clash" "do_asks_clash" (defArgs s_do_asks_clash) (defBody s_do_asks_clash) (defScope s_do_asks_clash) .none kV14 dc14 pm14 an14 cd14 ct14), sl14⟩) (c14 : PySem.W.codeIn K cd14 "do_asks_clash" = true) (k14 : PySem.W.keepIn K (.ref f14) = true)
    (a15 : PySem.W.nsIn K mainGlobals "do_jobs_clash" = some (some (.ref f15))) (l15 : K.lookup f15 = some ⟨oc15, od15, .func (PySem.W.fnOf "do_jobs_clash" "do_jobs_clash" (defArgs s_do_jobs_clash) (defBody s_do_jobs_clash) (defScope s_do_jobs_clash) .none kV15 dc15 pm15 an15 cd15 ct15), sl15⟩) (c15 : PySem.W.codeIn K cd15 "do_jobs_clash" = true) (k15 : PySem.W.keepIn K (.ref f15) = true)
    (a16 : PySem.W.nsIn K mainGlobals "do_job_and_ask_clash" = some (some (.ref f16))) (l16 : K.lookup f16 = some ⟨oc16, od16, .func (PySem.W.fnOf "do_job_and_ask_clash" "do_job_and_ask_clash" (defArgs s_do_job_and_ask_clash) (defBody s_do_job_and_ask_clash) (defScope s_do_job_and_ask_clash) .none kV16 dc16 pm16 an16 cd16 ct16), sl16⟩) (c16 : PySem.W.codeIn K cd16 "do_job_and_ask_clash" = true) (k16 : PySem.W.keepIn K (.ref f16) = true)
    (a17 : PySem.W.nsIn K mainGlobals "does_all_row_clash" = some (some (.ref f17))) (l17 : K.lookup f17 = some ⟨oc17, od17, .func (PySem.W.fnOf "does_all_row_clash" "does_all_row_clash" (defArgs s_does_all_row_clash) (defBody s_does_all_row_clash) (defScope s_does_all_row_clash) .none kV17 dc17 pm17 an17 cd17 ct17), sl17⟩) (c17 : PySem.W.codeIn K cd17 "does_all_row_clash" = true) (k17 : PySem.W.keepIn K (.ref f17) = true)
    (a18 : PySem.W.nsIn K mainGlobals "do_alike_sorts_clash" = some (some (.ref f18))) (l18 : K.lookup f18 = some ⟨oc18, od18, .func (PySem.W.fnOf "do_alike_sorts_clash" "do_alike_sorts_clash" (defArgs s_do_alike_sorts_clash) (defBody s_do_alike_sorts_clash) (defScope s_do_alike_sorts_clash) .none kV18 dc18 pm18 an18 cd18 ct18), sl18⟩) (c18 : PySem.W.codeIn K cd18 "do_alike_sorts_clash" = true) (k18 : PySem.W.keepIn K (.ref f18) = true)
    (a19 : PySem.W.nsIn K mainGlobals "do_clash" = some (some (.ref f19))) (l19 : K.lookup f19 = some ⟨oc19, od19, .func (PySem.W.fnOf "do_clash" "do_clash" (defArgs s_do_clash) (defBody s_do_clash) (defScope s_do_clash) .none kV19 dc19 pm19 an19 cd19 ct19), sl19⟩) (c19 : PySem.W.codeIn K cd19 "do_clash" = true) (k19 : PySem.W.keepIn K (.ref f19) = true)
    (a20 : PySem.W.nsIn K mainGlobals "need_rows" = some (some (.ref f20))) (l20 : K.lookup f20 = some ⟨oc20, od20, .func (PySem.W.fnOf "need_rows" "need_rows" (defArgs s_need_rows) (defBody s_need_rows) (defScope s_need_rows) .none kV20 dc20 pm20 an20 cd20 ct20), sl20⟩) (c20 : PySem.W.codeIn K cd20 "need_rows" = true) (k20 : PySem.W.keepIn K (.ref f20) = true)
    (a21 : PySem.W.nsIn K mainGlobals "need_book" = some (some (.ref f21))) (l21 : K.lookup f21 = some ⟨oc21, od21, .func (PySem.W.fnOf "need_book" "need_book" (defArgs s_need_book) (defBody s_need_book) (defScope s_need_book) .none kV21 dc21 pm21 an21 cd21 ct21), sl21⟩) (c21 : PySem.W.codeIn K cd21 "need_book" = true) (k21 : PySem.W.keepIn K (.ref f21) = true)
    {cc22 tt22 : Addr}
    (a22 : PySem.W.nsIn K mainGlobals "read_number" = some (some (.ref f22))) (l22 : K.lookup f22 = some ⟨oc22, od22, .func (PySem.W.fnOf "read_number" "read_number" (defArgs s_read_number) (defBody s_read_number) (defScope s_read_number) .none kV22 dc22 pm22 an22 (.ref cc22) ct22), sl22⟩) (c22 : PySem.W.codeIn K (.ref cc22) "read_number" = true) (k22 : PySem.W.keepIn K (.ref f22) = true)
    (a23 : PySem.W.nsIn K mainGlobals "read_thing" = some (some (.ref f23))) (l23 : K.lookup f23 = some ⟨oc23, od23, .func (PySem.W.fnOf "read_thing" "read_thing" (defArgs s_read_thing) (defBody s_read_thing) (defScope s_read_thing) .none kV23 dc23 pm23 an23 cd23 ct23), sl23⟩) (c23 : PySem.W.codeIn K cd23 "read_thing" = true) (k23 : PySem.W.keepIn K (.ref f23) = true)
    (a24 : PySem.W.nsIn K mainGlobals "read_row" = some (some (.ref f24))) (l24 : K.lookup f24 = some ⟨oc24, od24, .func (PySem.W.fnOf "read_row" "read_row" (defArgs s_read_row) (defBody s_read_row) (defScope s_read_row) .none kV24 dc24 pm24 an24 cd24 ct24), sl24⟩) (c24 : PySem.W.codeIn K cd24 "read_row" = true) (k24 : PySem.W.keepIn K (.ref f24) = true)
    (a25 : PySem.W.nsIn K mainGlobals "read_town" = some (some (.ref f25))) (l25 : K.lookup f25 = some ⟨oc25, od25, .func (PySem.W.fnOf "read_town" "read_town" (defArgs s_read_town) (defBody s_read_town) (defScope s_read_town) .none kV25 dc25 pm25 an25 cd25 ct25), sl25⟩) (c25 : PySem.W.codeIn K cd25 "read_town" = true) (k25 : PySem.W.keepIn K (.ref f25) = true)
    (a26 : PySem.W.nsIn K mainGlobals "read_book" = some (some (.ref f26))) (l26 : K.lookup f26 = some ⟨oc26, od26, .func (PySem.W.fnOf "read_book" "read_book" (defArgs s_read_book) (defBody s_read_book) (defScope s_read_book) .none kV26 dc26 pm26 an26 cd26 ct26), sl26⟩) (c26 : PySem.W.codeIn K cd26 "read_book" = true) (k26 : PySem.W.keepIn K (.ref f26) = true)
    (a27 : PySem.W.nsIn K mainGlobals "_law_spread" = some (some (.ref f27))) (l27 : K.lookup f27 = some ⟨oc27, od27, .func (PySem.W.fnOf "_law_spread" "_law_spread" (defArgs s_l_spread) (defBody s_l_spread) (defScope s_l_spread) .none kV27 dc27 pm27 an27 cd27 ct27), sl27⟩) (c27 : PySem.W.codeIn K cd27 "_law_spread" = true) (k27 : PySem.W.keepIn K (.ref f27) = true)
    (a28 : PySem.W.nsIn K mainGlobals "_law_open" = some (some (.ref f28))) (l28 : K.lookup f28 = some ⟨oc28, od28, .func (PySem.W.fnOf "_law_open" "_law_open" (defArgs s_l_open) (defBody s_l_open) (defScope s_l_open) .none kV28 dc28 pm28 an28 cd28 ct28), sl28⟩) (c28 : PySem.W.codeIn K cd28 "_law_open" = true) (k28 : PySem.W.keepIn K (.ref f28) = true)
    (a29 : PySem.W.nsIn K mainGlobals "_law_anew" = some (some (.ref f29))) (l29 : K.lookup f29 = some ⟨oc29, od29, .func (PySem.W.fnOf "_law_anew" "_law_anew" (defArgs s_l_anew) (defBody s_l_anew) (defScope s_l_anew) .none kV29 dc29 pm29 an29 cd29 ct29), sl29⟩) (c29 : PySem.W.codeIn K cd29 "_law_anew" = true) (k29 : PySem.W.keepIn K (.ref f29) = true)
    (a30 : PySem.W.nsIn K mainGlobals "_law_take" = some (some (.ref f30))) (l30 : K.lookup f30 = some ⟨oc30, od30, .func (PySem.W.fnOf "_law_take" "_law_take" (defArgs s_l_take) (defBody s_l_take) (defScope s_l_take) .none kV30 dc30 pm30 an30 cd30 ct30), sl30⟩) (c30 : PySem.W.codeIn K cd30 "_law_take" = true) (k30 : PySem.W.keepIn K (.ref f30) = true)
    (a31 : PySem.W.nsIn K mainGlobals "_law_names" = some (some (.ref f31))) (l31 : K.lookup f31 = some ⟨oc31, od31, .func (PySem.W.fnOf "_law_names" "_law_names" (defArgs s_l_names) (defBody s_l_names) (defScope s_l_names) .none kV31 dc31 pm31 an31 cd31 ct31), sl31⟩) (c31 : PySem.W.codeIn K cd31 "_law_names" = true) (k31 : PySem.W.keepIn K (.ref f31) = true)
    (a32 : PySem.W.nsIn K mainGlobals "_law_town" = some (some (.ref f32))) (l32 : K.lookup f32 = some ⟨oc32, od32, .func (PySem.W.fnOf "_law_town" "_law_town" (defArgs s_l_town) (defBody s_l_town) (defScope s_l_town) .none kV32 dc32 pm32 an32 cd32 ct32), sl32⟩) (c32 : PySem.W.codeIn K cd32 "_law_town" = true) (k32 : PySem.W.keepIn K (.ref f32) = true)
    (a33 : PySem.W.nsIn K mainGlobals "_law_room" = some (some (.ref f33))) (l33 : K.lookup f33 = some ⟨oc33, od33, .func (PySem.W.fnOf "_law_room" "_law_room" (defArgs s_l_room) (defBody s_l_room) (defScope s_l_room) .none kV33 dc33 pm33 an33 cd33 ct33), sl33⟩) (c33 : PySem.W.codeIn K cd33 "_law_room" = true) (k33 : PySem.W.keepIn K (.ref f33) = true)
    (a34 : PySem.W.nsIn K mainGlobals "_law_job" = some (some (.ref f34))) (l34 : K.lookup f34 = some ⟨oc34, od34, .func (PySem.W.fnOf "_law_job" "_law_job" (defArgs s_l_job) (defBody s_l_job) (defScope s_l_job) .none kV34 dc34 pm34 an34 cd34 ct34), sl34⟩) (c34 : PySem.W.codeIn K cd34 "_law_job" = true) (k34 : PySem.W.keepIn K (.ref f34) = true)
    (a35 : PySem.W.nsIn K mainGlobals "_law_world" = some (some (.ref f35))) (l35 : K.lookup f35 = some ⟨oc35, od35, .func (PySem.W.fnOf "_law_world" "_law_world" (defArgs s_l_world) (defBody s_l_world) (defScope s_l_world) .none kV35 dc35 pm35 an35 cd35 ct35), sl35⟩) (c35 : PySem.W.codeIn K cd35 "_law_world" = true) (k35 : PySem.W.keepIn K (.ref f35) = true)
    (a36 : PySem.W.nsIn K mainGlobals "_law_called" = some (some (.ref f36))) (l36 : K.lookup f36 = some ⟨oc36, od36, .func (PySem.W.fnOf "_law_called" "_law_called" (defArgs s_l_called) (defBody s_l_called) (defScope s_l_called) .none kV36 dc36 pm36 an36 cd36 ct36), sl36⟩) (c36 : PySem.W.codeIn K cd36 "_law_called" = true) (k36 : PySem.W.keepIn K (.ref f36) = true)
    (a37 : PySem.W.nsIn K mainGlobals "_law_bases" = some (some (.ref f37))) (l37 : K.lookup f37 = some ⟨oc37, od37, .func (PySem.W.fnOf "_law_bases" "_law_bases" (defArgs s_l_bases) (defBody s_l_bases) (defScope s_l_bases) .none kV37 dc37 pm37 an37 cd37 ct37), sl37⟩) (c37 : PySem.W.codeIn K cd37 "_law_bases" = true) (k37 : PySem.W.keepIn K (.ref f37) = true)
    (a38 : PySem.W.nsIn K mainGlobals "_law_all_rows" = some (some (.ref f38))) (l38 : K.lookup f38 = some ⟨oc38, od38, .func (PySem.W.fnOf "_law_all_rows" "_law_all_rows" (defArgs s_l_all_rows) (defBody s_l_all_rows) (defScope s_l_all_rows) .none kV38 dc38 pm38 an38 cd38 ct38), sl38⟩) (c38 : PySem.W.codeIn K cd38 "_law_all_rows" = true) (k38 : PySem.W.keepIn K (.ref f38) = true)
    (a39 : PySem.W.nsIn K mainGlobals "_law_left" = some (some (.ref f39))) (l39 : K.lookup f39 = some ⟨oc39, od39, .func (PySem.W.fnOf "_law_left" "_law_left" (defArgs s_l_left) (defBody s_l_left) (defScope s_l_left) .none kV39 dc39 pm39 an39 cd39 ct39), sl39⟩) (c39 : PySem.W.codeIn K cd39 "_law_left" = true) (k39 : PySem.W.keepIn K (.ref f39) = true)
    (a40 : PySem.W.nsIn K mainGlobals "_law_small_book" = some (some (.ref f40))) (l40 : K.lookup f40 = some ⟨oc40, od40, .func (PySem.W.fnOf "_law_small_book" "_law_small_book" (defArgs s_l_small_book) (defBody s_l_small_book) (defScope s_l_small_book) .none kV40 dc40 pm40 an40 cd40 ct40), sl40⟩) (c40 : PySem.W.codeIn K cd40 "_law_small_book" = true) (k40 : PySem.W.keepIn K (.ref f40) = true)
    (a41 : PySem.W.nsIn K mainGlobals "_law_is_house" = some (some (.ref f41))) (l41 : K.lookup f41 = some ⟨oc41, od41, .func (PySem.W.fnOf "_law_is_house" "_law_is_house" (defArgs s_l_is_house) (defBody s_l_is_house) (defScope s_l_is_house) .none kV41 dc41 pm41 an41 cd41 ct41), sl41⟩) (c41 : PySem.W.codeIn K cd41 "_law_is_house" = true) (k41 : PySem.W.keepIn K (.ref f41) = true)
    (a42 : PySem.W.nsIn K mainGlobals "_law_is_town" = some (some (.ref f42))) (l42 : K.lookup f42 = some ⟨oc42, od42, .func (PySem.W.fnOf "_law_is_town" "_law_is_town" (defArgs s_l_is_town) (defBody s_l_is_town) (defScope s_l_is_town) .none kV42 dc42 pm42 an42 cd42 ct42), sl42⟩) (c42 : PySem.W.codeIn K cd42 "_law_is_town" = true) (k42 : PySem.W.keepIn K (.ref f42) = true)
    (a43 : PySem.W.nsIn K mainGlobals "_law_whole" = some (some (.ref f43))) (l43 : K.lookup f43 = some ⟨oc43, od43, .func (PySem.W.fnOf "_law_whole" "_law_whole" (defArgs s_l_whole) (defBody s_l_whole) (defScope s_l_whole) .none kV43 dc43 pm43 an43 cd43 ct43), sl43⟩) (c43 : PySem.W.codeIn K cd43 "_law_whole" = true) (k43 : PySem.W.keepIn K (.ref f43) = true)
    (a44 : PySem.W.nsIn K mainGlobals "_law_is_row" = some (some (.ref f44))) (l44 : K.lookup f44 = some ⟨oc44, od44, .func (PySem.W.fnOf "_law_is_row" "_law_is_row" (defArgs s_l_is_row) (defBody s_l_is_row) (defScope s_l_is_row) .none kV44 dc44 pm44 an44 cd44 ct44), sl44⟩) (c44 : PySem.W.codeIn K cd44 "_law_is_row" = true) (k44 : PySem.W.keepIn K (.ref f44) = true)
    (a45 : PySem.W.nsIn K mainGlobals "_law_do_clash" = some (some (.ref f45))) (l45 : K.lookup f45 = some ⟨oc45, od45, .func (PySem.W.fnOf "_law_do_clash" "_law_do_clash" (defArgs s_l_do_clash) (defBody s_l_do_clash) (defScope s_l_do_clash) .none kV45 dc45 pm45 an45 cd45 ct45), sl45⟩) (c45 : PySem.W.codeIn K cd45 "_law_do_clash" = true) (k45 : PySem.W.keepIn K (.ref f45) = true)
    (a46 : PySem.W.nsIn K mainGlobals "_law_first_clash" = some (some (.ref f46))) (l46 : K.lookup f46 = some ⟨oc46, od46, .func (PySem.W.fnOf "_law_first_clash" "_law_first_clash" (defArgs s_l_first_clash) (defBody s_l_first_clash) (defScope s_l_first_clash) .none kV46 dc46 pm46 an46 cd46 ct46), sl46⟩) (c46 : PySem.W.codeIn K cd46 "_law_first_clash" = true) (k46 : PySem.W.keepIn K (.ref f46) = true)
    (a47 : PySem.W.nsIn K mainGlobals "_law_few_row" = some (some (.ref f47))) (l47 : K.lookup f47 = some ⟨oc47, od47, .func (PySem.W.fnOf "_law_few_row" "_law_few_row" (defArgs s_l_few_row) (defBody s_l_few_row) (defScope s_l_few_row) .none kV47 dc47 pm47 an47 cd47 ct47), sl47⟩) (c47 : PySem.W.codeIn K cd47 "_law_few_row" = true) (k47 : PySem.W.keepIn K (.ref f47) = true)
    (a48 : PySem.W.nsIn K mainGlobals "_law_town_text" = some (some (.ref f48))) (l48 : K.lookup f48 = some ⟨oc48, od48, .func (PySem.W.fnOf "_law_town_text" "_law_town_text" (defArgs s_l_town_text) (defBody s_l_town_text) (defScope s_l_town_text) .none kV48 dc48 pm48 an48 cd48 ct48), sl48⟩) (c48 : PySem.W.codeIn K cd48 "_law_town_text" = true) (k48 : PySem.W.keepIn K (.ref f48) = true)
    (a49 : PySem.W.nsIn K mainGlobals "_law_row_text" = some (some (.ref f49))) (l49 : K.lookup f49 = some ⟨oc49, od49, .func (PySem.W.fnOf "_law_row_text" "_law_row_text" (defArgs s_l_row_text) (defBody s_l_row_text) (defScope s_l_row_text) .none kV49 dc49 pm49 an49 cd49 ct49), sl49⟩) (c49 : PySem.W.codeIn K cd49 "_law_row_text" = true) (k49 : PySem.W.keepIn K (.ref f49) = true)
    (a50 : PySem.W.nsIn K mainGlobals "_law_number_in" = some (some (.ref f50))) (l50 : K.lookup f50 = some ⟨oc50, od50, .func (PySem.W.fnOf "_law_number_in" "_law_number_in" (defArgs s_l_number_in) (defBody s_l_number_in) (defScope s_l_number_in) .none kV50 dc50 pm50 an50 cd50 ct50), sl50⟩) (c50 : PySem.W.codeIn K cd50 "_law_number_in" = true) (k50 : PySem.W.keepIn K (.ref f50) = true)
    (a51 : PySem.W.nsIn K mainGlobals "_law_town_in" = some (some (.ref f51))) (l51 : K.lookup f51 = some ⟨oc51, od51, .func (PySem.W.fnOf "_law_town_in" "_law_town_in" (defArgs s_l_town_in) (defBody s_l_town_in) (defScope s_l_town_in) .none kV51 dc51 pm51 an51 cd51 ct51), sl51⟩) (c51 : PySem.W.codeIn K cd51 "_law_town_in" = true) (k51 : PySem.W.keepIn K (.ref f51) = true)
    (a52 : PySem.W.nsIn K mainGlobals "_law_row_in" = some (some (.ref f52))) (l52 : K.lookup f52 = some ⟨oc52, od52, .func (PySem.W.fnOf "_law_row_in" "_law_row_in" (defArgs s_l_row_in) (defBody s_l_row_in) (defScope s_l_row_in) .none kV52 dc52 pm52 an52 cd52 ct52), sl52⟩) (c52 : PySem.W.codeIn K cd52 "_law_row_in" = true) (k52 : PySem.W.keepIn K (.ref f52) = true)
    (a53 : PySem.W.nsIn K mainGlobals "_law_same" = some (some (.ref f53))) (l53 : K.lookup f53 = some ⟨oc53, od53, .func (PySem.W.fnOf "_law_same" "_law_same" (defArgs s_l_same) (defBody s_l_same) (defScope s_l_same) .none kV53 dc53 pm53 an53 cd53 ct53), sl53⟩) (c53 : PySem.W.codeIn K cd53 "_law_same" = true) (k53 : PySem.W.keepIn K (.ref f53) = true)
    (a54 : PySem.W.nsIn K mainGlobals "_law_told" = some (some (.ref f54))) (l54 : K.lookup f54 = some ⟨oc54, od54, .func (PySem.W.fnOf "_law_told" "_law_told" (defArgs s_l_told) (defBody s_l_told) (defScope s_l_told) .none kV54 dc54 pm54 an54 cd54 ct54), sl54⟩) (c54 : PySem.W.codeIn K cd54 "_law_told" = true) (k54 : PySem.W.keepIn K (.ref f54) = true)
    (a55 : PySem.W.nsIn K mainGlobals "_law_due" = some (some (.ref f55))) (l55 : K.lookup f55 = some ⟨oc55, od55, .func (PySem.W.fnOf "_law_due" "_law_due" (defArgs s_l_due) (defBody s_l_due) (defScope s_l_due) .none kV55 dc55 pm55 an55 cd55 ct55), sl55⟩) (c55 : PySem.W.codeIn K cd55 "_law_due" = true) (k55 : PySem.W.keepIn K (.ref f55) = true)
    (a56 : PySem.W.nsIn K mainGlobals "_law_bent_line" = some (some (.ref f56))) (l56 : K.lookup f56 = some ⟨oc56, od56, .func (PySem.W.fnOf "_law_bent_line" "_law_bent_line" (defArgs s_l_bent_line) (defBody s_l_bent_line) (defScope s_l_bent_line) .none kV56 dc56 pm56 an56 cd56 ct56), sl56⟩) (c56 : PySem.W.codeIn K cd56 "_law_bent_line" = true) (k56 : PySem.W.keepIn K (.ref f56) = true)
    (a57 : PySem.W.nsIn K mainGlobals "_law_bent" = some (some (.ref f57))) (l57 : K.lookup f57 = some ⟨oc57, od57, .func (PySem.W.fnOf "_law_bent" "_law_bent" (defArgs s_l_bent) (defBody s_l_bent) (defScope s_l_bent) .none kV57 dc57 pm57 an57 cd57 ct57), sl57⟩) (c57 : PySem.W.codeIn K cd57 "_law_bent" = true) (k57 : PySem.W.keepIn K (.ref f57) = true)
    (a58 : PySem.W.nsIn K mainGlobals "law" = some (some (.ref f58))) (l58 : K.lookup f58 = some ⟨oc58, od58, .func (PySem.W.fnOf "law" "law" (defArgs s_law) (defBody s_law) (defScope s_law) .none kV58 dc58 pm58 an58 cd58 ct58), sl58⟩) (c58 : PySem.W.codeIn K cd58 "law" = true) (k58 : PySem.W.keepIn K (.ref f58) = true)
    {xC0 xI0 xB0 : Addr} {xnm0 xq0 : Str} {xN0 : Addr} {xbs0 : List Value} {xsn0 : List Str} {xsub0 : List Value} {xab0 : Bool} {xcol0 : Option Bool} {xdd0 : Option Addr} {xm00 xm10 xm20 xm30 xm50 : Option Value} {xod0 xan0 : Option Addr} {xsl0 : Array (Option Value)} {xoc0 xkV0 xdc0 xpm0 xcd0 xct0 : Value}
    (ea0 : PySem.W.nsIn K mainGlobals "NoRow" = some (some (.ref xC0))) (eb0 : K.lookup xC0 = some (excClassObj xnm0 xq0 xC0 xN0 xbs0 [.ref xB0, .type "ValueError", .type "Exception", .type "BaseException", .type "object"] true xsn0 xsub0 xab0 xcol0 xdd0 xm00 xm10 xm20 xm30 xm50 "ValueError.__new__"))
    (ec0 : PySem.W.findIn K (.ref xC0) "__setattr__" = some (some (.builtin "object.__setattr__"))) (ed0 : PySem.W.findIn K (.ref xC0) "__getattribute__" = some (some (.builtin "BaseException.__getattribute__"))) (ee0 : PySem.W.findIn K (.ref xC0) "__getattr__" = some none)
    (ef0 : PySem.W.findIn K (.ref xC0) "__init__" = some (some (.ref xI0))) (eg0 : PySem.W.typeIn K (.ref xI0) = some (.type "function"))
    (eh0 : K.lookup xI0 = some ⟨xoc0, xod0, .func (PySem.W.fnOf "__init__" "NoRow.__init__" (defArgs s_i_NoRow) (defBody s_i_NoRow) (defScope s_i_NoRow) .none xkV0 xdc0 xpm0 xan0 xcd0 xct0), xsl0⟩) (ei0 : PySem.W.codeIn K xcd0 "NoRow.__init__" = true) (ej0 : PySem.W.keepIn K (.ref xI0) = true)
    (ek0 : PySem.W.keepIn K (.ref xC0) = true) (el0 : PySem.W.subIn K (.ref xC0) (.type "BaseException") = some true) (em0 : PySem.W.typeIn K (.ref xC0) = some (.type "type")) (en0 : PySem.W.hasDictIn K xC0 = true) (eo0 : PySem.W.isClsIn K xC0 = true)
    (ep0_0 : PySem.W.findIn K (.ref xC0) "number" = some none)
    {xC1 xI1 xB1 : Addr} {xnm1 xq1 : Str} {xN1 : Addr} {xbs1 : List Value} {xsn1 : List Str} {xsub1 : List Value} {xab1 : Bool} {xcol1 : Option Bool} {xdd1 : Option Addr} {xm01 xm11 xm21 xm31 xm51 : Option Value} {xod1 xan1 : Option Addr} {xsl1 : Array (Option Value)} {xoc1 xkV1 xdc1 xpm1 xcd1 xct1 : Value}
    (ea1 : PySem.W.nsIn K mainGlobals "Clash" = some (some (.ref xC1))) (eb1 : K.lookup xC1 = some (excClassObj xnm1 xq1 xC1 xN1 xbs1 [.ref xB1, .type "ValueError", .type "Exception", .type "BaseException", .type "object"] true xsn1 xsub1 xab1 xcol1 xdd1 xm01 xm11 xm21 xm31 xm51 "ValueError.__new__"))
    (ec1 : PySem.W.findIn K (.ref xC1) "__setattr__" = some (some (.builtin "object.__setattr__"))) (ed1 : PySem.W.findIn K (.ref xC1) "__getattribute__" = some (some (.builtin "BaseException.__getattribute__"))) (ee1 : PySem.W.findIn K (.ref xC1) "__getattr__" = some none)
    (ef1 : PySem.W.findIn K (.ref xC1) "__init__" = some (some (.ref xI1))) (eg1 : PySem.W.typeIn K (.ref xI1) = some (.type "function"))
    (eh1 : K.lookup xI1 = some ⟨xoc1, xod1, .func (PySem.W.fnOf "__init__" "Clash.__init__" (defArgs s_i_Clash) (defBody s_i_Clash) (defScope s_i_Clash) .none xkV1 xdc1 xpm1 xan1 xcd1 xct1), xsl1⟩) (ei1 : PySem.W.codeIn K xcd1 "Clash.__init__" = true) (ej1 : PySem.W.keepIn K (.ref xI1) = true)
    (ek1 : PySem.W.keepIn K (.ref xC1) = true) (el1 : PySem.W.subIn K (.ref xC1) (.type "BaseException") = some true) (em1 : PySem.W.typeIn K (.ref xC1) = some (.type "type")) (en1 : PySem.W.hasDictIn K xC1 = true) (eo1 : PySem.W.isClsIn K xC1 = true)
    (ep1_0 : PySem.W.findIn K (.ref xC1) "first" = some none)
    (ep1_1 : PySem.W.findIn K (.ref xC1) "second" = some none)
    {xC2 xI2 xB2 : Addr} {xnm2 xq2 : Str} {xN2 : Addr} {xbs2 : List Value} {xsn2 : List Str} {xsub2 : List Value} {xab2 : Bool} {xcol2 : Option Bool} {xdd2 : Option Addr} {xm02 xm12 xm22 xm32 xm52 : Option Value} {xod2 xan2 : Option Addr} {xsl2 : Array (Option Value)} {xoc2 xkV2 xdc2 xpm2 xcd2 xct2 : Value}
    (ea2 : PySem.W.nsIn K mainGlobals "NoText" = some (some (.ref xC2))) (eb2 : K.lookup xC2 = some (excClassObj xnm2 xq2 xC2 xN2 xbs2 [.ref xB2, .type "ValueError", .type "Exception", .type "BaseException", .type "object"] true xsn2 xsub2 xab2 xcol2 xdd2 xm02 xm12 xm22 xm32 xm52 "ValueError.__new__"))
    (ec2 : PySem.W.findIn K (.ref xC2) "__setattr__" = some (some (.builtin "object.__setattr__"))) (ed2 : PySem.W.findIn K (.ref xC2) "__getattribute__" = some (some (.builtin "BaseException.__getattribute__"))) (ee2 : PySem.W.findIn K (.ref xC2) "__getattr__" = some none)
    (ef2 : PySem.W.findIn K (.ref xC2) "__init__" = some (some (.ref xI2))) (eg2 : PySem.W.typeIn K (.ref xI2) = some (.type "function"))
    (eh2 : K.lookup xI2 = some ⟨xoc2, xod2, .func (PySem.W.fnOf "__init__" "NoText.__init__" (defArgs s_i_NoText) (defBody s_i_NoText) (defScope s_i_NoText) .none xkV2 xdc2 xpm2 xan2 xcd2 xct2), xsl2⟩) (ei2 : PySem.W.codeIn K xcd2 "NoText.__init__" = true) (ej2 : PySem.W.keepIn K (.ref xI2) = true)
    (ek2 : PySem.W.keepIn K (.ref xC2) = true) (el2 : PySem.W.subIn K (.ref xC2) (.type "BaseException") = some true) (em2 : PySem.W.typeIn K (.ref xC2) = some (.type "type")) (en2 : PySem.W.hasDictIn K xC2 = true) (eo2 : PySem.W.isClsIn K xC2 = true)
    (ep2_0 : PySem.W.findIn K (.ref xC2) "number" = some none)
    (es0 : PySem.W.subIn K (.ref xC0) (.ref xC0) = some true)
    (es1 : PySem.W.subIn K (.ref xC0) (.ref xC1) = some false)
    (es2 : PySem.W.subIn K (.ref xC0) (.ref xC2) = some false)
    (es3 : PySem.W.subIn K (.ref xC1) (.ref xC0) = some false)
    (es4 : PySem.W.subIn K (.ref xC1) (.ref xC1) = some true)
    (es5 : PySem.W.subIn K (.ref xC1) (.ref xC2) = some false)
    (es6 : PySem.W.subIn K (.ref xC2) (.ref xC0) = some false)
    (es7 : PySem.W.subIn K (.ref xC2) (.ref xC1) = some false)
    (es8 : PySem.W.subIn K (.ref xC2) (.ref xC2) = some true)
    (z0 : PySem.W.nsIn K mainGlobals "all" = some none)
    (z1 : PySem.W.nsIn K mainGlobals "bool" = some none)
    (z2 : PySem.W.nsIn K mainGlobals "dict" = some none)
    (z3 : PySem.W.nsIn K mainGlobals "enumerate" = some none)
    (z4 : PySem.W.nsIn K mainGlobals "int" = some none)
    (z5 : PySem.W.nsIn K mainGlobals "isinstance" = some none)
    (z6 : PySem.W.nsIn K mainGlobals "len" = some none)
    (z7 : PySem.W.nsIn K mainGlobals "list" = some none)
    (z8 : PySem.W.nsIn K mainGlobals "max" = some none)
    (z9 : PySem.W.nsIn K mainGlobals "range" = some none)
    (z10 : PySem.W.nsIn K mainGlobals "set" = some none)
    (z11 : PySem.W.nsIn K mainGlobals "sorted" = some none)
    (z12 : PySem.W.nsIn K mainGlobals "str" = some none)
    (z13 : PySem.W.nsIn K mainGlobals "tuple" = some none)
    (z14 : PySem.W.nsIn K mainGlobals "zip" = some none)
    {w0 : _} (q0 : PySem.W.nsIn K mainGlobals "FIGURES" = some (some (.str "0123456789"  w0)))
    {w1 : _} (q1 : PySem.W.nsIn K mainGlobals "LETTERS" = some (some (.str "abcdefghijklmnopqrstuvwxyz"  w1)))
    {w2 : _} (q2 : PySem.W.nsIn K mainGlobals "MOST_COUNT" = some (some (.int (15)  w2)))
    {w3 : _} (q3 : PySem.W.nsIn K mainGlobals "MOST_FIGURES" = some (some (.int (13)  w3)))
    {w4 : _} (q4 : PySem.W.nsIn K mainGlobals "MOST_HOUSES" = some (some (.int (6)  w4)))
    {w5 : _} (q5 : PySem.W.nsIn K mainGlobals "MOST_LETTERS" = some (some (.int (8)  w5)))
    {w6 : _} (q6 : PySem.W.nsIn K mainGlobals "MOST_NUMBER" = some (some (.int (14)  w6)))
    {w7 : _} (q7 : PySem.W.nsIn K mainGlobals "MOST_TIME" = some (some (.int (1000000000000)  w7)))
    (tq4 : Gx.TopTab q K h) (tr4 : ∃ dd, (recsOf q).find? (fun e => e.name == ("is_house" : Str)) = some dd) (ts4 : PySem.W.tabIn K "is_house" = some (cc4, tt4)) (tn4 : K.lookup tt4 = none)
    (tq5 : Gx.TopTab q K h) (tr5 : ∃ dd, (recsOf q).find? (fun e => e.name == ("is_rising" : Str)) = some dd) (ts5 : PySem.W.tabIn K "is_rising" = some (cc5, tt5)) (tn5 : K.lookup tt5 = none)
    (tq6 : Gx.TopTab q K h) (tr6 : ∃ dd, (recsOf q).find? (fun e => e.name == ("are_rising_houses" : Str)) = some dd) (ts6 : PySem.W.tabIn K "are_rising_houses" = some (cc6, tt6)) (tn6 : K.lookup tt6 = none)
    (tq7 : Gx.TopTab q K h) (tr7 : ∃ dd, (recsOf q).find? (fun e => e.name == ("is_town" : Str)) = some dd) (ts7 : PySem.W.tabIn K "is_town" = some (cc7, tt7)) (tn7 : K.lookup tt7 = none)
    (tq22 : Gx.TopTab q K h) (tr22 : ∃ dd, (recsOf q).find? (fun e => e.name == ("read_number" : Str)) = some dd) (ts22 : PySem.W.tabIn K "read_number" = some (cc22, tt22)) (tn22 : K.lookup tt22 = none)
    : LamX.LawAtS l w K CX0 10 63 "script" mg fa h := by
  have e := hfa.symm.trans (PySem.W.mg_of X G a58)
  cases e
  have F0 := fun_mk (st := s_is_whole_from) l0 c0 k0
  have b0 := F0.binds (ps := ["thing", "low", "high"]) fun _ _ _ _ _ _ us hl => match us, hl with | [_, _, _], _ => rfl
  have F1 := fun_mk (st := s_is_time) l1 c1 k1
  have b1 := F1.binds (ps := ["thing"]) fun _ _ _ _ _ _ us hl => match us, hl with | [_], _ => rfl
  have F2 := fun_mk (st := s_is_number) l2 c2 k2
  have b2 := F2.binds (ps := ["thing"]) fun _ _ _ _ _ _ us hl => match us, hl with | [_], _ => rfl
  have F3 := fun_mk (st := s_is_count) l3 c3 k3
  have b3 := F3.binds (ps := ["thing"]) fun _ _ _ _ _ _ us hl => match us, hl with | [_], _ => rfl
  have F4 := fun_mk (st := s_is_house) l4 c4 k4
  have b4 := F4.binds (ps := ["thing"]) fun _ _ _ _ _ _ us hl => match us, hl with | [_], _ => rfl
  have F5 := fun_mk (st := s_is_rising) l5 c5 k5
  have b5 := F5.binds (ps := ["things"]) fun _ _ _ _ _ _ us hl => match us, hl with | [_], _ => rfl
  have F6 := fun_mk (st := s_are_rising_houses) l6 c6 k6
  have b6 := F6.binds (ps := ["thing"]) fun _ _ _ _ _ _ us hl => match us, hl with | [_], _ => rfl
  have F7 := fun_mk (st := s_is_town) l7 c7 k7
  have b7 := F7.binds (ps := ["thing"]) fun _ _ _ _ _ _ us hl => match us, hl with | [_], _ => rfl
  have F8 := fun_mk (st := s_is_span) l8 c8 k8
  have b8 := F8.binds (ps := ["low", "high"]) fun _ _ _ _ _ _ us hl => match us, hl with | [_, _], _ => rfl
  have F9 := fun_mk (st := s_is_ask_row) l9 c9 k9
  have b9 := F9.binds (ps := ["houses", "thing"]) fun _ _ _ _ _ _ us hl => match us, hl with | [_, _], _ => rfl
  have F10 := fun_mk (st := s_is_job_row) l10 c10 k10
  have b10 := F10.binds (ps := ["houses", "thing"]) fun _ _ _ _ _ _ us hl => match us, hl with | [_, _], _ => rfl
  have F11 := fun_mk (st := s_is_all_row) l11 c11 k11
  have b11 := F11.binds (ps := ["houses", "thing"]) fun _ _ _ _ _ _ us hl => match us, hl with | [_, _], _ => rfl
  have F12 := fun_mk (st := s_is_row) l12 c12 k12
  have b12 := F12.binds (ps := ["town", "thing"]) fun _ _ _ _ _ _ us hl => match us, hl with | [_, _], _ => rfl
  have F13 := fun_mk (st := s_is_out_of_order) l13 c13 k13
  have b13 := F13.binds (ps := ["number", "time", "other_number", "other_time"]) fun _ _ _ _ _ _ us hl => match us, hl with | [_, _, _, _], _ => rfl
  have F14 := fun_mk (st := s_do_asks_clash) l14 c14 k14
  have b14 := F14.binds (ps := ["one", "other"]) fun _ _ _ _ _ _ us hl => match us, hl with | [_, _], _ => rfl
  have F15 := fun_mk (st := s_do_jobs_clash) l15 c15 k15
  have b15 := F15.binds (ps := ["one", "other"]) fun _ _ _ _ _ _ us hl => match us, hl with | [_, _], _ => rfl
  have F16 := fun_mk (st := s_do_job_and_ask_clash) l16 c16 k16
  have b16 := F16.binds (ps := ["job", "ask"]) fun _ _ _ _ _ _ us hl => match us, hl with | [_, _], _ => rfl
  have F17 := fun_mk (st := s_does_all_row_clash) l17 c17 k17
  have b17 := F17.binds (ps := ["all_row", "other"]) fun _ _ _ _ _ _ us hl => match us, hl with | [_, _], _ => rfl
  have F18 := fun_mk (st := s_do_alike_sorts_clash) l18 c18 k18
  have b18 := F18.binds (ps := ["one", "other"]) fun _ _ _ _ _ _ us hl => match us, hl with | [_, _], _ => rfl
  have F19 := fun_mk (st := s_do_clash) l19 c19 k19
  have b19 := F19.binds (ps := ["one", "other"]) fun _ _ _ _ _ _ us hl => match us, hl with | [_, _], _ => rfl
  have F20 := fun_mk (st := s_need_rows) l20 c20 k20
  have b20 := F20.binds (ps := ["town", "rows"]) fun _ _ _ _ _ _ us hl => match us, hl with | [_, _], _ => rfl
  have F21 := fun_mk (st := s_need_book) l21 c21 k21
  have b21 := F21.binds (ps := ["town", "rows"]) fun _ _ _ _ _ _ us hl => match us, hl with | [_, _], _ => rfl
  have F22 := fun_mk (st := s_read_number) l22 c22 k22
  have b22 := F22.binds (ps := ["word"]) fun _ _ _ _ _ _ us hl => match us, hl with | [_], _ => rfl
  have F23 := fun_mk (st := s_read_thing) l23 c23 k23
  have b23 := F23.binds (ps := ["word"]) fun _ _ _ _ _ _ us hl => match us, hl with | [_], _ => rfl
  have F24 := fun_mk (st := s_read_row) l24 c24 k24
  have b24 := F24.binds (ps := ["town", "text"]) fun _ _ _ _ _ _ us hl => match us, hl with | [_, _], _ => rfl
  have F25 := fun_mk (st := s_read_town) l25 c25 k25
  have b25 := F25.binds (ps := ["text"]) fun _ _ _ _ _ _ us hl => match us, hl with | [_], _ => rfl
  have F26 := fun_mk (st := s_read_book) l26 c26 k26
  have b26 := F26.binds (ps := ["text"]) fun _ _ _ _ _ _ us hl => match us, hl with | [_], _ => rfl
  have F27 := fun_mk (st := s_l_spread) l27 c27 k27
  have b27 := F27.binds (ps := ["cell", "at"]) fun _ _ _ _ _ _ us hl => match us, hl with | [_, _], _ => rfl
  have F28 := fun_mk (st := s_l_open) l28 c28 k28
  have b28 := F28.binds (ps := ["script"]) fun _ _ _ _ _ _ us hl => match us, hl with | [_], _ => rfl
  have F29 := fun_mk (st := s_l_anew) l29 c29 k29
  have b29 := F29.binds (ps := ["pen"]) fun _ _ _ _ _ _ us hl => match us, hl with | [_], _ => rfl
  have F30 := fun_mk (st := s_l_take) l30 c30 k30
  have b30 := F30.binds (ps := ["pen", "many"]) fun _ _ _ _ _ _ us hl => match us, hl with | [_, _], _ => rfl
  have F31 := fun_mk (st := s_l_names) l31 c31 k31
  have b31 := F31.binds (ps := ["pen", "many"]) fun _ _ _ _ _ _ us hl => match us, hl with | [_, _], _ => rfl
  have F32 := fun_mk (st := s_l_town) l32 c32 k32
  have b32 := F32.binds (ps := ["pen", "most"]) fun _ _ _ _ _ _ us hl => match us, hl with | [_, _], _ => rfl
  have F33 := fun_mk (st := s_l_room) l33 c33 k33
  have b33 := F33.binds (ps := ["world", "house", "goal"]) fun _ _ _ _ _ _ us hl => match us, hl with | [_, _, _], _ => rfl
  have F34 := fun_mk (st := s_l_job) l34 c34 k34
  have b34 := F34.binds (ps := ["pen", "world", "town", "house", "start", "deep"]) fun _ _ _ _ _ _ us hl => match us, hl with | [_, _, _, _, _, _], _ => rfl
  have F35 := fun_mk (st := s_l_world) l35 c35 k35
  have b35 := F35.binds (ps := ["pen", "town", "tops", "deep", "most", "stray"]) fun _ _ _ _ _ _ us hl => match us, hl with | [_, _, _, _, _, _], _ => rfl
  have F36 := fun_mk (st := s_l_called) l36 c36 k36
  have b36 := F36.binds (ps := ["town", "world"]) fun _ _ _ _ _ _ us hl => match us, hl with | [_, _], _ => rfl
  have F37 := fun_mk (st := s_l_bases) l37 c37 k37
  have b37 := F37.binds (ps := ["pen", "town", "many"]) fun _ _ _ _ _ _ us hl => match us, hl with | [_, _, _], _ => rfl
  have F38 := fun_mk (st := s_l_all_rows) l38 c38 k38
  have b38 := F38.binds (ps := ["town", "world", "bases"]) fun _ _ _ _ _ _ us hl => match us, hl with | [_, _, _], _ => rfl
  have F39 := fun_mk (st := s_l_left) l39 c39 k39
  have b39 := F39.binds (ps := ["pen", "rows", "fewer"]) fun _ _ _ _ _ _ us hl => match us, hl with | [_, _, _], _ => rfl
  have F40 := fun_mk (st := s_l_small_book) l40 c40 k40
  have b40 := F40.binds (ps := ["pen", "houses", "most", "fewer", "stray"]) fun _ _ _ _ _ _ us hl => match us, hl with | [_, _, _, _, _], _ => rfl
  have F41 := fun_mk (st := s_l_is_house) l41 c41 k41
  have b41 := F41.binds (ps := ["thing"]) fun _ _ _ _ _ _ us hl => match us, hl with | [_], _ => rfl
  have F42 := fun_mk (st := s_l_is_town) l42 c42 k42
  have b42 := F42.binds (ps := ["thing"]) fun _ _ _ _ _ _ us hl => match us, hl with | [_], _ => rfl
  have F43 := fun_mk (st := s_l_whole) l43 c43 k43
  have b43 := F43.binds (ps := ["thing"]) fun _ _ _ _ _ _ us hl => match us, hl with | [_], _ => rfl
  have F44 := fun_mk (st := s_l_is_row) l44 c44 k44
  have b44 := F44.binds (ps := ["town", "thing"]) fun _ _ _ _ _ _ us hl => match us, hl with | [_, _], _ => rfl
  have F45 := fun_mk (st := s_l_do_clash) l45 c45 k45
  have b45 := F45.binds (ps := ["one", "other"]) fun _ _ _ _ _ _ us hl => match us, hl with | [_, _], _ => rfl
  have F46 := fun_mk (st := s_l_first_clash) l46 c46 k46
  have b46 := F46.binds (ps := ["rows"]) fun _ _ _ _ _ _ us hl => match us, hl with | [_], _ => rfl
  have F47 := fun_mk (st := s_l_few_row) l47 c47 k47
  have b47 := F47.binds (ps := ["pen", "town"]) fun _ _ _ _ _ _ us hl => match us, hl with | [_, _], _ => rfl
  have F48 := fun_mk (st := s_l_town_text) l48 c48 k48
  have b48 := F48.binds (ps := ["town"]) fun _ _ _ _ _ _ us hl => match us, hl with | [_], _ => rfl
  have F49 := fun_mk (st := s_l_row_text) l49 c49 k49
  have b49 := F49.binds (ps := ["row"]) fun _ _ _ _ _ _ us hl => match us, hl with | [_], _ => rfl
  have F50 := fun_mk (st := s_l_number_in) l50 c50 k50
  have b50 := F50.binds (ps := ["word"]) fun _ _ _ _ _ _ us hl => match us, hl with | [_], _ => rfl
  have F51 := fun_mk (st := s_l_town_in) l51 c51 k51
  have b51 := F51.binds (ps := ["text"]) fun _ _ _ _ _ _ us hl => match us, hl with | [_], _ => rfl
  have F52 := fun_mk (st := s_l_row_in) l52 c52 k52
  have b52 := F52.binds (ps := ["town", "text"]) fun _ _ _ _ _ _ us hl => match us, hl with | [_, _], _ => rfl
  have F53 := fun_mk (st := s_l_same) l53 c53 k53
  have b53 := F53.binds (ps := ["found", "due"]) fun _ _ _ _ _ _ us hl => match us, hl with | [_, _], _ => rfl
  have F54 := fun_mk (st := s_l_told) l54 c54 k54
  have b54 := F54.binds (ps := ["text"]) fun _ _ _ _ _ _ us hl => match us, hl with | [_], _ => rfl
  have F55 := fun_mk (st := s_l_due) l55 c55 k55
  have b55 := F55.binds (ps := ["text"]) fun _ _ _ _ _ _ us hl => match us, hl with | [_], _ => rfl
  have F56 := fun_mk (st := s_l_bent_line) l56 c56 k56
  have b56 := F56.binds (ps := ["pen", "line"]) fun _ _ _ _ _ _ us hl => match us, hl with | [_, _], _ => rfl
  have F57 := fun_mk (st := s_l_bent) l57 c57 k57
  have b57 := F57.binds (ps := ["pen", "text"]) fun _ _ _ _ _ _ us hl => match us, hl with | [_, _], _ => rfl
  have F58 := fun_mk (st := s_law) l58 c58 k58
  have b58 := F58.binds (ps := ["script"]) fun _ _ _ _ _ _ us hl => match us, hl with | [_], _ => rfl
  have FX0 := fun_mk (st := s_i_NoRow) eh0 ei0 ej0
  have bX0 := FX0.binds (ps := ["self", "number"]) fun _ _ _ _ _ _ us hl => match us, hl with | [_, _], _ => rfl
  have FX1 := fun_mk (st := s_i_Clash) eh1 ei1 ej1
  have bX1 := FX1.binds (ps := ["self", "first", "second"]) fun _ _ _ _ _ _ us hl => match us, hl with | [_, _, _], _ => rfl
  have FX2 := fun_mk (st := s_i_NoText) eh2 ei2 ej2
  have bX2 := FX2.binds (ps := ["self", "number"]) fun _ _ _ _ _ _ us hl => match us, hl with | [_, _], _ => rfl
  let af : Nat → Addr := fun i => match i with | 0 => f0 | 1 => f1 | 2 => f2 | 3 => f3 | 4 => f4 | 5 => f5 | 6 => f6 | 7 => f7 | 8 => f8 | 9 => f9 | 10 => f10 | 11 => f11 | 12 => f12 | 13 => f13 | 14 => f14 | 15 => f15 | 16 => f16 | 17 => f17 | 18 => f18 | 19 => f19 | 20 => f20 | 21 => f21 | 22 => f22 | 23 => f23 | 24 => f24 | 25 => f25 | 26 => f26 | 27 => f27 | 28 => f28 | 29 => f29 | 30 => f30 | 31 => f31 | 32 => f32 | 33 => f33 | 34 => f34 | 35 => f35 | 36 => f36 | 37 => f37 | 38 => f38 | 39 => f39 | 40 => f40 | 41 => f41 | 42 => f42 | 43 => f43 | 44 => f44 | 45 => f45 | 46 => f46 | 47 => f47 | 48 => f48 | 49 => f49 | 50 => f50 | 51 => f51 | 52 => f52 | 53 => f53 | 54 => f54 | 55 => f55 | 56 => f56 | 57 => f57 | 58 => fa | 65 => cc4 | 66 => tt4 | 67 => cc5 | 68 => tt5 | 69 => cc6 | 70 => tt6 | 71 => cc7 | 72 => tt7 | 73 => cc22 | 74 => tt22 | 59 => xC0 | 60 => xI0 | 61 => xC1 | 62 => xI1 | 63 => xC2 | 64 => xI2 | _ => f0
  let fd : Nat → FuncData := fun i => match i with | 0 => PySem.W.fnOf "is_whole_from" "is_whole_from" (defArgs s_is_whole_from) (defBody s_is_whole_from) (defScope s_is_whole_from) .none kV0 dc0 pm0 an0 cd0 ct0 | 1 => PySem.W.fnOf "is_time" "is_time" (defArgs s_is_time) (defBody s_is_time) (defScope s_is_time) .none kV1 dc1 pm1 an1 cd1 ct1 | 2 => PySem.W.fnOf "is_number" "is_number" (defArgs s_is_number) (defBody s_is_number) (defScope s_is_number) .none kV2 dc2 pm2 an2 cd2 ct2 | 3 => PySem.W.fnOf "is_count" "is_count" (defArgs s_is_count) (defBody s_is_count) (defScope s_is_count) .none kV3 dc3 pm3 an3 cd3 ct3 | 4 => PySem.W.fnOf "is_house" "is_house" (defArgs s_is_house) (defBody s_is_house) (defScope s_is_house) .none kV4 dc4 pm4 an4 (.ref cc4) ct4 | 5 => PySem.W.fnOf "is_rising" "is_rising" (defArgs s_is_rising) (defBody s_is_rising) (defScope s_is_rising) .none kV5 dc5 pm5 an5 (.ref cc5) ct5 | 6 => PySem.W.fnOf "are_rising_houses" "are_rising_houses" (defArgs s_are_rising_houses) (defBody s_are_rising_houses) (defScope s_are_rising_houses) .none kV6 dc6 pm6 an6 (.ref cc6) ct6 | 7 => PySem.W.fnOf "is_town" "is_town" (defArgs s_is_town) (defBody s_is_town) (defScope s_is_town) .none kV7 dc7 pm7 an7 (.ref cc7) ct7 | 8 => PySem.W.fnOf "is_span" "is_span" (defArgs s_is_span) (defBody s_is_span) (defScope s_is_span) .none kV8 dc8 pm8 an8 cd8 ct8 | 9 => PySem.W.fnOf "is_ask_row" "is_ask_row" (defArgs s_is_ask_row) (defBody s_is_ask_row) (defScope s_is_ask_row) .none kV9 dc9 pm9 an9 cd9 ct9 | 10 => PySem.W.fnOf "is_job_row" "is_job_row" (defArgs s_is_job_row) (defBody s_is_job_row) (defScope s_is_job_row) .none kV10 dc10 pm10 an10 cd10 ct10 | 11 => PySem.W.fnOf "is_all_row" "is_all_row" (defArgs s_is_all_row) (defBody s_is_all_row) (defScope s_is_all_row) .none kV11 dc11 pm11 an11 cd11 ct11 | 12 => PySem.W.fnOf "is_row" "is_row" (defArgs s_is_row) (defBody s_is_row) (defScope s_is_row) .none kV12 dc12 pm12 an12 cd12 ct12 | 13 => PySem.W.fnOf "is_out_of_order" "is_out_of_order" (defArgs s_is_out_of_order) (defBody s_is_out_of_order) (defScope s_is_out_of_order) .none kV13 dc13 pm13 an13 cd13 ct13 | 14 => PySem.W.fnOf "do_asks_clash" "do_asks_clash" (defArgs s_do_asks_clash) (defBody s_do_asks_clash) (defScope s_do_asks_clash) .none kV14 dc14 pm14 an14 cd14 ct14 | 15 => PySem.W.fnOf "do_jobs_clash" "do_jobs_clash" (defArgs s_do_jobs_clash) (defBody s_do_jobs_clash) (defScope s_do_jobs_clash) .none kV15 dc15 pm15 an15 cd15 ct15 | 16 => PySem.W.fnOf "do_job_and_ask_clash" "do_job_and_ask_clash" (defArgs s_do_job_and_ask_clash) (defBody s_do_job_and_ask_clash) (defScope s_do_job_and_ask_clash) .none kV16 dc16 pm16 an16 cd16 ct16 | 17 => PySem.W.fnOf "does_all_row_clash" "does_all_row_clash" (defArgs s_does_all_row_clash) (defBody s_does_all_row_clash) (defScope s_does_all_row_clash) .none kV17 dc17 pm17 an17 cd17 ct17 | 18 => PySem.W.fnOf "do_alike_sorts_clash" "do_alike_sorts_clash" (defArgs s_do_alike_sorts_clash) (defBody s_do_alike_sorts_clash) (defScope s_do_alike_sorts_clash) .none kV18 dc18 pm18 an18 cd18 ct18 | 19 => PySem.W.fnOf "do_clash" "do_clash" (defArgs s_do_clash) (defBody s_do_clash) (defScope s_do_clash) .none kV19 dc19 pm19 an19 cd19 ct19 | 20 => PySem.W.fnOf "need_rows" "need_rows" (defArgs s_need_rows) (defBody s_need_rows) (defScope s_need_rows) .none kV20 dc20 pm20 an20 cd20 ct20 | 21 => PySem.W.fnOf "need_book" "need_book" (defArgs s_need_book) (defBody s_need_book) (defScope s_need_book) .none kV21 dc21 pm21 an21 cd21 ct21 | 22 => PySem.W.fnOf "read_number" "read_number" (defArgs s_read_number) (defBody s_read_number) (defScope s_read_number) .none kV22 dc22 pm22 an22 (.ref cc22) ct22 | 23 => PySem.W.fnOf "read_thing" "read_thing" (defArgs s_read_thing) (defBody s_read_thing) (defScope s_read_thing) .none kV23 dc23 pm23 an23 cd23 ct23 | 24 => PySem.W.fnOf "read_row" "read_row" (defArgs s_read_row) (defBody s_read_row) (defScope s_read_row) .none kV24 dc24 pm24 an24 cd24 ct24 | 25 => PySem.W.fnOf "read_town" "read_town" (defArgs s_read_town) (defBody s_read_town) (defScope s_read_town) .none kV25 dc25 pm25 an25 cd25 ct25 | 26 => PySem.W.fnOf "read_book" "read_book" (defArgs s_read_book) (defBody s_read_book) (defScope s_read_book) .none kV26 dc26 pm26 an26 cd26 ct26 | 27 => PySem.W.fnOf "_law_spread" "_law_spread" (defArgs s_l_spread) (defBody s_l_spread) (defScope s_l_spread) .none kV27 dc27 pm27 an27 cd27 ct27 | 28 => PySem.W.fnOf "_law_open" "_law_open" (defArgs s_l_open) (defBody s_l_open) (defScope s_l_open) .none kV28 dc28 pm28 an28 cd28 ct28 | 29 => PySem.W.fnOf "_law_anew" "_law_anew" (defArgs s_l_anew) (defBody s_l_anew) (defScope s_l_anew) .none kV29 dc29 pm29 an29 cd29 ct29 | 30 => PySem.W.fnOf "_law_take" "_law_take" (defArgs s_l_take) (defBody s_l_take) (defScope s_l_take) .none kV30 dc30 pm30 an30 cd30 ct30 | 31 => PySem.W.fnOf "_law_names" "_law_names" (defArgs s_l_names) (defBody s_l_names) (defScope s_l_names) .none kV31 dc31 pm31 an31 cd31 ct31 | 32 => PySem.W.fnOf "_law_town" "_law_town" (defArgs s_l_town) (defBody s_l_town) (defScope s_l_town) .none kV32 dc32 pm32 an32 cd32 ct32 | 33 => PySem.W.fnOf "_law_room" "_law_room" (defArgs s_l_room) (defBody s_l_room) (defScope s_l_room) .none kV33 dc33 pm33 an33 cd33 ct33 | 34 => PySem.W.fnOf "_law_job" "_law_job" (defArgs s_l_job) (defBody s_l_job) (defScope s_l_job) .none kV34 dc34 pm34 an34 cd34 ct34 | 35 => PySem.W.fnOf "_law_world" "_law_world" (defArgs s_l_world) (defBody s_l_world) (defScope s_l_world) .none kV35 dc35 pm35 an35 cd35 ct35 | 36 => PySem.W.fnOf "_law_called" "_law_called" (defArgs s_l_called) (defBody s_l_called) (defScope s_l_called) .none kV36 dc36 pm36 an36 cd36 ct36 | 37 => PySem.W.fnOf "_law_bases" "_law_bases" (defArgs s_l_bases) (defBody s_l_bases) (defScope s_l_bases) .none kV37 dc37 pm37 an37 cd37 ct37 | 38 => PySem.W.fnOf "_law_all_rows" "_law_all_rows" (defArgs s_l_all_rows) (defBody s_l_all_rows) (defScope s_l_all_rows) .none kV38 dc38 pm38 an38 cd38 ct38 | 39 => PySem.W.fnOf "_law_left" "_law_left" (defArgs s_l_left) (defBody s_l_left) (defScope s_l_left) .none kV39 dc39 pm39 an39 cd39 ct39 | 40 => PySem.W.fnOf "_law_small_book" "_law_small_book" (defArgs s_l_small_book) (defBody s_l_small_book) (defScope s_l_small_book) .none kV40 dc40 pm40 an40 cd40 ct40 | 41 => PySem.W.fnOf "_law_is_house" "_law_is_house" (defArgs s_l_is_house) (defBody s_l_is_house) (defScope s_l_is_house) .none kV41 dc41 pm41 an41 cd41 ct41 | 42 => PySem.W.fnOf "_law_is_town" "_law_is_town" (defArgs s_l_is_town) (defBody s_l_is_town) (defScope s_l_is_town) .none kV42 dc42 pm42 an42 cd42 ct42 | 43 => PySem.W.fnOf "_law_whole" "_law_whole" (defArgs s_l_whole) (defBody s_l_whole) (defScope s_l_whole) .none kV43 dc43 pm43 an43 cd43 ct43 | 44 => PySem.W.fnOf "_law_is_row" "_law_is_row" (defArgs s_l_is_row) (defBody s_l_is_row) (defScope s_l_is_row) .none kV44 dc44 pm44 an44 cd44 ct44 | 45 => PySem.W.fnOf "_law_do_clash" "_law_do_clash" (defArgs s_l_do_clash) (defBody s_l_do_clash) (defScope s_l_do_clash) .none kV45 dc45 pm45 an45 cd45 ct45 | 46 => PySem.W.fnOf "_law_first_clash" "_law_first_clash" (defArgs s_l_first_clash) (defBody s_l_first_clash) (defScope s_l_first_clash) .none kV46 dc46 pm46 an46 cd46 ct46 | 47 => PySem.W.fnOf "_law_few_row" "_law_few_row" (defArgs s_l_few_row) (defBody s_l_few_row) (defScope s_l_few_row) .none kV47 dc47 pm47 an47 cd47 ct47 | 48 => PySem.W.fnOf "_law_town_text" "_law_town_text" (defArgs s_l_town_text) (defBody s_l_town_text) (defScope s_l_town_text) .none kV48 dc48 pm48 an48 cd48 ct48 | 49 => PySem.W.fnOf "_law_row_text" "_law_row_text" (defArgs s_l_row_text) (defBody s_l_row_text) (defScope s_l_row_text) .none kV49 dc49 pm49 an49 cd49 ct49 | 50 => PySem.W.fnOf "_law_number_in" "_law_number_in" (defArgs s_l_number_in) (defBody s_l_number_in) (defScope s_l_number_in) .none kV50 dc50 pm50 an50 cd50 ct50 | 51 => PySem.W.fnOf "_law_town_in" "_law_town_in" (defArgs s_l_town_in) (defBody s_l_town_in) (defScope s_l_town_in) .none kV51 dc51 pm51 an51 cd51 ct51 | 52 => PySem.W.fnOf "_law_row_in" "_law_row_in" (defArgs s_l_row_in) (defBody s_l_row_in) (defScope s_l_row_in) .none kV52 dc52 pm52 an52 cd52 ct52 | 53 => PySem.W.fnOf "_law_same" "_law_same" (defArgs s_l_same) (defBody s_l_same) (defScope s_l_same) .none kV53 dc53 pm53 an53 cd53 ct53 | 54 => PySem.W.fnOf "_law_told" "_law_told" (defArgs s_l_told) (defBody s_l_told) (defScope s_l_told) .none kV54 dc54 pm54 an54 cd54 ct54 | 55 => PySem.W.fnOf "_law_due" "_law_due" (defArgs s_l_due) (defBody s_l_due) (defScope s_l_due) .none kV55 dc55 pm55 an55 cd55 ct55 | 56 => PySem.W.fnOf "_law_bent_line" "_law_bent_line" (defArgs s_l_bent_line) (defBody s_l_bent_line) (defScope s_l_bent_line) .none kV56 dc56 pm56 an56 cd56 ct56 | 57 => PySem.W.fnOf "_law_bent" "_law_bent" (defArgs s_l_bent) (defBody s_l_bent) (defScope s_l_bent) .none kV57 dc57 pm57 an57 cd57 ct57 | 58 => PySem.W.fnOf "law" "law" (defArgs s_law) (defBody s_law) (defScope s_law) .none kV58 dc58 pm58 an58 cd58 ct58 | 60 => PySem.W.fnOf "__init__" "NoRow.__init__" (defArgs s_i_NoRow) (defBody s_i_NoRow) (defScope s_i_NoRow) .none xkV0 xdc0 xpm0 xan0 xcd0 xct0 | 62 => PySem.W.fnOf "__init__" "Clash.__init__" (defArgs s_i_Clash) (defBody s_i_Clash) (defScope s_i_Clash) .none xkV1 xdc1 xpm1 xan1 xcd1 xct1 | 64 => PySem.W.fnOf "__init__" "NoText.__init__" (defArgs s_i_NoText) (defBody s_i_NoText) (defScope s_i_NoText) .none xkV2 xdc2 xpm2 xan2 xcd2 xct2 | _ => PySem.W.fnOf "law" "law" (defArgs s_law) (defBody s_law) (defScope s_law) .none kV58 dc58 pm58 an58 cd58 ct58
  have T : Txt K mg af fd := { g_is_whole_from := PySem.W.mg_of X G a0, F_is_whole_from := F0, b_is_whole_from := b0, g_is_time := PySem.W.mg_of X G a1, F_is_time := F1, b_is_time := b1, g_is_number := PySem.W.mg_of X G a2, F_is_number := F2, b_is_number := b2, g_is_count := PySem.W.mg_of X G a3, F_is_count := F3, b_is_count := b3, g_is_house := PySem.W.mg_of X G a4, F_is_house := F4, b_is_house := b4, d_is_house := rfl, g_is_rising := PySem.W.mg_of X G a5, F_is_rising := F5, b_is_rising := b5, d_is_rising := rfl, g_are_rising_houses := PySem.W.mg_of X G a6, F_are_rising_houses := F6, b_are_rising_houses := b6, d_are_rising_houses := rfl, g_is_town := PySem.W.mg_of X G a7, F_is_town := F7, b_is_town := b7, d_is_town := rfl, g_is_span := PySem.W.mg_of X G a8, F_is_span := F8, b_is_span := b8, g_is_ask_row := PySem.W.mg_of X G a9, F_is_ask_row := F9, b_is_ask_row := b9, g_is_job_row := PySem.W.mg_of X G a10, F_is_job_row := F10, b_is_job_row := b10, g_is_all_row := PySem.W.mg_of X G a11, F_is_all_row := F11, b_is_all_row := b11, g_is_row := PySem.W.mg_of X G a12, F_is_row := F12, b_is_row := b12, g_is_out_of_order := PySem.W.mg_of X G a13, F_is_out_of_order := F13, b_is_out_of_order := b13, g_do_asks_clash := PySem.W.mg_of X G a14, F_do_asks_clash := F14, b_do_asks_clash := b14, g_do_jobs_clash := PySem.W.mg_of X G a15, F_do_jobs_clash := F15, b_do_jobs_clash := b15, g_do_job_and_ask_clash := PySem.W.mg_of X G a16, F_do_job_and_ask_clash := F16, b_do_job_and_ask_clash := b16, g_does_all_row_clash := PySem.W.mg_of X G a17, F_does_all_row_clash := F17, b_does_all_row_clash := b17, g_do_alike_sorts_clash := PySem.W.mg_of X G a18, F_do_alike_sorts_clash := F18, b_do_alike_sorts_clash := b18, g_do_clash := PySem.W.mg_of X G a19, F_do_clash := F19, b_do_clash := b19, g_need_rows := PySem.W.mg_of X G a20, F_need_rows := F20, b_need_rows := b20, g_need_book := PySem.W.mg_of X G a21, F_need_book := F21, b_need_book := b21, g_read_number := PySem.W.mg_of X G a22, F_read_number := F22, b_read_number := b22, d_read_number := rfl, g_read_thing := PySem.W.mg_of X G a23, F_read_thing := F23, b_read_thing := b23, g_read_row := PySem.W.mg_of X G a24, F_read_row := F24, b_read_row := b24, g_read_town := PySem.W.mg_of X G a25, F_read_town := F25, b_read_town := b25, g_read_book := PySem.W.mg_of X G a26, F_read_book := F26, b_read_book := b26, g_l_spread := PySem.W.mg_of X G a27, F_l_spread := F27, b_l_spread := b27, g_l_open := PySem.W.mg_of X G a28, F_l_open := F28, b_l_open := b28, g_l_anew := PySem.W.mg_of X G a29, F_l_anew := F29, b_l_anew := b29, g_l_take := PySem.W.mg_of X G a30, F_l_take := F30, b_l_take := b30, g_l_names := PySem.W.mg_of X G a31, F_l_names := F31, b_l_names := b31, g_l_town := PySem.W.mg_of X G a32, F_l_town := F32, b_l_town := b32, g_l_room := PySem.W.mg_of X G a33, F_l_room := F33, b_l_room := b33, g_l_job := PySem.W.mg_of X G a34, F_l_job := F34, b_l_job := b34, g_l_world := PySem.W.mg_of X G a35, F_l_world := F35, b_l_world := b35, g_l_called := PySem.W.mg_of X G a36, F_l_called := F36, b_l_called := b36, g_l_bases := PySem.W.mg_of X G a37, F_l_bases := F37, b_l_bases := b37, g_l_all_rows := PySem.W.mg_of X G a38, F_l_all_rows := F38, b_l_all_rows := b38, g_l_left := PySem.W.mg_of X G a39, F_l_left := F39, b_l_left := b39, g_l_small_book := PySem.W.mg_of X G a40, F_l_small_book := F40, b_l_small_book := b40, g_l_is_house := PySem.W.mg_of X G a41, F_l_is_house := F41, b_l_is_house := b41, g_l_is_town := PySem.W.mg_of X G a42, F_l_is_town := F42, b_l_is_town := b42, g_l_whole := PySem.W.mg_of X G a43, F_l_whole := F43, b_l_whole := b43, g_l_is_row := PySem.W.mg_of X G a44, F_l_is_row := F44, b_l_is_row := b44, g_l_do_clash := PySem.W.mg_of X G a45, F_l_do_clash := F45, b_l_do_clash := b45, g_l_first_clash := PySem.W.mg_of X G a46, F_l_first_clash := F46, b_l_first_clash := b46, g_l_few_row := PySem.W.mg_of X G a47, F_l_few_row := F47, b_l_few_row := b47, g_l_town_text := PySem.W.mg_of X G a48, F_l_town_text := F48, b_l_town_text := b48, g_l_row_text := PySem.W.mg_of X G a49, F_l_row_text := F49, b_l_row_text := b49, g_l_number_in := PySem.W.mg_of X G a50, F_l_number_in := F50, b_l_number_in := b50, g_l_town_in := PySem.W.mg_of X G a51, F_l_town_in := F51, b_l_town_in := b51, g_l_row_in := PySem.W.mg_of X G a52, F_l_row_in := F52, b_l_row_in := b52, g_l_same := PySem.W.mg_of X G a53, F_l_same := F53, b_l_same := b53, g_l_told := PySem.W.mg_of X G a54, F_l_told := F54, b_l_told := b54, g_l_due := PySem.W.mg_of X G a55, F_l_due := F55, b_l_due := b55, g_l_bent_line := PySem.W.mg_of X G a56, F_l_bent_line := F56, b_l_bent_line := b56, g_l_bent := PySem.W.mg_of X G a57, F_l_bent := F57, b_l_bent := b57, g_law := PySem.W.mg_of X G a58, F_law := F58, b_law := b58, e_NoRow := ⟨PySem.W.mg_of X G ea0, ⟨⟨_, _, _, _, _, _, _, _, _, _, _, _, _, _, _, eb0, rfl⟩, ec0, el0, em0, ek0⟩, ef0, eg0, FX0, bX0, fun f hf => by simp only [List.mem_cons, List.not_mem_nil, or_false] at hf; rcases hf with rfl <;> assumption, ⟨ed0, ee0, el0, en0⟩⟩, e_Clash := ⟨PySem.W.mg_of X G ea1, ⟨⟨_, _, _, _, _, _, _, _, _, _, _, _, _, _, _, eb1, rfl⟩, ec1, el1, em1, ek1⟩, ef1, eg1, FX1, bX1, fun f hf => by simp only [List.mem_cons, List.not_mem_nil, or_false] at hf; rcases hf with rfl | rfl <;> assumption, ⟨ed1, ee1, el1, en1⟩⟩, e_NoText := ⟨PySem.W.mg_of X G ea2, ⟨⟨_, _, _, _, _, _, _, _, _, _, _, _, _, _, _, eb2, rfl⟩, ec2, el2, em2, ek2⟩, ef2, eg2, FX2, bX2, fun f hf => by simp only [List.mem_cons, List.not_mem_nil, or_false] at hf; rcases hf with rfl <;> assumption, ⟨ed2, ee2, el2, en2⟩⟩, x_NoRow_NoRow := Xc.exm_two el0 eo0 em0 es0, x_NoRow_Clash := Xc.exm_two el1 eo1 em1 es1, x_NoRow_NoText := Xc.exm_two el2 eo2 em2 es2, x_Clash_NoRow := Xc.exm_two el0 eo0 em0 es3, x_Clash_Clash := Xc.exm_two el1 eo1 em1 es4, x_Clash_NoText := Xc.exm_two el2 eo2 em2 es5, x_NoText_NoRow := Xc.exm_two el0 eo0 em0 es6, x_NoText_Clash := Xc.exm_two el1 eo1 em1 es7, x_NoText_NoText := Xc.exm_two el2 eo2 em2 es8, m_all := PySem.W.mg_none_of X G z0, m_bool := PySem.W.mg_none_of X G z1, m_dict := PySem.W.mg_none_of X G z2, m_enumerate := PySem.W.mg_none_of X G z3, m_int := PySem.W.mg_none_of X G z4, m_isinstance := PySem.W.mg_none_of X G z5, m_len := PySem.W.mg_none_of X G z6, m_list := PySem.W.mg_none_of X G z7, m_max := PySem.W.mg_none_of X G z8, m_range := PySem.W.mg_none_of X G z9, m_set := PySem.W.mg_none_of X G z10, m_sorted := PySem.W.mg_none_of X G z11, m_str := PySem.W.mg_none_of X G z12, m_tuple := PySem.W.mg_none_of X G z13, m_zip := PySem.W.mg_none_of X G z14, c_FIGURES := ⟨_, PySem.W.mg_of X G q0⟩, c_LETTERS := ⟨_, PySem.W.mg_of X G q1⟩, c_MOST_COUNT := ⟨_, PySem.W.mg_of X G q2⟩, c_MOST_FIGURES := ⟨_, PySem.W.mg_of X G q3⟩, c_MOST_HOUSES := ⟨_, PySem.W.mg_of X G q4⟩, c_MOST_LETTERS := ⟨_, PySem.W.mg_of X G q5⟩, c_MOST_NUMBER := ⟨_, PySem.W.mg_of X G q6⟩, c_MOST_TIME := ⟨_, PySem.W.mg_of X G q7⟩ }
  obtain ⟨dd4, te4⟩ := tr4
  obtain ⟨tc4, th4⟩ := tq4 _ _ _ _ te4 ts4
  obtain ⟨dd5, te5⟩ := tr5
  obtain ⟨tc5, th5⟩ := tq5 _ _ _ _ te5 ts5
  obtain ⟨dd6, te6⟩ := tr6
  obtain ⟨tc6, th6⟩ := tq6 _ _ _ _ te6 ts6
  obtain ⟨dd7, te7⟩ := tr7
  obtain ⟨tc7, th7⟩ := tq7 _ _ _ _ te7 ts7
  obtain ⟨dd22, te22⟩ := tr22
  obtain ⟨tc22, th22⟩ := tq22 _ _ _ _ te22 ts22
  have hA : ∀ p ∈ ([(cc4, tt4), (cc5, tt5), (cc6, tt6), (cc7, tt7), (cc22, tt22)] : List (Addr × Addr)), h.get? p.2 = some { cls := .none, data := .fields #[] } := by
    intro p hp
    simp only [List.mem_cons, List.not_mem_nil, or_false] at hp
    rcases hp with rfl | rfl | rfl | rfl | rfl
    · exact th4
    · exact th5
    · exact th6
    · exact th7
    · exact th22
  have hN : ∀ p ∈ ([(cc4, tt4), (cc5, tt5), (cc6, tt6), (cc7, tt7), (cc22, tt22)] : List (Addr × Addr)), K.lookup p.2 = none := by
    intro p hp
    simp only [List.mem_cons, List.not_mem_nil, or_false] at hp
    rcases hp with rfl | rfl | rfl | rfl | rfl
    · exact tn4
    · exact tn5
    · exact tn6
    · exact tn7
    · exact tn22
  have hC : ∀ p ∈ ([(cc4, tt4), (cc5, tt5), (cc6, tt6), (cc7, tt7), (cc22, tt22)] : List (Addr × Addr)), PySem.W.CodeHd h p.1 p.2 := by
    intro p hp
    simp only [List.mem_cons, List.not_mem_nil, or_false] at hp
    rcases hp with rfl | rfl | rfl | rfl | rfl
    · exact tc4
    · exact tc5
    · exact tc6
    · exact tc7
    · exact tc22
  refine ⟨fd 58, [(cc4, tt4), (cc5, tt5), (cc6, tt6), (cc7, tt7), (cc22, tt22)], sp_law af K, hA, hN, hC, fun s v => .of_eq rfl, fun H a ns hl _ hH hS => ⟨a, ns, rfl, hS, hl, fun i hi => ?_, fun _ => rfl⟩, fun base _ _ hB => ?_⟩
  · simp only [tabIx, List.mem_cons, List.not_mem_nil, or_false] at hi
    rcases hi with rfl | rfl | rfl | rfl | rfl
    · exact ⟨#[], hH (cc4, tt4) (by simp), True.intro⟩
    · exact ⟨#[], hH (cc5, tt5) (by simp), True.intro⟩
    · exact ⟨#[], hH (cc6, tt6) (by simp), True.intro⟩
    · exact ⟨#[], hH (cc7, tt7) (by simp), True.intro⟩
    · exact ⟨#[], hH (cc22, tt22) (by simp), True.intro⟩
  · have B : TxtB base mg af := { t_is_house := let t := hB (cc4, tt4) (by simp); ⟨t.code, t.bm, t.gP⟩, t_is_rising := let t := hB (cc5, tt5) (by simp); ⟨t.code, t.bm, t.gP⟩, t_are_rising_houses := let t := hB (cc6, tt6) (by simp); ⟨t.code, t.bm, t.gP⟩, t_is_town := let t := hB (cc7, tt7) (by simp); ⟨t.code, t.bm, t.gP⟩, t_read_number := let t := hB (cc22, tt22) (by simp); ⟨t.code, t.bm, t.gP⟩ }
    exact ok_law T B
end Gp
open PySem PySem.W PyProof.Rows
set_option maxHeartbeats 0 in
theorem PySem.Challenge.cw_gapcalls_k78_texts_judged_holds : PySem.Challenge.rw_gapcalls_k78_texts_judged.Holds := by
  w_on; o_law; k_head; (case hw => w_witness2)
  k_fill
  refine Gp.Gx.walk_tab (l := PySem.Challenge.rw_gapcalls_k78_texts_judged) (n := 63) (k := 10) (x := "script") (CX := fun _ => L2.CX0) rfl (by decide) rfl ⟨rfl, by decide, by decide⟩ (fun w h Y => PySem.W.kIn_of Y) ?F (fun _ _ _ _ _ h => h)
  case F =>
    intro w mg fa h Y0 KX G hmg TT
    refine' Gp.all_mk KX G hmg ?a0 ?l0 ?c0 ?k0 ?a1 ?l1 ?c1 ?k1 ?a2 ?l2 ?c2 ?k2 ?a3 ?l3 ?c3 ?k3 ?a4 ?l4 ?c4 ?k4 ?a5 ?l5 ?c5 ?k5 ?a6 ?l6 ?c6 ?k6 ?a7 ?l7 ?c7 ?k7 ?a8 ?l8 ?c8 ?k8 ?a9 ?l9 ?c9 ?k9 ?a10 ?l10 ?c10 ?k10 ?a11 ?l11 ?c11 ?k11 ?a12 ?l12 ?c12 ?k12 ?a13 ?l13 ?c13 ?k13 ?a14 ?l14 ?c14 ?k14 ?a15 ?l15 ?c15 ?k15 ?a16 ?l16 ?c16 ?k16 ?a17 ?l17 ?c17 ?k17 ?a18 ?l18 ?c18 ?k18 ?a19 ?l19 ?c19 ?k19 ?a20 ?l20 ?c20 ?k20 ?a21 ?l21 ?c21 ?k21 ?a22 ?l22 ?c22 ?k22 ?a23 ?l23 ?c23 ?k23 ?a24 ?l24 ?c24 ?k24 ?a25 ?l25 ?c25 ?k25 ?a26 ?l26 ?c26 ?k26 ?a27 ?l27 ?c27 ?k27 ?a28 ?l28 ?c28 ?k28 ?a29 ?l29 ?c29 ?k29 ?a30 ?l30 ?c30 ?k30 ?a31 ?l31 ?c31 ?k31 ?a32 ?l32 ?c32 ?k32 ?a33 ?l33 ?c33 ?k33 ?a34 ?l34 ?c34 ?k34 ?a35 ?l35 ?c35 ?k35 ?a36 ?l36 ?c36 ?k36 ?a37 ?l37 ?c37 ?k37 ?a38 ?l38 ?c38 ?k38 ?a39 ?l39 ?c39 ?k39 ?a40 ?l40 ?c40 ?k40 ?a41 ?l41 ?c41 ?k41 ?a42 ?l42 ?c42 ?k42 ?a43 ?l43 ?c43 ?k43 ?a44 ?l44 ?c44 ?k44 ?a45 ?l45 ?c45 ?k45 ?a46 ?l46 ?c46 ?k46 ?a47 ?l47 ?c47 ?k47 ?a48 ?l48 ?c48 ?k48 ?a49 ?l49 ?c49 ?k49 ?a50 ?l50 ?c50 ?k50 ?a51 ?l51 ?c51 ?k51 ?a52 ?l52 ?c52 ?k52 ?a53 ?l53 ?c53 ?k53 ?a54 ?l54 ?c54 ?k54 ?a55 ?l55 ?c55 ?k55 ?a56 ?l56 ?c56 ?k56 ?a57 ?l57 ?c57 ?k57 ?a58 ?l58 ?c58 ?k58 ?ea0 ?eb0 ?ec0 ?ed0 ?ee0 ?ef0 ?eg0 ?eh0 ?ei0 ?ej0 ?ek0 ?el0 ?em0 ?en0 ?eo0 ?ep0_0 ?ea1 ?eb1 ?ec1 ?ed1 ?ee1 ?ef1 ?eg1 ?eh1 ?ei1 ?ej1 ?ek1 ?el1 ?em1 ?en1 ?eo1 ?ep1_0 ?ep1_1 ?ea2 ?eb2 ?ec2 ?ed2 ?ee2 ?ef2 ?eg2 ?eh2 ?ei2 ?ej2 ?ek2 ?el2 ?em2 ?en2 ?eo2 ?ep2_0 ?es0 ?es1 ?es2 ?es3 ?es4 ?es5 ?es6 ?es7 ?es8 ?z0 ?z1 ?z2 ?z3 ?z4 ?z5 ?z6 ?z7 ?z8 ?z9 ?z10 ?z11 ?z12 ?z13 ?z14 ?q0 ?q1 ?q2 ?q3 ?q4 ?q5 ?q6 ?q7 ?tq4 ?tr4 ?ts4 ?tn4 ?tq5 ?tr5 ?ts5 ?tn5 ?tq6 ?tr6 ?ts6 ?tn6 ?tq7 ?tr7 ?ts7 ?tn7 ?tq22 ?tr22 ?ts22 ?tn22
    (case a0 => k_is)
    (case l0 => k_is)
    (case c0 => k_is)
    (case k0 => k_is)
    (case a1 => k_is)
    (case l1 => k_is)
    (case c1 => k_is)
    (case k1 => k_is)
    (case a2 => k_is)
    (case l2 => k_is)
    (case c2 => k_is)
    (case k2 => k_is)
    (case a3 => k_is)
    (case l3 => k_is)
    (case c3 => k_is)
    (case k3 => k_is)
    (case a4 => k_is)
    (case l4 => k_is)
    (case c4 => k_is)
    (case k4 => k_is)
    (case a5 => k_is)
    (case l5 => k_is)
    (case c5 => k_is)
    (case k5 => k_is)
    (case a6 => k_is)
    (case l6 => k_is)
    (case c6 => k_is)
    (case k6 => k_is)
    (case a7 => k_is)
    (case l7 => k_is)
    (case c7 => k_is)
    (case k7 => k_is)
    (case a8 => k_is)
    (case l8 => k_is)
    (case c8 => k_is)
    (case k8 => k_is)
    (case a9 => k_is)
    (case l9 => k_is)
    (case c9 => k_is)
    (case k9 => k_is)
    (case a10 => k_is)
    (case l10 => k_is)
    (case c10 => k_is)
    (case k10 => k_is)
    (case a11 => k_is)
    (case l11 => k_is)
    (case c11 => k_is)
    (case k11 => k_is)
    (case a12 => k_is)
    (case l12 => k_is)
    (case c12 => k_is)
    (case k12 => k_is)
    (case a13 => k_is)
    (case l13 => k_is)
    (case c13 => k_is)
    (case k13 => k_is)
    (case a14 => k_is)
    (case l14 => k_is)
    (case c14 => k_is)
    (case k14 => k_is)
    (case a15 => k_is)
    (case l15 => k_is)
    (case c15 => k_is)
    (case k15 => k_is)
    (case a16 => k_is)
    (case l16 => k_is)
    (case c16 => k_is)
    (case k16 => k_is)
    (case a17 => k_is)
    (case l17 => k_is)
    (case c17 => k_is)
    (case k17 => k_is)
    (case a18 => k_is)
    (case l18 => k_is)
    (case c18 => k_is)
    (case k18 => k_is)
    (case a19 => k_is)
    (case l19 => k_is)
    (case c19 => k_is)
    (case k19 => k_is)
    (case a20 => k_is)
    (case l20 => k_is)
    (case c20 => k_is)
    (case k20 => k_is)
    (case a21 => k_is)
    (case l21 => k_is)
    (case c21 => k_is)
    (case k21 => k_is)
    (case a22 => k_is)
    (case l22 => k_is)
    (case c22 => k_is)
    (case k22 => k_is)
    (case a23 => k_is)
    (case l23 => k_is)
    (case c23 => k_is)
    (case k23 => k_is)
    (case a24 => k_is)
    (case l24 => k_is)
    (case c24 => k_is)
    (case k24 => k_is)
    (case a25 => k_is)
    (case l25 => k_is)
    (case c25 => k_is)
    (case k25 => k_is)
    (case a26 => k_is)
    (case l26 => k_is)
    (case c26 => k_is)
    (case k26 => k_is)
    (case a27 => k_is)
    (case l27 => k_is)
    (case c27 => k_is)
    (case k27 => k_is)
    (case a28 => k_is)
    (case l28 => k_is)
    (case c28 => k_is)
    (case k28 => k_is)
    (case a29 => k_is)
    (case l29 => k_is)
    (case c29 => k_is)
    (case k29 => k_is)
    (case a30 => k_is)
    (case l30 => k_is)
    (case c30 => k_is)
    (case k30 => k_is)
    (case a31 => k_is)
    (case l31 => k_is)
    (case c31 => k_is)
    (case k31 => k_is)
    (case a32 => k_is)
    (case l32 => k_is)
    (case c32 => k_is)
    (case k32 => k_is)
    (case a33 => k_is)
    (case l33 => k_is)
    (case c33 => k_is)
    (case k33 => k_is)
    (case a34 => k_is)
    (case l34 => k_is)
    (case c34 => k_is)
    (case k34 => k_is)
    (case a35 => k_is)
    (case l35 => k_is)
    (case c35 => k_is)
    (case k35 => k_is)
    (case a36 => k_is)
    (case l36 => k_is)
    (case c36 => k_is)
    (case k36 => k_is)
    (case a37 => k_is)
    (case l37 => k_is)
    (case c37 => k_is)
    (case k37 => k_is)
    (case a38 => k_is)
    (case l38 => k_is)
    (case c38 => k_is)
    (case k38 => k_is)
    (case a39 => k_is)
    (case l39 => k_is)
    (case c39 => k_is)
    (case k39 => k_is)
    (case a40 => k_is)
    (case l40 => k_is)
    (case c40 => k_is)
    (case k40 => k_is)
    (case a41 => k_is)
    (case l41 => k_is)
    (case c41 => k_is)
    (case k41 => k_is)
    (case a42 => k_is)
    (case l42 => k_is)
    (case c42 => k_is)
    (case k42 => k_is)
    (case a43 => k_is)
    (case l43 => k_is)
    (case c43 => k_is)
    (case k43 => k_is)
    (case a44 => k_is)
    (case l44 => k_is)
    (case c44 => k_is)
    (case k44 => k_is)
    (case a45 => k_is)
    (case l45 => k_is)
    (case c45 => k_is)
    (case k45 => k_is)
    (case a46 => k_is)
    (case l46 => k_is)
    (case c46 => k_is)
    (case k46 => k_is)
    (case a47 => k_is)
    (case l47 => k_is)
    (case c47 => k_is)
    (case k47 => k_is)
    (case a48 => k_is)
    (case l48 => k_is)
    (case c48 => k_is)
    (case k48 => k_is)
    (case a49 => k_is)
    (case l49 => k_is)
    (case c49 => k_is)
    (case k49 => k_is)
    (case a50 => k_is)
    (case l50 => k_is)
    (case c50 => k_is)
    (case k50 => k_is)
    (case a51 => k_is)
    (case l51 => k_is)
    (case c51 => k_is)
    (case k51 => k_is)
    (case a52 => k_is)
    (case l52 => k_is)
    (case c52 => k_is)
    (case k52 => k_is)
    (case a53 => k_is)
    (case l53 => k_is)
    (case c53 => k_is)
    (case k53 => k_is)
    (case a54 => k_is)
    (case l54 => k_is)
    (case c54 => k_is)
    (case k54 => k_is)
    (case a55 => k_is)
    (case l55 => k_is)
    (case c55 => k_is)
    (case k55 => k_is)
    (case a56 => k_is)
    (case l56 => k_is)
    (case c56 => k_is)
    (case k56 => k_is)
    (case a57 => k_is)
    (case l57 => k_is)
    (case c57 => k_is)
    (case k57 => k_is)
    (case a58 => k_is)
    (case l58 => k_is)
    (case c58 => k_is)
    (case k58 => k_is)
    (case ea0 => k_is)
    (case eb0 => k_is)
    (case ec0 => k_is)
    (case ed0 => k_is)
    (case ee0 => k_is)
    (case ef0 => k_is)
    (case eg0 => k_is)
    (case eh0 => k_is)
    (case ei0 => k_is)
    (case ej0 => k_is)
    (case ek0 => k_is)
    (case el0 => k_is)
    (case em0 => k_is)
    (case en0 => k_is)
    (case eo0 => k_is)
    (case ep0_0 => k_is)
    (case ea1 => k_is)
    (case eb1 => k_is)
    (case ec1 => k_is)
    (case ed1 => k_is)
    (case ee1 => k_is)
    (case ef1 => k_is)
    (case eg1 => k_is)
    (case eh1 => k_is)
    (case ei1 => k_is)
    (case ej1 => k_is)
    (case ek1 => k_is)
    (case el1 => k_is)
    (case em1 => k_is)
    (case en1 => k_is)
    (case eo1 => k_is)
    (case ep1_0 => k_is)
    (case ep1_1 => k_is)
    (case ea2 => k_is)
    (case eb2 => k_is)
    (case ec2 => k_is)
    (case ed2 => k_is)
    (case ee2 => k_is)
    (case ef2 => k_is)
    (case eg2 => k_is)
    (case eh2 => k_is)
    (case ei2 => k_is)
    (case ej2 => k_is)
    (case ek2 => k_is)
    (case el2 => k_is)
    (case em2 => k_is)
    (case en2 => k_is)
    (case eo2 => k_is)
    (case ep2_0 => k_is)
    (case es0 => first | k_is | rfl)
    (case es1 => first | k_is | rfl)
    (case es2 => first | k_is | rfl)
    (case es3 => first | k_is | rfl)
    (case es4 => first | k_is | rfl)
    (case es5 => first | k_is | rfl)
    (case es6 => first | k_is | rfl)
    (case es7 => first | k_is | rfl)
    (case es8 => first | k_is | rfl)
    (case z0 => k_is)
    (case z1 => k_is)
    (case z2 => k_is)
    (case z3 => k_is)
    (case z4 => k_is)
    (case z5 => k_is)
    (case z6 => k_is)
    (case z7 => k_is)
    (case z8 => k_is)
    (case z9 => k_is)
    (case z10 => k_is)
    (case z11 => k_is)
    (case z12 => k_is)
    (case z13 => k_is)
    (case z14 => k_is)
    (case q0 => k_is)
    (case q1 => k_is)
    (case q2 => k_is)
    (case q3 => k_is)
    (case q4 => k_is)
    (case q5 => k_is)
    (case q6 => k_is)
    (case q7 => k_is)
    (case tq4 => exact TT)
    (case tr4 => exact ⟨_, rfl⟩)
    (case ts4 => first | k_is | rfl)
    (case tn4 => first | k_is | rfl)
    (case tq5 => exact TT)
    (case tr5 => exact ⟨_, rfl⟩)
    (case ts5 => first | k_is | rfl)
    (case tn5 => first | k_is | rfl)
    (case tq6 => exact TT)
    (case tr6 => exact ⟨_, rfl⟩)
    (case ts6 => first | k_is | rfl)
    (case tn6 => first | k_is | rfl)
    (case tq7 => exact TT)
    (case tr7 => exact ⟨_, rfl⟩)
    (case ts7 => first | k_is | rfl)
    (case tn7 => first | k_is | rfl)
    (case tq22 => exact TT)
    (case tr22 => exact ⟨_, rfl⟩)
    (case ts22 => first | k_is | rfl)
    (case tn22 => first | k_is | rfl)
