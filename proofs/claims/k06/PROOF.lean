import PyProof.Rows.All
import HandS.ExcValue
import HandS.ExcIs
import KE.KExcIs
import HandS.RaiseMore
import Wide.All
import OpenK.AllK
import Wide.FinOn
import PySem.Challenge.RW_gapcalls_k06_refusals_apart
import HandS.ForMost
import HandS.Wide
import HandS.Codes
import HandS.Walk
import HandS.NoneIn
import HandS.Style
import HandS.IsInst
import HandS.SortOrd
import HandS.SortRule
import KE.LtData
import HandS.ForExc
import HandS.ExcInit
import HandS.ExcField
import HandS.More
import HandS.Deep
import HandS.TupAny
import HandS.TupLe
import HandS.Zip
import KE.GoesZip
import KE.GoesMore
import KE.GoesEnum

set_option Elab.async false
set_option linter.all false
set_option maxRecDepth 100000
set_option maxHeartbeats 4000000
namespace Gp
open PySem PySem.Spec PyProof.Rows L2
def topS (i : Nat) : Stmt := PySem.Challenge.pw_gapcalls_k06_refusals_apart.main.body.getD i (.Pass ⟨0, 0, 0, 0⟩)
abbrev s_own_copy : Stmt := topS 1
theorem sc_own_copy : FnScope ["things"] ["things"] (defScope s_own_copy) := ⟨rfl, rfl, rfl, by decide +kernel, rfl, by decide +kernel, by decide +kernel⟩
abbrev s_l_spread : Stmt := topS 13
theorem sc_l_spread : FnScope ["cell", "at", "one", "two", "three"] ["cell", "at"] (defScope s_l_spread) := ⟨rfl, rfl, rfl, by decide +kernel, rfl, by decide +kernel, by decide +kernel⟩
abbrev s_l_open : Stmt := topS 14
theorem sc_l_open : FnScope ["script", "cells", "k", "cell"] ["script"] (defScope s_l_open) := ⟨rfl, rfl, rfl, by decide +kernel, rfl, by decide +kernel, by decide +kernel⟩
abbrev s_l_take : Stmt := topS 16
theorem sc_l_take : FnScope ["pen", "many", "at", "cell", "found"] ["pen", "many"] (defScope s_l_take) := ⟨rfl, rfl, rfl, by decide +kernel, rfl, by decide +kernel, by decide +kernel⟩
abbrev s_l_number : Stmt := topS 18
theorem sc_l_number : FnScope ["pen"] ["pen"] (defScope s_l_number) := ⟨rfl, rfl, rfl, by decide +kernel, rfl, by decide +kernel, by decide +kernel⟩
abbrev s_l_same : Stmt := topS 19
theorem sc_l_same : FnScope ["found", "due", "one", "other"] ["found", "due"] (defScope s_l_same) := ⟨rfl, rfl, rfl, by decide +kernel, rfl, by decide +kernel, by decide +kernel⟩
abbrev s_l_sorts : Stmt := topS 20
theorem sc_l_sorts : FnScope ["caught", "some"] ["caught"] (defScope s_l_sorts) := ⟨rfl, rfl, rfl, by decide +kernel, rfl, by decide +kernel, by decide +kernel⟩
abbrev s_law : Stmt := topS 21
theorem sc_law : FnScope ["script", "pen", "one", "some", "links", "made", "number", "k", "fields", "more", "rings", "short"] ["script"] (defScope s_law) := ⟨rfl, rfl, rfl, by decide +kernel, rfl, by decide +kernel, by decide +kernel⟩
abbrev s_i_NoRow : Stmt := inClass (topS 3) 0
theorem sc_init_NoRow : FnScope ["self", "number"] ["self", "number"] (defScope s_i_NoRow) := ⟨rfl, rfl, rfl, by decide +kernel, rfl, by decide +kernel, by decide +kernel⟩
abbrev s_i_NoText : Stmt := inClass (topS 4) 0
theorem sc_init_NoText : FnScope ["self", "number"] ["self", "number"] (defScope s_i_NoText) := ⟨rfl, rfl, rfl, by decide +kernel, rfl, by decide +kernel, by decide +kernel⟩
abbrev s_i_Clash : Stmt := inClass (topS 5) 0
theorem sc_init_Clash : FnScope ["self", "first", "second"] ["self", "first", "second"] (defScope s_i_Clash) := ⟨rfl, rfl, rfl, by decide +kernel, rfl, by decide +kernel, by decide +kernel⟩
abbrev s_i_Short : Stmt := inClass (topS 6) 0
theorem sc_init_Short : FnScope ["self", "side", "some"] ["self", "side", "some"] (defScope s_i_Short) := ⟨rfl, rfl, rfl, by decide +kernel, rfl, by decide +kernel, by decide +kernel⟩
abbrev s_i_OffTime : Stmt := inClass (topS 7) 0
theorem sc_init_OffTime : FnScope ["self", "links"] ["self", "links"] (defScope s_i_OffTime) := ⟨rfl, rfl, rfl, by decide +kernel, rfl, by decide +kernel, by decide +kernel⟩
structure ExcT (K : PySem.W.Frag) (mg : Str → Option Value) (name : Str) (C fI : Addr) (fdI : FuncData) (st : Stmt) (qual : Str) (ps fs : List Str) : Prop where
  g : mg name = some (.ref C)
  T : OexC K C
  iC : PySem.W.findIn K (.ref C) "__init__" = some (some (.ref fI))
  tI : PySem.W.typeIn K (.ref fI) = some (.type "function")
  F : Fun K "__init__" qual st fI fdI
  b : Binds K fdI ps []
  no : ∀ f ∈ fs, PySem.W.findIn K (.ref C) f = some none
  xf : XfC K C
structure ExcR (K : PySem.W.Frag) (mg : Str → Option Value) (name : Str) (C : Addr) : Prop where
  g : mg name = some (.ref C)
  q : PySem.W.excIn K C [.type "ValueError", .type "Exception", .type "BaseException", .type "object"] "ValueError.__new__" = true
  k : PySem.W.keepIn K (.ref C) = true
  s : PySem.W.subIn K (.ref C) (.type "BaseException") = some true
  t : PySem.W.typeIn K (.ref C) = some (.type "type")
structure Txt (K : PySem.W.Frag) (mg : Str → Option Value) (af : Nat → Addr) (fd : Nat → FuncData) : Prop where
  g_own_copy : mg "own_copy" = some (.ref (af 0))
  F_own_copy : Fun K "own_copy" "own_copy" s_own_copy (af 0) (fd 0)
  b_own_copy : Binds K (fd 0) ["things"] []
  g_l_spread : mg "_law_spread" = some (.ref (af 1))
  F_l_spread : Fun K "_law_spread" "_law_spread" s_l_spread (af 1) (fd 1)
  b_l_spread : Binds K (fd 1) ["cell", "at"] []
  g_l_open : mg "_law_open" = some (.ref (af 2))
  F_l_open : Fun K "_law_open" "_law_open" s_l_open (af 2) (fd 2)
  b_l_open : Binds K (fd 2) ["script"] []
  g_l_take : mg "_law_take" = some (.ref (af 3))
  F_l_take : Fun K "_law_take" "_law_take" s_l_take (af 3) (fd 3)
  b_l_take : Binds K (fd 3) ["pen", "many"] []
  g_l_number : mg "_law_number" = some (.ref (af 4))
  F_l_number : Fun K "_law_number" "_law_number" s_l_number (af 4) (fd 4)
  b_l_number : Binds K (fd 4) ["pen"] []
  g_l_same : mg "_law_same" = some (.ref (af 5))
  F_l_same : Fun K "_law_same" "_law_same" s_l_same (af 5) (fd 5)
  b_l_same : Binds K (fd 5) ["found", "due"] []
  g_l_sorts : mg "_law_sorts" = some (.ref (af 6))
  F_l_sorts : Fun K "_law_sorts" "_law_sorts" s_l_sorts (af 6) (fd 6)
  b_l_sorts : Binds K (fd 6) ["caught"] []
  g_law : mg "law" = some (.ref (af 7))
  F_law : Fun K "law" "law" s_law (af 7) (fd 7)
  b_law : Binds K (fd 7) ["script"] []
  e_NoRow : ExcT K mg "NoRow" (af 8) (af 9) (fd 9) s_i_NoRow "NoRow.__init__" ["self", "number"] ["number"]
  e_NoText : ExcT K mg "NoText" (af 10) (af 11) (fd 11) s_i_NoText "NoText.__init__" ["self", "number"] ["number"]
  e_Clash : ExcT K mg "Clash" (af 12) (af 13) (fd 13) s_i_Clash "Clash.__init__" ["self", "first", "second"] ["first", "second"]
  e_Short : ExcT K mg "Short" (af 14) (af 15) (fd 15) s_i_Short "Short.__init__" ["self", "side", "some"] ["side", "some"]
  e_OffTime : ExcT K mg "OffTime" (af 16) (af 17) (fd 17) s_i_OffTime "OffTime.__init__" ["self", "links"] ["links"]
  r_NoAsk : ExcR K mg "NoAsk" (af 18)
  r_NoJob : ExcR K mg "NoJob" (af 19)
  r_TooMany : ExcR K mg "TooMany" (af 20)
  r_NoLine : ExcR K mg "NoLine" (af 21)
  g_CallError : mg "CallError" = some (.ref (af 22))
  k_NoRow : ExcC K (af 8)
  k_NoText : ExcC K (af 10)
  k_Clash : ExcC K (af 12)
  k_Short : ExcC K (af 14)
  k_OffTime : ExcC K (af 16)
  k_NoAsk : ExcC K (af 18)
  k_NoJob : ExcC K (af 19)
  k_TooMany : ExcC K (af 20)
  k_NoLine : ExcC K (af 21)
  y_NoRow_NoRow : PySem.W.kitOne K (.ref (af 8)) (.ref (af 8)) = some true
  y_NoRow_NoText : PySem.W.kitOne K (.ref (af 8)) (.ref (af 10)) = some false
  y_NoRow_Clash : PySem.W.kitOne K (.ref (af 8)) (.ref (af 12)) = some false
  y_NoRow_Short : PySem.W.kitOne K (.ref (af 8)) (.ref (af 14)) = some false
  y_NoRow_OffTime : PySem.W.kitOne K (.ref (af 8)) (.ref (af 16)) = some false
  y_NoRow_NoAsk : PySem.W.kitOne K (.ref (af 8)) (.ref (af 18)) = some false
  y_NoRow_NoJob : PySem.W.kitOne K (.ref (af 8)) (.ref (af 19)) = some false
  y_NoRow_TooMany : PySem.W.kitOne K (.ref (af 8)) (.ref (af 20)) = some false
  y_NoRow_NoLine : PySem.W.kitOne K (.ref (af 8)) (.ref (af 21)) = some false
  y_NoText_NoRow : PySem.W.kitOne K (.ref (af 10)) (.ref (af 8)) = some false
  y_NoText_NoText : PySem.W.kitOne K (.ref (af 10)) (.ref (af 10)) = some true
  y_NoText_Clash : PySem.W.kitOne K (.ref (af 10)) (.ref (af 12)) = some false
  y_NoText_Short : PySem.W.kitOne K (.ref (af 10)) (.ref (af 14)) = some false
  y_NoText_OffTime : PySem.W.kitOne K (.ref (af 10)) (.ref (af 16)) = some false
  y_NoText_NoAsk : PySem.W.kitOne K (.ref (af 10)) (.ref (af 18)) = some false
  y_NoText_NoJob : PySem.W.kitOne K (.ref (af 10)) (.ref (af 19)) = some false
  y_NoText_TooMany : PySem.W.kitOne K (.ref (af 10)) (.ref (af 20)) = some false
  y_NoText_NoLine : PySem.W.kitOne K (.ref (af 10)) (.ref (af 21)) = some false
  y_Clash_NoRow : PySem.W.kitOne K (.ref (af 12)) (.ref (af 8)) = some false
  y_Clash_NoText : PySem.W.kitOne K (.ref (af 12)) (.ref (af 10)) = some false
  y_Clash_Clash : PySem.W.kitOne K (.ref (af 12)) (.ref (af 12)) = some true
  y_Clash_Short : PySem.W.kitOne K (.ref (af 12)) (.ref (af 14)) = some false
  y_Clash_OffTime : PySem.W.kitOne K (.ref (af 12)) (.ref (af 16)) = some false
  y_Clash_NoAsk : PySem.W.kitOne K (.ref (af 12)) (.ref (af 18)) = some false
  y_Clash_NoJob : PySem.W.kitOne K (.ref (af 12)) (.ref (af 19)) = some false
  y_Clash_TooMany : PySem.W.kitOne K (.ref (af 12)) (.ref (af 20)) = some false
  y_Clash_NoLine : PySem.W.kitOne K (.ref (af 12)) (.ref (af 21)) = some false
  y_Short_NoRow : PySem.W.kitOne K (.ref (af 14)) (.ref (af 8)) = some false
  y_Short_NoText : PySem.W.kitOne K (.ref (af 14)) (.ref (af 10)) = some false
  y_Short_Clash : PySem.W.kitOne K (.ref (af 14)) (.ref (af 12)) = some false
  y_Short_Short : PySem.W.kitOne K (.ref (af 14)) (.ref (af 14)) = some true
  y_Short_OffTime : PySem.W.kitOne K (.ref (af 14)) (.ref (af 16)) = some false
  y_Short_NoAsk : PySem.W.kitOne K (.ref (af 14)) (.ref (af 18)) = some false
  y_Short_NoJob : PySem.W.kitOne K (.ref (af 14)) (.ref (af 19)) = some false
  y_Short_TooMany : PySem.W.kitOne K (.ref (af 14)) (.ref (af 20)) = some false
  y_Short_NoLine : PySem.W.kitOne K (.ref (af 14)) (.ref (af 21)) = some false
  y_OffTime_NoRow : PySem.W.kitOne K (.ref (af 16)) (.ref (af 8)) = some false
  y_OffTime_NoText : PySem.W.kitOne K (.ref (af 16)) (.ref (af 10)) = some false
  y_OffTime_Clash : PySem.W.kitOne K (.ref (af 16)) (.ref (af 12)) = some false
  y_OffTime_Short : PySem.W.kitOne K (.ref (af 16)) (.ref (af 14)) = some false
  y_OffTime_OffTime : PySem.W.kitOne K (.ref (af 16)) (.ref (af 16)) = some true
  y_OffTime_NoAsk : PySem.W.kitOne K (.ref (af 16)) (.ref (af 18)) = some false
  y_OffTime_NoJob : PySem.W.kitOne K (.ref (af 16)) (.ref (af 19)) = some false
  y_OffTime_TooMany : PySem.W.kitOne K (.ref (af 16)) (.ref (af 20)) = some false
  y_OffTime_NoLine : PySem.W.kitOne K (.ref (af 16)) (.ref (af 21)) = some false
  y_NoAsk_NoRow : PySem.W.kitOne K (.ref (af 18)) (.ref (af 8)) = some false
  y_NoAsk_NoText : PySem.W.kitOne K (.ref (af 18)) (.ref (af 10)) = some false
  y_NoAsk_Clash : PySem.W.kitOne K (.ref (af 18)) (.ref (af 12)) = some false
  y_NoAsk_Short : PySem.W.kitOne K (.ref (af 18)) (.ref (af 14)) = some false
  y_NoAsk_OffTime : PySem.W.kitOne K (.ref (af 18)) (.ref (af 16)) = some false
  y_NoAsk_NoAsk : PySem.W.kitOne K (.ref (af 18)) (.ref (af 18)) = some true
  y_NoAsk_NoJob : PySem.W.kitOne K (.ref (af 18)) (.ref (af 19)) = some false
  y_NoAsk_TooMany : PySem.W.kitOne K (.ref (af 18)) (.ref (af 20)) = some false
  y_NoAsk_NoLine : PySem.W.kitOne K (.ref (af 18)) (.ref (af 21)) = some false
  y_NoJob_NoRow : PySem.W.kitOne K (.ref (af 19)) (.ref (af 8)) = some false
  y_NoJob_NoText : PySem.W.kitOne K (.ref (af 19)) (.ref (af 10)) = some false
  y_NoJob_Clash : PySem.W.kitOne K (.ref (af 19)) (.ref (af 12)) = some false
  y_NoJob_Short : PySem.W.kitOne K (.ref (af 19)) (.ref (af 14)) = some false
  y_NoJob_OffTime : PySem.W.kitOne K (.ref (af 19)) (.ref (af 16)) = some false
  y_NoJob_NoAsk : PySem.W.kitOne K (.ref (af 19)) (.ref (af 18)) = some false
  y_NoJob_NoJob : PySem.W.kitOne K (.ref (af 19)) (.ref (af 19)) = some true
  y_NoJob_TooMany : PySem.W.kitOne K (.ref (af 19)) (.ref (af 20)) = some false
  y_NoJob_NoLine : PySem.W.kitOne K (.ref (af 19)) (.ref (af 21)) = some false
  y_TooMany_NoRow : PySem.W.kitOne K (.ref (af 20)) (.ref (af 8)) = some false
  y_TooMany_NoText : PySem.W.kitOne K (.ref (af 20)) (.ref (af 10)) = some false
  y_TooMany_Clash : PySem.W.kitOne K (.ref (af 20)) (.ref (af 12)) = some false
  y_TooMany_Short : PySem.W.kitOne K (.ref (af 20)) (.ref (af 14)) = some false
  y_TooMany_OffTime : PySem.W.kitOne K (.ref (af 20)) (.ref (af 16)) = some false
  y_TooMany_NoAsk : PySem.W.kitOne K (.ref (af 20)) (.ref (af 18)) = some false
  y_TooMany_NoJob : PySem.W.kitOne K (.ref (af 20)) (.ref (af 19)) = some false
  y_TooMany_TooMany : PySem.W.kitOne K (.ref (af 20)) (.ref (af 20)) = some true
  y_TooMany_NoLine : PySem.W.kitOne K (.ref (af 20)) (.ref (af 21)) = some false
  y_NoLine_NoRow : PySem.W.kitOne K (.ref (af 21)) (.ref (af 8)) = some false
  y_NoLine_NoText : PySem.W.kitOne K (.ref (af 21)) (.ref (af 10)) = some false
  y_NoLine_Clash : PySem.W.kitOne K (.ref (af 21)) (.ref (af 12)) = some false
  y_NoLine_Short : PySem.W.kitOne K (.ref (af 21)) (.ref (af 14)) = some false
  y_NoLine_OffTime : PySem.W.kitOne K (.ref (af 21)) (.ref (af 16)) = some false
  y_NoLine_NoAsk : PySem.W.kitOne K (.ref (af 21)) (.ref (af 18)) = some false
  y_NoLine_NoJob : PySem.W.kitOne K (.ref (af 21)) (.ref (af 19)) = some false
  y_NoLine_TooMany : PySem.W.kitOne K (.ref (af 21)) (.ref (af 20)) = some false
  y_NoLine_NoLine : PySem.W.kitOne K (.ref (af 21)) (.ref (af 21)) = some true
  y_NoRow_CallError : PySem.W.kitOne K (.ref (af 8)) (.ref (af 22)) = some true
  y_NoText_CallError : PySem.W.kitOne K (.ref (af 10)) (.ref (af 22)) = some true
  y_Clash_CallError : PySem.W.kitOne K (.ref (af 12)) (.ref (af 22)) = some true
  y_Short_CallError : PySem.W.kitOne K (.ref (af 14)) (.ref (af 22)) = some true
  y_OffTime_CallError : PySem.W.kitOne K (.ref (af 16)) (.ref (af 22)) = some true
  y_NoAsk_CallError : PySem.W.kitOne K (.ref (af 18)) (.ref (af 22)) = some true
  y_NoJob_CallError : PySem.W.kitOne K (.ref (af 19)) (.ref (af 22)) = some true
  y_TooMany_CallError : PySem.W.kitOne K (.ref (af 20)) (.ref (af 22)) = some true
  y_NoLine_CallError : PySem.W.kitOne K (.ref (af 21)) (.ref (af 22)) = some true
  v_NoRow : PySem.W.kitOne K (.ref (af 8)) (.type "ValueError") = some true
  v_NoText : PySem.W.kitOne K (.ref (af 10)) (.type "ValueError") = some true
  v_Clash : PySem.W.kitOne K (.ref (af 12)) (.type "ValueError") = some true
  v_Short : PySem.W.kitOne K (.ref (af 14)) (.type "ValueError") = some true
  v_OffTime : PySem.W.kitOne K (.ref (af 16)) (.type "ValueError") = some true
  v_NoAsk : PySem.W.kitOne K (.ref (af 18)) (.type "ValueError") = some true
  v_NoJob : PySem.W.kitOne K (.ref (af 19)) (.type "ValueError") = some true
  v_TooMany : PySem.W.kitOne K (.ref (af 20)) (.type "ValueError") = some true
  v_NoLine : PySem.W.kitOne K (.ref (af 21)) (.type "ValueError") = some true
  m_ValueError : mg "ValueError" = none
  m_bool : mg "bool" = none
  m_enumerate : mg "enumerate" = none
  m_int : mg "int" = none
  m_isinstance : mg "isinstance" = none
  m_len : mg "len" = none
  m_list : mg "list" = none
  m_range : mg "range" = none
  m_str : mg "str" = none
  m_tuple : mg "tuple" = none
  m_zip : mg "zip" = none
/-! the pen at p, its cells at c: a list of the cells' list, how many were taken, what is left of the last one -/
def Pen (H : Hp) (p c : Addr) : Prop := ∃ (cs : List Int) (n st : Int), H p = some (.lst [.ref c, .int n, .int st]) ∧ H c = some (.lst (cs.map V.int)) ∧ 0 ≤ n ∧ 0 ≤ st
/-! from H to H': the pen may have gone on; all else that stood stands -/
def Stp (p c : Addr) (H H' : Hp) : Prop := Pen H' p c ∧ ∀ b o, b ≠ p → H b = some o → H' b = some o
theorem Stp.refl {p c : Addr} {H : Hp} (h : Pen H p c) : Stp p c H H := ⟨h, fun _ _ _ e => e⟩
theorem Stp.trans {p c : Addr} {H H1 H2 : Hp} (a : Stp p c H H1) (b : Stp p c H1 H2) : Stp p c H H2 := ⟨b.1, fun x o n e => b.2 x o n (a.2 x o n e)⟩
theorem cells_ne {c : Addr} {cs : List Int} {n st : Int} : cs.map V.int ≠ [.ref c, .int n, .int st] := by
  cases cs with
  | nil => exact fun h => nomatch h
  | cons x r => exact fun h => nomatch (List.cons.inj h).1
theorem Pen.ne {p c : Addr} {H : Hp} (h : Pen H p c) : c ≠ p := by
  obtain ⟨cs, n, st, h1, h2, h3, h4⟩ := h
  intro e
  subst e
  rw [h2] at h1
  exact cells_ne (HO.lst.inj (Option.some.inj h1))
theorem Pen.neP {p c a : Addr} {H : Hp} (h : Pen H p c) (ha : H a = none) : p ≠ a := let ⟨_, _, _, h1, _⟩ := h; ne_of_none h1 ha
theorem Pen.neC {p c a : Addr} {H : Hp} (h : Pen H p c) (ha : H a = none) : c ≠ a := let ⟨_, _, _, _, h2, _⟩ := h; ne_of_none h2 ha
/-! no tuple is the pen -/
theorem Pen.tup {p c a : Addr} {H : Hp} {xs : List V} (h : Pen H p c) (ha : H a = some (.tup xs)) : a ≠ p := let ⟨_, _, _, h1, _⟩ := h; ne_of ha h1 (fun e => nomatch e)
theorem Stp.tup {p c a : Addr} {H H' : Hp} {xs : List V} (s : Stp p c H H') (h : Pen H p c) (ha : H a = some (.tup xs)) : H' a = some (.tup xs) := s.2 a _ (h.tup ha) ha
/-! an object that was not there ahead may come and change -/
theorem Stp.mut {p c a : Addr} {H H1 : Hp} {o : HO} (s : Stp p c H H1) (hp : Pen H p c) (ha : H a = none) : Stp p c H (upd H1 a o) := by
  obtain ⟨cs, n, st, h1, h2, h3, h4⟩ := s.1
  exact ⟨⟨cs, n, st, by rw [upd_ne (hp.neP ha)]; exact h1, by rw [upd_ne (hp.neC ha)]; exact h2, h3, h4⟩, fun b u nb e => by rw [upd_ne (ne_of_none e ha)]; exact s.2 b u nb e⟩
theorem Stp.back {p c a : Addr} {H H1 : Hp} (s : Stp p c H H1) (hp : Pen H p c) (ha : H1 a = none) : H a = none := by
  cases e : H a with
  | none => rfl
  | some o =>
    by_cases hb : a = p
    · subst hb
      obtain ⟨cs, n, st, h1, _⟩ := s.1
      rw [h1] at ha
      cases ha
    · rw [s.2 a o hb e] at ha
      cases ha
/-! a further new object -/
theorem Stp.new {p c a : Addr} {H H1 : Hp} {o : HO} (s : Stp p c H H1) (hp : Pen H p c) (ha : H1 a = none) : Stp p c H (upd H1 a o) := s.mut hp (s.back hp ha)
theorem yes_if {A B : Hp → Prop} {σ : L2.St} {H : Hp} (h : A H) : tYes σ H (fun b H3 => if b = true then A H3 else B H3) := by
  show (if true = true then A H else B H)
  exact iteT h
theorem at_any {A : Type} {xs : List A} {z : Int} {j : Nat} {v : A} (e : z = (j : Int)) (h : xs[j]? = some v) : atI xs z = some v := by
  rw [e]
  exact atI_nat h
theorem same_upd {H : Hp} {p : Addr} {o : HO} (h : H p = none) : Same H (upd H p o) := fun b x e => by
  rw [upd_ne (ne_of_none e h)]
  exact e
theorem same_mut {H H1 : Hp} {p : Addr} {o : HO} (s : Same H H1) (h : H p = none) : Same H (upd H1 p o) := fun b x e => by
  rw [upd_ne (ne_of_none e h)]
  exact s b x e
theorem cut_to (xs : List V) (n : Nat) : cutV xs none (some (n : Int)) = xs.take n := by
  unfold cutV
  rw [HT.sIx_none, HT.sIx_nat, List.drop_zero, Nat.sub_zero]
  by_cases h : n ≤ xs.length
  · rw [Nat.min_eq_left h]
  · rw [Nat.min_eq_right (by omega), List.take_length, List.take_of_length_le (by omega)]
theorem cut_mid (xs : List V) (m n : Nat) : cutV xs (some (m : Int)) (some (n : Int)) = (xs.drop (min m xs.length)).take (min n xs.length - min m xs.length) := by
  unfold cutV
  rw [HT.sIx_nat, HT.sIx_nat]

/-! ### an own exception as a value: made, asked for its kind, its fields read -/
namespace Xv
section
variable {X : Cx}
def ExD (cls : Value) (d : Option Addr) (a : Addr) : HO := .ext fun h => ∃ (oe : Obj) (vs : Array Value), h.get? a = some oe ∧ Zc cls d oe ∧ oe.data = .fields vs
theorem pe_of_mk {e : Expr} {t : L2.St → Hp → XK → Prop} (h : PMk X e t) : PE X e (fun σ H Q => t σ H fun cls d H1 => ∀ a, H1 a = none → Q (.ref a) (upd H1 a (ExD cls d a))) := by
  refine ⟨fun pins s σ H Q I hh => wpAny_mono (h pins s σ H _ I hh) ?_ fun _ _ x => x⟩
  rintro u s1 ⟨a, oe, vs, sI, H1, cls, d, rfl, J, k, ga, ho, hz, hd, _, na, hos, hb, _, q⟩
  have new : ObjOk X.prog X.w (upd H1 a (ExD cls d a)) s1.heap a (ExD cls d a) := ⟨⟨oe, vs, ho, hz, hd⟩, ⟨oe, ho⟩, fun _ _ z k2 => let ⟨o, v, q1, r⟩ := z; ⟨o, v, k2 o q1, r⟩⟩
  exact ⟨.ref a, _, J.call' (ch := []) hos (Un.laidN k ga na) (J.hok.laidN k na new) hb (fun b z => nomatch z), rfl, q a na⟩
/-! at a: an exception of the class at C -/
inductive ExcAt (H : Hp) (a C : Addr) : Prop
  | dict (d : Addr) (fs : List (Str × V)) : H a = some (ExD (.ref C) (some d) a) → H d = some (.xd fs) → ExcAt H a C
  | bare : H a = some (ExD (.ref C) none a) → ExcAt H a C
theorem ExcAt.same {H H' : Hp} {a C : Addr} (h : ExcAt H a C) (s : Same H H') : ExcAt H' a C := by
  cases h with
  | dict d fs h1 h2 => exact .dict d fs (s _ _ h1) (s _ _ h2)
  | bare h1 => exact .bare (s _ _ h1)
theorem ex_at {pins : List (Addr × Obj)} {σ : L2.St} {H : Hp} {s : Shared} {a : Addr} {cls : Value} {d : Option Addr} (I : Inv X pins σ H s) (h : H a = some (ExD cls d a)) : ∃ (oe : Obj) (vs : Array Value), s.heap.get? a = some oe ∧ Zc cls d oe ∧ oe.data = .fields vs := by
  have x : ObjOk X.prog X.w H s.heap a (ExD cls d a) := I.hok a _ h
  exact x.1
theorem ExcAt.inst {pins : List (Addr × Obj)} {σ : L2.St} {H : Hp} {s : Shared} {a C : Addr} (I : Inv X pins σ H s) (h : ExcAt H a C) : ∃ (oe : Obj) (od : Option Obj), PySem.W.InstAt s.heap a oe C od := by
  cases h with
  | dict d fs h1 h2 =>
    obtain ⟨⟨oc, odd, oda, osl⟩, vs, ho, ⟨z1, z2⟩, hd⟩ := ex_at I h1
    dsimp only at z1 z2 hd
    subst z1 z2 hd
    obtain ⟨mA, hns, _⟩ := (show ObjOk X.prog X.w H s.heap d (.xd fs) from I.hok d _ h2)
    obtain ⟨od, hd, _⟩ := lookIn_ns hns
    exact ⟨_, some od, ho, rfl, rfl, hd⟩
  | bare h1 =>
    obtain ⟨⟨oc, odd, oda, osl⟩, vs, ho, ⟨z1, z2⟩, hd⟩ := ex_at I h1
    dsimp only at z1 z2 hd
    subst z1 z2 hd
    exact ⟨_, none, ho, rfl, rfl, trivial⟩
def rIsX (K : PySem.W.Frag) : List V → Hp → VK → Prop := fun xs H Q => ∃ (a C : Addr) (c : V) (u : Value) (b : Bool), xs = [.ref a, c] ∧ ClsV c u ∧ ExcC K C ∧ ExcAt H a C ∧ PySem.W.kitOne K (.ref C) u = some b ∧ Q (.bl b) H
theorem call_isX : CallR X (.builtin "isinstance") (rIsX X.K) := by
  rintro pins s σ H xs us Q I r ⟨a, C, c, u, b, rfl, k, hC, hA, hb, q⟩
  obtain ⟨u1, u2, rfl, r1, r2⟩ := vals2 r
  obtain rfl := k.eq r2
  cases (show u1 = Value.ref a from r1)
  obtain ⟨oe, od, J⟩ := hA.inst I
  obtain ⟨cd, hc, _⟩ := PySem.W.any_some hC.hd
  exact PySem.W.kia_one (PySem.W.kitx_exc (by rw [hc]; rfl) hC.hg hC.hk hC.hs hC.ha hC.hn hC.ht hC.hm) I.kIn J hb (fun z => nomatch z) fun tk => ⟨.bl b, H, I.tok tk, rfl, q⟩
/-! e.f -/
def tXv (K : PySem.W.Frag) (n : Str) (te : TE) : TE := fun σ H Q => te σ H fun x H1 => ∃ (a C d : Addr) (fs : List (Str × V)) (v : V), x = .ref a ∧ XfC K C ∧ PySem.W.findIn K (.ref C) n = some none ∧ H1 a = some (ExD (.ref C) (some d) a) ∧ H1 d = some (.xd fs) ∧ fs.lookup n = some v ∧ Q v H1
theorem pe_xv {e : Expr} {te : TE} {pos : Pos} {n : Str} (he : PE X e te) (hb : attributeBase e n X.env (eval e X.env) = eval e X.env := by rfl) : PE X (.Attribute e n pos) (tXv X.K n te) := by
  refine ⟨fun pins s σ H Q I h => attr_of hb (thn (he.run pins s σ H _ I h) ?_)⟩
  rintro u s1 ⟨x, H1, I1, rx, a, C, d, fs, v, rfl, T, hno, h1, h2, l, q⟩
  cases (show u = Value.ref a from rx)
  obtain ⟨⟨oc, odd, oda, osl⟩, vs, ho, ⟨z1, z2⟩, hd⟩ := ex_at I1 h1
  dsimp only at z1 z2 hd
  subst z1 z2 hd
  obtain ⟨mA, hns, hr⟩ := (show ObjOk X.prog X.w H1 s1.heap d (.xd fs) from I1.hok d _ h2)
  obtain ⟨od, hd, hl⟩ := lookIn_ns hns
  obtain ⟨y, hy, ry⟩ := RelO.some_of (v := v) (o := mA n) (by rw [← l]; exact hr n)
  exact HandSPX.exc_get I1.kIn (od := some od) ⟨ho, rfl, rfl, hd⟩ T.ga T.gg T.exC (PySem.W.findObj_own T.hdC hno rfl (by rw [hl, hy])) (handed_of ry) ⟨v, H1, I1.tok _, ry, q⟩
end
/-! the making of one whose __init__ lays its fields -/
theorem mk_nd {H1 : Hp} {a d : Addr} {o0 : HO} (nd : upd H1 a o0 d = none) (nda : d ≠ a) : H1 d = none := by
  rw [upd_ne nda] at nd
  exact nd
theorem mk_same {H1 H2 : Hp} {a d a' : Addr} {o0 u : HO} {fs : List (Str × V)} (na : H1 a = none) (k : ∀ b o, b ≠ a → upd H1 a o0 b = some o → H2 b = some o) (nd : upd H1 a o0 d = none) (nda : d ≠ a) (na' : (upd (del H2 a) d (.xd fs)) a' = none) :
    ∃ G, upd (upd (del H2 a) d (.xd fs)) a' u = G ∧ Same H1 G ∧ G a' = some u ∧ G d = some (.xd fs) ∧ ∀ b o, b ≠ a → b ≠ d → H2 b = some o → G b = some o := by
  have nd1 := mk_nd nd nda
  have k2 : ∀ b o, b ≠ a → b ≠ d → H2 b = some o → (upd (del H2 a) d (.xd fs)) b = some o := fun b o hb hd e => by
    rw [upd_ne hd, del_ne hb]
    exact e
  refine ⟨_, rfl, fun b o e => ?_, upd_same, same_upd na' _ _ upd_same, fun b o hb hd e => same_upd na' _ _ (k2 b o hb hd e)⟩
  have hba := ne_of_none e na
  exact same_upd na' _ _ (k2 b o hba (ne_of_none e nd1) (k b o hba (by rw [upd_ne hba]; exact e)))
end Xv

section
variable {P : Program} {w : World} {K : PySem.W.Frag} {mg : Str → Option Value} {base : Heap} {af : Nat → Addr} {fd : Nat → FuncData}
/-! ### spread -/
def sp_l_spread : Sp := fun vs H Q _ => ∃ (c a : Int), vs = [.int c, .int a] ∧ 0 ≤ a ∧ ∀ r : Int, 0 ≤ r → Q (.int r) H
theorem ok_l_spread (T : Txt K mg af fd) : FnOk P w K mg base CX0 1 (af 1) (fd 1) ["cell", "at"] sp_l_spread := by
  refine T.F_l_spread.ok sc_l_spread (fun vs H Q E h => ?_) (fun cdv A outer s H vs Q E hr h => ?_)
  · obtain ⟨c, a, rfl, _⟩ := h
    rfl
  · obtain ⟨c, a, rfl, ha, q⟩ := h
    refine ⟨_, (pss_cons (ps_if (pt_cmpR op_ge (pv 0) (pe_op op_pow pe_int pe_int) (nomark _)) (pss_one (ps_ret (pv 0))) pss_nil)
        (pss_cons (ps_set (i := 2) sc_l_spread.nd rfl (by first | exact Or.inl rfl | exact Or.inr rfl) (pe_op op_mod (pe_op op_add (pe_op op_add (pe_op op_mul (pe_op op_mod (pv 0) pe_int) pe_int) (pe_op op_mul (pv 1) pe_int)) pe_int) pe_int))
        (pss_cons (ps_set (i := 3) sc_l_spread.nd rfl (by first | exact Or.inl rfl | exact Or.inr rfl) (pe_op op_mod (pe_op op_add (pe_op op_add (pe_op op_mul (pv 2) (pv 2)) (pe_op op_mul (pv 1) pe_int)) (pe_op op_mod (pv 0) pe_int)) pe_int))
        (pss_cons (ps_set (i := 4) sc_l_spread.nd rfl (by first | exact Or.inl rfl | exact Or.inr rfl) (pe_op op_mod (pe_op op_add (pe_op op_add (pe_op op_mul (pv 3) (pv 3)) (pe_op op_mul (pv 2) pe_int)) pe_int) pe_int))
        (pss_one (ps_ret (pe_op op_add (pe_op op_mul (pe_op op_add (pe_op op_mul (pv 2) pe_int) (pv 3)) pe_int) (pv 4)))))))), ?_⟩
    refine ⟨_, rfl, 10, 18, rfl, rfl, ⟨by decide, by decide, by decide⟩, _, _, rfl, rfl, _, rfl, ite2 (fun e => ?_) (fun e => ?_)⟩
    · refine ⟨_, rfl, q c ?_⟩
      have e1 := of_decide_eq_true e
      exact Int.le_trans (by decide) e1
    · refine ⟨_, rfl, _, _, rfl, rfl, (by show (0 : Int) < 1000000007; decide), _, _, rfl, rfl, .inr ⟨by decide, by decide⟩, _, rfl, _, _, rfl, rfl, .inr ⟨by decide, by decide⟩, _, _, rfl, rfl, _, _, rfl, rfl, _, _, rfl, rfl, (by show (0 : Int) < 2147483629; decide), ?_⟩
      have b1 : ∀ x : Int, 0 ≤ x % 2147483629 ∧ x % 2147483629 < 2147483629 := fun x => ⟨Int.emod_nonneg _ (by decide), Int.emod_lt_of_pos _ (by decide)⟩
      generalize hx : (c % 1000000007 * 69069 + a * 40503 + 977) % 2147483629 = one
      have o1 : 0 ≤ one ∧ one < 2147483629 := by rw [← hx]; exact b1 _
      refine ⟨_, rfl, _, rfl, _, _, rfl, rfl, .inl ⟨by omega, by omega⟩, _, rfl, _, _, rfl, rfl, .inr ⟨by decide, by decide⟩, _, _, rfl, rfl, _, rfl, _, _, rfl, rfl, (by show (0 : Int) < 65537; decide), _, _, rfl, rfl, _, _, rfl, rfl, (by show (0 : Int) < 2147483587; decide), ?_⟩
      have b2 : ∀ x : Int, 0 ≤ x % 2147483587 ∧ x % 2147483587 < 2147483587 := fun x => ⟨Int.emod_nonneg _ (by decide), Int.emod_lt_of_pos _ (by decide)⟩
      generalize hy : (one * one + a * 7919 + c % 65537) % 2147483587 = two
      have o2 : 0 ≤ two ∧ two < 2147483587 := by rw [← hy]; exact b2 _
      refine ⟨_, rfl, _, rfl, _, _, rfl, rfl, .inl ⟨by omega, by omega⟩, _, rfl, _, _, rfl, rfl, .inr ⟨by decide, by decide⟩, _, _, rfl, rfl, _, _, rfl, rfl, _, _, rfl, rfl, (by show (0 : Int) < 2147483563; decide), ?_⟩
      have b3 : ∀ x : Int, 0 ≤ x % 2147483563 := fun x => Int.emod_nonneg _ (by decide)
      generalize hz : (two * two + one * 31 + 5) % 2147483563 = three
      have o3 : 0 ≤ three := by rw [← hz]; exact b3 _
      refine ⟨_, rfl, _, _, rfl, rfl, .inr ⟨by decide, by decide⟩, _, rfl, _, _, rfl, rfl, _, _, rfl, rfl, .inr ⟨by decide, by decide⟩, _, rfl, _, _, rfl, rfl, q _ ?_⟩
      omega
/-! ### take -/
def sp_l_take : Sp := fun vs H Q _ => ∃ (p c : Addr) (many : Int), vs = [.ref p, .int many] ∧ Pen H p c ∧ 0 < many ∧ many.natAbs < 2 ^ 100 ∧ ∀ (r : Int) (H' : Hp), 0 ≤ r → r < many → Stp p c H H' → Q (.int r) H'
theorem ok_l_take (T : Txt K mg af fd) : FnOk P w K mg base CX0 2 (af 3) (fd 3) ["pen", "many"] sp_l_take := by
  refine T.F_l_take.ok sc_l_take (fun vs H Q E h => ?_) (fun cdv A outer s H vs Q E hr h => ?_)
  · obtain ⟨p, c, many, rfl, _⟩ := h
    rfl
  · obtain ⟨p, c, many, rfl, hP, m0, m1, q⟩ := h
    have hpc := hP.ne
    obtain ⟨cs, n, st, h1, h2, h3, h4⟩ := hP
    refine ⟨_, (C8.pss_cut (ps_if (pt_cmpR op_lt (pe_ix ix_list (pv 0) pe_int (fun _ _ => rfl)) (pv 1) (nomark _)) (pss_cons (ps_set (i := 2) sc_l_take.nd rfl (by first | exact Or.inl rfl | exact Or.inr rfl) (pe_ix ix_list (pv 0) pe_int (fun _ _ => rfl)))
        (pss_cons (ps_set (i := 3) sc_l_take.nd rfl (by first | exact Or.inl rfl | exact Or.inr rfl) pe_int)
        (C8.pss_cut (ps_if (pt_cmpR op_lt (pv 2) (pe_callB call_len_seq (by rfl) T.m_len (by decide +kernel) (pa_cons (pe_ix ix_list (pv 0) pe_int (fun _ _ => rfl)) pa_nil)) (nomark _)) (pss_one (ps_set (i := 3) sc_l_take.nd rfl (by first | exact Or.inl rfl | exact Or.inr rfl) (pe_ix ix_list (pe_ix ix_list (pv 0) pe_int (fun _ _ => rfl)) (pv 2) (fun _ _ => rfl)))) (pss_one (ps_if (pt_cmpR op_gt (pe_callB call_len_seq (by rfl) T.m_len (by decide +kernel) (pa_cons (pe_ix ix_list (pv 0) pe_int (fun _ _ => rfl)) pa_nil)) pe_int (nomark _)) (pss_one (ps_set (i := 3) sc_l_take.nd rfl (by first | exact Or.inl rfl | exact Or.inr rfl) (pe_op op_mod (pe_ix ix_list (pe_ix ix_list (pv 0) pe_int (fun _ _ => rfl)) (pe_op op_mod (pe_op op_add (pe_op op_mul (pv 2) pe_int) pe_int) (pe_callB call_len_seq (by rfl) T.m_len (by decide +kernel) (pa_cons (pe_ix ix_list (pv 0) pe_int (fun _ _ => rfl)) pa_nil))) (fun _ _ => rfl)) (pe_op op_add (pe_op op_pow pe_int pe_int) (pv 2))))) pss_nil)))
        (pss_cons (ps_asg (pe_op op_add (pv 2) pe_int) (pg_sub (pv 0) pe_int set_list))
        (pss_one (ps_asg (pe_call (ok_l_spread T) (hr.mono (by decide)) (by rfl) T.g_l_spread T.F_l_spread.kp T.b_l_spread .nil pass0 (pa_cons (pv 3) (pa_cons (pv 2) pa_nil))) (pg_sub (pv 0) pe_int set_list))))))) pss_nil)
        (pss_cons (ps_set (i := 4) sc_l_take.nd rfl (by first | exact Or.inl rfl | exact Or.inr rfl) (pe_op op_mod (pe_ix ix_list (pv 0) pe_int (fun _ _ => rfl)) (pv 1)))
        (pss_cons (ps_asg (pe_op op_fdivW (pe_ix ix_list (pv 0) pe_int (fun _ _ => rfl)) (pv 1)) (pg_sub (pv 0) pe_int set_list))
        (pss_one (ps_ret (pv 4)))))), ?_⟩
    refine ⟨fun σ' H' => ∃ (n' st' : Int) (v1 v2 : Option V), 0 ≤ n' ∧ 0 ≤ st' ∧ σ' = [some (.ref p), some (.int many), v1, v2, none] ∧ H' = upd H p (.lst [.ref c, .int n', .int st']), ?_, ?_⟩
    · refine ⟨_, rfl, p, _, 2, _, rfl, rfl, SqL.of h1, rfl, _, rfl, _, _, rfl, rfl, _, rfl, ite2 (fun e => ?_) (fun e => ?_)⟩
      · refine ⟨_, rfl, p, _, 1, _, rfl, rfl, SqL.of h1, rfl, ?_⟩
        refine ⟨fun σ' H' => ∃ (x : Int), σ' = [some (.ref p), some (.int many), some (.int n), some (.int x), none] ∧ H' = H, ?_, ?_⟩
        · refine ⟨_, rfl, _, rfl, p, _, 0, _, rfl, rfl, SqL.of h1, rfl, c, _, rfl, .inl (SqL.of h2), _, _, rfl, rfl, _, rfl, ite2 (fun e2 => ?_) (fun e2 => ?_)⟩
          · have e3 := of_decide_eq_true e2
            rw [List.length_map] at e3
            have hlt : n.toNat < cs.length := by omega
            refine ⟨_, rfl, p, _, 0, _, rfl, rfl, SqL.of h1, rfl, _, rfl, c, _, n, .int cs[n.toNat], rfl, rfl, SqL.of h2, at_of (j := n.toNat) (by omega) ?_, ⟨_, rfl, rfl⟩⟩
            rw [List.getElem?_map, List.getElem?_eq_getElem hlt]
            rfl
          · refine ⟨_, rfl, p, _, 0, _, rfl, rfl, SqL.of h1, rfl, c, _, rfl, .inl (SqL.of h2), _, _, rfl, rfl, _, rfl, ite2 (fun e3 => ?_) (fun e3 => ?_)⟩
            · have e4 := of_decide_eq_true e3
              have hl : (0 : Int) < (cs.map V.int).length := e4
              have hr0 := Int.emod_nonneg (n * 5 + 3) (show ((cs.map V.int).length : Int) ≠ 0 by omega)
              have hr1 := Int.emod_lt_of_pos (n * 5 + 3) hl
              have hlt : ((n * 5 + 3) % ((cs.map V.int).length : Int)).toNat < cs.length := by
                rw [List.length_map] at hr1 hr0 ⊢
                omega
              refine ⟨_, rfl, p, _, 0, _, rfl, rfl, SqL.of h1, rfl, _, rfl, _, _, rfl, rfl, .inr ⟨by decide, by decide⟩, _, _, rfl, rfl, _, rfl, p, _, 0, _, rfl, rfl, SqL.of h1, rfl, c, _, rfl, .inl (SqL.of h2), _, _, rfl, rfl, hl, c, _, _, .int cs[((n * 5 + 3) % ((cs.map V.int).length : Int)).toNat], rfl, rfl, SqL.of h2, at_of (j := ((n * 5 + 3) % ((cs.map V.int).length : Int)).toNat) (by omega) ?_, 10, 17, rfl, rfl, ⟨by decide, by decide, by decide⟩, _, rfl, _, _, rfl, rfl, _, _, rfl, rfl, ?_, ⟨_, rfl, rfl⟩⟩
              · rw [List.getElem?_map, List.getElem?_eq_getElem hlt]
                rfl
              · show (0 : Int) < 10 ^ (17 : Int).toNat + n
                have : (0 : Int) < 10 ^ (17 : Int).toNat := by decide
                omega
            · exact ⟨_, rfl, rfl⟩
        · rintro σ' H' ⟨x, rfl, rfl⟩
          refine ⟨_, rfl, _, _, rfl, rfl, _, rfl, p, _, 1, 1, rfl, rfl, h1, rfl, ?_⟩
          refine ⟨_, rfl, _, rfl, x, n, rfl, h3, fun r hr => ?_⟩
          refine ⟨_, rfl, p, _, 2, 2, rfl, rfl, upd_same, rfl, ?_⟩
          refine ⟨n + 1, r, _, _, by omega, hr, rfl, ?_⟩
          rw [upd_upd]
          rfl
      · refine ⟨n, st, none, none, h3, h4, rfl, ?_⟩
        funext b
        by_cases hb : b = p
        · subst hb
          rw [upd_same]
          exact h1
        · rw [upd_ne hb]
    · rintro σ' H' ⟨n', st', v1, v2, hn, hs, rfl, rfl⟩
      refine ⟨_, rfl, p, _, 2, _, rfl, rfl, SqL.of upd_same, rfl, _, rfl, _, _, rfl, rfl, m0, ?_⟩
      refine ⟨_, rfl, p, _, 2, _, rfl, rfl, SqL.of upd_same, rfl, _, rfl, _, _, rfl, rfl, wide_div m0 m1 (by decide) (by decide), _, rfl, p, _, 2, 2, rfl, rfl, upd_same, rfl, ?_⟩
      refine ⟨_, rfl, q _ _ (Int.emod_nonneg _ (by omega)) (Int.emod_lt_of_pos _ m0) ⟨⟨cs, n', st' / many, ?_, ?_, hn, Int.ediv_nonneg hs (by omega)⟩, fun b o hb e => ?_⟩⟩
      · rw [upd_same]
        rfl
      · rw [upd_ne hpc, upd_ne hpc]
        exact h2
      · rw [upd_ne hb, upd_ne hb]
        exact e
/-! ### open -/
def sp_l_open (K : PySem.W.Frag) : Sp := fun vs H Q _ => ∃ (a : Addr) (ns : List Int), vs = [.ref a] ∧ SqL K H a (ns.map V.int) ∧ ns.length ≤ 63 ∧ ∀ (p c : Addr) (H' : Hp), Same H H' → H p = none → H c = none → Pen H' p c → Q (.ref p) H'
theorem ok_l_open (T : Txt K mg af fd) : FnOk P w K mg base CX0 1 (af 2) (fd 2) ["script"] (sp_l_open K) := by
  refine T.F_l_open.ok sc_l_open (fun vs H Q E h => ?_) (fun cdv A outer s H vs Q E hr h => ?_)
  · obtain ⟨a, ns, rfl, _⟩ := h
    rfl
  · obtain ⟨a, ns, rfl, hS, hlen, q⟩ := h
    refine ⟨_, (pss_cons (ps_set (i := 1) sc_l_open.nd rfl (by first | exact Or.inl rfl | exact Or.inr rfl) (pe_callTy call_list_of (by rfl) T.m_list (by decide +kernel) (pa_cons (pe_slice sl_list (pv 0) po_none (po_some pe_int)) pa_nil)))
        (pss_cons (ps_for PassesOwn.never rfl (pi_enum (by rfl) T.m_enumerate (pa_cons (pe_slice sl_list (pv 0) (po_some pe_int) (po_some pe_int)) pa_nil)) (pg_tup rfl (pgs_cons (pg_name (i := 2) sc_l_open.nd rfl (by first | exact Or.inl rfl | exact Or.inr rfl)) (pgs_cons (pg_name (i := 3) sc_l_open.nd rfl (by first | exact Or.inl rfl | exact Or.inr rfl)) pgs_nil))) (pss_one (ps_asg (pe_op op_add (pe_ix ix_list (pv 1) (pe_op op_mod (pv 2) pe_int) (fun _ _ => rfl)) (pv 3)) (pg_sub (pv 1) (pe_op op_mod (pv 2) pe_int) set_list))))
        (pss_one (ps_ret (pe_lst (pa_cons (pv 1) (pa_cons pe_int (pa_cons pe_int pa_nil)))))))), ?_⟩
    refine ⟨_, rfl, 12, rfl, a, _, rfl, hS, fun x nx => ⟨x, _, rfl, .inl (SqL.of upd_same), fun l nl => ?_⟩⟩
    have s1 : Same H (upd H x (.lst (cutV (ns.map V.int) none (some 12)))) := same_upd nx
    have nl0 : H l = none := s1.free nl
    have s2 : Same H (upd (upd H x (.lst (cutV (ns.map V.int) none (some 12)))) l (.lst (cutV (ns.map V.int) none (some 12)))) := same_mut s1 nl0
    refine ⟨_, rfl, 12, rfl, 63, rfl, a, _, rfl, s2.seq hS, fun d nd => ⟨d, _, rfl, SqL.of upd_same, ?_⟩⟩
    have nd0 : H d = none := s2.free nd
    have hld : l ≠ d := fun e => by
      rw [← e, upd_same] at nd
      cases nd
    have it : cutV (ns.map V.int) (some 12) (some 63) = ((ns.drop 12)).map V.int := by
      have e := cut_mid (ns.map V.int) 12 63
      rw [show ((12 : Nat) : Int) = 12 from rfl, show ((63 : Nat) : Int) = 63 from rfl] at e
      rw [e, List.length_map]
      by_cases h12 : 12 ≤ ns.length
      · rw [Nat.min_eq_left h12, Nat.min_eq_right (by omega), List.take_of_length_le, List.map_drop]
        rw [List.length_drop, List.length_map]
        omega
      · rw [Nat.min_eq_right (by omega), List.drop_of_length_le (l := ns) (by omega), List.drop_of_length_le (by rw [List.length_map]; omega)]
        exact List.take_nil
    have ic : cutV (ns.map V.int) none (some 12) = (ns.take 12).map V.int := by
      have e := cut_to (ns.map V.int) 12
      rw [show ((12 : Nat) : Int) = 12 from rfl] at e
      rw [e, List.map_take]
    rw [it, ic]
    refine for_it (walk_enum (K := K) (a := d) (xs := (ns.drop 12).map V.int)) (fun i σ H' => ∃ (cs : List Int) (v2 v3 : Option V), σ = [some (.ref a), some (.ref l), v2, v3] ∧ H' l = some (.lst (cs.map V.int)) ∧ cs.length = min 12 ns.length ∧ H' d = some (.lst ((ns.drop 12).map V.int)) ∧ Same H H')
      ⟨ns.take 12, none, none, rfl, ?_, ?_, upd_same, same_mut ?_ nd0⟩ (fun i σ H' _ ⟨_, _, _, _, _, _, hd, _⟩ => SqL.of hd) ?_ ?_
    · rw [upd_ne hld, upd_same]
    · rw [List.length_take]
    · rw [← ic]
      exact s2
    · rintro i v σ H' H'' hi ⟨cs, v2, v3, rfl, hl, hc, hd, sm⟩ ⟨t, x1, x2, rfl, nt, rfl, e1, e2⟩
      obtain rfl : V.int (i : Nat) = x1 := Option.some.inj e1
      have e3 : ((ns.drop 12).map V.int)[i]? = some x2 := e2
      rw [List.getElem?_map] at e3
      obtain ⟨z, hz, rfl⟩ := Option.map_eq_some_iff.mp e3
      have h12 : 12 ≤ ns.length := by
        rw [List.length_map, List.length_drop] at hi
        omega
      have hm0 : 0 ≤ (i : Int) % 12 := Int.emod_nonneg _ (by decide)
      have hm1 : (i : Int) % 12 < 12 := Int.emod_lt_of_pos _ (by decide)
      have hj : ((i : Int) % 12).toNat < cs.length := by omega
      have hl' : (upd H' t (.tup [.int (i : Nat), .int z])) l = some (.lst (cs.map V.int)) := by
        rw [upd_ne (ne_of_none hl nt)]
        exact hl
      refine ⟨t, [.int (i : Nat), .int z], rfl, SqT.of upd_same, rfl, _, _, rfl, _, _, rfl, rfl, ?_⟩
      refine ⟨_, rfl, _, rfl, _, _, rfl, rfl, (by show (0 : Int) < 12; decide), l, _, _, .int cs[((i : Int) % 12).toNat], rfl, rfl, SqL.of hl', at_of (j := ((i : Int) % 12).toNat) (by omega) ?_, _, rfl, _, _, rfl, rfl, _, rfl, _, rfl, _, _, rfl, rfl, (by show (0 : Int) < 12; decide), l, _, _, ((i : Int) % 12).toNat, rfl, rfl, hl', ?_, ?_⟩
      · rw [List.getElem?_map, List.getElem?_eq_getElem hj]
        rfl
      · unfold ixN
        rw [if_pos hm0, if_pos (by rw [List.length_map]; omega)]
      · refine ⟨cs.set ((i : Int) % 12).toNat (cs[((i : Int) % 12).toNat] + z), _, _, rfl, ?_, ?_, ?_, ?_⟩
        · rw [upd_same, ← List.map_set]
        · rw [List.length_set]
          exact hc
        · rw [upd_ne (Ne.symm hld), upd_ne (ne_of_none hd nt)]
          exact hd
        · exact same_mut (same_mut sm (sm.free nt)) nl0
    · rintro σ H' ⟨cs, v2, v3, rfl, hl, hc, hd, sm⟩
      refine ⟨_, rfl, (by show 3 ≤ sizeLine; decide), fun p np => q p l _ (same_mut sm (sm.free np)) (sm.free np) nl0 ⟨cs, 0, 0, upd_same, ?_, by decide, by decide⟩⟩
      rw [upd_ne (ne_of_none hl np)]
      exact hl

/-! ### number -/
def sp_l_number : Sp := fun vs H Q _ => ∃ (p c : Addr), vs = [.ref p] ∧ Pen H p c ∧ ∀ (r : Int) (H' : Hp), 0 ≤ r → r ≤ 14 → Stp p c H H' → Q (.int r) H'
theorem ok_l_number (T : Txt K mg af fd) : FnOk P w K mg base CX0 3 (af 4) (fd 4) ["pen"] sp_l_number := by
  refine T.F_l_number.ok sc_l_number (fun vs H Q E h => ?_) (fun cdv A outer s H vs Q E hr h => ?_)
  · obtain ⟨p, c, rfl, _⟩ := h
    rfl
  · obtain ⟨p, c, rfl, hP, q⟩ := h
    refine ⟨_, (pss_one (ps_ret (pe_ix ix_list (pe_lst (pa_cons pe_int (pa_cons pe_int (pa_cons (pe_call (ok_l_take T) (hr.mono (by decide)) (by rfl) T.g_l_take T.F_l_take.kp T.b_l_take .nil pass0 (pa_cons (pv 0) (pa_cons pe_int pa_nil))) pa_nil)))) (pe_call (ok_l_take T) (hr.mono (by decide)) (by rfl) T.g_l_take T.F_l_take.kp T.b_l_take .nil pass0 (pa_cons (pv 0) (pa_cons pe_int pa_nil))) (fun _ _ => rfl)))), ?_⟩
    refine ⟨_, rfl, p, c, 15, rfl, hP, by decide, by decide, fun r H1 r0 r1 s1 => ?_⟩
    refine ⟨(by show 3 ≤ sizeLine; decide), fun l nl => ?_⟩
    have s2 := s1.new (o := .lst [.int 0, .int 14, .int r]) hP nl
    refine ⟨_, rfl, p, c, 3, rfl, s2.1, by decide, by decide, fun i H2 i0 i1 s3 => ?_⟩
    have hl : H2 l = some (.lst [.int 0, .int 14, .int r]) := s3.2 l _ (fun e => hP.neP (s1.back hP nl) e.symm) upd_same
    have hi : i = 0 ∨ i = 1 ∨ i = 2 := by omega
    rcases hi with e | e | e
    · subst e
      exact ⟨l, _, 0, _, rfl, rfl, SqL.of hl, rfl, q 0 _ (by decide) (by decide) (s2.trans s3)⟩
    · subst e
      exact ⟨l, _, 1, _, rfl, rfl, SqL.of hl, rfl, q 14 _ (by decide) (by decide) (s2.trans s3)⟩
    · subst e
      exact ⟨l, _, 2, _, rfl, rfl, SqL.of hl, rfl, q r _ r0 (by omega) (s2.trans s3)⟩

/-! ### data of any kind: what reads as d at v, its lists outside Ex -/
mutual
inductive Dq (Ex : Addr → Prop) (H : Hp) : V → PyData → Prop
  | non : Dq Ex H .non .none
  | bl (b : Bool) : Dq Ex H (.bl b) (.bool b)
  | int (i : Int) : Dq Ex H (.int i) (.int i)
  | str (x : Str) : Dq Ex H (.str x) (.str x)
  | lst {a : Addr} {xs : List V} {ds : List PyData} : ¬ Ex a → H a = some (.lst xs) → Dqs Ex H xs ds → Dq Ex H (.ref a) (.list ds)
  | tup {a : Addr} {xs : List V} {ds : List PyData} : H a = some (.tup xs) → Dqs Ex H xs ds → Dq Ex H (.ref a) (.tuple ds)
inductive Dqs (Ex : Addr → Prop) (H : Hp) : List V → List PyData → Prop
  | nil : Dqs Ex H [] []
  | cons {v : V} {vs : List V} {d : PyData} {ds : List PyData} : Dq Ex H v d → Dqs Ex H vs ds → Dqs Ex H (v :: vs) (d :: ds)
end
mutual
theorem Dq.go {Ex Ey : Addr → Prop} {H H' : Hp} (he : ∀ a, Ey a → ¬ Ex a → H a = none) (hl : ∀ a xs, ¬ Ex a → H a = some (.lst xs) → H' a = some (.lst xs)) (ht : ∀ a xs, H a = some (.tup xs) → H' a = some (.tup xs)) : ∀ {v : V} {d : PyData}, Dq Ex H v d → Dq Ey H' v d
  | _, _, .non => .non
  | _, _, .bl b => .bl b
  | _, _, .int i => .int i
  | _, _, .str x => .str x
  | _, _, .lst n h r => .lst (fun z => by rw [he _ z n] at h; cases h) (hl _ _ n h) (Dqs.go he hl ht r)
  | _, _, .tup h r => .tup (ht _ _ h) (Dqs.go he hl ht r)
theorem Dqs.go {Ex Ey : Addr → Prop} {H H' : Hp} (he : ∀ a, Ey a → ¬ Ex a → H a = none) (hl : ∀ a xs, ¬ Ex a → H a = some (.lst xs) → H' a = some (.lst xs)) (ht : ∀ a xs, H a = some (.tup xs) → H' a = some (.tup xs)) : ∀ {vs : List V} {ds : List PyData}, Dqs Ex H vs ds → Dqs Ey H' vs ds
  | _, _, .nil => .nil
  | _, _, .cons h r => .cons (Dq.go he hl ht h) (Dqs.go he hl ht r)
end
mutual
theorem Dq.dp {K : PySem.W.Frag} {Ex : Addr → Prop} {H : Hp} : ∀ {v : V} {d : PyData}, Dq Ex H v d → Dp K H v d
  | _, _, .non => .non
  | _, _, .bl b => .bl b
  | _, _, .int i => .int i
  | _, _, .str x => .str x
  | _, _, .lst _ h r => .lst (SqL.of h) (Dqs.dp r)
  | _, _, .tup h r => .tup (SqT.of h) (Dqs.dp r)
theorem Dqs.dp {K : PySem.W.Frag} {Ex : Addr → Prop} {H : Hp} : ∀ {vs : List V} {ds : List PyData}, Dqs Ex H vs ds → DpAll K H vs ds
  | _, _, .nil => .nil
  | _, _, .cons h r => .cons (Dq.dp h) (Dqs.dp r)
end
theorem Dqs.len {Ex : Addr → Prop} {H : Hp} : ∀ {vs : List V} {ds : List PyData}, Dqs Ex H vs ds → vs.length = ds.length
  | _, _, .nil => rfl
  | _, _, .cons _ r => by rw [List.length_cons, List.length_cons, r.len]
theorem Dqs.get {Ex : Addr → Prop} {H : Hp} : ∀ {vs : List V} {ds : List PyData} {i : Nat} {d : PyData}, Dqs Ex H vs ds → ds[i]? = some d → ∃ v, vs[i]? = some v ∧ Dq Ex H v d
  | _, _, 0, _, .cons h _, e => ⟨_, rfl, by obtain rfl := Option.some.inj e; exact h⟩
  | _, _, _ + 1, _, .cons _ r, e => r.get e
theorem Dqs.take {Ex : Addr → Prop} {H : Hp} : ∀ {vs : List V} {ds : List PyData} (n : Nat), Dqs Ex H vs ds → Dqs Ex H (vs.take n) (ds.take n)
  | _, _, 0, _ => .nil
  | _, _, _ + 1, .nil => .nil
  | _, _, n + 1, .cons h r => .cons h (r.take n)
theorem Dqs.drop {Ex : Addr → Prop} {H : Hp} : ∀ {vs : List V} {ds : List PyData} (n : Nat), Dqs Ex H vs ds → Dqs Ex H (vs.drop n) (ds.drop n)
  | _, _, 0, r => r
  | _, _, _ + 1, .nil => .nil
  | _, _, n + 1, .cons _ r => r.drop n
theorem Dqs.app {Ex : Addr → Prop} {H : Hp} : ∀ {vs us : List V} {ds es : List PyData}, Dqs Ex H vs ds → Dqs Ex H us es → Dqs Ex H (vs ++ us) (ds ++ es)
  | _, _, _, _, .nil, r => r
  | _, _, _, _, .cons h r, q => .cons h (r.app q)
/-! the type's name -/
def tyN : PyData → String
  | .none => "NoneType"
  | .bool _ => "bool"
  | .int _ => "int"
  | .str _ => "str"
  | .list _ => "list"
  | .tuple _ => "tuple"
  | .dict _ => "dict"
theorem Dq.ty {K : PySem.W.Frag} {Ex : Addr → Prop} {H : Hp} {v : V} {d : PyData} (h : Dq Ex H v d) : TyX K H v (.type (tyN d)) := by
  cases h with
  | non => exact .base .non
  | bl b => exact .base (.bl b)
  | int i => exact .base (.int i)
  | str x => exact .base (.str x)
  | lst _ h _ => exact .base (.lst h)
  | tup h _ => exact .base (.tup h)
/-! isinstance(d, a built-in) -/
def isB (d : PyData) (n : String) : Bool := match d, n with
  | .bool _, "bool" => true
  | .bool _, "int" => true
  | .int _, "int" => true
  | .str _, "str" => true
  | .list _, "list" => true
  | .tuple _, "tuple" => true
  | _, _ => false
theorem isi_kit {K : PySem.W.Frag} {Ex : Addr → Prop} {H : Hp} {v : V} {d : PyData} {n : String} (h : Dq Ex H v d) (hn : n = "bool" ∨ n = "int" ∨ n = "str" ∨ n = "list" ∨ n = "tuple") : PySem.W.kitOne K (.type (tyN d)) (.type n) = some (isB d n) := by
  refine kit_ty ?_
  have key : ∀ e : PyData, (∀ kvs, e ≠ .dict kvs) → kitB (tyN e) n = some (isB e n) := by
    intro e he
    rcases hn with rfl | rfl | rfl | rfl | rfl <;> cases e <;> first | exact absurd rfl (he _) | rfl
  refine key d fun kvs e => ?_
  subst e
  cases h
theorem n_bool : "bool" = "bool" ∨ "bool" = "int" ∨ "bool" = "str" ∨ "bool" = "list" ∨ "bool" = "tuple" := .inl rfl
theorem n_int : "int" = "bool" ∨ "int" = "int" ∨ "int" = "str" ∨ "int" = "list" ∨ "int" = "tuple" := .inr (.inl rfl)
theorem n_str : "str" = "bool" ∨ "str" = "int" ∨ "str" = "str" ∨ "str" = "list" ∨ "str" = "tuple" := .inr (.inr (.inl rfl))
theorem n_list : "list" = "bool" ∨ "list" = "int" ∨ "list" = "str" ∨ "list" = "list" ∨ "list" = "tuple" := .inr (.inr (.inr (.inl rfl)))
theorem n_tuple : "tuple" = "bool" ∨ "tuple" = "int" ∨ "tuple" = "str" ∨ "tuple" = "list" ∨ "tuple" = "tuple" := .inr (.inr (.inr (.inr rfl)))
/-! x in t, x not in t, of any data -/
def rInTD (K : PySem.W.Frag) : R2 := fun x y H Q => ∃ d ds, Dp K H x d ∧ Dp K H y (.tuple ds) ∧ SeqAt.shaped d = true ∧ SeqAt.shaped (.tuple ds) = true ∧ Q (.bl (ds.any fun z => PyData.eqv z d)) H
def rNotInTD (K : PySem.W.Frag) : R2 := fun x y H Q => ∃ d ds, Dp K H x d ∧ Dp K H y (.tuple ds) ∧ SeqAt.shaped d = true ∧ SeqAt.shaped (.tuple ds) = true ∧ Q (.bl (!ds.any fun z => PyData.eqv z d)) H
theorem op_inTD {X : Cx} (hu : X.A.units + 65 < cLine) : OpR X (compareOp .In) (rInTD X.K) := by
  intro pins s σ H x y v u Q I rx ry h
  obtain ⟨d, ds, hd, he, sd, se, q⟩ := h
  obtain ⟨as, r1⟩ := Dp.reads I d x v hd rx
  obtain ⟨bs, r2⟩ := Dp.reads I (.tuple ds) y u he ry
  exact SeqAt.in_tuple_reads r2 r1 (SeqAt.canLay_of_shaped se) (SeqAt.canLay_of_shaped sd) (room_in_shaped sd hu) ⟨.bl _, H, I, rfl, q⟩
theorem op_notInTD {X : Cx} (hu : X.A.units + 65 < cLine) : OpR X (compareOp .NotIn) (rNotInTD X.K) := by
  intro pins s σ H x y v u Q I rx ry h
  obtain ⟨d, ds, hd, he, sd, se, q⟩ := h
  obtain ⟨as, r1⟩ := Dp.reads I d x v hd rx
  obtain ⟨bs, r2⟩ := Dp.reads I (.tuple ds) y u he ry
  exact SeqAt.notIn_tuple_reads r2 r1 (SeqAt.canLay_of_shaped se) (SeqAt.canLay_of_shaped sd) (room_in_shaped sd hu) ⟨.bl _, H, I, rfl, q⟩
theorem eqv_str {d : PyData} {x : Str} : PyData.eqv d (.str x) = true ↔ d = .str x := by
  cases d <;> simp [PyData.eqv]
theorem eqv_str' {d : PyData} {x : Str} : PyData.eqv (.str x) d = true ↔ d = .str x := by
  cases d <;> simp [PyData.eqv]
  exact ⟨fun e => e.symm, fun e => e.symm⟩
theorem any_strs {hs : List Str} {d : PyData} : ((hs.map PyData.str).any fun z => PyData.eqv z d) = true ↔ ∃ h ∈ hs, d = .str h := by
  rw [List.any_map, List.any_eq_true]
  constructor
  · rintro ⟨h, m, e⟩
    exact ⟨h, m, eqv_str'.mp e⟩
  · rintro ⟨h, m, e⟩
    exact ⟨h, m, eqv_str'.mpr e⟩
/-! data that may be laid, and not too deep -/
def Sh (d : PyData) : Prop := d.canLay0 = true ∧ d.depth ≤ 60
theorem Sh.shaped {d : PyData} (h : Sh d) : SeqAt.shaped d = true := by
  unfold SeqAt.shaped
  rw [h.1, Bool.true_and]
  exact decide_eq_true (Nat.le_trans h.2 (by decide))
theorem sh_all : ∀ {ds : List PyData}, PyData.canLayAll0 ds = true → PyData.depthAll ds ≤ 59 → ∀ d ∈ ds, Sh d
  | x :: xs, h1, h2, d, hd => by
    have h1' : (x.canLay0 && PyData.canLayAll0 xs) = true := h1
    rw [Bool.and_eq_true] at h1'
    have h2' : max x.depth (PyData.depthAll xs) ≤ 59 := h2
    rcases List.mem_cons.mp hd with e | m
    · subst e
      exact ⟨h1'.1, by omega⟩
    · exact sh_all h1'.2 (by omega) d m
theorem Sh.items {ds : List PyData} (h : Sh (.tuple ds)) : ∀ d ∈ ds, Sh d := sh_all h.1 (Nat.le_of_succ_le_succ h.2)
theorem Dq.same {Ex : Addr → Prop} {H H' : Hp} {v : V} {d : PyData} (h : Dq Ex H v d) (s : Same H H') : Dq Ex H' v d := h.go (fun _ a b => absurd a b) (fun _ _ _ e => s _ _ e) (fun _ _ e => s _ _ e)
theorem Dqs.same {Ex : Addr → Prop} {H H' : Hp} {v : List V} {d : List PyData} (h : Dqs Ex H v d) (s : Same H H') : Dqs Ex H' v d := h.go (fun _ a b => absurd a b) (fun _ _ _ e => s _ _ e) (fun _ _ e => s _ _ e)

/-! ### the same data -/
theorem is_bool_gen {M : Model} {A : Around} {E : Value → Shared → Prop} {s : Shared} {Q : Value → Shared → Prop} {v : Value} {b : Bool} (hb : ∀ i, v ≠ .builtin i) (h : Q (.bool (v == .bool b)) s) : wpAny M A (compareOp .Is v (.bool b)) Q E s := by
  cases v <;> first | exact wpAny_pure h | exact absurd rfl (hb _)
theorem op_isB {X : Cx} (b : Bool) : OpR X (compareOp .Is) (fun x y H Q => y = .bl b ∧ Q (.bl (decide (x = .bl b))) H) := by
  intro pins s σ H x y v u Q I rx ry h
  obtain ⟨rfl, q⟩ := h
  obtain rfl : u = Value.bool b := ry
  refine is_bool_gen (fun i z => ?_) ⟨.bl (decide (x = .bl b)), H, I, ?_, q⟩
  · subst z
    cases x <;> first
      | (cases rx; done)
      | (obtain ⟨t, e⟩ := rx; cases e; done)
  show Value.bool (v == .bool b) = Value.bool (decide (x = .bl b))
  congr 1
  cases x with
  | bl c =>
    obtain rfl : v = .bool c := rx
    by_cases e : c = b
    · subst e
      rw [decide_eq_true rfl, beq_self_eq_true]
    · rw [decide_eq_false (fun z => e (V.bl.inj z)), beq_eq_false_iff_ne.mpr (fun z => e (Value.bool.inj z))]
  | _ =>
    rw [decide_eq_false (fun z => by cases z)]
    refine beq_eq_false_iff_ne.mpr fun z => ?_
    subst z
    first
      | (cases rx; done)
      | (obtain ⟨t, e⟩ := rx; cases e; done)
def sp_same (n : Nat) : Sp := fun vs H Q _ => ∃ (Ex Ey : Addr → Prop) (v u : V) (d : PyData), vs = [v, u] ∧ Dq Ex H v d ∧ Dq Ey H u d ∧ d.depth < n ∧ ∀ H', Same H H' → Q (.bl true) H'
theorem iteFd {c A B : Prop} [Decidable c] (hc : ¬ c) (h : B) : if decide c = true then A else B := by
  rw [decide_eq_false hc]
  exact iteF h
theorem iteTd {c A B : Prop} [Decidable c] (hc : c) (h : A) : if decide c = true then A else B := by
  rw [decide_eq_true hc]
  exact iteT h
theorem depth_mem : ∀ {ds : List PyData} {d : PyData}, d ∈ ds → d.depth ≤ PyData.depthAll ds
  | x :: xs, d, h => by
    show d.depth ≤ max x.depth (PyData.depthAll xs)
    rcases List.mem_cons.mp h with e | m
    · rw [e]
      exact Nat.le_max_left _ _
    · exact Nat.le_trans (depth_mem m) (Nat.le_max_right _ _)
theorem ok_same_n (T : Txt K mg af fd) : ∀ n : Nat, FnOk P w K mg base CX0 (n + 1) (af 5) (fd 5) ["found", "due"] (sp_same n) := by
  intro n
  induction n with
  | zero => exact ⟨fun vs H Q E ⟨_, _, _, _, _, _, _, _, h, _⟩ => absurd h (Nat.not_lt_zero _), fun A outer s H args us vs Q E hr he hb hv ⟨_, _, _, _, _, _, _, _, h, _⟩ => absurd h (Nat.not_lt_zero _)⟩
  | succ n ih =>
    refine T.F_l_same.ok sc_l_same (fun vs H Q E h => ?_) (fun cdv A outer s H vs Q E hr h => ?_)
    · obtain ⟨Ex, Ey, v, u, d, rfl, _⟩ := h
      rfl
    · obtain ⟨Ex, Ey, v, u, d, rfl, hv, hu, hdep, q⟩ := h
      refine ⟨_, (pss_cons (ps_if (pt_cmpR op_isN (pv 1) pe_non (nomark _)) (pss_one (ps_ret (pe_cmpR op_isN (pv 0) pe_non (nomark _)))) pss_nil)
        (pss_cons (ps_if (pt_cmpR (op_isB true) (pv 1) pe_bl (nomark _)) (pss_one (ps_ret (pe_cmpR (op_isB true) (pv 0) pe_bl (nomark _)))) pss_nil)
        (pss_cons (ps_if (pt_cmpR (op_isB false) (pv 1) pe_bl (nomark _)) (pss_one (ps_ret (pe_cmpR (op_isB false) (pv 0) pe_bl (nomark _)))) pss_nil)
        (pss_cons (ps_if (pt_val (pe_callB call_isi (by rfl) T.m_isinstance (by decide +kernel) (pa_cons (pv 1) (pa_cons (pe_bltn (v := .ty "int") (by rfl) T.m_int (by decide +kernel) rfl) pa_nil)))) (pss_one (ps_ret (pe_and (pe_callB call_isi (by rfl) T.m_isinstance (by decide +kernel) (pa_cons (pv 0) (pa_cons (pe_bltn (v := .ty "int") (by rfl) T.m_int (by decide +kernel) rfl) pa_nil))) (pe_and (pe_not (pe_callB call_isi (by rfl) T.m_isinstance (by decide +kernel) (pa_cons (pv 0) (pa_cons (pe_bltn (v := .ty "bool") (by rfl) T.m_bool (by decide +kernel) rfl) pa_nil)))) (pe_one (pe_cmpR op_eq (pv 0) (pv 1) (nomark _))))))) pss_nil)
        (pss_cons (ps_if (pt_val (pe_callB call_isi (by rfl) T.m_isinstance (by decide +kernel) (pa_cons (pv 1) (pa_cons (pe_bltn (v := .ty "str") (by rfl) T.m_str (by decide +kernel) rfl) pa_nil)))) (pss_one (ps_ret (pe_and (pe_callB call_isi (by rfl) T.m_isinstance (by decide +kernel) (pa_cons (pv 0) (pa_cons (pe_bltn (v := .ty "str") (by rfl) T.m_str (by decide +kernel) rfl) pa_nil))) (pe_one (pe_cmpR op_eq (pv 0) (pv 1) (nomark _)))))) pss_nil)
        (pss_cons (ps_if (PW.pt (pw_or (pt_cmpR op_ne (pe_callB call_isi (by rfl) T.m_isinstance (by decide +kernel) (pa_cons (pv 1) (pa_cons (pe_bltn (v := .ty "tuple") (by rfl) T.m_tuple (by decide +kernel) rfl) pa_nil))) (pe_callB call_isi (by rfl) T.m_isinstance (by decide +kernel) (pa_cons (pv 0) (pa_cons (pe_bltn (v := .ty "tuple") (by rfl) T.m_tuple (by decide +kernel) rfl) pa_nil))) (nomark _)) (pw_or1 (pt_cmpR op_ne (pe_callB call_isi (by rfl) T.m_isinstance (by decide +kernel) (pa_cons (pv 1) (pa_cons (pe_bltn (v := .ty "list") (by rfl) T.m_list (by decide +kernel) rfl) pa_nil))) (pe_callB call_isi (by rfl) T.m_isinstance (by decide +kernel) (pa_cons (pv 0) (pa_cons (pe_bltn (v := .ty "list") (by rfl) T.m_list (by decide +kernel) rfl) pa_nil))) (nomark _))))) (pss_one (ps_ret pe_bl)) pss_nil)
        (pss_cons (ps_if (pt_cmpR op_ne (pe_callB call_len_seq (by rfl) T.m_len (by decide +kernel) (pa_cons (pv 0) pa_nil)) (pe_callB call_len_seq (by rfl) T.m_len (by decide +kernel) (pa_cons (pv 1) pa_nil)) (nomark _)) (pss_one (ps_ret pe_bl)) pss_nil)
        (pss_cons (ps_for PassesOwn.never rfl (RZ.pi_zipA (by rfl) T.m_zip (pa_cons (pv 0) (pa_cons (pv 1) pa_nil))) (pg_tup rfl (pgs_cons (pg_name (i := 2) sc_l_same.nd rfl (by first | exact Or.inl rfl | exact Or.inr rfl)) (pgs_cons (pg_name (i := 3) sc_l_same.nd rfl (by first | exact Or.inl rfl | exact Or.inr rfl)) pgs_nil))) (pss_one (ps_if (pt_not (pt_val (pe_call ih (hr.mono (by omega)) (by rfl) T.g_l_same T.F_l_same.kp T.b_l_same .nil pass0 (pa_cons (pv 2) (pa_cons (pv 3) pa_nil))))) (pss_one (ps_ret pe_bl)) pss_nil)))
        (pss_one (ps_ret pe_bl)))))))))), ?_⟩
      refine ⟨_, rfl, rfl, _, rfl, ?_⟩
      cases hu with
      | non =>
        cases hv
        exact iteTd rfl ⟨_, rfl, rfl, by rw [decide_eq_true rfl]; exact q H (Same.refl H)⟩
      | bl b =>
        cases hv
        refine iteFd (fun z => by cases z) ⟨_, rfl, rfl, _, rfl, ?_⟩
        cases b with
        | true => exact iteTd rfl ⟨_, rfl, rfl, by rw [decide_eq_true rfl]; exact q H (Same.refl H)⟩
        | false => exact iteFd (fun z => by cases z) ⟨_, rfl, rfl, _, rfl, iteTd rfl ⟨_, rfl, rfl, by rw [decide_eq_true rfl]; exact q H (Same.refl H)⟩⟩
      | int i =>
        cases hv
        refine iteFd (fun z => by cases z) ⟨_, rfl, rfl, _, rfl, iteFd (fun z => by cases z) ⟨_, rfl, rfl, _, rfl, iteFd (fun z => by cases z) ?_⟩⟩
        have hd : Dq Ex H (.int i) (.int i) := .int i
        refine ⟨_, rfl, _, _, _, _, _, rfl, .ty "int", hd.ty, isi_kit hd n_int, _, rfl, iteT ?_⟩
        refine ⟨_, rfl, _, _, _, _, _, rfl, .ty "int", hd.ty, isi_kit hd n_int, _, rfl, iteT ?_⟩
        refine ⟨_, rfl, _, _, _, _, _, rfl, .ty "bool", hd.ty, isi_kit hd n_bool, _, rfl, _, rfl, iteT ?_⟩
        exact ⟨_, rfl, _, rfl, rfl, by rw [decide_eq_true rfl]; exact q H (Same.refl H)⟩
      | str x =>
        cases hv
        refine iteFd (fun z => by cases z) ⟨_, rfl, rfl, _, rfl, iteFd (fun z => by cases z) ⟨_, rfl, rfl, _, rfl, iteFd (fun z => by cases z) ?_⟩⟩
        have hd : Dq Ex H (.str x) (.str x) := .str x
        refine ⟨_, rfl, _, _, _, _, _, rfl, .ty "int", hd.ty, isi_kit hd n_int, _, rfl, iteF ?_⟩
        refine ⟨_, rfl, _, _, _, _, _, rfl, .ty "str", hd.ty, isi_kit hd n_str, _, rfl, iteT ?_⟩
        refine ⟨_, rfl, _, _, _, _, _, rfl, .ty "str", hd.ty, isi_kit hd n_str, _, rfl, iteT ?_⟩
        exact ⟨_, rfl, _, rfl, rfl, by rw [decide_eq_true rfl]; exact q H (Same.refl H)⟩
      | @lst b ys ds nb hb hds =>
        cases hv with
        | @lst a xs _ na ha hxs =>
          have hdu : Dq Ey H (.ref b) (.list ds) := .lst nb hb hds
          have hdv : Dq Ex H (.ref a) (.list ds) := .lst na ha hxs
          refine iteFd (fun z => by cases z) ⟨_, rfl, rfl, _, rfl, iteFd (fun z => by cases z) ⟨_, rfl, rfl, _, rfl, iteFd (fun z => by cases z) ?_⟩⟩
          refine ⟨_, rfl, _, _, _, _, _, rfl, .ty "int", hdu.ty, isi_kit hdu n_int, _, rfl, iteF ?_⟩
          refine ⟨_, rfl, _, _, _, _, _, rfl, .ty "str", hdu.ty, isi_kit hdu n_str, _, rfl, iteF ?_⟩
          refine ⟨_, rfl, _, _, _, _, _, rfl, .ty "tuple", hdu.ty, isi_kit hdu n_tuple, _, rfl, _, _, _, _, _, rfl, .ty "tuple", hdv.ty, isi_kit hdv n_tuple, rfl, _, rfl, iteNS rfl ?_⟩
          refine ⟨_, rfl, _, _, _, _, _, rfl, .ty "list", hdu.ty, isi_kit hdu n_list, _, rfl, _, _, _, _, _, rfl, .ty "list", hdv.ty, isi_kit hdv n_list, rfl, _, rfl, iteNS rfl ?_⟩
          have hl : xs.length = ys.length := by rw [hxs.len, hds.len]
          refine ⟨_, rfl, a, _, rfl, .inl (SqL.of ha), _, rfl, b, _, rfl, .inl (SqL.of hb), rfl, _, rfl, iteNS (by rw [hl]) ?_⟩
          have hdp : PyData.depthAll ds < n := Nat.lt_of_succ_lt_succ hdep
          refine ⟨_, rfl, _, rfl, a, b, xs, ys, rfl, .inl ⟨SqL.of ha, SqL.of hb, RZ.for_zipL hl (fun i σ H' => (∃ v2 v3 : Option V, σ = [some (.ref a), some (.ref b), v2, v3]) ∧ Same H H') ⟨⟨none, none, rfl⟩, Same.refl H⟩ (fun i σ H' h => ⟨SqL.of (h.2 _ _ ha), SqL.of (h.2 _ _ hb)⟩) ?_ ?_⟩⟩
          · rintro i x y Tp σ H1 hx hy ⟨⟨v2, v3, rfl⟩, g1⟩ nT
            have hid : i < ds.length := by rw [← hxs.len]; exact (List.getElem?_eq_some_iff.mp hx).1
            obtain ⟨x', hx', dx⟩ := hxs.get (List.getElem?_eq_getElem hid)
            obtain ⟨y', hy', dy⟩ := hds.get (List.getElem?_eq_getElem hid)
            obtain rfl : x' = x := Option.some.inj (hx'.symm.trans hx)
            obtain rfl : y' = y := Option.some.inj (hy'.symm.trans hy)
            have g2 : Same H (upd H1 Tp (.tup [x', y'])) := same_mut g1 (g1.free nT)
            refine ⟨Tp, _, rfl, SqT.of upd_same, rfl, _, _, rfl, _, _, rfl, rfl, ?_⟩
            generalize upd H1 Tp (.tup [x', y']) = H2 at g2 ⊢
            refine ⟨_, rfl, _, rfl, Ex, Ey, x', y', ds[i], rfl, dx.same g2, dy.same g2, Nat.lt_of_le_of_lt (depth_mem (List.getElem_mem hid)) hdp, fun H3 g3 => ⟨true, rfl, iteF ⟨⟨_, _, rfl⟩, g2.trans g3⟩⟩⟩
          · rintro σ H1 ⟨⟨v2, v3, rfl⟩, g1⟩
            exact q H1 g1
      | @tup b ys ds hb hds =>
        cases hv with
        | @tup a xs _ ha hxs =>
          have hdu : Dq Ey H (.ref b) (.tuple ds) := .tup hb hds
          have hdv : Dq Ex H (.ref a) (.tuple ds) := .tup ha hxs
          refine iteFd (fun z => by cases z) ⟨_, rfl, rfl, _, rfl, iteFd (fun z => by cases z) ⟨_, rfl, rfl, _, rfl, iteFd (fun z => by cases z) ?_⟩⟩
          refine ⟨_, rfl, _, _, _, _, _, rfl, .ty "int", hdu.ty, isi_kit hdu n_int, _, rfl, iteF ?_⟩
          refine ⟨_, rfl, _, _, _, _, _, rfl, .ty "str", hdu.ty, isi_kit hdu n_str, _, rfl, iteF ?_⟩
          refine ⟨_, rfl, _, _, _, _, _, rfl, .ty "tuple", hdu.ty, isi_kit hdu n_tuple, _, rfl, _, _, _, _, _, rfl, .ty "tuple", hdv.ty, isi_kit hdv n_tuple, rfl, _, rfl, iteNS rfl ?_⟩
          refine ⟨_, rfl, _, _, _, _, _, rfl, .ty "list", hdu.ty, isi_kit hdu n_list, _, rfl, _, _, _, _, _, rfl, .ty "list", hdv.ty, isi_kit hdv n_list, rfl, _, rfl, iteNS rfl ?_⟩
          have hl : xs.length = ys.length := by rw [hxs.len, hds.len]
          refine ⟨_, rfl, a, _, rfl, .inr (SqT.of ha), _, rfl, b, _, rfl, .inr (SqT.of hb), rfl, _, rfl, iteNS (by rw [hl]) ?_⟩
          have hdp : PyData.depthAll ds < n := Nat.lt_of_succ_lt_succ hdep
          refine ⟨_, rfl, _, rfl, a, b, xs, ys, rfl, .inr ⟨SqT.of ha, SqT.of hb, RZ.for_zipT hl (fun i σ H' => (∃ v2 v3 : Option V, σ = [some (.ref a), some (.ref b), v2, v3]) ∧ Same H H') ⟨⟨none, none, rfl⟩, Same.refl H⟩ (fun i σ H' h => ⟨SqT.of (h.2 _ _ ha), SqT.of (h.2 _ _ hb)⟩) ?_ ?_⟩⟩
          · rintro i x y Tp σ H1 hx hy ⟨⟨v2, v3, rfl⟩, g1⟩ nT
            have hid : i < ds.length := by rw [← hxs.len]; exact (List.getElem?_eq_some_iff.mp hx).1
            obtain ⟨x', hx', dx⟩ := hxs.get (List.getElem?_eq_getElem hid)
            obtain ⟨y', hy', dy⟩ := hds.get (List.getElem?_eq_getElem hid)
            obtain rfl : x' = x := Option.some.inj (hx'.symm.trans hx)
            obtain rfl : y' = y := Option.some.inj (hy'.symm.trans hy)
            have g2 : Same H (upd H1 Tp (.tup [x', y'])) := same_mut g1 (g1.free nT)
            refine ⟨Tp, _, rfl, SqT.of upd_same, rfl, _, _, rfl, _, _, rfl, rfl, ?_⟩
            generalize upd H1 Tp (.tup [x', y']) = H2 at g2 ⊢
            refine ⟨_, rfl, _, rfl, Ex, Ey, x', y', ds[i], rfl, dx.same g2, dy.same g2, Nat.lt_of_le_of_lt (depth_mem (List.getElem_mem hid)) hdp, fun H3 g3 => ⟨true, rfl, iteF ⟨⟨_, _, rfl⟩, g2.trans g3⟩⟩⟩
          · rintro σ H1 ⟨⟨v2, v3, rfl⟩, g1⟩
            exact q H1 g1
theorem ok_l_same (T : Txt K mg af fd) : FnOk P w K mg base CX0 6 (af 5) (fd 5) ["found", "due"] (sp_same 5) := ok_same_n T 5

/-! ### the makings -/
def sp_own_copy : Sp := fun vs H Q _ => ∃ (l : Addr) (xs : List V), vs = [.ref l] ∧ H l = some (.lst xs) ∧ ∀ m, H m = none → Q (.ref m) (upd H m (.lst xs))
theorem ok_own_copy (T : Txt K mg af fd) : FnOk P w K mg base CX0 1 (af 0) (fd 0) ["things"] sp_own_copy := by
  refine T.F_own_copy.ok sc_own_copy (fun vs H Q E h => ?_) (fun cdv A outer s H vs Q E hr h => ?_)
  · obtain ⟨l, xs, rfl, _⟩ := h
    rfl
  · obtain ⟨l, xs, rfl, hl, q⟩ := h
    refine ⟨_, (pss_one (ps_ret (pe_ifExp (pt_val (pe_callB call_isi (by rfl) T.m_isinstance (by decide +kernel) (pa_cons (pv 0) (pa_cons (pe_bltn (v := .ty "list") (by rfl) T.m_list (by decide +kernel) rfl) pa_nil)))) (pe_callTy call_list_of (by rfl) T.m_list (by decide +kernel) (pa_cons (pv 0) pa_nil)) (pv 0)))), ?_⟩
    refine ⟨_, rfl, _, _, _, _, true, rfl, ClsV.ty "list", TyX.base (.lst hl), kit_ty (by decide +kernel), _, rfl, iteT ?_⟩
    exact ⟨_, rfl, l, _, rfl, .inl (SqL.of hl), q⟩
def Kept (a : Addr) (H H2 : Hp) : Prop := ∀ b o, b ≠ a → H b = some o → H2 b = some o
def sp_i1 (C : Addr) (f : Str) : Sp := fun vs H Q _ => ∃ (a : Addr) (v : V), vs = [.ref a, v] ∧ H a = some (exo a C none) ∧ ∀ d H2, Kept a H H2 → H d = none → d ≠ a → H2 a = some (exo a C (some d)) → H2 d = some (exd d [(f, v)]) → Q .non H2
def sp_i2 (C : Addr) (f g : Str) : Sp := fun vs H Q _ => ∃ (a : Addr) (v u : V), vs = [.ref a, v, u] ∧ H a = some (exo a C none) ∧ ∀ d H2, Kept a H H2 → H d = none → d ≠ a → H2 a = some (exo a C (some d)) → H2 d = some (exd d [(g, u), (f, v)]) → Q .non H2
def sp_iS (C : Addr) : Sp := fun vs H Q _ => ∃ (a l : Addr) (v : V) (xs : List V), vs = [.ref a, v, .ref l] ∧ H a = some (exo a C none) ∧ H l = some (.lst xs) ∧ ∀ d m H2, Kept a H H2 → H d = none → d ≠ a → H2 a = some (exo a C (some d)) → H2 d = some (exd d [("some", .ref m), ("side", v)]) → H2 m = some (.lst xs) → Q .non H2
def sp_iO (C : Addr) : Sp := fun vs H Q _ => ∃ (a l : Addr) (xs : List V), vs = [.ref a, .ref l] ∧ H a = some (exo a C none) ∧ H l = some (.lst xs) ∧ ∀ d m H2, Kept a H H2 → H d = none → d ≠ a → H2 a = some (exo a C (some d)) → H2 d = some (exd d [("links", .ref m)]) → H2 m = some (.lst xs) → Q .non H2
theorem exo_lst {e C : Addr} {d : Option Addr} {xs : List V} : exo e C d ≠ .lst xs := fun z => by
  have y : HO.ext _ = HO.lst xs := z
  cases y
theorem exd_lst {e : Addr} {fs : List (Str × V)} {xs : List V} : exd e fs ≠ .lst xs := fun z => by
  have y : HO.ext _ = HO.lst xs := z
  cases y
theorem kept1 {H : Hp} {a d : Addr} {o1 o2 : HO} (nd : H d = none) : Kept a H (upd (upd H d o1) a o2) := fun b o hb e => by
  rw [upd_ne hb, upd_ne (ne_of_none e nd)]
  exact e
theorem at1' {H : Hp} {a d : Addr} {o1 o2 : HO} (ne : d ≠ a) : (upd (upd H d o1) a o2) d = some o1 := by
  rw [upd_ne ne, upd_same]
theorem ok_init_NoRow (T : Txt K mg af fd) : FnOk P w K mg base CX0 1 (af 9) (fd 9) ["self", "number"] (sp_i1 (af 8) "number") := by
  refine T.e_NoRow.F.ok sc_init_NoRow (fun vs H Q E h => ?_) (fun cdv A outer s H vs Q E hr h => ?_)
  · obtain ⟨a, v, rfl, _⟩ := h
    rfl
  · obtain ⟨a, v, rfl, ha, q⟩ := h
    refine ⟨_, (pss_one (ps_ost (pv 0) (pv 1))), ?_⟩
    exact ⟨_, rfl, _, rfl, a, _, rfl, T.e_NoRow.T, T.e_NoRow.no _ List.mem_cons_self, .inl ⟨ha, fun d nd ne => q d _ (kept1 nd) nd ne upd_same (at1' ne)⟩⟩
theorem ok_init_NoText (T : Txt K mg af fd) : FnOk P w K mg base CX0 1 (af 11) (fd 11) ["self", "number"] (sp_i1 (af 10) "number") := by
  refine T.e_NoText.F.ok sc_init_NoText (fun vs H Q E h => ?_) (fun cdv A outer s H vs Q E hr h => ?_)
  · obtain ⟨a, v, rfl, _⟩ := h
    rfl
  · obtain ⟨a, v, rfl, ha, q⟩ := h
    refine ⟨_, (pss_one (ps_ost (pv 0) (pv 1))), ?_⟩
    exact ⟨_, rfl, _, rfl, a, _, rfl, T.e_NoText.T, T.e_NoText.no _ List.mem_cons_self, .inl ⟨ha, fun d nd ne => q d _ (kept1 nd) nd ne upd_same (at1' ne)⟩⟩
theorem ok_init_Clash (T : Txt K mg af fd) : FnOk P w K mg base CX0 1 (af 13) (fd 13) ["self", "first", "second"] (sp_i2 (af 12) "first" "second") := by
  refine T.e_Clash.F.ok sc_init_Clash (fun vs H Q E h => ?_) (fun cdv A outer s H vs Q E hr h => ?_)
  · obtain ⟨a, v, u, rfl, _⟩ := h
    rfl
  · obtain ⟨a, v, u, rfl, ha, q⟩ := h
    refine ⟨_, (pss_cons (ps_ost (pv 0) (pv 1))
        (pss_one (ps_ost (pv 0) (pv 2)))), ?_⟩
    refine ⟨_, rfl, _, rfl, a, _, rfl, T.e_Clash.T, T.e_Clash.no _ List.mem_cons_self, .inl ⟨ha, fun d nd ne => ?_⟩⟩
    refine ⟨_, rfl, _, rfl, a, _, rfl, T.e_Clash.T, T.e_Clash.no _ (List.mem_cons_of_mem _ List.mem_cons_self), .inr ⟨d, _, upd_same, at1' ne, (by show 1 ≤ 900; decide), ?_⟩⟩
    exact q d _ (fun b o hb e => by rw [upd_ne (ne_of_none e nd)]; exact kept1 nd b o hb e) nd ne (by rw [upd_ne (Ne.symm ne)]; exact upd_same) upd_same
theorem ok_init_Short (T : Txt K mg af fd) : FnOk P w K mg base CX0 2 (af 15) (fd 15) ["self", "side", "some"] (sp_iS (af 14)) := by
  refine T.e_Short.F.ok sc_init_Short (fun vs H Q E h => ?_) (fun cdv A outer s H vs Q E hr h => ?_)
  · obtain ⟨a, l, v, xs, rfl, _⟩ := h
    rfl
  · obtain ⟨a, l, v, xs, rfl, ha, hl, q⟩ := h
    refine ⟨_, (pss_cons (ps_ost (pv 0) (pv 1))
        (pss_one (ps_ost (pv 0) (pe_call (ok_own_copy T) (hr.mono (by decide)) (by rfl) T.g_own_copy T.F_own_copy.kp T.b_own_copy .nil pass0 (pa_cons (pv 2) pa_nil))))), ?_⟩
    refine ⟨_, rfl, _, rfl, a, _, rfl, T.e_Short.T, T.e_Short.no _ List.mem_cons_self, .inl ⟨ha, fun d nd ne => ?_⟩⟩
    have hla : l ≠ a := ne_of hl ha (fun z => exo_lst z.symm)
    have k1 : Kept a H (upd (upd H d (exd d [("side", v)])) a (exo a (af 14) (some d))) := kept1 nd
    refine ⟨_, rfl, l, xs, rfl, k1 l _ hla hl, fun m nm => ?_⟩
    have nma : a ≠ m := ne_of_none upd_same nm
    have nmd : d ≠ m := ne_of_none (at1' ne) nm
    refine ⟨_, rfl, a, _, rfl, T.e_Short.T, T.e_Short.no _ (List.mem_cons_of_mem _ List.mem_cons_self), .inr ⟨d, [("side", v)], ?_, ?_, (by show 1 ≤ 900; decide), ?_⟩⟩
    · rw [upd_ne nma]
      exact upd_same
    · rw [upd_ne nmd]
      exact at1' ne
    · refine q d m _ (fun b o hb e => ?_) nd ne ?_ upd_same ?_
      · rw [upd_ne (ne_of_none e nd), upd_ne (ne_of_none (k1 b o hb e) nm)]
        exact k1 b o hb e
      · rw [upd_ne (Ne.symm ne), upd_ne nma]
        exact upd_same
      · rw [upd_ne (Ne.symm nmd)]
        exact upd_same
theorem ok_init_OffTime (T : Txt K mg af fd) : FnOk P w K mg base CX0 2 (af 17) (fd 17) ["self", "links"] (sp_iO (af 16)) := by
  refine T.e_OffTime.F.ok sc_init_OffTime (fun vs H Q E h => ?_) (fun cdv A outer s H vs Q E hr h => ?_)
  · obtain ⟨a, l, xs, rfl, _⟩ := h
    rfl
  · obtain ⟨a, l, xs, rfl, ha, hl, q⟩ := h
    refine ⟨_, (pss_one (ps_ost (pv 0) (pe_call (ok_own_copy T) (hr.mono (by decide)) (by rfl) T.g_own_copy T.F_own_copy.kp T.b_own_copy .nil pass0 (pa_cons (pv 1) pa_nil)))), ?_⟩
    refine ⟨_, rfl, l, xs, rfl, hl, fun m nm => ?_⟩
    have nma : a ≠ m := ne_of_none ha nm
    refine ⟨_, rfl, a, _, rfl, T.e_OffTime.T, T.e_OffTime.no _ List.mem_cons_self, .inl ⟨by rw [upd_ne nma]; exact ha, fun d nd ne => ?_⟩⟩
    have nd0 : H d = none := (same_upd nm).free nd
    refine q d m _ (fun b o hb e => kept1 nd b o hb (same_upd nm _ _ e)) nd0 ne upd_same (at1' ne) ?_
    exact kept1 nd m _ (Ne.symm nma) upd_same

/-! ### the kinds -/
def kc (af : Nat → Addr) (i : Nat) : Addr := match i with | 0 => af 8 | 1 => af 10 | 2 => af 12 | 3 => af 14 | 4 => af 16 | 5 => af 18 | 6 => af 19 | 7 => af 20 | _ => af 21
theorem kit_all (T : Txt K mg af fd) : ∀ i j : Nat, i < 9 → j < 9 → PySem.W.kitOne K (.ref (kc af i)) (.ref (kc af j)) = some (decide (i = j))
  | 0, 0, _, _ => T.y_NoRow_NoRow
  | 0, 1, _, _ => T.y_NoRow_NoText
  | 0, 2, _, _ => T.y_NoRow_Clash
  | 0, 3, _, _ => T.y_NoRow_Short
  | 0, 4, _, _ => T.y_NoRow_OffTime
  | 0, 5, _, _ => T.y_NoRow_NoAsk
  | 0, 6, _, _ => T.y_NoRow_NoJob
  | 0, 7, _, _ => T.y_NoRow_TooMany
  | 0, 8, _, _ => T.y_NoRow_NoLine
  | 1, 0, _, _ => T.y_NoText_NoRow
  | 1, 1, _, _ => T.y_NoText_NoText
  | 1, 2, _, _ => T.y_NoText_Clash
  | 1, 3, _, _ => T.y_NoText_Short
  | 1, 4, _, _ => T.y_NoText_OffTime
  | 1, 5, _, _ => T.y_NoText_NoAsk
  | 1, 6, _, _ => T.y_NoText_NoJob
  | 1, 7, _, _ => T.y_NoText_TooMany
  | 1, 8, _, _ => T.y_NoText_NoLine
  | 2, 0, _, _ => T.y_Clash_NoRow
  | 2, 1, _, _ => T.y_Clash_NoText
  | 2, 2, _, _ => T.y_Clash_Clash
  | 2, 3, _, _ => T.y_Clash_Short
  | 2, 4, _, _ => T.y_Clash_OffTime
  | 2, 5, _, _ => T.y_Clash_NoAsk
  | 2, 6, _, _ => T.y_Clash_NoJob
  | 2, 7, _, _ => T.y_Clash_TooMany
  | 2, 8, _, _ => T.y_Clash_NoLine
  | 3, 0, _, _ => T.y_Short_NoRow
  | 3, 1, _, _ => T.y_Short_NoText
  | 3, 2, _, _ => T.y_Short_Clash
  | 3, 3, _, _ => T.y_Short_Short
  | 3, 4, _, _ => T.y_Short_OffTime
  | 3, 5, _, _ => T.y_Short_NoAsk
  | 3, 6, _, _ => T.y_Short_NoJob
  | 3, 7, _, _ => T.y_Short_TooMany
  | 3, 8, _, _ => T.y_Short_NoLine
  | 4, 0, _, _ => T.y_OffTime_NoRow
  | 4, 1, _, _ => T.y_OffTime_NoText
  | 4, 2, _, _ => T.y_OffTime_Clash
  | 4, 3, _, _ => T.y_OffTime_Short
  | 4, 4, _, _ => T.y_OffTime_OffTime
  | 4, 5, _, _ => T.y_OffTime_NoAsk
  | 4, 6, _, _ => T.y_OffTime_NoJob
  | 4, 7, _, _ => T.y_OffTime_TooMany
  | 4, 8, _, _ => T.y_OffTime_NoLine
  | 5, 0, _, _ => T.y_NoAsk_NoRow
  | 5, 1, _, _ => T.y_NoAsk_NoText
  | 5, 2, _, _ => T.y_NoAsk_Clash
  | 5, 3, _, _ => T.y_NoAsk_Short
  | 5, 4, _, _ => T.y_NoAsk_OffTime
  | 5, 5, _, _ => T.y_NoAsk_NoAsk
  | 5, 6, _, _ => T.y_NoAsk_NoJob
  | 5, 7, _, _ => T.y_NoAsk_TooMany
  | 5, 8, _, _ => T.y_NoAsk_NoLine
  | 6, 0, _, _ => T.y_NoJob_NoRow
  | 6, 1, _, _ => T.y_NoJob_NoText
  | 6, 2, _, _ => T.y_NoJob_Clash
  | 6, 3, _, _ => T.y_NoJob_Short
  | 6, 4, _, _ => T.y_NoJob_OffTime
  | 6, 5, _, _ => T.y_NoJob_NoAsk
  | 6, 6, _, _ => T.y_NoJob_NoJob
  | 6, 7, _, _ => T.y_NoJob_TooMany
  | 6, 8, _, _ => T.y_NoJob_NoLine
  | 7, 0, _, _ => T.y_TooMany_NoRow
  | 7, 1, _, _ => T.y_TooMany_NoText
  | 7, 2, _, _ => T.y_TooMany_Clash
  | 7, 3, _, _ => T.y_TooMany_Short
  | 7, 4, _, _ => T.y_TooMany_OffTime
  | 7, 5, _, _ => T.y_TooMany_NoAsk
  | 7, 6, _, _ => T.y_TooMany_NoJob
  | 7, 7, _, _ => T.y_TooMany_TooMany
  | 7, 8, _, _ => T.y_TooMany_NoLine
  | 8, 0, _, _ => T.y_NoLine_NoRow
  | 8, 1, _, _ => T.y_NoLine_NoText
  | 8, 2, _, _ => T.y_NoLine_Clash
  | 8, 3, _, _ => T.y_NoLine_Short
  | 8, 4, _, _ => T.y_NoLine_OffTime
  | 8, 5, _, _ => T.y_NoLine_NoAsk
  | 8, 6, _, _ => T.y_NoLine_NoJob
  | 8, 7, _, _ => T.y_NoLine_TooMany
  | 8, 8, _, _ => T.y_NoLine_NoLine
  | _ + 9, _, h, _ => absurd h (by omega)
  | _, _ + 9, _, h => absurd h (by omega)
theorem kit_top (T : Txt K mg af fd) : ∀ i : Nat, i < 9 → PySem.W.kitOne K (.ref (kc af i)) (.ref (af 22)) = some true
  | 0, _ => T.y_NoRow_CallError
  | 1, _ => T.y_NoText_CallError
  | 2, _ => T.y_Clash_CallError
  | 3, _ => T.y_Short_CallError
  | 4, _ => T.y_OffTime_CallError
  | 5, _ => T.y_NoAsk_CallError
  | 6, _ => T.y_NoJob_CallError
  | 7, _ => T.y_TooMany_CallError
  | 8, _ => T.y_NoLine_CallError
  | _ + 9, h => absurd h (by omega)
theorem kit_ve (T : Txt K mg af fd) : ∀ i : Nat, i < 9 → PySem.W.kitOne K (.ref (kc af i)) (.type "ValueError") = some true
  | 0, _ => T.v_NoRow
  | 1, _ => T.v_NoText
  | 2, _ => T.v_Clash
  | 3, _ => T.v_Short
  | 4, _ => T.v_OffTime
  | 5, _ => T.v_NoAsk
  | 6, _ => T.v_NoJob
  | 7, _ => T.v_TooMany
  | 8, _ => T.v_NoLine
  | _ + 9, h => absurd h (by omega)
theorem kit_exc (T : Txt K mg af fd) : ∀ i : Nat, i < 9 → ExcC K (kc af i)
  | 0, _ => T.k_NoRow
  | 1, _ => T.k_NoText
  | 2, _ => T.k_Clash
  | 3, _ => T.k_Short
  | 4, _ => T.k_OffTime
  | 5, _ => T.k_NoAsk
  | 6, _ => T.k_NoJob
  | 7, _ => T.k_TooMany
  | 8, _ => T.k_NoLine
  | _ + 9, h => absurd h (by omega)
def sorts (n : Nat) : List V := (List.range 9).map fun j => V.bl (decide (n = j))
def sp_sorts (K : PySem.W.Frag) (af : Nat → Addr) : Sp := fun vs H Q _ => ∃ (a : Addr) (n : Nat), vs = [.ref a] ∧ n < 9 ∧ Xv.ExcAt H a (kc af n) ∧ ∀ (l : Addr) (H' : Hp), Same H H' → H' l = some (.lst (sorts n)) → Q (.ref l) H'
theorem ok_l_sorts (T : Txt K mg af fd) : FnOk P w K mg base CX0 1 (af 6) (fd 6) ["caught"] (sp_sorts K af) := by
  refine T.F_l_sorts.ok sc_l_sorts (fun vs H Q E h => ?_) (fun cdv A outer s H vs Q E hr h => ?_)
  · obtain ⟨a, n, rfl, _⟩ := h
    rfl
  · obtain ⟨a, n, rfl, hn, ha, q⟩ := h
    refine ⟨_, (pss_cons (ps_set (i := 1) sc_l_sorts.nd rfl (by first | exact Or.inl rfl | exact Or.inr rfl) (pe_lst (pa_cons (pe_callB Xv.call_isX (by rfl) T.m_isinstance (by decide +kernel) (pa_cons (pv 0) (pa_cons (pe_glob (v := .ref (af 8)) (by rfl) T.e_NoRow.g rfl) pa_nil))) (pa_cons (pe_callB Xv.call_isX (by rfl) T.m_isinstance (by decide +kernel) (pa_cons (pv 0) (pa_cons (pe_glob (v := .ref (af 10)) (by rfl) T.e_NoText.g rfl) pa_nil))) (pa_cons (pe_callB Xv.call_isX (by rfl) T.m_isinstance (by decide +kernel) (pa_cons (pv 0) (pa_cons (pe_glob (v := .ref (af 12)) (by rfl) T.e_Clash.g rfl) pa_nil))) pa_nil)))))
        (pss_cons (ps_set (i := 1) sc_l_sorts.nd rfl (by first | exact Or.inl rfl | exact Or.inr rfl) (pe_op op_cat (pv 1) (pe_lst (pa_cons (pe_callB Xv.call_isX (by rfl) T.m_isinstance (by decide +kernel) (pa_cons (pv 0) (pa_cons (pe_glob (v := .ref (af 14)) (by rfl) T.e_Short.g rfl) pa_nil))) (pa_cons (pe_callB Xv.call_isX (by rfl) T.m_isinstance (by decide +kernel) (pa_cons (pv 0) (pa_cons (pe_glob (v := .ref (af 16)) (by rfl) T.e_OffTime.g rfl) pa_nil))) (pa_cons (pe_callB Xv.call_isX (by rfl) T.m_isinstance (by decide +kernel) (pa_cons (pv 0) (pa_cons (pe_glob (v := .ref (af 18)) (by rfl) T.r_NoAsk.g rfl) pa_nil))) pa_nil))))))
        (pss_cons (ps_set (i := 1) sc_l_sorts.nd rfl (by first | exact Or.inl rfl | exact Or.inr rfl) (pe_op op_cat (pv 1) (pe_lst (pa_cons (pe_callB Xv.call_isX (by rfl) T.m_isinstance (by decide +kernel) (pa_cons (pv 0) (pa_cons (pe_glob (v := .ref (af 19)) (by rfl) T.r_NoJob.g rfl) pa_nil))) (pa_cons (pe_callB Xv.call_isX (by rfl) T.m_isinstance (by decide +kernel) (pa_cons (pv 0) (pa_cons (pe_glob (v := .ref (af 20)) (by rfl) T.r_TooMany.g rfl) pa_nil))) (pa_cons (pe_callB Xv.call_isX (by rfl) T.m_isinstance (by decide +kernel) (pa_cons (pv 0) (pa_cons (pe_glob (v := .ref (af 21)) (by rfl) T.r_NoLine.g rfl) pa_nil))) pa_nil))))))
        (pss_one (ps_ret (pv 1)))))), ?_⟩
    have hC := kit_exc T n hn
    have hk := kit_all T n
    refine ⟨_, rfl, a, _, _, _, _, rfl, .own _, hC, ha, hk 0 hn (by decide), ?_⟩
    refine ⟨_, rfl, a, _, _, _, _, rfl, .own _, hC, ha, hk 1 hn (by decide), ?_⟩
    refine ⟨_, rfl, a, _, _, _, _, rfl, .own _, hC, ha, hk 2 hn (by decide), ?_⟩
    refine ⟨(by show 3 ≤ sizeLine; decide), fun l1 n1 => ?_⟩
    have g1 : Same H (upd H l1 (.lst [.bl (decide (n = 0)), .bl (decide (n = 1)), .bl (decide (n = 2))])) := same_upd n1
    have e1 : (upd H l1 (.lst [.bl (decide (n = 0)), .bl (decide (n = 1)), .bl (decide (n = 2))])) l1 = some (.lst [.bl (decide (n = 0)), .bl (decide (n = 1)), .bl (decide (n = 2))]) := upd_same
    generalize upd H l1 (.lst [.bl (decide (n = 0)), .bl (decide (n = 1)), .bl (decide (n = 2))]) = H1 at g1 e1 ⊢
    have a1 := ha.same g1
    refine ⟨_, rfl, _, rfl, a, _, _, _, _, rfl, .own _, hC, a1, hk 3 hn (by decide), ?_⟩
    refine ⟨_, rfl, a, _, _, _, _, rfl, .own _, hC, a1, hk 4 hn (by decide), ?_⟩
    refine ⟨_, rfl, a, _, _, _, _, rfl, .own _, hC, a1, hk 5 hn (by decide), ?_⟩
    refine ⟨(by show 3 ≤ sizeLine; decide), fun l2 n2 => ?_⟩
    have g2 : Same H1 (upd H1 l2 (.lst [.bl (decide (n = 3)), .bl (decide (n = 4)), .bl (decide (n = 5))])) := same_upd n2
    refine ⟨l1, l2, _, _, rfl, rfl, g2 _ _ e1, upd_same, (by show 6 ≤ sizeLine; decide), fun l3 n3 => ?_⟩
    have g3 := g2.trans (same_upd (o := .lst [.bl (decide (n = 0)), .bl (decide (n = 1)), .bl (decide (n = 2)), .bl (decide (n = 3)), .bl (decide (n = 4)), .bl (decide (n = 5))]) n3)
    have e3 : (upd (upd H1 l2 (.lst [.bl (decide (n = 3)), .bl (decide (n = 4)), .bl (decide (n = 5))])) l3 (.lst [.bl (decide (n = 0)), .bl (decide (n = 1)), .bl (decide (n = 2)), .bl (decide (n = 3)), .bl (decide (n = 4)), .bl (decide (n = 5))])) l3 = some (.lst [.bl (decide (n = 0)), .bl (decide (n = 1)), .bl (decide (n = 2)), .bl (decide (n = 3)), .bl (decide (n = 4)), .bl (decide (n = 5))]) := upd_same
    show tSeq _ _ _ _ (upd (upd H1 l2 (.lst [.bl (decide (n = 3)), .bl (decide (n = 4)), .bl (decide (n = 5))])) l3 (.lst [.bl (decide (n = 0)), .bl (decide (n = 1)), .bl (decide (n = 2)), .bl (decide (n = 3)), .bl (decide (n = 4)), .bl (decide (n = 5))]))
    generalize upd (upd H1 l2 (.lst [.bl (decide (n = 3)), .bl (decide (n = 4)), .bl (decide (n = 5))])) l3 (.lst [.bl (decide (n = 0)), .bl (decide (n = 1)), .bl (decide (n = 2)), .bl (decide (n = 3)), .bl (decide (n = 4)), .bl (decide (n = 5))]) = H3 at g3 e3 ⊢
    have a3 := a1.same g3
    refine ⟨_, rfl, _, rfl, a, _, _, _, _, rfl, .own _, hC, a3, hk 6 hn (by decide), ?_⟩
    refine ⟨_, rfl, a, _, _, _, _, rfl, .own _, hC, a3, hk 7 hn (by decide), ?_⟩
    refine ⟨_, rfl, a, _, _, _, _, rfl, .own _, hC, a3, hk 8 hn (by decide), ?_⟩
    refine ⟨(by show 3 ≤ sizeLine; decide), fun l4 n4 => ?_⟩
    have g4 : Same H3 (upd H3 l4 (.lst [.bl (decide (n = 6)), .bl (decide (n = 7)), .bl (decide (n = 8))])) := same_upd n4
    refine ⟨l3, l4, _, _, rfl, rfl, g4 _ _ e3, upd_same, (by show 9 ≤ sizeLine; decide), fun l5 n5 => ?_⟩
    exact ⟨_, rfl, q l5 _ (((g1.trans g3).trans g4).trans (same_upd n5)) upd_same⟩

/-! ### the law -/
theorem Pen.same {p c : Addr} {H H' : Hp} (h : Pen H p c) (s : Same H H') : Pen H' p c := by
  obtain ⟨cs, n, st, h1, h2, h3, h4⟩ := h
  exact ⟨cs, n, st, s _ _ h1, s _ _ h2, h3, h4⟩
theorem dp_bools {H : Hp} (f : Nat → Bool) : ∀ l : List Nat, DpAll K H (l.map fun k => V.bl (f k)) (l.map fun k => PyData.bool (f k))
  | [] => .nil
  | _ :: l => .cons (.bl _) (dp_bools f l)
theorem bools_sh (f : Nat → Bool) : ∀ l : List Nat, PyData.canLayAll0 (l.map fun k => PyData.bool (f k)) = true ∧ PyData.depthAll (l.map fun k => PyData.bool (f k)) = 0
  | [] => ⟨rfl, rfl⟩
  | x :: l => by
    obtain ⟨h1, h2⟩ := bools_sh f l
    refine ⟨?_, ?_⟩
    · show (true && PyData.canLayAll0 (l.map fun k => PyData.bool (f k))) = true
      rw [h1]
      rfl
    · show max 0 (PyData.depthAll (l.map fun k => PyData.bool (f k))) = 0
      rw [h2]
      rfl
theorem bools_shaped (f : Nat → Bool) (l : List Nat) : SeqAt.shaped (.list (l.map fun k => PyData.bool (f k))) = true := by
  obtain ⟨h1, h2⟩ := bools_sh f l
  exact (show Sh (.list (l.map fun k => PyData.bool (f k))) from ⟨h1, by show PyData.depthAll _ + 1 ≤ 60; rw [h2]; decide⟩).shaped
theorem cut_r (xs : List V) {r : Int} (h : 0 ≤ r) : cutV xs none (some r) = xs.take r.toNat := by
  have e := cut_to xs r.toNat
  rw [Int.toNat_of_nonneg h] at e
  exact e
theorem Dqs.tp {p c : Addr} {H H' : Hp} {vs : List V} {ds : List PyData} (h : Dqs (fun _ => True) H vs ds) (hP : Pen H p c) (s : Stp p c H H') : Dqs (fun _ => True) H' vs ds := h.go (fun _ a b => absurd a b) (fun _ _ n _ => absurd trivial n) (fun _ _ e => s.tup hP e)
theorem Dqs.fin {H H' : Hp} {vs : List V} {ds : List PyData} (h : Dqs (fun _ => True) H vs ds) (s : Same H H') : Dqs (fun _ => False) H' vs ds := h.go (fun _ a _ => a.elim) (fun _ _ n _ => absurd trivial n) (fun _ _ e => s _ _ e)
theorem depth_take : ∀ (ds : List PyData) (n : Nat), PyData.depthAll (ds.take n) ≤ PyData.depthAll ds
  | [], n => by rw [List.take_nil]; exact Nat.le_refl _
  | x :: xs, 0 => Nat.zero_le _
  | x :: xs, n + 1 => by
    show max x.depth (PyData.depthAll (xs.take n)) ≤ max x.depth (PyData.depthAll xs)
    have := depth_take xs n
    omega
def sp_law (K : PySem.W.Frag) : Sp := fun vs H Q _ => ∃ (a : Addr) (ns : List Int), vs = [.ref a] ∧ SqL K H a (ns.map V.int) ∧ ns.length ≤ 63 ∧ ∀ H', Q (.bl true) H'
theorem ok_law (T : Txt K mg af fd) : FnOk P w K mg base CX0 7 (af 7) (fd 7) ["script"] (sp_law K) := by
  refine T.F_law.ok sc_law (fun vs H Q E h => ?_) (fun cdv A outer s H vs Q E hr h => ?_)
  · obtain ⟨a, ns, rfl, _⟩ := h
    rfl
  · obtain ⟨a, ns, rfl, hS, hlen, q⟩ := h
    refine ⟨_, (pss_cons (ps_set (i := 1) sc_law.nd rfl (by first | exact Or.inl rfl | exact Or.inr rfl) (pe_call (ok_l_open T) (hr.mono (by decide)) (by rfl) T.g_l_open T.F_l_open.kp T.b_l_open .nil pass0 (pa_cons (pv 0) pa_nil)))
        (pss_cons (ps_set (i := 2) sc_law.nd rfl (by first | exact Or.inl rfl | exact Or.inr rfl) (pe_call (ok_l_number T) (hr.mono (by decide)) (by rfl) T.g_l_number T.F_l_number.kp T.b_l_number .nil pass0 (pa_cons (pv 1) pa_nil)))
        (pss_cons (ps_set (i := 3) sc_law.nd rfl (by first | exact Or.inl rfl | exact Or.inr rfl) (pe_lst (pa_cons (pe_tup (pa_cons pe_str (pa_cons (pe_call (ok_l_number T) (hr.mono (by decide)) (by rfl) T.g_l_number T.F_l_number.kp T.b_l_number .nil pass0 (pa_cons (pv 1) pa_nil)) pa_nil))) pa_nil)))
        (pss_cons (ps_set (i := 4) sc_law.nd rfl (by first | exact Or.inl rfl | exact Or.inr rfl) (pe_lst (pa_cons (pe_tup (pa_cons pe_str (pa_cons pe_str (pa_cons (pe_op op_sub (pe_call (ok_l_number T) (hr.mono (by decide)) (by rfl) T.g_l_number T.F_l_number.kp T.b_l_number .nil pass0 (pa_cons (pv 1) pa_nil)) pe_int) pa_nil)))) pa_nil)))
        (pss_cons (ps_set (i := 5) sc_law.nd rfl (by first | exact Or.inl rfl | exact Or.inr rfl) (pe_lst (pa_cons (Xv.pe_of_mk (pmk_oex T.e_NoRow.T T.e_NoRow.iC T.e_NoRow.tI (ok_init_NoRow T) (hr.mono (by decide)) T.e_NoRow.b .nil pass0 (by rfl) T.e_NoRow.g (pa_cons (pv 2) pa_nil))) (pa_cons (Xv.pe_of_mk (pmk_oex T.e_NoText.T T.e_NoText.iC T.e_NoText.tI (ok_init_NoText T) (hr.mono (by decide)) T.e_NoText.b .nil pass0 (by rfl) T.e_NoText.g (pa_cons (pe_op op_add (pv 2) pe_int) pa_nil))) (pa_cons (Xv.pe_of_mk (pmk_oex T.e_Clash.T T.e_Clash.iC T.e_Clash.tI (ok_init_Clash T) (hr.mono (by decide)) T.e_Clash.b .nil pass0 (by rfl) T.e_Clash.g (pa_cons (pv 2) (pa_cons (pe_op op_add (pv 2) pe_int) pa_nil)))) (pa_cons (Xv.pe_of_mk (pmk_oex T.e_Short.T T.e_Short.iC T.e_Short.tI (ok_init_Short T) (hr.mono (by decide)) T.e_Short.b .nil pass0 (by rfl) T.e_Short.g (pa_cons pe_str (pa_cons (pv 3) pa_nil)))) (pa_cons (Xv.pe_of_mk (pmk_oex T.e_OffTime.T T.e_OffTime.iC T.e_OffTime.tI (ok_init_OffTime T) (hr.mono (by decide)) T.e_OffTime.b .nil pass0 (by rfl) T.e_OffTime.g (pa_cons (pv 4) pa_nil))) pa_nil)))))))
        (pss_cons (ps_set (i := 5) sc_law.nd rfl (by first | exact Or.inl rfl | exact Or.inr rfl) (pe_op op_cat (pv 5) (pe_lst (pa_cons (Xv.pe_of_mk (SkE.pmk_own1 PySem.F.excBase_ValueError T.r_NoAsk.q T.r_NoAsk.g T.r_NoAsk.k (raises_own T.r_NoAsk.s T.r_NoAsk.t) (by rfl) pe_str)) (pa_cons (Xv.pe_of_mk (SkE.pmk_own1 PySem.F.excBase_ValueError T.r_NoJob.q T.r_NoJob.g T.r_NoJob.k (raises_own T.r_NoJob.s T.r_NoJob.t) (by rfl) pe_str)) (pa_cons (Xv.pe_of_mk (SkE.pmk_own1 PySem.F.excBase_ValueError T.r_TooMany.q T.r_TooMany.g T.r_TooMany.k (raises_own T.r_TooMany.s T.r_TooMany.t) (by rfl) pe_str)) (pa_cons (Xv.pe_of_mk (SkE.pmk_own1 PySem.F.excBase_ValueError T.r_NoLine.q T.r_NoLine.g T.r_NoLine.k (raises_own T.r_NoLine.s T.r_NoLine.t) (by rfl) pe_str)) pa_nil)))))))
        (pss_cons (ps_for PassesOwn.never rfl (pi_range1 (by rfl) T.m_range (pa_cons pe_int pa_nil)) (pg_name (i := 6) sc_law.nd rfl (by first | exact Or.inl rfl | exact Or.inr rfl)) (pss_cons (ps_if (PW.pt (pw_or (pt_not (pt_val (pe_callB Xv.call_isX (by rfl) T.m_isinstance (by decide +kernel) (pa_cons (pe_ix ix_list (pv 5) (pv 6) (fun _ _ => rfl)) (pa_cons (pe_glob (v := .ref (af 22)) (by rfl) T.g_CallError rfl) pa_nil))))) (pw_or1 (pt_not (pt_val (pe_callB Xv.call_isX (by rfl) T.m_isinstance (by decide +kernel) (pa_cons (pe_ix ix_list (pv 5) (pv 6) (fun _ _ => rfl)) (pa_cons (pe_bltn (v := .ty "ValueError") (by rfl) T.m_ValueError (by decide +kernel) rfl) pa_nil)))))))) (pss_one (ps_ret pe_bl)) pss_nil)
        (pss_one (ps_if (pt_cmpR (op_neD hr.units) (pe_call (ok_l_sorts T) (hr.mono (by decide)) (by rfl) T.g_l_sorts T.F_l_sorts.kp T.b_l_sorts .nil pass0 (pa_cons (pe_ix ix_list (pv 5) (pv 6) (fun _ _ => rfl)) pa_nil)) (pe_lc (own := [("k", 7)]) (g := gName 7) (by rfl) sc_law.nd (pi_range1 (by rfl) T.m_range (pa_cons pe_int pa_nil)) (blkOk_by (own := [("k", 7)]) (N := ["script", "pen", "one", "some", "links", "made", "number", "k", "fields", "more", "rings", "short"]) (sc := defScope s_law) (by decide +kernel)) (fun _ _ _ _ _ => pg_name (i := 7) sc_law.nd rfl (Or.inl rfl)) (fun _ _ _ _ _ => pts_nil) (fun _ _ _ _ _ => (pe_cmpR op_eq (pv 7) (pv 6) (nomark _)))) (nomark _)) (pss_one (ps_ret pe_bl)) pss_nil))))
        (pss_cons (ps_set (i := 8) sc_law.nd rfl (by first | exact Or.inl rfl | exact Or.inr rfl) (pe_lst (pa_cons (Xv.pe_xv (pe_ix ix_list (pv 5) pe_int (fun _ _ => rfl))) (pa_cons (Xv.pe_xv (pe_ix ix_list (pv 5) pe_int (fun _ _ => rfl))) (pa_cons (Xv.pe_xv (pe_ix ix_list (pv 5) pe_int (fun _ _ => rfl))) (pa_cons (Xv.pe_xv (pe_ix ix_list (pv 5) pe_int (fun _ _ => rfl))) (pa_cons (Xv.pe_xv (pe_ix ix_list (pv 5) pe_int (fun _ _ => rfl))) pa_nil)))))))
        (pss_cons (ps_set (i := 8) sc_law.nd rfl (by first | exact Or.inl rfl | exact Or.inr rfl) (pe_op op_cat (pv 8) (pe_lst (pa_cons (Xv.pe_xv (pe_ix ix_list (pv 5) pe_int (fun _ _ => rfl))) (pa_cons (Xv.pe_xv (pe_ix ix_list (pv 5) pe_int (fun _ _ => rfl))) pa_nil)))))
        (pss_cons (ps_if (pt_not (pt_val (pe_call (ok_l_same T) (hr.mono (by decide)) (by rfl) T.g_l_same T.F_l_same.kp T.b_l_same .nil pass0 (pa_cons (pv 8) (pa_cons (pe_lst (pa_cons (pv 2) (pa_cons (pe_op op_add (pv 2) pe_int) (pa_cons (pv 2) (pa_cons (pe_op op_add (pv 2) pe_int) (pa_cons pe_str (pa_cons (pv 3) (pa_cons (pv 4) pa_nil)))))))) pa_nil))))) (pss_one (ps_ret pe_bl)) pss_nil)
        (pss_cons (ps_set (i := 9) sc_law.nd rfl (by first | exact Or.inl rfl | exact Or.inr rfl) (pe_slice sl_list (pe_lst (pa_cons (pe_tup (pa_cons pe_str (pa_cons (pe_call (ok_l_number T) (hr.mono (by decide)) (by rfl) T.g_l_number T.F_l_number.kp T.b_l_number .nil pass0 (pa_cons (pv 1) pa_nil)) pa_nil))) (pa_cons (pe_tup (pa_cons pe_str (pa_cons (pe_call (ok_l_number T) (hr.mono (by decide)) (by rfl) T.g_l_number T.F_l_number.kp T.b_l_number .nil pass0 (pa_cons (pv 1) pa_nil)) pa_nil))) (pa_cons (pe_tup (pa_cons pe_str (pa_cons pe_int pa_nil))) pa_nil)))) po_none (po_some (pe_call (ok_l_take T) (hr.mono (by decide)) (by rfl) T.g_l_take T.F_l_take.kp T.b_l_take .nil pass0 (pa_cons (pv 1) (pa_cons pe_int pa_nil))))))
        (pss_cons (ps_set (i := 10) sc_law.nd rfl (by first | exact Or.inl rfl | exact Or.inr rfl) (pe_slice sl_list (pe_lst (pa_cons (pe_tup (pa_cons pe_str (pa_cons pe_str (pa_cons (pe_call (ok_l_number T) (hr.mono (by decide)) (by rfl) T.g_l_number T.F_l_number.kp T.b_l_number .nil pass0 (pa_cons (pv 1) pa_nil)) pa_nil)))) (pa_cons (pe_tup (pa_cons pe_str (pa_cons pe_str (pa_cons (pe_op op_sub pe_int (pe_call (ok_l_number T) (hr.mono (by decide)) (by rfl) T.g_l_number T.F_l_number.kp T.b_l_number .nil pass0 (pa_cons (pv 1) pa_nil))) pa_nil)))) pa_nil))) po_none (po_some (pe_call (ok_l_take T) (hr.mono (by decide)) (by rfl) T.g_l_take T.F_l_take.kp T.b_l_take .nil pass0 (pa_cons (pv 1) (pa_cons pe_int pa_nil))))))
        (pss_cons (ps_set (i := 11) sc_law.nd rfl (by first | exact Or.inl rfl | exact Or.inr rfl) (Xv.pe_of_mk (pmk_oex T.e_Short.T T.e_Short.iC T.e_Short.tI (ok_init_Short T) (hr.mono (by decide)) T.e_Short.b .nil pass0 (by rfl) T.e_Short.g (pa_cons pe_str (pa_cons (pe_callTy call_list_of (by rfl) T.m_list (by decide +kernel) (pa_cons (pv 9) pa_nil)) pa_nil)))))
        (pss_one (ps_ret (pe_call (ok_l_same T) (hr.mono (by decide)) (by rfl) T.g_l_same T.F_l_same.kp T.b_l_same .nil pass0 (pa_cons (pe_lst (pa_cons (Xv.pe_xv (pv 11)) (pa_cons (Xv.pe_xv (pv 11)) (pa_cons (Xv.pe_xv (Xv.pe_of_mk (pmk_oex T.e_OffTime.T T.e_OffTime.iC T.e_OffTime.tI (ok_init_OffTime T) (hr.mono (by decide)) T.e_OffTime.b .nil pass0 (by rfl) T.e_OffTime.g (pa_cons (pe_callTy call_list_of (by rfl) T.m_list (by decide +kernel) (pa_cons (pv 10) pa_nil)) pa_nil)))) pa_nil)))) (pa_cons (pe_lst (pa_cons pe_str (pa_cons (pv 9) (pa_cons (pv 10) pa_nil)))) pa_nil)))))))))))))))))), ?_⟩
    refine ⟨_, rfl, a, ns, rfl, hS, hlen, fun p c H1 s1 np nc hP => ?_⟩
    refine ⟨_, rfl, p, c, rfl, hP, fun one H2 o0 o1 s2 => ?_⟩
    refine ⟨_, rfl, p, c, rfl, s2.1, fun x1 H3 _ _ s3 => ?_⟩
    refine ⟨(by show 2 ≤ sizeLine; decide), fun t1 nt1 => ⟨(by show 1 ≤ sizeLine; decide), fun l1 nl1 => ?_⟩⟩
    have s4 := ((Stp.refl s3.1).new (o := .tup [.str "a", .int x1]) s3.1 nt1).new (o := .lst [.ref t1]) s3.1 nl1
    have et1 : (upd (upd H3 t1 (.tup [.str "a", .int x1])) l1 (.lst [.ref t1])) t1 = some (.tup [.str "a", .int x1]) := same_upd nl1 _ _ upd_same
    have el1 : (upd (upd H3 t1 (.tup [.str "a", .int x1])) l1 (.lst [.ref t1])) l1 = some (.lst [.ref t1]) := upd_same
    have l1p : l1 ≠ p := fun e => ((Stp.refl s3.1).new (o := .tup [.str "a", .int x1]) s3.1 nt1).1.neP nl1 e.symm
    generalize upd (upd H3 t1 (.tup [.str "a", .int x1])) l1 (.lst [.ref t1]) = H4 at s4 et1 el1 ⊢
    refine ⟨_, rfl, p, c, rfl, s4.1, fun x2 H5 _ _ s5 => ?_⟩
    refine ⟨_, _, rfl, rfl, (by show 3 ≤ sizeLine; decide), fun t2 nt2 => ⟨(by show 1 ≤ sizeLine; decide), fun l2 nl2 => ?_⟩⟩
    have s6 := (s5.new (o := .tup [.str "a", .str "b", .int (x2 - 9)]) s4.1 nt2).new (o := .lst [.ref t2]) s4.1 nl2
    have et2 : (upd (upd H5 t2 (.tup [.str "a", .str "b", .int (x2 - 9)])) l2 (.lst [.ref t2])) t2 = some (.tup [.str "a", .str "b", .int (x2 - 9)]) := same_upd nl2 _ _ upd_same
    have el2 : (upd (upd H5 t2 (.tup [.str "a", .str "b", .int (x2 - 9)])) l2 (.lst [.ref t2])) l2 = some (.lst [.ref t2]) := upd_same
    dsimp only
    generalize upd (upd H5 t2 (.tup [.str "a", .str "b", .int (x2 - 9)])) l2 (.lst [.ref t2]) = H6 at s6 et2 el2 ⊢
    replace et1 := s6.tup s4.1 et1
    replace el1 := s6.2 l1 _ l1p el1
    have hP6 := s6.1
    -- made
    refine ⟨_, rfl, (by show 1 ≤ 1000; decide), fun b0 nb0 => ⟨b0, _, rfl, upd_same, fun d0 K0 k0 nd0 ne0 h0 j0 => ⟨rfl, d0, _, h0, j0, Xv.mk_nd nd0 ne0, fun a0 na0 => ?_⟩⟩⟩
    obtain ⟨G0, w0, g0, e0, f0, _⟩ := Xv.mk_same (u := Xv.ExD (.ref (af 8)) (some d0) a0) nb0 k0 nd0 ne0 na0
    rw [w0]
    refine ⟨_, rfl, _, _, rfl, rfl, (by show 1 ≤ 1000; decide), fun b1 nb1 => ⟨b1, _, rfl, upd_same, fun d1 K1 k1 nd1 ne1 h1 j1 => ⟨rfl, d1, _, h1, j1, Xv.mk_nd nd1 ne1, fun a1 na1 => ?_⟩⟩⟩
    obtain ⟨G1, w1, g1, e1, f1, _⟩ := Xv.mk_same (u := Xv.ExD (.ref (af 10)) (some d1) a1) nb1 k1 nd1 ne1 na1
    rw [w1]
    refine ⟨_, rfl, _, rfl, _, _, rfl, rfl, (by show 2 ≤ 1000; decide), fun b2 nb2 => ⟨b2, _, _, rfl, upd_same, fun d2 K2 k2 nd2 ne2 h2 j2 => ⟨rfl, d2, _, h2, j2, Xv.mk_nd nd2 ne2, fun a2 na2 => ?_⟩⟩⟩
    obtain ⟨G2, w2, g2, e2, f2, _⟩ := Xv.mk_same (u := Xv.ExD (.ref (af 12)) (some d2) a2) nb2 k2 nd2 ne2 na2
    rw [w2]
    have y2 := (g0.trans g1).trans g2
    refine ⟨_, rfl, (by show 2 ≤ 1000; decide), fun b3 nb3 => ⟨b3, l1, _, _, rfl, upd_same, same_upd nb3 _ _ (y2 _ _ el1), fun d3 m3 K3 k3 nd3 ne3 h3 j3 hm3 => ⟨rfl, d3, _, h3, j3, Xv.mk_nd nd3 ne3, fun a3 na3 => ?_⟩⟩⟩
    obtain ⟨G3, w3, g3, e3, f3, c3⟩ := Xv.mk_same (u := Xv.ExD (.ref (af 14)) (some d3) a3) nb3 k3 nd3 ne3 na3
    rw [w3]
    have i3 := c3 m3 _ (ne_of hm3 h3 fun z => exo_lst z.symm) (ne_of hm3 j3 fun z => exd_lst z.symm) hm3
    have y3 := y2.trans g3
    refine ⟨_, rfl, (by show 1 ≤ 1000; decide), fun b4 nb4 => ⟨b4, l2, _, rfl, upd_same, same_upd nb4 _ _ (y3 _ _ el2), fun d4 m4 K4 k4 nd4 ne4 h4 j4 hm4 => ⟨rfl, d4, _, h4, j4, Xv.mk_nd nd4 ne4, fun a4 na4 => ?_⟩⟩⟩
    obtain ⟨G4, w4, g4, e4, f4, c4⟩ := Xv.mk_same (u := Xv.ExD (.ref (af 16)) (some d4) a4) nb4 k4 nd4 ne4 na4
    rw [w4]
    have i4 := c4 m4 _ (ne_of hm4 h4 fun z => exo_lst z.symm) (ne_of hm4 j4 fun z => exd_lst z.symm) hm4
    have y4 := y3.trans g4
    refine ⟨(by show 5 ≤ sizeLine; decide), fun L nL => ?_⟩
    have g5 : Same G4 (upd G4 L (.lst [.ref a0, .ref a1, .ref a2, .ref a3, .ref a4])) := same_upd nL
    have eL : (upd G4 L (.lst [.ref a0, .ref a1, .ref a2, .ref a3, .ref a4])) L = some (.lst [.ref a0, .ref a1, .ref a2, .ref a3, .ref a4]) := upd_same
    generalize upd G4 L (.lst [.ref a0, .ref a1, .ref a2, .ref a3, .ref a4]) = G5 at g5 eL ⊢
    refine ⟨_, rfl, fun a5 n5 a6 n6 a7 n7 a8 n8 => ⟨(by show 4 ≤ sizeLine; decide), fun L2 nL2 => ?_⟩⟩
    obtain ⟨X0, eX, r5, x5, x6, x7, x8, xL⟩ : ∃ X0, upd (upd (upd (upd (upd G5 a5 (Xv.ExD (.ref (af 18)) none a5)) a6 (Xv.ExD (.ref (af 19)) none a6)) a7 (Xv.ExD (.ref (af 20)) none a7)) a8 (Xv.ExD (.ref (af 21)) none a8)) L2 (.lst [.ref a5, .ref a6, .ref a7, .ref a8]) = X0 ∧ Same G5 X0 ∧ X0 a5 = some (Xv.ExD (.ref (af 18)) none a5) ∧ X0 a6 = some (Xv.ExD (.ref (af 19)) none a6) ∧ X0 a7 = some (Xv.ExD (.ref (af 20)) none a7) ∧ X0 a8 = some (Xv.ExD (.ref (af 21)) none a8) ∧ X0 L2 = some (.lst [.ref a5, .ref a6, .ref a7, .ref a8]) := by
      have u8 := same_upd (o := .lst [.ref a5, .ref a6, .ref a7, .ref a8]) nL2
      have u7 := (same_upd (o := Xv.ExD (.ref (af 21)) none a8) n8).trans u8
      have u6 := (same_upd (o := Xv.ExD (.ref (af 20)) none a7) n7).trans u7
      have u5 := (same_upd (o := Xv.ExD (.ref (af 19)) none a6) n6).trans u6
      exact ⟨_, rfl, (same_upd (o := Xv.ExD (.ref (af 18)) none a5) n5).trans u5, u5 _ _ upd_same, u6 _ _ upd_same, u7 _ _ upd_same, u8 _ _ upd_same, upd_same⟩
    rw [eX]
    refine ⟨L, L2, _, _, rfl, rfl, r5 _ _ eL, xL, (by show 9 ≤ sizeLine; decide), fun M nM => ?_⟩
    have z6 := same_upd (o := .lst [.ref a0, .ref a1, .ref a2, .ref a3, .ref a4, .ref a5, .ref a6, .ref a7, .ref a8]) nM
    have eM : (upd X0 M (.lst [.ref a0, .ref a1, .ref a2, .ref a3, .ref a4, .ref a5, .ref a6, .ref a7, .ref a8])) M = some (.lst [.ref a0, .ref a1, .ref a2, .ref a3, .ref a4, .ref a5, .ref a6, .ref a7, .ref a8]) := upd_same
    have ew : (upd X0 M (.lst ([.ref a0, .ref a1, .ref a2, .ref a3, .ref a4] ++ [.ref a5, .ref a6, .ref a7, .ref a8]))) = (upd X0 M (.lst [.ref a0, .ref a1, .ref a2, .ref a3, .ref a4, .ref a5, .ref a6, .ref a7, .ref a8])) := rfl
    rw [ew]
    generalize upd X0 M (.lst [.ref a0, .ref a1, .ref a2, .ref a3, .ref a4, .ref a5, .ref a6, .ref a7, .ref a8]) = G at z6 eM ⊢
    have z5 := r5.trans z6
    have z4 := g5.trans z5
    have z3 := g4.trans z4
    have z2 := g3.trans z3
    have z1 := g2.trans z2
    have z0 := g1.trans z1
    have all9 : ∀ i, i < 9 → ∃ b, [V.ref a0, .ref a1, .ref a2, .ref a3, .ref a4, .ref a5, .ref a6, .ref a7, .ref a8][i]? = some (.ref b) ∧ Xv.ExcAt G b (kc af i) := fun i hi => match i, hi with
      | 0, _ => ⟨a0, rfl, .dict d0 _ (z0 _ _ e0) (z0 _ _ f0)⟩
      | 1, _ => ⟨a1, rfl, .dict d1 _ (z1 _ _ e1) (z1 _ _ f1)⟩
      | 2, _ => ⟨a2, rfl, .dict d2 _ (z2 _ _ e2) (z2 _ _ f2)⟩
      | 3, _ => ⟨a3, rfl, .dict d3 _ (z3 _ _ e3) (z3 _ _ f3)⟩
      | 4, _ => ⟨a4, rfl, .dict d4 _ (z4 _ _ e4) (z4 _ _ f4)⟩
      | 5, _ => ⟨a5, rfl, .bare (z6 _ _ x5)⟩
      | 6, _ => ⟨a6, rfl, .bare (z6 _ _ x6)⟩
      | 7, _ => ⟨a7, rfl, .bare (z6 _ _ x7)⟩
      | 8, _ => ⟨a8, rfl, .bare (z6 _ _ x8)⟩
      | _ + 9, h => absurd h (by omega)
    refine ⟨9, rfl, by decide, by decide, for_range (lo := 0) (n := 9) (fun i σ H' => (∃ v6 v7 : Option V, σ = [some (.ref a), some (.ref p), some (.int one), some (.ref l1), some (.ref l2), some (.ref M), v6, v7, none, none, none, none]) ∧ Same G H')
      ⟨⟨none, none, rfl⟩, Same.refl _⟩ ?_ ?_⟩
    · rintro i σ F hi ⟨⟨v6, v7, rfl⟩, g⟩
      obtain ⟨b, hb, hA⟩ := all9 i hi
      have hC := kit_exc T i hi
      have hA1 := hA.same g
      have eM1 := g _ _ eM
      refine ⟨_, rfl, _, rfl, M, _, _, .ref b, rfl, rfl, SqL.of eM1, at_any (j := i) (by omega) hb, b, _, _, _, _, rfl, .own _, hC, hA1, kit_top T i hi, _, rfl, iteF ?_⟩
      refine ⟨_, rfl, _, rfl, M, _, _, .ref b, rfl, rfl, SqL.of eM1, at_any (j := i) (by omega) hb, b, _, _, _, _, rfl, .ty "ValueError", hC, hA1, kit_ve T i hi, _, rfl, iteF ?_⟩
      refine ⟨_, rfl, _, rfl, M, _, _, .ref b, rfl, rfl, SqL.of eM1, at_any (j := i) (by omega) hb, b, i, rfl, hi, hA1, fun l F1 k1 hl => ?_⟩
      refine ⟨9, rfl, by decide, by decide, fun D nD => lc_range (lo := 0) (n := 9) (fun j H' => Same F1 H' ∧ H' D = some (.lst ((List.range j).map fun k => V.bl (decide (i = k)))))
        ⟨same_upd nD, upd_same⟩ ?_ ?_⟩
      · rintro j F2 hj ⟨k2, hD⟩
        have ev : decide (V.int ((0 : Int) + (j : Nat)) = V.int ((0 : Int) + (i : Nat))) = decide (i = j) := decide_eq_decide.mpr ⟨fun z => by have := V.int.inj z; omega, fun z => by rw [z]⟩
        refine ⟨rfl, yes_if ⟨_, rfl, _, rfl, rfl, _, hD, small1000 (by rw [List.length_map, List.length_range]; omega), same_mut k2 nD, ?_⟩⟩
        rw [upd_same, List.range_succ, List.map_append, ev]
        rfl
      · rintro F2 ⟨k2, hD⟩
        have hl2 := k2 _ _ hl
        refine ⟨.list ((List.range 9).map fun k => .bool (decide (i = k))), .list ((List.range 9).map fun k => .bool (decide (i = k))), Dp.lst (SqL.of hl2) (dp_bools _ _), Dp.lst (SqL.of hD) (dp_bools _ _), bools_shaped _ _, bools_shaped _ _, _, rfl, ?_⟩
        rw [PySem.SeqAt.eqv_refl (.list ((List.range 9).map fun k => .bool (decide (i = k)))) (bools_sh (fun k => decide (i = k)) (List.range 9)).1]
        exact iteF ⟨⟨_, _, rfl⟩, (g.trans k1).trans k2⟩
    · rintro σ F ⟨⟨v6, v7, rfl⟩, g⟩
      have q4 := z4.trans g
      have q3 := z3.trans g
      have q2 := z2.trans g
      have q1 := z1.trans g
      have q0 := z0.trans g
      have W6 := y4.trans q4
      have eM1 := g _ _ eM
      refine ⟨_, rfl, M, _, 0, _, rfl, rfl, SqL.of eM1, rfl, a0, _, d0, _, _, rfl, T.e_NoRow.xf, T.e_NoRow.no _ List.mem_cons_self, q0 _ _ e0, q0 _ _ f0, rfl, ?_⟩
      refine ⟨_, rfl, M, _, 1, _, rfl, rfl, SqL.of eM1, rfl, a1, _, d1, _, _, rfl, T.e_NoText.xf, T.e_NoText.no _ List.mem_cons_self, q1 _ _ e1, q1 _ _ f1, rfl, ?_⟩
      refine ⟨_, rfl, M, _, 2, _, rfl, rfl, SqL.of eM1, rfl, a2, _, d2, _, _, rfl, T.e_Clash.xf, T.e_Clash.no _ List.mem_cons_self, q2 _ _ e2, q2 _ _ f2, rfl, ?_⟩
      refine ⟨_, rfl, M, _, 2, _, rfl, rfl, SqL.of eM1, rfl, a2, _, d2, _, _, rfl, T.e_Clash.xf, T.e_Clash.no _ (List.mem_cons_of_mem _ List.mem_cons_self), q2 _ _ e2, q2 _ _ f2, rfl, ?_⟩
      refine ⟨_, rfl, M, _, 3, _, rfl, rfl, SqL.of eM1, rfl, a3, _, d3, _, _, rfl, T.e_Short.xf, T.e_Short.no _ List.mem_cons_self, q3 _ _ e3, q3 _ _ f3, rfl, ?_⟩
      refine ⟨(by show 5 ≤ sizeLine; decide), fun lf nf => ?_⟩
      have g1' : Same F (upd F lf (.lst [.int one, .int (one + 2), .int one, .int (one + 1), .str "asks"])) := same_upd nf
      have ef : (upd F lf (.lst [.int one, .int (one + 2), .int one, .int (one + 1), .str "asks"])) lf = some (.lst [.int one, .int (one + 2), .int one, .int (one + 1), .str "asks"]) := upd_same
      dsimp only
      generalize upd F lf (.lst [.int one, .int (one + 2), .int one, .int (one + 1), .str "asks"]) = F1 at g1' ef ⊢
      have q4' := q4.trans g1'
      have q3' := q3.trans g1'
      have eM2 := g1' _ _ eM1
      refine ⟨_, rfl, _, rfl, M, _, 3, _, rfl, rfl, SqL.of eM2, rfl, a3, _, d3, _, _, rfl, T.e_Short.xf, T.e_Short.no _ (List.mem_cons_of_mem _ List.mem_cons_self), q3' _ _ e3, q3' _ _ f3, rfl, ?_⟩
      refine ⟨_, rfl, M, _, 4, _, rfl, rfl, SqL.of eM2, rfl, a4, _, d4, _, _, rfl, T.e_OffTime.xf, T.e_OffTime.no _ List.mem_cons_self, q4' _ _ e4, q4' _ _ f4, rfl, ?_⟩
      refine ⟨(by show 2 ≤ sizeLine; decide), fun lg ng => ⟨lf, lg, _, _, rfl, rfl, same_upd ng _ _ ef, upd_same, (by show 7 ≤ sizeLine; decide), fun lh nh => ?_⟩⟩
      obtain ⟨F3, w3', g3', eh⟩ : ∃ F3, upd (upd F1 lg (.lst [.ref m3, .ref m4])) lh (.lst ([.int one, .int (one + 2), .int one, .int (one + 1), .str "asks"] ++ [.ref m3, .ref m4])) = F3 ∧ Same F1 F3 ∧ F3 lh = some (.lst [.int one, .int (one + 2), .int one, .int (one + 1), .str "asks", .ref m3, .ref m4]) := ⟨_, rfl, (same_upd ng).trans (same_upd nh), upd_same⟩
      rw [w3']
      refine ⟨_, rfl, _, rfl, _, rfl, _, _, rfl, rfl, _, rfl, _, rfl, _, _, rfl, rfl, _, rfl, _, rfl, (by show 7 ≤ sizeLine; decide), fun li ni => ?_⟩
      have g4' : Same F (upd F3 li (.lst [.int one, .int (one + 2), .int one, .int (one + 1), .str "asks", .ref l1, .ref l2])) := (g1'.trans g3').trans (same_upd ni)
      have eh4 := same_upd (o := .lst [.int one, .int (one + 2), .int one, .int (one + 1), .str "asks", .ref l1, .ref l2]) ni _ _ eh
      have W7 := W6.trans g4'
      have i3' := (q3.trans g4') _ _ i3
      have i4' := (q4.trans g4') _ _ i4
      have D1 : Dqs (fun _ => False) (upd F3 li (.lst [.int one, .int (one + 2), .int one, .int (one + 1), .str "asks", .ref l1, .ref l2])) [.ref t1] [.tuple [.str "a", .int x1]] := .cons (.tup (W7 _ _ et1) (.cons (.str _) (.cons (.int _) .nil))) .nil
      have D2 : Dqs (fun _ => False) (upd F3 li (.lst [.int one, .int (one + 2), .int one, .int (one + 1), .str "asks", .ref l1, .ref l2])) [.ref t2] [.tuple [.str "a", .str "b", .int (x2 - 9)]] := .cons (.tup (W7 _ _ et2) (.cons (.str _) (.cons (.str _) (.cons (.int _) .nil)))) .nil
      refine ⟨fun _ => False, fun _ => False, .ref lh, .ref li, .list [.int one, .int (one + 2), .int one, .int (one + 1), .str "asks", .list [.tuple [.str "a", .int x1]], .list [.tuple [.str "a", .str "b", .int (x2 - 9)]]], rfl,
        .lst (fun z => z) eh4 (.cons (.int _) (.cons (.int _) (.cons (.int _) (.cons (.int _) (.cons (.str _) (.cons (.lst (fun z => z) i3' D1) (.cons (.lst (fun z => z) i4' D2) .nil))))))),
        .lst (fun z => z) upd_same (.cons (.int _) (.cons (.int _) (.cons (.int _) (.cons (.int _) (.cons (.str _) (.cons (.lst (fun z => z) (W7 _ _ el1) D1) (.cons (.lst (fun z => z) (W7 _ _ el2) D2) .nil))))))),
        (by show 3 < 5; decide), fun B0 gB0 => ⟨true, rfl, iteF ?_⟩⟩
      have hPB : Pen B0 p c := (hP6.same W7).same gB0
      clear i3' i4' D1 D2 eh4 W7 g4' ni w3' g3' eh nh ng ef g1' q4' q3' eM2
      -- more
      refine ⟨_, rfl, p, c, rfl, hPB, fun y1 B1 y10 y11 b1' => ⟨(by show 2 ≤ sizeLine; decide), fun u1 nu1 => ?_⟩⟩
      have p1 := b1'.new (o := .tup [.str "b", .int y1]) hPB nu1
      refine ⟨_, rfl, p, c, rfl, p1.1, fun y2 B2 y20 y21 b2' => ⟨(by show 2 ≤ sizeLine; decide), fun u2 nu2 => ⟨(by show 2 ≤ sizeLine; decide), fun u3 nu3 => ⟨(by show 3 ≤ sizeLine; decide), fun lm nm => ?_⟩⟩⟩⟩
      have pp2 := p1.trans b2'
      have lmp : lm ≠ p := fun e => (((Stp.refl b2'.1).new (o := .tup [.str "a", .int y2]) b2'.1 nu2).new (o := .tup [.str "a", .int 0]) b2'.1 nu3).1.neP nm e.symm
      obtain ⟨B3, w3', p3, eu1, eu2, eu3, elm⟩ : ∃ B3, upd (upd (upd B2 u2 (.tup [.str "a", .int y2])) u3 (.tup [.str "a", .int 0])) lm (.lst [.ref u1, .ref u2, .ref u3]) = B3 ∧ Stp p c B0 B3 ∧ B3 u1 = some (.tup [.str "b", .int y1]) ∧ B3 u2 = some (.tup [.str "a", .int y2]) ∧ B3 u3 = some (.tup [.str "a", .int 0]) ∧ B3 lm = some (.lst [.ref u1, .ref u2, .ref u3]) :=
        ⟨_, rfl, ((pp2.new hPB nu2).new hPB nu3).new hPB nm, same_upd nm _ _ (same_upd nu3 _ _ (same_upd nu2 _ _ (b2'.tup p1.1 upd_same))), same_upd nm _ _ (same_upd nu3 _ _ upd_same), same_upd nm _ _ upd_same, upd_same⟩
      rw [w3']
      dsimp only [tNoPart]
      refine ⟨_, rfl, p, c, 4, rfl, p3.1, by decide, by decide, fun r B4 r0 r1 b4' => ⟨r, rfl, lm, _, rfl, SqL.of (b4'.2 lm _ lmp elm), fun ln nln => ?_⟩⟩
      rw [cut_r _ r0]
      have E1 : Dqs (fun _ => True) B4 ([V.ref u1, .ref u2, .ref u3].take r.toNat) ([PyData.tuple [.str "b", .int y1], .tuple [.str "a", .int y2], .tuple [.str "a", .int 0]].take r.toNat) :=
        Dqs.take _ (.cons (.tup (b4'.tup p3.1 eu1) (.cons (.str _) (.cons (.int _) .nil))) (.cons (.tup (b4'.tup p3.1 eu2) (.cons (.str _) (.cons (.int _) .nil))) (.cons (.tup (b4'.tup p3.1 eu3) (.cons (.str _) (.cons (.int _) .nil))) .nil)))
      have dE1 := depth_take [PyData.tuple [.str "b", .int y1], .tuple [.str "a", .int y2], .tuple [.str "a", .int 0]] r.toNat
      generalize [V.ref u1, .ref u2, .ref u3].take r.toNat = xs1 at E1 ⊢
      generalize [PyData.tuple [.str "b", .int y1], .tuple [.str "a", .int y2], .tuple [.str "a", .int 0]].take r.toNat = ds1 at E1 dE1
      have lnp : ln ≠ p := fun e => b4'.1.neP nln e.symm
      obtain ⟨B5, w5', p5, eln⟩ : ∃ B5, upd B4 ln (.lst xs1) = B5 ∧ Stp p c B4 B5 ∧ B5 ln = some (.lst xs1) := ⟨_, rfl, (Stp.refl b4'.1).new b4'.1 nln, upd_same⟩
      rw [w5']
      replace E1 := E1.tp b4'.1 p5
      -- rings
      refine ⟨_, rfl, p, c, rfl, p5.1, fun y3 B6 _ _ b6' => ⟨(by show 3 ≤ sizeLine; decide), fun u4 nu4 => ?_⟩⟩
      have p6 := b6'.new (o := .tup [.str "b", .str "a", .int y3]) p5.1 nu4
      refine ⟨_, rfl, p, c, rfl, p6.1, fun y4 B7 _ _ b7' => ⟨_, _, rfl, rfl, (by show 3 ≤ sizeLine; decide), fun u5 nu5 => ⟨(by show 2 ≤ sizeLine; decide), fun lo no => ?_⟩⟩⟩
      have lop : lo ≠ p := fun e => ((Stp.refl b7'.1).new (o := .tup [.str "a", .str "b", .int (0 - y4)]) b7'.1 nu5).1.neP no e.symm
      obtain ⟨B8, w8', p8, eu4, eu5, elo⟩ : ∃ B8, upd (upd B7 u5 (.tup [.str "a", .str "b", .int (0 - y4)])) lo (.lst [.ref u4, .ref u5]) = B8 ∧ Stp p c B5 B8 ∧ B8 u4 = some (.tup [.str "b", .str "a", .int y3]) ∧ B8 u5 = some (.tup [.str "a", .str "b", .int (0 - y4)]) ∧ B8 lo = some (.lst [.ref u4, .ref u5]) :=
        ⟨_, rfl, ((p6.trans b7').new p5.1 nu5).new p5.1 no, same_upd no _ _ (same_upd nu5 _ _ (b7'.tup p6.1 upd_same)), same_upd no _ _ upd_same, upd_same⟩
      dsimp only [tNoPart]
      rw [w8']
      refine ⟨_, rfl, p, c, 3, rfl, p8.1, by decide, by decide, fun r2 B9 r20 r21 b9' => ⟨r2, rfl, lo, _, rfl, SqL.of (b9'.2 lo _ lop elo), fun lr nlr => ?_⟩⟩
      rw [cut_r _ r20]
      have E2 : Dqs (fun _ => True) B9 ([V.ref u4, .ref u5].take r2.toNat) ([PyData.tuple [.str "b", .str "a", .int y3], .tuple [.str "a", .str "b", .int (0 - y4)]].take r2.toNat) :=
        Dqs.take _ (.cons (.tup (b9'.tup p8.1 eu4) (.cons (.str _) (.cons (.str _) (.cons (.int _) .nil)))) (.cons (.tup (b9'.tup p8.1 eu5) (.cons (.str _) (.cons (.str _) (.cons (.int _) .nil)))) .nil))
      have dE2 := depth_take [PyData.tuple [.str "b", .str "a", .int y3], .tuple [.str "a", .str "b", .int (0 - y4)]] r2.toNat
      generalize [V.ref u4, .ref u5].take r2.toNat = xs2 at E2 ⊢
      generalize [PyData.tuple [.str "b", .str "a", .int y3], .tuple [.str "a", .str "b", .int (0 - y4)]].take r2.toNat = ds2 at E2 dE2
      have eln9 := (p8.trans b9').2 ln _ lnp eln
      replace E1 := E1.tp p5.1 (p8.trans b9')
      obtain ⟨C0, w9', s9, elr⟩ : ∃ C0, upd B9 lr (.lst xs2) = C0 ∧ Same B9 C0 ∧ C0 lr = some (.lst xs2) := ⟨_, rfl, same_upd nlr, upd_same⟩
      rw [w9']
      have eln0 := s9 _ _ eln9
      -- short
      refine ⟨_, rfl, ln, _, rfl, .inl (SqL.of eln0), fun lc nlc => ⟨(by show 2 ≤ 1000; decide), fun b nb => ⟨b, lc, _, _, rfl, upd_same, same_upd nb _ _ upd_same, fun dS mS KS kS ndS neS hS' jS hmS => ⟨rfl, dS, _, hS', jS, Xv.mk_nd ndS neS, fun aS naS => ?_⟩⟩⟩⟩
      obtain ⟨C1, wS, gS, eS, fS, cS⟩ := Xv.mk_same (u := Xv.ExD (.ref (af 14)) (some dS) aS) nb kS ndS neS naS
      rw [wS]
      have iS := cS mS _ (ne_of hmS hS' fun z => exo_lst z.symm) (ne_of hmS jS fun z => exd_lst z.symm) hmS
      have t01 : Same C0 C1 := (same_upd nlc).trans gS
      refine ⟨_, rfl, aS, _, dS, _, _, rfl, T.e_Short.xf, T.e_Short.no _ List.mem_cons_self, eS, fS, rfl, ?_⟩
      refine ⟨_, rfl, aS, _, dS, _, _, rfl, T.e_Short.xf, T.e_Short.no _ (List.mem_cons_of_mem _ List.mem_cons_self), eS, fS, rfl, ?_⟩
      refine ⟨_, rfl, lr, _, rfl, .inl (SqL.of (t01 _ _ elr)), fun lq nq => ⟨(by show 1 ≤ 1000; decide), fun b' nb' => ⟨b', lq, _, rfl, upd_same, same_upd nb' _ _ upd_same, fun dO mO KO kO ndO neO hO jO hmO => ⟨rfl, dO, _, hO, jO, Xv.mk_nd ndO neO, fun aO naO => ?_⟩⟩⟩⟩
      obtain ⟨C2, wO, gO, eO, fO, cO⟩ := Xv.mk_same (u := Xv.ExD (.ref (af 16)) (some dO) aO) nb' kO ndO neO naO
      rw [wO]
      have iO := cO mO _ (ne_of hmO hO fun z => exo_lst z.symm) (ne_of hmO jO fun z => exd_lst z.symm) hmO
      have t12 : Same C1 C2 := (same_upd nq).trans gO
      refine ⟨aO, _, dO, _, _, rfl, T.e_OffTime.xf, T.e_OffTime.no _ List.mem_cons_self, eO, fO, rfl, (by show 3 ≤ sizeLine; decide), fun L1 nL1 => ?_⟩
      refine ⟨_, rfl, _, rfl, (by show 3 ≤ sizeLine; decide), fun L3 nL3 => ?_⟩
      obtain ⟨C4, wL, t24, eL1, eL3⟩ : ∃ C4, upd (upd C2 L1 (.lst [.str "jobs", .ref mS, .ref mO])) L3 (.lst [.str "jobs", .ref ln, .ref lr]) = C4 ∧ Same C2 C4 ∧ C4 L1 = some (.lst [.str "jobs", .ref mS, .ref mO]) ∧ C4 L3 = some (.lst [.str "jobs", .ref ln, .ref lr]) := ⟨_, rfl, (same_upd nL1).trans (same_upd nL3), same_upd nL3 _ _ upd_same, upd_same⟩
      rw [wL]
      have t14 := t12.trans t24
      have t04 := t01.trans t14
      have D1 := E1.fin (s9.trans t04)
      have D2 := E2.fin (s9.trans t04)
      refine ⟨fun _ => False, fun _ => False, .ref L1, .ref L3, .list [.str "jobs", .list ds1, .list ds2], rfl,
        .lst (fun z => z) eL1 (.cons (.str _) (.cons (.lst (fun z => z) (t14 _ _ iS) D1) (.cons (.lst (fun z => z) (t24 _ _ iO) D2) .nil))),
        .lst (fun z => z) eL3 (.cons (.str _) (.cons (.lst (fun z => z) (t04 _ _ eln0) D1) (.cons (.lst (fun z => z) (t04 _ _ elr) D2) .nil))), ?_, fun _ _ => q _⟩
      show max 0 (max (PyData.depthAll ds1 + 1) (max (PyData.depthAll ds2 + 1) 0)) + 1 < 5
      have m1 : PyData.depthAll ds1 ≤ 1 := dE1
      have m2 : PyData.depthAll ds2 ≤ 1 := dE2
      omega

end
theorem all_mk {l : PySem.W.OpenLaw} {w : World} {K : PySem.W.Frag} {h : Heap} {mg : Str → Option Value} {fa : Addr} (X : K.In h) (G : h.Ns mainGlobals mg) (hfa : mg "law" = some (.ref fa))
    {f0 f1 f2 f3 f4 f5 f6 f7 : Addr}
    {od0 an0 od1 an1 od2 an2 od3 an3 od4 an4 od5 an5 od6 an6 od7 an7 : Option Addr} {sl0 sl1 sl2 sl3 sl4 sl5 sl6 sl7 : Array (Option Value)} {oc0 kV0 dc0 pm0 cd0 ct0 oc1 kV1 dc1 pm1 cd1 ct1 oc2 kV2 dc2 pm2 cd2 ct2 oc3 kV3 dc3 pm3 cd3 ct3 oc4 kV4 dc4 pm4 cd4 ct4 oc5 kV5 dc5 pm5 cd5 ct5 oc6 kV6 dc6 pm6 cd6 ct6 oc7 kV7 dc7 pm7 cd7 ct7 : Value}
    (a0 : PySem.W.nsIn K mainGlobals "own_copy" = some (some (.ref f0))) (l0 : K.lookup f0 = some ⟨oc0, od0, .func (PySem.W.fnOf "own_copy" "own_copy" (defArgs s_own_copy) (defBody s_own_copy) (defScope s_own_copy) .none kV0 dc0 pm0 an0 cd0 ct0), sl0⟩) (c0 : PySem.W.codeIn K cd0 "own_copy" = true) (k0 : PySem.W.keepIn K (.ref f0) = true)
    (a1 : PySem.W.nsIn K mainGlobals "_law_spread" = some (some (.ref f1))) (l1 : K.lookup f1 = some ⟨oc1, od1, .func (PySem.W.fnOf "_law_spread" "_law_spread" (defArgs s_l_spread) (defBody s_l_spread) (defScope s_l_spread) .none kV1 dc1 pm1 an1 cd1 ct1), sl1⟩) (c1 : PySem.W.codeIn K cd1 "_law_spread" = true) (k1 : PySem.W.keepIn K (.ref f1) = true)
    (a2 : PySem.W.nsIn K mainGlobals "_law_open" = some (some (.ref f2))) (l2 : K.lookup f2 = some ⟨oc2, od2, .func (PySem.W.fnOf "_law_open" "_law_open" (defArgs s_l_open) (defBody s_l_open) (defScope s_l_open) .none kV2 dc2 pm2 an2 cd2 ct2), sl2⟩) (c2 : PySem.W.codeIn K cd2 "_law_open" = true) (k2 : PySem.W.keepIn K (.ref f2) = true)
    (a3 : PySem.W.nsIn K mainGlobals "_law_take" = some (some (.ref f3))) (l3 : K.lookup f3 = some ⟨oc3, od3, .func (PySem.W.fnOf "_law_take" "_law_take" (defArgs s_l_take) (defBody s_l_take) (defScope s_l_take) .none kV3 dc3 pm3 an3 cd3 ct3), sl3⟩) (c3 : PySem.W.codeIn K cd3 "_law_take" = true) (k3 : PySem.W.keepIn K (.ref f3) = true)
    (a4 : PySem.W.nsIn K mainGlobals "_law_number" = some (some (.ref f4))) (l4 : K.lookup f4 = some ⟨oc4, od4, .func (PySem.W.fnOf "_law_number" "_law_number" (defArgs s_l_number) (defBody s_l_number) (defScope s_l_number) .none kV4 dc4 pm4 an4 cd4 ct4), sl4⟩) (c4 : PySem.W.codeIn K cd4 "_law_number" = true) (k4 : PySem.W.keepIn K (.ref f4) = true)
    (a5 : PySem.W.nsIn K mainGlobals "_law_same" = some (some (.ref f5))) (l5 : K.lookup f5 = some ⟨oc5, od5, .func (PySem.W.fnOf "_law_same" "_law_same" (defArgs s_l_same) (defBody s_l_same) (defScope s_l_same) .none kV5 dc5 pm5 an5 cd5 ct5), sl5⟩) (c5 : PySem.W.codeIn K cd5 "_law_same" = true) (k5 : PySem.W.keepIn K (.ref f5) = true)
    (a6 : PySem.W.nsIn K mainGlobals "_law_sorts" = some (some (.ref f6))) (l6 : K.lookup f6 = some ⟨oc6, od6, .func (PySem.W.fnOf "_law_sorts" "_law_sorts" (defArgs s_l_sorts) (defBody s_l_sorts) (defScope s_l_sorts) .none kV6 dc6 pm6 an6 cd6 ct6), sl6⟩) (c6 : PySem.W.codeIn K cd6 "_law_sorts" = true) (k6 : PySem.W.keepIn K (.ref f6) = true)
    (a7 : PySem.W.nsIn K mainGlobals "law" = some (some (.ref f7))) (l7 : K.lookup f7 = some ⟨oc7, od7, .func (PySem.W.fnOf "law" "law" (defArgs s_law) (defBody s_law) (defScope s_law) .none kV7 dc7 pm7 an7 cd7 ct7), sl7⟩) (c7 : PySem.W.codeIn K cd7 "law" = true) (k7 : PySem.W.keepIn K (.ref f7) = true)
    {xC0 xI0 xB0 : Addr} {xnm0 xq0 : Str} {xN0 : Addr} {xbs0 : List Value} {xsn0 : List Str} {xsub0 : List Value} {xab0 : Bool} {xcol0 : Option Bool} {xdd0 : Option Addr} {xm00 xm10 xm20 xm30 xm50 : Option Value} {xod0 xan0 : Option Addr} {xsl0 : Array (Option Value)} {xoc0 xkV0 xdc0 xpm0 xcd0 xct0 : Value}
    (ea0 : PySem.W.nsIn K mainGlobals "NoRow" = some (some (.ref xC0))) (eb0 : K.lookup xC0 = some (excClassObj xnm0 xq0 xC0 xN0 xbs0 [.ref xB0, .type "ValueError", .type "Exception", .type "BaseException", .type "object"] true xsn0 xsub0 xab0 xcol0 xdd0 xm00 xm10 xm20 xm30 xm50 "ValueError.__new__"))
    (ec0 : PySem.W.findIn K (.ref xC0) "__setattr__" = some (some (.builtin "object.__setattr__"))) (ed0 : PySem.W.findIn K (.ref xC0) "__getattribute__" = some (some (.builtin "BaseException.__getattribute__"))) (ee0 : PySem.W.findIn K (.ref xC0) "__getattr__" = some none)
    (ef0 : PySem.W.findIn K (.ref xC0) "__init__" = some (some (.ref xI0))) (eg0 : PySem.W.typeIn K (.ref xI0) = some (.type "function"))
    (eh0 : K.lookup xI0 = some ⟨xoc0, xod0, .func (PySem.W.fnOf "__init__" "NoRow.__init__" (defArgs s_i_NoRow) (defBody s_i_NoRow) (defScope s_i_NoRow) .none xkV0 xdc0 xpm0 xan0 xcd0 xct0), xsl0⟩) (ei0 : PySem.W.codeIn K xcd0 "NoRow.__init__" = true) (ej0 : PySem.W.keepIn K (.ref xI0) = true)
    (ek0 : PySem.W.keepIn K (.ref xC0) = true) (el0 : PySem.W.subIn K (.ref xC0) (.type "BaseException") = some true) (em0 : PySem.W.typeIn K (.ref xC0) = some (.type "type")) (en0 : PySem.W.hasDictIn K xC0 = true) (eo0 : PySem.W.isClsIn K xC0 = true)
    (ep0_0 : PySem.W.findIn K (.ref xC0) "number" = some none)
    {xC1 xI1 xB1 : Addr} {xnm1 xq1 : Str} {xN1 : Addr} {xbs1 : List Value} {xsn1 : List Str} {xsub1 : List Value} {xab1 : Bool} {xcol1 : Option Bool} {xdd1 : Option Addr} {xm01 xm11 xm21 xm31 xm51 : Option Value} {xod1 xan1 : Option Addr} {xsl1 : Array (Option Value)} {xoc1 xkV1 xdc1 xpm1 xcd1 xct1 : Value}
    (ea1 : PySem.W.nsIn K mainGlobals "NoText" = some (some (.ref xC1))) (eb1 : K.lookup xC1 = some (excClassObj xnm1 xq1 xC1 xN1 xbs1 [.ref xB1, .type "ValueError", .type "Exception", .type "BaseException", .type "object"] true xsn1 xsub1 xab1 xcol1 xdd1 xm01 xm11 xm21 xm31 xm51 "ValueError.__new__"))
    (ec1 : PySem.W.findIn K (.ref xC1) "__setattr__" = some (some (.builtin "object.__setattr__"))) (ed1 : PySem.W.findIn K (.ref xC1) "__getattribute__" = some (some (.builtin "BaseException.__getattribute__"))) (ee1 : PySem.W.findIn K (.ref xC1) "__getattr__" = some none)
    (ef1 : PySem.W.findIn K (.ref xC1) "__init__" = some (some (.ref xI1))) (eg1 : PySem.W.typeIn K (.ref xI1) = some (.type "function"))
    (eh1 : K.lookup xI1 = some ⟨xoc1, xod1, .func (PySem.W.fnOf "__init__" "NoText.__init__" (defArgs s_i_NoText) (defBody s_i_NoText) (defScope s_i_NoText) .none xkV1 xdc1 xpm1 xan1 xcd1 xct1), xsl1⟩) (ei1 : PySem.W.codeIn K xcd1 "NoText.__init__" = true) (ej1 : PySem.W.keepIn K (.ref xI1) = true)
    (ek1 : PySem.W.keepIn K (.ref xC1) = true) (el1 : PySem.W.subIn K (.ref xC1) (.type "BaseException") = some true) (em1 : PySem.W.typeIn K (.ref xC1) = some (.type "type")) (en1 : PySem.W.hasDictIn K xC1 = true) (eo1 : PySem.W.isClsIn K xC1 = true)
    (ep1_0 : PySem.W.findIn K (.ref xC1) "number" = some none)
    {xC2 xI2 xB2 : Addr} {xnm2 xq2 : Str} {xN2 : Addr} {xbs2 : List Value} {xsn2 : List Str} {xsub2 : List Value} {xab2 : Bool} {xcol2 : Option Bool} {xdd2 : Option Addr} {xm02 xm12 xm22 xm32 xm52 : Option Value} {xod2 xan2 : Option Addr} {xsl2 : Array (Option Value)} {xoc2 xkV2 xdc2 xpm2 xcd2 xct2 : Value}
    (ea2 : PySem.W.nsIn K mainGlobals "Clash" = some (some (.ref xC2))) (eb2 : K.lookup xC2 = some (excClassObj xnm2 xq2 xC2 xN2 xbs2 [.ref xB2, .type "ValueError", .type "Exception", .type "BaseException", .type "object"] true xsn2 xsub2 xab2 xcol2 xdd2 xm02 xm12 xm22 xm32 xm52 "ValueError.__new__"))
    (ec2 : PySem.W.findIn K (.ref xC2) "__setattr__" = some (some (.builtin "object.__setattr__"))) (ed2 : PySem.W.findIn K (.ref xC2) "__getattribute__" = some (some (.builtin "BaseException.__getattribute__"))) (ee2 : PySem.W.findIn K (.ref xC2) "__getattr__" = some none)
    (ef2 : PySem.W.findIn K (.ref xC2) "__init__" = some (some (.ref xI2))) (eg2 : PySem.W.typeIn K (.ref xI2) = some (.type "function"))
    (eh2 : K.lookup xI2 = some ⟨xoc2, xod2, .func (PySem.W.fnOf "__init__" "Clash.__init__" (defArgs s_i_Clash) (defBody s_i_Clash) (defScope s_i_Clash) .none xkV2 xdc2 xpm2 xan2 xcd2 xct2), xsl2⟩) (ei2 : PySem.W.codeIn K xcd2 "Clash.__init__" = true) (ej2 : PySem.W.keepIn K (.ref xI2) = true)
    (ek2 : PySem.W.keepIn K (.ref xC2) = true) (el2 : PySem.W.subIn K (.ref xC2) (.type "BaseException") = some true) (em2 : PySem.W.typeIn K (.ref xC2) = some (.type "type")) (en2 : PySem.W.hasDictIn K xC2 = true) (eo2 : PySem.W.isClsIn K xC2 = true)
    (ep2_0 : PySem.W.findIn K (.ref xC2) "first" = some none)
    (ep2_1 : PySem.W.findIn K (.ref xC2) "second" = some none)
    {xC3 xI3 xB3 : Addr} {xnm3 xq3 : Str} {xN3 : Addr} {xbs3 : List Value} {xsn3 : List Str} {xsub3 : List Value} {xab3 : Bool} {xcol3 : Option Bool} {xdd3 : Option Addr} {xm03 xm13 xm23 xm33 xm53 : Option Value} {xod3 xan3 : Option Addr} {xsl3 : Array (Option Value)} {xoc3 xkV3 xdc3 xpm3 xcd3 xct3 : Value}
    (ea3 : PySem.W.nsIn K mainGlobals "Short" = some (some (.ref xC3))) (eb3 : K.lookup xC3 = some (excClassObj xnm3 xq3 xC3 xN3 xbs3 [.ref xB3, .type "ValueError", .type "Exception", .type "BaseException", .type "object"] true xsn3 xsub3 xab3 xcol3 xdd3 xm03 xm13 xm23 xm33 xm53 "ValueError.__new__"))
    (ec3 : PySem.W.findIn K (.ref xC3) "__setattr__" = some (some (.builtin "object.__setattr__"))) (ed3 : PySem.W.findIn K (.ref xC3) "__getattribute__" = some (some (.builtin "BaseException.__getattribute__"))) (ee3 : PySem.W.findIn K (.ref xC3) "__getattr__" = some none)
    (ef3 : PySem.W.findIn K (.ref xC3) "__init__" = some (some (.ref xI3))) (eg3 : PySem.W.typeIn K (.ref xI3) = some (.type "function"))
    (eh3 : K.lookup xI3 = some ⟨xoc3, xod3, .func (PySem.W.fnOf "__init__" "Short.__init__" (defArgs s_i_Short) (defBody s_i_Short) (defScope s_i_Short) .none xkV3 xdc3 xpm3 xan3 xcd3 xct3), xsl3⟩) (ei3 : PySem.W.codeIn K xcd3 "Short.__init__" = true) (ej3 : PySem.W.keepIn K (.ref xI3) = true)
    (ek3 : PySem.W.keepIn K (.ref xC3) = true) (el3 : PySem.W.subIn K (.ref xC3) (.type "BaseException") = some true) (em3 : PySem.W.typeIn K (.ref xC3) = some (.type "type")) (en3 : PySem.W.hasDictIn K xC3 = true) (eo3 : PySem.W.isClsIn K xC3 = true)
    (ep3_0 : PySem.W.findIn K (.ref xC3) "side" = some none)
    (ep3_1 : PySem.W.findIn K (.ref xC3) "some" = some none)
    {xC4 xI4 xB4 : Addr} {xnm4 xq4 : Str} {xN4 : Addr} {xbs4 : List Value} {xsn4 : List Str} {xsub4 : List Value} {xab4 : Bool} {xcol4 : Option Bool} {xdd4 : Option Addr} {xm04 xm14 xm24 xm34 xm54 : Option Value} {xod4 xan4 : Option Addr} {xsl4 : Array (Option Value)} {xoc4 xkV4 xdc4 xpm4 xcd4 xct4 : Value}
    (ea4 : PySem.W.nsIn K mainGlobals "OffTime" = some (some (.ref xC4))) (eb4 : K.lookup xC4 = some (excClassObj xnm4 xq4 xC4 xN4 xbs4 [.ref xB4, .type "ValueError", .type "Exception", .type "BaseException", .type "object"] true xsn4 xsub4 xab4 xcol4 xdd4 xm04 xm14 xm24 xm34 xm54 "ValueError.__new__"))
    (ec4 : PySem.W.findIn K (.ref xC4) "__setattr__" = some (some (.builtin "object.__setattr__"))) (ed4 : PySem.W.findIn K (.ref xC4) "__getattribute__" = some (some (.builtin "BaseException.__getattribute__"))) (ee4 : PySem.W.findIn K (.ref xC4) "__getattr__" = some none)
    (ef4 : PySem.W.findIn K (.ref xC4) "__init__" = some (some (.ref xI4))) (eg4 : PySem.W.typeIn K (.ref xI4) = some (.type "function"))
    (eh4 : K.lookup xI4 = some ⟨xoc4, xod4, .func (PySem.W.fnOf "__init__" "OffTime.__init__" (defArgs s_i_OffTime) (defBody s_i_OffTime) (defScope s_i_OffTime) .none xkV4 xdc4 xpm4 xan4 xcd4 xct4), xsl4⟩) (ei4 : PySem.W.codeIn K xcd4 "OffTime.__init__" = true) (ej4 : PySem.W.keepIn K (.ref xI4) = true)
    (ek4 : PySem.W.keepIn K (.ref xC4) = true) (el4 : PySem.W.subIn K (.ref xC4) (.type "BaseException") = some true) (em4 : PySem.W.typeIn K (.ref xC4) = some (.type "type")) (en4 : PySem.W.hasDictIn K xC4 = true) (eo4 : PySem.W.isClsIn K xC4 = true)
    (ep4_0 : PySem.W.findIn K (.ref xC4) "links" = some none)
    {xR0 : Addr} (ra0 : PySem.W.nsIn K mainGlobals "NoAsk" = some (some (.ref xR0))) (rb0 : PySem.W.excIn K xR0 [.type "ValueError", .type "Exception", .type "BaseException", .type "object"] "ValueError.__new__" = true) (rc0 : PySem.W.keepIn K (.ref xR0) = true) (rd0 : PySem.W.subIn K (.ref xR0) (.type "BaseException") = some true) (re0 : PySem.W.typeIn K (.ref xR0) = some (.type "type"))
    {xR1 : Addr} (ra1 : PySem.W.nsIn K mainGlobals "NoJob" = some (some (.ref xR1))) (rb1 : PySem.W.excIn K xR1 [.type "ValueError", .type "Exception", .type "BaseException", .type "object"] "ValueError.__new__" = true) (rc1 : PySem.W.keepIn K (.ref xR1) = true) (rd1 : PySem.W.subIn K (.ref xR1) (.type "BaseException") = some true) (re1 : PySem.W.typeIn K (.ref xR1) = some (.type "type"))
    {xR2 : Addr} (ra2 : PySem.W.nsIn K mainGlobals "TooMany" = some (some (.ref xR2))) (rb2 : PySem.W.excIn K xR2 [.type "ValueError", .type "Exception", .type "BaseException", .type "object"] "ValueError.__new__" = true) (rc2 : PySem.W.keepIn K (.ref xR2) = true) (rd2 : PySem.W.subIn K (.ref xR2) (.type "BaseException") = some true) (re2 : PySem.W.typeIn K (.ref xR2) = some (.type "type"))
    {xR3 : Addr} (ra3 : PySem.W.nsIn K mainGlobals "NoLine" = some (some (.ref xR3))) (rb3 : PySem.W.excIn K xR3 [.type "ValueError", .type "Exception", .type "BaseException", .type "object"] "ValueError.__new__" = true) (rc3 : PySem.W.keepIn K (.ref xR3) = true) (rd3 : PySem.W.subIn K (.ref xR3) (.type "BaseException") = some true) (re3 : PySem.W.typeIn K (.ref xR3) = some (.type "type"))
    {xT : Addr} (ta : PySem.W.nsIn K mainGlobals "CallError" = some (some (.ref xT)))
    (kn : PySem.W.specialIn K (.builtin "object.__class__") "__get__" = some (some (.builtin "getset_descriptor.__get__"))) (kt : PySem.W.takesIn K (.builtin "object.__class__") = some true)
    (ka0 : PySem.W.findIn K (.ref xC0) "__getattribute__" = some (some (.builtin "BaseException.__getattribute__"))) (kb0 : PySem.W.findIn K (.ref xC0) "__getattr__" = some none) (kc0 : PySem.W.subIn K (.ref xC0) (.type "BaseException") = some true) (kd0 : PySem.W.hasDictIn K xC0 = true) (ke0 : PySem.W.findIn K (.ref xC0) "__class__" = some (some (.builtin "object.__class__"))) (kh0 : PySem.W.mroIn K xC0 (.type "object") = some true) (kv0 : PySem.W.kitOne K (.ref xC0) (.type "ValueError") = some true)
    (ka1 : PySem.W.findIn K (.ref xC1) "__getattribute__" = some (some (.builtin "BaseException.__getattribute__"))) (kb1 : PySem.W.findIn K (.ref xC1) "__getattr__" = some none) (kc1 : PySem.W.subIn K (.ref xC1) (.type "BaseException") = some true) (kd1 : PySem.W.hasDictIn K xC1 = true) (ke1 : PySem.W.findIn K (.ref xC1) "__class__" = some (some (.builtin "object.__class__"))) (kh1 : PySem.W.mroIn K xC1 (.type "object") = some true) (kv1 : PySem.W.kitOne K (.ref xC1) (.type "ValueError") = some true)
    (ka2 : PySem.W.findIn K (.ref xC2) "__getattribute__" = some (some (.builtin "BaseException.__getattribute__"))) (kb2 : PySem.W.findIn K (.ref xC2) "__getattr__" = some none) (kc2 : PySem.W.subIn K (.ref xC2) (.type "BaseException") = some true) (kd2 : PySem.W.hasDictIn K xC2 = true) (ke2 : PySem.W.findIn K (.ref xC2) "__class__" = some (some (.builtin "object.__class__"))) (kh2 : PySem.W.mroIn K xC2 (.type "object") = some true) (kv2 : PySem.W.kitOne K (.ref xC2) (.type "ValueError") = some true)
    (ka3 : PySem.W.findIn K (.ref xC3) "__getattribute__" = some (some (.builtin "BaseException.__getattribute__"))) (kb3 : PySem.W.findIn K (.ref xC3) "__getattr__" = some none) (kc3 : PySem.W.subIn K (.ref xC3) (.type "BaseException") = some true) (kd3 : PySem.W.hasDictIn K xC3 = true) (ke3 : PySem.W.findIn K (.ref xC3) "__class__" = some (some (.builtin "object.__class__"))) (kh3 : PySem.W.mroIn K xC3 (.type "object") = some true) (kv3 : PySem.W.kitOne K (.ref xC3) (.type "ValueError") = some true)
    (ka4 : PySem.W.findIn K (.ref xC4) "__getattribute__" = some (some (.builtin "BaseException.__getattribute__"))) (kb4 : PySem.W.findIn K (.ref xC4) "__getattr__" = some none) (kc4 : PySem.W.subIn K (.ref xC4) (.type "BaseException") = some true) (kd4 : PySem.W.hasDictIn K xC4 = true) (ke4 : PySem.W.findIn K (.ref xC4) "__class__" = some (some (.builtin "object.__class__"))) (kh4 : PySem.W.mroIn K xC4 (.type "object") = some true) (kv4 : PySem.W.kitOne K (.ref xC4) (.type "ValueError") = some true)
    (ka5 : PySem.W.findIn K (.ref xR0) "__getattribute__" = some (some (.builtin "BaseException.__getattribute__"))) (kb5 : PySem.W.findIn K (.ref xR0) "__getattr__" = some none) (kc5 : PySem.W.subIn K (.ref xR0) (.type "BaseException") = some true) (kd5 : PySem.W.hasDictIn K xR0 = true) (ke5 : PySem.W.findIn K (.ref xR0) "__class__" = some (some (.builtin "object.__class__"))) (kh5 : PySem.W.mroIn K xR0 (.type "object") = some true) (kv5 : PySem.W.kitOne K (.ref xR0) (.type "ValueError") = some true)
    (ka6 : PySem.W.findIn K (.ref xR1) "__getattribute__" = some (some (.builtin "BaseException.__getattribute__"))) (kb6 : PySem.W.findIn K (.ref xR1) "__getattr__" = some none) (kc6 : PySem.W.subIn K (.ref xR1) (.type "BaseException") = some true) (kd6 : PySem.W.hasDictIn K xR1 = true) (ke6 : PySem.W.findIn K (.ref xR1) "__class__" = some (some (.builtin "object.__class__"))) (kh6 : PySem.W.mroIn K xR1 (.type "object") = some true) (kv6 : PySem.W.kitOne K (.ref xR1) (.type "ValueError") = some true)
    (ka7 : PySem.W.findIn K (.ref xR2) "__getattribute__" = some (some (.builtin "BaseException.__getattribute__"))) (kb7 : PySem.W.findIn K (.ref xR2) "__getattr__" = some none) (kc7 : PySem.W.subIn K (.ref xR2) (.type "BaseException") = some true) (kd7 : PySem.W.hasDictIn K xR2 = true) (ke7 : PySem.W.findIn K (.ref xR2) "__class__" = some (some (.builtin "object.__class__"))) (kh7 : PySem.W.mroIn K xR2 (.type "object") = some true) (kv7 : PySem.W.kitOne K (.ref xR2) (.type "ValueError") = some true)
    (ka8 : PySem.W.findIn K (.ref xR3) "__getattribute__" = some (some (.builtin "BaseException.__getattribute__"))) (kb8 : PySem.W.findIn K (.ref xR3) "__getattr__" = some none) (kc8 : PySem.W.subIn K (.ref xR3) (.type "BaseException") = some true) (kd8 : PySem.W.hasDictIn K xR3 = true) (ke8 : PySem.W.findIn K (.ref xR3) "__class__" = some (some (.builtin "object.__class__"))) (kh8 : PySem.W.mroIn K xR3 (.type "object") = some true) (kv8 : PySem.W.kitOne K (.ref xR3) (.type "ValueError") = some true)
    (kk0 : PySem.W.kitOne K (.ref xC0) (.ref xC0) = some true)
    (kk1 : PySem.W.kitOne K (.ref xC0) (.ref xC1) = some false)
    (kk2 : PySem.W.kitOne K (.ref xC0) (.ref xC2) = some false)
    (kk3 : PySem.W.kitOne K (.ref xC0) (.ref xC3) = some false)
    (kk4 : PySem.W.kitOne K (.ref xC0) (.ref xC4) = some false)
    (kk5 : PySem.W.kitOne K (.ref xC0) (.ref xR0) = some false)
    (kk6 : PySem.W.kitOne K (.ref xC0) (.ref xR1) = some false)
    (kk7 : PySem.W.kitOne K (.ref xC0) (.ref xR2) = some false)
    (kk8 : PySem.W.kitOne K (.ref xC0) (.ref xR3) = some false)
    (kk9 : PySem.W.kitOne K (.ref xC1) (.ref xC0) = some false)
    (kk10 : PySem.W.kitOne K (.ref xC1) (.ref xC1) = some true)
    (kk11 : PySem.W.kitOne K (.ref xC1) (.ref xC2) = some false)
    (kk12 : PySem.W.kitOne K (.ref xC1) (.ref xC3) = some false)
    (kk13 : PySem.W.kitOne K (.ref xC1) (.ref xC4) = some false)
    (kk14 : PySem.W.kitOne K (.ref xC1) (.ref xR0) = some false)
    (kk15 : PySem.W.kitOne K (.ref xC1) (.ref xR1) = some false)
    (kk16 : PySem.W.kitOne K (.ref xC1) (.ref xR2) = some false)
    (kk17 : PySem.W.kitOne K (.ref xC1) (.ref xR3) = some false)
    (kk18 : PySem.W.kitOne K (.ref xC2) (.ref xC0) = some false)
    (kk19 : PySem.W.kitOne K (.ref xC2) (.ref xC1) = some false)
    (kk20 : PySem.W.kitOne K (.ref xC2) (.ref xC2) = some true)
    (kk21 : PySem.W.kitOne K (.ref xC2) (.ref xC3) = some false)
    (kk22 : PySem.W.kitOne K (.ref xC2) (.ref xC4) = some false)
    (kk23 : PySem.W.kitOne K (.ref xC2) (.ref xR0) = some false)
    (kk24 : PySem.W.kitOne K (.ref xC2) (.ref xR1) = some false)
    (kk25 : PySem.W.kitOne K (.ref xC2) (.ref xR2) = some false)
    (kk26 : PySem.W.kitOne K (.ref xC2) (.ref xR3) = some false)
    (kk27 : PySem.W.kitOne K (.ref xC3) (.ref xC0) = some false)
    (kk28 : PySem.W.kitOne K (.ref xC3) (.ref xC1) = some false)
    (kk29 : PySem.W.kitOne K (.ref xC3) (.ref xC2) = some false)
    (kk30 : PySem.W.kitOne K (.ref xC3) (.ref xC3) = some true)
    (kk31 : PySem.W.kitOne K (.ref xC3) (.ref xC4) = some false)
    (kk32 : PySem.W.kitOne K (.ref xC3) (.ref xR0) = some false)
    (kk33 : PySem.W.kitOne K (.ref xC3) (.ref xR1) = some false)
    (kk34 : PySem.W.kitOne K (.ref xC3) (.ref xR2) = some false)
    (kk35 : PySem.W.kitOne K (.ref xC3) (.ref xR3) = some false)
    (kk36 : PySem.W.kitOne K (.ref xC4) (.ref xC0) = some false)
    (kk37 : PySem.W.kitOne K (.ref xC4) (.ref xC1) = some false)
    (kk38 : PySem.W.kitOne K (.ref xC4) (.ref xC2) = some false)
    (kk39 : PySem.W.kitOne K (.ref xC4) (.ref xC3) = some false)
    (kk40 : PySem.W.kitOne K (.ref xC4) (.ref xC4) = some true)
    (kk41 : PySem.W.kitOne K (.ref xC4) (.ref xR0) = some false)
    (kk42 : PySem.W.kitOne K (.ref xC4) (.ref xR1) = some false)
    (kk43 : PySem.W.kitOne K (.ref xC4) (.ref xR2) = some false)
    (kk44 : PySem.W.kitOne K (.ref xC4) (.ref xR3) = some false)
    (kk45 : PySem.W.kitOne K (.ref xR0) (.ref xC0) = some false)
    (kk46 : PySem.W.kitOne K (.ref xR0) (.ref xC1) = some false)
    (kk47 : PySem.W.kitOne K (.ref xR0) (.ref xC2) = some false)
    (kk48 : PySem.W.kitOne K (.ref xR0) (.ref xC3) = some false)
    (kk49 : PySem.W.kitOne K (.ref xR0) (.ref xC4) = some false)
    (kk50 : PySem.W.kitOne K (.ref xR0) (.ref xR0) = some true)
    (kk51 : PySem.W.kitOne K (.ref xR0) (.ref xR1) = some false)
    (kk52 : PySem.W.kitOne K (.ref xR0) (.ref xR2) = some false)
    (kk53 : PySem.W.kitOne K (.ref xR0) (.ref xR3) = some false)
    (kk54 : PySem.W.kitOne K (.ref xR1) (.ref xC0) = some false)
    (kk55 : PySem.W.kitOne K (.ref xR1) (.ref xC1) = some false)
    (kk56 : PySem.W.kitOne K (.ref xR1) (.ref xC2) = some false)
    (kk57 : PySem.W.kitOne K (.ref xR1) (.ref xC3) = some false)
    (kk58 : PySem.W.kitOne K (.ref xR1) (.ref xC4) = some false)
    (kk59 : PySem.W.kitOne K (.ref xR1) (.ref xR0) = some false)
    (kk60 : PySem.W.kitOne K (.ref xR1) (.ref xR1) = some true)
    (kk61 : PySem.W.kitOne K (.ref xR1) (.ref xR2) = some false)
    (kk62 : PySem.W.kitOne K (.ref xR1) (.ref xR3) = some false)
    (kk63 : PySem.W.kitOne K (.ref xR2) (.ref xC0) = some false)
    (kk64 : PySem.W.kitOne K (.ref xR2) (.ref xC1) = some false)
    (kk65 : PySem.W.kitOne K (.ref xR2) (.ref xC2) = some false)
    (kk66 : PySem.W.kitOne K (.ref xR2) (.ref xC3) = some false)
    (kk67 : PySem.W.kitOne K (.ref xR2) (.ref xC4) = some false)
    (kk68 : PySem.W.kitOne K (.ref xR2) (.ref xR0) = some false)
    (kk69 : PySem.W.kitOne K (.ref xR2) (.ref xR1) = some false)
    (kk70 : PySem.W.kitOne K (.ref xR2) (.ref xR2) = some true)
    (kk71 : PySem.W.kitOne K (.ref xR2) (.ref xR3) = some false)
    (kk72 : PySem.W.kitOne K (.ref xR3) (.ref xC0) = some false)
    (kk73 : PySem.W.kitOne K (.ref xR3) (.ref xC1) = some false)
    (kk74 : PySem.W.kitOne K (.ref xR3) (.ref xC2) = some false)
    (kk75 : PySem.W.kitOne K (.ref xR3) (.ref xC3) = some false)
    (kk76 : PySem.W.kitOne K (.ref xR3) (.ref xC4) = some false)
    (kk77 : PySem.W.kitOne K (.ref xR3) (.ref xR0) = some false)
    (kk78 : PySem.W.kitOne K (.ref xR3) (.ref xR1) = some false)
    (kk79 : PySem.W.kitOne K (.ref xR3) (.ref xR2) = some false)
    (kk80 : PySem.W.kitOne K (.ref xR3) (.ref xR3) = some true)
    (kk81 : PySem.W.kitOne K (.ref xC0) (.ref xT) = some true)
    (kk82 : PySem.W.kitOne K (.ref xC1) (.ref xT) = some true)
    (kk83 : PySem.W.kitOne K (.ref xC2) (.ref xT) = some true)
    (kk84 : PySem.W.kitOne K (.ref xC3) (.ref xT) = some true)
    (kk85 : PySem.W.kitOne K (.ref xC4) (.ref xT) = some true)
    (kk86 : PySem.W.kitOne K (.ref xR0) (.ref xT) = some true)
    (kk87 : PySem.W.kitOne K (.ref xR1) (.ref xT) = some true)
    (kk88 : PySem.W.kitOne K (.ref xR2) (.ref xT) = some true)
    (kk89 : PySem.W.kitOne K (.ref xR3) (.ref xT) = some true)
    (z0 : PySem.W.nsIn K mainGlobals "ValueError" = some none)
    (z1 : PySem.W.nsIn K mainGlobals "bool" = some none)
    (z2 : PySem.W.nsIn K mainGlobals "enumerate" = some none)
    (z3 : PySem.W.nsIn K mainGlobals "int" = some none)
    (z4 : PySem.W.nsIn K mainGlobals "isinstance" = some none)
    (z5 : PySem.W.nsIn K mainGlobals "len" = some none)
    (z6 : PySem.W.nsIn K mainGlobals "list" = some none)
    (z7 : PySem.W.nsIn K mainGlobals "range" = some none)
    (z8 : PySem.W.nsIn K mainGlobals "str" = some none)
    (z9 : PySem.W.nsIn K mainGlobals "tuple" = some none)
    (z10 : PySem.W.nsIn K mainGlobals "zip" = some none)
    : ∃ fd : FuncData, (∀ (s : Shared) (v : Value), BindsTo s fd ⟨[v], []⟩ [("script", v)]) ∧ ∀ base : Heap, K.In base → base.Ns mainGlobals mg → FnOk l.prog w K mg base CX0 7 fa fd ["script"] (sp_law K) := by
  have e := hfa.symm.trans (PySem.W.mg_of X G a7)
  cases e
  have F0 := fun_mk (st := s_own_copy) l0 c0 k0
  have b0 := F0.binds (ps := ["things"]) fun _ _ _ _ _ _ us hl => match us, hl with | [_], _ => rfl
  have F1 := fun_mk (st := s_l_spread) l1 c1 k1
  have b1 := F1.binds (ps := ["cell", "at"]) fun _ _ _ _ _ _ us hl => match us, hl with | [_, _], _ => rfl
  have F2 := fun_mk (st := s_l_open) l2 c2 k2
  have b2 := F2.binds (ps := ["script"]) fun _ _ _ _ _ _ us hl => match us, hl with | [_], _ => rfl
  have F3 := fun_mk (st := s_l_take) l3 c3 k3
  have b3 := F3.binds (ps := ["pen", "many"]) fun _ _ _ _ _ _ us hl => match us, hl with | [_, _], _ => rfl
  have F4 := fun_mk (st := s_l_number) l4 c4 k4
  have b4 := F4.binds (ps := ["pen"]) fun _ _ _ _ _ _ us hl => match us, hl with | [_], _ => rfl
  have F5 := fun_mk (st := s_l_same) l5 c5 k5
  have b5 := F5.binds (ps := ["found", "due"]) fun _ _ _ _ _ _ us hl => match us, hl with | [_, _], _ => rfl
  have F6 := fun_mk (st := s_l_sorts) l6 c6 k6
  have b6 := F6.binds (ps := ["caught"]) fun _ _ _ _ _ _ us hl => match us, hl with | [_], _ => rfl
  have F7 := fun_mk (st := s_law) l7 c7 k7
  have b7 := F7.binds (ps := ["script"]) fun _ _ _ _ _ _ us hl => match us, hl with | [_], _ => rfl
  have FX0 := fun_mk (st := s_i_NoRow) eh0 ei0 ej0
  have bX0 := FX0.binds (ps := ["self", "number"]) fun _ _ _ _ _ _ us hl => match us, hl with | [_, _], _ => rfl
  have FX1 := fun_mk (st := s_i_NoText) eh1 ei1 ej1
  have bX1 := FX1.binds (ps := ["self", "number"]) fun _ _ _ _ _ _ us hl => match us, hl with | [_, _], _ => rfl
  have FX2 := fun_mk (st := s_i_Clash) eh2 ei2 ej2
  have bX2 := FX2.binds (ps := ["self", "first", "second"]) fun _ _ _ _ _ _ us hl => match us, hl with | [_, _, _], _ => rfl
  have FX3 := fun_mk (st := s_i_Short) eh3 ei3 ej3
  have bX3 := FX3.binds (ps := ["self", "side", "some"]) fun _ _ _ _ _ _ us hl => match us, hl with | [_, _, _], _ => rfl
  have FX4 := fun_mk (st := s_i_OffTime) eh4 ei4 ej4
  have bX4 := FX4.binds (ps := ["self", "links"]) fun _ _ _ _ _ _ us hl => match us, hl with | [_, _], _ => rfl
  let af : Nat → Addr := fun i => match i with | 0 => f0 | 1 => f1 | 2 => f2 | 3 => f3 | 4 => f4 | 5 => f5 | 6 => f6 | 7 => fa | 8 => xC0 | 9 => xI0 | 10 => xC1 | 11 => xI1 | 12 => xC2 | 13 => xI2 | 14 => xC3 | 15 => xI3 | 16 => xC4 | 17 => xI4 | 18 => xR0 | 19 => xR1 | 20 => xR2 | 21 => xR3 | 22 => xT | _ => f0
  let fd : Nat → FuncData := fun i => match i with | 0 => PySem.W.fnOf "own_copy" "own_copy" (defArgs s_own_copy) (defBody s_own_copy) (defScope s_own_copy) .none kV0 dc0 pm0 an0 cd0 ct0 | 1 => PySem.W.fnOf "_law_spread" "_law_spread" (defArgs s_l_spread) (defBody s_l_spread) (defScope s_l_spread) .none kV1 dc1 pm1 an1 cd1 ct1 | 2 => PySem.W.fnOf "_law_open" "_law_open" (defArgs s_l_open) (defBody s_l_open) (defScope s_l_open) .none kV2 dc2 pm2 an2 cd2 ct2 | 3 => PySem.W.fnOf "_law_take" "_law_take" (defArgs s_l_take) (defBody s_l_take) (defScope s_l_take) .none kV3 dc3 pm3 an3 cd3 ct3 | 4 => PySem.W.fnOf "_law_number" "_law_number" (defArgs s_l_number) (defBody s_l_number) (defScope s_l_number) .none kV4 dc4 pm4 an4 cd4 ct4 | 5 => PySem.W.fnOf "_law_same" "_law_same" (defArgs s_l_same) (defBody s_l_same) (defScope s_l_same) .none kV5 dc5 pm5 an5 cd5 ct5 | 6 => PySem.W.fnOf "_law_sorts" "_law_sorts" (defArgs s_l_sorts) (defBody s_l_sorts) (defScope s_l_sorts) .none kV6 dc6 pm6 an6 cd6 ct6 | 7 => PySem.W.fnOf "law" "law" (defArgs s_law) (defBody s_law) (defScope s_law) .none kV7 dc7 pm7 an7 cd7 ct7 | 9 => PySem.W.fnOf "__init__" "NoRow.__init__" (defArgs s_i_NoRow) (defBody s_i_NoRow) (defScope s_i_NoRow) .none xkV0 xdc0 xpm0 xan0 xcd0 xct0 | 11 => PySem.W.fnOf "__init__" "NoText.__init__" (defArgs s_i_NoText) (defBody s_i_NoText) (defScope s_i_NoText) .none xkV1 xdc1 xpm1 xan1 xcd1 xct1 | 13 => PySem.W.fnOf "__init__" "Clash.__init__" (defArgs s_i_Clash) (defBody s_i_Clash) (defScope s_i_Clash) .none xkV2 xdc2 xpm2 xan2 xcd2 xct2 | 15 => PySem.W.fnOf "__init__" "Short.__init__" (defArgs s_i_Short) (defBody s_i_Short) (defScope s_i_Short) .none xkV3 xdc3 xpm3 xan3 xcd3 xct3 | 17 => PySem.W.fnOf "__init__" "OffTime.__init__" (defArgs s_i_OffTime) (defBody s_i_OffTime) (defScope s_i_OffTime) .none xkV4 xdc4 xpm4 xan4 xcd4 xct4 | _ => PySem.W.fnOf "law" "law" (defArgs s_law) (defBody s_law) (defScope s_law) .none kV7 dc7 pm7 an7 cd7 ct7
  have T : Txt K mg af fd := { g_own_copy := PySem.W.mg_of X G a0, F_own_copy := F0, b_own_copy := b0, g_l_spread := PySem.W.mg_of X G a1, F_l_spread := F1, b_l_spread := b1, g_l_open := PySem.W.mg_of X G a2, F_l_open := F2, b_l_open := b2, g_l_take := PySem.W.mg_of X G a3, F_l_take := F3, b_l_take := b3, g_l_number := PySem.W.mg_of X G a4, F_l_number := F4, b_l_number := b4, g_l_same := PySem.W.mg_of X G a5, F_l_same := F5, b_l_same := b5, g_l_sorts := PySem.W.mg_of X G a6, F_l_sorts := F6, b_l_sorts := b6, g_law := PySem.W.mg_of X G a7, F_law := F7, b_law := b7, e_NoRow := ⟨PySem.W.mg_of X G ea0, ⟨⟨_, _, _, _, _, _, _, _, _, _, _, _, _, _, _, eb0, rfl⟩, ec0, el0, em0, ek0⟩, ef0, eg0, FX0, bX0, fun f hf => by simp only [List.mem_cons, List.not_mem_nil, or_false] at hf; rcases hf with rfl <;> assumption, ⟨ed0, ee0, el0, en0⟩⟩, e_NoText := ⟨PySem.W.mg_of X G ea1, ⟨⟨_, _, _, _, _, _, _, _, _, _, _, _, _, _, _, eb1, rfl⟩, ec1, el1, em1, ek1⟩, ef1, eg1, FX1, bX1, fun f hf => by simp only [List.mem_cons, List.not_mem_nil, or_false] at hf; rcases hf with rfl <;> assumption, ⟨ed1, ee1, el1, en1⟩⟩, e_Clash := ⟨PySem.W.mg_of X G ea2, ⟨⟨_, _, _, _, _, _, _, _, _, _, _, _, _, _, _, eb2, rfl⟩, ec2, el2, em2, ek2⟩, ef2, eg2, FX2, bX2, fun f hf => by simp only [List.mem_cons, List.not_mem_nil, or_false] at hf; rcases hf with rfl | rfl <;> assumption, ⟨ed2, ee2, el2, en2⟩⟩, e_Short := ⟨PySem.W.mg_of X G ea3, ⟨⟨_, _, _, _, _, _, _, _, _, _, _, _, _, _, _, eb3, rfl⟩, ec3, el3, em3, ek3⟩, ef3, eg3, FX3, bX3, fun f hf => by simp only [List.mem_cons, List.not_mem_nil, or_false] at hf; rcases hf with rfl | rfl <;> assumption, ⟨ed3, ee3, el3, en3⟩⟩, e_OffTime := ⟨PySem.W.mg_of X G ea4, ⟨⟨_, _, _, _, _, _, _, _, _, _, _, _, _, _, _, eb4, rfl⟩, ec4, el4, em4, ek4⟩, ef4, eg4, FX4, bX4, fun f hf => by simp only [List.mem_cons, List.not_mem_nil, or_false] at hf; rcases hf with rfl <;> assumption, ⟨ed4, ee4, el4, en4⟩⟩, r_NoAsk := ⟨PySem.W.mg_of X G ra0, rb0, rc0, rd0, re0⟩, r_NoJob := ⟨PySem.W.mg_of X G ra1, rb1, rc1, rd1, re1⟩, r_TooMany := ⟨PySem.W.mg_of X G ra2, rb2, rc2, rd2, re2⟩, r_NoLine := ⟨PySem.W.mg_of X G ra3, rb3, rc3, rd3, re3⟩, g_CallError := PySem.W.mg_of X G ta, k_NoRow := ⟨ka0, kb0, kc0, kd0, ke0, kn, kt, kh0⟩, v_NoRow := kv0, k_NoText := ⟨ka1, kb1, kc1, kd1, ke1, kn, kt, kh1⟩, v_NoText := kv1, k_Clash := ⟨ka2, kb2, kc2, kd2, ke2, kn, kt, kh2⟩, v_Clash := kv2, k_Short := ⟨ka3, kb3, kc3, kd3, ke3, kn, kt, kh3⟩, v_Short := kv3, k_OffTime := ⟨ka4, kb4, kc4, kd4, ke4, kn, kt, kh4⟩, v_OffTime := kv4, k_NoAsk := ⟨ka5, kb5, kc5, kd5, ke5, kn, kt, kh5⟩, v_NoAsk := kv5, k_NoJob := ⟨ka6, kb6, kc6, kd6, ke6, kn, kt, kh6⟩, v_NoJob := kv6, k_TooMany := ⟨ka7, kb7, kc7, kd7, ke7, kn, kt, kh7⟩, v_TooMany := kv7, k_NoLine := ⟨ka8, kb8, kc8, kd8, ke8, kn, kt, kh8⟩, v_NoLine := kv8, y_NoRow_NoRow := kk0, y_NoRow_NoText := kk1, y_NoRow_Clash := kk2, y_NoRow_Short := kk3, y_NoRow_OffTime := kk4, y_NoRow_NoAsk := kk5, y_NoRow_NoJob := kk6, y_NoRow_TooMany := kk7, y_NoRow_NoLine := kk8, y_NoText_NoRow := kk9, y_NoText_NoText := kk10, y_NoText_Clash := kk11, y_NoText_Short := kk12, y_NoText_OffTime := kk13, y_NoText_NoAsk := kk14, y_NoText_NoJob := kk15, y_NoText_TooMany := kk16, y_NoText_NoLine := kk17, y_Clash_NoRow := kk18, y_Clash_NoText := kk19, y_Clash_Clash := kk20, y_Clash_Short := kk21, y_Clash_OffTime := kk22, y_Clash_NoAsk := kk23, y_Clash_NoJob := kk24, y_Clash_TooMany := kk25, y_Clash_NoLine := kk26, y_Short_NoRow := kk27, y_Short_NoText := kk28, y_Short_Clash := kk29, y_Short_Short := kk30, y_Short_OffTime := kk31, y_Short_NoAsk := kk32, y_Short_NoJob := kk33, y_Short_TooMany := kk34, y_Short_NoLine := kk35, y_OffTime_NoRow := kk36, y_OffTime_NoText := kk37, y_OffTime_Clash := kk38, y_OffTime_Short := kk39, y_OffTime_OffTime := kk40, y_OffTime_NoAsk := kk41, y_OffTime_NoJob := kk42, y_OffTime_TooMany := kk43, y_OffTime_NoLine := kk44, y_NoAsk_NoRow := kk45, y_NoAsk_NoText := kk46, y_NoAsk_Clash := kk47, y_NoAsk_Short := kk48, y_NoAsk_OffTime := kk49, y_NoAsk_NoAsk := kk50, y_NoAsk_NoJob := kk51, y_NoAsk_TooMany := kk52, y_NoAsk_NoLine := kk53, y_NoJob_NoRow := kk54, y_NoJob_NoText := kk55, y_NoJob_Clash := kk56, y_NoJob_Short := kk57, y_NoJob_OffTime := kk58, y_NoJob_NoAsk := kk59, y_NoJob_NoJob := kk60, y_NoJob_TooMany := kk61, y_NoJob_NoLine := kk62, y_TooMany_NoRow := kk63, y_TooMany_NoText := kk64, y_TooMany_Clash := kk65, y_TooMany_Short := kk66, y_TooMany_OffTime := kk67, y_TooMany_NoAsk := kk68, y_TooMany_NoJob := kk69, y_TooMany_TooMany := kk70, y_TooMany_NoLine := kk71, y_NoLine_NoRow := kk72, y_NoLine_NoText := kk73, y_NoLine_Clash := kk74, y_NoLine_Short := kk75, y_NoLine_OffTime := kk76, y_NoLine_NoAsk := kk77, y_NoLine_NoJob := kk78, y_NoLine_TooMany := kk79, y_NoLine_NoLine := kk80, y_NoRow_CallError := kk81, y_NoText_CallError := kk82, y_Clash_CallError := kk83, y_Short_CallError := kk84, y_OffTime_CallError := kk85, y_NoAsk_CallError := kk86, y_NoJob_CallError := kk87, y_TooMany_CallError := kk88, y_NoLine_CallError := kk89, m_ValueError := PySem.W.mg_none_of X G z0, m_bool := PySem.W.mg_none_of X G z1, m_enumerate := PySem.W.mg_none_of X G z2, m_int := PySem.W.mg_none_of X G z3, m_isinstance := PySem.W.mg_none_of X G z4, m_len := PySem.W.mg_none_of X G z5, m_list := PySem.W.mg_none_of X G z6, m_range := PySem.W.mg_none_of X G z7, m_str := PySem.W.mg_none_of X G z8, m_tuple := PySem.W.mg_none_of X G z9, m_zip := PySem.W.mg_none_of X G z10 }
  exact ⟨fd 7, fun s v => .of_eq rfl, fun base _ _ => ok_law T⟩
end Gp
open PySem PySem.W PyProof.Rows
set_option maxHeartbeats 0 in
theorem PySem.Challenge.cw_gapcalls_k06_refusals_apart_holds : PySem.Challenge.rw_gapcalls_k06_refusals_apart.Holds := by
  w_on; o_law; k_head; (case hw => w_witness2)
  k_fill
  refine L2.walk_of (l := PySem.Challenge.rw_gapcalls_k06_refusals_apart) (n := 63) (k := 7) (x := "script") (CX := fun _ => L2.CX0) (sp := fun w => Gp.sp_law _) rfl (by decide) rfl ⟨rfl, by decide, by decide⟩ (fun w h Y => PySem.W.kIn_of Y) ?F (fun _ _ a ns hl _ hS => ⟨a, ns, rfl, hS, hl, fun _ => rfl⟩) (fun _ _ _ _ _ h => h)
  case F =>
    intro w mg fa h KX G hmg
    refine' Gp.all_mk KX G hmg ?a0 ?l0 ?c0 ?k0 ?a1 ?l1 ?c1 ?k1 ?a2 ?l2 ?c2 ?k2 ?a3 ?l3 ?c3 ?k3 ?a4 ?l4 ?c4 ?k4 ?a5 ?l5 ?c5 ?k5 ?a6 ?l6 ?c6 ?k6 ?a7 ?l7 ?c7 ?k7 ?ea0 ?eb0 ?ec0 ?ed0 ?ee0 ?ef0 ?eg0 ?eh0 ?ei0 ?ej0 ?ek0 ?el0 ?em0 ?en0 ?eo0 ?ep0_0 ?ea1 ?eb1 ?ec1 ?ed1 ?ee1 ?ef1 ?eg1 ?eh1 ?ei1 ?ej1 ?ek1 ?el1 ?em1 ?en1 ?eo1 ?ep1_0 ?ea2 ?eb2 ?ec2 ?ed2 ?ee2 ?ef2 ?eg2 ?eh2 ?ei2 ?ej2 ?ek2 ?el2 ?em2 ?en2 ?eo2 ?ep2_0 ?ep2_1 ?ea3 ?eb3 ?ec3 ?ed3 ?ee3 ?ef3 ?eg3 ?eh3 ?ei3 ?ej3 ?ek3 ?el3 ?em3 ?en3 ?eo3 ?ep3_0 ?ep3_1 ?ea4 ?eb4 ?ec4 ?ed4 ?ee4 ?ef4 ?eg4 ?eh4 ?ei4 ?ej4 ?ek4 ?el4 ?em4 ?en4 ?eo4 ?ep4_0 ?ra0 ?rb0 ?rc0 ?rd0 ?re0 ?ra1 ?rb1 ?rc1 ?rd1 ?re1 ?ra2 ?rb2 ?rc2 ?rd2 ?re2 ?ra3 ?rb3 ?rc3 ?rd3 ?re3 ?ta ?kn ?kt ?ka0 ?kb0 ?kc0 ?kd0 ?ke0 ?kh0 ?kv0 ?ka1 ?kb1 ?kc1 ?kd1 ?ke1 ?kh1 ?kv1 ?ka2 ?kb2 ?kc2 ?kd2 ?ke2 ?kh2 ?kv2 ?ka3 ?kb3 ?kc3 ?kd3 ?ke3 ?kh3 ?kv3 ?ka4 ?kb4 ?kc4 ?kd4 ?ke4 ?kh4 ?kv4 ?ka5 ?kb5 ?kc5 ?kd5 ?ke5 ?kh5 ?kv5 ?ka6 ?kb6 ?kc6 ?kd6 ?ke6 ?kh6 ?kv6 ?ka7 ?kb7 ?kc7 ?kd7 ?ke7 ?kh7 ?kv7 ?ka8 ?kb8 ?kc8 ?kd8 ?ke8 ?kh8 ?kv8 ?kk0 ?kk1 ?kk2 ?kk3 ?kk4 ?kk5 ?kk6 ?kk7 ?kk8 ?kk9 ?kk10 ?kk11 ?kk12 ?kk13 ?kk14 ?kk15 ?kk16 ?kk17 ?kk18 ?kk19 ?kk20 ?kk21 ?kk22 ?kk23 ?kk24 ?kk25 ?kk26 ?kk27 ?kk28 ?kk29 ?kk30 ?kk31 ?kk32 ?kk33 ?kk34 ?kk35 ?kk36 ?kk37 ?kk38 ?kk39 ?kk40 ?kk41 ?kk42 ?kk43 ?kk44 ?kk45 ?kk46 ?kk47 ?kk48 ?kk49 ?kk50 ?kk51 ?kk52 ?kk53 ?kk54 ?kk55 ?kk56 ?kk57 ?kk58 ?kk59 ?kk60 ?kk61 ?kk62 ?kk63 ?kk64 ?kk65 ?kk66 ?kk67 ?kk68 ?kk69 ?kk70 ?kk71 ?kk72 ?kk73 ?kk74 ?kk75 ?kk76 ?kk77 ?kk78 ?kk79 ?kk80 ?kk81 ?kk82 ?kk83 ?kk84 ?kk85 ?kk86 ?kk87 ?kk88 ?kk89 ?z0 ?z1 ?z2 ?z3 ?z4 ?z5 ?z6 ?z7 ?z8 ?z9 ?z10
    (case a0 => k_is)
    (case l0 => k_is)
    (case c0 => k_is)
    (case k0 => k_is)
    (case a1 => k_is)
    (case l1 => k_is)
    (case c1 => k_is)
    (case k1 => k_is)
    (case a2 => k_is)
    (case l2 => k_is)
    (case c2 => k_is)
    (case k2 => k_is)
    (case a3 => k_is)
    (case l3 => k_is)
    (case c3 => k_is)
    (case k3 => k_is)
    (case a4 => k_is)
    (case l4 => k_is)
    (case c4 => k_is)
    (case k4 => k_is)
    (case a5 => k_is)
    (case l5 => k_is)
    (case c5 => k_is)
    (case k5 => k_is)
    (case a6 => k_is)
    (case l6 => k_is)
    (case c6 => k_is)
    (case k6 => k_is)
    (case a7 => k_is)
    (case l7 => k_is)
    (case c7 => k_is)
    (case k7 => k_is)
    (case ea0 => k_is)
    (case eb0 => k_is)
    (case ec0 => k_is)
    (case ed0 => k_is)
    (case ee0 => k_is)
    (case ef0 => k_is)
    (case eg0 => k_is)
    (case eh0 => k_is)
    (case ei0 => k_is)
    (case ej0 => k_is)
    (case ek0 => k_is)
    (case el0 => k_is)
    (case em0 => k_is)
    (case en0 => k_is)
    (case eo0 => k_is)
    (case ep0_0 => k_is)
    (case ea1 => k_is)
    (case eb1 => k_is)
    (case ec1 => k_is)
    (case ed1 => k_is)
    (case ee1 => k_is)
    (case ef1 => k_is)
    (case eg1 => k_is)
    (case eh1 => k_is)
    (case ei1 => k_is)
    (case ej1 => k_is)
    (case ek1 => k_is)
    (case el1 => k_is)
    (case em1 => k_is)
    (case en1 => k_is)
    (case eo1 => k_is)
    (case ep1_0 => k_is)
    (case ea2 => k_is)
    (case eb2 => k_is)
    (case ec2 => k_is)
    (case ed2 => k_is)
    (case ee2 => k_is)
    (case ef2 => k_is)
    (case eg2 => k_is)
    (case eh2 => k_is)
    (case ei2 => k_is)
    (case ej2 => k_is)
    (case ek2 => k_is)
    (case el2 => k_is)
    (case em2 => k_is)
    (case en2 => k_is)
    (case eo2 => k_is)
    (case ep2_0 => k_is)
    (case ep2_1 => k_is)
    (case ea3 => k_is)
    (case eb3 => k_is)
    (case ec3 => k_is)
    (case ed3 => k_is)
    (case ee3 => k_is)
    (case ef3 => k_is)
    (case eg3 => k_is)
    (case eh3 => k_is)
    (case ei3 => k_is)
    (case ej3 => k_is)
    (case ek3 => k_is)
    (case el3 => k_is)
    (case em3 => k_is)
    (case en3 => k_is)
    (case eo3 => k_is)
    (case ep3_0 => k_is)
    (case ep3_1 => k_is)
    (case ea4 => k_is)
    (case eb4 => k_is)
    (case ec4 => k_is)
    (case ed4 => k_is)
    (case ee4 => k_is)
    (case ef4 => k_is)
    (case eg4 => k_is)
    (case eh4 => k_is)
    (case ei4 => k_is)
    (case ej4 => k_is)
    (case ek4 => k_is)
    (case el4 => k_is)
    (case em4 => k_is)
    (case en4 => k_is)
    (case eo4 => k_is)
    (case ep4_0 => k_is)
    (case ra0 => k_is)
    (case rb0 => k_exc)
    (case rc0 => k_is)
    (case rd0 => k_is)
    (case re0 => k_is)
    (case ra1 => k_is)
    (case rb1 => k_exc)
    (case rc1 => k_is)
    (case rd1 => k_is)
    (case re1 => k_is)
    (case ra2 => k_is)
    (case rb2 => k_exc)
    (case rc2 => k_is)
    (case rd2 => k_is)
    (case re2 => k_is)
    (case ra3 => k_is)
    (case rb3 => k_exc)
    (case rc3 => k_is)
    (case rd3 => k_is)
    (case re3 => k_is)
    (case ta => k_is)
    (case kn => k_is)
    (case kt => k_is)
    (case ka0 => k_is)
    (case kb0 => k_is)
    (case kc0 => k_is)
    (case kd0 => k_is)
    (case ke0 => k_is)
    (case kh0 => k_is)
    (case kv0 => kit_is)
    (case ka1 => k_is)
    (case kb1 => k_is)
    (case kc1 => k_is)
    (case kd1 => k_is)
    (case ke1 => k_is)
    (case kh1 => k_is)
    (case kv1 => kit_is)
    (case ka2 => k_is)
    (case kb2 => k_is)
    (case kc2 => k_is)
    (case kd2 => k_is)
    (case ke2 => k_is)
    (case kh2 => k_is)
    (case kv2 => kit_is)
    (case ka3 => k_is)
    (case kb3 => k_is)
    (case kc3 => k_is)
    (case kd3 => k_is)
    (case ke3 => k_is)
    (case kh3 => k_is)
    (case kv3 => kit_is)
    (case ka4 => k_is)
    (case kb4 => k_is)
    (case kc4 => k_is)
    (case kd4 => k_is)
    (case ke4 => k_is)
    (case kh4 => k_is)
    (case kv4 => kit_is)
    (case ka5 => k_is)
    (case kb5 => k_is)
    (case kc5 => k_is)
    (case kd5 => k_is)
    (case ke5 => k_is)
    (case kh5 => k_is)
    (case kv5 => kit_is)
    (case ka6 => k_is)
    (case kb6 => k_is)
    (case kc6 => k_is)
    (case kd6 => k_is)
    (case ke6 => k_is)
    (case kh6 => k_is)
    (case kv6 => kit_is)
    (case ka7 => k_is)
    (case kb7 => k_is)
    (case kc7 => k_is)
    (case kd7 => k_is)
    (case ke7 => k_is)
    (case kh7 => k_is)
    (case kv7 => kit_is)
    (case ka8 => k_is)
    (case kb8 => k_is)
    (case kc8 => k_is)
    (case kd8 => k_is)
    (case ke8 => k_is)
    (case kh8 => k_is)
    (case kv8 => kit_is)
    (case kk0 => kit_is)
    (case kk1 => kit_is)
    (case kk2 => kit_is)
    (case kk3 => kit_is)
    (case kk4 => kit_is)
    (case kk5 => kit_is)
    (case kk6 => kit_is)
    (case kk7 => kit_is)
    (case kk8 => kit_is)
    (case kk9 => kit_is)
    (case kk10 => kit_is)
    (case kk11 => kit_is)
    (case kk12 => kit_is)
    (case kk13 => kit_is)
    (case kk14 => kit_is)
    (case kk15 => kit_is)
    (case kk16 => kit_is)
    (case kk17 => kit_is)
    (case kk18 => kit_is)
    (case kk19 => kit_is)
    (case kk20 => kit_is)
    (case kk21 => kit_is)
    (case kk22 => kit_is)
    (case kk23 => kit_is)
    (case kk24 => kit_is)
    (case kk25 => kit_is)
    (case kk26 => kit_is)
    (case kk27 => kit_is)
    (case kk28 => kit_is)
    (case kk29 => kit_is)
    (case kk30 => kit_is)
    (case kk31 => kit_is)
    (case kk32 => kit_is)
    (case kk33 => kit_is)
    (case kk34 => kit_is)
    (case kk35 => kit_is)
    (case kk36 => kit_is)
    (case kk37 => kit_is)
    (case kk38 => kit_is)
    (case kk39 => kit_is)
    (case kk40 => kit_is)
    (case kk41 => kit_is)
    (case kk42 => kit_is)
    (case kk43 => kit_is)
    (case kk44 => kit_is)
    (case kk45 => kit_is)
    (case kk46 => kit_is)
    (case kk47 => kit_is)
    (case kk48 => kit_is)
    (case kk49 => kit_is)
    (case kk50 => kit_is)
    (case kk51 => kit_is)
    (case kk52 => kit_is)
    (case kk53 => kit_is)
    (case kk54 => kit_is)
    (case kk55 => kit_is)
    (case kk56 => kit_is)
    (case kk57 => kit_is)
    (case kk58 => kit_is)
    (case kk59 => kit_is)
    (case kk60 => kit_is)
    (case kk61 => kit_is)
    (case kk62 => kit_is)
    (case kk63 => kit_is)
    (case kk64 => kit_is)
    (case kk65 => kit_is)
    (case kk66 => kit_is)
    (case kk67 => kit_is)
    (case kk68 => kit_is)
    (case kk69 => kit_is)
    (case kk70 => kit_is)
    (case kk71 => kit_is)
    (case kk72 => kit_is)
    (case kk73 => kit_is)
    (case kk74 => kit_is)
    (case kk75 => kit_is)
    (case kk76 => kit_is)
    (case kk77 => kit_is)
    (case kk78 => kit_is)
    (case kk79 => kit_is)
    (case kk80 => kit_is)
    (case kk81 => kit_is)
    (case kk82 => kit_is)
    (case kk83 => kit_is)
    (case kk84 => kit_is)
    (case kk85 => kit_is)
    (case kk86 => kit_is)
    (case kk87 => kit_is)
    (case kk88 => kit_is)
    (case kk89 => kit_is)
    (case z0 => k_is)
    (case z1 => k_is)
    (case z2 => k_is)
    (case z3 => k_is)
    (case z4 => k_is)
    (case z5 => k_is)
    (case z6 => k_is)
    (case z7 => k_is)
    (case z8 => k_is)
    (case z9 => k_is)
    (case z10 => k_is)
