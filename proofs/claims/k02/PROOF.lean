import PyProof.Rows.All
import Wide.All
import OpenK.AllK
import Wide.FinOn
import PySem.Challenge.RW_gapcalls_k02_what_is_a_row
import HandS.ForMost
import HandS.Wide
import HandS.Codes
import HandS.Walk
import HandS.NoneIn
import HandS.Style
import HandS.IsInst
import HandS.SortOrd
import HandS.SortRule
import KE.LtData
import HandS.Deep
import HandS.TupAny
import HandS.TupLe
import HandS.Zip
import KE.GoesZip
import KE.GoesMore
import KE.GoesEnum
set_option Elab.async false
set_option linter.all false
set_option maxRecDepth 100000
set_option maxHeartbeats 4000000
namespace Gp
open PySem PySem.Spec PyProof.Rows L2
def topS (i : Nat) : Stmt := PySem.Challenge.pw_gapcalls_k02_what_is_a_row.main.body.getD i (.Pass ⟨0, 0, 0, 0⟩)
abbrev s_is_whole_from : Stmt := topS 4
theorem sc_is_whole_from : FnScope ["thing", "low", "high"] ["thing", "low", "high"] (defScope s_is_whole_from) := ⟨rfl, rfl, rfl, by decide +kernel, rfl, by decide +kernel, by decide +kernel⟩
abbrev s_is_time : Stmt := topS 5
theorem sc_is_time : FnScope ["thing"] ["thing"] (defScope s_is_time) := ⟨rfl, rfl, rfl, by decide +kernel, rfl, by decide +kernel, by decide +kernel⟩
abbrev s_is_number : Stmt := topS 6
theorem sc_is_number : FnScope ["thing"] ["thing"] (defScope s_is_number) := ⟨rfl, rfl, rfl, by decide +kernel, rfl, by decide +kernel, by decide +kernel⟩
abbrev s_is_count : Stmt := topS 7
theorem sc_is_count : FnScope ["thing"] ["thing"] (defScope s_is_count) := ⟨rfl, rfl, rfl, by decide +kernel, rfl, by decide +kernel, by decide +kernel⟩
abbrev s_is_span : Stmt := topS 8
theorem sc_is_span : FnScope ["low", "high"] ["low", "high"] (defScope s_is_span) := ⟨rfl, rfl, rfl, by decide +kernel, rfl, by decide +kernel, by decide +kernel⟩
abbrev s_is_ask_row : Stmt := topS 9
theorem sc_is_ask_row : FnScope ["houses", "thing", "word", "house", "number", "job", "asked", "out", "back"] ["houses", "thing"] (defScope s_is_ask_row) := ⟨rfl, rfl, rfl, by decide +kernel, rfl, by decide +kernel, by decide +kernel⟩
abbrev s_is_job_row : Stmt := topS 10
theorem sc_is_job_row : FnScope ["houses", "thing", "word", "house", "number", "begin", "end"] ["houses", "thing"] (defScope s_is_job_row) := ⟨rfl, rfl, rfl, by decide +kernel, rfl, by decide +kernel, by decide +kernel⟩
abbrev s_is_all_row : Stmt := topS 11
theorem sc_is_all_row : FnScope ["houses", "thing", "word", "house", "asks", "jobs"] ["houses", "thing"] (defScope s_is_all_row) := ⟨rfl, rfl, rfl, by decide +kernel, rfl, by decide +kernel, by decide +kernel⟩
abbrev s_is_row : Stmt := topS 12
theorem sc_is_row : FnScope ["town", "thing", "houses"] ["town", "thing"] (defScope s_is_row) := ⟨rfl, rfl, rfl, by decide +kernel, rfl, by decide +kernel, by decide +kernel⟩
abbrev s_l_spread : Stmt := topS 14
theorem sc_l_spread : FnScope ["cell", "at", "one", "two", "three"] ["cell", "at"] (defScope s_l_spread) := ⟨rfl, rfl, rfl, by decide +kernel, rfl, by decide +kernel, by decide +kernel⟩
abbrev s_l_open : Stmt := topS 15
theorem sc_l_open : FnScope ["script", "cells", "k", "cell"] ["script"] (defScope s_l_open) := ⟨rfl, rfl, rfl, by decide +kernel, rfl, by decide +kernel, by decide +kernel⟩
abbrev s_l_anew : Stmt := topS 16
theorem sc_l_anew : FnScope ["pen"] ["pen"] (defScope s_l_anew) := ⟨rfl, rfl, rfl, by decide +kernel, rfl, by decide +kernel, by decide +kernel⟩
abbrev s_l_take : Stmt := topS 17
theorem sc_l_take : FnScope ["pen", "many", "at", "cell", "found"] ["pen", "many"] (defScope s_l_take) := ⟨rfl, rfl, rfl, by decide +kernel, rfl, by decide +kernel, by decide +kernel⟩
abbrev s_l_names : Stmt := topS 18
theorem sc_l_names : FnScope ["pen", "many", "letters", "base", "k", "way", "turn", "size", "found", "sign", "part", "at"] ["pen", "many"] (defScope s_l_names) := ⟨rfl, rfl, rfl, by decide +kernel, rfl, by decide +kernel, by decide +kernel⟩
abbrev s_l_town : Stmt := topS 19
theorem sc_l_town : FnScope ["pen", "most", "houses", "gates", "house"] ["pen", "most"] (defScope s_l_town) := ⟨rfl, rfl, rfl, by decide +kernel, rfl, by decide +kernel, by decide +kernel⟩
abbrev s_l_whole : Stmt := topS 20
theorem sc_l_whole : FnScope ["thing"] ["thing"] (defScope s_l_whole) := ⟨rfl, rfl, rfl, by decide +kernel, rfl, by decide +kernel, by decide +kernel⟩
abbrev s_l_is_row : Stmt := topS 21
theorem sc_l_is_row : FnScope ["town", "thing", "forms", "sort", "part", "low", "high"] ["town", "thing"] (defScope s_l_is_row) := ⟨rfl, rfl, rfl, by decide +kernel, rfl, by decide +kernel, by decide +kernel⟩
abbrev s_l_number : Stmt := topS 22
theorem sc_l_number : FnScope ["pen"] ["pen"] (defScope s_l_number) := ⟨rfl, rfl, rfl, by decide +kernel, rfl, by decide +kernel, by decide +kernel⟩
abbrev s_l_two_times : Stmt := topS 23
theorem sc_l_two_times : FnScope ["pen", "some"] ["pen"] (defScope s_l_two_times) := ⟨rfl, rfl, rfl, by decide +kernel, rfl, by decide +kernel, by decide +kernel⟩
abbrev s_l_any_row : Stmt := topS 24
theorem sc_l_any_row : FnScope ["pen", "town", "house", "way", "out", "back", "goal"] ["pen", "town"] (defScope s_l_any_row) := ⟨rfl, rfl, rfl, by decide +kernel, rfl, by decide +kernel, by decide +kernel⟩
abbrev s_l_no_row : Stmt := topS 25
theorem sc_l_no_row : FnScope ["pen", "town", "row", "at", "some", "part", "way"] ["pen", "town"] (defScope s_l_no_row) := ⟨rfl, rfl, rfl, by decide +kernel, rfl, by decide +kernel, by decide +kernel⟩
abbrev s_law : Stmt := topS 26
theorem sc_law : FnScope ["script", "pen", "turn", "town", "other", "row", "thing", "place", "kept", "found"] ["script"] (defScope s_law) := ⟨rfl, rfl, rfl, by decide +kernel, rfl, by decide +kernel, by decide +kernel⟩
structure Txt (K : PySem.W.Frag) (mg : Str → Option Value) (af : Nat → Addr) (fd : Nat → FuncData) : Prop where
  g_is_whole_from : mg "is_whole_from" = some (.ref (af 0))
  F_is_whole_from : Fun K "is_whole_from" "is_whole_from" s_is_whole_from (af 0) (fd 0)
  b_is_whole_from : Binds K (fd 0) ["thing", "low", "high"] []
  g_is_time : mg "is_time" = some (.ref (af 1))
  F_is_time : Fun K "is_time" "is_time" s_is_time (af 1) (fd 1)
  b_is_time : Binds K (fd 1) ["thing"] []
  g_is_number : mg "is_number" = some (.ref (af 2))
  F_is_number : Fun K "is_number" "is_number" s_is_number (af 2) (fd 2)
  b_is_number : Binds K (fd 2) ["thing"] []
  g_is_count : mg "is_count" = some (.ref (af 3))
  F_is_count : Fun K "is_count" "is_count" s_is_count (af 3) (fd 3)
  b_is_count : Binds K (fd 3) ["thing"] []
  g_is_span : mg "is_span" = some (.ref (af 4))
  F_is_span : Fun K "is_span" "is_span" s_is_span (af 4) (fd 4)
  b_is_span : Binds K (fd 4) ["low", "high"] []
  g_is_ask_row : mg "is_ask_row" = some (.ref (af 5))
  F_is_ask_row : Fun K "is_ask_row" "is_ask_row" s_is_ask_row (af 5) (fd 5)
  b_is_ask_row : Binds K (fd 5) ["houses", "thing"] []
  g_is_job_row : mg "is_job_row" = some (.ref (af 6))
  F_is_job_row : Fun K "is_job_row" "is_job_row" s_is_job_row (af 6) (fd 6)
  b_is_job_row : Binds K (fd 6) ["houses", "thing"] []
  g_is_all_row : mg "is_all_row" = some (.ref (af 7))
  F_is_all_row : Fun K "is_all_row" "is_all_row" s_is_all_row (af 7) (fd 7)
  b_is_all_row : Binds K (fd 7) ["houses", "thing"] []
  g_is_row : mg "is_row" = some (.ref (af 8))
  F_is_row : Fun K "is_row" "is_row" s_is_row (af 8) (fd 8)
  b_is_row : Binds K (fd 8) ["town", "thing"] []
  g_l_spread : mg "_law_spread" = some (.ref (af 9))
  F_l_spread : Fun K "_law_spread" "_law_spread" s_l_spread (af 9) (fd 9)
  b_l_spread : Binds K (fd 9) ["cell", "at"] []
  g_l_open : mg "_law_open" = some (.ref (af 10))
  F_l_open : Fun K "_law_open" "_law_open" s_l_open (af 10) (fd 10)
  b_l_open : Binds K (fd 10) ["script"] []
  g_l_anew : mg "_law_anew" = some (.ref (af 11))
  F_l_anew : Fun K "_law_anew" "_law_anew" s_l_anew (af 11) (fd 11)
  b_l_anew : Binds K (fd 11) ["pen"] []
  g_l_take : mg "_law_take" = some (.ref (af 12))
  F_l_take : Fun K "_law_take" "_law_take" s_l_take (af 12) (fd 12)
  b_l_take : Binds K (fd 12) ["pen", "many"] []
  g_l_names : mg "_law_names" = some (.ref (af 13))
  F_l_names : Fun K "_law_names" "_law_names" s_l_names (af 13) (fd 13)
  b_l_names : Binds K (fd 13) ["pen", "many"] []
  g_l_town : mg "_law_town" = some (.ref (af 14))
  F_l_town : Fun K "_law_town" "_law_town" s_l_town (af 14) (fd 14)
  b_l_town : Binds K (fd 14) ["pen", "most"] []
  g_l_whole : mg "_law_whole" = some (.ref (af 15))
  F_l_whole : Fun K "_law_whole" "_law_whole" s_l_whole (af 15) (fd 15)
  b_l_whole : Binds K (fd 15) ["thing"] []
  g_l_is_row : mg "_law_is_row" = some (.ref (af 16))
  F_l_is_row : Fun K "_law_is_row" "_law_is_row" s_l_is_row (af 16) (fd 16)
  b_l_is_row : Binds K (fd 16) ["town", "thing"] []
  g_l_number : mg "_law_number" = some (.ref (af 17))
  F_l_number : Fun K "_law_number" "_law_number" s_l_number (af 17) (fd 17)
  b_l_number : Binds K (fd 17) ["pen"] []
  g_l_two_times : mg "_law_two_times" = some (.ref (af 18))
  F_l_two_times : Fun K "_law_two_times" "_law_two_times" s_l_two_times (af 18) (fd 18)
  b_l_two_times : Binds K (fd 18) ["pen"] []
  g_l_any_row : mg "_law_any_row" = some (.ref (af 19))
  F_l_any_row : Fun K "_law_any_row" "_law_any_row" s_l_any_row (af 19) (fd 19)
  b_l_any_row : Binds K (fd 19) ["pen", "town"] []
  g_l_no_row : mg "_law_no_row" = some (.ref (af 20))
  F_l_no_row : Fun K "_law_no_row" "_law_no_row" s_l_no_row (af 20) (fd 20)
  b_l_no_row : Binds K (fd 20) ["pen", "town"] []
  g_law : mg "law" = some (.ref (af 21))
  F_law : Fun K "law" "law" s_law (af 21) (fd 21)
  b_law : Binds K (fd 21) ["script"] []
  m_bool : mg "bool" = none
  m_enumerate : mg "enumerate" = none
  m_int : mg "int" = none
  m_isinstance : mg "isinstance" = none
  m_len : mg "len" = none
  m_list : mg "list" = none
  m_range : mg "range" = none
  m_repr : mg "repr" = none
  m_sorted : mg "sorted" = none
  m_str : mg "str" = none
  m_tuple : mg "tuple" = none
  m_zip : mg "zip" = none
  c_MOST_COUNT : ∃ t, mg "MOST_COUNT" = some (.int (15) t)
  c_MOST_NUMBER : ∃ t, mg "MOST_NUMBER" = some (.int (14) t)
  c_MOST_TIME : ∃ t, mg "MOST_TIME" = some (.int (1000000000000) t)
/-! the pen at p, its cells at c: a list of the cells' list, how many were taken, what is left of the last one -/
def Pen (H : Hp) (p c : Addr) : Prop := ∃ (cs : List Int) (n st : Int), H p = some (.lst [.ref c, .int n, .int st]) ∧ H c = some (.lst (cs.map V.int)) ∧ 0 ≤ n ∧ 0 ≤ st
/-! from H to H': the pen may have gone on; all else that stood stands -/
def Stp (p c : Addr) (H H' : Hp) : Prop := Pen H' p c ∧ ∀ b o, b ≠ p → H b = some o → H' b = some o
theorem Stp.refl {p c : Addr} {H : Hp} (h : Pen H p c) : Stp p c H H := ⟨h, fun _ _ _ e => e⟩
theorem Stp.trans {p c : Addr} {H H1 H2 : Hp} (a : Stp p c H H1) (b : Stp p c H1 H2) : Stp p c H H2 := ⟨b.1, fun x o n e => b.2 x o n (a.2 x o n e)⟩
theorem cells_ne {c : Addr} {cs : List Int} {n st : Int} : cs.map V.int ≠ [.ref c, .int n, .int st] := by
  cases cs with
  | nil => exact fun h => nomatch h
  | cons x r => exact fun h => nomatch (List.cons.inj h).1
theorem Pen.ne {p c : Addr} {H : Hp} (h : Pen H p c) : c ≠ p := by
  obtain ⟨cs, n, st, h1, h2, h3, h4⟩ := h
  intro e
  subst e
  rw [h2] at h1
  exact cells_ne (HO.lst.inj (Option.some.inj h1))
theorem Pen.neP {p c a : Addr} {H : Hp} (h : Pen H p c) (ha : H a = none) : p ≠ a := let ⟨_, _, _, h1, _⟩ := h; ne_of_none h1 ha
theorem Pen.neC {p c a : Addr} {H : Hp} (h : Pen H p c) (ha : H a = none) : c ≠ a := let ⟨_, _, _, _, h2, _⟩ := h; ne_of_none h2 ha
/-! no tuple is the pen -/
theorem Pen.tup {p c a : Addr} {H : Hp} {xs : List V} (h : Pen H p c) (ha : H a = some (.tup xs)) : a ≠ p := let ⟨_, _, _, h1, _⟩ := h; ne_of ha h1 (fun e => nomatch e)
theorem Stp.tup {p c a : Addr} {H H' : Hp} {xs : List V} (s : Stp p c H H') (h : Pen H p c) (ha : H a = some (.tup xs)) : H' a = some (.tup xs) := s.2 a _ (h.tup ha) ha
/-! an object that was not there ahead may come and change -/
theorem Stp.mut {p c a : Addr} {H H1 : Hp} {o : HO} (s : Stp p c H H1) (hp : Pen H p c) (ha : H a = none) : Stp p c H (upd H1 a o) := by
  obtain ⟨cs, n, st, h1, h2, h3, h4⟩ := s.1
  exact ⟨⟨cs, n, st, by rw [upd_ne (hp.neP ha)]; exact h1, by rw [upd_ne (hp.neC ha)]; exact h2, h3, h4⟩, fun b u nb e => by rw [upd_ne (ne_of_none e ha)]; exact s.2 b u nb e⟩
theorem Stp.back {p c a : Addr} {H H1 : Hp} (s : Stp p c H H1) (hp : Pen H p c) (ha : H1 a = none) : H a = none := by
  cases e : H a with
  | none => rfl
  | some o =>
    by_cases hb : a = p
    · subst hb
      obtain ⟨cs, n, st, h1, _⟩ := s.1
      rw [h1] at ha
      cases ha
    · rw [s.2 a o hb e] at ha
      cases ha
/-! a further new object -/
theorem Stp.new {p c a : Addr} {H H1 : Hp} {o : HO} (s : Stp p c H H1) (hp : Pen H p c) (ha : H1 a = none) : Stp p c H (upd H1 a o) := s.mut hp (s.back hp ha)
theorem yes_if {A B : Hp → Prop} {σ : L2.St} {H : Hp} (h : A H) : tYes σ H (fun b H3 => if b = true then A H3 else B H3) := by
  show (if true = true then A H else B H)
  exact iteT h
theorem at_any {A : Type} {xs : List A} {z : Int} {j : Nat} {v : A} (e : z = (j : Int)) (h : xs[j]? = some v) : atI xs z = some v := by
  rw [e]
  exact atI_nat h
theorem same_upd {H : Hp} {p : Addr} {o : HO} (h : H p = none) : Same H (upd H p o) := fun b x e => by
  rw [upd_ne (ne_of_none e h)]
  exact e
theorem same_mut {H H1 : Hp} {p : Addr} {o : HO} (s : Same H H1) (h : H p = none) : Same H (upd H1 p o) := fun b x e => by
  rw [upd_ne (ne_of_none e h)]
  exact s b x e
theorem cut_to (xs : List V) (n : Nat) : cutV xs none (some (n : Int)) = xs.take n := by
  unfold cutV
  rw [HT.sIx_none, HT.sIx_nat, List.drop_zero, Nat.sub_zero]
  by_cases h : n ≤ xs.length
  · rw [Nat.min_eq_left h]
  · rw [Nat.min_eq_right (by omega), List.take_length, List.take_of_length_le (by omega)]
theorem cut_mid (xs : List V) (m n : Nat) : cutV xs (some (m : Int)) (some (n : Int)) = (xs.drop (min m xs.length)).take (min n xs.length - min m xs.length) := by
  unfold cutV
  rw [HT.sIx_nat, HT.sIx_nat]

/-! ### sorted of tuples of texts and whole numbers, the first a text; any two alike, or of unlike first texts -/
namespace Fl
open PySem PySem.W PyProof.Rows
inductive FV : PyData → Value → Prop
  | int (i : Int) (t : Tok) : FV (.int i) (.int i t)
  | str (x : Str) (t : Tok) : FV (.str x) (.str x t)
inductive FVs : List PyData → List Value → Prop
  | nil : FVs [] []
  | cons {d : PyData} {u : Value} {ds : List PyData} {us : List Value} : FV d u → FVs ds us → FVs (d :: ds) (u :: us)
theorem FVs.len : ∀ {ds : List PyData} {us : List Value}, FVs ds us → ds.length = us.length
  | _, _, .nil => rfl
  | _, _, .cons _ r => by rw [List.length_cons, List.length_cons, r.len]
section
variable {prog : Program} {w : World} {A : Around} {E : Value → Shared → Prop} {s : Shared}
theorem flat_lex {b fin : Bool} {Q : Bool → Shared → Prop} : ∀ (xs ys : List PyData) (i : Nat) (us ws : List Value), FVs xs us → FVs ys ws → alikeAll xs ys = true → fin = decide (xs.length < ys.length) →
    Q (lexLt itemOrd (keyToksAll xs) (keyToksAll ys)) s → KatLex prog w A b fin Q (us.zip ws) i s
  | [], [], i, _, _, .nil, .nil, _, hf, hq => by
    have e : fin = false := by rw [hf]; rfl
    subst e
    rw [lex_irrefl] at hq
    exact kat_nil hq
  | [], y :: ys, i, _, _, .nil, _, _, hf, hq => by
    have e : fin = true := by rw [hf]; exact decide_eq_true (Nat.succ_pos _)
    subst e
    rw [toks_all_cons] at hq
    simp only [keyToksAll] at hq
    rw [lex_diff (O := itemOrd) (by simp)] at hq
    rw [List.zip_nil_left]
    exact kat_nil (by simpa [itemLt] using hq)
  | x :: xs, [], i, _, _, _, .nil, _, hf, hq => by
    have e : fin = false := by rw [hf]; exact decide_eq_false (Nat.not_lt_zero _)
    subst e
    rw [toks_all_cons] at hq
    simp only [keyToksAll] at hq
    rw [lex_diff (O := itemOrd) (by simp)] at hq
    rw [List.zip_nil_right]
    exact kat_nil (by simpa [itemLt] using hq)
  | x :: xs, y :: ys, i, _, _, .cons f fs, .cons g gs, h, hf, hq => by
    obtain ⟨h1, h2⟩ := alike_all_cons h
    have hf' : fin = decide (xs.length < ys.length) := by
      rw [hf]
      simp only [List.length_cons, Nat.add_lt_add_iff_right]
    rw [List.zip_cons_cons]
    cases f with
    | int a t =>
      cases g with
      | int c u =>
        refine kat_cons (SeqAt.EqAt.int_int a t c u prog w _ _ ?_)
        cases hx : PyData.eqv (.int a) (.int c) with
        | true =>
          rw [dataLt_all_yes h1 hx] at hq
          have e1 : (a == c) = true := by simpa [PyData.eqv] using hx
          rw [e1]
          exact kat_yes (flat_lex xs ys (i + 1) _ _ fs gs h2 hf' hq)
        | false =>
          rw [dataLt_all_no h1 hx, dataLt_int] at hq
          have e1 : (a == c) = false := by simpa [PyData.eqv] using hx
          rw [e1]
          exact kat_no (oneLt_any_int hq)
      | str c u => exact absurd h1 (by simp [alike])
    | str a t =>
      cases g with
      | int c u => exact absurd h1 (by simp [alike])
      | str c u =>
        refine kat_cons (SeqAt.EqAt.str_str a t c u prog w _ _ ?_)
        cases hx : PyData.eqv (.str a) (.str c) with
        | true =>
          rw [dataLt_all_yes h1 hx] at hq
          have e1 : (a == c) = true := by simpa [PyData.eqv] using hx
          rw [e1]
          exact kat_yes (flat_lex xs ys (i + 1) _ _ fs gs h2 hf' hq)
        | false =>
          rw [dataLt_all_no h1 hx, dataLt_str] at hq
          have e1 : (a == c) = false := by simpa [PyData.eqv] using hx
          rw [e1]
          exact kat_no (oneLt_any_str hq)
def ltD (x y : List PyData) : Bool := lexLt itemOrd (keyToksAll x) (keyToksAll y)
theorem swo_ltD {A : Type} (k : A → List PyData) : SrtO.Swo fun v u => ltD (k v) (k u) := by
  refine ⟨fun x y h => ?_, fun x y z h1 h2 => ?_⟩
  · cases e : ltD (k y) (k x) with
    | false => rfl
    | true =>
      have := lex_trans _ _ _ h e
      rw [lex_irrefl] at this
      cases this
  · cases e : ltD (k z) (k x) with
    | false => rfl
    | true =>
      rcases lex_negTrans _ (keyToksAll (k y)) _ e with q | q
      · exact absurd (h2.symm.trans q) (by decide)
      · exact absurd (h1.symm.trans q) (by decide)
/-! what two such tuples must be to one another -/
def Can (x y : List PyData) : Prop := ∃ a r c t, x = .str a :: r ∧ y = .str c :: t ∧ (a = c → alikeAll r t = true)
def IsFl (h : Heap) (v : Value) (ds : List PyData) : Prop := ∃ a o its n, v = .ref a ∧ h.get? a = some o ∧ o.cls = .type "tuple" ∧ o.data = .seq its n ∧ FVs ds its.toList
theorem IsFl.keeps {h h' : Heap} {v : Value} {ds : List PyData} (p : IsFl h v ds) (k : ∀ b o, h.get? b = some o → o.cls = .type "tuple" → h'.get? b = some o) : IsFl h' v ds := by
  obtain ⟨a, o, its, n, e, ho, hc, r⟩ := p
  exact ⟨a, o, its, n, e, k a o ho hc, hc, r⟩
theorem flat_cmp {vs : List Value} {k : Value → List PyData} (hp : ∀ v ∈ vs, IsFl s.heap v (k v)) (hc : ∀ v ∈ vs, ∀ u ∈ vs, Can (k v) (k u)) : SrtO.Cmp prog w A s (tuples' true) (fun p => p.1 ∈ vs) (SrtO.lt2 fun v u => ltD (k v) (k u)) := by
  intro p q hm hm'
  obtain ⟨a, o, its, n, e, ho, _, hd, f⟩ := hp _ hm
  obtain ⟨a', o', its', n', e', ho', _, hd', f'⟩ := hp _ hm'
  show wpAny (model prog w) A (keyLt' (tuples' true) p.1 q.1) (fun r s' => s' = s ∧ r = ltD (k p.1) (k q.1)) (fun _ _ => False) s
  obtain ⟨x, r, y, t, e1, e2, hal⟩ := hc _ hm _ hm'
  generalize k p.1 = kp at *
  generalize k q.1 = kq at *
  rw [e, e']
  refine kat_lt ho hd ho' hd' ?_
  have z1 : its.size = kp.length := by rw [← Array.length_toList]; exact f.len.symm
  have z2 : its'.size = kq.length := by rw [← Array.length_toList]; exact f'.len.symm
  rw [z1, z2]
  subst e1
  subst e2
  generalize its.toList = us at *
  generalize its'.toList = ws at *
  by_cases hxy : x = y
  · subst hxy
    refine flat_lex _ _ 0 us ws f f' ?_ rfl ⟨rfl, rfl⟩
    show (alike (.str x) (.str x) && alikeAll r t) = true
    rw [hal rfl]
    rfl
  · cases f with
    | cons f1 fs =>
      cases f' with
      | cons g1 gs =>
        cases f1 with
        | str _ tx =>
          cases g1 with
          | str _ ty =>
            rw [List.zip_cons_cons]
            refine kat_cons (SeqAt.EqAt.str_str x tx y ty prog w _ _ ?_)
            have e3 : (x == y) = false := by simpa using hxy
            rw [e3]
            refine kat_no (oneLt_any_str ⟨rfl, ?_⟩)
            have e4 : PyData.eqv (.str x) (.str y) = false := by simpa [PyData.eqv] using hxy
            unfold ltD
            rw [dataLt_all_no (by rfl) e4, dataLt_str]
theorem firsts_fl {h : Heap} {k : Value → List PyData} : ∀ {vs : List Value}, (∀ v ∈ vs, IsFl h v (k v) ∧ ∃ a r, k v = .str a :: r) → ∃ fs : List Value, KatTups h vs fs ∧ fs.length = vs.length ∧ ∀ f ∈ fs, ∃ x t, f = Value.str x t
  | [], _ => ⟨[], KatTups.nil, rfl, fun _ hm => by simp at hm⟩
  | v :: vs, hp => by
    obtain ⟨fs, h1, h2, h3⟩ := firsts_fl (vs := vs) fun v' hm => hp v' (List.mem_cons_of_mem _ hm)
    obtain ⟨⟨a, o, its, n, e, ho, hc, hd, f⟩, x, r, ek⟩ := hp v (List.mem_cons_self ..)
    subst e
    rw [ek] at f
    cases ei : its.toList with
    | nil =>
      rw [ei] at f
      cases f
    | cons u us =>
      rw [ei] at f
      cases f with
      | cons g _ =>
        cases g with
        | str _ t =>
          refine ⟨.str x t :: fs, KatTups.cons ho hc hd ?_ h1, by rw [List.length_cons, List.length_cons, h2], fun f hm => ?_⟩
          · rw [← Array.getElem?_toList, ei]
            rfl
          · rcases List.mem_cons.mp hm with rfl | hm
            · exact ⟨x, t, rfl⟩
            · exact h3 f hm
theorem sorted_fl {l : Addr} {vs : List Value} {k : Value → List PyData} {Q : Value → Shared → Prop} (hl : s.heap.IsList l vs.toArray) (hz : vs.length ≤ sizeLine) (hp : ∀ v ∈ vs, IsFl s.heap v (k v)) (hc : ∀ v ∈ vs, ∀ u ∈ vs, Can (k v) (k u))
    (h : ∀ (h' : Heap) (d : Addr) (out : List Value), SrtO.Srtd (fun v u => ltD (k v) (k u)) out → SrtO.Stb (fun v u => ltD (k v) (k u)) out vs → (∀ b o, s.heap.get? b = some o → h'.get? b = some o) → s.heap.objs.size ≤ d → (∃ n, h'.get? d = some (seqObj "list" out.toArray n)) → Q (.ref d) { s with heap := h' }) :
    wpAny (model prog w) A (call (.builtin "sorted") [.ref l]) Q E s := by
  refine SrtO.sorted_ord (swo_ltD k) hl hz (fun h2 h1 a ha kk => ?_) fun out hs hb => ?_
  · intro h' keep
    have hne : ∀ o, h1.get? a = some o → o.cls ≠ .type "tuple" := fun o e => by
      have e' : some o = some (seqObj "list" vs.toArray 0) := e.symm.trans ha
      cases e'
      intro c
      exact absurd (Value.type.inj c) (by decide)
    have hp' : ∀ v ∈ vs, IsFl h' v (k v) := fun v hm => (hp v hm).keeps fun b o e c => keep b o (fun z => by subst z; exact hne o (kk b o e).2 c) (kk b o e).2
    obtain ⟨fs, f1, f2, f3⟩ := firsts_fl (vs := vs) (k := k) fun v hm => ⟨hp' v hm, by
      obtain ⟨x, r, _, _, e, _⟩ := hc v hm v hm
      exact ⟨x, r, e⟩⟩
    refine ⟨tuples' true, fun Q E hq => ?_, flat_cmp hp' hc⟩
    refine kat_kind (T := .type "str") f1 (by omega) (fun f hm => ?_) (by rfl) ?_
    · obtain ⟨x, t, rfl⟩ := f3 f hm
      exact Looks.now
    · have e : (Value.type "str" != Value.type "tuple") = true := by first | decide +kernel | rfl | decide
      rw [e]
      exact hq
  · exact h _ _ out hs hb (fun b o e => sortedAll_old e) (Nat.le_succ _) (sortedAll_at s.heap vs out.toArray)
end
def dV : PyData → V
  | .int i => .int i
  | .str x => .str x
  | _ => .non
def flatD : PyData → Bool
  | .int _ => true
  | .str _ => true
  | _ => false
theorem fvs_of : ∀ {ds : List PyData} {us : List Value}, ds.all flatD = true → Vals (ds.map dV) us → FVs ds us
  | [], _, _, .nil => .nil
  | d :: ds, _ :: us, h, .cons r rs => by
    rw [List.all_cons, Bool.and_eq_true] at h
    refine .cons ?_ (fvs_of h.2 rs)
    cases d with
    | int i =>
      obtain ⟨t, rfl⟩ := r
      exact .int i t
    | str x =>
      obtain ⟨t, rfl⟩ := r
      exact .str x t
    | _ => exact absurd h.1 (by simp [flatD])
def rSortedFl (K : PySem.W.Frag) : List V → Hp → VK → Prop := fun vs H Q => ∃ (a : Addr) (xs : List V) (k : V → List PyData), vs = [V.ref a] ∧ SqL K H a xs ∧ (∀ x ∈ xs, ∃ t, x = V.ref t ∧ (k x).all flatD = true ∧ H t = some (.tup ((k x).map dV))) ∧ (∀ x ∈ xs, ∀ y ∈ xs, Can (k x) (k y)) ∧
  ∀ ys p, SrtO.Srtd (fun x y => ltD (k x) (k y)) ys → SrtO.Stb (fun x y => ltD (k x) (k y)) ys xs → H p = none → Q (.ref p) (upd H p (.lst ys))
theorem cr_sortedFl {X : Cx} : CallR X (.builtin "sorted") (rSortedFl X.K) := by
  intro pins s σ H vs us Q I r h
  obtain ⟨a, xs, k, rfl, hs, hx, hcan, q⟩ := h
  obtain ⟨its, rv, hl, hz⟩ := I.list hs
  obtain ⟨u, rfl, ru⟩ := vals1 r
  obtain rfl : u = Value.ref a := ru
  obtain ⟨e1, e2⟩ := refs_back rv fun x m => by
    obtain ⟨t, e, _⟩ := hx x m
    exact ⟨t, e⟩
  refine sorted_fl (k := fun u => k (backV u)) hl.isList (by rw [← rv.length]; exact hz) (fun v hv => ?_) (fun v hv u hu => ?_) fun h' d out h1 h2 kp hd hn => ?_
  · obtain ⟨t, rfl⟩ := e2 v hv
    have hm : V.ref t ∈ xs := by rw [e1]; exact List.mem_map.mpr ⟨_, hv, rfl⟩
    obtain ⟨t', e, hf, ht⟩ := hx _ hm
    cases e
    obtain ⟨_, its2, r2, o, ho, hc, n, hd⟩ := I.hok _ _ ht
    exact ⟨t, o, its2.toArray, n, rfl, ho, hc, hd, by rw [List.toList_toArray]; exact fvs_of hf r2⟩
  · exact hcan _ (by rw [e1]; exact List.mem_map.mpr ⟨_, hv, rfl⟩) _ (by rw [e1]; exact List.mem_map.mpr ⟨_, hu, rfl⟩)
  · have h3 : ∀ u ∈ out, ∃ a, u = Value.ref a := fun u hu => e2 u (h2.perm.mem_iff.mp hu)
    obtain ⟨n, hn⟩ := hn
    have hb : SrtO.Stb (fun x y => ltD (k x) (k y)) (out.map backV) xs := by
      rw [e1]
      exact SrtO.Stb.map (swo_ltD k) backV h2
    refine ⟨.ref d, upd H d (.lst (out.map backV)), I.laid (t' := s.toks) kp hd ⟨?_, out, n, vals_back h3, hn⟩, rfl, q _ d (SrtO.srtd_map h1) hb (I.hok.fresh hd)⟩
    rw [hb.len]
    exact hz
end Fl

/-! ### for a, b in zip(text, tuple) -/
namespace Zs
open PySem PySem.Spec PyProof.Rows L2
def Itzs (K : PySem.W.Frag) (x : Str) (b : Addr) : It :=
  ⟨fun i H => ∃ (ys : List V) (c : Nat) (y : V), SqT K H b ys ∧ x.cps[i]? = some c ∧ ys[i]? = some y,
    fun i H v H' => ∃ T c y, v = .ref T ∧ H T = none ∧ H' = upd H T (.tup [.str ⟨#[c]⟩, y]) ∧ x.cps[i]? = some c ∧ ∀ ys, SqT K H b ys → ys[i]? = some y,
    fun i H => ∃ ys : List V, SqT K H b ys ∧ i ≤ x.cps.size ∧ i ≤ ys.length ∧ (i = x.cps.size ∨ i = ys.length)⟩
theorem turn_zs {P : Program} {w : World} {K : PySem.W.Frag} {elts : List Expr} {kk : Nat} {tpos : Pos} {x : Str} {t : Tok} {b z TI TO i1 i2 : Addr} (D : ZipSep2 z TI TO i1 i2 [i1] [i2, b]) (hne : b ≠ i2) :
    Turn P w K (.Tuple elts kk tpos) (Itzs K x b) [z, TI, TO, i1, i2] z (fun i h => IsZip h z TI TO .none ∧ IsTupOf2 h TI (.ref i1) (.ref i2) ∧ (∃ a1 a2, IsTupOf2 h TO a1 a2) ∧ h.IsStrIter i1 (strIterType x) x t i ∧ h.IsTupleIter i2 b i) where
  mem := List.mem_cons_self ..
  obj := fun i h st c hc => by
    obtain ⟨hz, hTI, ⟨a1, a2, hTO⟩, ⟨o1, e1, _, d1⟩, ⟨o2, e2, _, d2⟩⟩ := st
    have hc' : c = z ∨ c = TI ∨ c = TO ∨ c = i1 ∨ c = i2 := by simpa using hc
    rcases hc' with rfl | rfl | rfl | rfl | rfl
    · exact ⟨_, hz, fun v q => nomatch q⟩
    · exact ⟨_, hTI, fun v q => nomatch q⟩
    · exact ⟨_, hTO, fun v q => nomatch q⟩
    · exact ⟨o1, e1, fun v q => by rw [d1] at q; cases q⟩
    · exact ⟨o2, e2, fun v q => by rw [d2] at q; cases q⟩
  keep := fun i h h' st k => by
    obtain ⟨hz, hTI, ⟨a1, a2, hTO⟩, ⟨o1, e1, r1⟩, ⟨o2, e2, r2⟩⟩ := st
    exact ⟨k z (by simp) _ hz, k TI (by simp) _ hTI, ⟨a1, a2, k TO (by simp) _ hTO⟩, ⟨o1, k i1 (by simp) _ e1, r1⟩, ⟨o2, k i2 (by simp) _ e2, r2⟩⟩
  item := by
    intro X hP hw hK hc i pins s σ H E I hf st hg
    subst hP hw hK
    obtain ⟨hz, hTI, ⟨a1, a2, hTO⟩, h1, h2⟩ := st
    obtain ⟨ys, c0, y, hq, hx, hy⟩ := hg
    obtain ⟨its, rv, p, _⟩ := I.tuple hq
    have hi1 : i < x.cps.size := (Array.getElem?_eq_some_iff.mp hx).1
    have hi2 : i < its.toArray.size := by
      have := (List.getElem?_eq_some_iff.mp hy).1
      rw [rv.length] at this
      simpa using this
    have hzl : z < s.heap.objs.size := Heap.lt_size hz
    have D1 := Draws.text (prog := X.prog) (w := X.w) (A := X.A.in1) (I.ok.hd hc) i1 x t
    have D2 := Draws.tuple (prog := X.prog) (w := X.w) (A := X.A.in1) (I.ok.hd hc) i2 b hne its.toArray
    refine wpAny_pyNext_zipD2_item (A := X.A) D D1 D2 hz hTI hTO h1 ⟨h2, p⟩ hi1 hi2 fun x1 x2 h' tk hp1 hp2 z' TO' s1' s2' hT hsz hk => ?_
    obtain ⟨c1, u1, ec, rfl⟩ := hp1
    obtain rfl : c0 = c1 := Option.some.inj (hx.symm.trans ec)
    refine ⟨_, rfl, wpAny_letOwnedTupleGo_zip (s := { s with heap := h', toks := tk }) z' fun h'' z'' sb => ?_⟩
    have hT2 : h''.get? s.heap.objs.size = some { cls := .type "tuple", data := .seq #[.str ⟨#[c0]⟩ u1, x2] } := (sb.2 _ (Nat.ne_of_gt hzl)).trans hT
    obtain ⟨u2, hu2, ru2⟩ := rv.get hy
    have ex2 : x2 = u2 := by
      have e1 : its.toArray[i]? = some u2 := by simpa using hu2
      exact Option.some.inj (hp2.symm.trans e1)
    subst ex2
    have new : ObjOk X.prog X.w (upd H s.heap.objs.size (.tup [.str ⟨#[c0]⟩, y])) h'' s.heap.objs.size (.tup [.str ⟨#[c0]⟩, y]) :=
      ⟨by show 2 ≤ sizeLine; decide, [.str ⟨#[c0]⟩ u1, x2], .cons ⟨u1, rfl⟩ (.cons ru2 .nil), ⟨_, hT2, rfl, _, rfl⟩⟩
    have J : Inv X pins σ (upd H s.heap.objs.size (.tup [.str ⟨#[c0]⟩, y])) { s with heap := h'', toks := tk } :=
      I.turnedNew (t' := tk) (ch := [z, TI, TO, i1, i2]) (fun c o hb q => (sb.2 c (fun e => hb (by simp [e]))).trans (hk c o (fun e => hb (by simp [e])) (fun e => hb (by simp [e])) (fun e => hb (by simp [e])) (fun e => hb (by simp [e])) q)) hf (Nat.le_refl _) new
    refine ⟨.ref s.heap.objs.size, _, J, rfl, ⟨_, c0, y, rfl, I.hok.fresh (Nat.le_refl _), rfl, hx, fun l hl => by rw [I.tuple_inj hl hq]; exact hy⟩, ⟨z'', ?_, ⟨_, _, (sb.2 _ D.TOz).trans TO'⟩, ?_, ?_⟩, fun c hcm => ?_⟩
    · exact (sb.2 _ D.TIz).trans (hk _ _ D.TIz D.TITO D.TIi1 D.TIi2 hTI)
    · obtain ⟨o, e, r⟩ := s1'
      exact ⟨o, (sb.2 _ (fun q => D.zi1 q.symm)).trans e, r⟩
    · obtain ⟨⟨o, e, r⟩, _⟩ := s2'
      exact ⟨o, (sb.2 _ (fun q => D.zi2 q.symm)).trans e, r⟩
    · have hlt : c < s.heap.objs.size := by
        have hc' : c = z ∨ c = TI ∨ c = TO ∨ c = i1 ∨ c = i2 := by simpa using hcm
        rcases hc' with rfl | rfl | rfl | rfl | rfl
        · exact hzl
        · exact Heap.lt_size hTI
        · exact Heap.lt_size hTO
        · obtain ⟨_, e1, _⟩ := h1; exact Heap.lt_size e1
        · obtain ⟨_, e2, _⟩ := h2; exact Heap.lt_size e2
      rw [upd_ne (Nat.ne_of_lt hlt)]
      exact (hf c hcm).1
  done := by
    intro X hP hw hK hc i pins s σ H E I hf st hg
    subst hP hw hK
    obtain ⟨hz, hTI, ⟨a1, a2, hTO⟩, h1, h2⟩ := st
    obtain ⟨ys, hq, l1, l2, he⟩ := hg
    obtain ⟨its, rv, p, _⟩ := I.tuple hq
    have hl : its.toArray.size = ys.length := by rw [rv.length]; simp
    have D1 := Draws.text (prog := X.prog) (w := X.w) (A := X.A.in1) (I.ok.hd hc) i1 x t
    have D2 := Draws.tuple (prog := X.prog) (w := X.w) (A := X.A.in1) (I.ok.hd hc) i2 b hne its.toArray
    refine wpAny_pyNext_zipD2_end (A := X.A) D D1 D2 hz hTI hTO h1 ⟨h2, p⟩ l1 (by omega) (by omega) fun h' tk hk => ⟨rfl, ?_⟩
    exact I.turnedL (t' := tk) (ch := [z, TI, TO, i1, i2]) (fun c o hb q => hk c o (fun e => hb (by simp [e])) (fun e => hb (by simp [e])) (fun e => hb (by simp [e])) (fun e => hb (by simp [e])) q) hf
  self := fun A i s Q E st h => wpAny_pyIter_zip st.1 h
def iZs (K : PySem.W.Frag) (ta : TA) : TI := fun σ H R => ta σ H fun vs H1 => ∃ x b ys, vs = [.str x, .ref b] ∧ SqT K H1 b ys ∧ R (Itzs K x b) H1
theorem pi_zs {X : Cx} {e e2 : Expr} {ta : TA} {p pos tpos : Pos} {elts : List Expr} {kk : Nat} (hg : Gl X "zip") (hm : X.mg "zip" = none) (ha : PA X [e, e2] ta)
    (hs : starEach [e, e2] X.env = (false, eval e X.env) :: starEach [e2] X.env := by rfl) (hpl : (backTo pos (starEach [e2] X.env)).any (·.1) = false := by rfl) :
    PI X (.Tuple elts kk tpos) (.Call (.Name "zip" p) [e, e2] [] pos) (iZs X.K ta) := by
  refine ⟨fun pins s σ H R I h => ?_⟩
  refine Call_ (ld_blt I hg hm PyProof.Rows.boot_zip (PyProof.Rows.callWith_type1 (thn (ha.run pos pins s σ H _ I h) fun us s1 hh => ?_) hs hpl))
  obtain ⟨vs, H1, J, r1, x, b, ys, ex, hq, q⟩ := hh
  subst ex
  cases r1 with
  | cons r rr =>
    cases rr with
    | cons r' rr =>
      cases rr
      obtain ⟨t, rfl⟩ := r
      cases r'
      obtain ⟨its, rv, p1, _⟩ := J.tuple hq
      obtain ⟨ob, hob, _⟩ := id p1
      have hb : b < s1.heap.objs.size := Heap.lt_size hob
      refine zip_begins2 (begins_text x t) (begins_tuple b its.toArray) trivial (show s1.heap.IsTuple b its.toArray from p1) fun h' hz hTI hTO h1 h2 hsz hk => wpAny_pyIter_zip hz ?_
      have J2 : Inv X pins σ H1 { s1 with heap := h' } := J.kept (t' := s1.toks) hk
      refine ⟨s1.heap.objs.size + 4, [s1.heap.objs.size + 4, s1.heap.objs.size + 2, s1.heap.objs.size + 3, s1.heap.objs.size, s1.heap.objs.size + 1], _, _, H1, rfl, J2, turn_zs (t := t) (zip_sep2 (N := s1.heap.objs.size) (fp1 := []) (fp2 := [b]) (fun _ m => nomatch m) (fun c m => by rw [List.mem_singleton.mp m]; exact hb)) (Nat.ne_of_lt (Nat.lt_succ_of_lt hb)), ⟨hz, hTI, ⟨_, _, hTO⟩, ⟨_, h1, rfl, rfl⟩, ⟨_, h2, rfl, rfl⟩⟩, fun c hcm => ?_, q⟩
      have hle : s1.heap.objs.size ≤ c := by
        have hc' : c = s1.heap.objs.size + 4 ∨ c = s1.heap.objs.size + 2 ∨ c = s1.heap.objs.size + 3 ∨ c = s1.heap.objs.size ∨ c = s1.heap.objs.size + 1 := by simpa using hcm
        rcases hc' with rfl | rfl | rfl | rfl | rfl
        · exact Nat.le_add_right _ _
        · exact Nat.le_add_right _ _
        · exact Nat.le_add_right _ _
        · exact Nat.le_refl _
        · exact Nat.le_add_right _ _
      exact J.fpOk hle (J.hok.fresh hle)
theorem walk_zs {K : PySem.W.Frag} {x : Str} {b : Addr} {ys : List V} (hl : x.cps.size = ys.length) : Walk (Itzs K x b) ys.length (fun H => SqT K H b ys) (fun i H v H' => ∃ T c y, v = .ref T ∧ H T = none ∧ H' = upd H T (.tup [.str ⟨#[c]⟩, y]) ∧ x.cps[i]? = some c ∧ ys[i]? = some y) := by
  refine ⟨fun i H hi q => ?_, fun H q => ⟨ys, q, by omega, Nat.le_refl _, .inr rfl⟩, fun i H v H' hi q y => ?_⟩
  · exact ⟨ys, x.cps[i], ys[i], q, by simp [hl, hi], by simp [hi]⟩
  · obtain ⟨T, c, z, h1, h2, h3, h4, h5⟩ := y
    exact ⟨T, c, z, h1, h2, h3, h4, h5 ys q⟩
end Zs

/-! ### a law's own call, with what is known of the stack where it stands: nothing under way -/
namespace Gd
open PySem PySem.Spec PyProof.Rows L2
/-! what a def does when it is called from there -/
def RunAt (P : Program) (w : World) (K : PySem.W.Frag) (mg : Str → Option Value) (base : Heap) (B : Around) (f : Addr) (fd : FuncData) (ps : List Str) (sp : Sp) : Prop :=
  ∀ (s : Shared) (H : Hp) (us : List Value) (vs : List V) (Q : VK) (E : XK), Env0 P w K mg base B [] s H → BindsTo s fd ⟨us, []⟩ (ps.zip us) → Vals vs us → sp vs H Q E → codeAny (model P w) B (.call (.ref f) ⟨us, []⟩) (CR CX0 [] P w H s Q E) s
theorem run_at {P : Program} {w : World} {K : PySem.W.Frag} {mg : Str → Option Value} {base : Heap} {B : Around} {k : Nat} {x qual : Str} {st : Stmt} {f : Addr} {fd : FuncData} {N ps : List Str} {sp : Sp} (F : Fun K x qual st f fd) (S : FnScope N ps (defScope st)) (hr : Room (k + 1) B)
    (len : ∀ vs H Q E, sp vs H Q E → vs.length = ps.length)
    (body : ∀ (cdv : Value) (s : Shared) (H : Hp) (vs : List V) (Q : VK) (E : XK), sp vs H Q E →
      ∃ t, PSs (cxOf CX0 P w K mg base N qual (defScope st) f cdv B [] s H E).nox (defBody st) t ∧ t { nx := fun _ H' => Q .non H', rt := Q } (start N vs) H) : RunAt P w K mg base B f fd ps sp := by
  obtain ⟨oc, od, kV, doc, pm, an, cdv, ct, osl, rfl, look, hcode⟩ := F.ex
  intro s H us vs Q E env hbind rel hsp
  have there : ∀ b o, base.get? b = some o → s.heap.get? b = some o := fun b o e => (env.bs b o e).1
  have hlen := len _ _ _ _ hsp
  have kind : ∀ y ∈ ps.zip us, (defScope st).names.lookup y.1 = some .local ∨ ((defScope st).names.lookup y.1 = some .cell ∧ ((cellsFrom (s.heap.objs.size + 1) (defScope st).names []).lookup y.1).isSome = true) := by
    rintro ⟨n, v⟩ hy
    have hn := (List.of_mem_zip hy).1
    exact (S.par n hn).imp id fun q => ⟨q, PySem.W.cellsFrom_some _ _ _ (.inl q)⟩
  have KX := env.mod.kin.keeps there
  refine codeAny_call_function hr.depth (KX _ _ look) rfl S.co S.gen rfl (PySem.W.codeRec_of KX hcode) (hbind _ _ _ _ (wpAny_newFunctionEnv_cells S.kind kind fun ev hev s1 inc => ?_))
  subst hev
  refine ⟨(env.mod.nolimit.keeps there).keeps inc.toInCall.keep, codeAny_func ?_⟩
  obtain ⟨t, ht, hq⟩ := body cdv s H vs Q E hsp
  have J := inv_start (CX := CX0) (E := E) S hr.hd env hlen rel inc
  refine wpAny_mono (ht.nox.run [] s1 (start N vs) H _ J hq) (fun fl s2 h => ?_) fun _ _ h => h
  cases fl with
  | next =>
    obtain ⟨σ', H', J', q⟩ := h
    exact ⟨.non, H', J'.os, J'.bare, J'.base, J'.hok, rfl, q⟩
  | ret u =>
    obtain ⟨v, σ', H', J', rv, q⟩ := h
    exact ⟨v, H', J'.os, J'.bare, J'.base, J'.hok, rv, q⟩
  | brk => exact h.elim fun _ h => h.elim fun _ h => h.2.elim
  | cont => exact h.elim fun _ h => h.elim fun _ h => h.2.elim
/-! the script's list, tracked where it is no object of the text -/
theorem script_hp {P : Program} {w : World} {K : PySem.W.Frag} {s1 : Shared} {a : Addr} {vs : List Value} {ns : List Int} (KX : K.In s1.heap) (ha : s1.heap.get? a = some { cls := .type "list", data := .seq vs.toArray }) (hi : IntsAre vs ns) (hl : ns.length ≤ sizeLine) :
    ∃ H : Hp, Only H ∧ SqL K H a (ns.map V.int) ∧ HOk P w H s1.heap ∧ (∀ b u, H b = some u → b = a ∧ K.lookup a = none) := by
  have rel := vals_ints hi
  by_cases hk : K.lookup a = none
  · let ob : Obj := { cls := .type "list", data := .seq vs.toArray }
    have one : ∀ {b : Addr} {u : HO}, (if b = a then some (HO.frz ob (.lst (ns.map V.int))) else none) = some u → b = a ∧ u = .frz ob (.lst (ns.map V.int)) := fun {b u} z => by
      by_cases hb : b = a
      · rw [if_pos hb] at z
        exact ⟨hb, (Option.some.inj z).symm⟩
      · rw [if_neg hb] at z
        cases z
    refine ⟨fun b => if b = a then some (.frz ob (.lst (ns.map V.int))) else none, fun b => ?_, .inl (.inr ⟨ob, if_pos rfl⟩), fun b u z => ?_, fun b u z => ⟨(one z).1, hk⟩⟩
    · by_cases hb : b = a
      · exact .inr ⟨ob, _, if_pos hb⟩
      · exact .inl (if_neg hb)
    · obtain ⟨rfl, rfl⟩ := one z
      exact ⟨ha, by rw [List.length_map]; exact hl, vs, _, rel, ha⟩
  · obtain ⟨o, ho⟩ := Option.ne_none_iff_exists'.mp hk
    have eo : o = { cls := .type "list", data := .seq vs.toArray } := Option.some.inj ((KX a o ho).symm.trans ha)
    subst eo
    refine ⟨fun _ => none, fun _ => .inl rfl, .inr ⟨_, vs.toArray, _, ho, rfl, rfl, rfl, ?_, by simpa using rel⟩, (fun b u z => by cases z), (fun b u z => by cases z)⟩
    rw [List.size_toArray, hi.length]
    exact hl
theorem call_at {P : Program} {w : World} {K : PySem.W.Frag} {mg mb : Str → Option Value} {fa a : Addr} {fd : FuncData} {x : Str} {sp : Sp} {s1 : Shared} {vs : List Value} {ns : List Int}
    (KX : K.In s1.heap) (hns : s1.heap.Ns mainGlobals mg) (hb : s1.heap.Ns builtinsNs mb) (hbb : ∀ y : Str, y ≠ "__name__" → mb y = bootBuiltins y) (hlim : s1.heap.NoLimit) (hg : s1.gens = #[])
    (ha : s1.heap.get? a = some { cls := .type "list", data := .seq vs.toArray }) (hi : IntsAre vs ns) (hl : ns.length ≤ sizeLine)
    (F : ∀ base : Heap, K.In base → base.Ns mainGlobals mg → RunAt P w K mg base callerA fa fd [x] sp) (hbind : ∀ (s : Shared) (u : Value), BindsTo s fd ⟨[u], []⟩ [(x, u)])
    (hsp : ∀ H : Hp, Only H → SqL K H a (ns.map V.int) → sp [.ref a] H (fun v _ => v = .bl true) fun _ _ _ => False) :
    codeAny (model P w) callerA (.call (.ref fa) ⟨[.ref a], []⟩) (fun r s' => r = .ok (.ret (.bool true)) ∧ OldK s1.heap s'.heap ∧ s'.os = s1.os ∧ AllBare s'.gens) s1 := by
  obtain ⟨H, hO, hS, hok, hA⟩ := script_hp (P := P) (w := w) KX ha hi hl
  have untr : ∀ {b : Addr} {o : Obj} {es : Array DictEntry} {ep : Nat}, s1.heap.get? b = some o → o.data = .dict es ep → H b = none := fun {b o es ep} e d => by
    cases q : H b with
    | none => rfl
    | some u =>
      obtain ⟨rfl, _⟩ := hA b u q
      rw [ha] at e
      obtain rfl := Option.some.inj e
      cases d
  have nsB : ∀ {b : Addr} {m : Str → Option Value}, s1.heap.Ns b m → (hidT s1.heap H).Ns b m := fun {b m} ⟨o, es, ep, e, d, r⟩ => ⟨o, es, ep, hidT_get e (untr e d), d, r⟩
  have KB : K.In (hidT s1.heap H) := fun b o e => hidT_get (KX b o e) (by
    cases q : H b with
    | none => rfl
    | some u =>
      obtain ⟨rfl, hk⟩ := hA b u q
      rw [hk] at e
      cases e)
  obtain ⟨mc, c1, c2⟩ := hlim
  have env : Env0 P w K mg (hidT s1.heap H) callerA [] s1 H := { frames := rfl, mod := ⟨KB, nsB hns, ⟨mb, nsB hb, hbb⟩, ⟨mc, nsB c1, c2⟩⟩, bs := fun b o e => of_hidT e, bsz := Nat.le_of_eq (hidT_size _ _), funs := trivial, frf := fun b m => absurd m List.not_mem_nil, hok := hok, bare := .of_eq hg }
  refine codeAny_mono (F _ KB (nsB hns) s1 H [.ref a] [.ref a] _ _ env (hbind s1 (.ref a)) (.cons rfl .nil) (hsp H hO hS)) fun r s2 h => ?_
  match r, h with
  | .ok (.ret u), h =>
    obtain ⟨v, H2, os, bare, un, hok2, rv, q⟩ := h
    obtain rfl : v = .bl true := q
    obtain rfl : u = Value.bool true := rv
    refine ⟨rfl, OldK.of_keep fun b o e => ?_, os, bare⟩
    rcases hO b with z | ⟨ob, ys, z⟩
    · exact un.keep b o e z (fun m => absurd m List.not_mem_nil) (fun m => absurd m List.not_mem_nil)
    · have k1 := (hok b _ z).1
      have k2 := (hok2 b _ (un.frzs b ob _ z)).1
      rw [e] at k1
      exact k2.trans k1.symm
theorem walk_at {l : PySem.W.OpenLaw} {n : Nat} {q : Program} {loose : List Str} {XP : (Str → Option Value) → Heap → Prop} {YP : World → Heap → Prop} {d : DefRec} {K : Params → PySem.W.Frag} {sp : World → Sp} {x : Str}
    (hn : l.most = some n) (hn2 : n ≤ sizeLine) (hdf : d.params.defaults = []) (hY : ∀ (w : World) (h : Heap), YP w h → (K w.params).In h)
    (F : ∀ (w : World) (mg : Str → Option Value) (fa : Addr) (h : Heap), (K w.params).In h → h.Ns mainGlobals mg → mg d.name = some (.ref fa) →
      ∃ fd : FuncData, (∀ (s : Shared) (u : Value), BindsTo s fd ⟨[u], []⟩ [(x, u)]) ∧ ∀ base : Heap, (K w.params).In base → base.Ns mainGlobals mg → RunAt l.prog w (K w.params) mg base callerA fa fd [x] (sp w))
    (hsp : ∀ (w : World) (H : Hp) (a : Addr) (ns : List Int), ns.length ≤ n → Only H → SqL (K w.params) H a (ns.map V.int) → sp w [.ref a] H (fun v _ => v = .bl true) fun _ _ _ => False) :
    PySem.W.WalkO q loose XP YP l.row.toRowW d [] (fun f vs => PySem.call f vs) := by
  refine Att.attach_call hn hdf fun w s0 s1 mg mb fa o pm cd doc a vs ns G Y ho hd hcd hmg hobj hints hlen hg => ?_
  have KX := hY w _ Y
  obtain ⟨fd, hb, hF⟩ := F w mg fa _ KX G.T.g hmg
  exact call_at KX G.T.g G.T.b G.T.builtins G.T.nolimit hg hobj hints (Nat.le_trans hlen hn2) hF hb fun H hO hS => hsp w H a ns hlen hO hS
/-! repr of data, where nothing is under way -/
def rRepr (K : PySem.W.Frag) : List V → Hp → VK → Prop := fun xs H Q => ∃ (v : V) (d : PyData), xs = [v] ∧ Dp K H v d ∧ d.showable = true ∧ d.canLay0 = true ∧ d.depth ≤ 60 ∧ d.shown.length ≤ sizeLine ∧ Q (.str d.shown) H
theorem call_reprD {X : Cx} (hg : X.A.guards = some []) (hu : X.A.units + 65 < cLine) : CallR X (.builtin "repr") (rRepr X.K) := by
  intro pins s σ H xs us Q I r h
  obtain ⟨v, d, rfl, hd, hs, hc, hdep, hl, q⟩ := h
  obtain ⟨u, rfl, ru⟩ := vals1 r
  have big : ∀ {a : Addr} {as : List Addr}, Reads s.heap (.ref a) d as → wpAny (model X.prog X.w) X.A (call (.builtin "repr") [.ref a]) (EP X pins σ Q) X.xe s := fun {a as} rd =>
    repr_of_reads' rd hs (fun z => absurd (z.symm.trans (PyData.hasDict_of_canLay d hc)) (by decide)) hg (by omega) (fun _ _ e => e) (fun h' u tk k => ⟨.str d.shown, H, I.kept (t' := tk) k, ⟨u, rfl⟩, q⟩) hl
  cases hd with
  | non =>
    obtain rfl : u = .none := ru
    exact PySem.P.repr_of_none ⟨.str _, H, I.tok _, ⟨_, rfl⟩, q⟩
  | bl b =>
    obtain rfl : u = .bool b := ru
    exact PySem.P.repr_of_bool ⟨.str _, H, I.tok _, ⟨_, rfl⟩, q⟩
  | int i =>
    obtain ⟨t, rfl⟩ := ru
    exact PySem.P.repr_of_int (of_decide_eq_true hs) ⟨.str _, H, I.tok _, ⟨_, rfl⟩, q⟩
  | str x =>
    obtain ⟨t, rfl⟩ := ru
    exact PySem.P.repr_of_str ⟨.str _, H, I.tok _, ⟨_, rfl⟩, q⟩ hl
  | lst h1 h2 =>
    obtain rfl : u = .ref _ := ru
    obtain ⟨as, rd⟩ := Dp.reads I _ _ _ (.lst h1 h2) rfl
    exact big rd
  | tup h1 h2 =>
    obtain rfl : u = .ref _ := ru
    obtain ⟨as, rd⟩ := Dp.reads I _ _ _ (.tup h1 h2) rfl
    exact big rd
end Gd

section
variable {P : Program} {w : World} {K : PySem.W.Frag} {mg : Str → Option Value} {base : Heap} {af : Nat → Addr} {fd : Nat → FuncData}
/-! ### spread -/
def sp_l_spread : Sp := fun vs H Q _ => ∃ (c a : Int), vs = [.int c, .int a] ∧ 0 ≤ a ∧ ∀ r : Int, 0 ≤ r → Q (.int r) H
theorem ok_l_spread (T : Txt K mg af fd) : FnOk P w K mg base CX0 1 (af 9) (fd 9) ["cell", "at"] sp_l_spread := by
  refine T.F_l_spread.ok sc_l_spread (fun vs H Q E h => ?_) (fun cdv A outer s H vs Q E hr h => ?_)
  · obtain ⟨c, a, rfl, _⟩ := h
    rfl
  · obtain ⟨c, a, rfl, ha, q⟩ := h
    refine ⟨_, (pss_cons (ps_if (pt_cmpR op_ge (pv 0) (pe_op op_pow pe_int pe_int) (nomark _)) (pss_one (ps_ret (pv 0))) pss_nil)
        (pss_cons (ps_set (i := 2) sc_l_spread.nd rfl (by first | exact Or.inl rfl | exact Or.inr rfl) (pe_op op_mod (pe_op op_add (pe_op op_add (pe_op op_mul (pe_op op_mod (pv 0) pe_int) pe_int) (pe_op op_mul (pv 1) pe_int)) pe_int) pe_int))
        (pss_cons (ps_set (i := 3) sc_l_spread.nd rfl (by first | exact Or.inl rfl | exact Or.inr rfl) (pe_op op_mod (pe_op op_add (pe_op op_add (pe_op op_mul (pv 2) (pv 2)) (pe_op op_mul (pv 1) pe_int)) (pe_op op_mod (pv 0) pe_int)) pe_int))
        (pss_cons (ps_set (i := 4) sc_l_spread.nd rfl (by first | exact Or.inl rfl | exact Or.inr rfl) (pe_op op_mod (pe_op op_add (pe_op op_add (pe_op op_mul (pv 3) (pv 3)) (pe_op op_mul (pv 2) pe_int)) pe_int) pe_int))
        (pss_one (ps_ret (pe_op op_add (pe_op op_mul (pe_op op_add (pe_op op_mul (pv 2) pe_int) (pv 3)) pe_int) (pv 4)))))))), ?_⟩
    refine ⟨_, rfl, 10, 18, rfl, rfl, ⟨by decide, by decide, by decide⟩, _, _, rfl, rfl, _, rfl, ite2 (fun e => ?_) (fun e => ?_)⟩
    · refine ⟨_, rfl, q c ?_⟩
      have e1 := of_decide_eq_true e
      exact Int.le_trans (by decide) e1
    · refine ⟨_, rfl, _, _, rfl, rfl, (by show (0 : Int) < 1000000007; decide), _, _, rfl, rfl, .inr ⟨by decide, by decide⟩, _, rfl, _, _, rfl, rfl, .inr ⟨by decide, by decide⟩, _, _, rfl, rfl, _, _, rfl, rfl, _, _, rfl, rfl, (by show (0 : Int) < 2147483629; decide), ?_⟩
      have b1 : ∀ x : Int, 0 ≤ x % 2147483629 ∧ x % 2147483629 < 2147483629 := fun x => ⟨Int.emod_nonneg _ (by decide), Int.emod_lt_of_pos _ (by decide)⟩
      generalize hx : (c % 1000000007 * 69069 + a * 40503 + 977) % 2147483629 = one
      have o1 : 0 ≤ one ∧ one < 2147483629 := by rw [← hx]; exact b1 _
      refine ⟨_, rfl, _, rfl, _, _, rfl, rfl, .inl ⟨by omega, by omega⟩, _, rfl, _, _, rfl, rfl, .inr ⟨by decide, by decide⟩, _, _, rfl, rfl, _, rfl, _, _, rfl, rfl, (by show (0 : Int) < 65537; decide), _, _, rfl, rfl, _, _, rfl, rfl, (by show (0 : Int) < 2147483587; decide), ?_⟩
      have b2 : ∀ x : Int, 0 ≤ x % 2147483587 ∧ x % 2147483587 < 2147483587 := fun x => ⟨Int.emod_nonneg _ (by decide), Int.emod_lt_of_pos _ (by decide)⟩
      generalize hy : (one * one + a * 7919 + c % 65537) % 2147483587 = two
      have o2 : 0 ≤ two ∧ two < 2147483587 := by rw [← hy]; exact b2 _
      refine ⟨_, rfl, _, rfl, _, _, rfl, rfl, .inl ⟨by omega, by omega⟩, _, rfl, _, _, rfl, rfl, .inr ⟨by decide, by decide⟩, _, _, rfl, rfl, _, _, rfl, rfl, _, _, rfl, rfl, (by show (0 : Int) < 2147483563; decide), ?_⟩
      have b3 : ∀ x : Int, 0 ≤ x % 2147483563 := fun x => Int.emod_nonneg _ (by decide)
      generalize hz : (two * two + one * 31 + 5) % 2147483563 = three
      have o3 : 0 ≤ three := by rw [← hz]; exact b3 _
      refine ⟨_, rfl, _, _, rfl, rfl, .inr ⟨by decide, by decide⟩, _, rfl, _, _, rfl, rfl, _, _, rfl, rfl, .inr ⟨by decide, by decide⟩, _, rfl, _, _, rfl, rfl, q _ ?_⟩
      omega
/-! ### take -/
def sp_l_take : Sp := fun vs H Q _ => ∃ (p c : Addr) (many : Int), vs = [.ref p, .int many] ∧ Pen H p c ∧ 0 < many ∧ many.natAbs < 2 ^ 100 ∧ ∀ (r : Int) (H' : Hp), 0 ≤ r → r < many → Stp p c H H' → Q (.int r) H'
theorem ok_l_take (T : Txt K mg af fd) : FnOk P w K mg base CX0 2 (af 12) (fd 12) ["pen", "many"] sp_l_take := by
  refine T.F_l_take.ok sc_l_take (fun vs H Q E h => ?_) (fun cdv A outer s H vs Q E hr h => ?_)
  · obtain ⟨p, c, many, rfl, _⟩ := h
    rfl
  · obtain ⟨p, c, many, rfl, hP, m0, m1, q⟩ := h
    have hpc := hP.ne
    obtain ⟨cs, n, st, h1, h2, h3, h4⟩ := hP
    refine ⟨_, (C8.pss_cut (ps_if (pt_cmpR op_lt (pe_ix ix_list (pv 0) pe_int (fun _ _ => rfl)) (pv 1) (nomark _)) (pss_cons (ps_set (i := 2) sc_l_take.nd rfl (by first | exact Or.inl rfl | exact Or.inr rfl) (pe_ix ix_list (pv 0) pe_int (fun _ _ => rfl)))
        (pss_cons (ps_set (i := 3) sc_l_take.nd rfl (by first | exact Or.inl rfl | exact Or.inr rfl) pe_int)
        (C8.pss_cut (ps_if (pt_cmpR op_lt (pv 2) (pe_callB call_len_seq (by rfl) T.m_len (by decide +kernel) (pa_cons (pe_ix ix_list (pv 0) pe_int (fun _ _ => rfl)) pa_nil)) (nomark _)) (pss_one (ps_set (i := 3) sc_l_take.nd rfl (by first | exact Or.inl rfl | exact Or.inr rfl) (pe_ix ix_list (pe_ix ix_list (pv 0) pe_int (fun _ _ => rfl)) (pv 2) (fun _ _ => rfl)))) (pss_one (ps_if (pt_cmpR op_gt (pe_callB call_len_seq (by rfl) T.m_len (by decide +kernel) (pa_cons (pe_ix ix_list (pv 0) pe_int (fun _ _ => rfl)) pa_nil)) pe_int (nomark _)) (pss_one (ps_set (i := 3) sc_l_take.nd rfl (by first | exact Or.inl rfl | exact Or.inr rfl) (pe_op op_mod (pe_ix ix_list (pe_ix ix_list (pv 0) pe_int (fun _ _ => rfl)) (pe_op op_mod (pe_op op_add (pe_op op_mul (pv 2) pe_int) pe_int) (pe_callB call_len_seq (by rfl) T.m_len (by decide +kernel) (pa_cons (pe_ix ix_list (pv 0) pe_int (fun _ _ => rfl)) pa_nil))) (fun _ _ => rfl)) (pe_op op_add (pe_op op_pow pe_int pe_int) (pv 2))))) pss_nil)))
        (pss_cons (ps_asg (pe_op op_add (pv 2) pe_int) (pg_sub (pv 0) pe_int set_list))
        (pss_one (ps_asg (pe_call (ok_l_spread T) (hr.mono (by decide)) (by rfl) T.g_l_spread T.F_l_spread.kp T.b_l_spread .nil pass0 (pa_cons (pv 3) (pa_cons (pv 2) pa_nil))) (pg_sub (pv 0) pe_int set_list))))))) pss_nil)
        (pss_cons (ps_set (i := 4) sc_l_take.nd rfl (by first | exact Or.inl rfl | exact Or.inr rfl) (pe_op op_mod (pe_ix ix_list (pv 0) pe_int (fun _ _ => rfl)) (pv 1)))
        (pss_cons (ps_asg (pe_op op_fdivW (pe_ix ix_list (pv 0) pe_int (fun _ _ => rfl)) (pv 1)) (pg_sub (pv 0) pe_int set_list))
        (pss_one (ps_ret (pv 4)))))), ?_⟩
    refine ⟨fun σ' H' => ∃ (n' st' : Int) (v1 v2 : Option V), 0 ≤ n' ∧ 0 ≤ st' ∧ σ' = [some (.ref p), some (.int many), v1, v2, none] ∧ H' = upd H p (.lst [.ref c, .int n', .int st']), ?_, ?_⟩
    · refine ⟨_, rfl, p, _, 2, _, rfl, rfl, SqL.of h1, rfl, _, rfl, _, _, rfl, rfl, _, rfl, ite2 (fun e => ?_) (fun e => ?_)⟩
      · refine ⟨_, rfl, p, _, 1, _, rfl, rfl, SqL.of h1, rfl, ?_⟩
        refine ⟨fun σ' H' => ∃ (x : Int), σ' = [some (.ref p), some (.int many), some (.int n), some (.int x), none] ∧ H' = H, ?_, ?_⟩
        · refine ⟨_, rfl, _, rfl, p, _, 0, _, rfl, rfl, SqL.of h1, rfl, c, _, rfl, .inl (SqL.of h2), _, _, rfl, rfl, _, rfl, ite2 (fun e2 => ?_) (fun e2 => ?_)⟩
          · have e3 := of_decide_eq_true e2
            rw [List.length_map] at e3
            have hlt : n.toNat < cs.length := by omega
            refine ⟨_, rfl, p, _, 0, _, rfl, rfl, SqL.of h1, rfl, _, rfl, c, _, n, .int cs[n.toNat], rfl, rfl, SqL.of h2, at_of (j := n.toNat) (by omega) ?_, ⟨_, rfl, rfl⟩⟩
            rw [List.getElem?_map, List.getElem?_eq_getElem hlt]
            rfl
          · refine ⟨_, rfl, p, _, 0, _, rfl, rfl, SqL.of h1, rfl, c, _, rfl, .inl (SqL.of h2), _, _, rfl, rfl, _, rfl, ite2 (fun e3 => ?_) (fun e3 => ?_)⟩
            · have e4 := of_decide_eq_true e3
              have hl : (0 : Int) < (cs.map V.int).length := e4
              have hr0 := Int.emod_nonneg (n * 5 + 3) (show ((cs.map V.int).length : Int) ≠ 0 by omega)
              have hr1 := Int.emod_lt_of_pos (n * 5 + 3) hl
              have hlt : ((n * 5 + 3) % ((cs.map V.int).length : Int)).toNat < cs.length := by
                rw [List.length_map] at hr1 hr0 ⊢
                omega
              refine ⟨_, rfl, p, _, 0, _, rfl, rfl, SqL.of h1, rfl, _, rfl, _, _, rfl, rfl, .inr ⟨by decide, by decide⟩, _, _, rfl, rfl, _, rfl, p, _, 0, _, rfl, rfl, SqL.of h1, rfl, c, _, rfl, .inl (SqL.of h2), _, _, rfl, rfl, hl, c, _, _, .int cs[((n * 5 + 3) % ((cs.map V.int).length : Int)).toNat], rfl, rfl, SqL.of h2, at_of (j := ((n * 5 + 3) % ((cs.map V.int).length : Int)).toNat) (by omega) ?_, 10, 17, rfl, rfl, ⟨by decide, by decide, by decide⟩, _, rfl, _, _, rfl, rfl, _, _, rfl, rfl, ?_, ⟨_, rfl, rfl⟩⟩
              · rw [List.getElem?_map, List.getElem?_eq_getElem hlt]
                rfl
              · show (0 : Int) < 10 ^ (17 : Int).toNat + n
                have : (0 : Int) < 10 ^ (17 : Int).toNat := by decide
                omega
            · exact ⟨_, rfl, rfl⟩
        · rintro σ' H' ⟨x, rfl, rfl⟩
          refine ⟨_, rfl, _, _, rfl, rfl, _, rfl, p, _, 1, 1, rfl, rfl, h1, rfl, ?_⟩
          refine ⟨_, rfl, _, rfl, x, n, rfl, h3, fun r hr => ?_⟩
          refine ⟨_, rfl, p, _, 2, 2, rfl, rfl, upd_same, rfl, ?_⟩
          refine ⟨n + 1, r, _, _, by omega, hr, rfl, ?_⟩
          rw [upd_upd]
          rfl
      · refine ⟨n, st, none, none, h3, h4, rfl, ?_⟩
        funext b
        by_cases hb : b = p
        · subst hb
          rw [upd_same]
          exact h1
        · rw [upd_ne hb]
    · rintro σ' H' ⟨n', st', v1, v2, hn, hs, rfl, rfl⟩
      refine ⟨_, rfl, p, _, 2, _, rfl, rfl, SqL.of upd_same, rfl, _, rfl, _, _, rfl, rfl, m0, ?_⟩
      refine ⟨_, rfl, p, _, 2, _, rfl, rfl, SqL.of upd_same, rfl, _, rfl, _, _, rfl, rfl, wide_div m0 m1 (by decide) (by decide), _, rfl, p, _, 2, 2, rfl, rfl, upd_same, rfl, ?_⟩
      refine ⟨_, rfl, q _ _ (Int.emod_nonneg _ (by omega)) (Int.emod_lt_of_pos _ m0) ⟨⟨cs, n', st' / many, ?_, ?_, hn, Int.ediv_nonneg hs (by omega)⟩, fun b o hb e => ?_⟩⟩
      · rw [upd_same]
        rfl
      · rw [upd_ne hpc, upd_ne hpc]
        exact h2
      · rw [upd_ne hb, upd_ne hb]
        exact e
/-! ### open -/
def sp_l_open (K : PySem.W.Frag) : Sp := fun vs H Q _ => ∃ (a : Addr) (ns : List Int), vs = [.ref a] ∧ SqL K H a (ns.map V.int) ∧ ns.length ≤ 63 ∧ ∀ (p c : Addr) (H' : Hp), Same H H' → H p = none → H c = none → Pen H' p c → Q (.ref p) H'
theorem ok_l_open (T : Txt K mg af fd) : FnOk P w K mg base CX0 1 (af 10) (fd 10) ["script"] (sp_l_open K) := by
  refine T.F_l_open.ok sc_l_open (fun vs H Q E h => ?_) (fun cdv A outer s H vs Q E hr h => ?_)
  · obtain ⟨a, ns, rfl, _⟩ := h
    rfl
  · obtain ⟨a, ns, rfl, hS, hlen, q⟩ := h
    refine ⟨_, (pss_cons (ps_set (i := 1) sc_l_open.nd rfl (by first | exact Or.inl rfl | exact Or.inr rfl) (pe_callTy call_list_of (by rfl) T.m_list (by decide +kernel) (pa_cons (pe_slice sl_list (pv 0) po_none (po_some pe_int)) pa_nil)))
        (pss_cons (ps_for PassesOwn.never rfl (pi_enum (by rfl) T.m_enumerate (pa_cons (pe_slice sl_list (pv 0) (po_some pe_int) (po_some pe_int)) pa_nil)) (pg_tup rfl (pgs_cons (pg_name (i := 2) sc_l_open.nd rfl (by first | exact Or.inl rfl | exact Or.inr rfl)) (pgs_cons (pg_name (i := 3) sc_l_open.nd rfl (by first | exact Or.inl rfl | exact Or.inr rfl)) pgs_nil))) (pss_one (ps_asg (pe_op op_add (pe_ix ix_list (pv 1) (pe_op op_mod (pv 2) pe_int) (fun _ _ => rfl)) (pv 3)) (pg_sub (pv 1) (pe_op op_mod (pv 2) pe_int) set_list))))
        (pss_one (ps_ret (pe_lst (pa_cons (pv 1) (pa_cons pe_int (pa_cons pe_int pa_nil)))))))), ?_⟩
    refine ⟨_, rfl, 12, rfl, a, _, rfl, hS, fun x nx => ⟨x, _, rfl, .inl (SqL.of upd_same), fun l nl => ?_⟩⟩
    have s1 : Same H (upd H x (.lst (cutV (ns.map V.int) none (some 12)))) := same_upd nx
    have nl0 : H l = none := s1.free nl
    have s2 : Same H (upd (upd H x (.lst (cutV (ns.map V.int) none (some 12)))) l (.lst (cutV (ns.map V.int) none (some 12)))) := same_mut s1 nl0
    refine ⟨_, rfl, 12, rfl, 63, rfl, a, _, rfl, s2.seq hS, fun d nd => ⟨d, _, rfl, SqL.of upd_same, ?_⟩⟩
    have nd0 : H d = none := s2.free nd
    have hld : l ≠ d := fun e => by
      rw [← e, upd_same] at nd
      cases nd
    have it : cutV (ns.map V.int) (some 12) (some 63) = ((ns.drop 12)).map V.int := by
      have e := cut_mid (ns.map V.int) 12 63
      rw [show ((12 : Nat) : Int) = 12 from rfl, show ((63 : Nat) : Int) = 63 from rfl] at e
      rw [e, List.length_map]
      by_cases h12 : 12 ≤ ns.length
      · rw [Nat.min_eq_left h12, Nat.min_eq_right (by omega), List.take_of_length_le, List.map_drop]
        rw [List.length_drop, List.length_map]
        omega
      · rw [Nat.min_eq_right (by omega), List.drop_of_length_le (l := ns) (by omega), List.drop_of_length_le (by rw [List.length_map]; omega)]
        exact List.take_nil
    have ic : cutV (ns.map V.int) none (some 12) = (ns.take 12).map V.int := by
      have e := cut_to (ns.map V.int) 12
      rw [show ((12 : Nat) : Int) = 12 from rfl] at e
      rw [e, List.map_take]
    rw [it, ic]
    refine for_it (walk_enum (K := K) (a := d) (xs := (ns.drop 12).map V.int)) (fun i σ H' => ∃ (cs : List Int) (v2 v3 : Option V), σ = [some (.ref a), some (.ref l), v2, v3] ∧ H' l = some (.lst (cs.map V.int)) ∧ cs.length = min 12 ns.length ∧ H' d = some (.lst ((ns.drop 12).map V.int)) ∧ Same H H')
      ⟨ns.take 12, none, none, rfl, ?_, ?_, upd_same, same_mut ?_ nd0⟩ (fun i σ H' _ ⟨_, _, _, _, _, _, hd, _⟩ => SqL.of hd) ?_ ?_
    · rw [upd_ne hld, upd_same]
    · rw [List.length_take]
    · rw [← ic]
      exact s2
    · rintro i v σ H' H'' hi ⟨cs, v2, v3, rfl, hl, hc, hd, sm⟩ ⟨t, x1, x2, rfl, nt, rfl, e1, e2⟩
      obtain rfl : V.int (i : Nat) = x1 := Option.some.inj e1
      have e3 : ((ns.drop 12).map V.int)[i]? = some x2 := e2
      rw [List.getElem?_map] at e3
      obtain ⟨z, hz, rfl⟩ := Option.map_eq_some_iff.mp e3
      have h12 : 12 ≤ ns.length := by
        rw [List.length_map, List.length_drop] at hi
        omega
      have hm0 : 0 ≤ (i : Int) % 12 := Int.emod_nonneg _ (by decide)
      have hm1 : (i : Int) % 12 < 12 := Int.emod_lt_of_pos _ (by decide)
      have hj : ((i : Int) % 12).toNat < cs.length := by omega
      have hl' : (upd H' t (.tup [.int (i : Nat), .int z])) l = some (.lst (cs.map V.int)) := by
        rw [upd_ne (ne_of_none hl nt)]
        exact hl
      refine ⟨t, [.int (i : Nat), .int z], rfl, SqT.of upd_same, rfl, _, _, rfl, _, _, rfl, rfl, ?_⟩
      refine ⟨_, rfl, _, rfl, _, _, rfl, rfl, (by show (0 : Int) < 12; decide), l, _, _, .int cs[((i : Int) % 12).toNat], rfl, rfl, SqL.of hl', at_of (j := ((i : Int) % 12).toNat) (by omega) ?_, _, rfl, _, _, rfl, rfl, _, rfl, _, rfl, _, _, rfl, rfl, (by show (0 : Int) < 12; decide), l, _, _, ((i : Int) % 12).toNat, rfl, rfl, hl', ?_, ?_⟩
      · rw [List.getElem?_map, List.getElem?_eq_getElem hj]
        rfl
      · unfold ixN
        rw [if_pos hm0, if_pos (by rw [List.length_map]; omega)]
      · refine ⟨cs.set ((i : Int) % 12).toNat (cs[((i : Int) % 12).toNat] + z), _, _, rfl, ?_, ?_, ?_, ?_⟩
        · rw [upd_same, ← List.map_set]
        · rw [List.length_set]
          exact hc
        · rw [upd_ne (Ne.symm hld), upd_ne (ne_of_none hd nt)]
          exact hd
        · exact same_mut (same_mut sm (sm.free nt)) nl0
    · rintro σ H' ⟨cs, v2, v3, rfl, hl, hc, hd, sm⟩
      refine ⟨_, rfl, (by show 3 ≤ sizeLine; decide), fun p np => q p l _ (same_mut sm (sm.free np)) (sm.free np) nl0 ⟨cs, 0, 0, upd_same, ?_, by decide, by decide⟩⟩
      rw [upd_ne (ne_of_none hl np)]
      exact hl

/-! ### anew -/
def sp_l_anew : Sp := fun vs H Q _ => ∃ (p c : Addr), vs = [.ref p] ∧ Pen H p c ∧ ∀ H', Stp p c H H' → Q (.ref p) H'
theorem ok_l_anew (T : Txt K mg af fd) : FnOk P w K mg base CX0 1 (af 11) (fd 11) ["pen"] sp_l_anew := by
  refine T.F_l_anew.ok sc_l_anew (fun vs H Q E h => ?_) (fun cdv A outer s H vs Q E hr h => ?_)
  · obtain ⟨p, c, rfl, _⟩ := h
    rfl
  · obtain ⟨p, c, rfl, hP, q⟩ := h
    have hpc := hP.ne
    obtain ⟨cs, n, st, h1, h2, h3, h4⟩ := hP
    refine ⟨_, (pss_cons (ps_asg pe_int (pg_sub (pv 0) pe_int set_list))
        (pss_one (ps_ret (pv 0)))), ?_⟩
    refine ⟨_, rfl, p, _, 2, 2, rfl, rfl, h1, rfl, _, rfl, q _ ⟨⟨cs, n, 0, ?_, ?_, h3, by decide⟩, fun b o hb e => ?_⟩⟩
    · rw [upd_same]
      rfl
    · rw [upd_ne hpc]
      exact h2
    · rw [upd_ne hb]
      exact e
/-! ### names -/
def House (z : List Nat) : Prop := 1 ≤ z.length ∧ z.length ≤ 8 ∧ ∀ c ∈ z, 97 ≤ c ∧ c ≤ 122
def nameL (base : List Nat) (way turn size k : Nat) : List Nat :=
  (base.take ((size + k * (way % 2)) % 8)).take (if way = 0 then 0 else if way = 1 then (base.take ((size + k * (way % 2)) % 8)).length else (base.take ((size + k * (way % 2)) % 8)).length / 2) ++ [97 + (turn + 3 * k) % 26] ++
  (base.take ((size + k * (way % 2)) % 8)).drop (if way = 0 then 0 else if way = 1 then (base.take ((size + k * (way % 2)) % 8)).length else (base.take ((size + k * (way % 2)) % 8)).length / 2)
theorem nameL_len {base : List Nat} {way turn size k : Nat} (hb : base.length = 7) : (nameL base way turn size k).length = (size + k * (way % 2)) % 8 + 1 := by
  unfold nameL
  rw [List.length_append, List.length_append, List.length_take, List.length_drop, List.length_take]
  have : (size + k * (way % 2)) % 8 < 8 := Nat.mod_lt _ (by decide)
  simp only [List.length_cons, List.length_nil]
  omega
theorem nameL_house {base : List Nat} {way turn size k : Nat} (hb : base.length = 7) (hl : ∀ c ∈ base, 97 ≤ c ∧ c ≤ 122) : House (nameL base way turn size k) := by
  have e := nameL_len (way := way) (turn := turn) (size := size) (k := k) hb
  have : (size + k * (way % 2)) % 8 < 8 := Nat.mod_lt _ (by decide)
  refine ⟨by omega, by omega, fun c hc => ?_⟩
  unfold nameL at hc
  rcases List.mem_append.mp hc with h | h
  · rcases List.mem_append.mp h with h | h
    · exact hl c (List.mem_of_mem_take (List.mem_of_mem_take h))
    · have h := List.mem_singleton.mp h
      omega
  · exact hl c (List.mem_of_mem_take (List.mem_of_mem_drop h))
theorem nameL_inj {base : List Nat} {way turn size i j : Nat} (hb : base.length = 7) (hw : way < 3) (hi : i < 8) (hj : j < 8) (e : nameL base way turn size i = nameL base way turn size j) : i = j := by
  by_cases h1 : way = 1
  · subst h1
    have e1 := congrArg List.length e
    rw [nameL_len hb, nameL_len hb] at e1
    omega
  · have h2 : way % 2 = 0 := by omega
    unfold nameL at e
    rw [h2, Nat.mul_zero, Nat.mul_zero] at e
    have e1 := List.append_cancel_right e
    have e2 := List.append_cancel_left e1
    have e3 := (List.cons.inj e2).1
    omega
theorem joinL_ones : ∀ cs : List Nat, TL.joinL [] (cs.map fun c => [c]) = cs
  | [] => rfl
  | [_] => rfl
  | a :: b :: r => by
    show [a] ++ ([] ++ TL.joinL [] ((b :: r).map fun c => [c])) = a :: b :: r
    rw [joinL_ones (b :: r)]
    rfl
theorem abc_at : ∀ i : Nat, i < 26 → (Str.ofString "abcdefghijklmnopqrstuvwxyz").cps.toList[i]? = some (97 + i) := by
  have h : ∀ i : Fin 26, (Str.ofString "abcdefghijklmnopqrstuvwxyz").cps.toList[i.1]? = some (97 + i.1) := by decide +kernel
  exact fun i hi => h ⟨i, hi⟩
theorem abc_len : (Str.ofString "abcdefghijklmnopqrstuvwxyz").length ≤ sizeLine := by decide +kernel
def sp_l_names : Sp := fun vs H Q _ => ∃ (p c : Addr) (many : Int), vs = [.ref p, .int many] ∧ Pen H p c ∧ 0 ≤ many ∧ many ≤ 7 ∧
  ∀ (f : Addr) (zs : List (List Nat)) (H' : Hp), Stp p c H H' → H f = none → H' f = some (.lst (zs.map fun z => V.str (SX.S z))) → (zs.length : Int) = many → zs.Nodup → (∀ z ∈ zs, House z) → Q (.ref f) H'
theorem ok_l_names (T : Txt K mg af fd) : FnOk P w K mg base CX0 3 (af 13) (fd 13) ["pen", "many"] sp_l_names := by
  refine T.F_l_names.ok sc_l_names (fun vs H Q E h => ?_) (fun cdv A outer s H vs Q E hr h => ?_)
  · obtain ⟨p, c, many, rfl, _⟩ := h
    rfl
  · obtain ⟨p, c, many, rfl, hP, m0, m1, q⟩ := h
    refine ⟨_, (pss_cons (ps_set (i := 2) sc_l_names.nd rfl (by first | exact Or.inl rfl | exact Or.inr rfl) pe_str)
        (pss_cons (ps_set (i := 3) sc_l_names.nd rfl (by first | exact Or.inl rfl | exact Or.inr rfl) (pe_join pe_str (pe_lc (own := [("k", 4)]) (g := gName 4) (by rfl) sc_l_names.nd (pi_range1 (by rfl) T.m_range (pa_cons pe_int pa_nil)) (blkOk_by (own := [("k", 4)]) (N := ["pen", "many", "letters", "base", "k", "way", "turn", "size", "found", "sign", "part", "at"]) (sc := defScope s_l_names) (by decide +kernel)) (fun _ _ _ _ _ => pg_name (i := 4) sc_l_names.nd rfl (Or.inl rfl)) (fun _ _ _ _ _ => pts_nil) (fun _ _ _ _ _ => (pe_ix ix_str (pv 2) (pe_call (ok_l_take T) (hr.mono (by decide)) (by rfl) T.g_l_take T.F_l_take.kp T.b_l_take .nil pass0 (pa_cons (pv 0) (pa_cons pe_int pa_nil))) (fun _ _ => rfl))))))
        (pss_cons (ps_set (i := 5) sc_l_names.nd rfl (by first | exact Or.inl rfl | exact Or.inr rfl) (pe_call (ok_l_take T) (hr.mono (by decide)) (by rfl) T.g_l_take T.F_l_take.kp T.b_l_take .nil pass0 (pa_cons (pv 0) (pa_cons pe_int pa_nil))))
        (pss_cons (ps_set (i := 6) sc_l_names.nd rfl (by first | exact Or.inl rfl | exact Or.inr rfl) (pe_call (ok_l_take T) (hr.mono (by decide)) (by rfl) T.g_l_take T.F_l_take.kp T.b_l_take .nil pass0 (pa_cons (pv 0) (pa_cons pe_int pa_nil))))
        (pss_cons (ps_set (i := 7) sc_l_names.nd rfl (by first | exact Or.inl rfl | exact Or.inr rfl) (pe_call (ok_l_take T) (hr.mono (by decide)) (by rfl) T.g_l_take T.F_l_take.kp T.b_l_take .nil pass0 (pa_cons (pv 0) (pa_cons pe_int pa_nil))))
        (pss_cons (ps_set (i := 8) sc_l_names.nd rfl (by first | exact Or.inl rfl | exact Or.inr rfl) (pe_lst pa_nil))
        (pss_cons (ps_for PassesOwn.never rfl (pi_range1 (by rfl) T.m_range (pa_cons (pv 1) pa_nil)) (pg_name (i := 4) sc_l_names.nd rfl (by first | exact Or.inl rfl | exact Or.inr rfl)) (pss_cons (ps_set (i := 9) sc_l_names.nd rfl (by first | exact Or.inl rfl | exact Or.inr rfl) (pe_ix ix_str (pv 2) (pe_op op_mod (pe_op op_add (pv 6) (pe_op op_mul pe_int (pv 4))) pe_int) (fun _ _ => rfl)))
        (pss_cons (ps_set (i := 10) sc_l_names.nd rfl (by first | exact Or.inl rfl | exact Or.inr rfl) (pe_slice sl_str (pv 3) po_none (po_some (pe_op op_mod (pe_op op_add (pv 7) (pe_op op_mul (pv 4) (pe_op op_mod (pv 5) pe_int))) pe_int))))
        (pss_cons (ps_set (i := 11) sc_l_names.nd rfl (by first | exact Or.inl rfl | exact Or.inr rfl) (pe_ix ix_list (pe_lst (pa_cons pe_int (pa_cons (pe_callB call_len_str (by rfl) T.m_len (by decide +kernel) (pa_cons (pv 10) pa_nil)) (pa_cons (pe_op op_fdiv (pe_callB call_len_str (by rfl) T.m_len (by decide +kernel) (pa_cons (pv 10) pa_nil)) pe_int) pa_nil)))) (pv 5) (fun _ _ => rfl)))
        (pss_one (ps_expr (pe_bm PySem.F.plainAttrs_list PySem.F.slot_list_append PySem.F.type_list_append mt_append (pv 8) (pa_cons (pe_op op_add_str (pe_op op_add_str (pe_slice sl_str (pv 10) po_none (po_some (pv 11))) (pv 9)) (pe_slice sl_str (pv 10) (po_some (pv 11)) po_none)) pa_nil))))))))
        (pss_one (ps_ret (pv 8)))))))))), ?_⟩
    -- base = ''.join([..])
    refine ⟨⟨_, rfl⟩, 7, rfl, by decide, by decide, fun D nD => lc_range (lo := 0) (n := 7) (fun i H' => Stp p c H H' ∧ ∃ cs : List Nat, H' D = some (.lst (cs.map fun c => V.str (SX.S [c]))) ∧ cs.length = i ∧ ∀ c ∈ cs, 97 ≤ c ∧ c ≤ 122)
      ⟨(Stp.refl hP).new hP nD, [], upd_same, rfl, fun _ h => nomatch h⟩ ?_ ?_⟩
    · rintro i H1 hi ⟨s1, cs, hD, hl, hc⟩
      refine ⟨rfl, yes_if ?_⟩
      refine ⟨_, rfl, _, rfl, p, c, 26, rfl, s1.1, by decide, by decide, fun r H2 r0 r1 s2 => ?_⟩
      have hD2 : H2 D = some (.lst (cs.map fun c => V.str (SX.S [c]))) := s2.2 D _ (fun e => hP.neP nD e.symm) hD
      refine ⟨_, r, 97 + r.toNat, rfl, rfl, abc_len, at_any (z := r) (j := r.toNat) (by omega) (abc_at r.toNat (by omega)), _, hD2, ?_, (s1.trans s2).mut hP nD, cs ++ [97 + r.toNat], ?_, ?_, ?_⟩
      · rw [List.length_map]
        exact small1000 (by omega)
      · rw [upd_same, List.map_append]
        rfl
      · rw [List.length_append, hl]
        rfl
      · intro x hx
        rcases List.mem_append.mp hx with h | h
        · exact hc x h
        · have h := List.mem_singleton.mp h
          omega
    · rintro H1 ⟨s1, bs, hD, hl, hc⟩
      have hD' : H1 D = some (.lst ((bs.map fun c => SX.S [c]).map V.str)) := by rw [hD, List.map_map]; rfl
      refine ⟨_, D, (bs.map fun c => SX.S [c]), rfl, rfl, .inl (SqL.of hD'), ?_, ?_⟩
      · have e1 : ((bs.map fun c => SX.S [c]).map (·.length)).sum = bs.length := by
          rw [List.map_map]
          have : ((fun z : Str => z.length) ∘ fun c => SX.S [c]) = fun _ => 1 := funext fun c => SX.S_len [c]
          rw [this, List.map_const', List.sum_replicate_nat]
          omega
        rw [e1, List.length_map, hl]
        decide
      have ej : Txt.join (Str.ofString "") (bs.map fun c => SX.S [c]) = SX.S bs := by
        have e2 := SX.join_S [] (bs.map fun c => [c])
        rw [List.map_map, joinL_ones] at e2
        exact e2
      rw [ej]
      refine ⟨_, rfl, p, c, 3, rfl, s1.1, by decide, by decide, fun way H2 w0 w1 s2 => ?_⟩
      refine ⟨_, rfl, p, c, 26, rfl, s2.1, by decide, by decide, fun turn H3 t0 t1 s3 => ?_⟩
      refine ⟨_, rfl, p, c, 8, rfl, s3.1, by decide, by decide, fun size H4 z0 z1 s4 => ?_⟩
      have sA : Stp p c H H4 := ((s1.trans s2).trans s3).trans s4
      refine ⟨Nat.zero_le _, fun f nf => ?_⟩
      have nf0 : H f = none := sA.back hP nf
      refine ⟨_, rfl, many, rfl, by omega, by omega, for_range (lo := 0) (n := many.toNat) (fun i σ H' => ∃ v9 v10 v11 v12 : Option V, σ = [some (.ref p), some (.int many), some (.str (Str.ofString "abcdefghijklmnopqrstuvwxyz")), some (.str (SX.S bs)), v12, some (.int way), some (.int turn), some (.int size), some (.ref f), v9, v10, v11] ∧ Stp p c H H' ∧ H' f = some (.lst (((List.range i).map (nameL bs way.toNat turn.toNat size.toNat)).map fun z => V.str (SX.S z))))
        ⟨none, none, none, none, rfl, sA.mut hP nf0, upd_same⟩ ?_ ?_⟩
      · rintro i σ H5 hi ⟨v9, v10, v11, v12, rfl, s5, hf⟩
        have hi7 : i < 7 := by omega
        have wt : (way.toNat : Int) = way := by omega
        have tt : (turn.toNat : Int) = turn := by omega
        have zt : (size.toNat : Int) = size := by omega
        have ew : way % 2 = ((way.toNat % 2 : Nat) : Int) := by omega
        have w20 : 0 ≤ way % 2 := by omega
        have w21 : way % 2 < 2 := by omega
        have es : (turn + 3 * (0 + (i : Int))) % 26 = (((turn.toNat + 3 * i) % 26 : Nat) : Int) := by omega
        refine ⟨_, rfl, _, rfl, _, rfl, _, _, rfl, rfl, .inl ⟨by decide, by decide⟩, _, _, rfl, rfl, _, _, rfl, rfl, (by show (0 : Int) < 26; decide), _, _, 97 + (turn.toNat + 3 * i) % 26, rfl, rfl, abc_len, at_any es (abc_at _ (Nat.mod_lt _ (by decide))), ?_⟩
        refine ⟨_, rfl, _, rfl, _, rfl, _, rfl, _, _, rfl, rfl, (by show (0 : Int) < 2; decide), _, _, rfl, rfl, .inr ⟨by omega, by omega⟩, _, _, rfl, rfl, _, _, rfl, rfl, (by show (0 : Int) < 8; decide), _, rfl, SX.S bs, rfl, ?_, ?_⟩
        · rw [SX.S_len, hl]
          decide
        have ep : (size + (0 + (i : Int)) * (way % 2)) % 8 = (((size.toNat + i * (way.toNat % 2)) % 8 : Nat) : Int) := by
          rw [ew, Int.zero_add, ← zt, ← Int.natCast_mul, ← Int.natCast_add]
          rfl
        have ecut : cutS (SX.S bs) none (some ((size + (0 + (i : Int)) * (way % 2)) % 8)) = SX.S (bs.take ((size.toNat + i * (way.toNat % 2)) % 8)) := by
          rw [C8.cutS_slice, SX.slice_to (by rw [ep]; exact Int.natCast_nonneg _), ep, Int.toNat_natCast]
        rw [ecut]
        have hpl : (SX.S (bs.take ((size.toNat + i * (way.toNat % 2)) % 8))).length ≤ 7 := by
          rw [SX.S_len, List.length_take, hl]
          omega
        generalize hpart : bs.take ((size.toNat + i * (way.toNat % 2)) % 8) = part at hpl ⊢
        have hps : (SX.S part).length ≤ sizeLine := Nat.le_trans hpl (by decide)
        refine ⟨_, rfl, _, rfl, hps, _, rfl, _, rfl, hps, _, _, rfl, rfl, ⟨by decide, by decide⟩, (by show 3 ≤ sizeLine; decide), fun l nl => ?_⟩
        have hlf : f ≠ l := ne_of_none hf nl
        obtain ⟨a, ha, ea⟩ : ∃ a : Nat, atI [V.int 0, V.int ((SX.S part).length : Int), V.int (((SX.S part).length : Int) / 2)] way = some (.int (a : Int)) ∧ a = (if way.toNat = 0 then 0 else if way.toNat = 1 then part.length else part.length / 2) := by
          rw [SX.S_len]
          have hw3 : way = 0 ∨ way = 1 ∨ way = 2 := by omega
          rcases hw3 with e | e | e
          · subst e
            exact ⟨0, rfl, rfl⟩
          · subst e
            exact ⟨part.length, rfl, rfl⟩
          · subst e
            exact ⟨part.length / 2, rfl, rfl⟩
        refine ⟨_, rfl, l, _, way, _, rfl, rfl, SqL.of upd_same, ha, ?_⟩
        have hf5 : (upd H5 l (.lst [V.int 0, V.int ((SX.S part).length : Int), V.int (((SX.S part).length : Int) / 2)])) f = some (.lst (((List.range i).map (nameL bs way.toNat turn.toNat size.toNat)).map fun z => V.str (SX.S z))) := by
          rw [upd_ne hlf]
          exact hf
        have hp7 : part.length ≤ 7 := by
          rw [SX.S_len] at hpl
          exact hpl
        have e1 : cutS (SX.S part) none (some (a : Int)) = SX.S (part.take a) := by
          rw [C8.cutS_slice, SX.slice_to (Int.natCast_nonneg _), Int.toNat_natCast]
        have e2 : cutS (SX.S part) (some (a : Int)) none = SX.S (part.drop a) := by
          rw [C8.cutS_slice, SX.slice_from (Int.natCast_nonneg _), Int.toNat_natCast]
        refine ⟨_, rfl, .inl ⟨rfl, _, SqL.of hf5⟩, _, rfl, _, rfl, _, rfl, _, rfl, hps, _, rfl, _, _, rfl, rfl, ?_, _, rfl, _, rfl, _, rfl, _, rfl, hps, _, _, rfl, rfl, ?_, f, _, _, rfl, rfl, hf5, ?_, ?_⟩
        · rw [e1]
          show (SX.S (part.take a)).length + (SX.S [97 + (turn.toNat + 3 * i) % 26]).length ≤ sizeLine
          rw [SX.S_len, SX.S_len, List.length_take]
          exact Nat.le_trans (show _ ≤ 8 by simp only [List.length_cons, List.length_nil]; omega) (by decide)
        · rw [e1, e2]
          show (SX.S (part.take a) ++ SX.S [97 + (turn.toNat + 3 * i) % 26]).length + (SX.S (part.drop a)).length ≤ sizeLine
          rw [SX.S_cat, SX.S_len, SX.S_len, List.length_append, List.length_take, List.length_drop]
          exact Nat.le_trans (show _ ≤ 8 by simp only [List.length_cons, List.length_nil]; omega) (by decide)
        · rw [List.length_map, List.length_map, List.length_range]
          exact small1000 (by omega)
        · refine ⟨_, _, _, _, rfl, (s5.new hP nl).mut hP nf0, ?_⟩
          rw [upd_same, e1, e2, List.range_succ, List.map_append, List.map_append]
          have e3 : SX.S (part.take a) ++ SX.S [97 + (turn.toNat + 3 * i) % 26] ++ SX.S (part.drop a) = SX.S (nameL bs way.toNat turn.toNat size.toNat i) := by
            rw [SX.S_cat, SX.S_cat]
            unfold nameL
            rw [hpart, ← ea]
          show some (HO.lst (_ ++ [V.str (SX.S (part.take a) ++ SX.S [97 + (turn.toNat + 3 * i) % 26] ++ SX.S (part.drop a))])) = _
          rw [e3]
          rfl
      · rintro σ H5 ⟨v9, v10, v11, v12, rfl, s5, hf⟩
        refine ⟨_, rfl, q f ((List.range many.toNat).map (nameL bs way.toNat turn.toNat size.toNat)) H5 s5 nf0 hf ?_ ?_ ?_⟩
        · rw [List.length_map, List.length_range]
          omega
        · refine List.pairwise_map.mpr (List.Pairwise.imp_of_mem ?_ (List.nodup_range (n := many.toNat)))
          intro a b ha hb ne e
          have ha := List.mem_range.mp ha
          have hb := List.mem_range.mp hb
          exact ne (nameL_inj hl (by omega) (by omega) (by omega) e)
        · intro z hz
          obtain ⟨k, _, rfl⟩ := List.mem_map.mp hz
          exact nameL_house hl hc

/-! ### town -/
def HouseS (h : Str) : Prop := House h.cps.toList
theorem HouseS.ok {z : Str} (h : HouseS z) : PyData.strOk z = true := by
  obtain ⟨h1, h2, h3⟩ := h
  unfold PyData.strOk
  rw [← Array.all_toList, List.all_eq_true]
  intro c hc
  have := h3 c hc
  exact decide_eq_true (by omega)
theorem canLay_strs : ∀ {hs : List Str}, (∀ h ∈ hs, PyData.strOk h = true) → PyData.canLayAll0 (hs.map PyData.str) = true
  | [], _ => rfl
  | h :: r, a => by
    show (PyData.strOk h && PyData.canLayAll0 (r.map PyData.str)) = true
    rw [a h List.mem_cons_self, canLay_strs fun x hx => a x (List.mem_cons_of_mem _ hx)]
    rfl
theorem depth_strs : ∀ {hs : List Str}, PyData.depthAll (hs.map PyData.str) = 0
  | [] => rfl
  | h :: r => by
    show max 0 (PyData.depthAll (r.map PyData.str)) = 0
    rw [depth_strs]
    rfl
theorem shaped_strs {hs : List Str} (a : ∀ h ∈ hs, PyData.strOk h = true) : SeqAt.shaped (.list (hs.map PyData.str)) = true := by
  unfold SeqAt.shaped
  rw [Bool.and_eq_true, decide_eq_true_eq]
  refine ⟨canLay_strs a, ?_⟩
  show PyData.depthAll (hs.map PyData.str) + 1 ≤ 64
  rw [depth_strs]
  decide
theorem dp_strs {H : Hp} : ∀ hs : List Str, DpAll K H (hs.map V.str) (hs.map PyData.str)
  | [] => .nil
  | h :: r => .cons (.str h) (dp_strs r)
def TownAt (H : Hp) (t : Addr) (hs gs : List Str) : Prop := ∃ a b : Addr, H t = some (.tup [.ref a, .ref b]) ∧ H a = some (.tup (hs.map V.str)) ∧ H b = some (.tup (gs.map V.str))
theorem Stp.town {p c t : Addr} {H H' : Hp} {hs gs : List Str} (s : Stp p c H H') (h : Pen H p c) (ht : TownAt H t hs gs) : TownAt H' t hs gs := by
  obtain ⟨a, b, h1, h2, h3⟩ := ht
  exact ⟨a, b, s.tup h h1, s.tup h h2, s.tup h h3⟩
structure Good (hs gs : List Str) (most : Nat) : Prop where
  one : 1 ≤ hs.length
  few : hs.length ≤ most
  nd : hs.Nodup
  up : sortedS hs = true
  hou : ∀ h ∈ hs, HouseS h
  sub : gs.Sublist hs
def sp_l_town : Sp := fun vs H Q _ => ∃ (p c : Addr) (most : Nat), vs = [.ref p, .int most] ∧ Pen H p c ∧ 1 ≤ most ∧ most ≤ 6 ∧
  ∀ (t : Addr) (hs gs : List Str) (H' : Hp), Stp p c H H' → TownAt H' t hs gs → Good hs gs most → Q (.ref t) H'
theorem ok_l_town (T : Txt K mg af fd) : FnOk P w K mg base CX0 4 (af 14) (fd 14) ["pen", "most"] sp_l_town := by
  refine T.F_l_town.ok sc_l_town (fun vs H Q E h => ?_) (fun cdv A outer s H vs Q E hr h => ?_)
  · obtain ⟨p, c, most, rfl, _⟩ := h
    rfl
  · obtain ⟨p, c, most, rfl, hP, m1, m6, q⟩ := h
    refine ⟨_, (pss_cons (ps_set (i := 2) sc_l_town.nd rfl (by first | exact Or.inl rfl | exact Or.inr rfl) (pe_callB cr_sortedS (by rfl) T.m_sorted (by decide +kernel) (pa_cons (pe_call (ok_l_names T) (hr.mono (by decide)) (by rfl) T.g_l_names T.F_l_names.kp T.b_l_names .nil pass0 (pa_cons (pv 0) (pa_cons (pe_op op_add pe_int (pe_call (ok_l_take T) (hr.mono (by decide)) (by rfl) T.g_l_take T.F_l_take.kp T.b_l_take .nil pass0 (pa_cons (pv 0) (pa_cons (pv 1) pa_nil)))) pa_nil))) pa_nil)))
        (pss_cons (ps_setLc (i := 3) (own := [("house", 4)]) (g := gName 4) (by rfl) sc_l_town.nd rfl rfl (sw_true rfl rfl rfl (by decide +kernel)) (pi_list (pv 2)) (blkOk_by (own := [("house", 4)]) (N := ["pen", "most", "houses", "gates", "house"]) (sc := defScope s_l_town) (by decide +kernel)) (fun _ _ _ _ _ => pg_name (i := 4) sc_l_town.nd rfl (Or.inl rfl)) (fun _ _ _ _ _ => (pts_one (pt_cmpR op_gt (pe_call (ok_l_take T) (hr.mono (by decide)) (by rfl) T.g_l_take T.F_l_take.kp T.b_l_take .nil pass0 (pa_cons (pv 0) (pa_cons pe_int pa_nil))) pe_int (nomark _)))) (fun _ _ _ _ _ => (pv 4)))
        (C8.pss_cut (ps_if (PW.pt (pw_and (pt_cmpR (op_eqD hr.units) (pv 3) (pe_lst pa_nil) (nomark _)) (pw_and1 (pt_cmpR op_gt (pe_call (ok_l_take T) (hr.mono (by decide)) (by rfl) T.g_l_take T.F_l_take.kp T.b_l_take .nil pass0 (pa_cons (pv 0) (pa_cons pe_int pa_nil))) pe_int (nomark _))))) (pss_one (ps_set (i := 3) sc_l_town.nd rfl (by first | exact Or.inl rfl | exact Or.inr rfl) (pe_slice sl_list (pv 2) po_none (po_some pe_int)))) pss_nil)
        (pss_one (ps_ret (pe_tup (pa_cons (pe_callTy call_tuple_of (by rfl) T.m_tuple (by decide +kernel) (pa_cons (pv 2) pa_nil)) (pa_cons (pe_callTy call_tuple_of (by rfl) T.m_tuple (by decide +kernel) (pa_cons (pv 3) pa_nil)) pa_nil)))))))), ?_⟩
    refine ⟨_, rfl, _, rfl, _, rfl, p, c, most, rfl, hP, by omega, Nat.lt_of_le_of_lt (show _ ≤ 6 by omega) (by decide), fun r H1 r0 r1 s1 => ?_⟩
    refine ⟨_, _, rfl, rfl, p, c, _, rfl, s1.1, by omega, by omega, fun f zs H2 s2 nf hf hl nd hh => ?_⟩
    have s12 := s1.trans s2
    have hf' : H2 f = some (.lst ((zs.map SX.S).map V.str)) := by rw [hf, List.map_map]; rfl
    refine ⟨f, zs.map SX.S, rfl, SqL.of hf', by rw [List.length_map]; omega, fun hs d pm up nd1 => ?_⟩
    have hlen : hs.length = zs.length := by rw [pm.length_eq, List.length_map]
    have hnd : hs.Nodup := pm.nodup_iff.mpr (List.pairwise_map.mpr (nd.imp fun ne e => ne (SX.S_inj e)))
    have hho : ∀ h ∈ hs, HouseS h := fun h m => by
      obtain ⟨z, mz, rfl⟩ := List.mem_map.mp (pm.mem_iff.mp m)
      exact hh z mz
    have nd0 : H d = none := s12.back hP nd1
    have s3 : Stp p c H (upd H2 d (.lst (hs.map V.str))) := s12.mut hP nd0
    -- gates
    refine ⟨_, rfl, d, rfl, ⟨_, SqL.of upd_same⟩, fun D nD => ?_⟩
    have nD0 : H D = none := s3.back hP nD
    have hdD : d ≠ D := fun e => by
      rw [← e, upd_same] at nD
      cases nD
    refine lc_list (K := K) (a := d) (xs := hs.map V.str) (fun i H' => Stp p c H H' ∧ H' d = some (.lst (hs.map V.str)) ∧ ∃ gs : List Str, H' D = some (.lst (gs.map V.str)) ∧ gs.Sublist (hs.take i))
      ⟨s3.mut hP nD0, by rw [upd_ne hdD, upd_same], [], upd_same, List.nil_sublist _⟩ (fun i H' _ h => SqL.of h.2.1) ?_ ?_
    · rintro i x H3 hx ⟨s4, hd, gs, hD, hg⟩
      rw [List.getElem?_map] at hx
      obtain ⟨h, hh, rfl⟩ := Option.map_eq_some_iff.mp hx
      have etake : hs.take (i + 1) = hs.take i ++ [h] := by rw [List.take_add_one, hh]; rfl
      refine ⟨rfl, _, rfl, p, c, 3, rfl, s4.1, by decide, by decide, fun r H4 r0 r1 s5 => ?_⟩
      have hd4 : H4 d = some (.lst (hs.map V.str)) := s5.2 d _ (fun e => hP.neP nd0 e.symm) hd
      have hD4 : H4 D = some (.lst (gs.map V.str)) := s5.2 D _ (fun e => hP.neP nD0 e.symm) hD
      refine ⟨_, _, rfl, rfl, _, rfl, ite2 (fun e => ?_) (fun e => ?_)⟩
      · refine ⟨_, rfl, _, hD4, ?_, (s4.trans s5).mut hP nD0, by rw [upd_ne hdD]; exact hd4, gs ++ [h], ?_, ?_⟩
        · rw [List.length_map]
          exact small1000 (Nat.le_trans (hg.length_le) (by rw [List.length_take]; omega))
        · rw [upd_same, List.map_append]
          rfl
        · rw [etake]
          exact hg.append (List.Sublist.refl _)
      · refine ⟨s4.trans s5, hd4, gs, hD4, ?_⟩
        rw [etake]
        exact hg.trans (List.sublist_append_left _ _)
    · rintro H3 ⟨s4, hd, gs, hD, hg⟩
      rw [List.length_map, List.take_length] at hg
      have hgo : ∀ h ∈ gs, PyData.strOk h = true := fun h m => (hho h (hg.subset m)).ok
      refine ⟨fun σ' H' => ∃ (g : Addr) (gs : List Str), σ' = [some (.ref p), some (.int most), some (.ref d), some (.ref g), none] ∧ Stp p c H H' ∧ H' d = some (.lst (hs.map V.str)) ∧ H' g = some (.lst (gs.map V.str)) ∧ gs.Sublist hs, ?_, ?_⟩
      · refine ⟨_, rfl, Nat.zero_le _, fun e ne => ?_⟩
        have s5 : Stp p c H (upd H3 e (.lst [])) := s4.new hP ne
        have hd5 : (upd H3 e (.lst [])) d = some (.lst (hs.map V.str)) := by rw [upd_ne (ne_of_none hd ne)]; exact hd
        have hD5 : (upd H3 e (.lst [])) D = some (.lst (gs.map V.str)) := by rw [upd_ne (ne_of_none hD ne)]; exact hD
        refine ⟨.list (gs.map PyData.str), .list [], Dp.lst (SqL.of hD5) (dp_strs gs), Dp.lst (SqL.of upd_same) .nil, shaped_strs hgo, rfl, _, rfl, ite2 (fun e => ?_) (fun e => ?_)⟩
        · refine ⟨_, rfl, p, c, 4, rfl, s5.1, by decide, by decide, fun r H4 r0 r1 s6 => ?_⟩
          have hd6 : H4 d = some (.lst (hs.map V.str)) := s6.2 d _ (fun e => hP.neP nd0 e.symm) hd5
          have hD6 : H4 D = some (.lst (gs.map V.str)) := s6.2 D _ (fun e => hP.neP nD0 e.symm) hD5
          refine ⟨_, _, rfl, rfl, _, rfl, ite2 (fun e => ?_) (fun e => ?_)⟩
          · refine ⟨_, rfl, 1, rfl, d, _, rfl, SqL.of hd6, fun g ng => ⟨g, hs.take 1, rfl, (s5.trans s6).new hP ng, ?_, ?_, List.take_sublist _ _⟩⟩
            · rw [upd_ne (ne_of_none hd6 ng)]
              exact hd6
            · rw [upd_same]
              have e := cut_to (hs.map V.str) 1
              rw [show ((1 : Nat) : Int) = 1 from rfl] at e
              rw [e, List.map_take]
          · exact ⟨D, gs, rfl, s5.trans s6, hd6, hD6, hg⟩
        · exact ⟨D, gs, rfl, s5, hd5, hD5, hg⟩
      · rintro σ' H' ⟨g, gs, rfl, s5, hd, hg, hsub⟩
        refine ⟨_, rfl, d, _, rfl, .inl ⟨SqL.of hd, fun a na => ?_⟩⟩
        have hg1 : (upd H' a (.tup (hs.map V.str))) g = some (.lst (gs.map V.str)) := by rw [upd_ne (ne_of_none hg na)]; exact hg
        refine ⟨_, rfl, g, _, rfl, .inl ⟨SqL.of hg1, fun b nb => ?_⟩⟩
        have s6 : Stp p c H (upd H' a (.tup (hs.map V.str))) := s5.new hP na
        have s7 := s6.new (o := .tup (gs.map V.str)) hP nb
        have hab : a ≠ b := fun e => by
          rw [← e, upd_same] at nb
          cases nb
        refine ⟨(by show 2 ≤ sizeLine; decide), fun t nt => ?_⟩
        have hta : a ≠ t := fun e => by
          rw [← e, upd_ne hab, upd_same] at nt
          cases nt
        have htb : b ≠ t := fun e => by
          rw [← e, upd_same] at nt
          cases nt
        refine q t hs gs _ (s7.new hP nt) ⟨a, b, upd_same, ?_, ?_⟩ ⟨?_, ?_, hnd, up, hho, hsub⟩
        · rw [upd_ne hta, upd_ne hab, upd_same]
        · rw [upd_ne htb, upd_same]
        · omega
        · omega

/-! ### number -/
def sp_l_number : Sp := fun vs H Q _ => ∃ (p c : Addr), vs = [.ref p] ∧ Pen H p c ∧ ∀ (r : Int) (H' : Hp), 0 ≤ r → r ≤ 14 → Stp p c H H' → Q (.int r) H'
theorem ok_l_number (T : Txt K mg af fd) : FnOk P w K mg base CX0 3 (af 17) (fd 17) ["pen"] sp_l_number := by
  refine T.F_l_number.ok sc_l_number (fun vs H Q E h => ?_) (fun cdv A outer s H vs Q E hr h => ?_)
  · obtain ⟨p, c, rfl, _⟩ := h
    rfl
  · obtain ⟨p, c, rfl, hP, q⟩ := h
    refine ⟨_, (pss_one (ps_ret (pe_ix ix_list (pe_lst (pa_cons pe_int (pa_cons pe_int (pa_cons (pe_call (ok_l_take T) (hr.mono (by decide)) (by rfl) T.g_l_take T.F_l_take.kp T.b_l_take .nil pass0 (pa_cons (pv 0) (pa_cons pe_int pa_nil))) pa_nil)))) (pe_call (ok_l_take T) (hr.mono (by decide)) (by rfl) T.g_l_take T.F_l_take.kp T.b_l_take .nil pass0 (pa_cons (pv 0) (pa_cons pe_int pa_nil))) (fun _ _ => rfl)))), ?_⟩
    refine ⟨_, rfl, p, c, 15, rfl, hP, by decide, by decide, fun r H1 r0 r1 s1 => ?_⟩
    refine ⟨(by show 3 ≤ sizeLine; decide), fun l nl => ?_⟩
    have s2 := s1.new (o := .lst [.int 0, .int 14, .int r]) hP nl
    refine ⟨_, rfl, p, c, 3, rfl, s2.1, by decide, by decide, fun i H2 i0 i1 s3 => ?_⟩
    have hl : H2 l = some (.lst [.int 0, .int 14, .int r]) := s3.2 l _ (fun e => hP.neP (s1.back hP nl) e.symm) upd_same
    have hi : i = 0 ∨ i = 1 ∨ i = 2 := by omega
    rcases hi with e | e | e
    · subst e
      exact ⟨l, _, 0, _, rfl, rfl, SqL.of hl, rfl, q 0 _ (by decide) (by decide) (s2.trans s3)⟩
    · subst e
      exact ⟨l, _, 1, _, rfl, rfl, SqL.of hl, rfl, q 14 _ (by decide) (by decide) (s2.trans s3)⟩
    · subst e
      exact ⟨l, _, 2, _, rfl, rfl, SqL.of hl, rfl, q r _ r0 (by omega) (s2.trans s3)⟩
/-! ### two times -/
def TimeI (a : Int) : Prop := -1000000000000 ≤ a ∧ a ≤ 1000000000000
def sp_l_two_times : Sp := fun vs H Q _ => ∃ (p c : Addr), vs = [.ref p] ∧ Pen H p c ∧ ∀ (l : Addr) (a b : Int) (H' : Hp), TimeI a → TimeI b → a ≤ b → Stp p c H H' → H' l = some (.lst [.int a, .int b]) → Q (.ref l) H'
theorem ok_l_two_times (T : Txt K mg af fd) : FnOk P w K mg base CX0 3 (af 18) (fd 18) ["pen"] sp_l_two_times := by
  refine T.F_l_two_times.ok sc_l_two_times (fun vs H Q E h => ?_) (fun cdv A outer s H vs Q E hr h => ?_)
  · obtain ⟨p, c, rfl, _⟩ := h
    rfl
  · obtain ⟨p, c, rfl, hP, q⟩ := h
    refine ⟨_, (pss_cons (ps_set (i := 1) sc_l_two_times.nd rfl (by first | exact Or.inl rfl | exact Or.inr rfl) (pe_lst (pa_cons (pe_op op_sub (pe_call (ok_l_take T) (hr.mono (by decide)) (by rfl) T.g_l_take T.F_l_take.kp T.b_l_take .nil pass0 (pa_cons (pv 0) (pa_cons (pe_op op_add (pe_op op_mul pe_int (pe_op op_pow pe_int pe_int)) pe_int) pa_nil))) (pe_op op_pow pe_int pe_int)) (pa_cons (pe_call (ok_l_take T) (hr.mono (by decide)) (by rfl) T.g_l_take T.F_l_take.kp T.b_l_take .nil pass0 (pa_cons (pv 0) (pa_cons pe_int pa_nil))) (pa_cons (pe_op op_pow pe_int pe_int) (pa_cons (pe_op op_sub pe_int (pe_op op_pow pe_int pe_int)) pa_nil))))))
        (pss_one (ps_ret (pe_callB cr_sorted (by rfl) T.m_sorted (by decide +kernel) (pa_cons (pe_lst (pa_cons (pe_ix ix_list (pv 1) (pe_call (ok_l_take T) (hr.mono (by decide)) (by rfl) T.g_l_take T.F_l_take.kp T.b_l_take .nil pass0 (pa_cons (pv 0) (pa_cons pe_int pa_nil))) (fun _ _ => rfl)) (pa_cons (pe_ix ix_list (pv 1) (pe_call (ok_l_take T) (hr.mono (by decide)) (by rfl) T.g_l_take T.F_l_take.kp T.b_l_take .nil pass0 (pa_cons (pv 0) (pa_cons pe_int pa_nil))) (fun _ _ => rfl)) pa_nil))) pa_nil))))), ?_⟩
    have e12 : (10 : Int) ^ (12 : Int).toNat = 1000000000000 := by decide
    refine ⟨_, rfl, _, _, rfl, rfl, ⟨by decide, by decide, by decide⟩, _, _, rfl, rfl, .inl ⟨by decide, by decide⟩, _, _, rfl, rfl, p, c, _, rfl, hP, by decide, by decide, fun r H1 r0 r1 s1 => ?_⟩
    refine ⟨_, _, rfl, rfl, ⟨by decide, by decide, by decide⟩, _, _, rfl, rfl, ?_⟩
    refine ⟨_, rfl, p, c, 9, rfl, s1.1, by decide, by decide, fun r2 H2 r20 r21 s2 => ?_⟩
    refine ⟨_, _, rfl, rfl, ⟨by decide, by decide, by decide⟩, _, _, rfl, rfl, ⟨by decide, by decide, by decide⟩, _, _, rfl, rfl, (by show 4 ≤ sizeLine; decide), fun l nl => ?_⟩
    rw [e12] at r1 ⊢
    have s12 := s1.trans s2
    have nl0 := s12.back hP nl
    have s3 := s12.new (o := .lst [.int (r - 1000000000000), .int r2, .int 1000000000000, .int (0 - 1000000000000)]) hP nl
    have pick : ∀ i : Int, 0 ≤ i → i < 4 → ∃ v : Int, atI [V.int (r - 1000000000000), .int r2, .int 1000000000000, .int (0 - 1000000000000)] i = some (.int v) ∧ TimeI v := by
      intro i i0 i1
      have hi : i = 0 ∨ i = 1 ∨ i = 2 ∨ i = 3 := by omega
      rcases hi with e | e | e | e
      · subst e
        exact ⟨_, rfl, by unfold TimeI; omega⟩
      · subst e
        exact ⟨_, rfl, by unfold TimeI; omega⟩
      · subst e
        exact ⟨_, rfl, by unfold TimeI; omega⟩
      · subst e
        exact ⟨_, rfl, by unfold TimeI; omega⟩
    refine ⟨_, rfl, _, rfl, p, c, 4, rfl, s3.1, by decide, by decide, fun i H4 i0 i1 s4 => ?_⟩
    have hl4 := s4.2 l _ (fun e => hP.neP nl0 e.symm) upd_same
    obtain ⟨v, hv, tv⟩ := pick i i0 i1
    refine ⟨l, _, i, _, rfl, rfl, SqL.of hl4, hv, ?_⟩
    refine ⟨_, rfl, _, rfl, p, c, 4, rfl, s4.1, by decide, by decide, fun j H5 j0 j1 s5 => ?_⟩
    have hl5 := s5.2 l _ (fun e => hP.neP nl0 e.symm) hl4
    obtain ⟨u, hu, tu⟩ := pick j j0 j1
    refine ⟨l, _, j, _, rfl, rfl, SqL.of hl5, hu, (by show 2 ≤ sizeLine; decide), fun m nm => ?_⟩
    have s6 := ((s3.trans s4).trans s5).new (o := .lst [.int v, .int u]) hP nm
    refine ⟨m, [v, u], rfl, SqL.of upd_same, (by show 2 < 64; decide), fun ns d pm up nd => ?_⟩
    have s7 := s6.new (o := .lst (ns.map V.int)) hP nd
    match ns, pm.length_eq, up, pm with
    | [a, b], _, up, pm =>
      have ab : a ≤ b := (List.pairwise_cons.mp up).1 b (List.mem_singleton.mpr rfl)
      have ta : TimeI a := by
        have := pm.mem_iff.mp (List.mem_cons_self (a := a) (l := [b]))
        simp only [List.mem_cons, List.not_mem_nil, or_false] at this
        rcases this with e | e <;> subst e <;> assumption
      have tb : TimeI b := by
        have := pm.mem_iff.mp (List.mem_cons_of_mem a (List.mem_singleton.mpr (rfl : b = b)))
        simp only [List.mem_cons, List.not_mem_nil, or_false] at this
        rcases this with e | e <;> subst e <;> assumption
      exact q d a b _ ta tb ab s7 upd_same
/-! ### rows -/
inductive RowV (hs : List Str) : List V → Prop
  | ask (h g : Str) (k n o b : Int) : h ∈ hs → g ∈ hs → 0 ≤ k → k ≤ 14 → 0 ≤ n → n ≤ 14 → TimeI o → TimeI b → o ≤ b → RowV hs [.str "ask", .str h, .int k, .int n, .str g, .int o, .int b]
  | job (h : Str) (k o b : Int) : h ∈ hs → 0 ≤ k → k ≤ 14 → TimeI o → TimeI b → o ≤ b → RowV hs [.str "job", .str h, .int k, .int o, .int b]
  | all (h : Str) (a j : Int) : h ∈ hs → 0 ≤ a → a ≤ 15 → 0 ≤ j → j ≤ 15 → RowV hs [.str "all", .str h, .int a, .int j]
def sp_row (K : PySem.W.Frag) : Sp := fun vs H Q _ => ∃ (p c t : Addr) (hs gs : List Str), vs = [.ref p, .ref t] ∧ Pen H p c ∧ TownAt H t hs gs ∧ 1 ≤ hs.length ∧ hs.length ≤ 6 ∧
  ∀ (r : Addr) (xs : List V) (H' : Hp), Stp p c H H' → H r = none → H' r = some (.tup xs) → RowV hs xs → Q (.ref r) H'
theorem pick_house {hs : List Str} {r : Int} (h0 : 0 ≤ r) (h1 : r < (hs.map V.str).length) : ∃ h, h ∈ hs ∧ atI (hs.map V.str) r = some (.str h) := by
  rw [List.length_map] at h1
  have hlt : r.toNat < hs.length := by omega
  refine ⟨hs[r.toNat], List.getElem_mem hlt, at_any (j := r.toNat) (by omega) ?_⟩
  rw [List.getElem?_map, List.getElem?_eq_getElem hlt]
  rfl
theorem ok_l_any_row (T : Txt K mg af fd) : FnOk P w K mg base CX0 4 (af 19) (fd 19) ["pen", "town"] (sp_row K) := by
  refine T.F_l_any_row.ok sc_l_any_row (fun vs H Q E h => ?_) (fun cdv A outer s H vs Q E hr h => ?_)
  · obtain ⟨p, c, t, hs, gs, rfl, _⟩ := h
    rfl
  · obtain ⟨p, c, t, hs, gs, rfl, hP, ⟨a, b, t1, t2, t3⟩, l1, l6, q⟩ := h
    refine ⟨_, (pss_cons (ps_set (i := 2) sc_l_any_row.nd rfl (by first | exact Or.inl rfl | exact Or.inr rfl) (pe_ix ix_tup (pe_ix ix_tup (pv 1) pe_int (fun _ _ => rfl)) (pe_call (ok_l_take T) (hr.mono (by decide)) (by rfl) T.g_l_take T.F_l_take.kp T.b_l_take .nil pass0 (pa_cons (pv 0) (pa_cons (pe_callB call_len_seq (by rfl) T.m_len (by decide +kernel) (pa_cons (pe_ix ix_tup (pv 1) pe_int (fun _ _ => rfl)) pa_nil)) pa_nil))) (fun _ _ => rfl)))
        (pss_cons (ps_set (i := 3) sc_l_any_row.nd rfl (by first | exact Or.inl rfl | exact Or.inr rfl) (pe_call (ok_l_take T) (hr.mono (by decide)) (by rfl) T.g_l_take T.F_l_take.kp T.b_l_take .nil pass0 (pa_cons (pv 0) (pa_cons pe_int pa_nil))))
        (pss_cons (ps_asg (pe_call (ok_l_two_times T) (hr.mono (by decide)) (by rfl) T.g_l_two_times T.F_l_two_times.kp T.b_l_two_times .nil pass0 (pa_cons (pv 0) pa_nil)) (pg_unl rfl (pgs_cons (pg_name (i := 4) sc_l_any_row.nd rfl (by first | exact Or.inl rfl | exact Or.inr rfl)) (pgs_cons (pg_name (i := 5) sc_l_any_row.nd rfl (by first | exact Or.inl rfl | exact Or.inr rfl)) pgs_nil))))
        (pss_cons (ps_if (pt_cmpR op_eq (pv 3) pe_int (nomark _)) (pss_cons (ps_set (i := 6) sc_l_any_row.nd rfl (by first | exact Or.inl rfl | exact Or.inr rfl) (pe_ix ix_tup (pe_ix ix_tup (pv 1) pe_int (fun _ _ => rfl)) (pe_call (ok_l_take T) (hr.mono (by decide)) (by rfl) T.g_l_take T.F_l_take.kp T.b_l_take .nil pass0 (pa_cons (pv 0) (pa_cons (pe_callB call_len_seq (by rfl) T.m_len (by decide +kernel) (pa_cons (pe_ix ix_tup (pv 1) pe_int (fun _ _ => rfl)) pa_nil)) pa_nil))) (fun _ _ => rfl)))
        (pss_one (ps_ret (pe_tup (pa_cons pe_str (pa_cons (pv 2) (pa_cons (pe_call (ok_l_number T) (hr.mono (by decide)) (by rfl) T.g_l_number T.F_l_number.kp T.b_l_number .nil pass0 (pa_cons (pv 0) pa_nil)) (pa_cons (pe_call (ok_l_number T) (hr.mono (by decide)) (by rfl) T.g_l_number T.F_l_number.kp T.b_l_number .nil pass0 (pa_cons (pv 0) pa_nil)) (pa_cons (pv 6) (pa_cons (pv 4) (pa_cons (pv 5) pa_nil))))))))))) pss_nil)
        (pss_cons (ps_if (pt_cmpR op_eq (pv 3) pe_int (nomark _)) (pss_one (ps_ret (pe_tup (pa_cons pe_str (pa_cons (pv 2) (pa_cons (pe_call (ok_l_number T) (hr.mono (by decide)) (by rfl) T.g_l_number T.F_l_number.kp T.b_l_number .nil pass0 (pa_cons (pv 0) pa_nil)) (pa_cons (pv 4) (pa_cons (pv 5) pa_nil)))))))) pss_nil)
        (pss_one (ps_ret (pe_tup (pa_cons pe_str (pa_cons (pv 2) (pa_cons (pe_op op_add (pe_call (ok_l_number T) (hr.mono (by decide)) (by rfl) T.g_l_number T.F_l_number.kp T.b_l_number .nil pass0 (pa_cons (pv 0) pa_nil)) (pe_call (ok_l_take T) (hr.mono (by decide)) (by rfl) T.g_l_take T.F_l_take.kp T.b_l_take .nil pass0 (pa_cons (pv 0) (pa_cons pe_int pa_nil)))) (pa_cons (pe_op op_add (pe_call (ok_l_number T) (hr.mono (by decide)) (by rfl) T.g_l_number T.F_l_number.kp T.b_l_number .nil pass0 (pa_cons (pv 0) pa_nil)) (pe_call (ok_l_take T) (hr.mono (by decide)) (by rfl) T.g_l_take T.F_l_take.kp T.b_l_take .nil pass0 (pa_cons (pv 0) (pa_cons pe_int pa_nil)))) pa_nil)))))))))))), ?_⟩
    have lb : 0 < ((hs.map V.str).length : Int) := by rw [List.length_map]; omega
    have lc : ((hs.map V.str).length : Int).natAbs < 2 ^ 100 := by
      rw [List.length_map]
      exact Nat.lt_of_le_of_lt (show _ ≤ 6 by omega) (by decide)
    refine ⟨_, rfl, t, _, 0, _, rfl, rfl, SqT.of t1, rfl, _, rfl, _, rfl, t, _, 0, _, rfl, rfl, SqT.of t1, rfl, a, _, rfl, .inr (SqT.of t2), p, c, _, rfl, hP, lb, lc, fun r H1 r0 r1 s1 => ?_⟩
    obtain ⟨h, mh, eh⟩ := pick_house r0 r1
    refine ⟨a, _, r, _, rfl, rfl, SqT.of (s1.tup hP t2), eh, ?_⟩
    refine ⟨_, rfl, p, c, 3, rfl, s1.1, by decide, by decide, fun way H2 w0 w1 s2 => ?_⟩
    refine ⟨_, rfl, p, c, rfl, s2.1, fun l o e H3 to te oe s3 hl => ?_⟩
    refine ⟨l, _, rfl, SqL.of hl, rfl, _, _, rfl, _, _, rfl, rfl, ?_⟩
    have s123 := (s1.trans s2).trans s3
    have u1 := s123.tup hP t1
    have u2 := s123.tup hP t2
    refine ⟨_, rfl, rfl, _, rfl, ite2 (fun ew => ?_) (fun ew => ?_)⟩
    · refine ⟨_, rfl, t, _, 0, _, rfl, rfl, SqT.of u1, rfl, _, rfl, _, rfl, t, _, 0, _, rfl, rfl, SqT.of u1, rfl, a, _, rfl, .inr (SqT.of u2), p, c, _, rfl, s123.1, lb, lc, fun r2 H4 r20 r21 s4 => ?_⟩
      obtain ⟨g, mg2, eg⟩ := pick_house r20 r21
      have s14 := s123.trans s4
      refine ⟨a, _, r2, _, rfl, rfl, SqT.of (s14.tup hP t2), eg, ?_⟩
      refine ⟨_, rfl, _, rfl, p, c, rfl, s14.1, fun k H5 k0 k1 s5 => ?_⟩
      refine ⟨_, rfl, p, c, rfl, s5.1, fun n H6 n0 n1 s6 => ?_⟩
      have s16 := (s14.trans s5).trans s6
      refine ⟨_, rfl, _, rfl, _, rfl, (by show 7 ≤ sizeLine; decide), fun rr nr => ?_⟩
      exact q rr _ _ (s16.new hP nr) (s16.back hP nr) upd_same (.ask h g k n o e mh mg2 k0 k1 n0 n1 to te oe)
    · refine ⟨_, rfl, rfl, _, rfl, ite2 (fun ew => ?_) (fun ew => ?_)⟩
      · refine ⟨_, rfl, _, rfl, p, c, rfl, s123.1, fun k H5 k0 k1 s5 => ?_⟩
        have s15 := s123.trans s5
        refine ⟨_, rfl, _, rfl, (by show 5 ≤ sizeLine; decide), fun rr nr => ?_⟩
        exact q rr _ _ (s15.new hP nr) (s15.back hP nr) upd_same (.job h k o e mh k0 k1 to te oe)
      · refine ⟨_, rfl, _, rfl, p, c, rfl, s123.1, fun k H5 k0 k1 s5 => ?_⟩
        refine ⟨_, rfl, p, c, 2, rfl, s5.1, by decide, by decide, fun x H6 x0 x1 s6 => ?_⟩
        refine ⟨_, _, rfl, rfl, _, rfl, p, c, rfl, s6.1, fun n H7 n0 n1 s7 => ?_⟩
        refine ⟨_, rfl, p, c, 2, rfl, s7.1, by decide, by decide, fun y H8 y0 y1 s8 => ?_⟩
        have s18 := (((s123.trans s5).trans s6).trans s7).trans s8
        refine ⟨_, _, rfl, rfl, (by show 4 ≤ sizeLine; decide), fun rr nr => ?_⟩
        exact q rr _ _ (s18.new hP nr) (s18.back hP nr) upd_same (.all h (k + x) (n + y) mh (by omega) (by omega) (by omega) (by omega))

/-! ### data of any kind: what reads as d at v, its lists outside Ex -/
mutual
inductive Dq (Ex : Addr → Prop) (H : Hp) : V → PyData → Prop
  | non : Dq Ex H .non .none
  | bl (b : Bool) : Dq Ex H (.bl b) (.bool b)
  | int (i : Int) : Dq Ex H (.int i) (.int i)
  | str (x : Str) : Dq Ex H (.str x) (.str x)
  | lst {a : Addr} {xs : List V} {ds : List PyData} : ¬ Ex a → H a = some (.lst xs) → Dqs Ex H xs ds → Dq Ex H (.ref a) (.list ds)
  | tup {a : Addr} {xs : List V} {ds : List PyData} : H a = some (.tup xs) → Dqs Ex H xs ds → Dq Ex H (.ref a) (.tuple ds)
inductive Dqs (Ex : Addr → Prop) (H : Hp) : List V → List PyData → Prop
  | nil : Dqs Ex H [] []
  | cons {v : V} {vs : List V} {d : PyData} {ds : List PyData} : Dq Ex H v d → Dqs Ex H vs ds → Dqs Ex H (v :: vs) (d :: ds)
end
mutual
theorem Dq.go {Ex Ey : Addr → Prop} {H H' : Hp} (he : ∀ a, Ey a → ¬ Ex a → H a = none) (hl : ∀ a xs, ¬ Ex a → H a = some (.lst xs) → H' a = some (.lst xs)) (ht : ∀ a xs, H a = some (.tup xs) → H' a = some (.tup xs)) : ∀ {v : V} {d : PyData}, Dq Ex H v d → Dq Ey H' v d
  | _, _, .non => .non
  | _, _, .bl b => .bl b
  | _, _, .int i => .int i
  | _, _, .str x => .str x
  | _, _, .lst n h r => .lst (fun z => by rw [he _ z n] at h; cases h) (hl _ _ n h) (Dqs.go he hl ht r)
  | _, _, .tup h r => .tup (ht _ _ h) (Dqs.go he hl ht r)
theorem Dqs.go {Ex Ey : Addr → Prop} {H H' : Hp} (he : ∀ a, Ey a → ¬ Ex a → H a = none) (hl : ∀ a xs, ¬ Ex a → H a = some (.lst xs) → H' a = some (.lst xs)) (ht : ∀ a xs, H a = some (.tup xs) → H' a = some (.tup xs)) : ∀ {vs : List V} {ds : List PyData}, Dqs Ex H vs ds → Dqs Ey H' vs ds
  | _, _, .nil => .nil
  | _, _, .cons h r => .cons (Dq.go he hl ht h) (Dqs.go he hl ht r)
end
mutual
theorem Dq.dp {K : PySem.W.Frag} {Ex : Addr → Prop} {H : Hp} : ∀ {v : V} {d : PyData}, Dq Ex H v d → Dp K H v d
  | _, _, .non => .non
  | _, _, .bl b => .bl b
  | _, _, .int i => .int i
  | _, _, .str x => .str x
  | _, _, .lst _ h r => .lst (SqL.of h) (Dqs.dp r)
  | _, _, .tup h r => .tup (SqT.of h) (Dqs.dp r)
theorem Dqs.dp {K : PySem.W.Frag} {Ex : Addr → Prop} {H : Hp} : ∀ {vs : List V} {ds : List PyData}, Dqs Ex H vs ds → DpAll K H vs ds
  | _, _, .nil => .nil
  | _, _, .cons h r => .cons (Dq.dp h) (Dqs.dp r)
end
theorem Dqs.len {Ex : Addr → Prop} {H : Hp} : ∀ {vs : List V} {ds : List PyData}, Dqs Ex H vs ds → vs.length = ds.length
  | _, _, .nil => rfl
  | _, _, .cons _ r => by rw [List.length_cons, List.length_cons, r.len]
theorem Dqs.get {Ex : Addr → Prop} {H : Hp} : ∀ {vs : List V} {ds : List PyData} {i : Nat} {d : PyData}, Dqs Ex H vs ds → ds[i]? = some d → ∃ v, vs[i]? = some v ∧ Dq Ex H v d
  | _, _, 0, _, .cons h _, e => ⟨_, rfl, by obtain rfl := Option.some.inj e; exact h⟩
  | _, _, _ + 1, _, .cons _ r, e => r.get e
theorem Dqs.take {Ex : Addr → Prop} {H : Hp} : ∀ {vs : List V} {ds : List PyData} (n : Nat), Dqs Ex H vs ds → Dqs Ex H (vs.take n) (ds.take n)
  | _, _, 0, _ => .nil
  | _, _, _ + 1, .nil => .nil
  | _, _, n + 1, .cons h r => .cons h (r.take n)
theorem Dqs.drop {Ex : Addr → Prop} {H : Hp} : ∀ {vs : List V} {ds : List PyData} (n : Nat), Dqs Ex H vs ds → Dqs Ex H (vs.drop n) (ds.drop n)
  | _, _, 0, r => r
  | _, _, _ + 1, .nil => .nil
  | _, _, n + 1, .cons _ r => r.drop n
theorem Dqs.app {Ex : Addr → Prop} {H : Hp} : ∀ {vs us : List V} {ds es : List PyData}, Dqs Ex H vs ds → Dqs Ex H us es → Dqs Ex H (vs ++ us) (ds ++ es)
  | _, _, _, _, .nil, r => r
  | _, _, _, _, .cons h r, q => .cons h (r.app q)
/-! the type's name -/
def tyN : PyData → String
  | .none => "NoneType"
  | .bool _ => "bool"
  | .int _ => "int"
  | .str _ => "str"
  | .list _ => "list"
  | .tuple _ => "tuple"
  | .dict _ => "dict"
theorem Dq.ty {K : PySem.W.Frag} {Ex : Addr → Prop} {H : Hp} {v : V} {d : PyData} (h : Dq Ex H v d) : TyX K H v (.type (tyN d)) := by
  cases h with
  | non => exact .base .non
  | bl b => exact .base (.bl b)
  | int i => exact .base (.int i)
  | str x => exact .base (.str x)
  | lst _ h _ => exact .base (.lst h)
  | tup h _ => exact .base (.tup h)
/-! isinstance(d, a built-in) -/
def isB (d : PyData) (n : String) : Bool := match d, n with
  | .bool _, "bool" => true
  | .bool _, "int" => true
  | .int _, "int" => true
  | .str _, "str" => true
  | .list _, "list" => true
  | .tuple _, "tuple" => true
  | _, _ => false
theorem isi_kit {K : PySem.W.Frag} {Ex : Addr → Prop} {H : Hp} {v : V} {d : PyData} {n : String} (h : Dq Ex H v d) (hn : n = "bool" ∨ n = "int" ∨ n = "str" ∨ n = "list" ∨ n = "tuple") : PySem.W.kitOne K (.type (tyN d)) (.type n) = some (isB d n) := by
  refine kit_ty ?_
  have key : ∀ e : PyData, (∀ kvs, e ≠ .dict kvs) → kitB (tyN e) n = some (isB e n) := by
    intro e he
    rcases hn with rfl | rfl | rfl | rfl | rfl <;> cases e <;> first | exact absurd rfl (he _) | rfl
  refine key d fun kvs e => ?_
  subst e
  cases h
theorem n_bool : "bool" = "bool" ∨ "bool" = "int" ∨ "bool" = "str" ∨ "bool" = "list" ∨ "bool" = "tuple" := .inl rfl
theorem n_int : "int" = "bool" ∨ "int" = "int" ∨ "int" = "str" ∨ "int" = "list" ∨ "int" = "tuple" := .inr (.inl rfl)
theorem n_str : "str" = "bool" ∨ "str" = "int" ∨ "str" = "str" ∨ "str" = "list" ∨ "str" = "tuple" := .inr (.inr (.inl rfl))
theorem n_list : "list" = "bool" ∨ "list" = "int" ∨ "list" = "str" ∨ "list" = "list" ∨ "list" = "tuple" := .inr (.inr (.inr (.inl rfl)))
theorem n_tuple : "tuple" = "bool" ∨ "tuple" = "int" ∨ "tuple" = "str" ∨ "tuple" = "list" ∨ "tuple" = "tuple" := .inr (.inr (.inr (.inr rfl)))
/-! x in t, x not in t, of any data -/
def rInTD (K : PySem.W.Frag) : R2 := fun x y H Q => ∃ d ds, Dp K H x d ∧ Dp K H y (.tuple ds) ∧ SeqAt.shaped d = true ∧ SeqAt.shaped (.tuple ds) = true ∧ Q (.bl (ds.any fun z => PyData.eqv z d)) H
def rNotInTD (K : PySem.W.Frag) : R2 := fun x y H Q => ∃ d ds, Dp K H x d ∧ Dp K H y (.tuple ds) ∧ SeqAt.shaped d = true ∧ SeqAt.shaped (.tuple ds) = true ∧ Q (.bl (!ds.any fun z => PyData.eqv z d)) H
theorem op_inTD {X : Cx} (hu : X.A.units + 65 < cLine) : OpR X (compareOp .In) (rInTD X.K) := by
  intro pins s σ H x y v u Q I rx ry h
  obtain ⟨d, ds, hd, he, sd, se, q⟩ := h
  obtain ⟨as, r1⟩ := Dp.reads I d x v hd rx
  obtain ⟨bs, r2⟩ := Dp.reads I (.tuple ds) y u he ry
  exact SeqAt.in_tuple_reads r2 r1 (SeqAt.canLay_of_shaped se) (SeqAt.canLay_of_shaped sd) (room_in_shaped sd hu) ⟨.bl _, H, I, rfl, q⟩
theorem op_notInTD {X : Cx} (hu : X.A.units + 65 < cLine) : OpR X (compareOp .NotIn) (rNotInTD X.K) := by
  intro pins s σ H x y v u Q I rx ry h
  obtain ⟨d, ds, hd, he, sd, se, q⟩ := h
  obtain ⟨as, r1⟩ := Dp.reads I d x v hd rx
  obtain ⟨bs, r2⟩ := Dp.reads I (.tuple ds) y u he ry
  exact SeqAt.notIn_tuple_reads r2 r1 (SeqAt.canLay_of_shaped se) (SeqAt.canLay_of_shaped sd) (room_in_shaped sd hu) ⟨.bl _, H, I, rfl, q⟩
theorem eqv_str {d : PyData} {x : Str} : PyData.eqv d (.str x) = true ↔ d = .str x := by
  cases d <;> simp [PyData.eqv]
theorem eqv_str' {d : PyData} {x : Str} : PyData.eqv (.str x) d = true ↔ d = .str x := by
  cases d <;> simp [PyData.eqv]
  exact ⟨fun e => e.symm, fun e => e.symm⟩
theorem any_strs {hs : List Str} {d : PyData} : ((hs.map PyData.str).any fun z => PyData.eqv z d) = true ↔ ∃ h ∈ hs, d = .str h := by
  rw [List.any_map, List.any_eq_true]
  constructor
  · rintro ⟨h, m, e⟩
    exact ⟨h, m, eqv_str'.mp e⟩
  · rintro ⟨h, m, e⟩
    exact ⟨h, m, eqv_str'.mpr e⟩
/-! data that may be laid, and not too deep -/
def Sh (d : PyData) : Prop := d.canLay0 = true ∧ d.depth ≤ 60
theorem Sh.shaped {d : PyData} (h : Sh d) : SeqAt.shaped d = true := by
  unfold SeqAt.shaped
  rw [h.1, Bool.true_and]
  exact decide_eq_true (Nat.le_trans h.2 (by decide))
theorem sh_all : ∀ {ds : List PyData}, PyData.canLayAll0 ds = true → PyData.depthAll ds ≤ 59 → ∀ d ∈ ds, Sh d
  | x :: xs, h1, h2, d, hd => by
    have h1' : (x.canLay0 && PyData.canLayAll0 xs) = true := h1
    rw [Bool.and_eq_true] at h1'
    have h2' : max x.depth (PyData.depthAll xs) ≤ 59 := h2
    rcases List.mem_cons.mp hd with e | m
    · subst e
      exact ⟨h1'.1, by omega⟩
    · exact sh_all h1'.2 (by omega) d m
theorem Sh.items {ds : List PyData} (h : Sh (.tuple ds)) : ∀ d ∈ ds, Sh d := sh_all h.1 (Nat.le_of_succ_le_succ h.2)
theorem shaped_tup_strs {hs : List Str} (a : ∀ h ∈ hs, PyData.strOk h = true) : SeqAt.shaped (.tuple (hs.map PyData.str)) = true := by
  unfold SeqAt.shaped
  rw [Bool.and_eq_true, decide_eq_true_eq]
  refine ⟨canLay_strs a, ?_⟩
  show PyData.depthAll (hs.map PyData.str) + 1 ≤ 64
  rw [depth_strs]
  decide

/-! ### rows as data, and which clash (point 6) -/
inductive Row where
  | ask (h g : Str) (k n o b : Int)
  | job (h : Str) (k o b : Int)
  | all (h : Str) (a j : Int)
  deriving DecidableEq
def Row.data : Row → List PyData
  | .ask h g k n o b => [.str "ask", .str h, .int k, .int n, .str g, .int o, .int b]
  | .job h k o b => [.str "job", .str h, .int k, .int o, .int b]
  | .all h a j => [.str "all", .str h, .int a, .int j]
def Row.vals (r : Row) : List V := r.data.map Fl.dV
def Row.h : Row → Str
  | .ask h _ _ _ _ _ => h
  | .job h _ _ _ => h
  | .all h _ _ => h
def Row.word : Row → Str
  | .ask _ _ _ _ _ _ => "ask"
  | .job _ _ _ _ => "job"
  | .all _ _ _ => "all"
def NumI (k : Int) : Prop := 0 ≤ k ∧ k ≤ 14
def CntI (k : Int) : Prop := 0 ≤ k ∧ k ≤ 15
def Row.Wf : Row → Prop
  | .ask h g k n o b => PyData.strOk h = true ∧ PyData.strOk g = true ∧ NumI k ∧ NumI n ∧ TimeI o ∧ TimeI b ∧ o ≤ b
  | .job h k o b => PyData.strOk h = true ∧ NumI k ∧ TimeI o ∧ TimeI b ∧ o ≤ b
  | .all h a j => PyData.strOk h = true ∧ CntI a ∧ CntI j
def Row.In (hs : List Str) : Row → Prop
  | .ask h g _ _ _ _ => h ∈ hs ∧ g ∈ hs
  | .job h _ _ _ => h ∈ hs
  | .all h _ _ => h ∈ hs
theorem RowV.row {hs : List Str} {xs : List V} (hh : ∀ h ∈ hs, HouseS h) (x : RowV hs xs) : ∃ r : Row, xs = r.vals ∧ r.Wf ∧ r.In hs := by
  cases x with
  | ask h g k n o b mh mg k0 k1 n0 n1 to tb ob => exact ⟨.ask h g k n o b, rfl, ⟨(hh h mh).ok, (hh g mg).ok, ⟨k0, k1⟩, ⟨n0, n1⟩, to, tb, ob⟩, mh, mg⟩
  | job h k o b mh k0 k1 to tb ob => exact ⟨.job h k o b, rfl, ⟨(hh h mh).ok, ⟨k0, k1⟩, to, tb, ob⟩, mh⟩
  | all h a j mh a0 a1 j0 j1 => exact ⟨.all h a j, rfl, ⟨(hh h mh).ok, ⟨a0, a1⟩, ⟨j0, j1⟩⟩, mh⟩
def RowAt (H : Hp) (a : Addr) (r : Row) : Prop := H a = some (.tup r.vals)
theorem RowAt.t {H : Hp} {a : Addr} {r : Row} (h : RowAt H a r) : SqT K H a r.vals := SqT.of h
theorem at0 (r : Row) : atI r.vals 0 = some (.str r.word) := by cases r <;> rfl
theorem at1 (r : Row) : atI r.vals 1 = some (.str r.h) := by cases r <;> rfl
theorem dp_row {H : Hp} (r : Row) : DpAll K H r.vals r.data := by
  cases r with
  | ask h g k n o b => exact .cons (.str _) (.cons (.str _) (.cons (.int _) (.cons (.int _) (.cons (.str _) (.cons (.int _) (.cons (.int _) .nil))))))
  | job h k o b => exact .cons (.str _) (.cons (.str _) (.cons (.int _) (.cons (.int _) (.cons (.int _) .nil))))
  | all h a j => exact .cons (.str _) (.cons (.str _) (.cons (.int _) (.cons (.int _) .nil)))
theorem RowAt.dp {H : Hp} {a : Addr} {r : Row} (h : RowAt H a r) : Dp K H (.ref a) (.tuple r.data) := Dp.tup h.t (dp_row r)
theorem Row.Wf.sh {r : Row} (h : r.Wf) : SeqAt.shaped (.tuple r.data) = true := by
  unfold SeqAt.shaped
  rw [Bool.and_eq_true]
  cases r with
  | ask h' g k n o b =>
    refine ⟨?_, rfl⟩
    show (PyData.strOk "ask" && (PyData.strOk h' && (true && (true && (PyData.strOk g && (true && (true && true))))))) = true
    rw [h.1, h.2.1]
    decide +kernel
  | job h' k o b =>
    refine ⟨?_, rfl⟩
    show (PyData.strOk "job" && (PyData.strOk h' && (true && (true && (true && true))))) = true
    rw [h.1]
    decide +kernel
  | all h' a j =>
    refine ⟨?_, rfl⟩
    show (PyData.strOk "all" && (PyData.strOk h' && (true && (true && true)))) = true
    rw [h.1]
    decide +kernel
theorem row_eqv (x y : Row) : PyData.eqv (.tuple x.data) (.tuple y.data) = decide (x = y) := by
  have n1 : ((("ask" : Str)) == ("job" : Str)) = false := by decide +kernel
  have n2 : ((("ask" : Str)) == ("all" : Str)) = false := by decide +kernel
  have n3 : ((("job" : Str)) == ("ask" : Str)) = false := by decide +kernel
  have n4 : ((("job" : Str)) == ("all" : Str)) = false := by decide +kernel
  have n5 : ((("all" : Str)) == ("ask" : Str)) = false := by decide +kernel
  have n6 : ((("all" : Str)) == ("job" : Str)) = false := by decide +kernel
  have bdS : ∀ a b : Str, (a == b) = decide (a = b) := fun a b => by by_cases h : a = b <;> simp [h]
  have bdI : ∀ a b : Int, (a == b) = decide (a = b) := fun a b => by by_cases h : a = b <;> simp [h]
  cases x <;> cases y <;> simp [Row.data, PyData.eqv, PyData.eqvAll, n1, n2, n3, n4, n5, n6, bdS, bdI]
  rename_i h g k n o b h' g' k' n' o' b'
  generalize decide (h = h') = c1
  generalize decide (g = g') = c2
  generalize decide (k = k') = c3
  generalize decide (n = n') = c4
  cases c1 <;> cases c2 <;> cases c3 <;> cases c4 <;> rfl
theorem ff {p : Prop} (h : ¬ p) : (false = true ↔ p) := ⟨fun z => Bool.noConfusion z, fun z => absurd z h⟩
theorem tt {p : Prop} (h : p) : (true = true ↔ p) := ⟨fun _ => h, fun _ => rfl⟩
theorem w_aj : ("ask" : Str) ≠ ("job" : Str) := by decide +kernel
theorem w_aa : ("ask" : Str) ≠ ("all" : Str) := by decide +kernel
theorem w_ja : ("job" : Str) ≠ ("all" : Str) := by decide +kernel
theorem dstr {a b : Str} (h : a ≠ b) : decide (V.str a = V.str b) = false := decide_eq_false fun e => h (V.str.inj e)
theorem dstrT (a : Str) : decide (V.str a = V.str a) = true := decide_eq_true rfl
theorem word_len (r : Row) : r.word.length ≤ 3 := by
  cases r
  · exact (by decide +kernel : (Str.ofString "ask").length ≤ 3)
  · exact (by decide +kernel : (Str.ofString "job").length ≤ 3)
  · exact (by decide +kernel : (Str.ofString "all").length ≤ 3)

/-! ### the program's look at rows -/
theorem hu65 {A : Around} {k : Nat} (hr : Room k A) : A.units + 65 < cLine := by have := hr.un; omega
theorem some_int {d : PyData} (h1 : isB d "bool" = false) (h2 : isB d "int" = true) : ∃ i, d = .int i := by
  cases d with
  | int i => exact ⟨i, rfl⟩
  | bool b => exact absurd h1 (by simp [isB])
  | _ => exact absurd h2 (by simp [isB])
def InI (lo hi : Int) (d : PyData) : Prop := ∃ i, d = .int i ∧ lo ≤ i ∧ i ≤ hi
def sp_is_whole_from : Sp := fun vs H Q _ => ∃ (Ex : Addr → Prop) (v : V) (d : PyData) (lo hi : Int), vs = [v, .int lo, .int hi] ∧ Dq Ex H v d ∧ ∀ r : Bool, (r = true ↔ InI lo hi d) → Q (.bl r) H
theorem ok_is_whole_from (T : Txt K mg af fd) : FnOk P w K mg base CX0 1 (af 0) (fd 0) ["thing", "low", "high"] sp_is_whole_from := by
  refine T.F_is_whole_from.ok sc_is_whole_from (fun vs H Q E h => ?_) (fun cdv A outer s H vs Q E hr h => ?_)
  · obtain ⟨Ex, v, d, lo, hi, rfl, _⟩ := h
    rfl
  · obtain ⟨Ex, v, d, lo, hi, rfl, hd, q⟩ := h
    refine ⟨_, (pss_cons (ps_if (PW.pt (pw_or (pt_val (pe_callB call_isi (by rfl) T.m_isinstance (by decide +kernel) (pa_cons (pv 0) (pa_cons (pe_bltn (v := .ty "bool") (by rfl) T.m_bool (by decide +kernel) rfl) pa_nil)))) (pw_or1 (pt_not (pt_val (pe_callB call_isi (by rfl) T.m_isinstance (by decide +kernel) (pa_cons (pv 0) (pa_cons (pe_bltn (v := .ty "int") (by rfl) T.m_int (by decide +kernel) rfl) pa_nil)))))))) (pss_one (ps_ret pe_bl)) pss_nil)
        (pss_one (ps_ret (pe_chain op_le op_le (pv 1) (pv 0) (pv 2))))), ?_⟩
    refine ⟨_, rfl, _, _, _, _, _, rfl, .ty "bool", hd.ty, isi_kit hd n_bool, _, rfl, ?_⟩
    cases e1 : isB d "bool" with
    | true =>
      refine iteT (iteT ?_)
      refine q false (ff fun ⟨i, e, _⟩ => ?_)
      subst e
      exact absurd e1 (by simp [isB])
    | false =>
      refine iteF ⟨_, rfl, _, _, _, _, _, rfl, .ty "int", hd.ty, isi_kit hd n_int, _, rfl, ?_⟩
      cases e2 : isB d "int" with
      | false =>
        refine iteT ?_
        refine q false (ff fun ⟨i, e, _⟩ => ?_)
        subst e
        exact absurd e2 (by simp [isB])
      | true =>
        refine iteF ?_
        obtain ⟨i, rfl⟩ := some_int e1 e2
        cases hd
        refine ⟨_, rfl, _, rfl, _, _, rfl, rfl, _, rfl, ite2 (fun z => ?_) (fun z => ?_)⟩
        · have z1 := of_decide_eq_true z
          refine ⟨_, rfl, _, _, rfl, rfl, q _ ?_⟩
          rw [decide_eq_true_eq]
          exact ⟨fun h => ⟨i, rfl, z1, h⟩, fun ⟨j, e, _, h⟩ => by obtain rfl := PyData.int.inj e; exact h⟩
        · exact q false (ff fun ⟨j, e, h, _⟩ => z (decide_eq_true (by obtain rfl := PyData.int.inj e; exact h)))
def sp_in (lo hi : Int) : Sp := fun vs H Q _ => ∃ (Ex : Addr → Prop) (v : V) (d : PyData), vs = [v] ∧ Dq Ex H v d ∧ ∀ r : Bool, (r = true ↔ InI lo hi d) → Q (.bl r) H
theorem ok_is_time (T : Txt K mg af fd) : FnOk P w K mg base CX0 2 (af 1) (fd 1) ["thing"] (sp_in (-1000000000000) 1000000000000) := by
  refine T.F_is_time.ok sc_is_time (fun vs H Q E h => ?_) (fun cdv A outer s H vs Q E hr h => ?_)
  · obtain ⟨Ex, v, d, rfl, _⟩ := h
    rfl
  · obtain ⟨Ex, v, d, rfl, hd, q⟩ := h
    refine ⟨_, (pss_one (ps_ret (pe_call (ok_is_whole_from T) (hr.mono (by decide)) (by rfl) T.g_is_whole_from T.F_is_whole_from.kp T.b_is_whole_from .nil pass0 (pa_cons (pv 0) (pa_cons (pe_un un_neg (pe_glob (v := .int (1000000000000)) rfl T.c_MOST_TIME.choose_spec ⟨_, rfl⟩)) (pa_cons (pe_glob (v := .int (1000000000000)) rfl T.c_MOST_TIME.choose_spec ⟨_, rfl⟩) pa_nil)))))), ?_⟩
    exact ⟨_, rfl, _, rfl, Ex, v, d, _, _, rfl, hd, q⟩
theorem ok_is_number (T : Txt K mg af fd) : FnOk P w K mg base CX0 2 (af 2) (fd 2) ["thing"] (sp_in 0 14) := by
  refine T.F_is_number.ok sc_is_number (fun vs H Q E h => ?_) (fun cdv A outer s H vs Q E hr h => ?_)
  · obtain ⟨Ex, v, d, rfl, _⟩ := h
    rfl
  · obtain ⟨Ex, v, d, rfl, hd, q⟩ := h
    refine ⟨_, (pss_one (ps_ret (pe_call (ok_is_whole_from T) (hr.mono (by decide)) (by rfl) T.g_is_whole_from T.F_is_whole_from.kp T.b_is_whole_from .nil pass0 (pa_cons (pv 0) (pa_cons pe_int (pa_cons (pe_glob (v := .int (14)) rfl T.c_MOST_NUMBER.choose_spec ⟨_, rfl⟩) pa_nil)))))), ?_⟩
    exact ⟨_, rfl, Ex, v, d, _, _, rfl, hd, q⟩
theorem ok_is_count (T : Txt K mg af fd) : FnOk P w K mg base CX0 2 (af 3) (fd 3) ["thing"] (sp_in 0 15) := by
  refine T.F_is_count.ok sc_is_count (fun vs H Q E h => ?_) (fun cdv A outer s H vs Q E hr h => ?_)
  · obtain ⟨Ex, v, d, rfl, _⟩ := h
    rfl
  · obtain ⟨Ex, v, d, rfl, hd, q⟩ := h
    refine ⟨_, (pss_one (ps_ret (pe_call (ok_is_whole_from T) (hr.mono (by decide)) (by rfl) T.g_is_whole_from T.F_is_whole_from.kp T.b_is_whole_from .nil pass0 (pa_cons (pv 0) (pa_cons pe_int (pa_cons (pe_glob (v := .int (15)) rfl T.c_MOST_COUNT.choose_spec ⟨_, rfl⟩) pa_nil)))))), ?_⟩
    exact ⟨_, rfl, Ex, v, d, _, _, rfl, hd, q⟩
def SpanD (d e : PyData) : Prop := ∃ i j, d = .int i ∧ e = .int j ∧ TimeI i ∧ TimeI j ∧ i ≤ j
def sp_is_span : Sp := fun vs H Q _ => ∃ (Ex : Addr → Prop) (v u : V) (d e : PyData), vs = [v, u] ∧ Dq Ex H v d ∧ Dq Ex H u e ∧ ∀ r : Bool, (r = true ↔ SpanD d e) → Q (.bl r) H
theorem ok_is_span (T : Txt K mg af fd) : FnOk P w K mg base CX0 3 (af 4) (fd 4) ["low", "high"] sp_is_span := by
  refine T.F_is_span.ok sc_is_span (fun vs H Q E h => ?_) (fun cdv A outer s H vs Q E hr h => ?_)
  · obtain ⟨Ex, v, u, d, e, rfl, _⟩ := h
    rfl
  · obtain ⟨Ex, v, u, d, e, rfl, hd, he, q⟩ := h
    refine ⟨_, (pss_one (ps_ret (pe_and (pe_call (ok_is_time T) (hr.mono (by decide)) (by rfl) T.g_is_time T.F_is_time.kp T.b_is_time .nil pass0 (pa_cons (pv 0) pa_nil)) (pe_and (pe_call (ok_is_time T) (hr.mono (by decide)) (by rfl) T.g_is_time T.F_is_time.kp T.b_is_time .nil pass0 (pa_cons (pv 1) pa_nil)) (pe_one (pe_cmpR op_le (pv 0) (pv 1) (nomark _))))))), ?_⟩
    refine ⟨_, rfl, Ex, v, d, rfl, hd, fun r hr1 => ⟨r, rfl, ite2 (fun z => ?_) (fun z => ?_)⟩⟩
    · obtain ⟨i, rfl, i0, i1⟩ := hr1.mp z
      refine ⟨_, rfl, Ex, u, e, rfl, he, fun r2 hr2 => ⟨r2, rfl, ite2 (fun z2 => ?_) (fun z2 => ?_)⟩⟩
      · obtain ⟨j, rfl, j0, j1⟩ := hr2.mp z2
        cases hd
        cases he
        refine ⟨_, rfl, _, rfl, _, _, rfl, rfl, q _ ?_⟩
        rw [decide_eq_true_eq]
        exact ⟨fun h => ⟨i, j, rfl, rfl, ⟨i0, i1⟩, ⟨j0, j1⟩, h⟩, fun ⟨a, b, e1, e2, _, _, h⟩ => by obtain rfl := PyData.int.inj e1; obtain rfl := PyData.int.inj e2; exact h⟩
      · exact q false (ff fun ⟨a, b, e1, e2, _, h, _⟩ => z2 (hr2.mpr ⟨b, e2, h.1, h.2⟩))
    · exact q false (ff fun ⟨a, b, e1, e2, h, _, _⟩ => z (hr1.mpr ⟨a, e1, h.1, h.2⟩))
/-! rows by their data -/
def Row.Bd : Row → Prop
  | .ask _ _ k n o b => NumI k ∧ NumI n ∧ TimeI o ∧ TimeI b ∧ o ≤ b
  | .job _ k o b => NumI k ∧ TimeI o ∧ TimeI b ∧ o ≤ b
  | .all _ a j => CntI a ∧ CntI j
def IsRowD (hs : List Str) (d : PyData) : Prop := ∃ r : Row, d = .tuple r.data ∧ r.In hs ∧ r.Bd
def sp_kind (w : Str) : Sp := fun vs H Q _ => ∃ (Ex : Addr → Prop) (th a : Addr) (hs : List Str) (xs : List V) (ds : List PyData), vs = [.ref th, .ref a] ∧ H th = some (.tup (hs.map V.str)) ∧ (∀ h ∈ hs, PyData.strOk h = true) ∧ H a = some (.tup xs) ∧ Dqs Ex H xs ds ∧ (∀ d ∈ ds, Sh d) ∧
  ∀ r : Bool, (r = true ↔ ∃ x : Row, x.word = w ∧ ds = x.data ∧ x.In hs ∧ x.Bd) → Q (.bl r) H
theorem sh_word {w : Str} (h : PyData.strOk w = true) : SeqAt.shaped (.str w) = true := by
  unfold SeqAt.shaped
  rw [Bool.and_eq_true]
  exact ⟨h, rfl⟩
theorem dp_tup_strs {H : Hp} {th : Addr} {hs : List Str} (h : H th = some (.tup (hs.map V.str))) : Dp K H (.ref th) (.tuple (hs.map PyData.str)) := .tup (SqT.of h) (dp_strs hs)
theorem len_ne {n m : Nat} (h : ¬ (!decide (V.int (n : Int) = V.int (m : Int))) = true) : n = m := by
  have h2 : decide (V.int (n : Int) = V.int (m : Int)) = true := by
    cases e : decide (V.int (n : Int) = V.int (m : Int)) with
    | true => rfl
    | false => exact absurd (by rw [e]; rfl) h
  have h3 := V.int.inj (of_decide_eq_true h2)
  omega
theorem len_ne' {n m : Nat} (h : (!decide (V.int (n : Int) = V.int (m : Int))) = true) : n ≠ m := fun e => by
  rw [e, decide_eq_true rfl] at h
  cases h
theorem ok_is_ask_row (T : Txt K mg af fd) : FnOk P w K mg base CX0 4 (af 5) (fd 5) ["houses", "thing"] (sp_kind "ask") := by
  refine T.F_is_ask_row.ok sc_is_ask_row (fun vs H Q E h => ?_) (fun cdv A outer s H vs Q E hr h => ?_)
  · obtain ⟨Ex, th, a, hs, xs, ds, rfl, _⟩ := h
    rfl
  · obtain ⟨Ex, th, a, hs, xs, ds, rfl, hth, hok, ha, hds, hsh, q⟩ := h
    refine ⟨_, (pss_cons (ps_if (pt_cmpR op_ne (pe_callB call_len_seq (by rfl) T.m_len (by decide +kernel) (pa_cons (pv 1) pa_nil)) pe_int (nomark _)) (pss_one (ps_ret pe_bl)) pss_nil)
        (pss_cons (ps_asg (pv 1) (pg_tup rfl (pgs_cons (pg_name (i := 2) sc_is_ask_row.nd rfl (by first | exact Or.inl rfl | exact Or.inr rfl)) (pgs_cons (pg_name (i := 3) sc_is_ask_row.nd rfl (by first | exact Or.inl rfl | exact Or.inr rfl)) (pgs_cons (pg_name (i := 4) sc_is_ask_row.nd rfl (by first | exact Or.inl rfl | exact Or.inr rfl)) (pgs_cons (pg_name (i := 5) sc_is_ask_row.nd rfl (by first | exact Or.inl rfl | exact Or.inr rfl)) (pgs_cons (pg_name (i := 6) sc_is_ask_row.nd rfl (by first | exact Or.inl rfl | exact Or.inr rfl)) (pgs_cons (pg_name (i := 7) sc_is_ask_row.nd rfl (by first | exact Or.inl rfl | exact Or.inr rfl)) (pgs_cons (pg_name (i := 8) sc_is_ask_row.nd rfl (by first | exact Or.inl rfl | exact Or.inr rfl)) pgs_nil)))))))))
        (pss_cons (ps_if (PW.pt (pw_or (pt_cmpR (op_neD hr.units) (pv 2) pe_str (nomark _)) (pw_or (pt_cmpR (op_notInTD (hu65 hr)) (pv 3) (pv 0) (by rfl)) (pw_or1 (pt_cmpR (op_notInTD (hu65 hr)) (pv 6) (pv 0) (by rfl)))))) (pss_one (ps_ret pe_bl)) pss_nil)
        (pss_one (ps_ret (pe_and (pe_call (ok_is_number T) (hr.mono (by decide)) (by rfl) T.g_is_number T.F_is_number.kp T.b_is_number .nil pass0 (pa_cons (pv 4) pa_nil)) (pe_and (pe_call (ok_is_number T) (hr.mono (by decide)) (by rfl) T.g_is_number T.F_is_number.kp T.b_is_number .nil pass0 (pa_cons (pv 5) pa_nil)) (pe_one (pe_call (ok_is_span T) (hr.mono (by decide)) (by rfl) T.g_is_span T.F_is_span.kp T.b_is_span .nil pass0 (pa_cons (pv 7) (pa_cons (pv 8) pa_nil))))))))))), ?_⟩
    refine ⟨_, rfl, a, _, rfl, .inr (SqT.of ha), rfl, _, rfl, ite2 (fun z => ?_) (fun z => ?_)⟩
    · refine q false (ff fun ⟨x, e, e2, _⟩ => len_ne' (m := 7) z ?_)
      rw [hds.len, e2]
      cases x with
      | ask => rfl
      | job => exact absurd e.symm w_aj
      | all => exact absurd e.symm w_aa
    have hl := len_ne (m := 7) z
    have hl2 := hds.len.symm.trans hl
    match xs, ds, hds, hl with
    | [v0, v1, v2, v3, v4, v5, v6], [d0, d1, d2, d3, d4, d5, d6], .cons q0 (.cons q1 (.cons q2 (.cons q3 (.cons q4 (.cons q5 (.cons q6 .nil)))))), _ =>
      refine ⟨_, rfl, a, _, rfl, SqT.of ha, rfl, _, _, rfl, _, _, rfl, _, _, rfl, _, _, rfl, _, _, rfl, _, _, rfl, _, _, rfl, rfl, ?_⟩
      refine ⟨_, rfl, d0, .str "ask", q0.dp, .str _, (hsh d0 (by simp)).shaped, sh_word (by decide +kernel), _, rfl, ite2 (fun z0 => iteT ?_) (fun z0 => ?_)⟩
      · refine q false (ff fun ⟨x, e, e2, _⟩ => ?_)
        have e3 : d0 = .str "ask" := by
          cases x with
          | ask => exact (List.cons.inj e2).1
          | job => exact absurd e.symm w_aj
          | all => exact absurd e.symm w_aa
        rw [eqv_str.mpr e3] at z0
        cases z0
      have e0 : d0 = .str "ask" := eqv_str.mp (by
        cases e : PyData.eqv d0 (.str "ask") with
        | true => rfl
        | false => exact absurd (by rw [e]; rfl) z0)
      subst e0
      refine ⟨_, rfl, _, rfl, d1, _, q1.dp, dp_tup_strs hth, (hsh d1 (by simp)).shaped, shaped_tup_strs hok, _, rfl, ite2 (fun z1 => iteT ?_) (fun z1 => ?_)⟩
      · refine q false (ff fun ⟨x, e, e2, hin, _⟩ => ?_)
        cases x with
        | ask h g k n o b =>
          have e3 := (List.cons.inj (List.cons.inj e2).2).1
          rw [any_strs.mpr ⟨h, hin.1, e3⟩] at z1
          cases z1
        | job => exact absurd e.symm w_aj
        | all => exact absurd e.symm w_aa
      obtain ⟨h, mh, rfl⟩ : ∃ h ∈ hs, d1 = .str h := any_strs.mp (by
        cases e : ((hs.map PyData.str).any fun z => PyData.eqv z d1) with
        | true => rfl
        | false => exact absurd (by rw [e]; rfl) z1)
      refine ⟨_, rfl, _, rfl, d4, _, q4.dp, dp_tup_strs hth, (hsh d4 (by simp)).shaped, shaped_tup_strs hok, _, rfl, ite2 (fun z4 => ?_) (fun z4 => ?_)⟩
      · refine q false (ff fun ⟨x, e, e2, hin, _⟩ => ?_)
        cases x with
        | ask h g k n o b =>
          simp only [Row.data, List.cons.injEq] at e2
          rw [any_strs.mpr ⟨g, hin.2, e2.2.2.2.2.1⟩] at z4
          cases z4
        | job => exact absurd e.symm w_aj
        | all => exact absurd e.symm w_aa
      obtain ⟨g, mg4, rfl⟩ : ∃ h ∈ hs, d4 = .str h := any_strs.mp (by
        cases e : ((hs.map PyData.str).any fun z => PyData.eqv z d4) with
        | true => rfl
        | false => exact absurd (by rw [e]; rfl) z4)
      refine ⟨_, rfl, Ex, v2, d2, rfl, q2, fun r2 h2 => ⟨r2, rfl, ite2 (fun z2 => ?_) (fun z2 => ?_)⟩⟩
      · obtain ⟨k, rfl, k0, k1⟩ := h2.mp z2
        refine ⟨_, rfl, Ex, v3, d3, rfl, q3, fun r3 h3 => ⟨r3, rfl, ite2 (fun z3 => ?_) (fun z3 => ?_)⟩⟩
        · obtain ⟨n, rfl, n0, n1⟩ := h3.mp z3
          refine ⟨_, rfl, _, rfl, Ex, v5, v6, d5, d6, rfl, q5, q6, fun r hr6 => q r ?_⟩
          rw [hr6]
          constructor
          · rintro ⟨i, j, rfl, rfl, ti, tj, ij⟩
            exact ⟨.ask h g k n i j, rfl, rfl, ⟨mh, mg4⟩, ⟨k0, k1⟩, ⟨n0, n1⟩, ti, tj, ij⟩
          · rintro ⟨x, e, e2, hin, hb⟩
            cases x with
            | ask h' g' k' n' o' b' =>
              simp only [Row.data, List.cons.injEq] at e2
              exact ⟨o', b', e2.2.2.2.2.2.1, e2.2.2.2.2.2.2.1, hb.2.2.1, hb.2.2.2.1, hb.2.2.2.2⟩
            | job => exact absurd e.symm w_aj
            | all => exact absurd e.symm w_aa
        · refine q false (ff fun ⟨x, e, e2, hin, hb⟩ => z3 (h3.mpr ?_))
          cases x with
          | ask h' g' k' n' o' b' =>
            simp only [Row.data, List.cons.injEq] at e2
            exact ⟨n', e2.2.2.2.1, hb.2.1.1, hb.2.1.2⟩
          | job => exact absurd e.symm w_aj
          | all => exact absurd e.symm w_aa
      · refine q false (ff fun ⟨x, e, e2, hin, hb⟩ => z2 (h2.mpr ?_))
        cases x with
        | ask h' g' k' n' o' b' =>
          simp only [Row.data, List.cons.injEq] at e2
          exact ⟨k', e2.2.2.1, hb.1.1, hb.1.2⟩
        | job => exact absurd e.symm w_aj
        | all => exact absurd e.symm w_aa
theorem ok_is_job_row (T : Txt K mg af fd) : FnOk P w K mg base CX0 4 (af 6) (fd 6) ["houses", "thing"] (sp_kind "job") := by
  refine T.F_is_job_row.ok sc_is_job_row (fun vs H Q E h => ?_) (fun cdv A outer s H vs Q E hr h => ?_)
  · obtain ⟨Ex, th, a, hs, xs, ds, rfl, _⟩ := h
    rfl
  · obtain ⟨Ex, th, a, hs, xs, ds, rfl, hth, hok, ha, hds, hsh, q⟩ := h
    refine ⟨_, (pss_cons (ps_if (pt_cmpR op_ne (pe_callB call_len_seq (by rfl) T.m_len (by decide +kernel) (pa_cons (pv 1) pa_nil)) pe_int (nomark _)) (pss_one (ps_ret pe_bl)) pss_nil)
        (pss_cons (ps_asg (pv 1) (pg_tup rfl (pgs_cons (pg_name (i := 2) sc_is_job_row.nd rfl (by first | exact Or.inl rfl | exact Or.inr rfl)) (pgs_cons (pg_name (i := 3) sc_is_job_row.nd rfl (by first | exact Or.inl rfl | exact Or.inr rfl)) (pgs_cons (pg_name (i := 4) sc_is_job_row.nd rfl (by first | exact Or.inl rfl | exact Or.inr rfl)) (pgs_cons (pg_name (i := 5) sc_is_job_row.nd rfl (by first | exact Or.inl rfl | exact Or.inr rfl)) (pgs_cons (pg_name (i := 6) sc_is_job_row.nd rfl (by first | exact Or.inl rfl | exact Or.inr rfl)) pgs_nil)))))))
        (pss_cons (ps_if (PW.pt (pw_or (pt_cmpR (op_neD hr.units) (pv 2) pe_str (nomark _)) (pw_or1 (pt_cmpR (op_notInTD (hu65 hr)) (pv 3) (pv 0) (by rfl))))) (pss_one (ps_ret pe_bl)) pss_nil)
        (pss_one (ps_ret (pe_and (pe_call (ok_is_number T) (hr.mono (by decide)) (by rfl) T.g_is_number T.F_is_number.kp T.b_is_number .nil pass0 (pa_cons (pv 4) pa_nil)) (pe_one (pe_call (ok_is_span T) (hr.mono (by decide)) (by rfl) T.g_is_span T.F_is_span.kp T.b_is_span .nil pass0 (pa_cons (pv 5) (pa_cons (pv 6) pa_nil)))))))))), ?_⟩
    refine ⟨_, rfl, a, _, rfl, .inr (SqT.of ha), rfl, _, rfl, ite2 (fun z => ?_) (fun z => ?_)⟩
    · refine q false (ff fun ⟨x, e, e2, _⟩ => len_ne' (m := 5) z ?_)
      rw [hds.len, e2]
      cases x with
      | job => rfl
      | ask => exact absurd e w_aj
      | all => exact absurd e.symm w_ja
    have hl := len_ne (m := 5) z
    match xs, ds, hds, hl with
    | [v0, v1, v2, v3, v4], [d0, d1, d2, d3, d4], .cons q0 (.cons q1 (.cons q2 (.cons q3 (.cons q4 .nil)))), _ =>
      refine ⟨_, rfl, a, _, rfl, SqT.of ha, rfl, _, _, rfl, _, _, rfl, _, _, rfl, _, _, rfl, _, _, rfl, rfl, ?_⟩
      refine ⟨_, rfl, d0, .str "job", q0.dp, .str _, (hsh d0 (by simp)).shaped, sh_word (by decide +kernel), _, rfl, ite2 (fun z0 => iteT ?_) (fun z0 => ?_)⟩
      · refine q false (ff fun ⟨x, e, e2, _⟩ => ?_)
        have e3 : d0 = .str "job" := by
          cases x with
          | job => exact (List.cons.inj e2).1
          | ask => exact absurd e w_aj
          | all => exact absurd e.symm w_ja
        rw [eqv_str.mpr e3] at z0
        cases z0
      have e0 : d0 = .str "job" := eqv_str.mp (by
        cases e : PyData.eqv d0 (.str "job") with
        | true => rfl
        | false => exact absurd (by rw [e]; rfl) z0)
      subst e0
      refine ⟨_, rfl, _, rfl, d1, _, q1.dp, dp_tup_strs hth, (hsh d1 (by simp)).shaped, shaped_tup_strs hok, _, rfl, ite2 (fun z1 => ?_) (fun z1 => ?_)⟩
      · refine q false (ff fun ⟨x, e, e2, hin, _⟩ => ?_)
        cases x with
        | job h k o b =>
          have e3 := (List.cons.inj (List.cons.inj e2).2).1
          rw [any_strs.mpr ⟨h, hin, e3⟩] at z1
          cases z1
        | ask => exact absurd e w_aj
        | all => exact absurd e.symm w_ja
      obtain ⟨h, mh, rfl⟩ : ∃ h ∈ hs, d1 = .str h := any_strs.mp (by
        cases e : ((hs.map PyData.str).any fun z => PyData.eqv z d1) with
        | true => rfl
        | false => exact absurd (by rw [e]; rfl) z1)
      refine ⟨_, rfl, Ex, v2, d2, rfl, q2, fun r2 h2 => ⟨r2, rfl, ite2 (fun z2 => ?_) (fun z2 => ?_)⟩⟩
      · obtain ⟨k, rfl, k0, k1⟩ := h2.mp z2
        refine ⟨_, rfl, _, rfl, Ex, v3, v4, d3, d4, rfl, q3, q4, fun r hr6 => q r ?_⟩
        rw [hr6]
        constructor
        · rintro ⟨i, j, rfl, rfl, ti, tj, ij⟩
          exact ⟨.job h k i j, rfl, rfl, mh, ⟨k0, k1⟩, ti, tj, ij⟩
        · rintro ⟨x, e, e2, hin, hb⟩
          cases x with
          | job h' k' o' b' =>
            simp only [Row.data, List.cons.injEq] at e2
            exact ⟨o', b', e2.2.2.2.1, e2.2.2.2.2.1, hb.2.1, hb.2.2.1, hb.2.2.2⟩
          | ask => exact absurd e w_aj
          | all => exact absurd e.symm w_ja
      · refine q false (ff fun ⟨x, e, e2, hin, hb⟩ => z2 (h2.mpr ?_))
        cases x with
        | job h' k' o' b' =>
          simp only [Row.data, List.cons.injEq] at e2
          exact ⟨k', e2.2.2.1, hb.1.1, hb.1.2⟩
        | ask => exact absurd e w_aj
        | all => exact absurd e.symm w_ja
theorem ok_is_all_row (T : Txt K mg af fd) : FnOk P w K mg base CX0 3 (af 7) (fd 7) ["houses", "thing"] (sp_kind "all") := by
  refine T.F_is_all_row.ok sc_is_all_row (fun vs H Q E h => ?_) (fun cdv A outer s H vs Q E hr h => ?_)
  · obtain ⟨Ex, th, a, hs, xs, ds, rfl, _⟩ := h
    rfl
  · obtain ⟨Ex, th, a, hs, xs, ds, rfl, hth, hok, ha, hds, hsh, q⟩ := h
    refine ⟨_, (pss_cons (ps_if (pt_cmpR op_ne (pe_callB call_len_seq (by rfl) T.m_len (by decide +kernel) (pa_cons (pv 1) pa_nil)) pe_int (nomark _)) (pss_one (ps_ret pe_bl)) pss_nil)
        (pss_cons (ps_asg (pv 1) (pg_tup rfl (pgs_cons (pg_name (i := 2) sc_is_all_row.nd rfl (by first | exact Or.inl rfl | exact Or.inr rfl)) (pgs_cons (pg_name (i := 3) sc_is_all_row.nd rfl (by first | exact Or.inl rfl | exact Or.inr rfl)) (pgs_cons (pg_name (i := 4) sc_is_all_row.nd rfl (by first | exact Or.inl rfl | exact Or.inr rfl)) (pgs_cons (pg_name (i := 5) sc_is_all_row.nd rfl (by first | exact Or.inl rfl | exact Or.inr rfl)) pgs_nil))))))
        (pss_cons (ps_if (PW.pt (pw_or (pt_cmpR (op_neD hr.units) (pv 2) pe_str (nomark _)) (pw_or1 (pt_cmpR (op_notInTD (hu65 hr)) (pv 3) (pv 0) (by rfl))))) (pss_one (ps_ret pe_bl)) pss_nil)
        (pss_one (ps_ret (pe_and (pe_call (ok_is_count T) (hr.mono (by decide)) (by rfl) T.g_is_count T.F_is_count.kp T.b_is_count .nil pass0 (pa_cons (pv 4) pa_nil)) (pe_one (pe_call (ok_is_count T) (hr.mono (by decide)) (by rfl) T.g_is_count T.F_is_count.kp T.b_is_count .nil pass0 (pa_cons (pv 5) pa_nil))))))))), ?_⟩
    refine ⟨_, rfl, a, _, rfl, .inr (SqT.of ha), rfl, _, rfl, ite2 (fun z => ?_) (fun z => ?_)⟩
    · refine q false (ff fun ⟨x, e, e2, _⟩ => len_ne' (m := 4) z ?_)
      rw [hds.len, e2]
      cases x with
      | all => rfl
      | ask => exact absurd e w_aa
      | job => exact absurd e w_ja
    have hl := len_ne (m := 4) z
    match xs, ds, hds, hl with
    | [v0, v1, v2, v3], [d0, d1, d2, d3], .cons q0 (.cons q1 (.cons q2 (.cons q3 .nil))), _ =>
      refine ⟨_, rfl, a, _, rfl, SqT.of ha, rfl, _, _, rfl, _, _, rfl, _, _, rfl, _, _, rfl, rfl, ?_⟩
      refine ⟨_, rfl, d0, .str "all", q0.dp, .str _, (hsh d0 (by simp)).shaped, sh_word (by decide +kernel), _, rfl, ite2 (fun z0 => iteT ?_) (fun z0 => ?_)⟩
      · refine q false (ff fun ⟨x, e, e2, _⟩ => ?_)
        have e3 : d0 = .str "all" := by
          cases x with
          | all => exact (List.cons.inj e2).1
          | ask => exact absurd e w_aa
          | job => exact absurd e w_ja
        rw [eqv_str.mpr e3] at z0
        cases z0
      have e0 : d0 = .str "all" := eqv_str.mp (by
        cases e : PyData.eqv d0 (.str "all") with
        | true => rfl
        | false => exact absurd (by rw [e]; rfl) z0)
      subst e0
      refine ⟨_, rfl, _, rfl, d1, _, q1.dp, dp_tup_strs hth, (hsh d1 (by simp)).shaped, shaped_tup_strs hok, _, rfl, ite2 (fun z1 => ?_) (fun z1 => ?_)⟩
      · refine q false (ff fun ⟨x, e, e2, hin, _⟩ => ?_)
        cases x with
        | all h a j =>
          have e3 := (List.cons.inj (List.cons.inj e2).2).1
          rw [any_strs.mpr ⟨h, hin, e3⟩] at z1
          cases z1
        | ask => exact absurd e w_aa
        | job => exact absurd e w_ja
      obtain ⟨h, mh, rfl⟩ : ∃ h ∈ hs, d1 = .str h := any_strs.mp (by
        cases e : ((hs.map PyData.str).any fun z => PyData.eqv z d1) with
        | true => rfl
        | false => exact absurd (by rw [e]; rfl) z1)
      refine ⟨_, rfl, Ex, v2, d2, rfl, q2, fun r2 h2 => ⟨r2, rfl, ite2 (fun z2 => ?_) (fun z2 => ?_)⟩⟩
      · obtain ⟨k, rfl, k0, k1⟩ := h2.mp z2
        refine ⟨_, rfl, Ex, v3, d3, rfl, q3, fun r hr6 => q r ?_⟩
        rw [hr6]
        constructor
        · rintro ⟨i, rfl, i0, i1⟩
          exact ⟨.all h k i, rfl, rfl, mh, ⟨k0, k1⟩, ⟨i0, i1⟩⟩
        · rintro ⟨x, e, e2, hin, hb⟩
          cases x with
          | all h' a' j' =>
            simp only [Row.data, List.cons.injEq] at e2
            exact ⟨j', e2.2.2.2.1, hb.2.1, hb.2.2⟩
          | ask => exact absurd e w_aa
          | job => exact absurd e w_ja
      · refine q false (ff fun ⟨x, e, e2, hin, hb⟩ => z2 (h2.mpr ?_))
        cases x with
        | all h' a' j' =>
          simp only [Row.data, List.cons.injEq] at e2
          exact ⟨a', e2.2.2.1, hb.1.1, hb.1.2⟩
        | ask => exact absurd e w_aa
        | job => exact absurd e w_ja
def sp_is_row : Sp := fun vs H Q _ => ∃ (Ex : Addr → Prop) (t : Addr) (v : V) (d : PyData) (hs gs : List Str), vs = [.ref t, v] ∧ TownAt H t hs gs ∧ (∀ h ∈ hs, PyData.strOk h = true) ∧ Dq Ex H v d ∧ Sh d ∧ ∀ r : Bool, (r = true ↔ IsRowD hs d) → Q (.bl r) H
theorem ok_is_row (T : Txt K mg af fd) : FnOk P w K mg base CX0 5 (af 8) (fd 8) ["town", "thing"] sp_is_row := by
  refine T.F_is_row.ok sc_is_row (fun vs H Q E h => ?_) (fun cdv A outer s H vs Q E hr h => ?_)
  · obtain ⟨Ex, t, v, d, hs, gs, rfl, _⟩ := h
    rfl
  · obtain ⟨Ex, t, v, d, hs, gs, rfl, ⟨th, tg, t1, t2, t3⟩, hok, hd, hsh, q⟩ := h
    refine ⟨_, (pss_cons (ps_if (pt_not (pt_val (pe_callB call_isi (by rfl) T.m_isinstance (by decide +kernel) (pa_cons (pv 1) (pa_cons (pe_bltn (v := .ty "tuple") (by rfl) T.m_tuple (by decide +kernel) rfl) pa_nil))))) (pss_one (ps_ret pe_bl)) pss_nil)
        (pss_cons (ps_set (i := 2) sc_is_row.nd rfl (by first | exact Or.inl rfl | exact Or.inr rfl) (pe_ix ix_tup (pv 0) pe_int (fun _ _ => rfl)))
        (pss_one (ps_ret (pe_or (pe_call (ok_is_ask_row T) (hr.mono (by decide)) (by rfl) T.g_is_ask_row T.F_is_ask_row.kp T.b_is_ask_row .nil pass0 (pa_cons (pv 2) (pa_cons (pv 1) pa_nil))) (pe_or (pe_call (ok_is_job_row T) (hr.mono (by decide)) (by rfl) T.g_is_job_row T.F_is_job_row.kp T.b_is_job_row .nil pass0 (pa_cons (pv 2) (pa_cons (pv 1) pa_nil))) (pe_one (pe_call (ok_is_all_row T) (hr.mono (by decide)) (by rfl) T.g_is_all_row T.F_is_all_row.kp T.b_is_all_row .nil pass0 (pa_cons (pv 2) (pa_cons (pv 1) pa_nil)))))))))), ?_⟩
    refine ⟨_, rfl, _, _, _, _, _, rfl, .ty "tuple", hd.ty, isi_kit hd n_tuple, _, rfl, ?_⟩
    cases hd with
    | @tup a xs ds ha hds =>
      refine iteF ?_
      refine ⟨_, rfl, t, _, 0, _, rfl, rfl, SqT.of t1, rfl, ?_⟩
      have sub := hsh.items
      refine ⟨_, rfl, _, rfl, Ex, th, a, hs, xs, ds, rfl, t2, hok, ha, hds, sub, fun r1 h1 => ⟨r1, rfl, ite2 (fun z => ?_) (fun z => ?_)⟩⟩
      · refine q true (tt ?_)
        obtain ⟨x, _, e, hin, hb⟩ := h1.mp z
        exact ⟨x, by rw [e], hin, hb⟩
      refine ⟨_, rfl, _, rfl, Ex, th, a, hs, xs, ds, rfl, t2, hok, ha, hds, sub, fun r2 h2 => ⟨r2, rfl, ite2 (fun z2 => ?_) (fun z2 => ?_)⟩⟩
      · refine q true (tt ?_)
        obtain ⟨x, _, e, hin, hb⟩ := h2.mp z2
        exact ⟨x, by rw [e], hin, hb⟩
      refine ⟨_, rfl, _, rfl, Ex, th, a, hs, xs, ds, rfl, t2, hok, ha, hds, sub, fun r3 h3 => q r3 ?_⟩
      rw [h3]
      constructor
      · rintro ⟨x, _, e, hin, hb⟩
        exact ⟨x, by rw [e], hin, hb⟩
      · rintro ⟨x, e, hin, hb⟩
        have e1 : ds = x.data := PyData.tuple.inj e
        cases x with
        | ask h g k n o b => exact absurd (h1.mpr ⟨_, rfl, e1, hin, hb⟩) z
        | job h k o b => exact absurd (h2.mpr ⟨_, rfl, e1, hin, hb⟩) z2
        | all h a j => exact ⟨_, rfl, e1, hin, hb⟩
    | _ =>
      refine iteT (q false (ff fun ⟨x, e, _⟩ => nomatch e))

/-! ### the law's look at rows -/
theorem Dq.same {Ex : Addr → Prop} {H H' : Hp} {v : V} {d : PyData} (h : Dq Ex H v d) (s : Same H H') : Dq Ex H' v d := h.go (fun _ a b => absurd a b) (fun _ _ _ e => s _ _ e) (fun _ _ e => s _ _ e)
theorem Dqs.same {Ex : Addr → Prop} {H H' : Hp} {v : List V} {d : List PyData} (h : Dqs Ex H v d) (s : Same H H') : Dqs Ex H' v d := h.go (fun _ a b => absurd a b) (fun _ _ _ e => s _ _ e) (fun _ _ e => s _ _ e)
theorem TownAt.same' {t : Addr} {H H' : Hp} {hs gs : List Str} (h : TownAt H t hs gs) (s : Same H H') : TownAt H' t hs gs := by
  obtain ⟨a, b, h1, h2, h3⟩ := h
  exact ⟨a, b, s _ _ h1, s _ _ h2, s _ _ h3⟩
def sp_l_whole : Sp := fun vs H Q _ => ∃ (Ex : Addr → Prop) (v : V) (d : PyData), vs = [v] ∧ Dq Ex H v d ∧ ∀ r : Bool, (r = true ↔ ∃ i, d = .int i) → Q (.bl r) H
theorem ok_l_whole (T : Txt K mg af fd) : FnOk P w K mg base CX0 1 (af 15) (fd 15) ["thing"] sp_l_whole := by
  refine T.F_l_whole.ok sc_l_whole (fun vs H Q E h => ?_) (fun cdv A outer s H vs Q E hr h => ?_)
  · obtain ⟨Ex, v, d, rfl, _⟩ := h
    rfl
  · obtain ⟨Ex, v, d, rfl, hd, q⟩ := h
    refine ⟨_, (pss_one (ps_ret (pe_and (pe_callB call_isi (by rfl) T.m_isinstance (by decide +kernel) (pa_cons (pv 0) (pa_cons (pe_bltn (v := .ty "int") (by rfl) T.m_int (by decide +kernel) rfl) pa_nil))) (pe_one (pe_not (pe_callB call_isi (by rfl) T.m_isinstance (by decide +kernel) (pa_cons (pv 0) (pa_cons (pe_bltn (v := .ty "bool") (by rfl) T.m_bool (by decide +kernel) rfl) pa_nil)))))))), ?_⟩
    refine ⟨_, rfl, _, _, _, _, _, rfl, .ty "int", hd.ty, isi_kit hd n_int, _, rfl, ?_⟩
    cases e1 : isB d "int" with
    | false =>
      refine iteF (q false (ff fun ⟨i, e⟩ => ?_))
      subst e
      exact absurd e1 (by simp [isB])
    | true =>
      refine iteT ⟨_, rfl, _, _, _, _, _, rfl, .ty "bool", hd.ty, isi_kit hd n_bool, _, rfl, q _ ?_⟩
      cases e2 : isB d "bool" with
      | true =>
        refine ff fun ⟨i, e⟩ => ?_
        subst e
        exact absurd e2 (by simp [isB])
      | false => exact tt (some_int e2 e1)
/-! the forms -/
def formL (w : Str) : List Nat := if w = "ask" then [104, 110, 110, 104, 116, 116] else if w = "job" then [104, 110, 116, 116] else [104, 99, 99]
theorem formL_ask : formL "ask" = [104, 110, 110, 104, 116, 116] := if_pos rfl
theorem formL_job : formL "job" = [104, 110, 116, 116] := (if_neg fun e => w_aj e.symm).trans (if_pos rfl)
theorem formL_all : formL "all" = [104, 99, 99] := (if_neg fun e => w_aa e.symm).trans (if_neg fun e => w_ja e.symm)
def formsV : List (Key × V) := [(Sum.inr "ask", .str (SX.S [104, 110, 110, 104, 116, 116])), (Sum.inr "job", .str (SX.S [104, 110, 116, 116])), (Sum.inr "all", .str (SX.S [104, 99, 99]))]
def Is3 (w : Str) : Prop := w = "ask" ∨ w = "job" ∨ w = "all"
theorem formsV_at {w : Str} (h : Is3 w) : valV formsV (Sum.inr w) = some (.str (SX.S (formL w))) := by
  rcases h with rfl | rfl | rfl
  · rw [formL_ask]; rfl
  · rw [formL_job]; rfl
  · rw [formL_all]; rfl
theorem formsV_no {w : Str} (h : ¬ Is3 w) : valV formsV (Sum.inr w) = none := by
  have h1 : ¬ (Sum.inr "ask" : Key) = Sum.inr w := fun e => h (.inl (Sum.inr.inj e).symm)
  have h2 : ¬ (Sum.inr "job" : Key) = Sum.inr w := fun e => h (.inr (.inl (Sum.inr.inj e).symm))
  have h3 : ¬ (Sum.inr "all" : Key) = Sum.inr w := fun e => h (.inr (.inr (Sum.inr.inj e).symm))
  unfold valV formsV
  rw [List.find?_cons_of_neg (by simpa using h1), List.find?_cons_of_neg (by simpa using h2), List.find?_cons_of_neg (by simpa using h3)]
  rfl
def loC (c : Nat) : Int := if c = 116 then -1000000000000 else 0
def hiC (c : Nat) : Int := if c = 116 then 1000000000000 else if c = 110 then 14 else 15
def okP (hs : List Str) (c : Nat) (d : PyData) : Prop := if c = 104 then ∃ h ∈ hs, d = .str h else InI (loC c) (hiC c) d
theorem row_word {r : Row} {ds : List PyData} {w : Str} (h : .str w :: ds = r.data) : r.word = w := by
  cases r <;> exact (PyData.str.inj (List.cons.inj h).1).symm
theorem word3 (r : Row) : Is3 r.word := by
  cases r
  · exact .inl rfl
  · exact .inr (.inl rfl)
  · exact .inr (.inr rfl)
theorem row_len (r : Row) : r.data.length = 1 + (formL r.word).length := by
  cases r
  · show 7 = 1 + (formL "ask").length
    rw [formL_ask]; rfl
  · show 5 = 1 + (formL "job").length
    rw [formL_job]; rfl
  · show 4 = 1 + (formL "all").length
    rw [formL_all]; rfl
/-! a row's parts are as its form says -/
theorem row_okP {hs : List Str} {r : Row} (hin : r.In hs) (hb : r.Bd) : ∀ (j c : Nat) (d : PyData), (formL r.word)[j]? = some c → r.data[j + 1]? = some d → okP hs c d := by
  have h110 : ∀ k : Int, NumI k → okP hs 110 (.int k) := fun k h => ⟨k, rfl, h.1, h.2⟩
  have h99 : ∀ k : Int, CntI k → okP hs 99 (.int k) := fun k h => ⟨k, rfl, h.1, h.2⟩
  have h116 : ∀ k : Int, TimeI k → okP hs 116 (.int k) := fun k h => ⟨k, rfl, h.1, h.2⟩
  have h104 : ∀ h : Str, h ∈ hs → okP hs 104 (.str h) := fun h m => ⟨h, m, rfl⟩
  intro j c d hc hd
  cases r with
  | ask h g k n o b =>
    have hc : (formL "ask")[j]? = some c := hc
    rw [formL_ask] at hc
    match j, hc, hd with
    | 0, hc, hd => obtain rfl := Option.some.inj hc; obtain rfl := Option.some.inj hd; exact h104 h hin.1
    | 1, hc, hd => obtain rfl := Option.some.inj hc; obtain rfl := Option.some.inj hd; exact h110 k hb.1
    | 2, hc, hd => obtain rfl := Option.some.inj hc; obtain rfl := Option.some.inj hd; exact h110 n hb.2.1
    | 3, hc, hd => obtain rfl := Option.some.inj hc; obtain rfl := Option.some.inj hd; exact h104 g hin.2
    | 4, hc, hd => obtain rfl := Option.some.inj hc; obtain rfl := Option.some.inj hd; exact h116 o hb.2.2.1
    | 5, hc, hd => obtain rfl := Option.some.inj hc; obtain rfl := Option.some.inj hd; exact h116 b hb.2.2.2.1
  | job h k o b =>
    have hc : (formL "job")[j]? = some c := hc
    rw [formL_job] at hc
    match j, hc, hd with
    | 0, hc, hd => obtain rfl := Option.some.inj hc; obtain rfl := Option.some.inj hd; exact h104 h hin
    | 1, hc, hd => obtain rfl := Option.some.inj hc; obtain rfl := Option.some.inj hd; exact h110 k hb.1
    | 2, hc, hd => obtain rfl := Option.some.inj hc; obtain rfl := Option.some.inj hd; exact h116 o hb.2.1
    | 3, hc, hd => obtain rfl := Option.some.inj hc; obtain rfl := Option.some.inj hd; exact h116 b hb.2.2.1
  | all h a i =>
    have hc : (formL "all")[j]? = some c := hc
    rw [formL_all] at hc
    match j, hc, hd with
    | 0, hc, hd => obtain rfl := Option.some.inj hc; obtain rfl := Option.some.inj hd; exact h104 h hin
    | 1, hc, hd => obtain rfl := Option.some.inj hc; obtain rfl := Option.some.inj hd; exact h99 a hb.1
    | 2, hc, hd => obtain rfl := Option.some.inj hc; obtain rfl := Option.some.inj hd; exact h99 i hb.2
theorem formL_mem {w : Str} (h : Is3 w) : ∀ c ∈ formL w, c = 104 ∨ c = 110 ∨ c = 116 ∨ c = 99 := by
  intro c hc
  rcases h with rfl | rfl | rfl
  · rw [formL_ask] at hc
    simp at hc
    omega
  · rw [formL_job] at hc
    simp at hc
    omega
  · rw [formL_all] at hc
    simp at hc
    omega
/-! and what has such parts is one, but for the order of its times -/
theorem okP_row {hs : List Str} {w : Str} {rest : List PyData} (h3 : Is3 w) (hl : rest.length = (formL w).length) (ok : ∀ (j c : Nat) (d : PyData), (formL w)[j]? = some c → rest[j]? = some d → okP hs c d) :
    (w = "all" ∧ IsRowD hs (.tuple (.str w :: rest))) ∨ (w ≠ "all" ∧ ∃ (o b : Int) (ini : List PyData), rest = ini ++ [.int o, .int b] ∧ (IsRowD hs (.tuple (.str w :: rest)) ↔ o ≤ b)) := by
  rcases h3 with rfl | rfl | rfl
  · rw [formL_ask] at hl ok
    match rest, hl, ok with
    | [d1, d2, d3, d4, d5, d6], _, ok =>
      obtain ⟨h, mh, rfl⟩ : okP hs 104 d1 := ok 0 104 d1 rfl rfl
      obtain ⟨k, rfl, k0, k1⟩ : okP hs 110 d2 := ok 1 110 d2 rfl rfl
      obtain ⟨n, rfl, n0, n1⟩ : okP hs 110 d3 := ok 2 110 d3 rfl rfl
      obtain ⟨g, mg, rfl⟩ : okP hs 104 d4 := ok 3 104 d4 rfl rfl
      obtain ⟨o, rfl, o0, o1⟩ : okP hs 116 d5 := ok 4 116 d5 rfl rfl
      obtain ⟨b, rfl, b0, b1⟩ : okP hs 116 d6 := ok 5 116 d6 rfl rfl
      refine .inr ⟨w_aa, o, b, [.str h, .int k, .int n, .str g], rfl, ⟨fun ⟨r, e, hin, hb⟩ => ?_, fun hob => ⟨.ask h g k n o b, rfl, ⟨mh, mg⟩, ⟨k0, k1⟩, ⟨n0, n1⟩, ⟨o0, o1⟩, ⟨b0, b1⟩, hob⟩⟩⟩
      have e1 := PyData.tuple.inj e
      cases r with
      | ask h' g' k' n' o' b' =>
        simp only [Row.data, List.cons.injEq, PyData.int.injEq, and_true] at e1
        rw [e1.2.2.2.2.2.1, e1.2.2.2.2.2.2]
        exact hb.2.2.2.2
      | job => exact absurd (row_word e1).symm w_aj
      | all => exact absurd (row_word e1).symm w_aa
  · rw [formL_job] at hl ok
    match rest, hl, ok with
    | [d1, d2, d3, d4], _, ok =>
      obtain ⟨h, mh, rfl⟩ : okP hs 104 d1 := ok 0 104 d1 rfl rfl
      obtain ⟨k, rfl, k0, k1⟩ : okP hs 110 d2 := ok 1 110 d2 rfl rfl
      obtain ⟨o, rfl, o0, o1⟩ : okP hs 116 d3 := ok 2 116 d3 rfl rfl
      obtain ⟨b, rfl, b0, b1⟩ : okP hs 116 d4 := ok 3 116 d4 rfl rfl
      refine .inr ⟨w_ja, o, b, [.str h, .int k], rfl, ⟨fun ⟨r, e, hin, hb⟩ => ?_, fun hob => ⟨.job h k o b, rfl, mh, ⟨k0, k1⟩, ⟨o0, o1⟩, ⟨b0, b1⟩, hob⟩⟩⟩
      have e1 := PyData.tuple.inj e
      cases r with
      | job h' k' o' b' =>
        simp only [Row.data, List.cons.injEq, PyData.int.injEq, and_true] at e1
        rw [e1.2.2.2.1, e1.2.2.2.2]
        exact hb.2.2.2
      | ask => exact absurd (row_word e1) w_aj
      | all => exact absurd (row_word e1).symm w_ja
  · rw [formL_all] at hl ok
    match rest, hl, ok with
    | [d1, d2, d3], _, ok =>
      obtain ⟨h, mh, rfl⟩ : okP hs 104 d1 := ok 0 104 d1 rfl rfl
      obtain ⟨a, rfl, a0, a1⟩ : okP hs 99 d2 := ok 1 99 d2 rfl rfl
      obtain ⟨j, rfl, j0, j1⟩ : okP hs 99 d3 := ok 2 99 d3 rfl rfl
      exact .inl ⟨rfl, .all h a j, rfl, mh, ⟨a0, a1⟩, ⟨j0, j1⟩⟩

def sp_l_is_row : Sp := fun vs H Q _ => ∃ (Ex : Addr → Prop) (t : Addr) (v : V) (d : PyData) (hs gs : List Str), vs = [.ref t, v] ∧ TownAt H t hs gs ∧ (∀ h ∈ hs, PyData.strOk h = true) ∧ Dq Ex H v d ∧ Sh d ∧ ∀ (r : Bool) (H' : Hp), Same H H' → (r = true ↔ IsRowD hs d) → Q (.bl r) H'
theorem at_head {v : V} {vs : List V} : atI (v :: vs) 0 = some v := atI_nat (j := 0) rfl
theorem cut_tail {v : V} {vs : List V} : cutV (v :: vs) (some 1) none = vs := by
  unfold cutV
  rw [show HT.sIx (v :: vs).length 0 (some 1) = min 1 (v :: vs).length from HT.sIx_nat _ 0 1, HT.sIx_none, List.length_cons, Nat.min_eq_left (by omega)]
  show List.take (vs.length + 1 - 1) vs = vs
  rw [Nat.add_sub_cancel, List.take_length]
theorem not_whole {v : V} {vs : List V} (h : HT.sIx (v :: vs).length 0 (some 1) = 0) : False := by
  rw [show HT.sIx (v :: vs).length 0 (some 1) = min 1 (v :: vs).length from HT.sIx_nat _ 0 1, List.length_cons, Nat.min_eq_left (by omega)] at h
  cases h
theorem at_last2 {xs : List V} {u v : V} : atI (xs ++ [u, v]) (-2) = some u := by
  unfold atI ixN
  have e : ((xs ++ [u, v]).length : Int) = xs.length + 2 := by rw [List.length_append]; rfl
  rw [if_neg (by omega), if_pos (by omega), e]
  show (xs ++ [u, v])[((-2 : Int) + (xs.length + 2)).toNat]? = some u
  rw [show ((-2 : Int) + (xs.length + 2)).toNat = xs.length by omega, List.getElem?_append_right (Nat.le_refl _), Nat.sub_self]
  rfl
theorem at_last1 {xs : List V} {u v : V} : atI (xs ++ [u, v]) (-1) = some v := by
  unfold atI ixN
  have e : ((xs ++ [u, v]).length : Int) = xs.length + 2 := by rw [List.length_append]; rfl
  rw [if_neg (by omega), if_pos (by omega), e]
  show (xs ++ [u, v])[((-1 : Int) + (xs.length + 2)).toNat]? = some v
  rw [show ((-1 : Int) + (xs.length + 2)).toNat = xs.length + 1 by omega, List.getElem?_append_right (by omega), Nat.add_sub_cancel_left]
  rfl
theorem Dqs.last2 {Ex : Addr → Prop} {H : Hp} {vs : List V} {ini : List PyData} {o b : Int} (h : Dqs Ex H vs (ini ++ [.int o, .int b])) : ∃ us, vs = us ++ [.int o, .int b] := by
  induction ini generalizing vs with
  | nil =>
    cases h with
    | cons h1 r =>
      cases h1
      cases r with
      | cons h2 r2 =>
        cases h2
        cases r2
        exact ⟨[], rfl⟩
  | cons x l ih =>
    cases h with
    | cons h1 r =>
      obtain ⟨us, e⟩ := ih r
      exact ⟨_ :: us, by rw [e]; rfl⟩
def boundsV (tn tm tc : Addr) : List (Key × V) := [(Sum.inr (SX.S [110]), .ref tn), (Sum.inr (SX.S [116]), .ref tm), (Sum.inr (SX.S [99]), .ref tc)]
theorem boundsV_at {tn tm tc : Addr} {c : Nat} (h : c = 110 ∨ c = 116 ∨ c = 99) : valV (boundsV tn tm tc) (Sum.inr ⟨#[c]⟩) = some (.ref (if c = 110 then tn else if c = 116 then tm else tc)) := by
  rcases h with rfl | rfl | rfl <;> rfl
theorem eqv_nil {ds : List PyData} : PyData.eqv (.tuple ds) (.tuple []) = true ↔ ds = [] := by
  cases ds <;> simp [PyData.eqv, PyData.eqvAll]
theorem not_row_word {hs : List Str} {w : Str} {ds : List PyData} (h : ¬ Is3 w) : ¬ IsRowD hs (.tuple (.str w :: ds)) := fun ⟨r, e, _⟩ => h (by
  rw [← row_word (PyData.tuple.inj e)]
  exact word3 r)
theorem sgn_eq (c n : Nat) : decide (V.str ⟨#[c]⟩ = V.str (SX.S [n])) = decide (c = n) := by
  by_cases h : c = n
  · subst h
    rw [decide_eq_true rfl, decide_eq_true rfl]
  · rw [decide_eq_false h, decide_eq_false]
    intro e
    have e2 : SX.S [c] = SX.S [n] := V.str.inj e
    exact h (List.cons.inj (SX.S_inj e2)).1
theorem ok_l_is_row (T : Txt K mg af fd) : FnOk P w K mg base CX0 2 (af 16) (fd 16) ["town", "thing"] sp_l_is_row := by
  refine T.F_l_is_row.ok sc_l_is_row (fun vs H Q E h => ?_) (fun cdv A outer s H vs Q E hr h => ?_)
  · obtain ⟨Ex, t, v, d, hs, gs, rfl, _⟩ := h
    rfl
  · obtain ⟨Ex, t, v, d, hs, gs, rfl, ht, hok, hd, hsh, q⟩ := h
    refine ⟨_, (pss_cons (ps_set (i := 2) sc_l_is_row.nd rfl (by first | exact Or.inl rfl | exact Or.inr rfl) (pe_disp (pps_cons pe_str pe_str (pps_cons pe_str pe_str (pps_cons pe_str pe_str pps_nil))) (by rfl) (by rfl) (fun z => by cases z) (by decide)))
        (pss_cons (ps_if (PW.pt (pw_or (pt_not (pt_val (pe_callB call_isi (by rfl) T.m_isinstance (by decide +kernel) (pa_cons (pv 1) (pa_cons (pe_bltn (v := .ty "tuple") (by rfl) T.m_tuple (by decide +kernel) rfl) pa_nil))))) (pw_or (pt_cmpR (op_eqD hr.units) (pv 1) (pe_tup pa_nil) (nomark _)) (pw_or (pt_not (pt_val (pe_callB call_isi (by rfl) T.m_isinstance (by decide +kernel) (pa_cons (pe_ix ix_tup (pv 1) pe_int (fun _ _ => rfl)) (pa_cons (pe_bltn (v := .ty "str") (by rfl) T.m_str (by decide +kernel) rfl) pa_nil))))) (pw_or1 (pt_cmp (pc_dnotin (hu_of hr) (pe_ix ix_tup (pv 1) pe_int (fun _ _ => rfl)) (pv 2)))))))) (pss_one (ps_ret pe_bl)) pss_nil)
        (pss_cons (ps_if (pt_cmpR op_ne (pe_callB call_len_seq (by rfl) T.m_len (by decide +kernel) (pa_cons (pv 1) pa_nil)) (pe_op op_add pe_int (pe_callB call_len_str (by rfl) T.m_len (by decide +kernel) (pa_cons (pe_dget (hu_of hr) (pv 2) (pe_ix ix_tup (pv 1) pe_int (fun _ _ => rfl)) (fun _ _ => rfl)) pa_nil))) (nomark _)) (pss_one (ps_ret pe_bl)) pss_nil)
        (pss_cons (ps_for PassesOwn.never rfl (Zs.pi_zs (by rfl) T.m_zip (pa_cons (pe_dget (hu_of hr) (pv 2) (pe_ix ix_tup (pv 1) pe_int (fun _ _ => rfl)) (fun _ _ => rfl)) (pa_cons (pe_slice sl_tupA (pv 1) (po_some pe_int) po_none) pa_nil))) (pg_tup rfl (pgs_cons (pg_name (i := 3) sc_l_is_row.nd rfl (by first | exact Or.inl rfl | exact Or.inr rfl)) (pgs_cons (pg_name (i := 4) sc_l_is_row.nd rfl (by first | exact Or.inl rfl | exact Or.inr rfl)) pgs_nil))) (pss_one (ps_if (pt_cmpR op_eq (pv 3) pe_str (nomark _)) (pss_one (ps_if (PW.pt (pw_or (pt_not (pt_val (pe_callB call_isi (by rfl) T.m_isinstance (by decide +kernel) (pa_cons (pv 4) (pa_cons (pe_bltn (v := .ty "str") (by rfl) T.m_str (by decide +kernel) rfl) pa_nil))))) (pw_or1 (pt_cmpR (op_notInTD (hu65 hr)) (pv 4) (pe_ix ix_tup (pv 0) pe_int (fun _ _ => rfl)) (by rfl))))) (pss_one (ps_ret pe_bl)) pss_nil)) (pss_cons (ps_asg (pe_dget (hu_of hr) (pe_disp (pps_cons pe_str (pe_tup (pa_cons pe_int (pa_cons pe_int pa_nil))) (pps_cons pe_str (pe_tup (pa_cons (pe_op op_sub pe_int (pe_op op_pow pe_int pe_int)) (pa_cons (pe_op op_pow pe_int pe_int) pa_nil))) (pps_cons pe_str (pe_tup (pa_cons pe_int (pa_cons pe_int pa_nil))) pps_nil))) (by rfl) (by rfl) (fun z => by cases z) (by decide)) (pv 3) (fun _ _ => rfl)) (pg_tup rfl (pgs_cons (pg_name (i := 5) sc_l_is_row.nd rfl (by first | exact Or.inl rfl | exact Or.inr rfl)) (pgs_cons (pg_name (i := 6) sc_l_is_row.nd rfl (by first | exact Or.inl rfl | exact Or.inr rfl)) pgs_nil))))
        (pss_one (ps_if (PW.pt (pw_or (pt_not (pt_val (pe_call (ok_l_whole T) (hr.mono (by decide)) (by rfl) T.g_l_whole T.F_l_whole.kp T.b_l_whole .nil pass0 (pa_cons (pv 4) pa_nil)))) (pw_or1 (pt_not (pt_chain op_le op_le (pv 5) (pv 4) (pv 6)))))) (pss_one (ps_ret pe_bl)) pss_nil))))))
        (pss_one (ps_ret (pe_or (pe_cmpR op_eq (pe_ix ix_tup (pv 1) pe_int (fun _ _ => rfl)) pe_str (nomark _)) (pe_one (pe_cmpR op_le (pe_ix ix_tup (pv 1) (pe_un un_neg pe_int) (fun _ _ => rfl)) (pe_ix ix_tup (pv 1) (pe_un un_neg pe_int) (fun _ _ => rfl)) (nomark _)))))))))), ?_⟩
    refine fun p np => ⟨upd_same, formsV, rfl, by decide, ?_⟩
    have em : mergeK [] formsV = formsV := rfl
    rw [em, upd_upd]
    have s1 : Same H (upd H p (.dK formsV)) := same_upd np
    have hp1 : (upd H p (.dK formsV)) p = some (.dK formsV) := upd_same
    generalize upd H p (.dK formsV) = H1 at s1 hp1 ⊢
    have hd1 := hd.same s1
    refine ⟨_, rfl, _, _, _, _, _, rfl, .ty "tuple", hd1.ty, isi_kit hd1 n_tuple, _, rfl, ?_⟩
    cases hd1 with
    | @tup a xs ds ha hds =>
      refine iteF ⟨_, rfl, Nat.zero_le _, fun e ne => ?_⟩
      have s2 : Same H (upd H1 e (.tup [])) := same_mut s1 (s1.free ne)
      have s12 : Same H1 (upd H1 e (.tup [])) := same_upd ne
      refine ⟨.tuple ds, .tuple [], (Dq.tup (s12 _ _ ha) (hds.same s12)).dp, .tup (SqT.of upd_same) .nil, hsh.shaped, rfl, _, rfl, ite2 (fun z => iteT ?_) (fun z => ?_)⟩
      · refine q false _ s2 (ff ?_)
        rw [eqv_nil.mp z]
        rintro ⟨r, er, _⟩
        cases r <;> cases er
      have ha2 := s12 _ _ ha
      have hp2 := s12 _ _ hp1
      have hds2 := hds.same s12
      generalize upd H1 e (.tup []) = H2 at s2 ha2 hp2 hds2 ⊢
      cases hds2 with
      | nil => exact absurd (eqv_nil.mpr rfl) z
      | @cons v0 vs d0 rest hd0 hrest =>
        refine ⟨_, rfl, a, _, 0, _, rfl, rfl, SqT.of ha2, at_head, _, _, _, _, _, rfl, .ty "str", hd0.ty, isi_kit hd0 n_str, _, rfl, ?_⟩
        cases hd0 with
        | str w =>
          refine iteF ⟨_, rfl, a, _, 0, _, rfl, rfl, SqT.of ha2, at_head, _, rfl, p, _, rfl, DGet.k (k := Sum.inr w) hp2, _, rfl, ?_⟩
          by_cases h3 : Is3 w
          · rw [formsV_at h3]
            refine iteF ?_
            refine ⟨_, rfl, a, _, rfl, .inr (SqT.of ha2), _, rfl, _, rfl, a, _, 0, _, rfl, rfl, SqT.of ha2, at_head, p, .str (SX.S (formL w)), rfl, ?_, _, rfl, ?_, _, _, rfl, rfl, rfl, _, rfl, ?_⟩
            · have e := DGet.k (k := Sum.inr w) hp2
              rw [formsV_at h3] at e
              exact e
            · rw [SX.S_len]
              exact Nat.le_trans (show _ ≤ 6 by rcases h3 with rfl | rfl | rfl <;> first | (rw [formL_ask]; decide) | (rw [formL_job]; decide) | (rw [formL_all]; decide)) (by decide)
            rw [SX.S_len]
            refine ite2 (fun z2 => ?_) (fun z2 => ?_)
            · refine q false _ s2 (ff ?_)
              rintro ⟨r, er, _⟩
              have e1 := PyData.tuple.inj er
              have e2 := row_len r
              rw [← e1, row_word e1, List.length_cons] at e2
              have l1 := hrest.len
              have e3 : ((.str w :: vs : List V).length : Int) = 1 + ((formL w).length : Int) := by
                rw [List.length_cons]
                omega
              rw [e3, decide_eq_true rfl] at z2
              cases z2
            have hlen : vs.length = (formL w).length := by
              have e3 : decide (V.int ((.str w :: vs : List V).length : Int) = V.int (1 + ((formL w).length : Int))) = true := by
                cases e4 : decide (V.int ((.str w :: vs : List V).length : Int) = V.int (1 + ((formL w).length : Int))) with
                | true => rfl
                | false => exact absurd (by rw [e4]; rfl) z2
              have e5 := V.int.inj (of_decide_eq_true e3)
              rw [List.length_cons] at e5
              omega
            -- for sort, part in zip(..)
            refine ⟨_, rfl, _, rfl, a, _, 0, _, rfl, rfl, SqT.of ha2, at_head, p, .str (SX.S (formL w)), rfl, ?_, _, rfl, 1, rfl, a, _, rfl, SqT.of ha2, fun hw => ?_, fun _ b nb => ?_⟩
            · have e := DGet.k (k := Sum.inr w) hp2
              rw [formsV_at h3] at e
              exact e
            · exact (not_whole hw.1).elim
            rw [cut_tail]
            have s3 : Same H (upd H2 b (.tup vs)) := same_mut s2 (s2.free nb)
            have s23 : Same H2 (upd H2 b (.tup vs)) := same_upd nb
            have hb3 : (upd H2 b (.tup vs)) b = some (.tup vs) := upd_same
            have ha3 := s23 _ _ ha2
            have hrest3 := hrest.same s23
            generalize upd H2 b (.tup vs) = H3 at s3 hb3 ha3 hrest3 ⊢
            refine ⟨_, b, _, rfl, SqT.of hb3, for_it (Zs.walk_zs (K := K) (x := SX.S (formL w)) (b := b) (ys := vs) (by simp [hlen])) (fun i σ H' => (∃ v3 v4 v5 v6 : Option V, σ = [some (.ref t), some (.ref a), some (.ref p), v3, v4, v5, v6]) ∧ Same H3 H' ∧ ∀ (j c : Nat) (d : PyData), j < i → (formL w)[j]? = some c → rest[j]? = some d → okP hs c d)
              ⟨⟨none, none, none, none, rfl⟩, Same.refl _, fun j _ _ hj => absurd hj (Nat.not_lt_zero j)⟩ (fun i σ H' _ h => SqT.of (h.2.1 _ _ hb3)) ?_ ?_⟩
            · rintro i pv σ H4 H5 hi ⟨⟨v3, v4, v5, v6, rfl⟩, s4, hj⟩ ⟨Tp, c, y, rfl, nT, rfl, hc, hy⟩
              have hcL : (formL w)[i]? = some c := by
                rw [← hc]
                exact (Array.getElem?_toList (xs := (SX.S (formL w)).cps)).symm ▸ rfl
              have hc4 := formL_mem h3 c (List.mem_of_getElem? hcL)
              have hir : i < rest.length := by rw [← hrest.len]; exact hi
              obtain ⟨y', hy', hdy⟩ := hrest3.get (List.getElem?_eq_getElem hir)
              obtain rfl : y' = y := Option.some.inj (hy'.symm.trans hy)
              generalize hdy0 : rest[i] = dy at hdy
              have hri : rest[i]? = some dy := by rw [List.getElem?_eq_getElem hir, hdy0]
              have shy : Sh dy := hsh.items dy (List.mem_cons_of_mem _ (List.mem_of_getElem? hri))
              -- what a wrong part says
              have bad : ¬ okP hs c dy → ¬ IsRowD hs (.tuple (.str w :: rest)) := fun hno ⟨r, er, hin, hb⟩ => by
                have e1 := PyData.tuple.inj er
                have e2 := row_word e1
                refine hno (row_okP hin hb i c dy (by rw [e2]; exact hcL) ?_)
                rw [← e1]
                exact hri
              have good : okP hs c dy → ∀ (j c' : Nat) (d : PyData), j < i + 1 → (formL w)[j]? = some c' → rest[j]? = some d → okP hs c' d := fun hyes j c' d hji e1 e2 => by
                by_cases e : j = i
                · subst e
                  obtain rfl : c = c' := Option.some.inj (hcL.symm.trans e1)
                  obtain rfl : dy = d := Option.some.inj (hri.symm.trans e2)
                  exact hyes
                · exact hj j c' d (by omega) e1 e2
              have s5 : Same H3 (upd H4 Tp (.tup [.str ⟨#[c]⟩, y'])) := same_mut s4 (s4.free nT)
              refine ⟨Tp, _, rfl, SqT.of upd_same, rfl, _, _, rfl, _, _, rfl, rfl, ?_⟩
              generalize upd H4 Tp (.tup [.str ⟨#[c]⟩, y']) = H5 at s5 ⊢
              have s35 : Same H H5 := s3.trans s5
              have hdy5 := hdy.same s5
              obtain ⟨th, tg, t1, t2, t3⟩ := ht.same' s35
              refine ⟨_, rfl, rfl, _, rfl, ?_⟩
              rw [show decide (V.str ⟨#[c]⟩ = V.str (Str.ofString "h")) = decide (c = 104) from sgn_eq c 104]
              refine ite2 (fun z4 => ?_) (fun z4 => ?_)
              · have ec : c = 104 := of_decide_eq_true z4
                have okh : okP hs c dy ↔ ∃ h ∈ hs, dy = .str h := by unfold okP; rw [if_pos ec]
                refine ⟨_, rfl, _, _, _, _, _, rfl, .ty "str", hdy5.ty, isi_kit hdy5 n_str, _, rfl, ?_⟩
                cases e5 : isB dy "str" with
                | false =>
                  refine iteT (iteT (q false _ s35 (ff (bad fun hy2 => ?_))))
                  obtain ⟨h, _, rfl⟩ := okh.mp hy2
                  exact absurd e5 (by simp [isB])
                | true =>
                  refine iteF ⟨_, rfl, _, rfl, t, _, 0, _, rfl, rfl, SqT.of t1, rfl, dy, _, hdy5.dp, dp_tup_strs t2, shy.shaped, shaped_tup_strs hok, _, rfl, ite2 (fun z6 => ?_) (fun z6 => ?_)⟩
                  · refine q false _ s35 (ff (bad fun hy2 => ?_))
                    rw [any_strs.mpr (okh.mp hy2)] at z6
                    cases z6
                  · refine ⟨⟨_, _, _, _, rfl⟩, s5, good (okh.mpr (any_strs.mp ?_))⟩
                    cases e7 : ((hs.map PyData.str).any fun z => PyData.eqv z dy) with
                    | true => rfl
                    | false => exact absurd (by rw [e7]; rfl) z6
              · have ec : ¬ c = 104 := fun e => z4 (decide_eq_true e)
                have hc3 : c = 110 ∨ c = 116 ∨ c = 99 := by omega
                have okn : okP hs c dy ↔ InI (loC c) (hiC c) dy := by unfold okP; rw [if_neg ec]
                refine fun pd npd => ?_
                refine ⟨(by show 2 ≤ sizeLine; decide), fun tn ntn => ?_⟩
                refine ⟨_, _, rfl, rfl, ⟨by decide, by decide, by decide⟩, _, _, rfl, rfl, _, _, rfl, rfl, ⟨by decide, by decide, by decide⟩, (by show 2 ≤ sizeLine; decide), fun tm ntm => ?_⟩
                refine ⟨(by show 2 ≤ sizeLine; decide), fun tc ntc => ?_⟩
                have e12 : (10 : Int) ^ (12 : Int).toNat = 1000000000000 := by decide
                dsimp only at ntc ⊢
                simp only [e12] at ntc ⊢
                have m1 : Same H5 (upd H5 pd (.dK [])) := same_upd npd
                have m2 := same_mut (o := .tup [.int 0, .int 14]) m1 (m1.free ntn)
                have m3 := same_mut (o := .tup [.int (0 - 1000000000000), .int 1000000000000]) m2 (m2.free ntm)
                have m4 := same_mut (o := .tup [.int 0, .int 15]) m3 (m3.free ntc)
                have p1 : (upd H5 pd (.dK [])) pd = some (.dK []) := upd_same
                have p2 := same_upd (o := .tup [.int 0, .int 14]) ntn _ _ p1
                have p3 := same_upd (o := .tup [.int (0 - 1000000000000), .int 1000000000000]) ntm _ _ p2
                have p4 := same_upd (o := .tup [.int 0, .int 15]) ntc _ _ p3
                have n2 := same_upd (o := .tup [.int (0 - 1000000000000), .int 1000000000000]) ntm tn _ upd_same
                have n3 := same_upd (o := .tup [.int 0, .int 15]) ntc tn _ n2
                have k3 := same_upd (o := .tup [.int 0, .int 15]) ntc tm _ upd_same
                have c3 : (upd (upd (upd (upd H5 pd (.dK [])) tn (.tup [.int 0, .int 14])) tm (.tup [.int (0 - 1000000000000), .int 1000000000000])) tc (.tup [.int 0, .int 15])) tc = some (.tup [.int 0, .int 15]) := upd_same
                generalize upd (upd (upd (upd H5 pd (.dK [])) tn (.tup [.int 0, .int 14])) tm (.tup [.int (0 - 1000000000000), .int 1000000000000])) tc (.tup [.int 0, .int 15]) = G at m4 p4 n3 k3 c3 ⊢
                have s6 : Same H3 (upd G pd (.dK (boundsV tn tm tc))) := same_mut (s5.trans m4) (s5.free npd)
                have tX : ∃ x : Addr, valV (boundsV tn tm tc) (Sum.inr ⟨#[c]⟩) = some (.ref x) ∧ (upd G pd (.dK (boundsV tn tm tc))) x = some (.tup [.int (loC c), .int (hiC c)]) := by
                  have ne : ∀ {x : Addr} {xs : List V}, G x = some (.tup xs) → (upd G pd (.dK (boundsV tn tm tc))) x = some (.tup xs) := fun {x xs} hx => by
                    rw [upd_ne (ne_of hx p4 fun z => nomatch z)]
                    exact hx
                  rcases hc3 with rfl | rfl | rfl
                  · exact ⟨tn, rfl, ne n3⟩
                  · exact ⟨tm, rfl, ne k3⟩
                  · exact ⟨tc, rfl, ne c3⟩
                obtain ⟨x, hx1, hx2⟩ := tX
                refine ⟨p4, boundsV tn tm tc, rfl, (by show 3 ≤ 15; decide), _, rfl, pd, .ref x, rfl, ?_, ?_⟩
                · have e := DGet.k (H := upd G pd (.dK (boundsV tn tm tc))) (k := Sum.inr ⟨#[c]⟩) upd_same
                  rw [hx1] at e
                  exact e
                refine ⟨x, _, rfl, SqT.of hx2, rfl, _, _, rfl, _, _, rfl, rfl, ?_⟩
                have em2 : mergeK [] (boundsV tn tm tc) = boundsV tn tm tc := rfl
                rw [em2]
                generalize upd G pd (.dK (boundsV tn tm tc)) = G2 at s6 ⊢
                have s36 : Same H G2 := s3.trans s6
                have hdy6 := hdy.same s6
                refine ⟨_, rfl, Ex, y', dy, rfl, hdy6, fun r hr1 => ⟨r, rfl, ?_⟩⟩
                cases r with
                | false =>
                  refine iteT (iteT (q false _ s36 (ff (bad fun hy2 => ?_))))
                  obtain ⟨i2, e2, _⟩ := okn.mp hy2
                  exact Bool.noConfusion (hr1.mpr ⟨i2, e2⟩)
                | true =>
                  obtain ⟨i2, rfl⟩ := hr1.mp rfl
                  cases hdy6
                  refine iteF ⟨_, rfl, _, rfl, _, _, rfl, rfl, _, rfl, ite2 (fun z6 => ?_) (fun z6 => ?_)⟩
                  · have z7 := of_decide_eq_true z6
                    refine ⟨_, rfl, _, _, rfl, rfl, _, rfl, ?_⟩
                    cases e8 : decide (i2 ≤ hiC c) with
                    | true =>
                      have z8 := of_decide_eq_true e8
                      exact iteF ⟨⟨_, _, _, _, rfl⟩, s6, good (okn.mpr ⟨i2, rfl, z7, z8⟩)⟩
                    | false =>
                      have z8 := of_decide_eq_false e8
                      refine iteT (q false _ s36 (ff (bad fun hy2 => ?_)))
                      obtain ⟨i3, e3, _, h3⟩ := okn.mp hy2
                      obtain rfl := PyData.int.inj e3
                      exact z8 h3
                  · refine ⟨_, rfl, ?_⟩
                    refine iteT (q false _ s36 (ff (bad fun hy2 => z6 ?_)))
                    obtain ⟨i3, e3, h3, _⟩ := okn.mp hy2
                    obtain rfl := PyData.int.inj e3
                    exact decide_eq_true h3
            · rintro σ H4 ⟨⟨v3, v4, v5, v6, rfl⟩, s4, hj⟩
              have s34 : Same H H4 := s3.trans s4
              have ha4 := s4 _ _ ha3
              have hl2 : rest.length = (formL w).length := by rw [← hrest.len]; exact hlen
              have fin := okP_row h3 hl2 fun j c d e1 e2 => hj j c d (by
                have := (List.getElem?_eq_some_iff.mp e2).1
                rw [hrest.len]
                exact this) e1 e2
              refine ⟨_, rfl, a, _, 0, _, rfl, rfl, SqT.of ha4, at_head, rfl, _, rfl, ite2 (fun z5 => ?_) (fun z5 => ?_)⟩
              · have ew := V.str.inj (of_decide_eq_true z5)
                rcases fin with ⟨_, hy⟩ | ⟨hn, _⟩
                · exact q true _ s34 (tt hy)
                · exact absurd ew hn
              · rcases fin with ⟨e, _⟩ | ⟨_, o, b2, ini, er, hiff⟩
                · exact absurd (decide_eq_true (congrArg V.str e)) z5
                · subst er
                  obtain ⟨us, rfl⟩ := hrest.last2
                  refine ⟨_, rfl, 2, rfl, a, _, -2, .int o, rfl, rfl, SqT.of ha4, (at_last2 (xs := .str w :: us)), _, rfl, 1, rfl, a, _, -1, .int b2, rfl, rfl, SqT.of ha4, (at_last1 (xs := .str w :: us)), _, _, rfl, rfl, q _ _ s34 ?_⟩
                  rw [decide_eq_true_eq]
                  exact hiff.symm
          · rw [formsV_no h3]
            exact iteT (q false _ s2 (ff (not_row_word h3)))
        | _ =>
          refine iteT (iteT (q false _ s2 (ff ?_)))
          rintro ⟨r, er, _⟩
          cases r <;> cases er
    | _ =>
      refine iteT (iteT (q false _ s1 (ff fun ⟨x, e, _⟩ => nomatch e)))

/-! ### how long data is when it is written -/
mutual
def szD : PyData → Nat
  | .none => 4
  | .bool _ => 5
  | .int i => (Str.ofString (toString i)).length
  | .str x => (reprText x).length
  | .list xs => 4 + szDs xs
  | .tuple xs => 4 + szDs xs
  | .dict _ => 0
def szDs : List PyData → Nat
  | [] => 0
  | x :: xs => szD x + 2 + szDs xs
end
structure Th (k n : Nat) (d : PyData) : Prop where
  lay : d.canLay0 = true
  dep : d.depth ≤ k
  shw : d.showable = true
  sz : szD d ≤ n
theorem Th.sh {k n : Nat} {d : PyData} (h : Th k n d) (hk : k ≤ 60) : Sh d := ⟨h.lay, Nat.le_trans h.dep hk⟩
theorem Th.mono {k n k' n' : Nat} {d : PyData} (h : Th k n d) (hk : k ≤ k') (hn : n ≤ n') : Th k' n' d := ⟨h.lay, Nat.le_trans h.dep hk, h.shw, Nat.le_trans h.sz hn⟩
theorem th_all {k n : Nat} : ∀ {ds : List PyData}, (∀ d ∈ ds, Th k n d) → PyData.canLayAll0 ds = true ∧ PyData.depthAll ds ≤ k ∧ PyData.showableAll ds = true ∧ szDs ds ≤ ds.length * (n + 2)
  | [], _ => ⟨rfl, Nat.zero_le _, rfl, Nat.zero_le _⟩
  | x :: xs, h => by
    obtain ⟨h1, h2, h3, h4⟩ := th_all (ds := xs) fun d m => h d (List.mem_cons_of_mem _ m)
    have hx := h x List.mem_cons_self
    refine ⟨?_, ?_, ?_, ?_⟩
    · show (x.canLay0 && PyData.canLayAll0 xs) = true
      rw [hx.lay, h1]; rfl
    · show max x.depth (PyData.depthAll xs) ≤ k
      exact Nat.max_le.mpr ⟨hx.dep, h2⟩
    · show (x.showable && PyData.showableAll xs) = true
      rw [hx.shw, h3]; rfl
    · show szD x + 2 + szDs xs ≤ (xs.length + 1) * (n + 2)
      have := hx.sz
      rw [Nat.add_mul, Nat.one_mul]
      omega
theorem th_tup {k n m : Nat} {ds : List PyData} (h : ∀ d ∈ ds, Th k n d) (hm : ds.length ≤ m) : Th (k + 1) (4 + m * (n + 2)) (.tuple ds) := by
  obtain ⟨h1, h2, h3, h4⟩ := th_all h
  refine ⟨h1, Nat.succ_le_succ h2, h3, ?_⟩
  show 4 + szDs ds ≤ _
  exact Nat.add_le_add_left (Nat.le_trans h4 (Nat.mul_le_mul_right _ hm)) _
theorem th_lst {k n m : Nat} {ds : List PyData} (h : ∀ d ∈ ds, Th k n d) (hm : ds.length ≤ m) : Th (k + 1) (4 + m * (n + 2)) (.list ds) := by
  obtain ⟨h1, h2, h3, h4⟩ := th_all h
  refine ⟨h1, Nat.succ_le_succ h2, h3, ?_⟩
  show 4 + szDs ds ≤ _
  exact Nat.add_le_add_left (Nat.le_trans h4 (Nat.mul_le_mul_right _ hm)) _
theorem th_int {i : Int} (h : i.natAbs < 10 ^ 20) : Th 0 100 (.int i) := by
  refine ⟨rfl, Nat.le_refl _, ?_, ?_⟩
  · refine decide_eq_true ?_
    have h2 : i.natAbs < 2 ^ 1900 := Nat.lt_trans h (by decide +kernel)
    exact Nat.lt_of_lt_of_le (PySem.Flt.log2_lt_of (by decide) h2) (by decide)
  · have e := int_text_length_le10 (a := i) (k := 20) (by decide) h
    show (Str.ofString (toString i)).length ≤ 100
    rw [PySem.ofString_length]
    omega
theorem th_str {x : Str} (h : PyData.strOk x = true) (hl : x.length ≤ 9) : Th 0 100 (.str x) := by
  refine ⟨h, Nat.le_refl _, rfl, ?_⟩
  have e := StrLaws.reprText_len x fun c hc => by
    unfold PyData.strOk at h
    rw [← Array.all_toList, List.all_eq_true] at h
    have := of_decide_eq_true (h c hc)
    exact Nat.lt_trans this (by decide)
  show (reprText x).length ≤ 100
  omega
theorem th_non : Th 0 100 .none := ⟨rfl, Nat.le_refl _, rfl, by show 4 ≤ 100; decide⟩
theorem th_bl (b : Bool) : Th 0 100 (.bool b) := ⟨rfl, Nat.le_refl _, rfl, by show 5 ≤ 100; decide⟩
theorem HouseS.len {h : Str} (x : HouseS h) : h.length ≤ 8 := by
  have e : h.length = h.cps.toList.length := by simp [Str.length]
  rw [e]
  exact x.2.1
theorem row_th {hs : List Str} (hh : ∀ h ∈ hs, HouseS h) {r : Row} (w : r.Wf) (i : r.In hs) : ∀ d ∈ r.data, Th 0 100 d := by
  have num : ∀ k : Int, NumI k → Th 0 100 (.int k) := fun k h => th_int (Nat.lt_of_le_of_lt (show k.natAbs ≤ 14 by have := h.1; have := h.2; omega) (by decide))
  have cnt : ∀ k : Int, CntI k → Th 0 100 (.int k) := fun k h => th_int (Nat.lt_of_le_of_lt (show k.natAbs ≤ 15 by have := h.1; have := h.2; omega) (by decide))
  have tim : ∀ k : Int, TimeI k → Th 0 100 (.int k) := fun k h => th_int (Nat.lt_of_le_of_lt (show k.natAbs ≤ 1000000000000 by have := h.1; have := h.2; omega) (by decide))
  have hou : ∀ h : Str, h ∈ hs → Th 0 100 (.str h) := fun h m => th_str (hh h m).ok (Nat.le_succ_of_le (hh h m).len)
  intro d hd
  cases r with
  | ask h g k n o b =>
    simp only [Row.data, List.mem_cons, List.not_mem_nil, or_false] at hd
    rcases hd with rfl | rfl | rfl | rfl | rfl | rfl | rfl
    · exact th_str (by decide +kernel) (by decide +kernel)
    · exact hou h i.1
    · exact num k w.2.2.1
    · exact num n w.2.2.2.1
    · exact hou g i.2
    · exact tim o w.2.2.2.2.1
    · exact tim b w.2.2.2.2.2.1
  | job h k o b =>
    simp only [Row.data, List.mem_cons, List.not_mem_nil, or_false] at hd
    rcases hd with rfl | rfl | rfl | rfl | rfl
    · exact th_str (by decide +kernel) (by decide +kernel)
    · exact hou h i
    · exact num k w.2.1
    · exact tim o w.2.2.1
    · exact tim b w.2.2.2.1
  | all h a j =>
    simp only [Row.data, List.mem_cons, List.not_mem_nil, or_false] at hd
    rcases hd with rfl | rfl | rfl | rfl
    · exact th_str (by decide +kernel) (by decide +kernel)
    · exact hou h i
    · exact cnt a w.2.1
    · exact cnt j w.2.2
theorem word_ok (r : Row) : PyData.strOk r.word = true := by
  cases r
  · exact (by decide +kernel : PyData.strOk (Str.ofString "ask") = true)
  · exact (by decide +kernel : PyData.strOk (Str.ofString "job") = true)
  · exact (by decide +kernel : PyData.strOk (Str.ofString "all") = true)
theorem dqs_row {Ex : Addr → Prop} {H : Hp} (r : Row) : Dqs Ex H r.vals r.data := by
  cases r with
  | ask h g k n o b => exact .cons (.str _) (.cons (.str _) (.cons (.int _) (.cons (.int _) (.cons (.str _) (.cons (.int _) (.cons (.int _) .nil))))))
  | job h k o b => exact .cons (.str _) (.cons (.str _) (.cons (.int _) (.cons (.int _) (.cons (.int _) .nil))))
  | all h a j => exact .cons (.str _) (.cons (.str _) (.cons (.int _) (.cons (.int _) .nil)))
theorem row_len7 (r : Row) : 4 ≤ r.data.length ∧ r.data.length ≤ 7 := by
  cases r
  · exact ⟨(by decide : 4 ≤ 7), (by decide : 7 ≤ 7)⟩
  · exact ⟨(by decide : 4 ≤ 5), (by decide : 5 ≤ 7)⟩
  · exact ⟨(by decide : 4 ≤ 4), (by decide : 4 ≤ 7)⟩
theorem vals_len (r : Row) : r.vals.length = r.data.length := by unfold Row.vals; rw [List.length_map]
theorem Dq.stp {Ex : Addr → Prop} {p c : Addr} {H H' : Hp} {v : V} {d : PyData} (h : Dq Ex H v d) (hp : Ex p) (hP : Pen H p c) (s : Stp p c H H') : Dq Ex H' v d :=
  h.go (fun _ a b => absurd a b) (fun a xs n e => s.2 a _ (fun z => n (z ▸ hp)) e) (fun a xs e => s.tup hP e)
theorem Dqs.stp {Ex : Addr → Prop} {p c : Addr} {H H' : Hp} {v : List V} {d : List PyData} (h : Dqs Ex H v d) (hp : Ex p) (hP : Pen H p c) (s : Stp p c H H') : Dqs Ex H' v d :=
  h.go (fun _ a b => absurd a b) (fun a xs n e => s.2 a _ (fun z => n (z ▸ hp)) e) (fun a xs e => s.tup hP e)
theorem cut_from (xs : List V) (n : Nat) : cutV xs (some (n : Int)) none = xs.drop n := by
  unfold cutV
  rw [HT.sIx_nat, HT.sIx_none]
  by_cases h : n ≤ xs.length
  · rw [Nat.min_eq_left h, List.take_of_length_le (by rw [List.length_drop]; omega)]
  · rw [Nat.min_eq_right (by omega), List.drop_length, List.drop_of_length_le (by omega), List.take_nil]
theorem cut_but2 (xs : List V) (h : 2 ≤ xs.length) : cutV xs none (some (-2)) = xs.take (xs.length - 2) := by
  unfold cutV
  rw [HT.sIx_none, List.drop_zero, Nat.sub_zero]
  have e : HT.sIx xs.length xs.length (some (-2)) = xs.length - 2 := by
    show (if (-2 : Int) < 0 then ((-2 : Int) + (xs.length : Int)).toNat else min (-2 : Int).toNat xs.length) = xs.length - 2
    rw [if_pos (by decide)]
    omega
  rw [e]
theorem cut_whole {xs : List V} {lo hi : Option Int} (h : HT.sIx xs.length 0 lo = 0 ∧ HT.sIx xs.length xs.length hi = xs.length) : cutV xs lo hi = xs := by
  unfold cutV
  rw [h.1, h.2, List.drop_zero, Nat.sub_zero, List.take_length]
/-! a slice, a sum of tuples, told alike whether they are new or not -/
theorem slA_of {K : PySem.W.Frag} {p c a : Addr} {H0 H : Hp} {xs : List V} {lo hi : Option Int} {Q : VK} (hP : Pen H0 p c) (s : Stp p c H0 H) (ha : H a = some (.tup xs)) (q : ∀ b H', Stp p c H0 H' → Stp p c H H' → H' b = some (.tup (cutV xs lo hi)) → Q (.ref b) H') : rSlA K (.ref a) lo hi H Q := by
  refine ⟨a, xs, rfl, SqT.of ha, fun h => q a H s (Stp.refl s.1) (by rw [cut_whole h]; exact ha), fun _ b nb => q b _ (s.new hP nb) ((Stp.refl s.1).new s.1 nb) upd_same⟩
theorem catA_of {K : PySem.W.Frag} {p c a b : Addr} {H0 H : Hp} {xs ys : List V} {Q : VK} (hP : Pen H0 p c) (s : Stp p c H0 H) (ha : H a = some (.tup xs)) (hb : H b = some (.tup ys)) (hl : xs.length + ys.length ≤ 1000) (q : ∀ e H', Stp p c H0 H' → Stp p c H H' → H' e = some (.tup (xs ++ ys)) → Q (.ref e) H') : rCatA K (.ref a) (.ref b) H Q := by
  refine ⟨a, b, xs, ys, rfl, rfl, SqT.of ha, SqT.of hb, Nat.le_trans hl (by decide), fun h => q b H s (Stp.refl s.1) (by rw [h]; exact hb), fun _ h => q a H s (Stp.refl s.1) (by rw [h, List.append_nil]; exact ha), fun _ _ e ne => q e _ (s.new hP ne) ((Stp.refl s.1).new s.1 ne) upd_same⟩
def sp_l_no_row : Sp := fun vs H Q _ => ∃ (p c t : Addr) (hs gs : List Str), vs = [.ref p, .ref t] ∧ Pen H p c ∧ TownAt H t hs gs ∧ 1 ≤ hs.length ∧ hs.length ≤ 6 ∧ (∀ h ∈ hs, HouseS h) ∧
  ∀ (v : V) (d : PyData) (H' : Hp), Stp p c H H' → Dq (fun a => H a ≠ none) H' v d → Th 3 3000 d → Q v H'
theorem ok_l_no_row (T : Txt K mg af fd) : FnOk P w K mg base CX0 5 (af 20) (fd 20) ["pen", "town"] sp_l_no_row := by
  refine T.F_l_no_row.ok sc_l_no_row (fun vs H Q E h => ?_) (fun cdv A outer s H vs Q E hr h => ?_)
  · obtain ⟨p, c, t, hs, gs, rfl, _⟩ := h
    rfl
  · obtain ⟨p, c, t, hs, gs, rfl, hP, ht, l1, l6, hh, q⟩ := h
    refine ⟨_, (pss_cons (ps_set (i := 2) sc_l_no_row.nd rfl (by first | exact Or.inl rfl | exact Or.inr rfl) (pe_call (ok_l_any_row T) (hr.mono (by decide)) (by rfl) T.g_l_any_row T.F_l_any_row.kp T.b_l_any_row .nil pass0 (pa_cons (pv 0) (pa_cons (pv 1) pa_nil))))
        (pss_cons (ps_set (i := 3) sc_l_no_row.nd rfl (by first | exact Or.inl rfl | exact Or.inr rfl) (pe_call (ok_l_take T) (hr.mono (by decide)) (by rfl) T.g_l_take T.F_l_take.kp T.b_l_take .nil pass0 (pa_cons (pv 0) (pa_cons (pe_callB call_len_seq (by rfl) T.m_len (by decide +kernel) (pa_cons (pv 2) pa_nil)) pa_nil))))
        (pss_cons (ps_set (i := 4) sc_l_no_row.nd rfl (by first | exact Or.inl rfl | exact Or.inr rfl) (pe_lst (pa_cons pe_str (pa_cons pe_str (pa_cons pe_str (pa_cons pe_non (pa_cons pe_bl (pa_cons pe_bl (pa_cons (pe_un un_neg pe_int) (pa_cons pe_int (pa_cons pe_int (pa_cons (pe_op op_add (pe_op op_pow pe_int pe_int) pe_int) (pa_cons (pe_op op_sub (pe_op op_sub pe_int (pe_op op_pow pe_int pe_int)) pe_int) (pa_cons pe_str (pa_cons (pe_tup (pa_cons pe_str pa_nil)) (pa_cons (pe_lst (pa_cons pe_int pa_nil)) pa_nil))))))))))))))))
        (pss_cons (ps_set (i := 5) sc_l_no_row.nd rfl (by first | exact Or.inl rfl | exact Or.inr rfl) (pe_ix ix_list (pe_op op_cat (pv 4) (pe_lst (pa_cons pe_int (pa_cons pe_int (pa_cons (pe_ix ix_tup (pe_ix ix_tup (pv 1) pe_int (fun _ _ => rfl)) pe_int (fun _ _ => rfl)) (pa_cons pe_str (pa_cons pe_str (pa_cons pe_str pa_nil)))))))) (pe_call (ok_l_take T) (hr.mono (by decide)) (by rfl) T.g_l_take T.F_l_take.kp T.b_l_take .nil pass0 (pa_cons (pv 0) (pa_cons pe_int pa_nil))) (fun _ _ => rfl)))
        (pss_cons (ps_set (i := 6) sc_l_no_row.nd rfl (by first | exact Or.inl rfl | exact Or.inr rfl) (pe_call (ok_l_take T) (hr.mono (by decide)) (by rfl) T.g_l_take T.F_l_take.kp T.b_l_take .nil pass0 (pa_cons (pv 0) (pa_cons pe_int pa_nil))))
        (pss_cons (ps_if (pt_cmpR op_eq (pv 6) pe_int (nomark _)) (pss_one (ps_ret (pe_op op_catA (pe_slice sl_tupA (pv 2) po_none (po_some (pv 3))) (pe_slice sl_tupA (pv 2) (po_some (pe_op op_add (pv 3) pe_int)) po_none)))) pss_nil)
        (pss_cons (ps_if (pt_cmpR op_eq (pv 6) pe_int (nomark _)) (pss_one (ps_ret (pe_op op_catA (pe_op op_catA (pe_slice sl_tupA (pv 2) po_none (po_some (pv 3))) (pe_tup (pa_cons (pv 5) pa_nil))) (pe_slice sl_tupA (pv 2) (po_some (pv 3)) po_none)))) pss_nil)
        (pss_cons (ps_if (pt_cmpR op_eq (pv 6) pe_int (nomark _)) (pss_one (ps_ret (pe_ix ix_list (pe_lst (pa_cons (pe_callTy call_list_of (by rfl) T.m_list (by decide +kernel) (pa_cons (pv 2) pa_nil)) (pa_cons pe_non (pa_cons (pe_tup pa_nil) (pa_cons pe_int (pa_cons pe_bl (pa_cons pe_str (pa_cons (pe_lst (pa_cons (pv 2) pa_nil)) (pa_cons (pe_tup (pa_cons (pv 2) pa_nil)) (pa_cons (pe_ix ix_tup (pv 2) pe_int (fun _ _ => rfl)) (pa_cons (pe_tup (pa_cons pe_str pa_nil)) pa_nil))))))))))) (pe_call (ok_l_take T) (hr.mono (by decide)) (by rfl) T.g_l_take T.F_l_take.kp T.b_l_take .nil pass0 (pa_cons (pv 0) (pa_cons pe_int pa_nil))) (fun _ _ => rfl)))) pss_nil)
        (pss_cons (ps_if (pt_cmpR op_eq (pv 6) pe_int (nomark _)) (pss_one (ps_ret (pe_op op_catA (pe_slice sl_tupA (pv 2) po_none (po_some (pe_un un_neg pe_int))) (pe_tup (pa_cons (pe_ix ix_tup (pv 2) (pe_un un_neg pe_int) (fun _ _ => rfl)) (pa_cons (pe_ix ix_tup (pv 2) (pe_un un_neg pe_int) (fun _ _ => rfl)) pa_nil)))))) pss_nil)
        (pss_one (ps_ret (pe_op op_catA (pe_op op_catA (pe_slice sl_tupA (pv 2) po_none (po_some (pv 3))) (pe_tup (pa_cons (pv 5) pa_nil))) (pe_slice sl_tupA (pv 2) (po_some (pe_op op_add (pv 3) pe_int)) po_none))))))))))))), ?_⟩
    have hEp : H p ≠ none := by
      obtain ⟨_, _, _, h1, _⟩ := hP
      rw [h1]
      exact fun z => nomatch z
    refine ⟨_, rfl, _, rfl, p, c, t, hs, gs, rfl, hP, ht, l1, l6, fun a xs H1 s1 na ha hrow => ?_⟩
    obtain ⟨r, rfl, wr, ri⟩ := hrow.row hh
    obtain ⟨r4, r7⟩ := row_len7 r
    have rv := vals_len r
    have rth := row_th hh wr ri
    refine ⟨_, rfl, _, rfl, a, _, rfl, .inr (SqT.of ha), p, c, _, rfl, s1.1, by omega, Nat.lt_of_le_of_lt (show _ ≤ 7 by omega) (by decide), fun at_ H2 at0 at1 s2 => ?_⟩
    have s12 := s1.trans s2
    -- some = [..]
    refine ⟨1, rfl, _, _, rfl, rfl, ⟨by decide, by decide, by decide⟩, _, _, rfl, rfl, _, _, rfl, rfl, ⟨by decide, by decide, by decide⟩, _, _, rfl, rfl, _, _, rfl, rfl, (by show 1 ≤ sizeLine; decide), fun ta nta => ?_⟩
    refine ⟨(by show 1 ≤ sizeLine; decide), fun lb nlb => ?_⟩
    have e12 : (10 : Int) ^ (12 : Int).toNat = 1000000000000 := by decide
    dsimp only
    simp only [e12]
    have s3 := s12.new (o := .tup [.str "a"]) hP nta
    have s4 := s3.new (o := .lst [.int 0]) hP nlb
    have hta4 : (upd (upd H2 ta (.tup [.str "a"])) lb (.lst [.int 0])) ta = some (.tup [.str "a"]) := by
      rw [upd_ne (ne_of_none upd_same nlb), upd_same]
    have hlb4 : (upd (upd H2 ta (.tup [.str "a"])) lb (.lst [.int 0])) lb = some (.lst [.int 0]) := upd_same
    have nlb0 : H lb = none := s3.back hP nlb
    have q14 := (s2.new (o := .tup [.str "a"]) s1.1 nta).new (o := .lst [.int 0]) s1.1 nlb
    generalize upd (upd H2 ta (.tup [.str "a"])) lb (.lst [.int 0]) = H4 at s4 q14 hta4 hlb4 ⊢
    obtain ⟨th, tg, t1, t2, t3⟩ := s4.town hP ht
    obtain ⟨h0, hr0, rfl⟩ : ∃ h0 hr0, hs = h0 :: hr0 := by
      cases hs with
      | nil => exact absurd l1 (by decide)
      | cons x y => exact ⟨x, y, rfl⟩
    refine ⟨(by show 14 ≤ sizeLine; decide), fun ls nls => ?_⟩
    have s5 := s4.new (o := .lst [.str "", .str "zzzzzzzzz", .str "A", .non, .bl true, .bl false, .int (-1), .int 15, .int 16, .int (1000000000000 + 1), .int (0 - 1000000000000 - 1), .str "0", .ref ta, .ref lb]) hP nls
    have s45 := (Stp.refl s4.1).new (o := .lst [.str "", .str "zzzzzzzzz", .str "A", .non, .bl true, .bl false, .int (-1), .int 15, .int 16, .int (1000000000000 + 1), .int (0 - 1000000000000 - 1), .str "0", .ref ta, .ref lb]) s4.1 nls
    have hls5 : (upd H4 ls (.lst [.str "", .str "zzzzzzzzz", .str "A", .non, .bl true, .bl false, .int (-1), .int 15, .int 16, .int (1000000000000 + 1), .int (0 - 1000000000000 - 1), .str "0", .ref ta, .ref lb])) ls = some (.lst [.str "", .str "zzzzzzzzz", .str "A", .non, .bl true, .bl false, .int (-1), .int 15, .int 16, .int (1000000000000 + 1), .int (0 - 1000000000000 - 1), .str "0", .ref ta, .ref lb]) := upd_same
    generalize upd H4 ls (.lst [.str "", .str "zzzzzzzzz", .str "A", .non, .bl true, .bl false, .int (-1), .int 15, .int 16, .int (1000000000000 + 1), .int (0 - 1000000000000 - 1), .str "0", .ref ta, .ref lb]) = H5 at s5 s45 hls5 ⊢
    refine ⟨_, rfl, _, rfl, t, _, 0, _, rfl, rfl, SqT.of (s45.tup s4.1 t1), rfl, th, _, 0, .str h0, rfl, rfl, SqT.of (s45.tup s4.1 t2), at_head, (by show 6 ≤ sizeLine; decide), fun l2 nl2 => ?_⟩
    have s6 := s5.new (o := .lst [.int 0, .int 14, .str h0, .str "ask", .str "job", .str "all"]) hP nl2
    have hls6 := same_upd (o := .lst [.int 0, .int 14, .str h0, .str "ask", .str "job", .str "all"]) nl2 _ _ hls5
    refine ⟨ls, l2, _, _, rfl, rfl, hls6, upd_same, (by show 20 ≤ sizeLine; decide), fun l3 nl3 => ?_⟩
    have s7 := s6.new (o := .lst ([.str "", .str "zzzzzzzzz", .str "A", .non, .bl true, .bl false, .int (-1), .int 15, .int 16, .int (1000000000000 + 1), .int (0 - 1000000000000 - 1), .str "0", .ref ta, .ref lb] ++ [.int 0, .int 14, .str h0, .str "ask", .str "job", .str "all"])) hP nl3
    have nl30 : H l3 = none := s6.back hP nl3
    refine ⟨_, rfl, p, c, 20, rfl, s7.1, by decide, by decide, fun i H8 i0 i1 s8 => ?_⟩
    have hl8 := s8.2 l3 _ (fun e => hP.neP nl30 e.symm) upd_same
    have s18 := s7.trans s8
    have s48 : Stp p c H4 H8 := ((s45.new s4.1 nl2).new s4.1 nl3).trans s8
    have hta8 := s48.tup s4.1 hta4
    have hlb8 := s48.2 lb _ (fun e => hP.neP nlb0 e.symm) hlb4
    have dq20 : Dqs (fun a => H a ≠ none) H8 ([.str "", .str "zzzzzzzzz", .str "A", .non, .bl true, .bl false, .int (-1), .int 15, .int 16, .int (1000000000000 + 1), .int (0 - 1000000000000 - 1), .str "0", .ref ta, .ref lb] ++ [.int 0, .int 14, .str h0, .str "ask", .str "job", .str "all"])
        [.str "", .str "zzzzzzzzz", .str "A", .none, .bool true, .bool false, .int (-1), .int 15, .int 16, .int (1000000000000 + 1), .int (0 - 1000000000000 - 1), .str "0", .tuple [.str "a"], .list [.int 0], .int 0, .int 14, .str h0, .str "ask", .str "job", .str "all"] :=
      .cons (.str _) (.cons (.str _) (.cons (.str _) (.cons .non (.cons (.bl _) (.cons (.bl _) (.cons (.int _) (.cons (.int _) (.cons (.int _) (.cons (.int _) (.cons (.int _) (.cons (.str _) (.cons (.tup hta8 (.cons (.str _) .nil)) (.cons (.lst (fun z => z nlb0) hlb8 (.cons (.int _) .nil)) (.cons (.int _) (.cons (.int _) (.cons (.str _) (.cons (.str _) (.cons (.str _) (.cons (.str _) .nil)))))))))))))))))))
    have th20 : ∀ d ∈ ([.str "", .str "zzzzzzzzz", .str "A", .none, .bool true, .bool false, .int (-1), .int 15, .int 16, .int (1000000000000 + 1), .int (0 - 1000000000000 - 1), .str "0", .tuple [.str "a"], .list [.int 0], .int 0, .int 14, .str h0, .str "ask", .str "job", .str "all"] : List PyData), Th 1 110 d := by
      intro d hd
      have up : ∀ {d : PyData}, Th 0 100 d → Th 1 110 d := fun h => h.mono (by decide) (by decide)
      simp only [List.mem_cons, List.not_mem_nil, or_false] at hd
      rcases hd with rfl | rfl | rfl | rfl | rfl | rfl | rfl | rfl | rfl | rfl | rfl | rfl | rfl | rfl | rfl | rfl | rfl | rfl | rfl | rfl
      · exact up (th_str (by decide +kernel) (by decide +kernel))
      · exact up (th_str (by decide +kernel) (by decide +kernel))
      · exact up (th_str (by decide +kernel) (by decide +kernel))
      · exact up th_non
      · exact up (th_bl _)
      · exact up (th_bl _)
      · exact up (th_int (by decide))
      · exact up (th_int (by decide))
      · exact up (th_int (by decide))
      · exact up (th_int (by decide))
      · exact up (th_int (by decide))
      · exact up (th_str (by decide +kernel) (by decide +kernel))
      · exact (th_tup (m := 1) (fun d hd => by rw [List.mem_singleton.mp hd]; exact th_str (by decide +kernel) (by decide +kernel)) (by decide)).mono (by decide) (by decide)
      · exact (th_lst (m := 1) (fun d hd => by rw [List.mem_singleton.mp hd]; exact th_int (by decide)) (by decide)).mono (by decide) (by decide)
      · exact up (th_int (by decide))
      · exact up (th_int (by decide))
      · exact up (th_str (hh h0 List.mem_cons_self).ok (Nat.le_succ_of_le (hh h0 List.mem_cons_self).len))
      · exact up (th_str (by decide +kernel) (by decide +kernel))
      · exact up (th_str (by decide +kernel) (by decide +kernel))
      · exact up (th_str (by decide +kernel) (by decide +kernel))
    obtain ⟨dp, hdp⟩ : ∃ d, ([.str "", .str "zzzzzzzzz", .str "A", .none, .bool true, .bool false, .int (-1), .int 15, .int 16, .int (1000000000000 + 1), .int (0 - 1000000000000 - 1), .str "0", .tuple [.str "a"], .list [.int 0], .int 0, .int 14, .str h0, .str "ask", .str "job", .str "all"] : List PyData)[i.toNat]? = some d :=
      ⟨_, List.getElem?_eq_getElem (show i.toNat < 20 by omega)⟩
    obtain ⟨pv, hpv, dpv⟩ := dq20.get hdp
    have thp := th20 dp (List.mem_of_getElem? hdp)
    refine ⟨l3, _, i, pv, rfl, rfl, SqL.of hl8, at_any (j := i.toNat) (by omega) hpv, ?_⟩
    clear dq20 th20 hl8 hls5 hls6
    refine ⟨_, rfl, p, c, 8, rfl, s8.1, by decide, by decide, fun way H9 w0 w1 s9 => ?_⟩
    have s19 := s18.trans s9
    have dpv9 := dpv.stp hEp s8.1 s9
    have ha9 : H9 a = some (.tup r.vals) := (q14.trans (s48.trans s9)).tup s1.1 ha
    have dr : Dqs (fun a => H a ≠ none) H9 r.vals r.data := dqs_row r
    clear dpv s48 s45 q14
    have row9 : ∀ d ∈ r.data, Th 1 110 d := fun d m => (rth d m).mono (by decide) (by decide)
    have eat : at_ = (at_.toNat : Int) := by omega
    -- what is made of parts of the row and the part
    have done : ∀ (e : Addr) (G : Hp) (vs : List V) (ds : List PyData), Stp p c H G → Stp p c H9 G → G e = some (.tup vs) → Dqs (fun a => H a ≠ none) G vs ds → (∀ d ∈ ds, Th 1 110 d) → ds.length ≤ 9 → Q (.ref e) G := fun e G vs ds g _ he hd ht hl =>
      q (.ref e) (.tuple ds) G g (.tup he hd) ((th_tup ht hl).mono (by decide) (by decide))
    have mt : ∀ (n : Nat) (d : PyData), d ∈ r.data.take n → Th 1 110 d := fun n d m => row9 d (List.mem_of_mem_take m)
    have md : ∀ (n : Nat) (d : PyData), d ∈ r.data.drop n → Th 1 110 d := fun n d m => row9 d (List.mem_of_mem_drop m)
    refine ⟨_, rfl, rfl, _, rfl, ite2 (fun z0 => ?_) (fun z0 => ?_)⟩
    · refine ⟨_, rfl, _, rfl, at_, rfl, slA_of hP s19 ha9 fun b1 G1 g1 f1 hb1 => ?_⟩
      rw [eat, cut_to] at hb1
      refine ⟨_, rfl, _, rfl, _, _, rfl, rfl, _, rfl, ?_⟩
      dsimp only [tNoPart]
      refine slA_of hP g1 (f1.tup s9.1 ha9) fun b2 G2 g2 f2 hb2 => ?_
      rw [show at_ + 1 = ((at_.toNat + 1 : Nat) : Int) by omega, cut_from] at hb2
      refine catA_of hP g2 (f2.tup f1.1 hb1) hb2 ?_ fun e G3 g3 f3 he => ?_
      · rw [List.length_take, List.length_drop]
        omega
      · have f93 := (f1.trans f2).trans f3
        refine done e G3 _ (r.data.take at_.toNat ++ r.data.drop (at_.toNat + 1)) g3 f93 he ((dqs_row r).take _ |>.app ((dqs_row r).drop _)) (fun d m => ?_) ?_
        · rcases List.mem_append.mp m with m | m
          · exact mt _ d m
          · exact md _ d m
        · rw [List.length_append, List.length_take, List.length_drop]
          omega
    refine ⟨_, rfl, rfl, _, rfl, ite2 (fun z1 => ?_) (fun z1 => ?_)⟩
    · refine ⟨_, rfl, _, rfl, at_, rfl, slA_of hP s19 ha9 fun b1 G1 g1 f1 hb1 => ?_⟩
      rw [eat, cut_to] at hb1
      refine ⟨_, rfl, (by show 1 ≤ sizeLine; decide), fun b2 nb2 => ?_⟩
      have g2 := g1.new (o := .tup [pv]) hP nb2
      have f2 := (Stp.refl g1.1).new (o := .tup [pv]) g1.1 nb2
      refine catA_of hP g2 (f2.tup f1.1 hb1) upd_same ?_ fun e G3 g3 f3 he => ?_
      · rw [List.length_take]
        show _ + 1 ≤ 1000
        omega
      have f93 := (f1.trans f2).trans f3
      refine ⟨_, rfl, _, rfl, at_, rfl, ?_⟩
      dsimp only [tNoPart]
      refine slA_of hP g3 (f93.tup s9.1 ha9) fun b4 G4 g4 f4 hb4 => ?_
      rw [eat, cut_from] at hb4
      refine catA_of hP g4 (f4.tup f3.1 he) hb4 ?_ fun e2 G5 g5 f5 he2 => ?_
      · rw [List.length_append, List.length_take, List.length_drop]
        show _ + 1 + _ ≤ 1000
        omega
      · have f95 := (f93.trans f4).trans f5
        refine done e2 G5 _ (r.data.take at_.toNat ++ [dp] ++ r.data.drop at_.toNat) g5 f95 he2 (((dqs_row r).take _ |>.app (.cons (dpv9.stp hEp s9.1 f95) .nil)).app ((dqs_row r).drop _)) (fun d m => ?_) ?_
        · rcases List.mem_append.mp m with m | m
          · rcases List.mem_append.mp m with m | m
            · exact mt _ d m
            · rw [List.mem_singleton.mp m]
              exact thp
          · exact md _ d m
        · rw [List.length_append, List.length_append, List.length_take, List.length_drop]
          show _ + 1 + _ ≤ 9
          omega
    refine ⟨_, rfl, rfl, _, rfl, ite2 (fun z2 => ?_) (fun z2 => ?_)⟩
    · refine ⟨_, rfl, a, _, rfl, .inr (SqT.of ha9), fun x1 nx1 => ?_⟩
      have a1 := s19.new (o := .lst r.vals) hP nx1
      have b1 := (Stp.refl s9.1).new (o := .lst r.vals) s9.1 nx1
      have h1 : (upd H9 x1 (.lst r.vals)) x1 = some (.lst r.vals) := upd_same
      have n1 : H x1 = none := s19.back hP nx1
      generalize upd H9 x1 (.lst r.vals) = G1 at a1 b1 h1 ⊢
      refine ⟨Nat.zero_le _, fun x2 nx2 => ?_⟩
      have a2 := a1.new (o := .tup []) hP nx2
      have b2 := (Stp.refl a1.1).new (o := .tup []) a1.1 nx2
      have h2 : (upd G1 x2 (.tup [])) x2 = some (.tup []) := upd_same
      generalize upd G1 x2 (.tup []) = G2 at a2 b2 h2 ⊢
      refine ⟨_, rfl, (by show 1 ≤ sizeLine; decide), fun x3 nx3 => ?_⟩
      have a3 := a2.new (o := .lst [.ref a]) hP nx3
      have b3 := (Stp.refl a2.1).new (o := .lst [.ref a]) a2.1 nx3
      have h3 : (upd G2 x3 (.lst [.ref a])) x3 = some (.lst [.ref a]) := upd_same
      have n3 : H x3 = none := a2.back hP nx3
      generalize upd G2 x3 (.lst [.ref a]) = G3 at a3 b3 h3 ⊢
      refine ⟨_, rfl, (by show 1 ≤ sizeLine; decide), fun x4 nx4 => ?_⟩
      have a4 := a3.new (o := .tup [.ref a]) hP nx4
      have b4 := (Stp.refl a3.1).new (o := .tup [.ref a]) a3.1 nx4
      have h4 : (upd G3 x4 (.tup [.ref a])) x4 = some (.tup [.ref a]) := upd_same
      generalize upd G3 x4 (.tup [.ref a]) = G4 at a4 b4 h4 ⊢
      have b14 := ((b1.trans b2).trans b3).trans b4
      refine ⟨_, rfl, a, _, 0, _, rfl, rfl, SqT.of (b14.tup s9.1 ha9), Gp.at0 r, (by show 1 ≤ sizeLine; decide), fun x5 nx5 => ?_⟩
      have a5 := a4.new (o := .tup [.str "ask"]) hP nx5
      have b5 := (Stp.refl a4.1).new (o := .tup [.str "ask"]) a4.1 nx5
      have h5 : (upd G4 x5 (.tup [.str "ask"])) x5 = some (.tup [.str "ask"]) := upd_same
      generalize upd G4 x5 (.tup [.str "ask"]) = G5 at a5 b5 h5 ⊢
      refine ⟨(by show 10 ≤ sizeLine; decide), fun l nl => ?_⟩
      have a6 := a5.new (o := .lst [.ref x1, .non, .ref x2, .int 7, .bl true, .str "ask", .ref x3, .ref x4, .str r.word, .ref x5]) hP nl
      have b6 := (Stp.refl a5.1).new (o := .lst [.ref x1, .non, .ref x2, .int 7, .bl true, .str "ask", .ref x3, .ref x4, .str r.word, .ref x5]) a5.1 nl
      have nl0 : H l = none := a5.back hP nl
      refine ⟨_, rfl, p, c, 10, rfl, a6.1, by decide, by decide, fun i G7 i0 i1 a7 => ?_⟩
      have hl7 := a7.2 l _ (fun e => hP.neP nl0 e.symm) upd_same
      have f67 : Stp p c G5 G7 := b6.trans a7
      have f57 := b5.trans f67
      have f47 := b4.trans f57
      have f37 := b3.trans f47
      have f27 := b2.trans f37
      have f97 := b1.trans f27
      have ha7 := f97.tup s9.1 ha9
      have k1 := f27.2 x1 _ (fun e => hP.neP n1 e.symm) h1
      have k3 := f47.2 x3 _ (fun e => hP.neP n3 e.symm) h3
      have dq10 : Dqs (fun a => H a ≠ none) G7 [.ref x1, .non, .ref x2, .int 7, .bl true, .str "ask", .ref x3, .ref x4, .str r.word, .ref x5]
          [.list r.data, .none, .tuple [], .int 7, .bool true, .str "ask", .list [.tuple r.data], .tuple [.tuple r.data], .str r.word, .tuple [.str "ask"]] :=
        .cons (.lst (fun z => z n1) k1 (dqs_row r)) (.cons .non (.cons (.tup (f37.tup a2.1 h2) .nil) (.cons (.int _) (.cons (.bl _) (.cons (.str _) (.cons (.lst (fun z => z n3) k3 (.cons (.tup ha7 (dqs_row r)) .nil)) (.cons (.tup (f57.tup a4.1 h4) (.cons (.tup ha7 (dqs_row r)) .nil)) (.cons (.str _) (.cons (.tup (f67.tup a5.1 h5) (.cons (.str _) .nil)) .nil)))))))))
      have up : ∀ {d : PyData}, Th 0 100 d → Th 3 3000 d := fun h => h.mono (by decide) (by decide)
      have trow : Th 2 800 (.tuple r.data) := (th_tup row9 r7).mono (by decide) (by decide)
      have th10 : ∀ d ∈ ([.list r.data, .none, .tuple [], .int 7, .bool true, .str "ask", .list [.tuple r.data], .tuple [.tuple r.data], .str r.word, .tuple [.str "ask"]] : List PyData), Th 3 3000 d := by
        intro d hd
        simp only [List.mem_cons, List.not_mem_nil, or_false] at hd
        rcases hd with rfl | rfl | rfl | rfl | rfl | rfl | rfl | rfl | rfl | rfl
        · exact (th_lst row9 r7).mono (by decide) (by decide)
        · exact up th_non
        · exact (th_tup (k := 0) (n := 0) (m := 0) (ds := []) (fun d hd => nomatch hd) (Nat.le_refl _)).mono (by decide) (by decide)
        · exact up (th_int (by decide))
        · exact up (th_bl _)
        · exact up (th_str (by decide +kernel) (by decide +kernel))
        · exact (th_lst (ds := [.tuple r.data]) (m := 1) (fun d hd => by rw [List.mem_singleton.mp hd]; exact trow) (Nat.le_refl 1)).mono (by decide) (by decide)
        · exact (th_tup (ds := [.tuple r.data]) (m := 1) (fun d hd => by rw [List.mem_singleton.mp hd]; exact trow) (Nat.le_refl 1)).mono (by decide) (by decide)
        · exact up (th_str (word_ok r) (Nat.le_trans (word_len r) (by decide)))
        · exact (th_tup (m := 1) (fun d hd => by rw [List.mem_singleton.mp hd]; exact th_str (by decide +kernel) (by decide +kernel)) (by decide)).mono (by decide) (by decide)
      obtain ⟨d, hd⟩ : ∃ d, ([.list r.data, .none, .tuple [], .int 7, .bool true, .str "ask", .list [.tuple r.data], .tuple [.tuple r.data], .str r.word, .tuple [.str "ask"]] : List PyData)[i.toNat]? = some d :=
        ⟨_, List.getElem?_eq_getElem (show i.toNat < 10 by omega)⟩
      obtain ⟨v, hv, dv⟩ := dq10.get hd
      exact ⟨l, _, i, v, rfl, rfl, SqL.of hl7, at_any (j := i.toNat) (by omega) hv, q v d G7 (a6.trans a7) dv (th10 d (List.mem_of_getElem? hd))⟩
    refine ⟨_, rfl, rfl, _, rfl, ite2 (fun z3 => ?_) (fun z3 => ?_)⟩
    · obtain ⟨ini, inid, u1, u2, e1, e2, ev, ed, di, d1, d2⟩ : ∃ (ini : List V) (inid : List PyData) (u1 u2 : V) (e1 e2 : PyData), r.vals = ini ++ [u1, u2] ∧ r.data = inid ++ [e1, e2] ∧ (∀ G, Dqs (fun a => H a ≠ none) G ini inid) ∧ (∀ G, Dq (fun a => H a ≠ none) G u1 e1) ∧ (∀ G, Dq (fun a => H a ≠ none) G u2 e2) := by
        cases r with
        | ask h g k n o b => exact ⟨_, _, _, _, _, _, (rfl : _ = [V.str "ask", .str h, .int k, .int n, .str g] ++ [.int o, .int b]), (rfl : _ = [PyData.str "ask", .str h, .int k, .int n, .str g] ++ [.int o, .int b]), fun _ => .cons (.str _) (.cons (.str _) (.cons (.int _) (.cons (.int _) (.cons (.str _) .nil)))), fun _ => .int _, fun _ => .int _⟩
        | job h k o b => exact ⟨_, _, _, _, _, _, (rfl : _ = [V.str "job", .str h, .int k] ++ [.int o, .int b]), (rfl : _ = [PyData.str "job", .str h, .int k] ++ [.int o, .int b]), fun _ => .cons (.str _) (.cons (.str _) (.cons (.int _) .nil)), fun _ => .int _, fun _ => .int _⟩
        | all h x y => exact ⟨_, _, _, _, _, _, (rfl : _ = [V.str "all", .str h] ++ [.int x, .int y]), (rfl : _ = [PyData.str "all", .str h] ++ [.int x, .int y]), fun _ => .cons (.str _) (.cons (.str _) .nil), fun _ => .int _, fun _ => .int _⟩
      refine ⟨_, rfl, 2, rfl, _, rfl, slA_of hP s19 ha9 fun b1 G1 g1 f1 hb1 => ?_⟩
      rw [show (-2 : Int) = -2 from rfl, cut_but2 _ (by omega), ev, List.length_append, show ini.length + [u1, u2].length - 2 = ini.length from Nat.add_sub_cancel .., List.take_left] at hb1
      have ha1 := f1.tup s9.1 ha9
      rw [ev] at ha1
      refine ⟨_, rfl, 1, rfl, a, _, -1, u2, rfl, rfl, SqT.of ha1, at_last1, _, rfl, 2, rfl, a, _, -2, u1, rfl, rfl, SqT.of ha1, at_last2, (by show 2 ≤ sizeLine; decide), fun b2 nb2 => ?_⟩
      have g2 := g1.new (o := .tup [u2, u1]) hP nb2
      have f2 := (Stp.refl g1.1).new (o := .tup [u2, u1]) g1.1 nb2
      have li : ini.length ≤ 5 := by
        rw [ev, List.length_append] at rv
        have : [u1, u2].length = 2 := rfl
        omega
      refine catA_of hP g2 (f2.tup f1.1 hb1) upd_same ?_ fun e G3 g3 f3 he => ?_
      · show _ + 2 ≤ 1000
        omega
      · have f93 := (f1.trans f2).trans f3
        refine done e G3 _ (inid ++ [e2, e1]) g3 f93 he ((di G3).app (.cons (d2 G3) (.cons (d1 G3) .nil))) (fun d m => ?_) ?_
        · refine row9 d ?_
          rw [ed]
          rcases List.mem_append.mp m with m | m
          · exact List.mem_append_left _ m
          · refine List.mem_append_right _ ?_
            simp only [List.mem_cons, List.not_mem_nil, or_false] at m ⊢
            exact m.symm
        · rw [List.length_append, ← (di G3).len]
          show _ + 2 ≤ 9
          omega
    · refine ⟨_, rfl, _, rfl, at_, rfl, slA_of hP s19 ha9 fun b1 G1 g1 f1 hb1 => ?_⟩
      rw [eat, cut_to] at hb1
      refine ⟨_, rfl, (by show 1 ≤ sizeLine; decide), fun b2 nb2 => ?_⟩
      have g2 := g1.new (o := .tup [pv]) hP nb2
      have f2 := (Stp.refl g1.1).new (o := .tup [pv]) g1.1 nb2
      refine catA_of hP g2 (f2.tup f1.1 hb1) upd_same ?_ fun e G3 g3 f3 he => ?_
      · rw [List.length_take]
        show _ + 1 ≤ 1000
        omega
      have f93 := (f1.trans f2).trans f3
      refine ⟨_, rfl, _, rfl, _, _, rfl, rfl, _, rfl, ?_⟩
      dsimp only [tNoPart]
      refine slA_of hP g3 (f93.tup s9.1 ha9) fun b4 G4 g4 f4 hb4 => ?_
      rw [show at_ + 1 = ((at_.toNat + 1 : Nat) : Int) by omega, cut_from] at hb4
      refine catA_of hP g4 (f4.tup f3.1 he) hb4 ?_ fun e2 G5 g5 f5 he2 => ?_
      · rw [List.length_append, List.length_take, List.length_drop]
        show _ + 1 + _ ≤ 1000
        omega
      · have f95 := (f93.trans f4).trans f5
        refine done e2 G5 _ (r.data.take at_.toNat ++ [dp] ++ r.data.drop (at_.toNat + 1)) g5 f95 he2 (((dqs_row r).take _ |>.app (.cons (dpv9.stp hEp s9.1 f95) .nil)).app ((dqs_row r).drop _)) (fun d m => ?_) ?_
        · rcases List.mem_append.mp m with m | m
          · rcases List.mem_append.mp m with m | m
            · exact mt _ d m
            · rw [List.mem_singleton.mp m]
              exact thp
          · exact md _ d m
        · rw [List.length_append, List.length_append, List.length_take, List.length_drop]
          show _ + 1 + _ ≤ 9
          omega

/-! ### what is written is not long -/
theorem textFrom_le : ∀ (ts : List Str) (k : Nat) (acc : Str), (textFrom k acc ts).length ≤ acc.length + piled ts
  | [], k, acc => Nat.le_add_right _ _
  | t :: ts, k, acc => by
    have ih := textFrom_le ts (k + 1) (acc ++ (if k > 0 then ", " else "" : String) ++ t)
    have e : (acc ++ (if k > 0 then ", " else "" : String) ++ t).length ≤ acc.length + 2 + t.length := by
      rw [strLen_append, strLen_append]
      by_cases hk : k > 0
      · rw [if_pos hk]
        exact Nat.le_refl _
      · rw [if_neg hk]
        show acc.length + 0 + t.length ≤ _
        omega
    rw [piled_cons]
    show (textFrom (k + 1) (acc ++ (if k > 0 then ", " else "" : String) ++ t) ts).length ≤ _
    omega
theorem listText_le (ts : List Str) : (listText ts).length ≤ 2 + piled ts := by
  unfold listText
  rw [strLen_append]
  have h := textFrom_le ts 0 "["
  have e1 : (Str.ofString "[").length = 1 := rfl
  have e2 : (Str.ofString "]").length = 1 := rfl
  omega
theorem tupleText_le (ts : List Str) : (tupleText ts).length ≤ 3 + piled ts := by
  unfold tupleText
  rw [strLen_append, strLen_append]
  have e1 : (Str.ofString "(").length = 1 := rfl
  have e2 : (Str.ofString (if ts.length == 1 then ",)" else ")")).length ≤ 2 := by
    split
    · exact Nat.le_refl _
    · exact (by decide : 1 ≤ 2)
  have e3 : (Str.join ", " ts).length ≤ piled ts := by
    cases ts with
    | nil => exact Nat.zero_le _
    | cons t r =>
      have := join_length_add (t :: r) (List.cons_ne_nil _ _)
      omega
  omega
mutual
theorem shown_le : ∀ d : PyData, d.canLay0 = true → d.shown.length ≤ szD d
  | .none, _ => Nat.le_refl _
  | .bool true, _ => (by decide : 4 ≤ 5)
  | .bool false, _ => Nat.le_refl _
  | .int i, _ => Nat.le_refl _
  | .str x, _ => Nat.le_refl _
  | .list xs, h => by
    have h1 := listText_le (PyData.shownAll xs)
    have h2 := shownAll_le xs h
    show (listText (PyData.shownAll xs)).length ≤ 4 + szDs xs
    omega
  | .tuple xs, h => by
    have h1 := tupleText_le (PyData.shownAll xs)
    have h2 := shownAll_le xs h
    show (tupleText (PyData.shownAll xs)).length ≤ 4 + szDs xs
    omega
theorem shownAll_le : ∀ xs : List PyData, PyData.canLayAll0 xs = true → piled (PyData.shownAll xs) ≤ szDs xs
  | [], _ => Nat.le_refl _
  | x :: xs, h => by
    have h' : (x.canLay0 && PyData.canLayAll0 xs) = true := h
    rw [Bool.and_eq_true] at h'
    have h1 := shown_le x h'.1
    have h2 := shownAll_le xs h'.2
    show piled (x.shown :: PyData.shownAll xs) ≤ szD x + 2 + szDs xs
    rw [piled_cons]
    omega
end
theorem Th.len {d : PyData} (h : Th 3 3000 d) : d.shown.length ≤ sizeLine := Nat.le_trans (Nat.le_trans (shown_le d h.lay) h.sz) (by decide)
/-! ### the law -/
def sp_law (K : PySem.W.Frag) : Sp := fun vs H Q _ => ∃ (a : Addr) (ns : List Int), vs = [.ref a] ∧ SqL K H a (ns.map V.int) ∧ ns.length ≤ 63 ∧ ∀ H', Q (.bl true) H'
theorem isRow_of {hs : List Str} {r : Row} (w : r.Wf) (i : r.In hs) : IsRowD hs (.tuple r.data) := by
  cases r with
  | ask h g k n o b => exact ⟨_, rfl, i, w.2.2.1, w.2.2.2.1, w.2.2.2.2.1, w.2.2.2.2.2.1, w.2.2.2.2.2.2⟩
  | job h k o b => exact ⟨_, rfl, i, w.2.1, w.2.2.1, w.2.2.2.1, w.2.2.2.2⟩
  | all h a j => exact ⟨_, rfl, i, w.2.1, w.2.2⟩
theorem Dq.weak {Ex Ey : Addr → Prop} {H : Hp} {v : V} {d : PyData} (h : Dq Ex H v d) (w : ∀ a, Ey a → Ex a) : Dq Ey H v d := h.go (fun a e n => absurd (w a e) n) (fun _ _ _ e => e) (fun _ _ e => e)
theorem ok_law (T : Txt K mg af fd) : Gd.RunAt P w K mg base callerA (af 21) (fd 21) ["script"] (sp_law K) := by
  refine Gd.run_at (k := 6) T.F_law sc_law ⟨rfl, by decide, by decide⟩ (fun vs H Q E h => ?_) (fun cdv s H vs Q E h => ?_)
  · obtain ⟨a, ns, rfl, _⟩ := h
    rfl
  · obtain ⟨a, ns, rfl, hS, hlen, q⟩ := h
    have hr : Room 6 (callerA.deeper (envOfC "law" (defScope s_law) s.heap.objs.size (af 21) cdv)) := Room.deeper ⟨rfl, by decide, by decide⟩ _
    refine ⟨_, (pss_cons (ps_set (i := 1) sc_law.nd rfl (by first | exact Or.inl rfl | exact Or.inr rfl) (pe_call (ok_l_open T) (hr.mono (by decide)) (by rfl) T.g_l_open T.F_l_open.kp T.b_l_open .nil pass0 (pa_cons (pv 0) pa_nil)))
        (pss_cons (ps_for PassesOwn.never rfl (pi_range1 (by rfl) T.m_range (pa_cons pe_int pa_nil)) (pg_name (i := 2) sc_law.nd rfl (by first | exact Or.inl rfl | exact Or.inr rfl)) (pss_cons (ps_set (i := 3) sc_law.nd rfl (by first | exact Or.inl rfl | exact Or.inr rfl) (pe_call (ok_l_town T) (hr.mono (by decide)) (by rfl) T.g_l_town T.F_l_town.kp T.b_l_town .nil pass0 (pa_cons (pe_call (ok_l_anew T) (hr.mono (by decide)) (by rfl) T.g_l_anew T.F_l_anew.kp T.b_l_anew .nil pass0 (pa_cons (pv 1) pa_nil)) (pa_cons pe_int pa_nil))))
        (pss_cons (ps_set (i := 4) sc_law.nd rfl (by first | exact Or.inl rfl | exact Or.inr rfl) (pe_call (ok_l_town T) (hr.mono (by decide)) (by rfl) T.g_l_town T.F_l_town.kp T.b_l_town .nil pass0 (pa_cons (pe_call (ok_l_anew T) (hr.mono (by decide)) (by rfl) T.g_l_anew T.F_l_anew.kp T.b_l_anew .nil pass0 (pa_cons (pv 1) pa_nil)) (pa_cons pe_int pa_nil))))
        (pss_cons (ps_set (i := 5) sc_law.nd rfl (by first | exact Or.inl rfl | exact Or.inr rfl) (pe_call (ok_l_any_row T) (hr.mono (by decide)) (by rfl) T.g_l_any_row T.F_l_any_row.kp T.b_l_any_row .nil pass0 (pa_cons (pv 1) (pa_cons (pv 3) pa_nil))))
        (pss_cons (ps_if (pt_cmpR op_isnot_bl (pe_call (ok_is_row T) (hr.mono (by decide)) (by rfl) T.g_is_row T.F_is_row.kp T.b_is_row .nil pass0 (pa_cons (pv 3) (pa_cons (pv 5) pa_nil))) pe_bl (nomark _)) (pss_one (ps_ret pe_bl)) pss_nil)
        (pss_one (ps_for PassesOwn.never rfl (pi_list (pe_lst (pa_cons (pv 5) (pa_cons (pe_call (ok_l_no_row T) (hr.mono (by decide)) (by rfl) T.g_l_no_row T.F_l_no_row.kp T.b_l_no_row .nil pass0 (pa_cons (pv 1) (pa_cons (pv 3) pa_nil))) (pa_cons (pe_call (ok_l_no_row T) (hr.mono (by decide)) (by rfl) T.g_l_no_row T.F_l_no_row.kp T.b_l_no_row .nil pass0 (pa_cons (pv 1) (pa_cons (pv 3) pa_nil))) (pa_cons (pe_call (ok_l_no_row T) (hr.mono (by decide)) (by rfl) T.g_l_no_row T.F_l_no_row.kp T.b_l_no_row .nil pass0 (pa_cons (pv 1) (pa_cons (pv 4) pa_nil))) pa_nil)))))) (pg_name (i := 6) sc_law.nd rfl (by first | exact Or.inl rfl | exact Or.inr rfl)) (pss_one (ps_for PassesOwn.never rfl (pi_list (pe_lst (pa_cons (pv 3) (pa_cons (pv 4) pa_nil)))) (pg_name (i := 7) sc_law.nd rfl (by first | exact Or.inl rfl | exact Or.inr rfl)) (pss_cons (ps_set (i := 8) sc_law.nd rfl (by first | exact Or.inl rfl | exact Or.inr rfl) (pe_callB (Gd.call_reprD rfl (hu65 hr)) (by rfl) T.m_repr (by decide +kernel) (pa_cons (pv 6) pa_nil)))
        (pss_cons (ps_set (i := 9) sc_law.nd rfl (by first | exact Or.inl rfl | exact Or.inr rfl) (pe_call (ok_is_row T) (hr.mono (by decide)) (by rfl) T.g_is_row T.F_is_row.kp T.b_is_row .nil pass0 (pa_cons (pv 7) (pa_cons (pv 6) pa_nil))))
        (pss_one (ps_if (PW.pt (pw_or (pt_not (pt_val (pe_callB call_isi (by rfl) T.m_isinstance (by decide +kernel) (pa_cons (pv 9) (pa_cons (pe_bltn (v := .ty "bool") (by rfl) T.m_bool (by decide +kernel) rfl) pa_nil))))) (pw_or (pt_cmpR op_ne (pv 9) (pe_call (ok_l_is_row T) (hr.mono (by decide)) (by rfl) T.g_l_is_row T.F_l_is_row.kp T.b_l_is_row .nil pass0 (pa_cons (pv 7) (pa_cons (pv 6) pa_nil))) (nomark _)) (pw_or1 (pt_cmpR op_ne (pe_callB (Gd.call_reprD rfl (hu65 hr)) (by rfl) T.m_repr (by decide +kernel) (pa_cons (pv 6) pa_nil)) (pv 8) (nomark _)))))) (pss_one (ps_ret pe_bl)) pss_nil)))))))))))))
        (pss_one (ps_ret pe_bl)))), ?_⟩
    refine ⟨_, rfl, a, ns, rfl, hS, hlen, fun p c H1 s1 np nc hP => ?_⟩
    refine ⟨6, rfl, by decide, by decide, for_range (lo := 0) (n := 6) (fun i σ H' => (∃ v2 v3 v4 v5 v6 v7 v8 v9 : Option V, σ = [some (.ref a), some (.ref p), v2, v3, v4, v5, v6, v7, v8, v9]) ∧ Pen H' p c)
      ⟨⟨none, none, none, none, none, none, none, none, rfl⟩, hP⟩ ?_ ?_⟩
    · rintro i σ H2 hi ⟨⟨v2, v3, v4, v5, v6, v7, v8, v9, rfl⟩, hP2⟩
      have town6 : ∀ {hs gs : List Str}, Good hs gs 6 → 1 ≤ hs.length ∧ hs.length ≤ 6 ∧ ∀ h ∈ hs, PyData.strOk h = true := fun hg => ⟨hg.one, hg.few, fun h m => (hg.hou h m).ok⟩
      refine ⟨_, rfl, p, c, rfl, hP2, fun H3 s3 => ?_⟩
      refine ⟨p, c, 6, rfl, s3.1, by decide, by decide, fun t hs gs H4 s4 ht hg => ?_⟩
      refine ⟨_, rfl, p, c, rfl, s4.1, fun H5 s5 => ?_⟩
      refine ⟨p, c, 6, rfl, s5.1, by decide, by decide, fun u hs2 gs2 H6 s6 ht2 hg2 => ?_⟩
      have s46 := s5.trans s6
      have ht6 := s46.town s4.1 ht
      obtain ⟨o1, o6, ok1⟩ := town6 hg
      obtain ⟨o12, o62, ok2⟩ := town6 hg2
      refine ⟨_, rfl, _, rfl, p, c, t, hs, gs, rfl, s6.1, ht6, o1, o6, fun r xs H7 s7 nr hrr hrow => ?_⟩
      obtain ⟨rr, rfl, wr, ri⟩ := hrow.row hg.hou
      have ht7 := s7.town s6.1 ht6
      have hu7 := s7.town s6.1 ht2
      have thr : Th 3 3000 (.tuple rr.data) := (th_tup (row_th hg.hou wr ri) (row_len7 rr).2).mono (by decide) (by decide)
      have dqr : ∀ {Ex : Addr → Prop} {G : Hp}, G r = some (.tup rr.vals) → Dq Ex G (.ref r) (.tuple rr.data) := fun h => .tup h (dqs_row rr)
      refine ⟨_, rfl, _, rfl, fun _ => False, t, .ref r, .tuple rr.data, hs, gs, rfl, ht7, ok1, dqr hrr, thr.sh (by decide), fun b hb => ?_⟩
      obtain rfl : b = true := hb.mpr (isRow_of wr ri)
      refine ⟨_, _, rfl, rfl, _, rfl, iteNS rfl ?_⟩
      have exP : ∀ {G : Hp}, Pen G p c → ∀ a, a = p → G a ≠ none := fun hG a e => by
        obtain ⟨_, _, _, h1, _⟩ := hG
        rw [e, h1]
        exact fun z => nomatch z
      -- the four things
      refine ⟨_, rfl, _, rfl, _, rfl, p, c, t, hs, gs, rfl, s7.1, ht7, o1, o6, hg.hou, fun w1 d1 H8 s8 dq1 th1 => ?_⟩
      have ht8 := s8.town s7.1 ht7
      have e1 := dq1.weak (exP s7.1)
      refine ⟨_, rfl, _, rfl, p, c, t, hs, gs, rfl, s8.1, ht8, o1, o6, hg.hou, fun w2 d2 H9 s9 dq2 th2 => ?_⟩
      have e2 := dq2.weak (exP s8.1)
      have hu9 := (s8.trans s9).town s7.1 hu7
      refine ⟨_, rfl, _, rfl, p, c, u, hs2, gs2, rfl, s9.1, hu9, o12, o62, hg2.hou, fun w3 d3 H10 s10 dq3 th3 => ?_⟩
      have e3 := dq3.weak (exP s9.1)
      have f1 := e1.stp rfl s8.1 (s9.trans s10)
      have f2 := e2.stp rfl s9.1 s10
      have s710 := (s8.trans s9).trans s10
      refine ⟨(by show 4 ≤ sizeLine; decide), fun l nl => ⟨l, rfl, ⟨_, SqL.of upd_same⟩, ?_⟩⟩
      have sl : Same H10 (upd H10 l (.lst [.ref r, w1, w2, w3])) := same_upd nl
      have all4 : Dqs (fun a => a = p) (upd H10 l (.lst [.ref r, w1, w2, w3])) [.ref r, w1, w2, w3] [.tuple rr.data, d1, d2, d3] :=
        .cons (dqr (sl _ _ (s710.tup s7.1 hrr))) (.cons (f1.same sl) (.cons (f2.same sl) (.cons (e3.same sl) .nil)))
      have th4 : ∀ d ∈ [.tuple rr.data, d1, d2, d3], Th 3 3000 d := by
        intro d m
        simp only [List.mem_cons, List.not_mem_nil, or_false] at m
        rcases m with rfl | rfl | rfl | rfl <;> assumption
      have htl := (s710.town s7.1 ht7).same' sl
      have hul := (s710.town s7.1 hu7).same' sl
      have hPl : Pen (upd H10 l (.lst [.ref r, w1, w2, w3])) p c := ((Stp.refl s10.1).new s10.1 nl).1
      have hll : (upd H10 l (.lst [.ref r, w1, w2, w3])) l = some (.lst [.ref r, w1, w2, w3]) := upd_same
      generalize upd H10 l (.lst [.ref r, w1, w2, w3]) = G at all4 htl hul hPl hll ⊢
      generalize [V.ref r, w1, w2, w3] = ws at all4 hll
      refine for_list (K := K) (a := l) (xs := ws) (fun i σ H' => (∃ v2 v6 v7 v8 v9 : Option V, σ = [some (.ref a), some (.ref p), v2, some (.ref t), some (.ref u), some (.ref r), v6, v7, v8, v9]) ∧ Same G H')
        ⟨⟨_, _, _, _, _, rfl⟩, Same.refl _⟩ (fun i σ H' _ h => h.2.seq (SqL.of hll)) ?_ ?_
      · rintro j v σ G1 hj ⟨⟨v2, v6, v7, v8, v9, rfl⟩, g1⟩
        have hjl : j < ([.tuple rr.data, d1, d2, d3] : List PyData).length := by
          rw [← all4.len]
          exact (List.getElem?_eq_some_iff.mp hj).1
        obtain ⟨v', hv', dv⟩ := all4.get (List.getElem?_eq_getElem hjl)
        obtain rfl : v' = v := Option.some.inj (hv'.symm.trans hj)
        have thd := th4 _ (List.getElem_mem hjl)
        generalize ([.tuple rr.data, d1, d2, d3] : List PyData)[j] = d at dv thd
        refine ⟨_, rfl, _, rfl, (by show 2 ≤ sizeLine; decide), fun m nm => ⟨m, rfl, ⟨_, SqL.of upd_same⟩, ?_⟩⟩
        have g2 : Same G (upd G1 m (.lst [.ref t, .ref u])) := same_mut g1 (g1.free nm)
        have hm2 : (upd G1 m (.lst [.ref t, .ref u])) m = some (.lst [.ref t, .ref u]) := upd_same
        generalize upd G1 m (.lst [.ref t, .ref u]) = G2 at g2 hm2 ⊢
        refine for_list (K := K) (a := m) (xs := [.ref t, .ref u]) (fun i σ H' => (∃ v2 v7 v8 v9 : Option V, σ = [some (.ref a), some (.ref p), v2, some (.ref t), some (.ref u), some (.ref r), some v', v7, v8, v9]) ∧ Same G2 H')
          ⟨⟨_, _, _, _, rfl⟩, Same.refl _⟩ (fun i σ H' _ h => h.2.seq (SqL.of hm2)) ?_ ?_
        · rintro k x σ G3 hk ⟨⟨v2, v7, v8, v9, rfl⟩, g3⟩
          have g23 := g2.trans g3
          obtain ⟨tp, hsp, gsp, rfl, htp, okp⟩ : ∃ (tp : Addr) (hsp gsp : List Str), x = .ref tp ∧ TownAt G3 tp hsp gsp ∧ ∀ h ∈ hsp, PyData.strOk h = true := by
            match k, hk with
            | 0, hk => exact ⟨t, hs, gs, (Option.some.inj hk).symm, htl.same' g23, ok1⟩
            | 1, hk => exact ⟨u, hs2, gs2, (Option.some.inj hk).symm, hul.same' g23, ok2⟩
          have dv3 := dv.same g23
          refine ⟨_, rfl, v', d, rfl, dv3.dp, thd.shw, thd.lay, Nat.le_trans thd.dep (by decide), thd.len, ?_⟩
          refine ⟨_, rfl, _, rfl, fun a => a = p, tp, v', d, hsp, gsp, rfl, htp, okp, dv3, thd.sh (by decide), fun b hb => ?_⟩
          refine ⟨_, rfl, _, _, _, _, true, rfl, ClsV.ty "bool", TyX.base (.bl b), kit_ty (by decide +kernel), _, rfl, iteF ?_⟩
          refine ⟨_, rfl, _, rfl, _, rfl, fun a => a = p, tp, v', d, hsp, gsp, rfl, htp, okp, dv3, thd.sh (by decide), fun b2 G4 g4 hb2 => ?_⟩
          have eb : b = b2 := Bool.eq_iff_iff.mpr (hb.trans hb2.symm)
          refine ⟨rfl, _, rfl, iteNS (congrArg V.bl eb) ?_⟩
          refine ⟨_, rfl, v', d, rfl, (dv3.same g4).dp, thd.shw, thd.lay, Nat.le_trans thd.dep (by decide), thd.len, _, rfl, rfl, _, rfl, iteNS rfl ?_⟩
          exact ⟨⟨_, _, _, _, rfl⟩, g3.trans g4⟩
        · rintro σ G3 ⟨⟨v2, v7, v8, v9, rfl⟩, g3⟩
          exact ⟨⟨_, _, _, _, _, rfl⟩, g2.trans g3⟩
      · rintro σ G1 ⟨⟨v2, v6, v7, v8, v9, rfl⟩, g1⟩
        refine ⟨⟨_, _, _, _, _, _, _, _, rfl⟩, ?_⟩
        obtain ⟨cs, n, st, h1, h2, h3, h4⟩ := hPl
        exact ⟨cs, n, st, g1 _ _ h1, g1 _ _ h2, h3, h4⟩
    · rintro σ H2 ⟨⟨v2, v3, v4, v5, v6, v7, v8, v9, rfl⟩, hP2⟩
      exact q _

end
theorem all_mk {l : PySem.W.OpenLaw} {w : World} {K : PySem.W.Frag} {h : Heap} {mg : Str → Option Value} {fa : Addr} (X : K.In h) (G : h.Ns mainGlobals mg) (hfa : mg "law" = some (.ref fa))
    {f0 f1 f2 f3 f4 f5 f6 f7 f8 f9 f10 f11 f12 f13 f14 f15 f16 f17 f18 f19 f20 f21 : Addr}
    {od0 an0 od1 an1 od2 an2 od3 an3 od4 an4 od5 an5 od6 an6 od7 an7 od8 an8 od9 an9 od10 an10 od11 an11 od12 an12 od13 an13 od14 an14 od15 an15 od16 an16 od17 an17 od18 an18 od19 an19 od20 an20 od21 an21 : Option Addr} {sl0 sl1 sl2 sl3 sl4 sl5 sl6 sl7 sl8 sl9 sl10 sl11 sl12 sl13 sl14 sl15 sl16 sl17 sl18 sl19 sl20 sl21 : Array (Option Value)} {oc0 kV0 dc0 pm0 cd0 ct0 oc1 kV1 dc1 pm1 cd1 ct1 oc2 kV2 dc2 pm2 cd2 ct2 oc3 kV3 dc3 pm3 cd3 ct3 oc4 kV4 dc4 pm4 cd4 ct4 oc5 kV5 dc5 pm5 cd5 ct5 oc6 kV6 dc6 pm6 cd6 ct6 oc7 kV7 dc7 pm7 cd7 ct7 oc8 kV8 dc8 pm8 cd8 ct8 oc9 kV9 dc9 pm9 cd9 ct9 oc10 kV10 dc10 pm10 cd10 ct10 oc11 kV11 dc11 pm11 cd11 ct11 oc12 kV12 dc12 pm12 cd12 ct12 oc13 kV13 dc13 pm13 cd13 ct13 oc14 kV14 dc14 pm14 cd14 ct14 oc15 kV15 dc15 pm15 cd15 ct15 oc16 kV16 dc16 pm16 cd16 ct16 oc17 kV17 dc17 pm17 cd17 ct17 oc18 kV18 dc18 pm18 cd18 ct18 oc19 kV19 dc19 pm19 cd19 ct19 oc20 kV20 dc20 pm20 cd20 ct20 oc21 kV21 dc21 pm21 cd21 ct21 : Value}
    (a0 : PySem.W.nsIn K mainGlobals "is_whole_from" = some (some (.ref f0))) (l0 : K.lookup f0 = some ⟨oc0, od0, .func (PySem.W.fnOf "is_whole_from" "is_whole_from" (defArgs s_is_whole_from) (defBody s_is_whole_from) (defScope s_is_whole_from) .none kV0 dc0 pm0 an0 cd0 ct0), sl0⟩) (c0 : PySem.W.codeIn K cd0 "is_whole_from" = true) (k0 : PySem.W.keepIn K (.ref f0) = true)
    (a1 : PySem.W.nsIn K mainGlobals "is_time" = some (some (.ref f1))) (l1 : K.lookup f1 = some ⟨oc1, od1, .func (PySem.W.fnOf "is_time" "is_time" (defArgs s_is_time) (defBody s_is_time) (defScope s_is_time) .none kV1 dc1 pm1 an1 cd1 ct1), sl1⟩) (c1 : PySem.W.codeIn K cd1 "is_time" = true) (k1 : PySem.W.keepIn K (.ref f1) = true)
    (a2 : PySem.W.nsIn K mainGlobals "is_number" = some (some (.ref f2))) (l2 : K.lookup f2 = some ⟨oc2, od2, .func (PySem.W.fnOf "is_number" "is_number" (defArgs s_is_number) (defBody s_is_number) (defScope s_is_number) .none kV2 dc2 pm2 an2 cd2 ct2), sl2⟩) (c2 : PySem.W.codeIn K cd2 "is_number" = true) (k2 : PySem.W.keepIn K (.ref f2) = true)
    (a3 : PySem.W.nsIn K mainGlobals "is_count" = some (some (.ref f3))) (l3 : K.lookup f3 = some ⟨oc3, od3, .func (PySem.W.fnOf "is_count" "is_count" (defArgs s_is_count) (defBody s_is_count) (defScope s_is_count) .none kV3 dc3 pm3 an3 cd3 ct3), sl3⟩) (c3 : PySem.W.codeIn K cd3 "is_count" = true) (k3 : PySem.W.keepIn K (.ref f3) = true)
    (a4 : PySem.W.nsIn K mainGlobals "is_span" = some (some (.ref f4))) (l4 : K.lookup f4 = some ⟨oc4, od4, .func (PySem.W.fnOf "is_span" "is_span" (defArgs s_is_span) (defBody s_is_span) (defScope s_is_span) .none kV4 dc4 pm4 an4 cd4 ct4), sl4⟩) (c4 : PySem.W.codeIn K cd4 "is_span" = true) (k4 : PySem.W.keepIn K (.ref f4) = true)
    (a5 : PySem.W.nsIn K mainGlobals "is_ask_row" = some (some (.ref f5))) (l5 : K.lookup f5 = some ⟨oc5, od5, .func (PySem.W.fnOf "is_ask_row" "is_ask_row" (defArgs s_is_ask_row) (defBody s_is_ask_row) (defScope s_is_ask_row) .none kV5 dc5 pm5 an5 cd5 ct5), sl5⟩) (c5 : PySem.W.codeIn K cd5 "is_ask_row" = true) (k5 : PySem.W.keepIn K (.ref f5) = true)
    (a6 : PySem.W.nsIn K mainGlobals "is_job_row" = some (some (.ref f6))) (l6 : K.lookup f6 = some ⟨oc6, od6, .func (PySem.W.fnOf "is_job_row" "is_job_row" (defArgs s_is_job_row) (defBody s_is_job_row) (defScope s_is_job_row) .none kV6 dc6 pm6 an6 cd6 ct6), sl6⟩) (c6 : PySem.W.codeIn K cd6 "is_job_row" = true) (k6 : PySem.W.keepIn K (.ref f6) = true)
    (a7 : PySem.W.nsIn K mainGlobals "is_all_row" = some (some (.ref f7))) (l7 : K.lookup f7 = some ⟨oc7, od7, .func (PySem.W.fnOf "is_all_row" "is_all_row" (defArgs s_is_all_row) (defBody s_is_all_row) (defScope s_is_all_row) .none kV7 dc7 pm7 an7 cd7 ct7), sl7⟩) (c7 : PySem.W.codeIn K cd7 "is_all_row" = true) (k7 : PySem.W.keepIn K (.ref f7) = true)
    (a8 : PySem.W.nsIn K mainGlobals "is_row" = some (some (.ref f8))) (l8 : K.lookup f8 = some ⟨oc8, od8, .func (PySem.W.fnOf "is_row" "is_row" (defArgs s_is_row) (defBody s_is_row) (defScope s_is_row) .none kV8 dc8 pm8 an8 cd8 ct8), sl8⟩) (c8 : PySem.W.codeIn K cd8 "is_row" = true) (k8 : PySem.W.keepIn K (.ref f8) = true)
    (a9 : PySem.W.nsIn K mainGlobals "_law_spread" = some (some (.ref f9))) (l9 : K.lookup f9 = some ⟨oc9, od9, .func (PySem.W.fnOf "_law_spread" "_law_spread" (defArgs s_l_spread) (defBody s_l_spread) (defScope s_l_spread) .none kV9 dc9 pm9 an9 cd9 ct9), sl9⟩) (c9 : PySem.W.codeIn K cd9 "_law_spread" = true) (k9 : PySem.W.keepIn K (.ref f9) = true)
    (a10 : PySem.W.nsIn K mainGlobals "_law_open" = some (some (.ref f10))) (l10 : K.lookup f10 = some ⟨oc10, od10, .func (PySem.W.fnOf "_law_open" "_law_open" (defArgs s_l_open) (defBody s_l_open) (defScope s_l_open) .none kV10 dc10 pm10 an10 cd10 ct10), sl10⟩) (c10 : PySem.W.codeIn K cd10 "_law_open" = true) (k10 : PySem.W.keepIn K (.ref f10) = true)
    (a11 : PySem.W.nsIn K mainGlobals "_law_anew" = some (some (.ref f11))) (l11 : K.lookup f11 = some ⟨oc11, od11, .func (PySem.W.fnOf "_law_anew" "_law_anew" (defArgs s_l_anew) (defBody s_l_anew) (defScope s_l_anew) .none kV11 dc11 pm11 an11 cd11 ct11), sl11⟩) (c11 : PySem.W.codeIn K cd11 "_law_anew" = true) (k11 : PySem.W.keepIn K (.ref f11) = true)
    (a12 : PySem.W.nsIn K mainGlobals "_law_take" = some (some (.ref f12))) (l12 : K.lookup f12 = some ⟨oc12, od12, .func (PySem.W.fnOf "_law_take" "_law_take" (defArgs s_l_take) (defBody s_l_take) (defScope s_l_take) .none kV12 dc12 pm12 an12 cd12 ct12), sl12⟩) (c12 : PySem.W.codeIn K cd12 "_law_take" = true) (k12 : PySem.W.keepIn K (.ref f12) = true)
    (a13 : PySem.W.nsIn K mainGlobals "_law_names" = some (some (.ref f13))) (l13 : K.lookup f13 = some ⟨oc13, od13, .func (PySem.W.fnOf "_law_names" "_law_names" (defArgs s_l_names) (defBody s_l_names) (defScope s_l_names) .none kV13 dc13 pm13 an13 cd13 ct13), sl13⟩) (c13 : PySem.W.codeIn K cd13 "_law_names" = true) (k13 : PySem.W.keepIn K (.ref f13) = true)
    (a14 : PySem.W.nsIn K mainGlobals "_law_town" = some (some (.ref f14))) (l14 : K.lookup f14 = some ⟨oc14, od14, .func (PySem.W.fnOf "_law_town" "_law_town" (defArgs s_l_town) (defBody s_l_town) (defScope s_l_town) .none kV14 dc14 pm14 an14 cd14 ct14), sl14⟩) (c14 : PySem.W.codeIn K cd14 "_law_town" = true) (k14 : PySem.W.keepIn K (.ref f14) = true)
    (a15 : PySem.W.nsIn K mainGlobals "_law_whole" = some (some (.ref f15))) (l15 : K.lookup f15 = some ⟨oc15, od15, .func (PySem.W.fnOf "_law_whole" "_law_whole" (defArgs s_l_whole) (defBody s_l_whole) (defScope s_l_whole) .none kV15 dc15 pm15 an15 cd15 ct15), sl15⟩) (c15 : PySem.W.codeIn K cd15 "_law_whole" = true) (k15 : PySem.W.keepIn K (.ref f15) = true)
    (a16 : PySem.W.nsIn K mainGlobals "_law_is_row" = some (some (.ref f16))) (l16 : K.lookup f16 = some ⟨oc16, od16, .func (PySem.W.fnOf "_law_is_row" "_law_is_row" (defArgs s_l_is_row) (defBody s_l_is_row) (defScope s_l_is_row) .none kV16 dc16 pm16 an16 cd16 ct16), sl16⟩) (c16 : PySem.W.codeIn K cd16 "_law_is_row" = true) (k16 : PySem.W.keepIn K (.ref f16) = true)
    (a17 : PySem.W.nsIn K mainGlobals "_law_number" = some (some (.ref f17))) (l17 : K.lookup f17 = some ⟨oc17, od17, .func (PySem.W.fnOf "_law_number" "_law_number" (defArgs s_l_number) (defBody s_l_number) (defScope s_l_number) .none kV17 dc17 pm17 an17 cd17 ct17), sl17⟩) (c17 : PySem.W.codeIn K cd17 "_law_number" = true) (k17 : PySem.W.keepIn K (.ref f17) = true)
    (a18 : PySem.W.nsIn K mainGlobals "_law_two_times" = some (some (.ref f18))) (l18 : K.lookup f18 = some ⟨oc18, od18, .func (PySem.W.fnOf "_law_two_times" "_law_two_times" (defArgs s_l_two_times) (defBody s_l_two_times) (defScope s_l_two_times) .none kV18 dc18 pm18 an18 cd18 ct18), sl18⟩) (c18 : PySem.W.codeIn K cd18 "_law_two_times" = true) (k18 : PySem.W.keepIn K (.ref f18) = true)
    (a19 : PySem.W.nsIn K mainGlobals "_law_any_row" = some (some (.ref f19))) (l19 : K.lookup f19 = some ⟨oc19, od19, .func (PySem.W.fnOf "_law_any_row" "_law_any_row" (defArgs s_l_any_row) (defBody s_l_any_row) (defScope s_l_any_row) .none kV19 dc19 pm19 an19 cd19 ct19), sl19⟩) (c19 : PySem.W.codeIn K cd19 "_law_any_row" = true) (k19 : PySem.W.keepIn K (.ref f19) = true)
    (a20 : PySem.W.nsIn K mainGlobals "_law_no_row" = some (some (.ref f20))) (l20 : K.lookup f20 = some ⟨oc20, od20, .func (PySem.W.fnOf "_law_no_row" "_law_no_row" (defArgs s_l_no_row) (defBody s_l_no_row) (defScope s_l_no_row) .none kV20 dc20 pm20 an20 cd20 ct20), sl20⟩) (c20 : PySem.W.codeIn K cd20 "_law_no_row" = true) (k20 : PySem.W.keepIn K (.ref f20) = true)
    (a21 : PySem.W.nsIn K mainGlobals "law" = some (some (.ref f21))) (l21 : K.lookup f21 = some ⟨oc21, od21, .func (PySem.W.fnOf "law" "law" (defArgs s_law) (defBody s_law) (defScope s_law) .none kV21 dc21 pm21 an21 cd21 ct21), sl21⟩) (c21 : PySem.W.codeIn K cd21 "law" = true) (k21 : PySem.W.keepIn K (.ref f21) = true)
    (z0 : PySem.W.nsIn K mainGlobals "bool" = some none)
    (z1 : PySem.W.nsIn K mainGlobals "enumerate" = some none)
    (z2 : PySem.W.nsIn K mainGlobals "int" = some none)
    (z3 : PySem.W.nsIn K mainGlobals "isinstance" = some none)
    (z4 : PySem.W.nsIn K mainGlobals "len" = some none)
    (z5 : PySem.W.nsIn K mainGlobals "list" = some none)
    (z6 : PySem.W.nsIn K mainGlobals "range" = some none)
    (z7 : PySem.W.nsIn K mainGlobals "repr" = some none)
    (z8 : PySem.W.nsIn K mainGlobals "sorted" = some none)
    (z9 : PySem.W.nsIn K mainGlobals "str" = some none)
    (z10 : PySem.W.nsIn K mainGlobals "tuple" = some none)
    (z11 : PySem.W.nsIn K mainGlobals "zip" = some none)
    {w0 : _} (q0 : PySem.W.nsIn K mainGlobals "MOST_COUNT" = some (some (.int (15)  w0)))
    {w1 : _} (q1 : PySem.W.nsIn K mainGlobals "MOST_NUMBER" = some (some (.int (14)  w1)))
    {w2 : _} (q2 : PySem.W.nsIn K mainGlobals "MOST_TIME" = some (some (.int (1000000000000)  w2)))
    : ∃ fd : FuncData, (∀ (s : Shared) (v : Value), BindsTo s fd ⟨[v], []⟩ [("script", v)]) ∧ ∀ base : Heap, K.In base → base.Ns mainGlobals mg → Gd.RunAt l.prog w K mg base callerA fa fd ["script"] (sp_law K) := by
  have e := hfa.symm.trans (PySem.W.mg_of X G a21)
  cases e
  have F0 := fun_mk (st := s_is_whole_from) l0 c0 k0
  have b0 := F0.binds (ps := ["thing", "low", "high"]) fun _ _ _ _ _ _ us hl => match us, hl with | [_, _, _], _ => rfl
  have F1 := fun_mk (st := s_is_time) l1 c1 k1
  have b1 := F1.binds (ps := ["thing"]) fun _ _ _ _ _ _ us hl => match us, hl with | [_], _ => rfl
  have F2 := fun_mk (st := s_is_number) l2 c2 k2
  have b2 := F2.binds (ps := ["thing"]) fun _ _ _ _ _ _ us hl => match us, hl with | [_], _ => rfl
  have F3 := fun_mk (st := s_is_count) l3 c3 k3
  have b3 := F3.binds (ps := ["thing"]) fun _ _ _ _ _ _ us hl => match us, hl with | [_], _ => rfl
  have F4 := fun_mk (st := s_is_span) l4 c4 k4
  have b4 := F4.binds (ps := ["low", "high"]) fun _ _ _ _ _ _ us hl => match us, hl with | [_, _], _ => rfl
  have F5 := fun_mk (st := s_is_ask_row) l5 c5 k5
  have b5 := F5.binds (ps := ["houses", "thing"]) fun _ _ _ _ _ _ us hl => match us, hl with | [_, _], _ => rfl
  have F6 := fun_mk (st := s_is_job_row) l6 c6 k6
  have b6 := F6.binds (ps := ["houses", "thing"]) fun _ _ _ _ _ _ us hl => match us, hl with | [_, _], _ => rfl
  have F7 := fun_mk (st := s_is_all_row) l7 c7 k7
  have b7 := F7.binds (ps := ["houses", "thing"]) fun _ _ _ _ _ _ us hl => match us, hl with | [_, _], _ => rfl
  have F8 := fun_mk (st := s_is_row) l8 c8 k8
  have b8 := F8.binds (ps := ["town", "thing"]) fun _ _ _ _ _ _ us hl => match us, hl with | [_, _], _ => rfl
  have F9 := fun_mk (st := s_l_spread) l9 c9 k9
  have b9 := F9.binds (ps := ["cell", "at"]) fun _ _ _ _ _ _ us hl => match us, hl with | [_, _], _ => rfl
  have F10 := fun_mk (st := s_l_open) l10 c10 k10
  have b10 := F10.binds (ps := ["script"]) fun _ _ _ _ _ _ us hl => match us, hl with | [_], _ => rfl
  have F11 := fun_mk (st := s_l_anew) l11 c11 k11
  have b11 := F11.binds (ps := ["pen"]) fun _ _ _ _ _ _ us hl => match us, hl with | [_], _ => rfl
  have F12 := fun_mk (st := s_l_take) l12 c12 k12
  have b12 := F12.binds (ps := ["pen", "many"]) fun _ _ _ _ _ _ us hl => match us, hl with | [_, _], _ => rfl
  have F13 := fun_mk (st := s_l_names) l13 c13 k13
  have b13 := F13.binds (ps := ["pen", "many"]) fun _ _ _ _ _ _ us hl => match us, hl with | [_, _], _ => rfl
  have F14 := fun_mk (st := s_l_town) l14 c14 k14
  have b14 := F14.binds (ps := ["pen", "most"]) fun _ _ _ _ _ _ us hl => match us, hl with | [_, _], _ => rfl
  have F15 := fun_mk (st := s_l_whole) l15 c15 k15
  have b15 := F15.binds (ps := ["thing"]) fun _ _ _ _ _ _ us hl => match us, hl with | [_], _ => rfl
  have F16 := fun_mk (st := s_l_is_row) l16 c16 k16
  have b16 := F16.binds (ps := ["town", "thing"]) fun _ _ _ _ _ _ us hl => match us, hl with | [_, _], _ => rfl
  have F17 := fun_mk (st := s_l_number) l17 c17 k17
  have b17 := F17.binds (ps := ["pen"]) fun _ _ _ _ _ _ us hl => match us, hl with | [_], _ => rfl
  have F18 := fun_mk (st := s_l_two_times) l18 c18 k18
  have b18 := F18.binds (ps := ["pen"]) fun _ _ _ _ _ _ us hl => match us, hl with | [_], _ => rfl
  have F19 := fun_mk (st := s_l_any_row) l19 c19 k19
  have b19 := F19.binds (ps := ["pen", "town"]) fun _ _ _ _ _ _ us hl => match us, hl with | [_, _], _ => rfl
  have F20 := fun_mk (st := s_l_no_row) l20 c20 k20
  have b20 := F20.binds (ps := ["pen", "town"]) fun _ _ _ _ _ _ us hl => match us, hl with | [_, _], _ => rfl
  have F21 := fun_mk (st := s_law) l21 c21 k21
  have b21 := F21.binds (ps := ["script"]) fun _ _ _ _ _ _ us hl => match us, hl with | [_], _ => rfl
  let af : Nat → Addr := fun i => match i with | 0 => f0 | 1 => f1 | 2 => f2 | 3 => f3 | 4 => f4 | 5 => f5 | 6 => f6 | 7 => f7 | 8 => f8 | 9 => f9 | 10 => f10 | 11 => f11 | 12 => f12 | 13 => f13 | 14 => f14 | 15 => f15 | 16 => f16 | 17 => f17 | 18 => f18 | 19 => f19 | 20 => f20 | 21 => fa | _ => f0
  let fd : Nat → FuncData := fun i => match i with | 0 => PySem.W.fnOf "is_whole_from" "is_whole_from" (defArgs s_is_whole_from) (defBody s_is_whole_from) (defScope s_is_whole_from) .none kV0 dc0 pm0 an0 cd0 ct0 | 1 => PySem.W.fnOf "is_time" "is_time" (defArgs s_is_time) (defBody s_is_time) (defScope s_is_time) .none kV1 dc1 pm1 an1 cd1 ct1 | 2 => PySem.W.fnOf "is_number" "is_number" (defArgs s_is_number) (defBody s_is_number) (defScope s_is_number) .none kV2 dc2 pm2 an2 cd2 ct2 | 3 => PySem.W.fnOf "is_count" "is_count" (defArgs s_is_count) (defBody s_is_count) (defScope s_is_count) .none kV3 dc3 pm3 an3 cd3 ct3 | 4 => PySem.W.fnOf "is_span" "is_span" (defArgs s_is_span) (defBody s_is_span) (defScope s_is_span) .none kV4 dc4 pm4 an4 cd4 ct4 | 5 => PySem.W.fnOf "is_ask_row" "is_ask_row" (defArgs s_is_ask_row) (defBody s_is_ask_row) (defScope s_is_ask_row) .none kV5 dc5 pm5 an5 cd5 ct5 | 6 => PySem.W.fnOf "is_job_row" "is_job_row" (defArgs s_is_job_row) (defBody s_is_job_row) (defScope s_is_job_row) .none kV6 dc6 pm6 an6 cd6 ct6 | 7 => PySem.W.fnOf "is_all_row" "is_all_row" (defArgs s_is_all_row) (defBody s_is_all_row) (defScope s_is_all_row) .none kV7 dc7 pm7 an7 cd7 ct7 | 8 => PySem.W.fnOf "is_row" "is_row" (defArgs s_is_row) (defBody s_is_row) (defScope s_is_row) .none kV8 dc8 pm8 an8 cd8 ct8 | 9 => PySem.W.fnOf "_law_spread" "_law_spread" (defArgs s_l_spread) (defBody s_l_spread) (defScope s_l_spread) .none kV9 dc9 pm9 an9 cd9 ct9 | 10 => PySem.W.fnOf "_law_open" "_law_open" (defArgs s_l_open) (defBody s_l_open) (defScope s_l_open) .none kV10 dc10 pm10 an10 cd10 ct10 | 11 => PySem.W.fnOf "_law_anew" "_law_anew" (defArgs s_l_anew) (defBody s_l_anew) (defScope s_l_anew) .none kV11 dc11 pm11 an11 cd11 ct11 | 12 => PySem.W.fnOf "_law_take" "_law_take" (defArgs s_l_take) (defBody s_l_take) (defScope s_l_take) .none kV12 dc12 pm12 an12 cd12 ct12 | 13 => PySem.W.fnOf "_law_names" "_law_names" (defArgs s_l_names) (defBody s_l_names) (defScope s_l_names) .none kV13 dc13 pm13 an13 cd13 ct13 | 14 => PySem.W.fnOf "_law_town" "_law_town" (defArgs s_l_town) (defBody s_l_town) (defScope s_l_town) .none kV14 dc14 pm14 an14 cd14 ct14 | 15 => PySem.W.fnOf "_law_whole" "_law_whole" (defArgs s_l_whole) (defBody s_l_whole) (defScope s_l_whole) .none kV15 dc15 pm15 an15 cd15 ct15 | 16 => PySem.W.fnOf "_law_is_row" "_law_is_row" (defArgs s_l_is_row) (defBody s_l_is_row) (defScope s_l_is_row) .none kV16 dc16 pm16 an16 cd16 ct16 | 17 => PySem.W.fnOf "_law_number" "_law_number" (defArgs s_l_number) (defBody s_l_number) (defScope s_l_number) .none kV17 dc17 pm17 an17 cd17 ct17 | 18 => PySem.W.fnOf "_law_two_times" "_law_two_times" (defArgs s_l_two_times) (defBody s_l_two_times) (defScope s_l_two_times) .none kV18 dc18 pm18 an18 cd18 ct18 | 19 => PySem.W.fnOf "_law_any_row" "_law_any_row" (defArgs s_l_any_row) (defBody s_l_any_row) (defScope s_l_any_row) .none kV19 dc19 pm19 an19 cd19 ct19 | 20 => PySem.W.fnOf "_law_no_row" "_law_no_row" (defArgs s_l_no_row) (defBody s_l_no_row) (defScope s_l_no_row) .none kV20 dc20 pm20 an20 cd20 ct20 | 21 => PySem.W.fnOf "law" "law" (defArgs s_law) (defBody s_law) (defScope s_law) .none kV21 dc21 pm21 an21 cd21 ct21 | _ => PySem.W.fnOf "law" "law" (defArgs s_law) (defBody s_law) (defScope s_law) .none kV21 dc21 pm21 an21 cd21 ct21
  have T : Txt K mg af fd := { g_is_whole_from := PySem.W.mg_of X G a0, F_is_whole_from := F0, b_is_whole_from := b0, g_is_time := PySem.W.mg_of X G a1, F_is_time := F1, b_is_time := b1, g_is_number := PySem.W.mg_of X G a2, F_is_number := F2, b_is_number := b2, g_is_count := PySem.W.mg_of X G a3, F_is_count := F3, b_is_count := b3, g_is_span := PySem.W.mg_of X G a4, F_is_span := F4, b_is_span := b4, g_is_ask_row := PySem.W.mg_of X G a5, F_is_ask_row := F5, b_is_ask_row := b5, g_is_job_row := PySem.W.mg_of X G a6, F_is_job_row := F6, b_is_job_row := b6, g_is_all_row := PySem.W.mg_of X G a7, F_is_all_row := F7, b_is_all_row := b7, g_is_row := PySem.W.mg_of X G a8, F_is_row := F8, b_is_row := b8, g_l_spread := PySem.W.mg_of X G a9, F_l_spread := F9, b_l_spread := b9, g_l_open := PySem.W.mg_of X G a10, F_l_open := F10, b_l_open := b10, g_l_anew := PySem.W.mg_of X G a11, F_l_anew := F11, b_l_anew := b11, g_l_take := PySem.W.mg_of X G a12, F_l_take := F12, b_l_take := b12, g_l_names := PySem.W.mg_of X G a13, F_l_names := F13, b_l_names := b13, g_l_town := PySem.W.mg_of X G a14, F_l_town := F14, b_l_town := b14, g_l_whole := PySem.W.mg_of X G a15, F_l_whole := F15, b_l_whole := b15, g_l_is_row := PySem.W.mg_of X G a16, F_l_is_row := F16, b_l_is_row := b16, g_l_number := PySem.W.mg_of X G a17, F_l_number := F17, b_l_number := b17, g_l_two_times := PySem.W.mg_of X G a18, F_l_two_times := F18, b_l_two_times := b18, g_l_any_row := PySem.W.mg_of X G a19, F_l_any_row := F19, b_l_any_row := b19, g_l_no_row := PySem.W.mg_of X G a20, F_l_no_row := F20, b_l_no_row := b20, g_law := PySem.W.mg_of X G a21, F_law := F21, b_law := b21, m_bool := PySem.W.mg_none_of X G z0, m_enumerate := PySem.W.mg_none_of X G z1, m_int := PySem.W.mg_none_of X G z2, m_isinstance := PySem.W.mg_none_of X G z3, m_len := PySem.W.mg_none_of X G z4, m_list := PySem.W.mg_none_of X G z5, m_range := PySem.W.mg_none_of X G z6, m_repr := PySem.W.mg_none_of X G z7, m_sorted := PySem.W.mg_none_of X G z8, m_str := PySem.W.mg_none_of X G z9, m_tuple := PySem.W.mg_none_of X G z10, m_zip := PySem.W.mg_none_of X G z11, c_MOST_COUNT := ⟨_, PySem.W.mg_of X G q0⟩, c_MOST_NUMBER := ⟨_, PySem.W.mg_of X G q1⟩, c_MOST_TIME := ⟨_, PySem.W.mg_of X G q2⟩ }
  exact ⟨fd 21, fun s v => .of_eq rfl, fun base _ _ => ok_law T⟩
end Gp
open PySem PySem.W PyProof.Rows
set_option maxHeartbeats 0 in
theorem PySem.Challenge.cw_gapcalls_k02_what_is_a_row_holds : PySem.Challenge.rw_gapcalls_k02_what_is_a_row.Holds := by
  w_on; o_law; k_head; (case hw => w_witness2)
  k_fill
  refine Gp.Gd.walk_at (l := PySem.Challenge.rw_gapcalls_k02_what_is_a_row) (n := 63) (x := "script") (sp := fun w => Gp.sp_law _) rfl (by decide) rfl (fun w h Y => PySem.W.kIn_of Y) ?F (fun _ _ a ns hl _ hS => ⟨a, ns, rfl, hS, hl, fun _ => rfl⟩)
  case F =>
    intro w mg fa h KX G hmg
    refine' Gp.all_mk KX G hmg ?a0 ?l0 ?c0 ?k0 ?a1 ?l1 ?c1 ?k1 ?a2 ?l2 ?c2 ?k2 ?a3 ?l3 ?c3 ?k3 ?a4 ?l4 ?c4 ?k4 ?a5 ?l5 ?c5 ?k5 ?a6 ?l6 ?c6 ?k6 ?a7 ?l7 ?c7 ?k7 ?a8 ?l8 ?c8 ?k8 ?a9 ?l9 ?c9 ?k9 ?a10 ?l10 ?c10 ?k10 ?a11 ?l11 ?c11 ?k11 ?a12 ?l12 ?c12 ?k12 ?a13 ?l13 ?c13 ?k13 ?a14 ?l14 ?c14 ?k14 ?a15 ?l15 ?c15 ?k15 ?a16 ?l16 ?c16 ?k16 ?a17 ?l17 ?c17 ?k17 ?a18 ?l18 ?c18 ?k18 ?a19 ?l19 ?c19 ?k19 ?a20 ?l20 ?c20 ?k20 ?a21 ?l21 ?c21 ?k21 ?z0 ?z1 ?z2 ?z3 ?z4 ?z5 ?z6 ?z7 ?z8 ?z9 ?z10 ?z11 ?q0 ?q1 ?q2
    (case a0 => k_is)
    (case l0 => k_is)
    (case c0 => k_is)
    (case k0 => k_is)
    (case a1 => k_is)
    (case l1 => k_is)
    (case c1 => k_is)
    (case k1 => k_is)
    (case a2 => k_is)
    (case l2 => k_is)
    (case c2 => k_is)
    (case k2 => k_is)
    (case a3 => k_is)
    (case l3 => k_is)
    (case c3 => k_is)
    (case k3 => k_is)
    (case a4 => k_is)
    (case l4 => k_is)
    (case c4 => k_is)
    (case k4 => k_is)
    (case a5 => k_is)
    (case l5 => k_is)
    (case c5 => k_is)
    (case k5 => k_is)
    (case a6 => k_is)
    (case l6 => k_is)
    (case c6 => k_is)
    (case k6 => k_is)
    (case a7 => k_is)
    (case l7 => k_is)
    (case c7 => k_is)
    (case k7 => k_is)
    (case a8 => k_is)
    (case l8 => k_is)
    (case c8 => k_is)
    (case k8 => k_is)
    (case a9 => k_is)
    (case l9 => k_is)
    (case c9 => k_is)
    (case k9 => k_is)
    (case a10 => k_is)
    (case l10 => k_is)
    (case c10 => k_is)
    (case k10 => k_is)
    (case a11 => k_is)
    (case l11 => k_is)
    (case c11 => k_is)
    (case k11 => k_is)
    (case a12 => k_is)
    (case l12 => k_is)
    (case c12 => k_is)
    (case k12 => k_is)
    (case a13 => k_is)
    (case l13 => k_is)
    (case c13 => k_is)
    (case k13 => k_is)
    (case a14 => k_is)
    (case l14 => k_is)
    (case c14 => k_is)
    (case k14 => k_is)
    (case a15 => k_is)
    (case l15 => k_is)
    (case c15 => k_is)
    (case k15 => k_is)
    (case a16 => k_is)
    (case l16 => k_is)
    (case c16 => k_is)
    (case k16 => k_is)
    (case a17 => k_is)
    (case l17 => k_is)
    (case c17 => k_is)
    (case k17 => k_is)
    (case a18 => k_is)
    (case l18 => k_is)
    (case c18 => k_is)
    (case k18 => k_is)
    (case a19 => k_is)
    (case l19 => k_is)
    (case c19 => k_is)
    (case k19 => k_is)
    (case a20 => k_is)
    (case l20 => k_is)
    (case c20 => k_is)
    (case k20 => k_is)
    (case a21 => k_is)
    (case l21 => k_is)
    (case c21 => k_is)
    (case k21 => k_is)
    (case z0 => k_is)
    (case z1 => k_is)
    (case z2 => k_is)
    (case z3 => k_is)
    (case z4 => k_is)
    (case z5 => k_is)
    (case z6 => k_is)
    (case z7 => k_is)
    (case z8 => k_is)
    (case z9 => k_is)
    (case z10 => k_is)
    (case z11 => k_is)
    (case q0 => k_is)
    (case q1 => k_is)
    (case q2 => k_is)
