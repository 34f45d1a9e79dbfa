import PyProof.Rows.All
import Wide.All
import OpenK.AllK
import Wide.FinOn
import PySem.Challenge.RW_gapcalls_k03_rows_that_clash
import HandS.ForMost
import HandS.Wide
import HandS.Codes
import HandS.Walk
import HandS.NoneIn
import HandS.Style
import HandS.IsInst
import HandS.SortOrd
import HandS.SortRule
import KE.LtData
set_option Elab.async false
set_option linter.all false
set_option maxRecDepth 100000
set_option maxHeartbeats 4000000
namespace Gp
open PySem PySem.Spec PyProof.Rows L2
def topS (i : Nat) : Stmt := PySem.Challenge.pw_gapcalls_k03_rows_that_clash.main.body.getD i (.Pass ⟨0, 0, 0, 0⟩)
abbrev s_is_out_of_order : Stmt := topS 1
theorem sc_is_out_of_order : FnScope ["number", "time", "other_number", "other_time"] ["number", "time", "other_number", "other_time"] (defScope s_is_out_of_order) := ⟨rfl, rfl, rfl, by decide +kernel, rfl, by decide +kernel, by decide +kernel⟩
abbrev s_do_asks_clash : Stmt := topS 2
theorem sc_do_asks_clash : FnScope ["one", "other", "number", "out", "other_number", "other_out"] ["one", "other"] (defScope s_do_asks_clash) := ⟨rfl, rfl, rfl, by decide +kernel, rfl, by decide +kernel, by decide +kernel⟩
abbrev s_do_jobs_clash : Stmt := topS 3
theorem sc_do_jobs_clash : FnScope ["one", "other", "number", "begin", "other_number", "other_begin"] ["one", "other"] (defScope s_do_jobs_clash) := ⟨rfl, rfl, rfl, by decide +kernel, rfl, by decide +kernel, by decide +kernel⟩
abbrev s_do_job_and_ask_clash : Stmt := topS 4
theorem sc_do_job_and_ask_clash : FnScope ["job", "ask", "number", "begin", "end", "made_in", "out", "back"] ["job", "ask"] (defScope s_do_job_and_ask_clash) := ⟨rfl, rfl, rfl, by decide +kernel, rfl, by decide +kernel, by decide +kernel⟩
abbrev s_does_all_row_clash : Stmt := topS 5
theorem sc_does_all_row_clash : FnScope ["all_row", "other", "asks", "jobs"] ["all_row", "other"] (defScope s_does_all_row_clash) := ⟨rfl, rfl, rfl, by decide +kernel, rfl, by decide +kernel, by decide +kernel⟩
abbrev s_do_alike_sorts_clash : Stmt := topS 6
theorem sc_do_alike_sorts_clash : FnScope ["one", "other"] ["one", "other"] (defScope s_do_alike_sorts_clash) := ⟨rfl, rfl, rfl, by decide +kernel, rfl, by decide +kernel, by decide +kernel⟩
abbrev s_do_clash : Stmt := topS 7
theorem sc_do_clash : FnScope ["one", "other"] ["one", "other"] (defScope s_do_clash) := ⟨rfl, rfl, rfl, by decide +kernel, rfl, by decide +kernel, by decide +kernel⟩
abbrev s_l_spread : Stmt := topS 9
theorem sc_l_spread : FnScope ["cell", "at", "one", "two", "three"] ["cell", "at"] (defScope s_l_spread) := ⟨rfl, rfl, rfl, by decide +kernel, rfl, by decide +kernel, by decide +kernel⟩
abbrev s_l_open : Stmt := topS 10
theorem sc_l_open : FnScope ["script", "cells", "k", "cell"] ["script"] (defScope s_l_open) := ⟨rfl, rfl, rfl, by decide +kernel, rfl, by decide +kernel, by decide +kernel⟩
abbrev s_l_anew : Stmt := topS 11
theorem sc_l_anew : FnScope ["pen"] ["pen"] (defScope s_l_anew) := ⟨rfl, rfl, rfl, by decide +kernel, rfl, by decide +kernel, by decide +kernel⟩
abbrev s_l_take : Stmt := topS 12
theorem sc_l_take : FnScope ["pen", "many", "at", "cell", "found"] ["pen", "many"] (defScope s_l_take) := ⟨rfl, rfl, rfl, by decide +kernel, rfl, by decide +kernel, by decide +kernel⟩
abbrev s_l_names : Stmt := topS 13
theorem sc_l_names : FnScope ["pen", "many", "letters", "base", "k", "way", "turn", "size", "found", "sign", "part", "at"] ["pen", "many"] (defScope s_l_names) := ⟨rfl, rfl, rfl, by decide +kernel, rfl, by decide +kernel, by decide +kernel⟩
abbrev s_l_town : Stmt := topS 14
theorem sc_l_town : FnScope ["pen", "most", "houses", "gates", "house"] ["pen", "most"] (defScope s_l_town) := ⟨rfl, rfl, rfl, by decide +kernel, rfl, by decide +kernel, by decide +kernel⟩
abbrev s_l_do_clash : Stmt := topS 15
theorem sc_l_do_clash : FnScope ["one", "other", "first", "second", "words", "at"] ["one", "other"] (defScope s_l_do_clash) := ⟨rfl, rfl, rfl, by decide +kernel, rfl, by decide +kernel, by decide +kernel⟩
abbrev s_l_number : Stmt := topS 16
theorem sc_l_number : FnScope ["pen"] ["pen"] (defScope s_l_number) := ⟨rfl, rfl, rfl, by decide +kernel, rfl, by decide +kernel, by decide +kernel⟩
abbrev s_l_two_times : Stmt := topS 17
theorem sc_l_two_times : FnScope ["pen", "some"] ["pen"] (defScope s_l_two_times) := ⟨rfl, rfl, rfl, by decide +kernel, rfl, by decide +kernel, by decide +kernel⟩
abbrev s_l_any_row : Stmt := topS 18
theorem sc_l_any_row : FnScope ["pen", "town", "house", "way", "out", "back", "goal"] ["pen", "town"] (defScope s_l_any_row) := ⟨rfl, rfl, rfl, by decide +kernel, rfl, by decide +kernel, by decide +kernel⟩
abbrev s_l_few_row : Stmt := topS 19
theorem sc_l_few_row : FnScope ["pen", "town", "house", "way", "out", "back", "goal"] ["pen", "town"] (defScope s_l_few_row) := ⟨rfl, rfl, rfl, by decide +kernel, rfl, by decide +kernel, by decide +kernel⟩
abbrev s_l_right : Stmt := topS 20
theorem sc_l_right : FnScope ["one", "other", "due", "found"] ["one", "other"] (defScope s_l_right) := ⟨rfl, rfl, rfl, by decide +kernel, rfl, by decide +kernel, by decide +kernel⟩
abbrev s_law : Stmt := topS 21
theorem sc_law : FnScope ["script", "pen", "town", "turn", "rows", "k", "one", "other"] ["script"] (defScope s_law) := ⟨rfl, rfl, rfl, by decide +kernel, rfl, by decide +kernel, by decide +kernel⟩
structure Txt (K : PySem.W.Frag) (mg : Str → Option Value) (af : Nat → Addr) (fd : Nat → FuncData) : Prop where
  g_is_out_of_order : mg "is_out_of_order" = some (.ref (af 0))
  F_is_out_of_order : Fun K "is_out_of_order" "is_out_of_order" s_is_out_of_order (af 0) (fd 0)
  b_is_out_of_order : Binds K (fd 0) ["number", "time", "other_number", "other_time"] []
  g_do_asks_clash : mg "do_asks_clash" = some (.ref (af 1))
  F_do_asks_clash : Fun K "do_asks_clash" "do_asks_clash" s_do_asks_clash (af 1) (fd 1)
  b_do_asks_clash : Binds K (fd 1) ["one", "other"] []
  g_do_jobs_clash : mg "do_jobs_clash" = some (.ref (af 2))
  F_do_jobs_clash : Fun K "do_jobs_clash" "do_jobs_clash" s_do_jobs_clash (af 2) (fd 2)
  b_do_jobs_clash : Binds K (fd 2) ["one", "other"] []
  g_do_job_and_ask_clash : mg "do_job_and_ask_clash" = some (.ref (af 3))
  F_do_job_and_ask_clash : Fun K "do_job_and_ask_clash" "do_job_and_ask_clash" s_do_job_and_ask_clash (af 3) (fd 3)
  b_do_job_and_ask_clash : Binds K (fd 3) ["job", "ask"] []
  g_does_all_row_clash : mg "does_all_row_clash" = some (.ref (af 4))
  F_does_all_row_clash : Fun K "does_all_row_clash" "does_all_row_clash" s_does_all_row_clash (af 4) (fd 4)
  b_does_all_row_clash : Binds K (fd 4) ["all_row", "other"] []
  g_do_alike_sorts_clash : mg "do_alike_sorts_clash" = some (.ref (af 5))
  F_do_alike_sorts_clash : Fun K "do_alike_sorts_clash" "do_alike_sorts_clash" s_do_alike_sorts_clash (af 5) (fd 5)
  b_do_alike_sorts_clash : Binds K (fd 5) ["one", "other"] []
  g_do_clash : mg "do_clash" = some (.ref (af 6))
  F_do_clash : Fun K "do_clash" "do_clash" s_do_clash (af 6) (fd 6)
  b_do_clash : Binds K (fd 6) ["one", "other"] []
  g_l_spread : mg "_law_spread" = some (.ref (af 7))
  F_l_spread : Fun K "_law_spread" "_law_spread" s_l_spread (af 7) (fd 7)
  b_l_spread : Binds K (fd 7) ["cell", "at"] []
  g_l_open : mg "_law_open" = some (.ref (af 8))
  F_l_open : Fun K "_law_open" "_law_open" s_l_open (af 8) (fd 8)
  b_l_open : Binds K (fd 8) ["script"] []
  g_l_anew : mg "_law_anew" = some (.ref (af 9))
  F_l_anew : Fun K "_law_anew" "_law_anew" s_l_anew (af 9) (fd 9)
  b_l_anew : Binds K (fd 9) ["pen"] []
  g_l_take : mg "_law_take" = some (.ref (af 10))
  F_l_take : Fun K "_law_take" "_law_take" s_l_take (af 10) (fd 10)
  b_l_take : Binds K (fd 10) ["pen", "many"] []
  g_l_names : mg "_law_names" = some (.ref (af 11))
  F_l_names : Fun K "_law_names" "_law_names" s_l_names (af 11) (fd 11)
  b_l_names : Binds K (fd 11) ["pen", "many"] []
  g_l_town : mg "_law_town" = some (.ref (af 12))
  F_l_town : Fun K "_law_town" "_law_town" s_l_town (af 12) (fd 12)
  b_l_town : Binds K (fd 12) ["pen", "most"] []
  g_l_do_clash : mg "_law_do_clash" = some (.ref (af 13))
  F_l_do_clash : Fun K "_law_do_clash" "_law_do_clash" s_l_do_clash (af 13) (fd 13)
  b_l_do_clash : Binds K (fd 13) ["one", "other"] []
  g_l_number : mg "_law_number" = some (.ref (af 14))
  F_l_number : Fun K "_law_number" "_law_number" s_l_number (af 14) (fd 14)
  b_l_number : Binds K (fd 14) ["pen"] []
  g_l_two_times : mg "_law_two_times" = some (.ref (af 15))
  F_l_two_times : Fun K "_law_two_times" "_law_two_times" s_l_two_times (af 15) (fd 15)
  b_l_two_times : Binds K (fd 15) ["pen"] []
  g_l_any_row : mg "_law_any_row" = some (.ref (af 16))
  F_l_any_row : Fun K "_law_any_row" "_law_any_row" s_l_any_row (af 16) (fd 16)
  b_l_any_row : Binds K (fd 16) ["pen", "town"] []
  g_l_few_row : mg "_law_few_row" = some (.ref (af 17))
  F_l_few_row : Fun K "_law_few_row" "_law_few_row" s_l_few_row (af 17) (fd 17)
  b_l_few_row : Binds K (fd 17) ["pen", "town"] []
  g_l_right : mg "_law_right" = some (.ref (af 18))
  F_l_right : Fun K "_law_right" "_law_right" s_l_right (af 18) (fd 18)
  b_l_right : Binds K (fd 18) ["one", "other"] []
  g_law : mg "law" = some (.ref (af 19))
  F_law : Fun K "law" "law" s_law (af 19) (fd 19)
  b_law : Binds K (fd 19) ["script"] []
  m_bool : mg "bool" = none
  m_enumerate : mg "enumerate" = none
  m_int : mg "int" = none
  m_isinstance : mg "isinstance" = none
  m_len : mg "len" = none
  m_list : mg "list" = none
  m_range : mg "range" = none
  m_sorted : mg "sorted" = none
  m_tuple : mg "tuple" = none
/-! the pen at p, its cells at c: a list of the cells' list, how many were taken, what is left of the last one -/
def Pen (H : Hp) (p c : Addr) : Prop := ∃ (cs : List Int) (n st : Int), H p = some (.lst [.ref c, .int n, .int st]) ∧ H c = some (.lst (cs.map V.int)) ∧ 0 ≤ n ∧ 0 ≤ st
/-! from H to H': the pen may have gone on; all else that stood stands -/
def Stp (p c : Addr) (H H' : Hp) : Prop := Pen H' p c ∧ ∀ b o, b ≠ p → H b = some o → H' b = some o
theorem Stp.refl {p c : Addr} {H : Hp} (h : Pen H p c) : Stp p c H H := ⟨h, fun _ _ _ e => e⟩
theorem Stp.trans {p c : Addr} {H H1 H2 : Hp} (a : Stp p c H H1) (b : Stp p c H1 H2) : Stp p c H H2 := ⟨b.1, fun x o n e => b.2 x o n (a.2 x o n e)⟩
theorem cells_ne {c : Addr} {cs : List Int} {n st : Int} : cs.map V.int ≠ [.ref c, .int n, .int st] := by
  cases cs with
  | nil => exact fun h => nomatch h
  | cons x r => exact fun h => nomatch (List.cons.inj h).1
theorem Pen.ne {p c : Addr} {H : Hp} (h : Pen H p c) : c ≠ p := by
  obtain ⟨cs, n, st, h1, h2, h3, h4⟩ := h
  intro e
  subst e
  rw [h2] at h1
  exact cells_ne (HO.lst.inj (Option.some.inj h1))
theorem Pen.neP {p c a : Addr} {H : Hp} (h : Pen H p c) (ha : H a = none) : p ≠ a := let ⟨_, _, _, h1, _⟩ := h; ne_of_none h1 ha
theorem Pen.neC {p c a : Addr} {H : Hp} (h : Pen H p c) (ha : H a = none) : c ≠ a := let ⟨_, _, _, _, h2, _⟩ := h; ne_of_none h2 ha
/-! no tuple is the pen -/
theorem Pen.tup {p c a : Addr} {H : Hp} {xs : List V} (h : Pen H p c) (ha : H a = some (.tup xs)) : a ≠ p := let ⟨_, _, _, h1, _⟩ := h; ne_of ha h1 (fun e => nomatch e)
theorem Stp.tup {p c a : Addr} {H H' : Hp} {xs : List V} (s : Stp p c H H') (h : Pen H p c) (ha : H a = some (.tup xs)) : H' a = some (.tup xs) := s.2 a _ (h.tup ha) ha
/-! an object that was not there ahead may come and change -/
theorem Stp.mut {p c a : Addr} {H H1 : Hp} {o : HO} (s : Stp p c H H1) (hp : Pen H p c) (ha : H a = none) : Stp p c H (upd H1 a o) := by
  obtain ⟨cs, n, st, h1, h2, h3, h4⟩ := s.1
  exact ⟨⟨cs, n, st, by rw [upd_ne (hp.neP ha)]; exact h1, by rw [upd_ne (hp.neC ha)]; exact h2, h3, h4⟩, fun b u nb e => by rw [upd_ne (ne_of_none e ha)]; exact s.2 b u nb e⟩
theorem Stp.back {p c a : Addr} {H H1 : Hp} (s : Stp p c H H1) (hp : Pen H p c) (ha : H1 a = none) : H a = none := by
  cases e : H a with
  | none => rfl
  | some o =>
    by_cases hb : a = p
    · subst hb
      obtain ⟨cs, n, st, h1, _⟩ := s.1
      rw [h1] at ha
      cases ha
    · rw [s.2 a o hb e] at ha
      cases ha
/-! a further new object -/
theorem Stp.new {p c a : Addr} {H H1 : Hp} {o : HO} (s : Stp p c H H1) (hp : Pen H p c) (ha : H1 a = none) : Stp p c H (upd H1 a o) := s.mut hp (s.back hp ha)
theorem yes_if {A B : Hp → Prop} {σ : L2.St} {H : Hp} (h : A H) : tYes σ H (fun b H3 => if b = true then A H3 else B H3) := by
  show (if true = true then A H else B H)
  exact iteT h
theorem at_any {A : Type} {xs : List A} {z : Int} {j : Nat} {v : A} (e : z = (j : Int)) (h : xs[j]? = some v) : atI xs z = some v := by
  rw [e]
  exact atI_nat h
theorem same_upd {H : Hp} {p : Addr} {o : HO} (h : H p = none) : Same H (upd H p o) := fun b x e => by
  rw [upd_ne (ne_of_none e h)]
  exact e
theorem same_mut {H H1 : Hp} {p : Addr} {o : HO} (s : Same H H1) (h : H p = none) : Same H (upd H1 p o) := fun b x e => by
  rw [upd_ne (ne_of_none e h)]
  exact s b x e
theorem cut_to (xs : List V) (n : Nat) : cutV xs none (some (n : Int)) = xs.take n := by
  unfold cutV
  rw [HT.sIx_none, HT.sIx_nat, List.drop_zero, Nat.sub_zero]
  by_cases h : n ≤ xs.length
  · rw [Nat.min_eq_left h]
  · rw [Nat.min_eq_right (by omega), List.take_length, List.take_of_length_le (by omega)]
theorem cut_mid (xs : List V) (m n : Nat) : cutV xs (some (m : Int)) (some (n : Int)) = (xs.drop (min m xs.length)).take (min n xs.length - min m xs.length) := by
  unfold cutV
  rw [HT.sIx_nat, HT.sIx_nat]

/-! ### sorted of tuples of texts and whole numbers, the first a text; any two alike, or of unlike first texts -/
namespace Fl
open PySem PySem.W PyProof.Rows
inductive FV : PyData → Value → Prop
  | int (i : Int) (t : Tok) : FV (.int i) (.int i t)
  | str (x : Str) (t : Tok) : FV (.str x) (.str x t)
inductive FVs : List PyData → List Value → Prop
  | nil : FVs [] []
  | cons {d : PyData} {u : Value} {ds : List PyData} {us : List Value} : FV d u → FVs ds us → FVs (d :: ds) (u :: us)
theorem FVs.len : ∀ {ds : List PyData} {us : List Value}, FVs ds us → ds.length = us.length
  | _, _, .nil => rfl
  | _, _, .cons _ r => by rw [List.length_cons, List.length_cons, r.len]
section
variable {prog : Program} {w : World} {A : Around} {E : Value → Shared → Prop} {s : Shared}
theorem flat_lex {b fin : Bool} {Q : Bool → Shared → Prop} : ∀ (xs ys : List PyData) (i : Nat) (us ws : List Value), FVs xs us → FVs ys ws → alikeAll xs ys = true → fin = decide (xs.length < ys.length) →
    Q (lexLt itemOrd (keyToksAll xs) (keyToksAll ys)) s → KatLex prog w A b fin Q (us.zip ws) i s
  | [], [], i, _, _, .nil, .nil, _, hf, hq => by
    have e : fin = false := by rw [hf]; rfl
    subst e
    rw [lex_irrefl] at hq
    exact kat_nil hq
  | [], y :: ys, i, _, _, .nil, _, _, hf, hq => by
    have e : fin = true := by rw [hf]; exact decide_eq_true (Nat.succ_pos _)
    subst e
    rw [toks_all_cons] at hq
    simp only [keyToksAll] at hq
    rw [lex_diff (O := itemOrd) (by simp)] at hq
    rw [List.zip_nil_left]
    exact kat_nil (by simpa [itemLt] using hq)
  | x :: xs, [], i, _, _, _, .nil, _, hf, hq => by
    have e : fin = false := by rw [hf]; exact decide_eq_false (Nat.not_lt_zero _)
    subst e
    rw [toks_all_cons] at hq
    simp only [keyToksAll] at hq
    rw [lex_diff (O := itemOrd) (by simp)] at hq
    rw [List.zip_nil_right]
    exact kat_nil (by simpa [itemLt] using hq)
  | x :: xs, y :: ys, i, _, _, .cons f fs, .cons g gs, h, hf, hq => by
    obtain ⟨h1, h2⟩ := alike_all_cons h
    have hf' : fin = decide (xs.length < ys.length) := by
      rw [hf]
      simp only [List.length_cons, Nat.add_lt_add_iff_right]
    rw [List.zip_cons_cons]
    cases f with
    | int a t =>
      cases g with
      | int c u =>
        refine kat_cons (SeqAt.EqAt.int_int a t c u prog w _ _ ?_)
        cases hx : PyData.eqv (.int a) (.int c) with
        | true =>
          rw [dataLt_all_yes h1 hx] at hq
          have e1 : (a == c) = true := by simpa [PyData.eqv] using hx
          rw [e1]
          exact kat_yes (flat_lex xs ys (i + 1) _ _ fs gs h2 hf' hq)
        | false =>
          rw [dataLt_all_no h1 hx, dataLt_int] at hq
          have e1 : (a == c) = false := by simpa [PyData.eqv] using hx
          rw [e1]
          exact kat_no (oneLt_any_int hq)
      | str c u => exact absurd h1 (by simp [alike])
    | str a t =>
      cases g with
      | int c u => exact absurd h1 (by simp [alike])
      | str c u =>
        refine kat_cons (SeqAt.EqAt.str_str a t c u prog w _ _ ?_)
        cases hx : PyData.eqv (.str a) (.str c) with
        | true =>
          rw [dataLt_all_yes h1 hx] at hq
          have e1 : (a == c) = true := by simpa [PyData.eqv] using hx
          rw [e1]
          exact kat_yes (flat_lex xs ys (i + 1) _ _ fs gs h2 hf' hq)
        | false =>
          rw [dataLt_all_no h1 hx, dataLt_str] at hq
          have e1 : (a == c) = false := by simpa [PyData.eqv] using hx
          rw [e1]
          exact kat_no (oneLt_any_str hq)
def ltD (x y : List PyData) : Bool := lexLt itemOrd (keyToksAll x) (keyToksAll y)
theorem swo_ltD {A : Type} (k : A → List PyData) : SrtO.Swo fun v u => ltD (k v) (k u) := by
  refine ⟨fun x y h => ?_, fun x y z h1 h2 => ?_⟩
  · cases e : ltD (k y) (k x) with
    | false => rfl
    | true =>
      have := lex_trans _ _ _ h e
      rw [lex_irrefl] at this
      cases this
  · cases e : ltD (k z) (k x) with
    | false => rfl
    | true =>
      rcases lex_negTrans _ (keyToksAll (k y)) _ e with q | q
      · exact absurd (h2.symm.trans q) (by decide)
      · exact absurd (h1.symm.trans q) (by decide)
/-! what two such tuples must be to one another -/
def Can (x y : List PyData) : Prop := ∃ a r c t, x = .str a :: r ∧ y = .str c :: t ∧ (a = c → alikeAll r t = true)
def IsFl (h : Heap) (v : Value) (ds : List PyData) : Prop := ∃ a o its n, v = .ref a ∧ h.get? a = some o ∧ o.cls = .type "tuple" ∧ o.data = .seq its n ∧ FVs ds its.toList
theorem IsFl.keeps {h h' : Heap} {v : Value} {ds : List PyData} (p : IsFl h v ds) (k : ∀ b o, h.get? b = some o → o.cls = .type "tuple" → h'.get? b = some o) : IsFl h' v ds := by
  obtain ⟨a, o, its, n, e, ho, hc, r⟩ := p
  exact ⟨a, o, its, n, e, k a o ho hc, hc, r⟩
theorem flat_cmp {vs : List Value} {k : Value → List PyData} (hp : ∀ v ∈ vs, IsFl s.heap v (k v)) (hc : ∀ v ∈ vs, ∀ u ∈ vs, Can (k v) (k u)) : SrtO.Cmp prog w A s (tuples' true) (fun p => p.1 ∈ vs) (SrtO.lt2 fun v u => ltD (k v) (k u)) := by
  intro p q hm hm'
  obtain ⟨a, o, its, n, e, ho, _, hd, f⟩ := hp _ hm
  obtain ⟨a', o', its', n', e', ho', _, hd', f'⟩ := hp _ hm'
  show wpAny (model prog w) A (keyLt' (tuples' true) p.1 q.1) (fun r s' => s' = s ∧ r = ltD (k p.1) (k q.1)) (fun _ _ => False) s
  obtain ⟨x, r, y, t, e1, e2, hal⟩ := hc _ hm _ hm'
  generalize k p.1 = kp at *
  generalize k q.1 = kq at *
  rw [e, e']
  refine kat_lt ho hd ho' hd' ?_
  have z1 : its.size = kp.length := by rw [← Array.length_toList]; exact f.len.symm
  have z2 : its'.size = kq.length := by rw [← Array.length_toList]; exact f'.len.symm
  rw [z1, z2]
  subst e1
  subst e2
  generalize its.toList = us at *
  generalize its'.toList = ws at *
  by_cases hxy : x = y
  · subst hxy
    refine flat_lex _ _ 0 us ws f f' ?_ rfl ⟨rfl, rfl⟩
    show (alike (.str x) (.str x) && alikeAll r t) = true
    rw [hal rfl]
    rfl
  · cases f with
    | cons f1 fs =>
      cases f' with
      | cons g1 gs =>
        cases f1 with
        | str _ tx =>
          cases g1 with
          | str _ ty =>
            rw [List.zip_cons_cons]
            refine kat_cons (SeqAt.EqAt.str_str x tx y ty prog w _ _ ?_)
            have e3 : (x == y) = false := by simpa using hxy
            rw [e3]
            refine kat_no (oneLt_any_str ⟨rfl, ?_⟩)
            have e4 : PyData.eqv (.str x) (.str y) = false := by simpa [PyData.eqv] using hxy
            unfold ltD
            rw [dataLt_all_no (by rfl) e4, dataLt_str]
theorem firsts_fl {h : Heap} {k : Value → List PyData} : ∀ {vs : List Value}, (∀ v ∈ vs, IsFl h v (k v) ∧ ∃ a r, k v = .str a :: r) → ∃ fs : List Value, KatTups h vs fs ∧ fs.length = vs.length ∧ ∀ f ∈ fs, ∃ x t, f = Value.str x t
  | [], _ => ⟨[], KatTups.nil, rfl, fun _ hm => by simp at hm⟩
  | v :: vs, hp => by
    obtain ⟨fs, h1, h2, h3⟩ := firsts_fl (vs := vs) fun v' hm => hp v' (List.mem_cons_of_mem _ hm)
    obtain ⟨⟨a, o, its, n, e, ho, hc, hd, f⟩, x, r, ek⟩ := hp v (List.mem_cons_self ..)
    subst e
    rw [ek] at f
    cases ei : its.toList with
    | nil =>
      rw [ei] at f
      cases f
    | cons u us =>
      rw [ei] at f
      cases f with
      | cons g _ =>
        cases g with
        | str _ t =>
          refine ⟨.str x t :: fs, KatTups.cons ho hc hd ?_ h1, by rw [List.length_cons, List.length_cons, h2], fun f hm => ?_⟩
          · rw [← Array.getElem?_toList, ei]
            rfl
          · rcases List.mem_cons.mp hm with rfl | hm
            · exact ⟨x, t, rfl⟩
            · exact h3 f hm
theorem sorted_fl {l : Addr} {vs : List Value} {k : Value → List PyData} {Q : Value → Shared → Prop} (hl : s.heap.IsList l vs.toArray) (hz : vs.length ≤ sizeLine) (hp : ∀ v ∈ vs, IsFl s.heap v (k v)) (hc : ∀ v ∈ vs, ∀ u ∈ vs, Can (k v) (k u))
    (h : ∀ (h' : Heap) (d : Addr) (out : List Value), SrtO.Srtd (fun v u => ltD (k v) (k u)) out → SrtO.Stb (fun v u => ltD (k v) (k u)) out vs → (∀ b o, s.heap.get? b = some o → h'.get? b = some o) → s.heap.objs.size ≤ d → (∃ n, h'.get? d = some (seqObj "list" out.toArray n)) → Q (.ref d) { s with heap := h' }) :
    wpAny (model prog w) A (call (.builtin "sorted") [.ref l]) Q E s := by
  refine SrtO.sorted_ord (swo_ltD k) hl hz (fun h2 h1 a ha kk => ?_) fun out hs hb => ?_
  · intro h' keep
    have hne : ∀ o, h1.get? a = some o → o.cls ≠ .type "tuple" := fun o e => by
      have e' : some o = some (seqObj "list" vs.toArray 0) := e.symm.trans ha
      cases e'
      intro c
      exact absurd (Value.type.inj c) (by decide)
    have hp' : ∀ v ∈ vs, IsFl h' v (k v) := fun v hm => (hp v hm).keeps fun b o e c => keep b o (fun z => by subst z; exact hne o (kk b o e).2 c) (kk b o e).2
    obtain ⟨fs, f1, f2, f3⟩ := firsts_fl (vs := vs) (k := k) fun v hm => ⟨hp' v hm, by
      obtain ⟨x, r, _, _, e, _⟩ := hc v hm v hm
      exact ⟨x, r, e⟩⟩
    refine ⟨tuples' true, fun Q E hq => ?_, flat_cmp hp' hc⟩
    refine kat_kind (T := .type "str") f1 (by omega) (fun f hm => ?_) (by rfl) ?_
    · obtain ⟨x, t, rfl⟩ := f3 f hm
      exact Looks.now
    · have e : (Value.type "str" != Value.type "tuple") = true := by first | decide +kernel | rfl | decide
      rw [e]
      exact hq
  · exact h _ _ out hs hb (fun b o e => sortedAll_old e) (Nat.le_succ _) (sortedAll_at s.heap vs out.toArray)
end
def dV : PyData → V
  | .int i => .int i
  | .str x => .str x
  | _ => .non
def flatD : PyData → Bool
  | .int _ => true
  | .str _ => true
  | _ => false
theorem fvs_of : ∀ {ds : List PyData} {us : List Value}, ds.all flatD = true → Vals (ds.map dV) us → FVs ds us
  | [], _, _, .nil => .nil
  | d :: ds, _ :: us, h, .cons r rs => by
    rw [List.all_cons, Bool.and_eq_true] at h
    refine .cons ?_ (fvs_of h.2 rs)
    cases d with
    | int i =>
      obtain ⟨t, rfl⟩ := r
      exact .int i t
    | str x =>
      obtain ⟨t, rfl⟩ := r
      exact .str x t
    | _ => exact absurd h.1 (by simp [flatD])
def rSortedFl (K : PySem.W.Frag) : List V → Hp → VK → Prop := fun vs H Q => ∃ (a : Addr) (xs : List V) (k : V → List PyData), vs = [V.ref a] ∧ SqL K H a xs ∧ (∀ x ∈ xs, ∃ t, x = V.ref t ∧ (k x).all flatD = true ∧ H t = some (.tup ((k x).map dV))) ∧ (∀ x ∈ xs, ∀ y ∈ xs, Can (k x) (k y)) ∧
  ∀ ys p, SrtO.Srtd (fun x y => ltD (k x) (k y)) ys → SrtO.Stb (fun x y => ltD (k x) (k y)) ys xs → H p = none → Q (.ref p) (upd H p (.lst ys))
theorem cr_sortedFl {X : Cx} : CallR X (.builtin "sorted") (rSortedFl X.K) := by
  intro pins s σ H vs us Q I r h
  obtain ⟨a, xs, k, rfl, hs, hx, hcan, q⟩ := h
  obtain ⟨its, rv, hl, hz⟩ := I.list hs
  obtain ⟨u, rfl, ru⟩ := vals1 r
  obtain rfl : u = Value.ref a := ru
  obtain ⟨e1, e2⟩ := refs_back rv fun x m => by
    obtain ⟨t, e, _⟩ := hx x m
    exact ⟨t, e⟩
  refine sorted_fl (k := fun u => k (backV u)) hl.isList (by rw [← rv.length]; exact hz) (fun v hv => ?_) (fun v hv u hu => ?_) fun h' d out h1 h2 kp hd hn => ?_
  · obtain ⟨t, rfl⟩ := e2 v hv
    have hm : V.ref t ∈ xs := by rw [e1]; exact List.mem_map.mpr ⟨_, hv, rfl⟩
    obtain ⟨t', e, hf, ht⟩ := hx _ hm
    cases e
    obtain ⟨_, its2, r2, o, ho, hc, n, hd⟩ := I.hok _ _ ht
    exact ⟨t, o, its2.toArray, n, rfl, ho, hc, hd, by rw [List.toList_toArray]; exact fvs_of hf r2⟩
  · exact hcan _ (by rw [e1]; exact List.mem_map.mpr ⟨_, hv, rfl⟩) _ (by rw [e1]; exact List.mem_map.mpr ⟨_, hu, rfl⟩)
  · have h3 : ∀ u ∈ out, ∃ a, u = Value.ref a := fun u hu => e2 u (h2.perm.mem_iff.mp hu)
    obtain ⟨n, hn⟩ := hn
    have hb : SrtO.Stb (fun x y => ltD (k x) (k y)) (out.map backV) xs := by
      rw [e1]
      exact SrtO.Stb.map (swo_ltD k) backV h2
    refine ⟨.ref d, upd H d (.lst (out.map backV)), I.laid (t' := s.toks) kp hd ⟨?_, out, n, vals_back h3, hn⟩, rfl, q _ d (SrtO.srtd_map h1) hb (I.hok.fresh hd)⟩
    rw [hb.len]
    exact hz
end Fl

section
variable {P : Program} {w : World} {K : PySem.W.Frag} {mg : Str → Option Value} {base : Heap} {af : Nat → Addr} {fd : Nat → FuncData}
/-! ### spread -/
def sp_l_spread : Sp := fun vs H Q _ => ∃ (c a : Int), vs = [.int c, .int a] ∧ 0 ≤ a ∧ ∀ r : Int, 0 ≤ r → Q (.int r) H
theorem ok_l_spread (T : Txt K mg af fd) : FnOk P w K mg base CX0 1 (af 7) (fd 7) ["cell", "at"] sp_l_spread := by
  refine T.F_l_spread.ok sc_l_spread (fun vs H Q E h => ?_) (fun cdv A outer s H vs Q E hr h => ?_)
  · obtain ⟨c, a, rfl, _⟩ := h
    rfl
  · obtain ⟨c, a, rfl, ha, q⟩ := h
    refine ⟨_, (pss_cons (ps_if (pt_cmpR op_ge (pv 0) (pe_op op_pow pe_int pe_int) (nomark _)) (pss_one (ps_ret (pv 0))) pss_nil)
        (pss_cons (ps_set (i := 2) sc_l_spread.nd rfl (by first | exact Or.inl rfl | exact Or.inr rfl) (pe_op op_mod (pe_op op_add (pe_op op_add (pe_op op_mul (pe_op op_mod (pv 0) pe_int) pe_int) (pe_op op_mul (pv 1) pe_int)) pe_int) pe_int))
        (pss_cons (ps_set (i := 3) sc_l_spread.nd rfl (by first | exact Or.inl rfl | exact Or.inr rfl) (pe_op op_mod (pe_op op_add (pe_op op_add (pe_op op_mul (pv 2) (pv 2)) (pe_op op_mul (pv 1) pe_int)) (pe_op op_mod (pv 0) pe_int)) pe_int))
        (pss_cons (ps_set (i := 4) sc_l_spread.nd rfl (by first | exact Or.inl rfl | exact Or.inr rfl) (pe_op op_mod (pe_op op_add (pe_op op_add (pe_op op_mul (pv 3) (pv 3)) (pe_op op_mul (pv 2) pe_int)) pe_int) pe_int))
        (pss_one (ps_ret (pe_op op_add (pe_op op_mul (pe_op op_add (pe_op op_mul (pv 2) pe_int) (pv 3)) pe_int) (pv 4)))))))), ?_⟩
    refine ⟨_, rfl, 10, 18, rfl, rfl, ⟨by decide, by decide, by decide⟩, _, _, rfl, rfl, _, rfl, ite2 (fun e => ?_) (fun e => ?_)⟩
    · refine ⟨_, rfl, q c ?_⟩
      have e1 := of_decide_eq_true e
      exact Int.le_trans (by decide) e1
    · refine ⟨_, rfl, _, _, rfl, rfl, (by show (0 : Int) < 1000000007; decide), _, _, rfl, rfl, .inr ⟨by decide, by decide⟩, _, rfl, _, _, rfl, rfl, .inr ⟨by decide, by decide⟩, _, _, rfl, rfl, _, _, rfl, rfl, _, _, rfl, rfl, (by show (0 : Int) < 2147483629; decide), ?_⟩
      have b1 : ∀ x : Int, 0 ≤ x % 2147483629 ∧ x % 2147483629 < 2147483629 := fun x => ⟨Int.emod_nonneg _ (by decide), Int.emod_lt_of_pos _ (by decide)⟩
      generalize hx : (c % 1000000007 * 69069 + a * 40503 + 977) % 2147483629 = one
      have o1 : 0 ≤ one ∧ one < 2147483629 := by rw [← hx]; exact b1 _
      refine ⟨_, rfl, _, rfl, _, _, rfl, rfl, .inl ⟨by omega, by omega⟩, _, rfl, _, _, rfl, rfl, .inr ⟨by decide, by decide⟩, _, _, rfl, rfl, _, rfl, _, _, rfl, rfl, (by show (0 : Int) < 65537; decide), _, _, rfl, rfl, _, _, rfl, rfl, (by show (0 : Int) < 2147483587; decide), ?_⟩
      have b2 : ∀ x : Int, 0 ≤ x % 2147483587 ∧ x % 2147483587 < 2147483587 := fun x => ⟨Int.emod_nonneg _ (by decide), Int.emod_lt_of_pos _ (by decide)⟩
      generalize hy : (one * one + a * 7919 + c % 65537) % 2147483587 = two
      have o2 : 0 ≤ two ∧ two < 2147483587 := by rw [← hy]; exact b2 _
      refine ⟨_, rfl, _, rfl, _, _, rfl, rfl, .inl ⟨by omega, by omega⟩, _, rfl, _, _, rfl, rfl, .inr ⟨by decide, by decide⟩, _, _, rfl, rfl, _, _, rfl, rfl, _, _, rfl, rfl, (by show (0 : Int) < 2147483563; decide), ?_⟩
      have b3 : ∀ x : Int, 0 ≤ x % 2147483563 := fun x => Int.emod_nonneg _ (by decide)
      generalize hz : (two * two + one * 31 + 5) % 2147483563 = three
      have o3 : 0 ≤ three := by rw [← hz]; exact b3 _
      refine ⟨_, rfl, _, _, rfl, rfl, .inr ⟨by decide, by decide⟩, _, rfl, _, _, rfl, rfl, _, _, rfl, rfl, .inr ⟨by decide, by decide⟩, _, rfl, _, _, rfl, rfl, q _ ?_⟩
      omega
/-! ### take -/
def sp_l_take : Sp := fun vs H Q _ => ∃ (p c : Addr) (many : Int), vs = [.ref p, .int many] ∧ Pen H p c ∧ 0 < many ∧ many.natAbs < 2 ^ 100 ∧ ∀ (r : Int) (H' : Hp), 0 ≤ r → r < many → Stp p c H H' → Q (.int r) H'
theorem ok_l_take (T : Txt K mg af fd) : FnOk P w K mg base CX0 2 (af 10) (fd 10) ["pen", "many"] sp_l_take := by
  refine T.F_l_take.ok sc_l_take (fun vs H Q E h => ?_) (fun cdv A outer s H vs Q E hr h => ?_)
  · obtain ⟨p, c, many, rfl, _⟩ := h
    rfl
  · obtain ⟨p, c, many, rfl, hP, m0, m1, q⟩ := h
    have hpc := hP.ne
    obtain ⟨cs, n, st, h1, h2, h3, h4⟩ := hP
    refine ⟨_, (C8.pss_cut (ps_if (pt_cmpR op_lt (pe_ix ix_list (pv 0) pe_int (fun _ _ => rfl)) (pv 1) (nomark _)) (pss_cons (ps_set (i := 2) sc_l_take.nd rfl (by first | exact Or.inl rfl | exact Or.inr rfl) (pe_ix ix_list (pv 0) pe_int (fun _ _ => rfl)))
        (pss_cons (ps_set (i := 3) sc_l_take.nd rfl (by first | exact Or.inl rfl | exact Or.inr rfl) pe_int)
        (C8.pss_cut (ps_if (pt_cmpR op_lt (pv 2) (pe_callB call_len_seq (by rfl) T.m_len (by decide +kernel) (pa_cons (pe_ix ix_list (pv 0) pe_int (fun _ _ => rfl)) pa_nil)) (nomark _)) (pss_one (ps_set (i := 3) sc_l_take.nd rfl (by first | exact Or.inl rfl | exact Or.inr rfl) (pe_ix ix_list (pe_ix ix_list (pv 0) pe_int (fun _ _ => rfl)) (pv 2) (fun _ _ => rfl)))) (pss_one (ps_if (pt_cmpR op_gt (pe_callB call_len_seq (by rfl) T.m_len (by decide +kernel) (pa_cons (pe_ix ix_list (pv 0) pe_int (fun _ _ => rfl)) pa_nil)) pe_int (nomark _)) (pss_one (ps_set (i := 3) sc_l_take.nd rfl (by first | exact Or.inl rfl | exact Or.inr rfl) (pe_op op_mod (pe_ix ix_list (pe_ix ix_list (pv 0) pe_int (fun _ _ => rfl)) (pe_op op_mod (pe_op op_add (pe_op op_mul (pv 2) pe_int) pe_int) (pe_callB call_len_seq (by rfl) T.m_len (by decide +kernel) (pa_cons (pe_ix ix_list (pv 0) pe_int (fun _ _ => rfl)) pa_nil))) (fun _ _ => rfl)) (pe_op op_add (pe_op op_pow pe_int pe_int) (pv 2))))) pss_nil)))
        (pss_cons (ps_asg (pe_op op_add (pv 2) pe_int) (pg_sub (pv 0) pe_int set_list))
        (pss_one (ps_asg (pe_call (ok_l_spread T) (hr.mono (by decide)) (by rfl) T.g_l_spread T.F_l_spread.kp T.b_l_spread .nil pass0 (pa_cons (pv 3) (pa_cons (pv 2) pa_nil))) (pg_sub (pv 0) pe_int set_list))))))) pss_nil)
        (pss_cons (ps_set (i := 4) sc_l_take.nd rfl (by first | exact Or.inl rfl | exact Or.inr rfl) (pe_op op_mod (pe_ix ix_list (pv 0) pe_int (fun _ _ => rfl)) (pv 1)))
        (pss_cons (ps_asg (pe_op op_fdivW (pe_ix ix_list (pv 0) pe_int (fun _ _ => rfl)) (pv 1)) (pg_sub (pv 0) pe_int set_list))
        (pss_one (ps_ret (pv 4)))))), ?_⟩
    refine ⟨fun σ' H' => ∃ (n' st' : Int) (v1 v2 : Option V), 0 ≤ n' ∧ 0 ≤ st' ∧ σ' = [some (.ref p), some (.int many), v1, v2, none] ∧ H' = upd H p (.lst [.ref c, .int n', .int st']), ?_, ?_⟩
    · refine ⟨_, rfl, p, _, 2, _, rfl, rfl, SqL.of h1, rfl, _, rfl, _, _, rfl, rfl, _, rfl, ite2 (fun e => ?_) (fun e => ?_)⟩
      · refine ⟨_, rfl, p, _, 1, _, rfl, rfl, SqL.of h1, rfl, ?_⟩
        refine ⟨fun σ' H' => ∃ (x : Int), σ' = [some (.ref p), some (.int many), some (.int n), some (.int x), none] ∧ H' = H, ?_, ?_⟩
        · refine ⟨_, rfl, _, rfl, p, _, 0, _, rfl, rfl, SqL.of h1, rfl, c, _, rfl, .inl (SqL.of h2), _, _, rfl, rfl, _, rfl, ite2 (fun e2 => ?_) (fun e2 => ?_)⟩
          · have e3 := of_decide_eq_true e2
            rw [List.length_map] at e3
            have hlt : n.toNat < cs.length := by omega
            refine ⟨_, rfl, p, _, 0, _, rfl, rfl, SqL.of h1, rfl, _, rfl, c, _, n, .int cs[n.toNat], rfl, rfl, SqL.of h2, at_of (j := n.toNat) (by omega) ?_, ⟨_, rfl, rfl⟩⟩
            rw [List.getElem?_map, List.getElem?_eq_getElem hlt]
            rfl
          · refine ⟨_, rfl, p, _, 0, _, rfl, rfl, SqL.of h1, rfl, c, _, rfl, .inl (SqL.of h2), _, _, rfl, rfl, _, rfl, ite2 (fun e3 => ?_) (fun e3 => ?_)⟩
            · have e4 := of_decide_eq_true e3
              have hl : (0 : Int) < (cs.map V.int).length := e4
              have hr0 := Int.emod_nonneg (n * 5 + 3) (show ((cs.map V.int).length : Int) ≠ 0 by omega)
              have hr1 := Int.emod_lt_of_pos (n * 5 + 3) hl
              have hlt : ((n * 5 + 3) % ((cs.map V.int).length : Int)).toNat < cs.length := by
                rw [List.length_map] at hr1 hr0 ⊢
                omega
              refine ⟨_, rfl, p, _, 0, _, rfl, rfl, SqL.of h1, rfl, _, rfl, _, _, rfl, rfl, .inr ⟨by decide, by decide⟩, _, _, rfl, rfl, _, rfl, p, _, 0, _, rfl, rfl, SqL.of h1, rfl, c, _, rfl, .inl (SqL.of h2), _, _, rfl, rfl, hl, c, _, _, .int cs[((n * 5 + 3) % ((cs.map V.int).length : Int)).toNat], rfl, rfl, SqL.of h2, at_of (j := ((n * 5 + 3) % ((cs.map V.int).length : Int)).toNat) (by omega) ?_, 10, 17, rfl, rfl, ⟨by decide, by decide, by decide⟩, _, rfl, _, _, rfl, rfl, _, _, rfl, rfl, ?_, ⟨_, rfl, rfl⟩⟩
              · rw [List.getElem?_map, List.getElem?_eq_getElem hlt]
                rfl
              · show (0 : Int) < 10 ^ (17 : Int).toNat + n
                have : (0 : Int) < 10 ^ (17 : Int).toNat := by decide
                omega
            · exact ⟨_, rfl, rfl⟩
        · rintro σ' H' ⟨x, rfl, rfl⟩
          refine ⟨_, rfl, _, _, rfl, rfl, _, rfl, p, _, 1, 1, rfl, rfl, h1, rfl, ?_⟩
          refine ⟨_, rfl, _, rfl, x, n, rfl, h3, fun r hr => ?_⟩
          refine ⟨_, rfl, p, _, 2, 2, rfl, rfl, upd_same, rfl, ?_⟩
          refine ⟨n + 1, r, _, _, by omega, hr, rfl, ?_⟩
          rw [upd_upd]
          rfl
      · refine ⟨n, st, none, none, h3, h4, rfl, ?_⟩
        funext b
        by_cases hb : b = p
        · subst hb
          rw [upd_same]
          exact h1
        · rw [upd_ne hb]
    · rintro σ' H' ⟨n', st', v1, v2, hn, hs, rfl, rfl⟩
      refine ⟨_, rfl, p, _, 2, _, rfl, rfl, SqL.of upd_same, rfl, _, rfl, _, _, rfl, rfl, m0, ?_⟩
      refine ⟨_, rfl, p, _, 2, _, rfl, rfl, SqL.of upd_same, rfl, _, rfl, _, _, rfl, rfl, wide_div m0 m1 (by decide) (by decide), _, rfl, p, _, 2, 2, rfl, rfl, upd_same, rfl, ?_⟩
      refine ⟨_, rfl, q _ _ (Int.emod_nonneg _ (by omega)) (Int.emod_lt_of_pos _ m0) ⟨⟨cs, n', st' / many, ?_, ?_, hn, Int.ediv_nonneg hs (by omega)⟩, fun b o hb e => ?_⟩⟩
      · rw [upd_same]
        rfl
      · rw [upd_ne hpc, upd_ne hpc]
        exact h2
      · rw [upd_ne hb, upd_ne hb]
        exact e
/-! ### open -/
def sp_l_open (K : PySem.W.Frag) : Sp := fun vs H Q _ => ∃ (a : Addr) (ns : List Int), vs = [.ref a] ∧ SqL K H a (ns.map V.int) ∧ ns.length ≤ 63 ∧ ∀ (p c : Addr) (H' : Hp), Same H H' → H p = none → H c = none → Pen H' p c → Q (.ref p) H'
theorem ok_l_open (T : Txt K mg af fd) : FnOk P w K mg base CX0 1 (af 8) (fd 8) ["script"] (sp_l_open K) := by
  refine T.F_l_open.ok sc_l_open (fun vs H Q E h => ?_) (fun cdv A outer s H vs Q E hr h => ?_)
  · obtain ⟨a, ns, rfl, _⟩ := h
    rfl
  · obtain ⟨a, ns, rfl, hS, hlen, q⟩ := h
    refine ⟨_, (pss_cons (ps_set (i := 1) sc_l_open.nd rfl (by first | exact Or.inl rfl | exact Or.inr rfl) (pe_callTy call_list_of (by rfl) T.m_list (by decide +kernel) (pa_cons (pe_slice sl_list (pv 0) po_none (po_some pe_int)) pa_nil)))
        (pss_cons (ps_for PassesOwn.never rfl (pi_enum (by rfl) T.m_enumerate (pa_cons (pe_slice sl_list (pv 0) (po_some pe_int) (po_some pe_int)) pa_nil)) (pg_tup rfl (pgs_cons (pg_name (i := 2) sc_l_open.nd rfl (by first | exact Or.inl rfl | exact Or.inr rfl)) (pgs_cons (pg_name (i := 3) sc_l_open.nd rfl (by first | exact Or.inl rfl | exact Or.inr rfl)) pgs_nil))) (pss_one (ps_asg (pe_op op_add (pe_ix ix_list (pv 1) (pe_op op_mod (pv 2) pe_int) (fun _ _ => rfl)) (pv 3)) (pg_sub (pv 1) (pe_op op_mod (pv 2) pe_int) set_list))))
        (pss_one (ps_ret (pe_lst (pa_cons (pv 1) (pa_cons pe_int (pa_cons pe_int pa_nil)))))))), ?_⟩
    refine ⟨_, rfl, 12, rfl, a, _, rfl, hS, fun x nx => ⟨x, _, rfl, .inl (SqL.of upd_same), fun l nl => ?_⟩⟩
    have s1 : Same H (upd H x (.lst (cutV (ns.map V.int) none (some 12)))) := same_upd nx
    have nl0 : H l = none := s1.free nl
    have s2 : Same H (upd (upd H x (.lst (cutV (ns.map V.int) none (some 12)))) l (.lst (cutV (ns.map V.int) none (some 12)))) := same_mut s1 nl0
    refine ⟨_, rfl, 12, rfl, 63, rfl, a, _, rfl, s2.seq hS, fun d nd => ⟨d, _, rfl, SqL.of upd_same, ?_⟩⟩
    have nd0 : H d = none := s2.free nd
    have hld : l ≠ d := fun e => by
      rw [← e, upd_same] at nd
      cases nd
    have it : cutV (ns.map V.int) (some 12) (some 63) = ((ns.drop 12)).map V.int := by
      have e := cut_mid (ns.map V.int) 12 63
      rw [show ((12 : Nat) : Int) = 12 from rfl, show ((63 : Nat) : Int) = 63 from rfl] at e
      rw [e, List.length_map]
      by_cases h12 : 12 ≤ ns.length
      · rw [Nat.min_eq_left h12, Nat.min_eq_right (by omega), List.take_of_length_le, List.map_drop]
        rw [List.length_drop, List.length_map]
        omega
      · rw [Nat.min_eq_right (by omega), List.drop_of_length_le (l := ns) (by omega), List.drop_of_length_le (by rw [List.length_map]; omega)]
        exact List.take_nil
    have ic : cutV (ns.map V.int) none (some 12) = (ns.take 12).map V.int := by
      have e := cut_to (ns.map V.int) 12
      rw [show ((12 : Nat) : Int) = 12 from rfl] at e
      rw [e, List.map_take]
    rw [it, ic]
    refine for_it (walk_enum (K := K) (a := d) (xs := (ns.drop 12).map V.int)) (fun i σ H' => ∃ (cs : List Int) (v2 v3 : Option V), σ = [some (.ref a), some (.ref l), v2, v3] ∧ H' l = some (.lst (cs.map V.int)) ∧ cs.length = min 12 ns.length ∧ H' d = some (.lst ((ns.drop 12).map V.int)) ∧ Same H H')
      ⟨ns.take 12, none, none, rfl, ?_, ?_, upd_same, same_mut ?_ nd0⟩ (fun i σ H' _ ⟨_, _, _, _, _, _, hd, _⟩ => SqL.of hd) ?_ ?_
    · rw [upd_ne hld, upd_same]
    · rw [List.length_take]
    · rw [← ic]
      exact s2
    · rintro i v σ H' H'' hi ⟨cs, v2, v3, rfl, hl, hc, hd, sm⟩ ⟨t, x1, x2, rfl, nt, rfl, e1, e2⟩
      obtain rfl : V.int (i : Nat) = x1 := Option.some.inj e1
      have e3 : ((ns.drop 12).map V.int)[i]? = some x2 := e2
      rw [List.getElem?_map] at e3
      obtain ⟨z, hz, rfl⟩ := Option.map_eq_some_iff.mp e3
      have h12 : 12 ≤ ns.length := by
        rw [List.length_map, List.length_drop] at hi
        omega
      have hm0 : 0 ≤ (i : Int) % 12 := Int.emod_nonneg _ (by decide)
      have hm1 : (i : Int) % 12 < 12 := Int.emod_lt_of_pos _ (by decide)
      have hj : ((i : Int) % 12).toNat < cs.length := by omega
      have hl' : (upd H' t (.tup [.int (i : Nat), .int z])) l = some (.lst (cs.map V.int)) := by
        rw [upd_ne (ne_of_none hl nt)]
        exact hl
      refine ⟨t, [.int (i : Nat), .int z], rfl, SqT.of upd_same, rfl, _, _, rfl, _, _, rfl, rfl, ?_⟩
      refine ⟨_, rfl, _, rfl, _, _, rfl, rfl, (by show (0 : Int) < 12; decide), l, _, _, .int cs[((i : Int) % 12).toNat], rfl, rfl, SqL.of hl', at_of (j := ((i : Int) % 12).toNat) (by omega) ?_, _, rfl, _, _, rfl, rfl, _, rfl, _, rfl, _, _, rfl, rfl, (by show (0 : Int) < 12; decide), l, _, _, ((i : Int) % 12).toNat, rfl, rfl, hl', ?_, ?_⟩
      · rw [List.getElem?_map, List.getElem?_eq_getElem hj]
        rfl
      · unfold ixN
        rw [if_pos hm0, if_pos (by rw [List.length_map]; omega)]
      · refine ⟨cs.set ((i : Int) % 12).toNat (cs[((i : Int) % 12).toNat] + z), _, _, rfl, ?_, ?_, ?_, ?_⟩
        · rw [upd_same, ← List.map_set]
        · rw [List.length_set]
          exact hc
        · rw [upd_ne (Ne.symm hld), upd_ne (ne_of_none hd nt)]
          exact hd
        · exact same_mut (same_mut sm (sm.free nt)) nl0
    · rintro σ H' ⟨cs, v2, v3, rfl, hl, hc, hd, sm⟩
      refine ⟨_, rfl, (by show 3 ≤ sizeLine; decide), fun p np => q p l _ (same_mut sm (sm.free np)) (sm.free np) nl0 ⟨cs, 0, 0, upd_same, ?_, by decide, by decide⟩⟩
      rw [upd_ne (ne_of_none hl np)]
      exact hl

/-! ### anew -/
def sp_l_anew : Sp := fun vs H Q _ => ∃ (p c : Addr), vs = [.ref p] ∧ Pen H p c ∧ ∀ H', Stp p c H H' → Q (.ref p) H'
theorem ok_l_anew (T : Txt K mg af fd) : FnOk P w K mg base CX0 1 (af 9) (fd 9) ["pen"] sp_l_anew := by
  refine T.F_l_anew.ok sc_l_anew (fun vs H Q E h => ?_) (fun cdv A outer s H vs Q E hr h => ?_)
  · obtain ⟨p, c, rfl, _⟩ := h
    rfl
  · obtain ⟨p, c, rfl, hP, q⟩ := h
    have hpc := hP.ne
    obtain ⟨cs, n, st, h1, h2, h3, h4⟩ := hP
    refine ⟨_, (pss_cons (ps_asg pe_int (pg_sub (pv 0) pe_int set_list))
        (pss_one (ps_ret (pv 0)))), ?_⟩
    refine ⟨_, rfl, p, _, 2, 2, rfl, rfl, h1, rfl, _, rfl, q _ ⟨⟨cs, n, 0, ?_, ?_, h3, by decide⟩, fun b o hb e => ?_⟩⟩
    · rw [upd_same]
      rfl
    · rw [upd_ne hpc]
      exact h2
    · rw [upd_ne hb]
      exact e
/-! ### names -/
def House (z : List Nat) : Prop := 1 ≤ z.length ∧ z.length ≤ 8 ∧ ∀ c ∈ z, 97 ≤ c ∧ c ≤ 122
def nameL (base : List Nat) (way turn size k : Nat) : List Nat :=
  (base.take ((size + k * (way % 2)) % 8)).take (if way = 0 then 0 else if way = 1 then (base.take ((size + k * (way % 2)) % 8)).length else (base.take ((size + k * (way % 2)) % 8)).length / 2) ++ [97 + (turn + 3 * k) % 26] ++
  (base.take ((size + k * (way % 2)) % 8)).drop (if way = 0 then 0 else if way = 1 then (base.take ((size + k * (way % 2)) % 8)).length else (base.take ((size + k * (way % 2)) % 8)).length / 2)
theorem nameL_len {base : List Nat} {way turn size k : Nat} (hb : base.length = 7) : (nameL base way turn size k).length = (size + k * (way % 2)) % 8 + 1 := by
  unfold nameL
  rw [List.length_append, List.length_append, List.length_take, List.length_drop, List.length_take]
  have : (size + k * (way % 2)) % 8 < 8 := Nat.mod_lt _ (by decide)
  simp only [List.length_cons, List.length_nil]
  omega
theorem nameL_house {base : List Nat} {way turn size k : Nat} (hb : base.length = 7) (hl : ∀ c ∈ base, 97 ≤ c ∧ c ≤ 122) : House (nameL base way turn size k) := by
  have e := nameL_len (way := way) (turn := turn) (size := size) (k := k) hb
  have : (size + k * (way % 2)) % 8 < 8 := Nat.mod_lt _ (by decide)
  refine ⟨by omega, by omega, fun c hc => ?_⟩
  unfold nameL at hc
  rcases List.mem_append.mp hc with h | h
  · rcases List.mem_append.mp h with h | h
    · exact hl c (List.mem_of_mem_take (List.mem_of_mem_take h))
    · have h := List.mem_singleton.mp h
      omega
  · exact hl c (List.mem_of_mem_take (List.mem_of_mem_drop h))
theorem nameL_inj {base : List Nat} {way turn size i j : Nat} (hb : base.length = 7) (hw : way < 3) (hi : i < 8) (hj : j < 8) (e : nameL base way turn size i = nameL base way turn size j) : i = j := by
  by_cases h1 : way = 1
  · subst h1
    have e1 := congrArg List.length e
    rw [nameL_len hb, nameL_len hb] at e1
    omega
  · have h2 : way % 2 = 0 := by omega
    unfold nameL at e
    rw [h2, Nat.mul_zero, Nat.mul_zero] at e
    have e1 := List.append_cancel_right e
    have e2 := List.append_cancel_left e1
    have e3 := (List.cons.inj e2).1
    omega
theorem joinL_ones : ∀ cs : List Nat, TL.joinL [] (cs.map fun c => [c]) = cs
  | [] => rfl
  | [_] => rfl
  | a :: b :: r => by
    show [a] ++ ([] ++ TL.joinL [] ((b :: r).map fun c => [c])) = a :: b :: r
    rw [joinL_ones (b :: r)]
    rfl
theorem abc_at : ∀ i : Nat, i < 26 → (Str.ofString "abcdefghijklmnopqrstuvwxyz").cps.toList[i]? = some (97 + i) := by
  have h : ∀ i : Fin 26, (Str.ofString "abcdefghijklmnopqrstuvwxyz").cps.toList[i.1]? = some (97 + i.1) := by decide +kernel
  exact fun i hi => h ⟨i, hi⟩
theorem abc_len : (Str.ofString "abcdefghijklmnopqrstuvwxyz").length ≤ sizeLine := by decide +kernel
def sp_l_names : Sp := fun vs H Q _ => ∃ (p c : Addr) (many : Int), vs = [.ref p, .int many] ∧ Pen H p c ∧ 0 ≤ many ∧ many ≤ 7 ∧
  ∀ (f : Addr) (zs : List (List Nat)) (H' : Hp), Stp p c H H' → H f = none → H' f = some (.lst (zs.map fun z => V.str (SX.S z))) → (zs.length : Int) = many → zs.Nodup → (∀ z ∈ zs, House z) → Q (.ref f) H'
theorem ok_l_names (T : Txt K mg af fd) : FnOk P w K mg base CX0 3 (af 11) (fd 11) ["pen", "many"] sp_l_names := by
  refine T.F_l_names.ok sc_l_names (fun vs H Q E h => ?_) (fun cdv A outer s H vs Q E hr h => ?_)
  · obtain ⟨p, c, many, rfl, _⟩ := h
    rfl
  · obtain ⟨p, c, many, rfl, hP, m0, m1, q⟩ := h
    refine ⟨_, (pss_cons (ps_set (i := 2) sc_l_names.nd rfl (by first | exact Or.inl rfl | exact Or.inr rfl) pe_str)
        (pss_cons (ps_set (i := 3) sc_l_names.nd rfl (by first | exact Or.inl rfl | exact Or.inr rfl) (pe_join pe_str (pe_lc (own := [("k", 4)]) (g := gName 4) (by rfl) sc_l_names.nd (pi_range1 (by rfl) T.m_range (pa_cons pe_int pa_nil)) (blkOk_by (own := [("k", 4)]) (N := ["pen", "many", "letters", "base", "k", "way", "turn", "size", "found", "sign", "part", "at"]) (sc := defScope s_l_names) (by decide +kernel)) (fun _ _ _ _ _ => pg_name (i := 4) sc_l_names.nd rfl (Or.inl rfl)) (fun _ _ _ _ _ => pts_nil) (fun _ _ _ _ _ => (pe_ix ix_str (pv 2) (pe_call (ok_l_take T) (hr.mono (by decide)) (by rfl) T.g_l_take T.F_l_take.kp T.b_l_take .nil pass0 (pa_cons (pv 0) (pa_cons pe_int pa_nil))) (fun _ _ => rfl))))))
        (pss_cons (ps_set (i := 5) sc_l_names.nd rfl (by first | exact Or.inl rfl | exact Or.inr rfl) (pe_call (ok_l_take T) (hr.mono (by decide)) (by rfl) T.g_l_take T.F_l_take.kp T.b_l_take .nil pass0 (pa_cons (pv 0) (pa_cons pe_int pa_nil))))
        (pss_cons (ps_set (i := 6) sc_l_names.nd rfl (by first | exact Or.inl rfl | exact Or.inr rfl) (pe_call (ok_l_take T) (hr.mono (by decide)) (by rfl) T.g_l_take T.F_l_take.kp T.b_l_take .nil pass0 (pa_cons (pv 0) (pa_cons pe_int pa_nil))))
        (pss_cons (ps_set (i := 7) sc_l_names.nd rfl (by first | exact Or.inl rfl | exact Or.inr rfl) (pe_call (ok_l_take T) (hr.mono (by decide)) (by rfl) T.g_l_take T.F_l_take.kp T.b_l_take .nil pass0 (pa_cons (pv 0) (pa_cons pe_int pa_nil))))
        (pss_cons (ps_set (i := 8) sc_l_names.nd rfl (by first | exact Or.inl rfl | exact Or.inr rfl) (pe_lst pa_nil))
        (pss_cons (ps_for PassesOwn.never rfl (pi_range1 (by rfl) T.m_range (pa_cons (pv 1) pa_nil)) (pg_name (i := 4) sc_l_names.nd rfl (by first | exact Or.inl rfl | exact Or.inr rfl)) (pss_cons (ps_set (i := 9) sc_l_names.nd rfl (by first | exact Or.inl rfl | exact Or.inr rfl) (pe_ix ix_str (pv 2) (pe_op op_mod (pe_op op_add (pv 6) (pe_op op_mul pe_int (pv 4))) pe_int) (fun _ _ => rfl)))
        (pss_cons (ps_set (i := 10) sc_l_names.nd rfl (by first | exact Or.inl rfl | exact Or.inr rfl) (pe_slice sl_str (pv 3) po_none (po_some (pe_op op_mod (pe_op op_add (pv 7) (pe_op op_mul (pv 4) (pe_op op_mod (pv 5) pe_int))) pe_int))))
        (pss_cons (ps_set (i := 11) sc_l_names.nd rfl (by first | exact Or.inl rfl | exact Or.inr rfl) (pe_ix ix_list (pe_lst (pa_cons pe_int (pa_cons (pe_callB call_len_str (by rfl) T.m_len (by decide +kernel) (pa_cons (pv 10) pa_nil)) (pa_cons (pe_op op_fdiv (pe_callB call_len_str (by rfl) T.m_len (by decide +kernel) (pa_cons (pv 10) pa_nil)) pe_int) pa_nil)))) (pv 5) (fun _ _ => rfl)))
        (pss_one (ps_expr (pe_bm PySem.F.plainAttrs_list PySem.F.slot_list_append PySem.F.type_list_append mt_append (pv 8) (pa_cons (pe_op op_add_str (pe_op op_add_str (pe_slice sl_str (pv 10) po_none (po_some (pv 11))) (pv 9)) (pe_slice sl_str (pv 10) (po_some (pv 11)) po_none)) pa_nil))))))))
        (pss_one (ps_ret (pv 8)))))))))), ?_⟩
    -- base = ''.join([..])
    refine ⟨⟨_, rfl⟩, 7, rfl, by decide, by decide, fun D nD => lc_range (lo := 0) (n := 7) (fun i H' => Stp p c H H' ∧ ∃ cs : List Nat, H' D = some (.lst (cs.map fun c => V.str (SX.S [c]))) ∧ cs.length = i ∧ ∀ c ∈ cs, 97 ≤ c ∧ c ≤ 122)
      ⟨(Stp.refl hP).new hP nD, [], upd_same, rfl, fun _ h => nomatch h⟩ ?_ ?_⟩
    · rintro i H1 hi ⟨s1, cs, hD, hl, hc⟩
      refine ⟨rfl, yes_if ?_⟩
      refine ⟨_, rfl, _, rfl, p, c, 26, rfl, s1.1, by decide, by decide, fun r H2 r0 r1 s2 => ?_⟩
      have hD2 : H2 D = some (.lst (cs.map fun c => V.str (SX.S [c]))) := s2.2 D _ (fun e => hP.neP nD e.symm) hD
      refine ⟨_, r, 97 + r.toNat, rfl, rfl, abc_len, at_any (z := r) (j := r.toNat) (by omega) (abc_at r.toNat (by omega)), _, hD2, ?_, (s1.trans s2).mut hP nD, cs ++ [97 + r.toNat], ?_, ?_, ?_⟩
      · rw [List.length_map]
        exact small1000 (by omega)
      · rw [upd_same, List.map_append]
        rfl
      · rw [List.length_append, hl]
        rfl
      · intro x hx
        rcases List.mem_append.mp hx with h | h
        · exact hc x h
        · have h := List.mem_singleton.mp h
          omega
    · rintro H1 ⟨s1, bs, hD, hl, hc⟩
      have hD' : H1 D = some (.lst ((bs.map fun c => SX.S [c]).map V.str)) := by rw [hD, List.map_map]; rfl
      refine ⟨_, D, (bs.map fun c => SX.S [c]), rfl, rfl, .inl (SqL.of hD'), ?_, ?_⟩
      · have e1 : ((bs.map fun c => SX.S [c]).map (·.length)).sum = bs.length := by
          rw [List.map_map]
          have : ((fun z : Str => z.length) ∘ fun c => SX.S [c]) = fun _ => 1 := funext fun c => SX.S_len [c]
          rw [this, List.map_const', List.sum_replicate_nat]
          omega
        rw [e1, List.length_map, hl]
        decide
      have ej : Txt.join (Str.ofString "") (bs.map fun c => SX.S [c]) = SX.S bs := by
        have e2 := SX.join_S [] (bs.map fun c => [c])
        rw [List.map_map, joinL_ones] at e2
        exact e2
      rw [ej]
      refine ⟨_, rfl, p, c, 3, rfl, s1.1, by decide, by decide, fun way H2 w0 w1 s2 => ?_⟩
      refine ⟨_, rfl, p, c, 26, rfl, s2.1, by decide, by decide, fun turn H3 t0 t1 s3 => ?_⟩
      refine ⟨_, rfl, p, c, 8, rfl, s3.1, by decide, by decide, fun size H4 z0 z1 s4 => ?_⟩
      have sA : Stp p c H H4 := ((s1.trans s2).trans s3).trans s4
      refine ⟨Nat.zero_le _, fun f nf => ?_⟩
      have nf0 : H f = none := sA.back hP nf
      refine ⟨_, rfl, many, rfl, by omega, by omega, for_range (lo := 0) (n := many.toNat) (fun i σ H' => ∃ v9 v10 v11 v12 : Option V, σ = [some (.ref p), some (.int many), some (.str (Str.ofString "abcdefghijklmnopqrstuvwxyz")), some (.str (SX.S bs)), v12, some (.int way), some (.int turn), some (.int size), some (.ref f), v9, v10, v11] ∧ Stp p c H H' ∧ H' f = some (.lst (((List.range i).map (nameL bs way.toNat turn.toNat size.toNat)).map fun z => V.str (SX.S z))))
        ⟨none, none, none, none, rfl, sA.mut hP nf0, upd_same⟩ ?_ ?_⟩
      · rintro i σ H5 hi ⟨v9, v10, v11, v12, rfl, s5, hf⟩
        have hi7 : i < 7 := by omega
        have wt : (way.toNat : Int) = way := by omega
        have tt : (turn.toNat : Int) = turn := by omega
        have zt : (size.toNat : Int) = size := by omega
        have ew : way % 2 = ((way.toNat % 2 : Nat) : Int) := by omega
        have w20 : 0 ≤ way % 2 := by omega
        have w21 : way % 2 < 2 := by omega
        have es : (turn + 3 * (0 + (i : Int))) % 26 = (((turn.toNat + 3 * i) % 26 : Nat) : Int) := by omega
        refine ⟨_, rfl, _, rfl, _, rfl, _, _, rfl, rfl, .inl ⟨by decide, by decide⟩, _, _, rfl, rfl, _, _, rfl, rfl, (by show (0 : Int) < 26; decide), _, _, 97 + (turn.toNat + 3 * i) % 26, rfl, rfl, abc_len, at_any es (abc_at _ (Nat.mod_lt _ (by decide))), ?_⟩
        refine ⟨_, rfl, _, rfl, _, rfl, _, rfl, _, _, rfl, rfl, (by show (0 : Int) < 2; decide), _, _, rfl, rfl, .inr ⟨by omega, by omega⟩, _, _, rfl, rfl, _, _, rfl, rfl, (by show (0 : Int) < 8; decide), _, rfl, SX.S bs, rfl, ?_, ?_⟩
        · rw [SX.S_len, hl]
          decide
        have ep : (size + (0 + (i : Int)) * (way % 2)) % 8 = (((size.toNat + i * (way.toNat % 2)) % 8 : Nat) : Int) := by
          rw [ew, Int.zero_add, ← zt, ← Int.natCast_mul, ← Int.natCast_add]
          rfl
        have ecut : cutS (SX.S bs) none (some ((size + (0 + (i : Int)) * (way % 2)) % 8)) = SX.S (bs.take ((size.toNat + i * (way.toNat % 2)) % 8)) := by
          rw [C8.cutS_slice, SX.slice_to (by rw [ep]; exact Int.natCast_nonneg _), ep, Int.toNat_natCast]
        rw [ecut]
        have hpl : (SX.S (bs.take ((size.toNat + i * (way.toNat % 2)) % 8))).length ≤ 7 := by
          rw [SX.S_len, List.length_take, hl]
          omega
        generalize hpart : bs.take ((size.toNat + i * (way.toNat % 2)) % 8) = part at hpl ⊢
        have hps : (SX.S part).length ≤ sizeLine := Nat.le_trans hpl (by decide)
        refine ⟨_, rfl, _, rfl, hps, _, rfl, _, rfl, hps, _, _, rfl, rfl, ⟨by decide, by decide⟩, (by show 3 ≤ sizeLine; decide), fun l nl => ?_⟩
        have hlf : f ≠ l := ne_of_none hf nl
        obtain ⟨a, ha, ea⟩ : ∃ a : Nat, atI [V.int 0, V.int ((SX.S part).length : Int), V.int (((SX.S part).length : Int) / 2)] way = some (.int (a : Int)) ∧ a = (if way.toNat = 0 then 0 else if way.toNat = 1 then part.length else part.length / 2) := by
          rw [SX.S_len]
          have hw3 : way = 0 ∨ way = 1 ∨ way = 2 := by omega
          rcases hw3 with e | e | e
          · subst e
            exact ⟨0, rfl, rfl⟩
          · subst e
            exact ⟨part.length, rfl, rfl⟩
          · subst e
            exact ⟨part.length / 2, rfl, rfl⟩
        refine ⟨_, rfl, l, _, way, _, rfl, rfl, SqL.of upd_same, ha, ?_⟩
        have hf5 : (upd H5 l (.lst [V.int 0, V.int ((SX.S part).length : Int), V.int (((SX.S part).length : Int) / 2)])) f = some (.lst (((List.range i).map (nameL bs way.toNat turn.toNat size.toNat)).map fun z => V.str (SX.S z))) := by
          rw [upd_ne hlf]
          exact hf
        have hp7 : part.length ≤ 7 := by
          rw [SX.S_len] at hpl
          exact hpl
        have e1 : cutS (SX.S part) none (some (a : Int)) = SX.S (part.take a) := by
          rw [C8.cutS_slice, SX.slice_to (Int.natCast_nonneg _), Int.toNat_natCast]
        have e2 : cutS (SX.S part) (some (a : Int)) none = SX.S (part.drop a) := by
          rw [C8.cutS_slice, SX.slice_from (Int.natCast_nonneg _), Int.toNat_natCast]
        refine ⟨_, rfl, .inl ⟨rfl, _, SqL.of hf5⟩, _, rfl, _, rfl, _, rfl, _, rfl, hps, _, rfl, _, _, rfl, rfl, ?_, _, rfl, _, rfl, _, rfl, _, rfl, hps, _, _, rfl, rfl, ?_, f, _, _, rfl, rfl, hf5, ?_, ?_⟩
        · rw [e1]
          show (SX.S (part.take a)).length + (SX.S [97 + (turn.toNat + 3 * i) % 26]).length ≤ sizeLine
          rw [SX.S_len, SX.S_len, List.length_take]
          exact Nat.le_trans (show _ ≤ 8 by simp only [List.length_cons, List.length_nil]; omega) (by decide)
        · rw [e1, e2]
          show (SX.S (part.take a) ++ SX.S [97 + (turn.toNat + 3 * i) % 26]).length + (SX.S (part.drop a)).length ≤ sizeLine
          rw [SX.S_cat, SX.S_len, SX.S_len, List.length_append, List.length_take, List.length_drop]
          exact Nat.le_trans (show _ ≤ 8 by simp only [List.length_cons, List.length_nil]; omega) (by decide)
        · rw [List.length_map, List.length_map, List.length_range]
          exact small1000 (by omega)
        · refine ⟨_, _, _, _, rfl, (s5.new hP nl).mut hP nf0, ?_⟩
          rw [upd_same, e1, e2, List.range_succ, List.map_append, List.map_append]
          have e3 : SX.S (part.take a) ++ SX.S [97 + (turn.toNat + 3 * i) % 26] ++ SX.S (part.drop a) = SX.S (nameL bs way.toNat turn.toNat size.toNat i) := by
            rw [SX.S_cat, SX.S_cat]
            unfold nameL
            rw [hpart, ← ea]
          show some (HO.lst (_ ++ [V.str (SX.S (part.take a) ++ SX.S [97 + (turn.toNat + 3 * i) % 26] ++ SX.S (part.drop a))])) = _
          rw [e3]
          rfl
      · rintro σ H5 ⟨v9, v10, v11, v12, rfl, s5, hf⟩
        refine ⟨_, rfl, q f ((List.range many.toNat).map (nameL bs way.toNat turn.toNat size.toNat)) H5 s5 nf0 hf ?_ ?_ ?_⟩
        · rw [List.length_map, List.length_range]
          omega
        · refine List.pairwise_map.mpr (List.Pairwise.imp_of_mem ?_ (List.nodup_range (n := many.toNat)))
          intro a b ha hb ne e
          have ha := List.mem_range.mp ha
          have hb := List.mem_range.mp hb
          exact ne (nameL_inj hl (by omega) (by omega) (by omega) e)
        · intro z hz
          obtain ⟨k, _, rfl⟩ := List.mem_map.mp hz
          exact nameL_house hl hc

/-! ### town -/
def HouseS (h : Str) : Prop := House h.cps.toList
theorem HouseS.ok {z : Str} (h : HouseS z) : PyData.strOk z = true := by
  obtain ⟨h1, h2, h3⟩ := h
  unfold PyData.strOk
  rw [← Array.all_toList, List.all_eq_true]
  intro c hc
  have := h3 c hc
  exact decide_eq_true (by omega)
theorem canLay_strs : ∀ {hs : List Str}, (∀ h ∈ hs, PyData.strOk h = true) → PyData.canLayAll0 (hs.map PyData.str) = true
  | [], _ => rfl
  | h :: r, a => by
    show (PyData.strOk h && PyData.canLayAll0 (r.map PyData.str)) = true
    rw [a h List.mem_cons_self, canLay_strs fun x hx => a x (List.mem_cons_of_mem _ hx)]
    rfl
theorem depth_strs : ∀ {hs : List Str}, PyData.depthAll (hs.map PyData.str) = 0
  | [] => rfl
  | h :: r => by
    show max 0 (PyData.depthAll (r.map PyData.str)) = 0
    rw [depth_strs]
    rfl
theorem shaped_strs {hs : List Str} (a : ∀ h ∈ hs, PyData.strOk h = true) : SeqAt.shaped (.list (hs.map PyData.str)) = true := by
  unfold SeqAt.shaped
  rw [Bool.and_eq_true, decide_eq_true_eq]
  refine ⟨canLay_strs a, ?_⟩
  show PyData.depthAll (hs.map PyData.str) + 1 ≤ 64
  rw [depth_strs]
  decide
theorem dp_strs {H : Hp} : ∀ hs : List Str, DpAll K H (hs.map V.str) (hs.map PyData.str)
  | [] => .nil
  | h :: r => .cons (.str h) (dp_strs r)
def TownAt (H : Hp) (t : Addr) (hs gs : List Str) : Prop := ∃ a b : Addr, H t = some (.tup [.ref a, .ref b]) ∧ H a = some (.tup (hs.map V.str)) ∧ H b = some (.tup (gs.map V.str))
theorem Stp.town {p c t : Addr} {H H' : Hp} {hs gs : List Str} (s : Stp p c H H') (h : Pen H p c) (ht : TownAt H t hs gs) : TownAt H' t hs gs := by
  obtain ⟨a, b, h1, h2, h3⟩ := ht
  exact ⟨a, b, s.tup h h1, s.tup h h2, s.tup h h3⟩
structure Good (hs gs : List Str) (most : Nat) : Prop where
  one : 1 ≤ hs.length
  few : hs.length ≤ most
  nd : hs.Nodup
  up : sortedS hs = true
  hou : ∀ h ∈ hs, HouseS h
  sub : gs.Sublist hs
def sp_l_town : Sp := fun vs H Q _ => ∃ (p c : Addr) (most : Nat), vs = [.ref p, .int most] ∧ Pen H p c ∧ 1 ≤ most ∧ most ≤ 6 ∧
  ∀ (t : Addr) (hs gs : List Str) (H' : Hp), Stp p c H H' → TownAt H' t hs gs → Good hs gs most → Q (.ref t) H'
theorem ok_l_town (T : Txt K mg af fd) : FnOk P w K mg base CX0 4 (af 12) (fd 12) ["pen", "most"] sp_l_town := by
  refine T.F_l_town.ok sc_l_town (fun vs H Q E h => ?_) (fun cdv A outer s H vs Q E hr h => ?_)
  · obtain ⟨p, c, most, rfl, _⟩ := h
    rfl
  · obtain ⟨p, c, most, rfl, hP, m1, m6, q⟩ := h
    refine ⟨_, (pss_cons (ps_set (i := 2) sc_l_town.nd rfl (by first | exact Or.inl rfl | exact Or.inr rfl) (pe_callB cr_sortedS (by rfl) T.m_sorted (by decide +kernel) (pa_cons (pe_call (ok_l_names T) (hr.mono (by decide)) (by rfl) T.g_l_names T.F_l_names.kp T.b_l_names .nil pass0 (pa_cons (pv 0) (pa_cons (pe_op op_add pe_int (pe_call (ok_l_take T) (hr.mono (by decide)) (by rfl) T.g_l_take T.F_l_take.kp T.b_l_take .nil pass0 (pa_cons (pv 0) (pa_cons (pv 1) pa_nil)))) pa_nil))) pa_nil)))
        (pss_cons (ps_setLc (i := 3) (own := [("house", 4)]) (g := gName 4) (by rfl) sc_l_town.nd rfl rfl (sw_true rfl rfl rfl (by decide +kernel)) (pi_list (pv 2)) (blkOk_by (own := [("house", 4)]) (N := ["pen", "most", "houses", "gates", "house"]) (sc := defScope s_l_town) (by decide +kernel)) (fun _ _ _ _ _ => pg_name (i := 4) sc_l_town.nd rfl (Or.inl rfl)) (fun _ _ _ _ _ => (pts_one (pt_cmpR op_gt (pe_call (ok_l_take T) (hr.mono (by decide)) (by rfl) T.g_l_take T.F_l_take.kp T.b_l_take .nil pass0 (pa_cons (pv 0) (pa_cons pe_int pa_nil))) pe_int (nomark _)))) (fun _ _ _ _ _ => (pv 4)))
        (C8.pss_cut (ps_if (PW.pt (pw_and (pt_cmpR (op_eqD hr.units) (pv 3) (pe_lst pa_nil) (nomark _)) (pw_and1 (pt_cmpR op_gt (pe_call (ok_l_take T) (hr.mono (by decide)) (by rfl) T.g_l_take T.F_l_take.kp T.b_l_take .nil pass0 (pa_cons (pv 0) (pa_cons pe_int pa_nil))) pe_int (nomark _))))) (pss_one (ps_set (i := 3) sc_l_town.nd rfl (by first | exact Or.inl rfl | exact Or.inr rfl) (pe_slice sl_list (pv 2) po_none (po_some pe_int)))) pss_nil)
        (pss_one (ps_ret (pe_tup (pa_cons (pe_callTy call_tuple_of (by rfl) T.m_tuple (by decide +kernel) (pa_cons (pv 2) pa_nil)) (pa_cons (pe_callTy call_tuple_of (by rfl) T.m_tuple (by decide +kernel) (pa_cons (pv 3) pa_nil)) pa_nil)))))))), ?_⟩
    refine ⟨_, rfl, _, rfl, _, rfl, p, c, most, rfl, hP, by omega, Nat.lt_of_le_of_lt (show _ ≤ 6 by omega) (by decide), fun r H1 r0 r1 s1 => ?_⟩
    refine ⟨_, _, rfl, rfl, p, c, _, rfl, s1.1, by omega, by omega, fun f zs H2 s2 nf hf hl nd hh => ?_⟩
    have s12 := s1.trans s2
    have hf' : H2 f = some (.lst ((zs.map SX.S).map V.str)) := by rw [hf, List.map_map]; rfl
    refine ⟨f, zs.map SX.S, rfl, SqL.of hf', by rw [List.length_map]; omega, fun hs d pm up nd1 => ?_⟩
    have hlen : hs.length = zs.length := by rw [pm.length_eq, List.length_map]
    have hnd : hs.Nodup := pm.nodup_iff.mpr (List.pairwise_map.mpr (nd.imp fun ne e => ne (SX.S_inj e)))
    have hho : ∀ h ∈ hs, HouseS h := fun h m => by
      obtain ⟨z, mz, rfl⟩ := List.mem_map.mp (pm.mem_iff.mp m)
      exact hh z mz
    have nd0 : H d = none := s12.back hP nd1
    have s3 : Stp p c H (upd H2 d (.lst (hs.map V.str))) := s12.mut hP nd0
    -- gates
    refine ⟨_, rfl, d, rfl, ⟨_, SqL.of upd_same⟩, fun D nD => ?_⟩
    have nD0 : H D = none := s3.back hP nD
    have hdD : d ≠ D := fun e => by
      rw [← e, upd_same] at nD
      cases nD
    refine lc_list (K := K) (a := d) (xs := hs.map V.str) (fun i H' => Stp p c H H' ∧ H' d = some (.lst (hs.map V.str)) ∧ ∃ gs : List Str, H' D = some (.lst (gs.map V.str)) ∧ gs.Sublist (hs.take i))
      ⟨s3.mut hP nD0, by rw [upd_ne hdD, upd_same], [], upd_same, List.nil_sublist _⟩ (fun i H' _ h => SqL.of h.2.1) ?_ ?_
    · rintro i x H3 hx ⟨s4, hd, gs, hD, hg⟩
      rw [List.getElem?_map] at hx
      obtain ⟨h, hh, rfl⟩ := Option.map_eq_some_iff.mp hx
      have etake : hs.take (i + 1) = hs.take i ++ [h] := by rw [List.take_add_one, hh]; rfl
      refine ⟨rfl, _, rfl, p, c, 3, rfl, s4.1, by decide, by decide, fun r H4 r0 r1 s5 => ?_⟩
      have hd4 : H4 d = some (.lst (hs.map V.str)) := s5.2 d _ (fun e => hP.neP nd0 e.symm) hd
      have hD4 : H4 D = some (.lst (gs.map V.str)) := s5.2 D _ (fun e => hP.neP nD0 e.symm) hD
      refine ⟨_, _, rfl, rfl, _, rfl, ite2 (fun e => ?_) (fun e => ?_)⟩
      · refine ⟨_, rfl, _, hD4, ?_, (s4.trans s5).mut hP nD0, by rw [upd_ne hdD]; exact hd4, gs ++ [h], ?_, ?_⟩
        · rw [List.length_map]
          exact small1000 (Nat.le_trans (hg.length_le) (by rw [List.length_take]; omega))
        · rw [upd_same, List.map_append]
          rfl
        · rw [etake]
          exact hg.append (List.Sublist.refl _)
      · refine ⟨s4.trans s5, hd4, gs, hD4, ?_⟩
        rw [etake]
        exact hg.trans (List.sublist_append_left _ _)
    · rintro H3 ⟨s4, hd, gs, hD, hg⟩
      rw [List.length_map, List.take_length] at hg
      have hgo : ∀ h ∈ gs, PyData.strOk h = true := fun h m => (hho h (hg.subset m)).ok
      refine ⟨fun σ' H' => ∃ (g : Addr) (gs : List Str), σ' = [some (.ref p), some (.int most), some (.ref d), some (.ref g), none] ∧ Stp p c H H' ∧ H' d = some (.lst (hs.map V.str)) ∧ H' g = some (.lst (gs.map V.str)) ∧ gs.Sublist hs, ?_, ?_⟩
      · refine ⟨_, rfl, Nat.zero_le _, fun e ne => ?_⟩
        have s5 : Stp p c H (upd H3 e (.lst [])) := s4.new hP ne
        have hd5 : (upd H3 e (.lst [])) d = some (.lst (hs.map V.str)) := by rw [upd_ne (ne_of_none hd ne)]; exact hd
        have hD5 : (upd H3 e (.lst [])) D = some (.lst (gs.map V.str)) := by rw [upd_ne (ne_of_none hD ne)]; exact hD
        refine ⟨.list (gs.map PyData.str), .list [], Dp.lst (SqL.of hD5) (dp_strs gs), Dp.lst (SqL.of upd_same) .nil, shaped_strs hgo, rfl, _, rfl, ite2 (fun e => ?_) (fun e => ?_)⟩
        · refine ⟨_, rfl, p, c, 4, rfl, s5.1, by decide, by decide, fun r H4 r0 r1 s6 => ?_⟩
          have hd6 : H4 d = some (.lst (hs.map V.str)) := s6.2 d _ (fun e => hP.neP nd0 e.symm) hd5
          have hD6 : H4 D = some (.lst (gs.map V.str)) := s6.2 D _ (fun e => hP.neP nD0 e.symm) hD5
          refine ⟨_, _, rfl, rfl, _, rfl, ite2 (fun e => ?_) (fun e => ?_)⟩
          · refine ⟨_, rfl, 1, rfl, d, _, rfl, SqL.of hd6, fun g ng => ⟨g, hs.take 1, rfl, (s5.trans s6).new hP ng, ?_, ?_, List.take_sublist _ _⟩⟩
            · rw [upd_ne (ne_of_none hd6 ng)]
              exact hd6
            · rw [upd_same]
              have e := cut_to (hs.map V.str) 1
              rw [show ((1 : Nat) : Int) = 1 from rfl] at e
              rw [e, List.map_take]
          · exact ⟨D, gs, rfl, s5.trans s6, hd6, hD6, hg⟩
        · exact ⟨D, gs, rfl, s5, hd5, hD5, hg⟩
      · rintro σ' H' ⟨g, gs, rfl, s5, hd, hg, hsub⟩
        refine ⟨_, rfl, d, _, rfl, .inl ⟨SqL.of hd, fun a na => ?_⟩⟩
        have hg1 : (upd H' a (.tup (hs.map V.str))) g = some (.lst (gs.map V.str)) := by rw [upd_ne (ne_of_none hg na)]; exact hg
        refine ⟨_, rfl, g, _, rfl, .inl ⟨SqL.of hg1, fun b nb => ?_⟩⟩
        have s6 : Stp p c H (upd H' a (.tup (hs.map V.str))) := s5.new hP na
        have s7 := s6.new (o := .tup (gs.map V.str)) hP nb
        have hab : a ≠ b := fun e => by
          rw [← e, upd_same] at nb
          cases nb
        refine ⟨(by show 2 ≤ sizeLine; decide), fun t nt => ?_⟩
        have hta : a ≠ t := fun e => by
          rw [← e, upd_ne hab, upd_same] at nt
          cases nt
        have htb : b ≠ t := fun e => by
          rw [← e, upd_same] at nt
          cases nt
        refine q t hs gs _ (s7.new hP nt) ⟨a, b, upd_same, ?_, ?_⟩ ⟨?_, ?_, hnd, up, hho, hsub⟩
        · rw [upd_ne hta, upd_ne hab, upd_same]
        · rw [upd_ne htb, upd_same]
        · omega
        · omega

/-! ### number -/
def sp_l_number : Sp := fun vs H Q _ => ∃ (p c : Addr), vs = [.ref p] ∧ Pen H p c ∧ ∀ (r : Int) (H' : Hp), 0 ≤ r → r ≤ 14 → Stp p c H H' → Q (.int r) H'
theorem ok_l_number (T : Txt K mg af fd) : FnOk P w K mg base CX0 3 (af 14) (fd 14) ["pen"] sp_l_number := by
  refine T.F_l_number.ok sc_l_number (fun vs H Q E h => ?_) (fun cdv A outer s H vs Q E hr h => ?_)
  · obtain ⟨p, c, rfl, _⟩ := h
    rfl
  · obtain ⟨p, c, rfl, hP, q⟩ := h
    refine ⟨_, (pss_one (ps_ret (pe_ix ix_list (pe_lst (pa_cons pe_int (pa_cons pe_int (pa_cons (pe_call (ok_l_take T) (hr.mono (by decide)) (by rfl) T.g_l_take T.F_l_take.kp T.b_l_take .nil pass0 (pa_cons (pv 0) (pa_cons pe_int pa_nil))) pa_nil)))) (pe_call (ok_l_take T) (hr.mono (by decide)) (by rfl) T.g_l_take T.F_l_take.kp T.b_l_take .nil pass0 (pa_cons (pv 0) (pa_cons pe_int pa_nil))) (fun _ _ => rfl)))), ?_⟩
    refine ⟨_, rfl, p, c, 15, rfl, hP, by decide, by decide, fun r H1 r0 r1 s1 => ?_⟩
    refine ⟨(by show 3 ≤ sizeLine; decide), fun l nl => ?_⟩
    have s2 := s1.new (o := .lst [.int 0, .int 14, .int r]) hP nl
    refine ⟨_, rfl, p, c, 3, rfl, s2.1, by decide, by decide, fun i H2 i0 i1 s3 => ?_⟩
    have hl : H2 l = some (.lst [.int 0, .int 14, .int r]) := s3.2 l _ (fun e => hP.neP (s1.back hP nl) e.symm) upd_same
    have hi : i = 0 ∨ i = 1 ∨ i = 2 := by omega
    rcases hi with e | e | e
    · subst e
      exact ⟨l, _, 0, _, rfl, rfl, SqL.of hl, rfl, q 0 _ (by decide) (by decide) (s2.trans s3)⟩
    · subst e
      exact ⟨l, _, 1, _, rfl, rfl, SqL.of hl, rfl, q 14 _ (by decide) (by decide) (s2.trans s3)⟩
    · subst e
      exact ⟨l, _, 2, _, rfl, rfl, SqL.of hl, rfl, q r _ r0 (by omega) (s2.trans s3)⟩
/-! ### two times -/
def TimeI (a : Int) : Prop := -1000000000000 ≤ a ∧ a ≤ 1000000000000
def sp_l_two_times : Sp := fun vs H Q _ => ∃ (p c : Addr), vs = [.ref p] ∧ Pen H p c ∧ ∀ (l : Addr) (a b : Int) (H' : Hp), TimeI a → TimeI b → a ≤ b → Stp p c H H' → H' l = some (.lst [.int a, .int b]) → Q (.ref l) H'
theorem ok_l_two_times (T : Txt K mg af fd) : FnOk P w K mg base CX0 3 (af 15) (fd 15) ["pen"] sp_l_two_times := by
  refine T.F_l_two_times.ok sc_l_two_times (fun vs H Q E h => ?_) (fun cdv A outer s H vs Q E hr h => ?_)
  · obtain ⟨p, c, rfl, _⟩ := h
    rfl
  · obtain ⟨p, c, rfl, hP, q⟩ := h
    refine ⟨_, (pss_cons (ps_set (i := 1) sc_l_two_times.nd rfl (by first | exact Or.inl rfl | exact Or.inr rfl) (pe_lst (pa_cons (pe_op op_sub (pe_call (ok_l_take T) (hr.mono (by decide)) (by rfl) T.g_l_take T.F_l_take.kp T.b_l_take .nil pass0 (pa_cons (pv 0) (pa_cons (pe_op op_add (pe_op op_mul pe_int (pe_op op_pow pe_int pe_int)) pe_int) pa_nil))) (pe_op op_pow pe_int pe_int)) (pa_cons (pe_call (ok_l_take T) (hr.mono (by decide)) (by rfl) T.g_l_take T.F_l_take.kp T.b_l_take .nil pass0 (pa_cons (pv 0) (pa_cons pe_int pa_nil))) (pa_cons (pe_op op_pow pe_int pe_int) (pa_cons (pe_op op_sub pe_int (pe_op op_pow pe_int pe_int)) pa_nil))))))
        (pss_one (ps_ret (pe_callB cr_sorted (by rfl) T.m_sorted (by decide +kernel) (pa_cons (pe_lst (pa_cons (pe_ix ix_list (pv 1) (pe_call (ok_l_take T) (hr.mono (by decide)) (by rfl) T.g_l_take T.F_l_take.kp T.b_l_take .nil pass0 (pa_cons (pv 0) (pa_cons pe_int pa_nil))) (fun _ _ => rfl)) (pa_cons (pe_ix ix_list (pv 1) (pe_call (ok_l_take T) (hr.mono (by decide)) (by rfl) T.g_l_take T.F_l_take.kp T.b_l_take .nil pass0 (pa_cons (pv 0) (pa_cons pe_int pa_nil))) (fun _ _ => rfl)) pa_nil))) pa_nil))))), ?_⟩
    have e12 : (10 : Int) ^ (12 : Int).toNat = 1000000000000 := by decide
    refine ⟨_, rfl, _, _, rfl, rfl, ⟨by decide, by decide, by decide⟩, _, _, rfl, rfl, .inl ⟨by decide, by decide⟩, _, _, rfl, rfl, p, c, _, rfl, hP, by decide, by decide, fun r H1 r0 r1 s1 => ?_⟩
    refine ⟨_, _, rfl, rfl, ⟨by decide, by decide, by decide⟩, _, _, rfl, rfl, ?_⟩
    refine ⟨_, rfl, p, c, 9, rfl, s1.1, by decide, by decide, fun r2 H2 r20 r21 s2 => ?_⟩
    refine ⟨_, _, rfl, rfl, ⟨by decide, by decide, by decide⟩, _, _, rfl, rfl, ⟨by decide, by decide, by decide⟩, _, _, rfl, rfl, (by show 4 ≤ sizeLine; decide), fun l nl => ?_⟩
    rw [e12] at r1 ⊢
    have s12 := s1.trans s2
    have nl0 := s12.back hP nl
    have s3 := s12.new (o := .lst [.int (r - 1000000000000), .int r2, .int 1000000000000, .int (0 - 1000000000000)]) hP nl
    have pick : ∀ i : Int, 0 ≤ i → i < 4 → ∃ v : Int, atI [V.int (r - 1000000000000), .int r2, .int 1000000000000, .int (0 - 1000000000000)] i = some (.int v) ∧ TimeI v := by
      intro i i0 i1
      have hi : i = 0 ∨ i = 1 ∨ i = 2 ∨ i = 3 := by omega
      rcases hi with e | e | e | e
      · subst e
        exact ⟨_, rfl, by unfold TimeI; omega⟩
      · subst e
        exact ⟨_, rfl, by unfold TimeI; omega⟩
      · subst e
        exact ⟨_, rfl, by unfold TimeI; omega⟩
      · subst e
        exact ⟨_, rfl, by unfold TimeI; omega⟩
    refine ⟨_, rfl, _, rfl, p, c, 4, rfl, s3.1, by decide, by decide, fun i H4 i0 i1 s4 => ?_⟩
    have hl4 := s4.2 l _ (fun e => hP.neP nl0 e.symm) upd_same
    obtain ⟨v, hv, tv⟩ := pick i i0 i1
    refine ⟨l, _, i, _, rfl, rfl, SqL.of hl4, hv, ?_⟩
    refine ⟨_, rfl, _, rfl, p, c, 4, rfl, s4.1, by decide, by decide, fun j H5 j0 j1 s5 => ?_⟩
    have hl5 := s5.2 l _ (fun e => hP.neP nl0 e.symm) hl4
    obtain ⟨u, hu, tu⟩ := pick j j0 j1
    refine ⟨l, _, j, _, rfl, rfl, SqL.of hl5, hu, (by show 2 ≤ sizeLine; decide), fun m nm => ?_⟩
    have s6 := ((s3.trans s4).trans s5).new (o := .lst [.int v, .int u]) hP nm
    refine ⟨m, [v, u], rfl, SqL.of upd_same, (by show 2 < 64; decide), fun ns d pm up nd => ?_⟩
    have s7 := s6.new (o := .lst (ns.map V.int)) hP nd
    match ns, pm.length_eq, up, pm with
    | [a, b], _, up, pm =>
      have ab : a ≤ b := (List.pairwise_cons.mp up).1 b (List.mem_singleton.mpr rfl)
      have ta : TimeI a := by
        have := pm.mem_iff.mp (List.mem_cons_self (a := a) (l := [b]))
        simp only [List.mem_cons, List.not_mem_nil, or_false] at this
        rcases this with e | e <;> subst e <;> assumption
      have tb : TimeI b := by
        have := pm.mem_iff.mp (List.mem_cons_of_mem a (List.mem_singleton.mpr (rfl : b = b)))
        simp only [List.mem_cons, List.not_mem_nil, or_false] at this
        rcases this with e | e <;> subst e <;> assumption
      exact q d a b _ ta tb ab s7 upd_same
/-! ### rows -/
inductive RowV (hs : List Str) : List V → Prop
  | ask (h g : Str) (k n o b : Int) : h ∈ hs → g ∈ hs → 0 ≤ k → k ≤ 14 → 0 ≤ n → n ≤ 14 → TimeI o → TimeI b → o ≤ b → RowV hs [.str "ask", .str h, .int k, .int n, .str g, .int o, .int b]
  | job (h : Str) (k o b : Int) : h ∈ hs → 0 ≤ k → k ≤ 14 → TimeI o → TimeI b → o ≤ b → RowV hs [.str "job", .str h, .int k, .int o, .int b]
  | all (h : Str) (a j : Int) : h ∈ hs → 0 ≤ a → a ≤ 15 → 0 ≤ j → j ≤ 15 → RowV hs [.str "all", .str h, .int a, .int j]
def sp_row (K : PySem.W.Frag) : Sp := fun vs H Q _ => ∃ (p c t : Addr) (hs gs : List Str), vs = [.ref p, .ref t] ∧ Pen H p c ∧ TownAt H t hs gs ∧ 1 ≤ hs.length ∧ hs.length ≤ 6 ∧
  ∀ (r : Addr) (xs : List V) (H' : Hp), Stp p c H H' → H r = none → H' r = some (.tup xs) → RowV hs xs → Q (.ref r) H'
theorem pick_house {hs : List Str} {r : Int} (h0 : 0 ≤ r) (h1 : r < (hs.map V.str).length) : ∃ h, h ∈ hs ∧ atI (hs.map V.str) r = some (.str h) := by
  rw [List.length_map] at h1
  have hlt : r.toNat < hs.length := by omega
  refine ⟨hs[r.toNat], List.getElem_mem hlt, at_any (j := r.toNat) (by omega) ?_⟩
  rw [List.getElem?_map, List.getElem?_eq_getElem hlt]
  rfl
theorem ok_l_any_row (T : Txt K mg af fd) : FnOk P w K mg base CX0 4 (af 16) (fd 16) ["pen", "town"] (sp_row K) := by
  refine T.F_l_any_row.ok sc_l_any_row (fun vs H Q E h => ?_) (fun cdv A outer s H vs Q E hr h => ?_)
  · obtain ⟨p, c, t, hs, gs, rfl, _⟩ := h
    rfl
  · obtain ⟨p, c, t, hs, gs, rfl, hP, ⟨a, b, t1, t2, t3⟩, l1, l6, q⟩ := h
    refine ⟨_, (pss_cons (ps_set (i := 2) sc_l_any_row.nd rfl (by first | exact Or.inl rfl | exact Or.inr rfl) (pe_ix ix_tup (pe_ix ix_tup (pv 1) pe_int (fun _ _ => rfl)) (pe_call (ok_l_take T) (hr.mono (by decide)) (by rfl) T.g_l_take T.F_l_take.kp T.b_l_take .nil pass0 (pa_cons (pv 0) (pa_cons (pe_callB call_len_seq (by rfl) T.m_len (by decide +kernel) (pa_cons (pe_ix ix_tup (pv 1) pe_int (fun _ _ => rfl)) pa_nil)) pa_nil))) (fun _ _ => rfl)))
        (pss_cons (ps_set (i := 3) sc_l_any_row.nd rfl (by first | exact Or.inl rfl | exact Or.inr rfl) (pe_call (ok_l_take T) (hr.mono (by decide)) (by rfl) T.g_l_take T.F_l_take.kp T.b_l_take .nil pass0 (pa_cons (pv 0) (pa_cons pe_int pa_nil))))
        (pss_cons (ps_asg (pe_call (ok_l_two_times T) (hr.mono (by decide)) (by rfl) T.g_l_two_times T.F_l_two_times.kp T.b_l_two_times .nil pass0 (pa_cons (pv 0) pa_nil)) (pg_unl rfl (pgs_cons (pg_name (i := 4) sc_l_any_row.nd rfl (by first | exact Or.inl rfl | exact Or.inr rfl)) (pgs_cons (pg_name (i := 5) sc_l_any_row.nd rfl (by first | exact Or.inl rfl | exact Or.inr rfl)) pgs_nil))))
        (pss_cons (ps_if (pt_cmpR op_eq (pv 3) pe_int (nomark _)) (pss_cons (ps_set (i := 6) sc_l_any_row.nd rfl (by first | exact Or.inl rfl | exact Or.inr rfl) (pe_ix ix_tup (pe_ix ix_tup (pv 1) pe_int (fun _ _ => rfl)) (pe_call (ok_l_take T) (hr.mono (by decide)) (by rfl) T.g_l_take T.F_l_take.kp T.b_l_take .nil pass0 (pa_cons (pv 0) (pa_cons (pe_callB call_len_seq (by rfl) T.m_len (by decide +kernel) (pa_cons (pe_ix ix_tup (pv 1) pe_int (fun _ _ => rfl)) pa_nil)) pa_nil))) (fun _ _ => rfl)))
        (pss_one (ps_ret (pe_tup (pa_cons pe_str (pa_cons (pv 2) (pa_cons (pe_call (ok_l_number T) (hr.mono (by decide)) (by rfl) T.g_l_number T.F_l_number.kp T.b_l_number .nil pass0 (pa_cons (pv 0) pa_nil)) (pa_cons (pe_call (ok_l_number T) (hr.mono (by decide)) (by rfl) T.g_l_number T.F_l_number.kp T.b_l_number .nil pass0 (pa_cons (pv 0) pa_nil)) (pa_cons (pv 6) (pa_cons (pv 4) (pa_cons (pv 5) pa_nil))))))))))) pss_nil)
        (pss_cons (ps_if (pt_cmpR op_eq (pv 3) pe_int (nomark _)) (pss_one (ps_ret (pe_tup (pa_cons pe_str (pa_cons (pv 2) (pa_cons (pe_call (ok_l_number T) (hr.mono (by decide)) (by rfl) T.g_l_number T.F_l_number.kp T.b_l_number .nil pass0 (pa_cons (pv 0) pa_nil)) (pa_cons (pv 4) (pa_cons (pv 5) pa_nil)))))))) pss_nil)
        (pss_one (ps_ret (pe_tup (pa_cons pe_str (pa_cons (pv 2) (pa_cons (pe_op op_add (pe_call (ok_l_number T) (hr.mono (by decide)) (by rfl) T.g_l_number T.F_l_number.kp T.b_l_number .nil pass0 (pa_cons (pv 0) pa_nil)) (pe_call (ok_l_take T) (hr.mono (by decide)) (by rfl) T.g_l_take T.F_l_take.kp T.b_l_take .nil pass0 (pa_cons (pv 0) (pa_cons pe_int pa_nil)))) (pa_cons (pe_op op_add (pe_call (ok_l_number T) (hr.mono (by decide)) (by rfl) T.g_l_number T.F_l_number.kp T.b_l_number .nil pass0 (pa_cons (pv 0) pa_nil)) (pe_call (ok_l_take T) (hr.mono (by decide)) (by rfl) T.g_l_take T.F_l_take.kp T.b_l_take .nil pass0 (pa_cons (pv 0) (pa_cons pe_int pa_nil)))) pa_nil)))))))))))), ?_⟩
    have lb : 0 < ((hs.map V.str).length : Int) := by rw [List.length_map]; omega
    have lc : ((hs.map V.str).length : Int).natAbs < 2 ^ 100 := by
      rw [List.length_map]
      exact Nat.lt_of_le_of_lt (show _ ≤ 6 by omega) (by decide)
    refine ⟨_, rfl, t, _, 0, _, rfl, rfl, SqT.of t1, rfl, _, rfl, _, rfl, t, _, 0, _, rfl, rfl, SqT.of t1, rfl, a, _, rfl, .inr (SqT.of t2), p, c, _, rfl, hP, lb, lc, fun r H1 r0 r1 s1 => ?_⟩
    obtain ⟨h, mh, eh⟩ := pick_house r0 r1
    refine ⟨a, _, r, _, rfl, rfl, SqT.of (s1.tup hP t2), eh, ?_⟩
    refine ⟨_, rfl, p, c, 3, rfl, s1.1, by decide, by decide, fun way H2 w0 w1 s2 => ?_⟩
    refine ⟨_, rfl, p, c, rfl, s2.1, fun l o e H3 to te oe s3 hl => ?_⟩
    refine ⟨l, _, rfl, SqL.of hl, rfl, _, _, rfl, _, _, rfl, rfl, ?_⟩
    have s123 := (s1.trans s2).trans s3
    have u1 := s123.tup hP t1
    have u2 := s123.tup hP t2
    refine ⟨_, rfl, rfl, _, rfl, ite2 (fun ew => ?_) (fun ew => ?_)⟩
    · refine ⟨_, rfl, t, _, 0, _, rfl, rfl, SqT.of u1, rfl, _, rfl, _, rfl, t, _, 0, _, rfl, rfl, SqT.of u1, rfl, a, _, rfl, .inr (SqT.of u2), p, c, _, rfl, s123.1, lb, lc, fun r2 H4 r20 r21 s4 => ?_⟩
      obtain ⟨g, mg2, eg⟩ := pick_house r20 r21
      have s14 := s123.trans s4
      refine ⟨a, _, r2, _, rfl, rfl, SqT.of (s14.tup hP t2), eg, ?_⟩
      refine ⟨_, rfl, _, rfl, p, c, rfl, s14.1, fun k H5 k0 k1 s5 => ?_⟩
      refine ⟨_, rfl, p, c, rfl, s5.1, fun n H6 n0 n1 s6 => ?_⟩
      have s16 := (s14.trans s5).trans s6
      refine ⟨_, rfl, _, rfl, _, rfl, (by show 7 ≤ sizeLine; decide), fun rr nr => ?_⟩
      exact q rr _ _ (s16.new hP nr) (s16.back hP nr) upd_same (.ask h g k n o e mh mg2 k0 k1 n0 n1 to te oe)
    · refine ⟨_, rfl, rfl, _, rfl, ite2 (fun ew => ?_) (fun ew => ?_)⟩
      · refine ⟨_, rfl, _, rfl, p, c, rfl, s123.1, fun k H5 k0 k1 s5 => ?_⟩
        have s15 := s123.trans s5
        refine ⟨_, rfl, _, rfl, (by show 5 ≤ sizeLine; decide), fun rr nr => ?_⟩
        exact q rr _ _ (s15.new hP nr) (s15.back hP nr) upd_same (.job h k o e mh k0 k1 to te oe)
      · refine ⟨_, rfl, _, rfl, p, c, rfl, s123.1, fun k H5 k0 k1 s5 => ?_⟩
        refine ⟨_, rfl, p, c, 2, rfl, s5.1, by decide, by decide, fun x H6 x0 x1 s6 => ?_⟩
        refine ⟨_, _, rfl, rfl, _, rfl, p, c, rfl, s6.1, fun n H7 n0 n1 s7 => ?_⟩
        refine ⟨_, rfl, p, c, 2, rfl, s7.1, by decide, by decide, fun y H8 y0 y1 s8 => ?_⟩
        have s18 := (((s123.trans s5).trans s6).trans s7).trans s8
        refine ⟨_, _, rfl, rfl, (by show 4 ≤ sizeLine; decide), fun rr nr => ?_⟩
        exact q rr _ _ (s18.new hP nr) (s18.back hP nr) upd_same (.all h (k + x) (n + y) mh (by omega) (by omega) (by omega) (by omega))

theorem ok_l_few_row (T : Txt K mg af fd) : FnOk P w K mg base CX0 3 (af 17) (fd 17) ["pen", "town"] (sp_row K) := by
  refine T.F_l_few_row.ok sc_l_few_row (fun vs H Q E h => ?_) (fun cdv A outer s H vs Q E hr h => ?_)
  · obtain ⟨p, c, t, hs, gs, rfl, _⟩ := h
    rfl
  · obtain ⟨p, c, t, hs, gs, rfl, hP, ⟨a, b, t1, t2, t3⟩, l1, l6, q⟩ := h
    refine ⟨_, (pss_cons (ps_set (i := 2) sc_l_few_row.nd rfl (by first | exact Or.inl rfl | exact Or.inr rfl) (pe_ix ix_tup (pe_ix ix_tup (pv 1) pe_int (fun _ _ => rfl)) (pe_call (ok_l_take T) (hr.mono (by decide)) (by rfl) T.g_l_take T.F_l_take.kp T.b_l_take .nil pass0 (pa_cons (pv 0) (pa_cons (pe_callB call_len_seq (by rfl) T.m_len (by decide +kernel) (pa_cons (pe_ix ix_tup (pv 1) pe_int (fun _ _ => rfl)) pa_nil)) pa_nil))) (fun _ _ => rfl)))
        (pss_cons (ps_set (i := 3) sc_l_few_row.nd rfl (by first | exact Or.inl rfl | exact Or.inr rfl) (pe_call (ok_l_take T) (hr.mono (by decide)) (by rfl) T.g_l_take T.F_l_take.kp T.b_l_take .nil pass0 (pa_cons (pv 0) (pa_cons pe_int pa_nil))))
        (pss_cons (ps_set (i := 4) sc_l_few_row.nd rfl (by first | exact Or.inl rfl | exact Or.inr rfl) (pe_call (ok_l_take T) (hr.mono (by decide)) (by rfl) T.g_l_take T.F_l_take.kp T.b_l_take .nil pass0 (pa_cons (pv 0) (pa_cons pe_int pa_nil))))
        (pss_cons (ps_set (i := 5) sc_l_few_row.nd rfl (by first | exact Or.inl rfl | exact Or.inr rfl) (pe_op op_add (pv 4) (pe_call (ok_l_take T) (hr.mono (by decide)) (by rfl) T.g_l_take T.F_l_take.kp T.b_l_take .nil pass0 (pa_cons (pv 0) (pa_cons pe_int pa_nil)))))
        (pss_cons (ps_if (pt_cmpR op_lt (pv 3) pe_int (nomark _)) (pss_cons (ps_set (i := 6) sc_l_few_row.nd rfl (by first | exact Or.inl rfl | exact Or.inr rfl) (pe_ix ix_tup (pe_ix ix_tup (pv 1) pe_int (fun _ _ => rfl)) (pe_call (ok_l_take T) (hr.mono (by decide)) (by rfl) T.g_l_take T.F_l_take.kp T.b_l_take .nil pass0 (pa_cons (pv 0) (pa_cons (pe_callB call_len_seq (by rfl) T.m_len (by decide +kernel) (pa_cons (pe_ix ix_tup (pv 1) pe_int (fun _ _ => rfl)) pa_nil)) pa_nil))) (fun _ _ => rfl)))
        (pss_one (ps_ret (pe_tup (pa_cons pe_str (pa_cons (pv 2) (pa_cons (pe_call (ok_l_take T) (hr.mono (by decide)) (by rfl) T.g_l_take T.F_l_take.kp T.b_l_take .nil pass0 (pa_cons (pv 0) (pa_cons pe_int pa_nil))) (pa_cons (pe_call (ok_l_take T) (hr.mono (by decide)) (by rfl) T.g_l_take T.F_l_take.kp T.b_l_take .nil pass0 (pa_cons (pv 0) (pa_cons pe_int pa_nil))) (pa_cons (pv 6) (pa_cons (pv 4) (pa_cons (pv 5) pa_nil))))))))))) pss_nil)
        (pss_cons (ps_if (pt_cmpR op_lt (pv 3) pe_int (nomark _)) (pss_one (ps_ret (pe_tup (pa_cons pe_str (pa_cons (pv 2) (pa_cons (pe_call (ok_l_take T) (hr.mono (by decide)) (by rfl) T.g_l_take T.F_l_take.kp T.b_l_take .nil pass0 (pa_cons (pv 0) (pa_cons pe_int pa_nil))) (pa_cons (pv 4) (pa_cons (pv 5) pa_nil)))))))) pss_nil)
        (pss_one (ps_ret (pe_tup (pa_cons pe_str (pa_cons (pv 2) (pa_cons (pe_call (ok_l_take T) (hr.mono (by decide)) (by rfl) T.g_l_take T.F_l_take.kp T.b_l_take .nil pass0 (pa_cons (pv 0) (pa_cons pe_int pa_nil))) (pa_cons (pe_call (ok_l_take T) (hr.mono (by decide)) (by rfl) T.g_l_take T.F_l_take.kp T.b_l_take .nil pass0 (pa_cons (pv 0) (pa_cons pe_int pa_nil))) pa_nil))))))))))))), ?_⟩
    have lb : 0 < ((hs.map V.str).length : Int) := by rw [List.length_map]; omega
    have lc : ((hs.map V.str).length : Int).natAbs < 2 ^ 100 := by
      rw [List.length_map]
      exact Nat.lt_of_le_of_lt (show _ ≤ 6 by omega) (by decide)
    refine ⟨_, rfl, t, _, 0, _, rfl, rfl, SqT.of t1, rfl, _, rfl, _, rfl, t, _, 0, _, rfl, rfl, SqT.of t1, rfl, a, _, rfl, .inr (SqT.of t2), p, c, _, rfl, hP, lb, lc, fun r H1 r0 r1 s1 => ?_⟩
    obtain ⟨h, mh, eh⟩ := pick_house r0 r1
    refine ⟨a, _, r, _, rfl, rfl, SqT.of (s1.tup hP t2), eh, ?_⟩
    refine ⟨_, rfl, p, c, 7, rfl, s1.1, by decide, by decide, fun way H2 w0 w1 s2 => ?_⟩
    refine ⟨_, rfl, p, c, 6, rfl, s2.1, by decide, by decide, fun o H3 o0 o1 s3 => ?_⟩
    refine ⟨_, rfl, _, rfl, p, c, 4, rfl, s3.1, by decide, by decide, fun y H4 y0 y1 s4 => ?_⟩
    refine ⟨_, _, rfl, rfl, ?_⟩
    have s123 := ((s1.trans s2).trans s3).trans s4
    have u1 := s123.tup hP t1
    have u2 := s123.tup hP t2
    have to : TimeI o := by unfold TimeI; omega
    have te : TimeI (o + y) := by unfold TimeI; omega
    have oe : o ≤ o + y := by omega
    refine ⟨_, rfl, _, _, rfl, rfl, _, rfl, ite2 (fun ew => ?_) (fun ew => ?_)⟩
    · refine ⟨_, rfl, t, _, 0, _, rfl, rfl, SqT.of u1, rfl, _, rfl, _, rfl, t, _, 0, _, rfl, rfl, SqT.of u1, rfl, a, _, rfl, .inr (SqT.of u2), p, c, _, rfl, s123.1, lb, lc, fun r2 H4 r20 r21 s4 => ?_⟩
      obtain ⟨g, mg2, eg⟩ := pick_house r20 r21
      have s14 := s123.trans s4
      refine ⟨a, _, r2, _, rfl, rfl, SqT.of (s14.tup hP t2), eg, ?_⟩
      refine ⟨_, rfl, _, rfl, p, c, 3, rfl, s14.1, by decide, by decide, fun k H5 k0 k1 s5 => ?_⟩
      refine ⟨_, rfl, p, c, 3, rfl, s5.1, by decide, by decide, fun n H6 n0 n1 s6 => ?_⟩
      have s16 := (s14.trans s5).trans s6
      refine ⟨_, rfl, _, rfl, _, rfl, (by show 7 ≤ sizeLine; decide), fun rr nr => ?_⟩
      exact q rr _ _ (s16.new hP nr) (s16.back hP nr) upd_same (.ask h g k n o (o + y) mh mg2 k0 (by omega) n0 (by omega) to te oe)
    · refine ⟨_, rfl, _, _, rfl, rfl, _, rfl, ite2 (fun ew => ?_) (fun ew => ?_)⟩
      · refine ⟨_, rfl, _, rfl, p, c, 3, rfl, s123.1, by decide, by decide, fun k H5 k0 k1 s5 => ?_⟩
        have s15 := s123.trans s5
        refine ⟨_, rfl, _, rfl, (by show 5 ≤ sizeLine; decide), fun rr nr => ?_⟩
        exact q rr _ _ (s15.new hP nr) (s15.back hP nr) upd_same (.job h k o (o + y) mh k0 (by omega) to te oe)
      · refine ⟨_, rfl, _, rfl, p, c, 5, rfl, s123.1, by decide, by decide, fun k H5 k0 k1 s5 => ?_⟩
        refine ⟨_, rfl, p, c, 5, rfl, s5.1, by decide, by decide, fun n H7 n0 n1 s7 => ?_⟩
        have s18 := (s123.trans s5).trans s7
        refine ⟨(by show 4 ≤ sizeLine; decide), fun rr nr => ?_⟩
        exact q rr _ _ (s18.new hP nr) (s18.back hP nr) upd_same (.all h k n mh k0 (by omega) n0 (by omega))

/-! ### rows as data, and which clash (point 6) -/
inductive Row where
  | ask (h g : Str) (k n o b : Int)
  | job (h : Str) (k o b : Int)
  | all (h : Str) (a j : Int)
  deriving DecidableEq
def Row.data : Row → List PyData
  | .ask h g k n o b => [.str "ask", .str h, .int k, .int n, .str g, .int o, .int b]
  | .job h k o b => [.str "job", .str h, .int k, .int o, .int b]
  | .all h a j => [.str "all", .str h, .int a, .int j]
def Row.vals (r : Row) : List V := r.data.map Fl.dV
def Row.h : Row → Str
  | .ask h _ _ _ _ _ => h
  | .job h _ _ _ => h
  | .all h _ _ => h
def Row.word : Row → Str
  | .ask _ _ _ _ _ _ => "ask"
  | .job _ _ _ _ => "job"
  | .all _ _ _ => "all"
def NumI (k : Int) : Prop := 0 ≤ k ∧ k ≤ 14
def CntI (k : Int) : Prop := 0 ≤ k ∧ k ≤ 15
def Row.Wf : Row → Prop
  | .ask h g k n o b => PyData.strOk h = true ∧ PyData.strOk g = true ∧ NumI k ∧ NumI n ∧ TimeI o ∧ TimeI b ∧ o ≤ b
  | .job h k o b => PyData.strOk h = true ∧ NumI k ∧ TimeI o ∧ TimeI b ∧ o ≤ b
  | .all h a j => PyData.strOk h = true ∧ CntI a ∧ CntI j
def Row.In (hs : List Str) : Row → Prop
  | .ask h g _ _ _ _ => h ∈ hs ∧ g ∈ hs
  | .job h _ _ _ => h ∈ hs
  | .all h _ _ => h ∈ hs
theorem RowV.row {hs : List Str} {xs : List V} (hh : ∀ h ∈ hs, HouseS h) (x : RowV hs xs) : ∃ r : Row, xs = r.vals ∧ r.Wf ∧ r.In hs := by
  cases x with
  | ask h g k n o b mh mg k0 k1 n0 n1 to tb ob => exact ⟨.ask h g k n o b, rfl, ⟨(hh h mh).ok, (hh g mg).ok, ⟨k0, k1⟩, ⟨n0, n1⟩, to, tb, ob⟩, mh, mg⟩
  | job h k o b mh k0 k1 to tb ob => exact ⟨.job h k o b, rfl, ⟨(hh h mh).ok, ⟨k0, k1⟩, to, tb, ob⟩, mh⟩
  | all h a j mh a0 a1 j0 j1 => exact ⟨.all h a j, rfl, ⟨(hh h mh).ok, ⟨a0, a1⟩, ⟨j0, j1⟩⟩, mh⟩
def RowAt (H : Hp) (a : Addr) (r : Row) : Prop := H a = some (.tup r.vals)
theorem RowAt.t {H : Hp} {a : Addr} {r : Row} (h : RowAt H a r) : SqT K H a r.vals := SqT.of h
theorem at0 (r : Row) : atI r.vals 0 = some (.str r.word) := by cases r <;> rfl
theorem at1 (r : Row) : atI r.vals 1 = some (.str r.h) := by cases r <;> rfl
theorem dp_row {H : Hp} (r : Row) : DpAll K H r.vals r.data := by
  cases r with
  | ask h g k n o b => exact .cons (.str _) (.cons (.str _) (.cons (.int _) (.cons (.int _) (.cons (.str _) (.cons (.int _) (.cons (.int _) .nil))))))
  | job h k o b => exact .cons (.str _) (.cons (.str _) (.cons (.int _) (.cons (.int _) (.cons (.int _) .nil))))
  | all h a j => exact .cons (.str _) (.cons (.str _) (.cons (.int _) (.cons (.int _) .nil)))
theorem RowAt.dp {H : Hp} {a : Addr} {r : Row} (h : RowAt H a r) : Dp K H (.ref a) (.tuple r.data) := Dp.tup h.t (dp_row r)
theorem Row.Wf.sh {r : Row} (h : r.Wf) : SeqAt.shaped (.tuple r.data) = true := by
  unfold SeqAt.shaped
  rw [Bool.and_eq_true]
  cases r with
  | ask h' g k n o b =>
    refine ⟨?_, rfl⟩
    show (PyData.strOk "ask" && (PyData.strOk h' && (true && (true && (PyData.strOk g && (true && (true && true))))))) = true
    rw [h.1, h.2.1]
    decide +kernel
  | job h' k o b =>
    refine ⟨?_, rfl⟩
    show (PyData.strOk "job" && (PyData.strOk h' && (true && (true && (true && true))))) = true
    rw [h.1]
    decide +kernel
  | all h' a j =>
    refine ⟨?_, rfl⟩
    show (PyData.strOk "all" && (PyData.strOk h' && (true && (true && true)))) = true
    rw [h.1]
    decide +kernel
theorem row_eqv (x y : Row) : PyData.eqv (.tuple x.data) (.tuple y.data) = decide (x = y) := by
  have n1 : ((("ask" : Str)) == ("job" : Str)) = false := by decide +kernel
  have n2 : ((("ask" : Str)) == ("all" : Str)) = false := by decide +kernel
  have n3 : ((("job" : Str)) == ("ask" : Str)) = false := by decide +kernel
  have n4 : ((("job" : Str)) == ("all" : Str)) = false := by decide +kernel
  have n5 : ((("all" : Str)) == ("ask" : Str)) = false := by decide +kernel
  have n6 : ((("all" : Str)) == ("job" : Str)) = false := by decide +kernel
  have bdS : ∀ a b : Str, (a == b) = decide (a = b) := fun a b => by by_cases h : a = b <;> simp [h]
  have bdI : ∀ a b : Int, (a == b) = decide (a = b) := fun a b => by by_cases h : a = b <;> simp [h]
  cases x <;> cases y <;> simp [Row.data, PyData.eqv, PyData.eqvAll, n1, n2, n3, n4, n5, n6, bdS, bdI]
  rename_i h g k n o b h' g' k' n' o' b'
  generalize decide (h = h') = c1
  generalize decide (g = g') = c2
  generalize decide (k = k') = c3
  generalize decide (n = n') = c4
  cases c1 <;> cases c2 <;> cases c3 <;> cases c4 <;> rfl
def ClashP : Row → Row → Prop
  | .ask h g k n o b, .ask h' g' k' n' o' b' => h = h' ∧ ¬ (Row.ask h g k n o b = .ask h' g' k' n' o' b') ∧ (k = k' ∨ (k < k' ∧ o' < o) ∨ (k' < k ∧ o < o'))
  | .job h k o b, .job h' k' o' b' => h = h' ∧ ¬ (Row.job h k o b = .job h' k' o' b') ∧ (k = k' ∨ (k < k' ∧ o' < o) ∨ (k' < k ∧ o < o'))
  | .all h a j, .all h' a' j' => h = h' ∧ ¬ (Row.all h a j = .all h' a' j')
  | .job h k o b, .ask h' _ _ n o' b' => h = h' ∧ ((k ≤ n ∧ o' ≤ o) ∨ (k = n ∧ b ≤ b'))
  | .ask h' _ _ n o' b', .job h k o b => h = h' ∧ ((k ≤ n ∧ o' ≤ o) ∨ (k = n ∧ b ≤ b'))
  | .all h a j, .ask h' _ k n _ _ => h = h' ∧ (a ≤ k ∨ j ≤ n)
  | .ask h' _ k n _ _, .all h a j => h = h' ∧ (a ≤ k ∨ j ≤ n)
  | .all h _ j, .job h' k _ _ => h = h' ∧ j ≤ k
  | .job h' k _ _, .all h _ j => h = h' ∧ j ≤ k
theorem ff {p : Prop} (h : ¬ p) : (false = true ↔ p) := ⟨fun z => Bool.noConfusion z, fun z => absurd z h⟩
theorem tt {p : Prop} (h : p) : (true = true ↔ p) := ⟨fun _ => h, fun _ => rfl⟩
/-! ### the program's defs -/
def sp_is_out_of_order : Sp := fun vs H Q _ => ∃ (a t b u : Int), vs = [.int a, .int t, .int b, .int u] ∧ ∀ r : Bool, (r = true ↔ ((a < b ∧ u < t) ∨ (¬ a < b ∧ t < u))) → Q (.bl r) H
theorem ok_is_out_of_order (T : Txt K mg af fd) : FnOk P w K mg base CX0 1 (af 0) (fd 0) ["number", "time", "other_number", "other_time"] sp_is_out_of_order := by
  refine T.F_is_out_of_order.ok sc_is_out_of_order (fun vs H Q E h => ?_) (fun cdv A outer s H vs Q E hr h => ?_)
  · obtain ⟨a, t, b, u, rfl, _⟩ := h
    rfl
  · obtain ⟨a, t, b, u, rfl, q⟩ := h
    refine ⟨_, (pss_cons (ps_if (pt_cmpR op_lt (pv 0) (pv 2) (nomark _)) (pss_one (ps_ret (pe_cmpR op_gt (pv 1) (pv 3) (nomark _)))) pss_nil)
        (pss_one (ps_ret (pe_cmpR op_lt (pv 1) (pv 3) (nomark _))))), ?_⟩
    refine ⟨_, rfl, _, rfl, _, _, rfl, rfl, _, rfl, ite2 (fun e => ?_) (fun e => ?_)⟩
    · refine ⟨_, rfl, _, rfl, _, _, rfl, rfl, q _ ?_⟩
      have e1 := of_decide_eq_true e
      rw [decide_eq_true_eq]
      omega
    · refine ⟨_, rfl, _, rfl, _, _, rfl, rfl, q _ ?_⟩
      have e1 : ¬ a < b := fun h => e (decide_eq_true h)
      rw [decide_eq_true_eq]
      omega
def sp_do_asks_clash : Sp := fun vs H Q _ => ∃ (x y : Addr) (h g : Str) (k n o b : Int) (h' g' : Str) (k' n' o' b' : Int), vs = [.ref x, .ref y] ∧ RowAt H x (.ask h g k n o b) ∧ RowAt H y (.ask h' g' k' n' o' b') ∧ ∀ r : Bool, (r = true ↔ (k = k' ∨ (k < k' ∧ o' < o) ∨ (k' < k ∧ o < o'))) → Q (.bl r) H
theorem ok_do_asks_clash (T : Txt K mg af fd) : FnOk P w K mg base CX0 2 (af 1) (fd 1) ["one", "other"] sp_do_asks_clash := by
  refine T.F_do_asks_clash.ok sc_do_asks_clash (fun vs H Q E h => ?_) (fun cdv A outer s H vs Q E hr h => ?_)
  · obtain ⟨x, y, h, g, k, n, o, b, h', g', k', n', o', b', rfl, _⟩ := h
    rfl
  · obtain ⟨x, y, h, g, k, n, o, b, h', g', k', n', o', b', rfl, hx, hy, q⟩ := h
    refine ⟨_, (pss_cons (ps_par (i := 2) (j := 3) (by rfl) sc_do_asks_clash.nd rfl rfl (by decide) rfl rfl (pa_cons (pe_ix ix_tup (pv 0) pe_int (fun _ _ => rfl)) (pa_cons (pe_ix ix_tup (pv 0) pe_int (fun _ _ => rfl)) pa_nil)) (by rfl))
        (pss_cons (ps_par (i := 4) (j := 5) (by rfl) sc_do_asks_clash.nd rfl rfl (by decide) rfl rfl (pa_cons (pe_ix ix_tup (pv 1) pe_int (fun _ _ => rfl)) (pa_cons (pe_ix ix_tup (pv 1) pe_int (fun _ _ => rfl)) pa_nil)) (by rfl))
        (pss_one (ps_ret (pe_or (pe_cmpR op_eq (pv 2) (pv 4) (nomark _)) (pe_one (pe_call (ok_is_out_of_order T) (hr.mono (by decide)) (by rfl) T.g_is_out_of_order T.F_is_out_of_order.kp T.b_is_out_of_order .nil pass0 (pa_cons (pv 2) (pa_cons (pv 3) (pa_cons (pv 4) (pa_cons (pv 5) pa_nil))))))))))), ?_⟩
    refine ⟨_, rfl, x, _, 2, _, rfl, rfl, hx.t, rfl, _, rfl, x, _, 5, _, rfl, rfl, hx.t, rfl, _, _, rfl, ?_⟩
    refine ⟨_, rfl, y, _, 2, _, rfl, rfl, hy.t, rfl, _, rfl, y, _, 5, _, rfl, rfl, hy.t, rfl, _, _, rfl, ?_⟩
    refine ⟨_, rfl, _, rfl, rfl, _, rfl, ite2 (fun e => ?_) (fun e => ?_)⟩
    · have e1 := V.int.inj (of_decide_eq_true e)
      exact q true ⟨fun _ => .inl e1, fun _ => rfl⟩
    · have e1 : ¬ k = k' := fun z => e (decide_eq_true (congrArg V.int z))
      refine ⟨_, rfl, _, rfl, _, rfl, _, rfl, k, o, k', o', rfl, fun r hr => q r ?_⟩
      rw [hr]
      omega
def sp_do_jobs_clash : Sp := fun vs H Q _ => ∃ (x y : Addr) (h : Str) (k o b : Int) (h' : Str) (k' o' b' : Int), vs = [.ref x, .ref y] ∧ RowAt H x (.job h k o b) ∧ RowAt H y (.job h' k' o' b') ∧ ∀ r : Bool, (r = true ↔ (k = k' ∨ (k < k' ∧ o' < o) ∨ (k' < k ∧ o < o'))) → Q (.bl r) H
theorem ok_do_jobs_clash (T : Txt K mg af fd) : FnOk P w K mg base CX0 2 (af 2) (fd 2) ["one", "other"] sp_do_jobs_clash := by
  refine T.F_do_jobs_clash.ok sc_do_jobs_clash (fun vs H Q E h => ?_) (fun cdv A outer s H vs Q E hr h => ?_)
  · obtain ⟨x, y, h, k, o, b, h', k', o', b', rfl, _⟩ := h
    rfl
  · obtain ⟨x, y, h, k, o, b, h', k', o', b', rfl, hx, hy, q⟩ := h
    refine ⟨_, (pss_cons (ps_par (i := 2) (j := 3) (by rfl) sc_do_jobs_clash.nd rfl rfl (by decide) rfl rfl (pa_cons (pe_ix ix_tup (pv 0) pe_int (fun _ _ => rfl)) (pa_cons (pe_ix ix_tup (pv 0) pe_int (fun _ _ => rfl)) pa_nil)) (by rfl))
        (pss_cons (ps_par (i := 4) (j := 5) (by rfl) sc_do_jobs_clash.nd rfl rfl (by decide) rfl rfl (pa_cons (pe_ix ix_tup (pv 1) pe_int (fun _ _ => rfl)) (pa_cons (pe_ix ix_tup (pv 1) pe_int (fun _ _ => rfl)) pa_nil)) (by rfl))
        (pss_one (ps_ret (pe_or (pe_cmpR op_eq (pv 2) (pv 4) (nomark _)) (pe_one (pe_call (ok_is_out_of_order T) (hr.mono (by decide)) (by rfl) T.g_is_out_of_order T.F_is_out_of_order.kp T.b_is_out_of_order .nil pass0 (pa_cons (pv 2) (pa_cons (pv 3) (pa_cons (pv 4) (pa_cons (pv 5) pa_nil))))))))))), ?_⟩
    refine ⟨_, rfl, x, _, 2, _, rfl, rfl, hx.t, rfl, _, rfl, x, _, 3, _, rfl, rfl, hx.t, rfl, _, _, rfl, ?_⟩
    refine ⟨_, rfl, y, _, 2, _, rfl, rfl, hy.t, rfl, _, rfl, y, _, 3, _, rfl, rfl, hy.t, rfl, _, _, rfl, ?_⟩
    refine ⟨_, rfl, _, rfl, rfl, _, rfl, ite2 (fun e => ?_) (fun e => ?_)⟩
    · have e1 := V.int.inj (of_decide_eq_true e)
      exact q true ⟨fun _ => .inl e1, fun _ => rfl⟩
    · have e1 : ¬ k = k' := fun z => e (decide_eq_true (congrArg V.int z))
      refine ⟨_, rfl, _, rfl, _, rfl, _, rfl, k, o, k', o', rfl, fun r hr => q r ?_⟩
      rw [hr]
      omega
def sp_do_job_and_ask_clash : Sp := fun vs H Q _ => ∃ (x y : Addr) (h : Str) (k o b : Int) (h' g' : Str) (k' n' o' b' : Int), vs = [.ref x, .ref y] ∧ RowAt H x (.job h k o b) ∧ RowAt H y (.ask h' g' k' n' o' b') ∧ ∀ r : Bool, (r = true ↔ ((k ≤ n' ∧ o' ≤ o) ∨ (k = n' ∧ b ≤ b'))) → Q (.bl r) H
theorem ok_do_job_and_ask_clash (T : Txt K mg af fd) : FnOk P w K mg base CX0 1 (af 3) (fd 3) ["job", "ask"] sp_do_job_and_ask_clash := by
  refine T.F_do_job_and_ask_clash.ok sc_do_job_and_ask_clash (fun vs H Q E h => ?_) (fun cdv A outer s H vs Q E hr h => ?_)
  · obtain ⟨x, y, h, k, o, b, h', g', k', n', o', b', rfl, _⟩ := h
    rfl
  · obtain ⟨x, y, h, k, o, b, h', g', k', n', o', b', rfl, hx, hy, q⟩ := h
    refine ⟨_, (pss_cons (ps_par3 (i := 2) (j := 3) (l := 4) (by rfl) sc_do_job_and_ask_clash.nd rfl rfl rfl (by decide) (by decide) (by decide) rfl rfl rfl (pa_cons (pe_ix ix_tup (pv 0) pe_int (fun _ _ => rfl)) (pa_cons (pe_ix ix_tup (pv 0) pe_int (fun _ _ => rfl)) (pa_cons (pe_ix ix_tup (pv 0) pe_int (fun _ _ => rfl)) pa_nil))) (by rfl))
        (pss_cons (ps_par3 (i := 5) (j := 6) (l := 7) (by rfl) sc_do_job_and_ask_clash.nd rfl rfl rfl (by decide) (by decide) (by decide) rfl rfl rfl (pa_cons (pe_ix ix_tup (pv 1) pe_int (fun _ _ => rfl)) (pa_cons (pe_ix ix_tup (pv 1) pe_int (fun _ _ => rfl)) (pa_cons (pe_ix ix_tup (pv 1) pe_int (fun _ _ => rfl)) pa_nil))) (by rfl))
        (pss_cons (ps_if (PW.pt (pw_and (pt_cmpR op_le (pv 2) (pv 5) (nomark _)) (pw_and1 (pt_cmpR op_ge (pv 3) (pv 6) (nomark _))))) (pss_one (ps_ret pe_bl)) pss_nil)
        (pss_one (ps_ret (pe_and (pe_cmpR op_eq (pv 2) (pv 5) (nomark _)) (pe_one (pe_cmpR op_le (pv 4) (pv 7) (nomark _))))))))), ?_⟩
    refine ⟨_, rfl, x, _, 2, _, rfl, rfl, hx.t, rfl, _, rfl, x, _, 3, _, rfl, rfl, hx.t, rfl, _, rfl, x, _, 4, _, rfl, rfl, hx.t, rfl, _, _, _, rfl, ?_⟩
    refine ⟨_, rfl, y, _, 3, _, rfl, rfl, hy.t, rfl, _, rfl, y, _, 5, _, rfl, rfl, hy.t, rfl, _, rfl, y, _, 6, _, rfl, rfl, hy.t, rfl, _, _, _, rfl, ?_⟩
    refine ⟨_, rfl, _, rfl, _, _, rfl, rfl, _, rfl, ite2 (fun e => ?_) (fun e => ?_)⟩
    · have e1 := of_decide_eq_true e
      refine ⟨_, rfl, _, rfl, _, _, rfl, rfl, _, rfl, ite2 (fun e2 => ?_) (fun e2 => ?_)⟩
      · have e3 := of_decide_eq_true e2
        exact q true ⟨fun _ => .inl ⟨e1, e3⟩, fun _ => rfl⟩
      · have e3 : ¬ o' ≤ o := fun z => e2 (decide_eq_true z)
        refine ⟨_, rfl, _, rfl, rfl, _, rfl, ite2 (fun e4 => ?_) (fun e4 => ?_)⟩
        · have e5 := V.int.inj (of_decide_eq_true e4)
          refine ⟨_, rfl, _, rfl, _, _, rfl, rfl, q _ ?_⟩
          rw [decide_eq_true_eq]
          omega
        · have e5 : ¬ k = n' := fun z => e4 (decide_eq_true (congrArg V.int z))
          exact q false (ff (by omega))
    · have e1 : ¬ k ≤ n' := fun z => e (decide_eq_true z)
      refine iteF ?_
      refine ⟨_, rfl, _, rfl, rfl, _, rfl, ite2 (fun e4 => ?_) (fun e4 => ?_)⟩
      · have e5 := V.int.inj (of_decide_eq_true e4)
        omega
      · have e5 : ¬ k = n' := fun z => e4 (decide_eq_true (congrArg V.int z))
        exact q false (ff (by omega))
/-! an all row against an ask or a job -/
def AllP (a j : Int) : Row → Prop
  | .ask _ _ k n _ _ => a ≤ k ∨ j ≤ n
  | .job _ k _ _ => j ≤ k
  | .all _ _ _ => False
theorem w_aj : ("ask" : Str) ≠ ("job" : Str) := by decide +kernel
theorem w_aa : ("ask" : Str) ≠ ("all" : Str) := by decide +kernel
theorem w_ja : ("job" : Str) ≠ ("all" : Str) := by decide +kernel
theorem dstr {a b : Str} (h : a ≠ b) : decide (V.str a = V.str b) = false := decide_eq_false fun e => h (V.str.inj e)
theorem dstrT (a : Str) : decide (V.str a = V.str a) = true := decide_eq_true rfl
def sp_does_all_row_clash : Sp := fun vs H Q _ => ∃ (x y : Addr) (h : Str) (a j : Int) (r : Row), vs = [.ref x, .ref y] ∧ RowAt H x (.all h a j) ∧ RowAt H y r ∧ r.word ≠ "all" ∧ ∀ b : Bool, (b = true ↔ AllP a j r) → Q (.bl b) H
theorem ok_does_all_row_clash (T : Txt K mg af fd) : FnOk P w K mg base CX0 1 (af 4) (fd 4) ["all_row", "other"] sp_does_all_row_clash := by
  refine T.F_does_all_row_clash.ok sc_does_all_row_clash (fun vs H Q E h => ?_) (fun cdv A outer s H vs Q E hr h => ?_)
  · obtain ⟨x, y, h, a, j, r, rfl, _⟩ := h
    rfl
  · obtain ⟨x, y, h, a, j, r, rfl, hx, hy, hw, q⟩ := h
    refine ⟨_, (pss_cons (ps_par (i := 2) (j := 3) (by rfl) sc_does_all_row_clash.nd rfl rfl (by decide) rfl rfl (pa_cons (pe_ix ix_tup (pv 0) pe_int (fun _ _ => rfl)) (pa_cons (pe_ix ix_tup (pv 0) pe_int (fun _ _ => rfl)) pa_nil)) (by rfl))
        (pss_cons (ps_if (pt_cmpR op_eq (pe_ix ix_tup (pv 1) pe_int (fun _ _ => rfl)) pe_str (nomark _)) (pss_one (ps_ret (pe_or (pe_cmpR op_ge (pe_ix ix_tup (pv 1) pe_int (fun _ _ => rfl)) (pv 2) (nomark _)) (pe_one (pe_cmpR op_ge (pe_ix ix_tup (pv 1) pe_int (fun _ _ => rfl)) (pv 3) (nomark _)))))) pss_nil)
        (pss_one (ps_ret (pe_cmpR op_ge (pe_ix ix_tup (pv 1) pe_int (fun _ _ => rfl)) (pv 3) (nomark _)))))), ?_⟩
    refine ⟨_, rfl, x, _, 2, _, rfl, rfl, hx.t, rfl, _, rfl, x, _, 3, _, rfl, rfl, hx.t, rfl, _, _, rfl, ?_⟩
    refine ⟨_, rfl, y, _, 0, _, rfl, rfl, hy.t, at0 r, rfl, _, rfl, ?_⟩
    cases r with
    | ask h' g k n o b =>
      refine ite2 (fun e => ?_) (fun e => absurd (dstrT "ask") e)
      refine ⟨_, rfl, y, _, 2, _, rfl, rfl, hy.t, rfl, _, rfl, _, _, rfl, rfl, _, rfl, ite2 (fun e1 => ?_) (fun e1 => ?_)⟩
      · have e2 := of_decide_eq_true e1
        exact q true (tt (.inl e2))
      · have e2 : ¬ a ≤ k := fun z => e1 (decide_eq_true z)
        refine ⟨_, rfl, y, _, 3, _, rfl, rfl, hy.t, rfl, _, rfl, _, _, rfl, rfl, q _ ?_⟩
        rw [decide_eq_true_eq]
        exact ⟨fun z => .inr z, fun z => z.resolve_left e2⟩
    | job h' k o b =>
      refine ite2 (fun e => ?_) (fun e => ?_)
      · exact absurd (e.symm.trans (dstr (fun z => w_aj z.symm))) (by decide)
      · refine ⟨_, rfl, y, _, 2, _, rfl, rfl, hy.t, rfl, _, rfl, _, _, rfl, rfl, q _ ?_⟩
        rw [decide_eq_true_eq]
        exact Iff.rfl
    | all h' a' j' => exact absurd rfl hw
def sp_clash (P2 : Row → Row → Prop) (ok : Row → Row → Prop) : Sp := fun vs H Q _ => ∃ (x y : Addr) (r t : Row), vs = [.ref x, .ref y] ∧ RowAt H x r ∧ RowAt H y t ∧ r.Wf ∧ t.Wf ∧ ok r t ∧ ∀ b : Bool, (b = true ↔ P2 r t) → Q (.bl b) H
def AlikeOk (r t : Row) : Prop := r.word = t.word ∧ r.h = t.h ∧ r ≠ t
theorem ok_do_alike_sorts_clash (T : Txt K mg af fd) : FnOk P w K mg base CX0 3 (af 5) (fd 5) ["one", "other"] (sp_clash ClashP AlikeOk) := by
  refine T.F_do_alike_sorts_clash.ok sc_do_alike_sorts_clash (fun vs H Q E h => ?_) (fun cdv A outer s H vs Q E hr h => ?_)
  · obtain ⟨x, y, r, t, rfl, _⟩ := h
    rfl
  · obtain ⟨x, y, r, t, rfl, hx, hy, _, _, ⟨hw, hh, hne⟩, q⟩ := h
    refine ⟨_, (pss_cons (ps_if (pt_cmpR op_eq (pe_ix ix_tup (pv 0) pe_int (fun _ _ => rfl)) pe_str (nomark _)) (pss_one (ps_ret (pe_call (ok_do_asks_clash T) (hr.mono (by decide)) (by rfl) T.g_do_asks_clash T.F_do_asks_clash.kp T.b_do_asks_clash .nil pass0 (pa_cons (pv 0) (pa_cons (pv 1) pa_nil))))) pss_nil)
        (pss_cons (ps_if (pt_cmpR op_eq (pe_ix ix_tup (pv 0) pe_int (fun _ _ => rfl)) pe_str (nomark _)) (pss_one (ps_ret (pe_call (ok_do_jobs_clash T) (hr.mono (by decide)) (by rfl) T.g_do_jobs_clash T.F_do_jobs_clash.kp T.b_do_jobs_clash .nil pass0 (pa_cons (pv 0) (pa_cons (pv 1) pa_nil))))) pss_nil)
        (pss_one (ps_ret pe_bl)))), ?_⟩
    refine ⟨_, rfl, x, _, 0, _, rfl, rfl, hx.t, at0 r, rfl, _, rfl, ?_⟩
    cases r with
    | ask h g k n o b =>
      refine ite2 (fun e => ?_) (fun e => absurd (dstrT "ask") e)
      cases t with
      | ask h' g' k' n' o' b' =>
        refine ⟨_, rfl, _, rfl, x, y, h, g, k, n, o, b, h', g', k', n', o', b', rfl, hx, hy, fun r hr => q r ?_⟩
        rw [hr]
        exact ⟨fun z => ⟨hh, hne, z⟩, fun z => z.2.2⟩
      | job h' k' o' b' => exact absurd hw w_aj
      | all h' a' j' => exact absurd hw w_aa
    | job h k o b =>
      refine ite2 (fun e => absurd (e.symm.trans (dstr (fun z => w_aj z.symm))) (by decide)) (fun e => ?_)
      refine ⟨_, rfl, x, _, 0, _, rfl, rfl, hx.t, at0 _, rfl, _, rfl, ite2 (fun e => ?_) (fun e => absurd (dstrT "job") e)⟩
      cases t with
      | ask h' g' k' n' o' b' => exact absurd hw.symm w_aj
      | job h' k' o' b' =>
        refine ⟨_, rfl, _, rfl, x, y, h, k, o, b, h', k', o', b', rfl, hx, hy, fun r hr => q r ?_⟩
        rw [hr]
        exact ⟨fun z => ⟨hh, hne, z⟩, fun z => z.2.2⟩
      | all h' a' j' => exact absurd hw w_ja
    | all h a j =>
      refine ite2 (fun e => absurd (e.symm.trans (dstr (fun z => w_aa z.symm))) (by decide)) (fun e => ?_)
      refine ⟨_, rfl, x, _, 0, _, rfl, rfl, hx.t, at0 _, rfl, _, rfl, ite2 (fun e => absurd (e.symm.trans (dstr (fun z => w_ja z.symm))) (by decide)) (fun e => ?_)⟩
      cases t with
      | ask h' g' k' n' o' b' => exact absurd hw.symm w_aa
      | job h' k' o' b' => exact absurd hw.symm w_ja
      | all h' a' j' => exact q true (tt ⟨hh, hne⟩)
theorem ok_do_clash (T : Txt K mg af fd) : FnOk P w K mg base CX0 4 (af 6) (fd 6) ["one", "other"] (sp_clash ClashP (fun _ _ => True)) := by
  refine T.F_do_clash.ok sc_do_clash (fun vs H Q E h => ?_) (fun cdv A outer s H vs Q E hr h => ?_)
  · obtain ⟨x, y, r, t, rfl, _⟩ := h
    rfl
  · obtain ⟨x, y, r, t, rfl, hx, hy, wr, wt, _, q⟩ := h
    refine ⟨_, (pss_cons (ps_if (PW.pt (pw_or (pt_cmpR op_ne (pe_ix ix_tup (pv 0) pe_int (fun _ _ => rfl)) (pe_ix ix_tup (pv 1) pe_int (fun _ _ => rfl)) (nomark _)) (pw_or1 (pt_cmpR (op_eqD hr.units) (pv 0) (pv 1) (nomark _))))) (pss_one (ps_ret pe_bl)) pss_nil)
        (pss_cons (ps_if (pt_cmpR op_eq (pe_ix ix_tup (pv 0) pe_int (fun _ _ => rfl)) (pe_ix ix_tup (pv 1) pe_int (fun _ _ => rfl)) (nomark _)) (pss_one (ps_ret (pe_call (ok_do_alike_sorts_clash T) (hr.mono (by decide)) (by rfl) T.g_do_alike_sorts_clash T.F_do_alike_sorts_clash.kp T.b_do_alike_sorts_clash .nil pass0 (pa_cons (pv 0) (pa_cons (pv 1) pa_nil))))) pss_nil)
        (pss_cons (ps_if (pt_cmpR op_eq (pe_ix ix_tup (pv 0) pe_int (fun _ _ => rfl)) pe_str (nomark _)) (pss_one (ps_ret (pe_call (ok_does_all_row_clash T) (hr.mono (by decide)) (by rfl) T.g_does_all_row_clash T.F_does_all_row_clash.kp T.b_does_all_row_clash .nil pass0 (pa_cons (pv 0) (pa_cons (pv 1) pa_nil))))) pss_nil)
        (pss_cons (ps_if (pt_cmpR op_eq (pe_ix ix_tup (pv 1) pe_int (fun _ _ => rfl)) pe_str (nomark _)) (pss_one (ps_ret (pe_call (ok_does_all_row_clash T) (hr.mono (by decide)) (by rfl) T.g_does_all_row_clash T.F_does_all_row_clash.kp T.b_does_all_row_clash .nil pass0 (pa_cons (pv 1) (pa_cons (pv 0) pa_nil))))) pss_nil)
        (pss_cons (ps_if (pt_cmpR op_eq (pe_ix ix_tup (pv 0) pe_int (fun _ _ => rfl)) pe_str (nomark _)) (pss_one (ps_ret (pe_call (ok_do_job_and_ask_clash T) (hr.mono (by decide)) (by rfl) T.g_do_job_and_ask_clash T.F_do_job_and_ask_clash.kp T.b_do_job_and_ask_clash .nil pass0 (pa_cons (pv 0) (pa_cons (pv 1) pa_nil))))) pss_nil)
        (pss_one (ps_ret (pe_call (ok_do_job_and_ask_clash T) (hr.mono (by decide)) (by rfl) T.g_do_job_and_ask_clash T.F_do_job_and_ask_clash.kp T.b_do_job_and_ask_clash .nil pass0 (pa_cons (pv 1) (pa_cons (pv 0) pa_nil)))))))))), ?_⟩
    refine ⟨_, rfl, x, _, 1, _, rfl, rfl, hx.t, at1 r, _, rfl, y, _, 1, _, rfl, rfl, hy.t, at1 t, rfl, _, rfl, ite2 (fun e => iteT ?_) (fun e => ?_)⟩
    · have hh : r.h ≠ t.h := fun z => by
        rw [z, dstrT] at e
        cases e
      refine q false (ff fun z => hh ?_)
      cases r <;> cases t <;> first | exact z.1 | exact z.1.symm
    have hh : r.h = t.h := by
      refine Decidable.byContradiction fun z => e ?_
      rw [dstr z]
      rfl
    refine ⟨_, rfl, _, rfl, _, _, hx.dp, hy.dp, wr.sh, wt.sh, _, rfl, ?_⟩
    rw [row_eqv]
    refine ite2 (fun e2 => ?_) (fun e2 => ?_)
    · have e3 := of_decide_eq_true e2
      subst e3
      refine q false (ff fun z => ?_)
      cases r <;> first | exact z.2.1 rfl | exact z.2 rfl
    have hne : r ≠ t := fun z => e2 (decide_eq_true z)
    -- if one[0] == other[0]
    refine ⟨_, rfl, x, _, 0, _, rfl, rfl, hx.t, at0 r, _, rfl, y, _, 0, _, rfl, rfl, hy.t, at0 t, rfl, _, rfl, ite2 (fun e3 => ?_) (fun e3 => ?_)⟩
    · have e4 := V.str.inj (of_decide_eq_true e3)
      exact ⟨_, rfl, _, rfl, x, y, r, t, rfl, hx, hy, wr, wt, ⟨e4, hh, hne⟩, q⟩
    have hw : r.word ≠ t.word := fun z => e3 (decide_eq_true (congrArg V.str z))
    -- if one[0] == "all"
    refine ⟨_, rfl, x, _, 0, _, rfl, rfl, hx.t, at0 r, rfl, _, rfl, ite2 (fun e5 => ?_) (fun e5 => ?_)⟩
    · have e6 := V.str.inj (of_decide_eq_true e5)
      cases r with
      | ask h g k n o b => exact absurd e6 w_aa
      | job h k o b => exact absurd e6 w_ja
      | all h a j =>
        refine ⟨_, rfl, _, rfl, x, y, h, a, j, t, rfl, hx, hy, fun z => hw z.symm, fun b hb => q b ?_⟩
        rw [hb]
        cases t with
        | ask h' g' k' n' o' b' => exact ⟨fun z => ⟨hh, z⟩, fun z => z.2⟩
        | job h' k' o' b' => exact ⟨fun z => ⟨hh, z⟩, fun z => z.2⟩
        | all h' a' j' => exact absurd rfl hw
    refine ⟨_, rfl, y, _, 0, _, rfl, rfl, hy.t, at0 t, rfl, _, rfl, ite2 (fun e7 => ?_) (fun e7 => ?_)⟩
    · have e6 := V.str.inj (of_decide_eq_true e7)
      cases t with
      | ask h g k n o b => exact absurd e6 w_aa
      | job h k o b => exact absurd e6 w_ja
      | all h a j =>
        refine ⟨_, rfl, _, rfl, y, x, h, a, j, r, rfl, hy, hx, fun z => hw z, fun b hb => q b ?_⟩
        rw [hb]
        cases r with
        | ask h' g' k' n' o' b' => exact ⟨fun z => ⟨hh.symm, z⟩, fun z => z.2⟩
        | job h' k' o' b' => exact ⟨fun z => ⟨hh.symm, z⟩, fun z => z.2⟩
        | all h' a' j' => exact absurd rfl hw
    refine ⟨_, rfl, x, _, 0, _, rfl, rfl, hx.t, at0 r, rfl, _, rfl, ite2 (fun e8 => ?_) (fun e8 => ?_)⟩
    · have e6 := V.str.inj (of_decide_eq_true e8)
      cases r with
      | ask h g k n o b => exact absurd e6 w_aj
      | all h a j => exact absurd e6.symm w_ja
      | job h k o b =>
        cases t with
        | job h' k' o' b' => exact absurd rfl hw
        | all h' a' j' => exact absurd (dstrT "all") e7
        | ask h' g' k' n' o' b' =>
          refine ⟨_, rfl, _, rfl, x, y, h, k, o, b, h', g', k', n', o', b', rfl, hx, hy, fun r hr => q r ?_⟩
          rw [hr]
          exact ⟨fun z => ⟨hh, z⟩, fun z => z.2⟩
    · cases r with
      | job h k o b => exact absurd (dstrT "job") e8
      | all h a j => exact absurd (dstrT "all") e5
      | ask h' g' k' n' o' b' =>
        cases t with
        | ask h2 g2 k2 n2 o2 b2 => exact absurd rfl hw
        | all h2 a2 j2 => exact absurd (dstrT "all") e7
        | job h k o b =>
          refine ⟨_, rfl, _, rfl, y, x, h, k, o, b, h', g', k', n', o', b', rfl, hy, hx, fun r hr => q r ?_⟩
          rw [hr]
          exact ⟨fun z => ⟨hh.symm, z⟩, fun z => z.2⟩

/-! ### the law's own look -/
theorem row_can (r t : Row) : Fl.Can r.data t.data := by
  cases r with
  | ask h g k n o b =>
    cases t with
    | ask h' g' k' n' o' b' => exact ⟨_, _, _, _, rfl, rfl, fun _ => rfl⟩
    | job h' k' o' b' => exact ⟨_, _, _, _, rfl, rfl, fun z => absurd z w_aj⟩
    | all h' a' j' => exact ⟨_, _, _, _, rfl, rfl, fun z => absurd z w_aa⟩
  | job h k o b =>
    cases t with
    | ask h' g' k' n' o' b' => exact ⟨_, _, _, _, rfl, rfl, fun z => absurd z.symm w_aj⟩
    | job h' k' o' b' => exact ⟨_, _, _, _, rfl, rfl, fun _ => rfl⟩
    | all h' a' j' => exact ⟨_, _, _, _, rfl, rfl, fun z => absurd z w_ja⟩
  | all h a j =>
    cases t with
    | ask h' g' k' n' o' b' => exact ⟨_, _, _, _, rfl, rfl, fun z => absurd z.symm w_aa⟩
    | job h' k' o' b' => exact ⟨_, _, _, _, rfl, rfl, fun z => absurd z.symm w_ja⟩
    | all h' a' j' => exact ⟨_, _, _, _, rfl, rfl, fun _ => rfl⟩
theorem row_flat (r : Row) : r.data.all Fl.flatD = true := by cases r <;> rfl
def Row.rk : Row → Nat
  | .all _ _ _ => 0
  | .ask _ _ _ _ _ _ => 1
  | .job _ _ _ _ => 2
/-! rows of unlike words go by their words -/
theorem word_lt {x y : Str} {r t : List PyData} (hne : x ≠ y) : Fl.ltD (.str x :: r) (.str y :: t) = decide (x.cps.toList < y.cps.toList) := by
  have e4 : PyData.eqv (.str x) (.str y) = false := by simpa [PyData.eqv] using hne
  unfold Fl.ltD
  rw [PySem.W.dataLt_all_no (by rfl) e4, PySem.W.dataLt_str]
theorem rk_of {r t : Row} (h : Fl.ltD t.data r.data = false) : r.rk ≤ t.rk := by
  cases r with
  | ask h g k n o b =>
    cases t with
    | ask h' g' k' n' o' b' => exact Nat.le_refl _
    | job h' k' o' b' => exact (by decide : (1 : Nat) ≤ 2)
    | all h' a' j' =>
      have e := h.symm.trans (word_lt (fun z => w_aa z.symm))
      exact absurd e (by decide +kernel)
  | job h k o b =>
    cases t with
    | ask h' g' k' n' o' b' =>
      have e := h.symm.trans (word_lt w_aj)
      exact absurd e (by decide +kernel)
    | job h' k' o' b' => exact Nat.le_refl _
    | all h' a' j' =>
      have e := h.symm.trans (word_lt (fun z => w_ja z.symm))
      exact absurd e (by decide +kernel)
  | all h a j => exact Nat.zero_le _
theorem two_of {l : List V} {a b : V} (h : l.Perm [a, b]) : l = [a, b] ∨ l = [b, a] := by
  match l, h.length_eq, h with
  | [x, y], _, h =>
    have hx := h.mem_iff.mp (List.mem_cons_self (a := x) (l := [y]))
    rcases List.mem_cons.mp hx with e | e
    · subst e
      have h2 := List.Perm.cons_inv h
      have e2 : [y] = [b] := List.perm_singleton.mp h2
      exact .inl (by rw [(List.cons.inj e2).1])
    · have e := List.mem_singleton.mp e
      subst e
      have h2 : [x, y].Perm [x, a] := h.trans (List.Perm.swap _ _ _)
      have h3 := List.Perm.cons_inv h2
      have e2 : [y] = [a] := List.perm_singleton.mp h3
      exact .inr (by rw [(List.cons.inj e2).1])
theorem clash_comm (r t : Row) : ClashP r t ↔ ClashP t r := by
  cases r <;> cases t <;> simp only [ClashP] <;> constructor <;> intro z
  all_goals first
    | exact z
    | exact ⟨z.1.symm, fun e => z.2.1 e.symm, by omega⟩
    | exact ⟨z.1.symm, fun e => z.2 e.symm⟩
theorem word_len (r : Row) : r.word.length ≤ 3 := by
  cases r
  · exact (by decide +kernel : (Str.ofString "ask").length ≤ 3)
  · exact (by decide +kernel : (Str.ofString "job").length ≤ 3)
  · exact (by decide +kernel : (Str.ofString "all").length ≤ 3)
theorem prod_neg (a b c d : Int) : (a - b) * (c - d) < 0 ↔ ((a < b ∧ d < c) ∨ (b < a ∧ c < d)) := by
  constructor
  · intro h
    rcases Int.lt_trichotomy a b with h1 | h1 | h1
    · rcases Int.lt_or_le d c with h2 | h2
      · exact .inl ⟨h1, h2⟩
      · have : 0 ≤ (a - b) * (c - d) := Int.mul_nonneg_of_nonpos_of_nonpos (by omega) (by omega)
        omega
    · subst h1
      rw [Int.sub_self, Int.zero_mul] at h
      omega
    · rcases Int.lt_or_le c d with h2 | h2
      · exact .inr ⟨h1, h2⟩
      · have : 0 ≤ (a - b) * (c - d) := Int.mul_nonneg (by omega) (by omega)
        omega
  · rintro (⟨h1, h2⟩ | ⟨h1, h2⟩)
    · exact Int.mul_neg_of_neg_of_pos (by omega) (by omega)
    · exact Int.mul_neg_of_pos_of_neg (by omega) (by omega)
def pickD (x : Addr) (r t : Row) (v : V) : List PyData := if v = .ref x then r.data else t.data
theorem pickD_l {x : Addr} {r t : Row} {v : V} (e : v = .ref x) : pickD x r t v = r.data := if_pos e
theorem pickD_r {x y : Addr} {r t : Row} {v : V} (h : x ≠ y) (e : v = .ref y) : pickD x r t v = t.data := if_neg (fun z => h (V.ref.inj (z.symm.trans e)))
theorem pickD_or (x : Addr) (r t : Row) (v : V) : pickD x r t v = r.data ∨ pickD x r t v = t.data := by
  unfold pickD
  split
  · exact .inl rfl
  · exact .inr rfl
def sp_l_do_clash : Sp := fun vs H Q _ => ∃ (x y : Addr) (r t : Row), vs = [.ref x, .ref y] ∧ RowAt H x r ∧ RowAt H y t ∧ r.Wf ∧ t.Wf ∧ ∀ (b : Bool) (H' : Hp), Same H H' → (b = true ↔ ClashP r t) → Q (.bl b) H'
theorem Same.row {H H' : Hp} {a : Addr} {r : Row} (s : Same H H') (h : RowAt H a r) : RowAt H' a r := s a _ h
theorem ok_l_do_clash (T : Txt K mg af fd) : FnOk P w K mg base CX0 1 (af 13) (fd 13) ["one", "other"] sp_l_do_clash := by
  refine T.F_l_do_clash.ok sc_l_do_clash (fun vs H Q E h => ?_) (fun cdv A outer s H vs Q E hr h => ?_)
  · obtain ⟨x, y, r, t, rfl, _⟩ := h
    rfl
  · obtain ⟨x, y, r, t, rfl, hx, hy, wr, wt, q⟩ := h
    refine ⟨_, (pss_cons (ps_if (PW.pt (pw_or (pt_cmpR op_ne (pe_ix ix_tup (pv 0) pe_int (fun _ _ => rfl)) (pe_ix ix_tup (pv 1) pe_int (fun _ _ => rfl)) (nomark _)) (pw_or1 (pt_cmpR (op_eqD hr.units) (pv 0) (pv 1) (nomark _))))) (pss_one (ps_ret pe_bl)) pss_nil)
        (pss_cons (ps_asg (pe_callB Fl.cr_sortedFl (by rfl) T.m_sorted (by decide +kernel) (pa_cons (pe_lst (pa_cons (pv 0) (pa_cons (pv 1) pa_nil))) pa_nil)) (pg_unl rfl (pgs_cons (pg_name (i := 2) sc_l_do_clash.nd rfl (by first | exact Or.inl rfl | exact Or.inr rfl)) (pgs_cons (pg_name (i := 3) sc_l_do_clash.nd rfl (by first | exact Or.inl rfl | exact Or.inr rfl)) pgs_nil))))
        (pss_cons (ps_set (i := 4) sc_l_do_clash.nd rfl (by first | exact Or.inl rfl | exact Or.inr rfl) (pe_op op_add_str (pe_ix ix_tup (pv 2) pe_int (fun _ _ => rfl)) (pe_ix ix_tup (pv 3) pe_int (fun _ _ => rfl))))
        (pss_cons (ps_if (pt_cmpR op_in_seq (pv 4) (pe_tup (pa_cons pe_str (pa_cons pe_str pa_nil))) (by rfl)) (pss_cons (ps_set (i := 5) sc_l_do_clash.nd rfl (by first | exact Or.inl rfl | exact Or.inr rfl) (pe_ix ix_list (pe_lst (pa_cons pe_int (pa_cons pe_int pa_nil))) (pe_callTy call_int1 (by rfl) T.m_int (by decide +kernel) (pa_cons (pe_cmpR op_eq (pv 4) pe_str (nomark _)) pa_nil)) (fun _ _ => rfl)))
        (pss_one (ps_ret (pe_or (pe_cmpR op_eq (pe_ix ix_tup (pv 2) pe_int (fun _ _ => rfl)) (pe_ix ix_tup (pv 3) pe_int (fun _ _ => rfl)) (nomark _)) (pe_one (pe_cmpR op_lt (pe_op op_mul (pe_op op_sub (pe_ix ix_tup (pv 2) pe_int (fun _ _ => rfl)) (pe_ix ix_tup (pv 3) pe_int (fun _ _ => rfl))) (pe_op op_sub (pe_ix ix_tup (pv 2) (pv 5) (fun _ _ => rfl)) (pe_ix ix_tup (pv 3) (pv 5) (fun _ _ => rfl)))) pe_int (nomark _))))))) pss_nil)
        (pss_cons (ps_if (pt_cmpR op_eq (pv 4) pe_str (nomark _)) (pss_one (ps_ret (pe_or (pe_cmpR op_ge (pe_ix ix_tup (pv 3) pe_int (fun _ _ => rfl)) (pe_ix ix_tup (pv 2) pe_int (fun _ _ => rfl)) (nomark _)) (pe_one (pe_cmpR op_ge (pe_ix ix_tup (pv 3) pe_int (fun _ _ => rfl)) (pe_ix ix_tup (pv 2) pe_int (fun _ _ => rfl)) (nomark _)))))) pss_nil)
        (pss_cons (ps_if (pt_cmpR op_eq (pv 4) pe_str (nomark _)) (pss_one (ps_ret (pe_cmpR op_ge (pe_ix ix_tup (pv 3) pe_int (fun _ _ => rfl)) (pe_ix ix_tup (pv 2) pe_int (fun _ _ => rfl)) (nomark _)))) pss_nil)
        (pss_cons (ps_if (PW.pt (pw_and (pt_cmpR op_eq (pv 4) pe_str (nomark _)) (pw_and (pt_cmpR op_eq (pe_ix ix_tup (pv 3) pe_int (fun _ _ => rfl)) (pe_ix ix_tup (pv 2) pe_int (fun _ _ => rfl)) (nomark _)) (pw_and1 (pt_cmpR op_le (pe_ix ix_tup (pv 3) pe_int (fun _ _ => rfl)) (pe_ix ix_tup (pv 2) pe_int (fun _ _ => rfl)) (nomark _)))))) (pss_one (ps_ret pe_bl)) pss_nil)
        (pss_one (ps_ret (pe_or (pe_cmpR op_eq (pv 4) pe_str (nomark _)) (pe_one (pe_and (pe_cmpR op_le (pe_ix ix_tup (pv 3) pe_int (fun _ _ => rfl)) (pe_ix ix_tup (pv 2) pe_int (fun _ _ => rfl)) (nomark _)) (pe_one (pe_cmpR op_ge (pe_ix ix_tup (pv 3) pe_int (fun _ _ => rfl)) (pe_ix ix_tup (pv 2) pe_int (fun _ _ => rfl)) (nomark _))))))))))))))), ?_⟩
    refine ⟨_, rfl, x, _, 1, _, rfl, rfl, hx.t, at1 r, _, rfl, y, _, 1, _, rfl, rfl, hy.t, at1 t, rfl, _, rfl, ite2 (fun e => iteT ?_) (fun e => ?_)⟩
    · have hh : r.h ≠ t.h := fun z => by
        rw [z, dstrT] at e
        cases e
      refine q false H (Same.refl H) (ff fun z => hh ?_)
      cases r <;> cases t <;> first | exact z.1 | exact z.1.symm
    have hh : r.h = t.h := by
      refine Decidable.byContradiction fun z => e ?_
      rw [dstr z]
      rfl
    refine ⟨_, rfl, _, rfl, _, _, hx.dp, hy.dp, wr.sh, wt.sh, _, rfl, ?_⟩
    rw [row_eqv]
    refine ite2 (fun e2 => ?_) (fun e2 => ?_)
    · have e3 := of_decide_eq_true e2
      subst e3
      refine q false H (Same.refl H) (ff fun z => ?_)
      cases r <;> first | exact z.2.1 rfl | exact z.2 rfl
    have hne : r ≠ t := fun z => e2 (decide_eq_true z)
    have hxy : x ≠ y := fun z => by
      subst z
      have e3 : r.vals = t.vals := HO.tup.inj (Option.some.inj (hx.symm.trans hy))
      refine hne ?_
      have w1 := Option.some.inj ((at0 r).symm.trans ((congrArg (fun l => atI l 0) e3).trans (at0 t)))
      have w2 := V.str.inj w1
      cases r <;> cases t
      case ask.job => exact absurd w2 w_aj
      case ask.all => exact absurd w2 w_aa
      case job.ask => exact absurd w2.symm w_aj
      case job.all => exact absurd w2 w_ja
      case all.ask => exact absurd w2.symm w_aa
      case all.job => exact absurd w2.symm w_ja
      all_goals
        simp only [Row.vals, Row.data, Fl.dV, List.map_cons, List.map_nil, List.cons.injEq, V.str.injEq, V.int.injEq, and_true, true_and] at e3
        simp only [Row.ask.injEq, Row.job.injEq, Row.all.injEq]
        first
          | exact e3
          | exact ⟨e3.1, e3.2.2.2.1, e3.2.1, e3.2.2.1, e3.2.2.2.2.1, e3.2.2.2.2.2⟩
    -- first, second = sorted([one, other])
    refine ⟨_, rfl, _, rfl, (by show 2 ≤ sizeLine; decide), fun l nl => ?_⟩
    have s1 : Same H (upd H l (.lst [.ref x, .ref y])) := same_upd nl
    have kx : ∀ v : V, v = .ref x → pickD x r t v = r.data := fun v e => pickD_l e
    have ky : ∀ v : V, v = .ref y → pickD x r t v = t.data := fun v e => pickD_r hxy e
    refine ⟨l, _, pickD x r t, rfl, SqL.of upd_same, fun v hv => ?_, fun v hv u hu => ?_, fun ys p up st np => ?_⟩
    · rcases List.mem_cons.mp hv with e3 | e3
      · exact ⟨x, e3, by rw [kx v e3]; exact row_flat r, by rw [kx v e3]; exact s1 x _ hx⟩
      · have e3 := List.mem_singleton.mp e3
        exact ⟨y, e3, by rw [ky v e3]; exact row_flat t, by rw [ky v e3]; exact s1 y _ hy⟩
    · rcases pickD_or x r t v with e3 | e3 <;> rcases pickD_or x r t u with e4 | e4 <;> rw [e3, e4] <;> exact row_can _ _
    have s2 : Same H (upd (upd H l (.lst [.ref x, .ref y])) p (.lst ys)) := same_mut s1 (s1.free np)
    obtain ⟨a, b, u, v, hys, hu, hv, hrk, huh, hun, hcl⟩ : ∃ (a b : Addr) (u v : Row), ys = [.ref a, .ref b] ∧ RowAt H a u ∧ RowAt H b v ∧ u.rk ≤ v.rk ∧ u.h = v.h ∧ u ≠ v ∧ (ClashP u v ↔ ClashP r t) ∧ u.Wf ∧ v.Wf := by
      rcases two_of st.perm with e3 | e3
      · subst e3
        have e4 := (List.pairwise_cons.mp up).1 _ (List.mem_singleton.mpr rfl)
        dsimp only at e4
        rw [kx _ rfl, ky _ rfl] at e4
        exact ⟨x, y, r, t, rfl, hx, hy, rk_of e4, hh, hne, Iff.rfl, wr, wt⟩
      · subst e3
        have e4 := (List.pairwise_cons.mp up).1 _ (List.mem_singleton.mpr rfl)
        dsimp only at e4
        rw [kx _ rfl, ky _ rfl] at e4
        exact ⟨y, x, t, r, rfl, hy, hx, rk_of e4, hh.symm, fun z => hne z.symm, clash_comm t r, wt, wr⟩
    obtain ⟨hcl, wu, wv⟩ := hcl
    subst hys
    refine ⟨p, _, rfl, SqL.of upd_same, rfl, _, _, rfl, _, _, rfl, rfl, ?_⟩
    generalize upd (upd H l (.lst [.ref x, .ref y])) p (.lst [.ref a, .ref b]) = H2 at s2 ⊢
    have hu2 := Same.row s2 hu
    have hv2 := Same.row s2 hv
    refine ⟨_, rfl, a, _, 0, _, rfl, rfl, hu2.t, at0 u, _, rfl, b, _, 0, _, rfl, rfl, hv2.t, at0 v, _, _, rfl, rfl, ?_, ?_⟩
    · exact Nat.le_trans (Nat.add_le_add (word_len u) (word_len v)) (by decide)
    refine ⟨_, rfl, (by show 2 ≤ sizeLine; decide), fun m nm => ?_⟩
    refine ⟨m, _, rfl, .inr (SqT.of upd_same), rfl, rfl, _, rfl, ?_⟩
    have s3 : Same H (upd H2 m (.tup [.str "askask", .str "jobjob"])) := same_mut s2 (s2.free nm)
    generalize upd H2 m (.tup [.str "askask", .str "jobjob"]) = H3 at s3 ⊢
    have hu3 := Same.row s3 hu
    have hv3 := Same.row s3 hv
    cases u with
    | ask h g k n o e =>
      cases v with
      | ask h' g' k' n' o' e' =>
        refine ite2 (fun _ => ?_) (fun z => absurd (show inV (V.str (("ask" : Str) ++ ("ask" : Str))) [V.str "askask", V.str "jobjob"] = true by decide +kernel) z)
        refine ⟨(by show 2 ≤ sizeLine; decide), fun m2 nm2 => ⟨_, rfl, rfl, .inr ⟨_, rfl, m2, _, _, .int 5, rfl, rfl, SqL.of upd_same, (show atI [V.int 3, V.int 5] (b2i (decide (V.str (("ask" : Str) ++ ("ask" : Str)) = V.str "askask"))) = some (V.int 5) by decide +kernel), ?_⟩⟩⟩
        have s4 : Same H (upd H3 m2 (.lst [.int 3, .int 5])) := same_mut s3 (s3.free nm2)
        generalize upd H3 m2 (.lst [.int 3, .int 5]) = H4 at s4 ⊢
        have hu4 := Same.row s4 hu
        have hv4 := Same.row s4 hv
        refine ⟨_, rfl, a, _, 2, _, rfl, rfl, hu4.t, rfl, _, rfl, b, _, 2, _, rfl, rfl, hv4.t, rfl, rfl, _, rfl, ite2 (fun z => ?_) (fun z => ?_)⟩
        · have z1 := V.int.inj (of_decide_eq_true z)
          exact q true H4 s4 (tt (hcl.mp ⟨huh, hun, .inl z1⟩))
        · have z1 : ¬ k = k' := fun w => z (decide_eq_true (congrArg V.int w))
          obtain ⟨_, _, ⟨k0, k1⟩, _⟩ := wu
          obtain ⟨_, _, ⟨k2, k3⟩, _⟩ := wv
          refine ⟨_, rfl, a, _, 2, _, rfl, rfl, hu4.t, rfl, _, rfl, b, _, 2, _, rfl, rfl, hv4.t, rfl, _, _, rfl, rfl, _, rfl, _, rfl, a, _, 5, _, rfl, rfl, hu4.t, rfl, _, rfl, _, rfl, b, _, 5, _, rfl, rfl, hv4.t, rfl, _, _, rfl, rfl, _, _, rfl, rfl, .inl ⟨by omega, by omega⟩, _, _, rfl, rfl, q _ H4 s4 ?_⟩
          rw [decide_eq_true_eq, prod_neg, ← hcl]
          exact ⟨fun w => ⟨huh, hun, .inr w⟩, fun w => w.2.2.resolve_left z1⟩
      | job h' k' o' e' =>
        refine ite2 (fun z => absurd (z.symm.trans (show inV (V.str (("ask" : Str) ++ ("job" : Str))) [V.str "askask", V.str "jobjob"] = false by decide +kernel)) (by decide)) (fun _ => ?_)
        refine ⟨_, rfl, rfl, _, rfl, ite2 (fun z => absurd (z.symm.trans (show decide (V.str (("ask" : Str) ++ ("job" : Str)) = V.str "allask") = false by decide +kernel)) (by decide)) (fun _ => ?_)⟩
        refine ⟨_, rfl, rfl, _, rfl, ite2 (fun z => absurd (z.symm.trans (show decide (V.str (("ask" : Str) ++ ("job" : Str)) = V.str "alljob") = false by decide +kernel)) (by decide)) (fun _ => ?_)⟩
        refine ⟨_, rfl, rfl, _, rfl, ite2 (fun _ => ?_) (fun z => absurd (show decide (V.str (("ask" : Str) ++ ("job" : Str)) = V.str "askjob") = true by decide +kernel) z)⟩
        refine ⟨_, rfl, b, _, 2, _, rfl, rfl, hv3.t, rfl, _, rfl, a, _, 3, _, rfl, rfl, hu3.t, rfl, rfl, _, rfl, ?_⟩
        have last : ¬ (k' = n ∧ e' ≤ e) → tRet (tOrV (tOp rEq (tVar 4) (tC (.str "allall"))) (tAndV (tOp (rI0 fun i j => .bl (decide (i ≤ j))) (tOp (rIxT K) (tVar 3) (tC (.int 2))) (tOp (rIxT K) (tVar 2) (tC (.int 3)))) (tOp (rI0 fun i j => .bl (decide (j ≤ i))) (tOp (rIxT K) (tVar 3) (tC (.int 3))) (tOp (rIxT K) (tVar 2) (tC (.int 5)))))) { nx := fun _ H' => Q .non H', rt := Q } [some (.ref x), some (.ref y), some (.ref a), some (.ref b), some (.str (("ask" : Str) ++ ("job" : Str))), none] H3 := by
          intro hnot
          refine ⟨_, rfl, rfl, _, rfl, ite2 (fun z => absurd (z.symm.trans (show decide (V.str (("ask" : Str) ++ ("job" : Str)) = V.str "allall") = false by decide +kernel)) (by decide)) (fun _ => ?_)⟩
          refine ⟨_, rfl, b, _, 2, _, rfl, rfl, hv3.t, rfl, _, rfl, a, _, 3, _, rfl, rfl, hu3.t, rfl, _, _, rfl, rfl, _, rfl, ite2 (fun z => ?_) (fun z => ?_)⟩
          · have z1 := of_decide_eq_true z
            refine ⟨_, rfl, b, _, 3, _, rfl, rfl, hv3.t, rfl, _, rfl, a, _, 5, _, rfl, rfl, hu3.t, rfl, _, _, rfl, rfl, q _ H3 s3 ?_⟩
            rw [decide_eq_true_eq, ← hcl]
            exact ⟨fun w => ⟨huh.symm, .inl ⟨z1, w⟩⟩, fun w => (w.2.resolve_right hnot).2⟩
          · have z1 : ¬ k' ≤ n := fun w => z (decide_eq_true w)
            refine q false H3 s3 (ff fun w => ?_)
            rw [← hcl] at w
            exact z1 (w.2.resolve_right hnot).1
        refine ite2 (fun z => ?_) (fun z => ?_)
        · have z1 := V.int.inj (of_decide_eq_true z)
          refine ⟨_, rfl, b, _, 4, _, rfl, rfl, hv3.t, rfl, _, rfl, a, _, 6, _, rfl, rfl, hu3.t, rfl, _, _, rfl, rfl, _, rfl, ite2 (fun z2 => ?_) (fun z2 => ?_)⟩
          · have z3 := of_decide_eq_true z2
            exact q true H3 s3 (tt (hcl.mp ⟨huh.symm, .inr ⟨z1, z3⟩⟩))
          · exact last fun w => z2 (decide_eq_true w.2)
        · exact last fun w => z (decide_eq_true (congrArg V.int w.1))
      | all h' a' j' => exact absurd hrk (by show ¬ (1 : Nat) ≤ 0; decide)
    | job h k o e =>
      cases v with
      | ask h' g' k' n' o' e' => exact absurd hrk (by show ¬ (2 : Nat) ≤ 1; decide)
      | all h' a' j' => exact absurd hrk (by show ¬ (2 : Nat) ≤ 0; decide)
      | job h' k' o' e' =>
        refine ite2 (fun _ => ?_) (fun z => absurd (show inV (V.str (("job" : Str) ++ ("job" : Str))) [V.str "askask", V.str "jobjob"] = true by decide +kernel) z)
        refine ⟨(by show 2 ≤ sizeLine; decide), fun m2 nm2 => ⟨_, rfl, rfl, .inr ⟨_, rfl, m2, _, _, .int 3, rfl, rfl, SqL.of upd_same, (show atI [V.int 3, V.int 5] (b2i (decide (V.str (("job" : Str) ++ ("job" : Str)) = V.str "askask"))) = some (V.int 3) by decide +kernel), ?_⟩⟩⟩
        have s4 : Same H (upd H3 m2 (.lst [.int 3, .int 5])) := same_mut s3 (s3.free nm2)
        generalize upd H3 m2 (.lst [.int 3, .int 5]) = H4 at s4 ⊢
        have hu4 := Same.row s4 hu
        have hv4 := Same.row s4 hv
        refine ⟨_, rfl, a, _, 2, _, rfl, rfl, hu4.t, rfl, _, rfl, b, _, 2, _, rfl, rfl, hv4.t, rfl, rfl, _, rfl, ite2 (fun z => ?_) (fun z => ?_)⟩
        · have z1 := V.int.inj (of_decide_eq_true z)
          exact q true H4 s4 (tt (hcl.mp ⟨huh, hun, .inl z1⟩))
        · have z1 : ¬ k = k' := fun w => z (decide_eq_true (congrArg V.int w))
          obtain ⟨_, ⟨k0, k1⟩, _⟩ := wu
          obtain ⟨_, ⟨k2, k3⟩, _⟩ := wv
          refine ⟨_, rfl, a, _, 2, _, rfl, rfl, hu4.t, rfl, _, rfl, b, _, 2, _, rfl, rfl, hv4.t, rfl, _, _, rfl, rfl, _, rfl, _, rfl, a, _, 3, _, rfl, rfl, hu4.t, rfl, _, rfl, _, rfl, b, _, 3, _, rfl, rfl, hv4.t, rfl, _, _, rfl, rfl, _, _, rfl, rfl, .inl ⟨by omega, by omega⟩, _, _, rfl, rfl, q _ H4 s4 ?_⟩
          rw [decide_eq_true_eq, prod_neg, ← hcl]
          exact ⟨fun w => ⟨huh, hun, .inr w⟩, fun w => w.2.2.resolve_left z1⟩
    | all h a1 j1 =>
      cases v with
      | ask h' g' k' n' o' e' =>
        refine ite2 (fun z => absurd (z.symm.trans (show inV (V.str (("all" : Str) ++ ("ask" : Str))) [V.str "askask", V.str "jobjob"] = false by decide +kernel)) (by decide)) (fun _ => ?_)
        refine ⟨_, rfl, rfl, _, rfl, ite2 (fun _ => ?_) (fun z => absurd (show decide (V.str (("all" : Str) ++ ("ask" : Str)) = V.str "allask") = true by decide +kernel) z)⟩
        refine ⟨_, rfl, b, _, 2, _, rfl, rfl, hv3.t, rfl, _, rfl, a, _, 2, _, rfl, rfl, hu3.t, rfl, _, _, rfl, rfl, _, rfl, ite2 (fun z => ?_) (fun z => ?_)⟩
        · have z1 := of_decide_eq_true z
          exact q true H3 s3 (tt (hcl.mp ⟨huh, .inl z1⟩))
        · refine ⟨_, rfl, b, _, 3, _, rfl, rfl, hv3.t, rfl, _, rfl, a, _, 3, _, rfl, rfl, hu3.t, rfl, _, _, rfl, rfl, q _ H3 s3 ?_⟩
          rw [decide_eq_true_eq, ← hcl]
          exact ⟨fun w => ⟨huh, .inr w⟩, fun w => w.2.resolve_left fun w2 => z (decide_eq_true w2)⟩
      | job h' k' o' e' =>
        refine ite2 (fun z => absurd (z.symm.trans (show inV (V.str (("all" : Str) ++ ("job" : Str))) [V.str "askask", V.str "jobjob"] = false by decide +kernel)) (by decide)) (fun _ => ?_)
        refine ⟨_, rfl, rfl, _, rfl, ite2 (fun z => absurd (z.symm.trans (show decide (V.str (("all" : Str) ++ ("job" : Str)) = V.str "allask") = false by decide +kernel)) (by decide)) (fun _ => ?_)⟩
        refine ⟨_, rfl, rfl, _, rfl, ite2 (fun _ => ?_) (fun z => absurd (show decide (V.str (("all" : Str) ++ ("job" : Str)) = V.str "alljob") = true by decide +kernel) z)⟩
        refine ⟨_, rfl, b, _, 2, _, rfl, rfl, hv3.t, rfl, _, rfl, a, _, 3, _, rfl, rfl, hu3.t, rfl, _, _, rfl, rfl, q _ H3 s3 ?_⟩
        rw [decide_eq_true_eq, ← hcl]
        exact ⟨fun w => ⟨huh, w⟩, fun w => w.2⟩
      | all h' a' j' =>
        refine ite2 (fun z => absurd (z.symm.trans (show inV (V.str (("all" : Str) ++ ("all" : Str))) [V.str "askask", V.str "jobjob"] = false by decide +kernel)) (by decide)) (fun _ => ?_)
        refine ⟨_, rfl, rfl, _, rfl, ite2 (fun z => absurd (z.symm.trans (show decide (V.str (("all" : Str) ++ ("all" : Str)) = V.str "allask") = false by decide +kernel)) (by decide)) (fun _ => ?_)⟩
        refine ⟨_, rfl, rfl, _, rfl, ite2 (fun z => absurd (z.symm.trans (show decide (V.str (("all" : Str) ++ ("all" : Str)) = V.str "alljob") = false by decide +kernel)) (by decide)) (fun _ => ?_)⟩
        refine ⟨_, rfl, rfl, _, rfl, ite2 (fun z => absurd (z.symm.trans (show decide (V.str (("all" : Str) ++ ("all" : Str)) = V.str "askjob") = false by decide +kernel)) (by decide)) (fun _ => iteF ?_)⟩
        refine ⟨_, rfl, rfl, _, rfl, ite2 (fun _ => ?_) (fun z => absurd (show decide (V.str (("all" : Str) ++ ("all" : Str)) = V.str "allall") = true by decide +kernel) z)⟩
        exact q true H3 s3 (tt (hcl.mp ⟨huh, hun⟩))

/-! ### right, and the law -/
def sp_l_right : Sp := fun vs H Q _ => ∃ (x y : Addr) (r t : Row), vs = [.ref x, .ref y] ∧ RowAt H x r ∧ RowAt H y t ∧ r.Wf ∧ t.Wf ∧ ∀ (H' : Hp), Same H H' → Q (.bl true) H'
theorem ok_l_right (T : Txt K mg af fd) : FnOk P w K mg base CX0 5 (af 18) (fd 18) ["one", "other"] sp_l_right := by
  refine T.F_l_right.ok sc_l_right (fun vs H Q E h => ?_) (fun cdv A outer s H vs Q E hr h => ?_)
  · obtain ⟨x, y, r, t, rfl, _⟩ := h
    rfl
  · obtain ⟨x, y, r, t, rfl, hx, hy, wr, wt, q⟩ := h
    refine ⟨_, (pss_cons (ps_set (i := 2) sc_l_right.nd rfl (by first | exact Or.inl rfl | exact Or.inr rfl) (pe_call (ok_l_do_clash T) (hr.mono (by decide)) (by rfl) T.g_l_do_clash T.F_l_do_clash.kp T.b_l_do_clash .nil pass0 (pa_cons (pv 0) (pa_cons (pv 1) pa_nil))))
        (pss_cons (ps_for PassesOwn.never rfl (pi_list (pe_lst (pa_cons (pe_call (ok_do_clash T) (hr.mono (by decide)) (by rfl) T.g_do_clash T.F_do_clash.kp T.b_do_clash .nil pass0 (pa_cons (pv 0) (pa_cons (pv 1) pa_nil))) (pa_cons (pe_call (ok_do_clash T) (hr.mono (by decide)) (by rfl) T.g_do_clash T.F_do_clash.kp T.b_do_clash .nil pass0 (pa_cons (pv 1) (pa_cons (pv 0) pa_nil))) pa_nil)))) (pg_name (i := 3) sc_l_right.nd rfl (by first | exact Or.inl rfl | exact Or.inr rfl)) (pss_one (ps_if (PW.pt (pw_or (pt_not (pt_val (pe_callB call_isi (by rfl) T.m_isinstance (by decide +kernel) (pa_cons (pv 3) (pa_cons (pe_bltn (v := .ty "bool") (by rfl) T.m_bool (by decide +kernel) rfl) pa_nil))))) (pw_or1 (pt_cmpR op_ne (pv 3) (pv 2) (nomark _))))) (pss_one (ps_ret pe_bl)) pss_nil)))
        (pss_one (ps_ret pe_bl)))), ?_⟩
    refine ⟨_, rfl, _, rfl, x, y, r, t, rfl, hx, hy, wr, wt, fun b H1 s1 hb => ?_⟩
    have hx1 := Same.row s1 hx
    have hy1 := Same.row s1 hy
    refine ⟨_, rfl, _, rfl, x, y, r, t, rfl, hx1, hy1, wr, wt, trivial, fun b1 hb1 => ?_⟩
    refine ⟨_, rfl, _, rfl, y, x, t, r, rfl, hy1, hx1, wt, wr, trivial, fun b2 hb2 => ?_⟩
    have e1 : b1 = b := Bool.eq_iff_iff.mpr (hb1.trans hb.symm)
    have e2 : b2 = b := Bool.eq_iff_iff.mpr (hb2.trans ((clash_comm t r).trans hb.symm))
    subst e1
    subst e2
    refine ⟨(by show 2 ≤ sizeLine; decide), fun l nl => ⟨l, rfl, ⟨_, SqL.of upd_same⟩, ?_⟩⟩
    have s2 : Same H (upd H1 l (.lst [.bl b2, .bl b2])) := same_mut s1 (s1.free nl)
    refine for_list (K := K) (a := l) (xs := [.bl b2, .bl b2]) (fun i σ H' => (∃ v, σ = [some (.ref x), some (.ref y), some (.bl b2), v]) ∧ H' = upd H1 l (.lst [.bl b2, .bl b2])) ⟨⟨none, rfl⟩, rfl⟩ (fun i σ H' _ h => by rw [h.2]; exact SqL.of upd_same) ?_ ?_
    · rintro i v σ H' hv ⟨⟨v0, rfl⟩, rfl⟩
      have ev : v = .bl b2 := by
        match i, hv with
        | 0, hv => exact (Option.some.inj hv).symm
        | 1, hv => exact (Option.some.inj hv).symm
      subst ev
      refine ⟨_, rfl, _, _, _, _, true, rfl, ClsV.ty "bool", TyX.base (.bl b2), kit_ty (by decide +kernel), _, rfl, iteF ?_⟩
      refine ⟨_, rfl, _, rfl, rfl, _, rfl, iteNS rfl ?_⟩
      exact ⟨⟨_, rfl⟩, rfl⟩
    · rintro σ H' ⟨⟨v0, rfl⟩, rfl⟩
      exact q _ s2
def sp_law (K : PySem.W.Frag) : Sp := fun vs H Q _ => ∃ (a : Addr) (ns : List Int), vs = [.ref a] ∧ SqL K H a (ns.map V.int) ∧ ns.length ≤ 63 ∧ ∀ H', Q (.bl true) H'
/-! the rows at the places of a list -/
def RowsAt (H : Hp) (hs : List Str) (vs : List V) : Prop := ∀ v ∈ vs, ∃ a r, v = .ref a ∧ RowAt H a r ∧ r.Wf ∧ r.In hs
theorem RowsAt.step {p c : Addr} {H H' : Hp} {hs : List Str} {vs : List V} (h : RowsAt H hs vs) (hP : Pen H p c) (s : Stp p c H H') : RowsAt H' hs vs := fun v hv => by
  obtain ⟨a, r, e, ha, w⟩ := h v hv
  exact ⟨a, r, e, s.tup hP ha, w⟩
theorem RowsAt.put {H : Hp} {hs : List Str} {vs : List V} {l : Addr} {o u : HO} (h : RowsAt H hs vs) (hl : H l = some o) (hn : ∀ xs, o ≠ .tup xs) : RowsAt (upd H l u) hs vs := fun v hv => by
  obtain ⟨a, r, e, ha, w⟩ := h v hv
  refine ⟨a, r, e, ?_, w⟩
  show upd H l u a = _
  rw [upd_ne (ne_of ha hl fun z => hn _ z.symm)]
  exact ha
theorem RowsAt.snoc {H : Hp} {hs : List Str} {vs : List V} {a : Addr} {r : Row} (h : RowsAt H hs vs) (ha : RowAt H a r) (w : r.Wf) (i : r.In hs) : RowsAt H hs (vs ++ [.ref a]) := fun v hv => by
  rcases List.mem_append.mp hv with m | m
  · exact h v m
  · exact ⟨a, r, List.mem_singleton.mp m, ha, w, i⟩
theorem RowsAt.same {H H' : Hp} {hs : List Str} {vs : List V} (h : RowsAt H hs vs) (s : Same H H') : RowsAt H' hs vs := fun v hv => by
  obtain ⟨a, r, e, ha, w⟩ := h v hv
  exact ⟨a, r, e, s _ _ ha, w⟩
theorem Pen.same {p c : Addr} {H H' : Hp} (h : Pen H p c) (s : Same H H') : Pen H' p c := by
  obtain ⟨cs, n, st, h1, h2, h3, h4⟩ := h
  exact ⟨cs, n, st, s _ _ h1, s _ _ h2, h3, h4⟩
theorem TownAt.same {t : Addr} {H H' : Hp} {hs gs : List Str} (h : TownAt H t hs gs) (s : Same H H') : TownAt H' t hs gs := by
  obtain ⟨a, b, h1, h2, h3⟩ := h
  exact ⟨a, b, s _ _ h1, s _ _ h2, s _ _ h3⟩
theorem TownAt.put {t l : Addr} {H : Hp} {hs gs : List Str} {xs : List V} {u : HO} (h : TownAt H t hs gs) (hl : H l = some (.lst xs)) : TownAt (upd H l u) t hs gs := by
  obtain ⟨a, b, h1, h2, h3⟩ := h
  refine ⟨a, b, ?_, ?_, ?_⟩
  · rw [upd_ne (ne_of h1 hl fun z => nomatch z)]
    exact h1
  · rw [upd_ne (ne_of h2 hl fun z => nomatch z)]
    exact h2
  · rw [upd_ne (ne_of h3 hl fun z => nomatch z)]
    exact h3
theorem ok_law (T : Txt K mg af fd) : FnOk P w K mg base CX0 6 (af 19) (fd 19) ["script"] (sp_law K) := by
  refine T.F_law.ok sc_law (fun vs H Q E h => ?_) (fun cdv A outer s H vs Q E hr h => ?_)
  · obtain ⟨a, ns, rfl, _⟩ := h
    rfl
  · obtain ⟨a, ns, rfl, hS, hlen, q⟩ := h
    refine ⟨_, (pss_cons (ps_set (i := 1) sc_law.nd rfl (by first | exact Or.inl rfl | exact Or.inr rfl) (pe_call (ok_l_open T) (hr.mono (by decide)) (by rfl) T.g_l_open T.F_l_open.kp T.b_l_open .nil pass0 (pa_cons (pv 0) pa_nil)))
        (pss_cons (ps_set (i := 2) sc_law.nd rfl (by first | exact Or.inl rfl | exact Or.inr rfl) (pe_call (ok_l_town T) (hr.mono (by decide)) (by rfl) T.g_l_town T.F_l_town.kp T.b_l_town .nil pass0 (pa_cons (pv 1) (pa_cons pe_int pa_nil))))
        (pss_cons (ps_for PassesOwn.never rfl (pi_range1 (by rfl) T.m_range (pa_cons pe_int pa_nil)) (pg_name (i := 3) sc_law.nd rfl (by first | exact Or.inl rfl | exact Or.inr rfl)) (pss_cons (ps_setLc (i := 4) (own := [("k", 5)]) (g := gName 5) (by rfl) sc_law.nd rfl rfl (sw_true rfl rfl rfl (by decide +kernel)) (pi_range1 (by rfl) T.m_range (pa_cons pe_int pa_nil)) (blkOk_by (own := [("k", 5)]) (N := ["script", "pen", "town", "turn", "rows", "k", "one", "other"]) (sc := defScope s_law) (by decide +kernel)) (fun _ _ _ _ _ => pg_name (i := 5) sc_law.nd rfl (Or.inl rfl)) (fun _ _ _ _ _ => pts_nil) (fun _ _ _ _ _ => (pe_call (ok_l_few_row T) (hr.mono (by decide)) (by rfl) T.g_l_few_row T.F_l_few_row.kp T.b_l_few_row .nil pass0 (pa_cons (pe_call (ok_l_anew T) (hr.mono (by decide)) (by rfl) T.g_l_anew T.F_l_anew.kp T.b_l_anew .nil pass0 (pa_cons (pv 1) pa_nil)) (pa_cons (pv 2) pa_nil)))))
        (pss_cons (ps_expr (pe_bm PySem.F.plainAttrs_list PySem.F.slot_list_append PySem.F.type_list_append mt_append (pv 4) (pa_cons (pe_call (ok_l_any_row T) (hr.mono (by decide)) (by rfl) T.g_l_any_row T.F_l_any_row.kp T.b_l_any_row .nil pass0 (pa_cons (pv 1) (pa_cons (pv 2) pa_nil))) pa_nil)))
        (pss_one (ps_for PassesOwn.never rfl (pi_list (pv 4)) (pg_name (i := 6) sc_law.nd rfl (by first | exact Or.inl rfl | exact Or.inr rfl)) (pss_one (ps_for PassesOwn.never rfl (pi_list (pv 4)) (pg_name (i := 7) sc_law.nd rfl (by first | exact Or.inl rfl | exact Or.inr rfl)) (pss_one (ps_if (pt_not (pt_val (pe_call (ok_l_right T) (hr.mono (by decide)) (by rfl) T.g_l_right T.F_l_right.kp T.b_l_right .nil pass0 (pa_cons (pv 6) (pa_cons (pv 7) pa_nil))))) (pss_one (ps_ret pe_bl)) pss_nil)))))))))
        (pss_one (ps_ret pe_bl))))), ?_⟩
    refine ⟨_, rfl, a, ns, rfl, hS, hlen, fun p c H1 s1 np nc hP => ?_⟩
    refine ⟨_, rfl, p, c, 3, rfl, hP, by decide, by decide, fun t hs gs H2 s2 ht hg => ?_⟩
    refine ⟨12, rfl, by decide, by decide, for_range (lo := 0) (n := 12) (fun i σ H' => (∃ v3 v4 v5 v6 v7 : Option V, σ = [some (.ref a), some (.ref p), some (.ref t), v3, v4, v5, v6, v7]) ∧ Pen H' p c ∧ TownAt H' t hs gs)
      ⟨⟨none, none, none, none, none, rfl⟩, s2.1, ht⟩ ?_ ?_⟩
    · rintro i σ H3 hi ⟨⟨v3, v4, v5, v6, v7, rfl⟩, hP3, ht3⟩
      have l1 := hg.one
      have l6 : hs.length ≤ 6 := Nat.le_trans hg.few (by decide)
      -- rows = [..]
      refine ⟨4, rfl, by decide, by decide, fun D nD => lc_range (lo := 0) (n := 4) (fun i H' => Stp p c H3 H' ∧ ∃ vs : List V, H' D = some (.lst vs) ∧ vs.length = i ∧ RowsAt H' hs vs)
        ⟨(Stp.refl hP3).mut hP3 nD, [], upd_same, rfl, fun _ h => nomatch h⟩ ?_ ?_⟩
      · rintro i H4 hi ⟨s4, vs, hD, hl, hv⟩
        refine ⟨rfl, yes_if ?_⟩
        refine ⟨_, rfl, p, c, rfl, s4.1, fun H5 s5 => ?_⟩
        have s45 := s4.trans s5
        refine ⟨_, rfl, p, c, t, hs, gs, rfl, s5.1, s45.town hP3 ht3, l1, l6, fun r xs H6 s6 nr hr hrow => ?_⟩
        have s46 := s45.trans s6
        have hD6 : H6 D = some (.lst vs) := (s5.trans s6).2 D _ (fun e => hP3.neP nD e.symm) hD
        obtain ⟨rr, rfl, rw1, ri⟩ := hrow.row hg.hou
        have hv6 := hv.step s4.1 (s5.trans s6)
        refine ⟨_, hD6, small1000 (by omega), s46.mut hP3 nD, vs ++ [.ref r], upd_same, by rw [List.length_append, hl]; rfl, ?_⟩
        exact (RowsAt.snoc hv6 hr rw1 ri).put hD6 (fun _ z => nomatch z)
      · rintro H4 ⟨s4, vs, hD, hl, hv⟩
        -- rows.append(..)
        refine ⟨_, rfl, .inl ⟨rfl, _, SqL.of hD⟩, _, rfl, _, rfl, p, c, t, hs, gs, rfl, s4.1, s4.town hP3 ht3, l1, l6, fun r xs H5 s5 nr hr hrow => ?_⟩
        have s45 := s4.trans s5
        have hD5 : H5 D = some (.lst vs) := s5.2 D _ (fun e => hP3.neP nD e.symm) hD
        obtain ⟨rr, rfl, rw1, ri⟩ := hrow.row hg.hou
        refine ⟨D, _, _, rfl, rfl, hD5, small1000 (by omega), ?_⟩
        have hv5 : RowsAt (upd H5 D (.lst (vs ++ [.ref r]))) hs (vs ++ [.ref r]) := (RowsAt.snoc (hv.step s4.1 s5) hr rw1 ri).put hD5 (fun _ z => nomatch z)
        have s6 : Stp p c H3 (upd H5 D (.lst (vs ++ [.ref r]))) := s45.mut hP3 nD
        have ht6 : TownAt (upd H5 D (.lst (vs ++ [.ref r]))) t hs gs := s6.town hP3 ht3
        have hD6 : upd H5 D (.lst (vs ++ [.ref r])) D = some (.lst (vs ++ [.ref r])) := upd_same
        have hP6 := s6.1
        generalize upd H5 D (.lst (vs ++ [.ref r])) = H6 at hv5 ht6 hD6 hP6 ⊢
        generalize vs ++ [V.ref r] = ws at hv5 hD6
        -- for one in rows
        refine ⟨_, rfl, D, rfl, ⟨_, SqL.of hD6⟩, for_list (K := K) (a := D) (xs := ws) (fun i σ H' => (∃ v3 v5 v6 v7 : Option V, σ = [some (.ref a), some (.ref p), some (.ref t), v3, some (.ref D), v5, v6, v7]) ∧ Same H6 H')
          ⟨⟨_, _, _, _, rfl⟩, Same.refl _⟩ (fun i σ H' _ h => h.2.seq (SqL.of hD6)) ?_ ?_⟩
        · rintro i v σ H7 hiv ⟨⟨v3, v5, v6, v7, rfl⟩, s7⟩
          obtain ⟨x, rx, rfl, hx, wx, _⟩ := hv5 v (List.mem_of_getElem? hiv)
          refine ⟨_, rfl, D, rfl, ⟨_, s7.seq (SqL.of hD6)⟩, for_list (K := K) (a := D) (xs := ws) (fun i σ H' => (∃ v3 v5 v7 : Option V, σ = [some (.ref a), some (.ref p), some (.ref t), v3, some (.ref D), v5, some (.ref x), v7]) ∧ Same H6 H')
            ⟨⟨_, _, _, rfl⟩, s7⟩ (fun i σ H' _ h => h.2.seq (SqL.of hD6)) ?_ ?_⟩
          · rintro j u σ H8 hju ⟨⟨v3, v5, v7, rfl⟩, s8⟩
            obtain ⟨y, ry, rfl, hy, wy, _⟩ := hv5 u (List.mem_of_getElem? hju)
            refine ⟨_, rfl, _, rfl, x, y, rx, ry, rfl, s8 _ _ hx, s8 _ _ hy, wx, wy, fun H9 s9 => ?_⟩
            exact ⟨_, rfl, iteF ⟨⟨_, _, _, rfl⟩, s8.trans s9⟩⟩
          · rintro σ H8 ⟨⟨v3, v5, v7, rfl⟩, s8⟩
            exact ⟨⟨_, _, _, _, rfl⟩, s8⟩
        · rintro σ H7 ⟨⟨v3, v5, v6, v7, rfl⟩, s7⟩
          exact ⟨⟨_, _, _, _, _, rfl⟩, hP6.same s7, ht6.same s7⟩
    · rintro σ H3 ⟨⟨v3, v4, v5, v6, v7, rfl⟩, hP3, ht3⟩
      exact q _

end
theorem all_mk {l : PySem.W.OpenLaw} {w : World} {K : PySem.W.Frag} {h : Heap} {mg : Str → Option Value} {fa : Addr} (X : K.In h) (G : h.Ns mainGlobals mg) (hfa : mg "law" = some (.ref fa))
    {f0 f1 f2 f3 f4 f5 f6 f7 f8 f9 f10 f11 f12 f13 f14 f15 f16 f17 f18 f19 : Addr}
    {od0 an0 od1 an1 od2 an2 od3 an3 od4 an4 od5 an5 od6 an6 od7 an7 od8 an8 od9 an9 od10 an10 od11 an11 od12 an12 od13 an13 od14 an14 od15 an15 od16 an16 od17 an17 od18 an18 od19 an19 : Option Addr} {sl0 sl1 sl2 sl3 sl4 sl5 sl6 sl7 sl8 sl9 sl10 sl11 sl12 sl13 sl14 sl15 sl16 sl17 sl18 sl19 : Array (Option Value)} {oc0 kV0 dc0 pm0 cd0 ct0 oc1 kV1 dc1 pm1 cd1 ct1 oc2 kV2 dc2 pm2 cd2 ct2 oc3 kV3 dc3 pm3 cd3 ct3 oc4 kV4 dc4 pm4 cd4 ct4 oc5 kV5 dc5 pm5 cd5 ct5 oc6 kV6 dc6 pm6 cd6 ct6 oc7 kV7 dc7 pm7 cd7 ct7 oc8 kV8 dc8 pm8 cd8 ct8 oc9 kV9 dc9 pm9 cd9 ct9 oc10 kV10 dc10 pm10 cd10 ct10 oc11 kV11 dc11 pm11 cd11 ct11 oc12 kV12 dc12 pm12 cd12 ct12 oc13 kV13 dc13 pm13 cd13 ct13 oc14 kV14 dc14 pm14 cd14 ct14 oc15 kV15 dc15 pm15 cd15 ct15 oc16 kV16 dc16 pm16 cd16 ct16 oc17 kV17 dc17 pm17 cd17 ct17 oc18 kV18 dc18 pm18 cd18 ct18 oc19 kV19 dc19 pm19 cd19 ct19 : Value}
    (a0 : PySem.W.nsIn K mainGlobals "is_out_of_order" = some (some (.ref f0))) (l0 : K.lookup f0 = some ⟨oc0, od0, .func (PySem.W.fnOf "is_out_of_order" "is_out_of_order" (defArgs s_is_out_of_order) (defBody s_is_out_of_order) (defScope s_is_out_of_order) .none kV0 dc0 pm0 an0 cd0 ct0), sl0⟩) (c0 : PySem.W.codeIn K cd0 "is_out_of_order" = true) (k0 : PySem.W.keepIn K (.ref f0) = true)
    (a1 : PySem.W.nsIn K mainGlobals "do_asks_clash" = some (some (.ref f1))) (l1 : K.lookup f1 = some ⟨oc1, od1, .func (PySem.W.fnOf "do_asks_clash" "do_asks_clash" (defArgs s_do_asks_clash) (defBody s_do_asks_clash) (defScope s_do_asks_clash) .none kV1 dc1 pm1 an1 cd1 ct1), sl1⟩) (c1 : PySem.W.codeIn K cd1 "do_asks_clash" = true) (k1 : PySem.W.keepIn K (.ref f1) = true)
    (a2 : PySem.W.nsIn K mainGlobals "do_jobs_clash" = some (some (.ref f2))) (l2 : K.lookup f2 = some ⟨oc2, od2, .func (PySem.W.fnOf "do_jobs_clash" "do_jobs_clash" (defArgs s_do_jobs_clash) (defBody s_do_jobs_clash) (defScope s_do_jobs_clash) .none kV2 dc2 pm2 an2 cd2 ct2), sl2⟩) (c2 : PySem.W.codeIn K cd2 "do_jobs_clash" = true) (k2 : PySem.W.keepIn K (.ref f2) = true)
    (a3 : PySem.W.nsIn K mainGlobals "do_job_and_ask_clash" = some (some (.ref f3))) (l3 : K.lookup f3 = some ⟨oc3, od3, .func (PySem.W.fnOf "do_job_and_ask_clash" "do_job_and_ask_clash" (defArgs s_do_job_and_ask_clash) (defBody s_do_job_and_ask_clash) (defScope s_do_job_and_ask_clash) .none kV3 dc3 pm3 an3 cd3 ct3), sl3⟩) (c3 : PySem.W.codeIn K cd3 "do_job_and_ask_clash" = true) (k3 : PySem.W.keepIn K (.ref f3) = true)
    (a4 : PySem.W.nsIn K mainGlobals "does_all_row_clash" = some (some (.ref f4))) (l4 : K.lookup f4 = some ⟨oc4, od4, .func (PySem.W.fnOf "does_all_row_clash" "does_all_row_clash" (defArgs s_does_all_row_clash) (defBody s_does_all_row_clash) (defScope s_does_all_row_clash) .none kV4 dc4 pm4 an4 cd4 ct4), sl4⟩) (c4 : PySem.W.codeIn K cd4 "does_all_row_clash" = true) (k4 : PySem.W.keepIn K (.ref f4) = true)
    (a5 : PySem.W.nsIn K mainGlobals "do_alike_sorts_clash" = some (some (.ref f5))) (l5 : K.lookup f5 = some ⟨oc5, od5, .func (PySem.W.fnOf "do_alike_sorts_clash" "do_alike_sorts_clash" (defArgs s_do_alike_sorts_clash) (defBody s_do_alike_sorts_clash) (defScope s_do_alike_sorts_clash) .none kV5 dc5 pm5 an5 cd5 ct5), sl5⟩) (c5 : PySem.W.codeIn K cd5 "do_alike_sorts_clash" = true) (k5 : PySem.W.keepIn K (.ref f5) = true)
    (a6 : PySem.W.nsIn K mainGlobals "do_clash" = some (some (.ref f6))) (l6 : K.lookup f6 = some ⟨oc6, od6, .func (PySem.W.fnOf "do_clash" "do_clash" (defArgs s_do_clash) (defBody s_do_clash) (defScope s_do_clash) .none kV6 dc6 pm6 an6 cd6 ct6), sl6⟩) (c6 : PySem.W.codeIn K cd6 "do_clash" = true) (k6 : PySem.W.keepIn K (.ref f6) = true)
    (a7 : PySem.W.nsIn K mainGlobals "_law_spread" = some (some (.ref f7))) (l7 : K.lookup f7 = some ⟨oc7, od7, .func (PySem.W.fnOf "_law_spread" "_law_spread" (defArgs s_l_spread) (defBody s_l_spread) (defScope s_l_spread) .none kV7 dc7 pm7 an7 cd7 ct7), sl7⟩) (c7 : PySem.W.codeIn K cd7 "_law_spread" = true) (k7 : PySem.W.keepIn K (.ref f7) = true)
    (a8 : PySem.W.nsIn K mainGlobals "_law_open" = some (some (.ref f8))) (l8 : K.lookup f8 = some ⟨oc8, od8, .func (PySem.W.fnOf "_law_open" "_law_open" (defArgs s_l_open) (defBody s_l_open) (defScope s_l_open) .none kV8 dc8 pm8 an8 cd8 ct8), sl8⟩) (c8 : PySem.W.codeIn K cd8 "_law_open" = true) (k8 : PySem.W.keepIn K (.ref f8) = true)
    (a9 : PySem.W.nsIn K mainGlobals "_law_anew" = some (some (.ref f9))) (l9 : K.lookup f9 = some ⟨oc9, od9, .func (PySem.W.fnOf "_law_anew" "_law_anew" (defArgs s_l_anew) (defBody s_l_anew) (defScope s_l_anew) .none kV9 dc9 pm9 an9 cd9 ct9), sl9⟩) (c9 : PySem.W.codeIn K cd9 "_law_anew" = true) (k9 : PySem.W.keepIn K (.ref f9) = true)
    (a10 : PySem.W.nsIn K mainGlobals "_law_take" = some (some (.ref f10))) (l10 : K.lookup f10 = some ⟨oc10, od10, .func (PySem.W.fnOf "_law_take" "_law_take" (defArgs s_l_take) (defBody s_l_take) (defScope s_l_take) .none kV10 dc10 pm10 an10 cd10 ct10), sl10⟩) (c10 : PySem.W.codeIn K cd10 "_law_take" = true) (k10 : PySem.W.keepIn K (.ref f10) = true)
    (a11 : PySem.W.nsIn K mainGlobals "_law_names" = some (some (.ref f11))) (l11 : K.lookup f11 = some ⟨oc11, od11, .func (PySem.W.fnOf "_law_names" "_law_names" (defArgs s_l_names) (defBody s_l_names) (defScope s_l_names) .none kV11 dc11 pm11 an11 cd11 ct11), sl11⟩) (c11 : PySem.W.codeIn K cd11 "_law_names" = true) (k11 : PySem.W.keepIn K (.ref f11) = true)
    (a12 : PySem.W.nsIn K mainGlobals "_law_town" = some (some (.ref f12))) (l12 : K.lookup f12 = some ⟨oc12, od12, .func (PySem.W.fnOf "_law_town" "_law_town" (defArgs s_l_town) (defBody s_l_town) (defScope s_l_town) .none kV12 dc12 pm12 an12 cd12 ct12), sl12⟩) (c12 : PySem.W.codeIn K cd12 "_law_town" = true) (k12 : PySem.W.keepIn K (.ref f12) = true)
    (a13 : PySem.W.nsIn K mainGlobals "_law_do_clash" = some (some (.ref f13))) (l13 : K.lookup f13 = some ⟨oc13, od13, .func (PySem.W.fnOf "_law_do_clash" "_law_do_clash" (defArgs s_l_do_clash) (defBody s_l_do_clash) (defScope s_l_do_clash) .none kV13 dc13 pm13 an13 cd13 ct13), sl13⟩) (c13 : PySem.W.codeIn K cd13 "_law_do_clash" = true) (k13 : PySem.W.keepIn K (.ref f13) = true)
    (a14 : PySem.W.nsIn K mainGlobals "_law_number" = some (some (.ref f14))) (l14 : K.lookup f14 = some ⟨oc14, od14, .func (PySem.W.fnOf "_law_number" "_law_number" (defArgs s_l_number) (defBody s_l_number) (defScope s_l_number) .none kV14 dc14 pm14 an14 cd14 ct14), sl14⟩) (c14 : PySem.W.codeIn K cd14 "_law_number" = true) (k14 : PySem.W.keepIn K (.ref f14) = true)
    (a15 : PySem.W.nsIn K mainGlobals "_law_two_times" = some (some (.ref f15))) (l15 : K.lookup f15 = some ⟨oc15, od15, .func (PySem.W.fnOf "_law_two_times" "_law_two_times" (defArgs s_l_two_times) (defBody s_l_two_times) (defScope s_l_two_times) .none kV15 dc15 pm15 an15 cd15 ct15), sl15⟩) (c15 : PySem.W.codeIn K cd15 "_law_two_times" = true) (k15 : PySem.W.keepIn K (.ref f15) = true)
    (a16 : PySem.W.nsIn K mainGlobals "_law_any_row" = some (some (.ref f16))) (l16 : K.lookup f16 = some ⟨oc16, od16, .func (PySem.W.fnOf "_law_any_row" "_law_any_row" (defArgs s_l_any_row) (defBody s_l_any_row) (defScope s_l_any_row) .none kV16 dc16 pm16 an16 cd16 ct16), sl16⟩) (c16 : PySem.W.codeIn K cd16 "_law_any_row" = true) (k16 : PySem.W.keepIn K (.ref f16) = true)
    (a17 : PySem.W.nsIn K mainGlobals "_law_few_row" = some (some (.ref f17))) (l17 : K.lookup f17 = some ⟨oc17, od17, .func (PySem.W.fnOf "_law_few_row" "_law_few_row" (defArgs s_l_few_row) (defBody s_l_few_row) (defScope s_l_few_row) .none kV17 dc17 pm17 an17 cd17 ct17), sl17⟩) (c17 : PySem.W.codeIn K cd17 "_law_few_row" = true) (k17 : PySem.W.keepIn K (.ref f17) = true)
    (a18 : PySem.W.nsIn K mainGlobals "_law_right" = some (some (.ref f18))) (l18 : K.lookup f18 = some ⟨oc18, od18, .func (PySem.W.fnOf "_law_right" "_law_right" (defArgs s_l_right) (defBody s_l_right) (defScope s_l_right) .none kV18 dc18 pm18 an18 cd18 ct18), sl18⟩) (c18 : PySem.W.codeIn K cd18 "_law_right" = true) (k18 : PySem.W.keepIn K (.ref f18) = true)
    (a19 : PySem.W.nsIn K mainGlobals "law" = some (some (.ref f19))) (l19 : K.lookup f19 = some ⟨oc19, od19, .func (PySem.W.fnOf "law" "law" (defArgs s_law) (defBody s_law) (defScope s_law) .none kV19 dc19 pm19 an19 cd19 ct19), sl19⟩) (c19 : PySem.W.codeIn K cd19 "law" = true) (k19 : PySem.W.keepIn K (.ref f19) = true)
    (z0 : PySem.W.nsIn K mainGlobals "bool" = some none)
    (z1 : PySem.W.nsIn K mainGlobals "enumerate" = some none)
    (z2 : PySem.W.nsIn K mainGlobals "int" = some none)
    (z3 : PySem.W.nsIn K mainGlobals "isinstance" = some none)
    (z4 : PySem.W.nsIn K mainGlobals "len" = some none)
    (z5 : PySem.W.nsIn K mainGlobals "list" = some none)
    (z6 : PySem.W.nsIn K mainGlobals "range" = some none)
    (z7 : PySem.W.nsIn K mainGlobals "sorted" = some none)
    (z8 : PySem.W.nsIn K mainGlobals "tuple" = some none)
    : ∃ fd : FuncData, (∀ (s : Shared) (v : Value), BindsTo s fd ⟨[v], []⟩ [("script", v)]) ∧ ∀ base : Heap, K.In base → base.Ns mainGlobals mg → FnOk l.prog w K mg base CX0 6 fa fd ["script"] (sp_law K) := by
  have e := hfa.symm.trans (PySem.W.mg_of X G a19)
  cases e
  have F0 := fun_mk (st := s_is_out_of_order) l0 c0 k0
  have b0 := F0.binds (ps := ["number", "time", "other_number", "other_time"]) fun _ _ _ _ _ _ us hl => match us, hl with | [_, _, _, _], _ => rfl
  have F1 := fun_mk (st := s_do_asks_clash) l1 c1 k1
  have b1 := F1.binds (ps := ["one", "other"]) fun _ _ _ _ _ _ us hl => match us, hl with | [_, _], _ => rfl
  have F2 := fun_mk (st := s_do_jobs_clash) l2 c2 k2
  have b2 := F2.binds (ps := ["one", "other"]) fun _ _ _ _ _ _ us hl => match us, hl with | [_, _], _ => rfl
  have F3 := fun_mk (st := s_do_job_and_ask_clash) l3 c3 k3
  have b3 := F3.binds (ps := ["job", "ask"]) fun _ _ _ _ _ _ us hl => match us, hl with | [_, _], _ => rfl
  have F4 := fun_mk (st := s_does_all_row_clash) l4 c4 k4
  have b4 := F4.binds (ps := ["all_row", "other"]) fun _ _ _ _ _ _ us hl => match us, hl with | [_, _], _ => rfl
  have F5 := fun_mk (st := s_do_alike_sorts_clash) l5 c5 k5
  have b5 := F5.binds (ps := ["one", "other"]) fun _ _ _ _ _ _ us hl => match us, hl with | [_, _], _ => rfl
  have F6 := fun_mk (st := s_do_clash) l6 c6 k6
  have b6 := F6.binds (ps := ["one", "other"]) fun _ _ _ _ _ _ us hl => match us, hl with | [_, _], _ => rfl
  have F7 := fun_mk (st := s_l_spread) l7 c7 k7
  have b7 := F7.binds (ps := ["cell", "at"]) fun _ _ _ _ _ _ us hl => match us, hl with | [_, _], _ => rfl
  have F8 := fun_mk (st := s_l_open) l8 c8 k8
  have b8 := F8.binds (ps := ["script"]) fun _ _ _ _ _ _ us hl => match us, hl with | [_], _ => rfl
  have F9 := fun_mk (st := s_l_anew) l9 c9 k9
  have b9 := F9.binds (ps := ["pen"]) fun _ _ _ _ _ _ us hl => match us, hl with | [_], _ => rfl
  have F10 := fun_mk (st := s_l_take) l10 c10 k10
  have b10 := F10.binds (ps := ["pen", "many"]) fun _ _ _ _ _ _ us hl => match us, hl with | [_, _], _ => rfl
  have F11 := fun_mk (st := s_l_names) l11 c11 k11
  have b11 := F11.binds (ps := ["pen", "many"]) fun _ _ _ _ _ _ us hl => match us, hl with | [_, _], _ => rfl
  have F12 := fun_mk (st := s_l_town) l12 c12 k12
  have b12 := F12.binds (ps := ["pen", "most"]) fun _ _ _ _ _ _ us hl => match us, hl with | [_, _], _ => rfl
  have F13 := fun_mk (st := s_l_do_clash) l13 c13 k13
  have b13 := F13.binds (ps := ["one", "other"]) fun _ _ _ _ _ _ us hl => match us, hl with | [_, _], _ => rfl
  have F14 := fun_mk (st := s_l_number) l14 c14 k14
  have b14 := F14.binds (ps := ["pen"]) fun _ _ _ _ _ _ us hl => match us, hl with | [_], _ => rfl
  have F15 := fun_mk (st := s_l_two_times) l15 c15 k15
  have b15 := F15.binds (ps := ["pen"]) fun _ _ _ _ _ _ us hl => match us, hl with | [_], _ => rfl
  have F16 := fun_mk (st := s_l_any_row) l16 c16 k16
  have b16 := F16.binds (ps := ["pen", "town"]) fun _ _ _ _ _ _ us hl => match us, hl with | [_, _], _ => rfl
  have F17 := fun_mk (st := s_l_few_row) l17 c17 k17
  have b17 := F17.binds (ps := ["pen", "town"]) fun _ _ _ _ _ _ us hl => match us, hl with | [_, _], _ => rfl
  have F18 := fun_mk (st := s_l_right) l18 c18 k18
  have b18 := F18.binds (ps := ["one", "other"]) fun _ _ _ _ _ _ us hl => match us, hl with | [_, _], _ => rfl
  have F19 := fun_mk (st := s_law) l19 c19 k19
  have b19 := F19.binds (ps := ["script"]) fun _ _ _ _ _ _ us hl => match us, hl with | [_], _ => rfl
  let af : Nat → Addr := fun i => match i with | 0 => f0 | 1 => f1 | 2 => f2 | 3 => f3 | 4 => f4 | 5 => f5 | 6 => f6 | 7 => f7 | 8 => f8 | 9 => f9 | 10 => f10 | 11 => f11 | 12 => f12 | 13 => f13 | 14 => f14 | 15 => f15 | 16 => f16 | 17 => f17 | 18 => f18 | 19 => fa | _ => f0
  let fd : Nat → FuncData := fun i => match i with | 0 => PySem.W.fnOf "is_out_of_order" "is_out_of_order" (defArgs s_is_out_of_order) (defBody s_is_out_of_order) (defScope s_is_out_of_order) .none kV0 dc0 pm0 an0 cd0 ct0 | 1 => PySem.W.fnOf "do_asks_clash" "do_asks_clash" (defArgs s_do_asks_clash) (defBody s_do_asks_clash) (defScope s_do_asks_clash) .none kV1 dc1 pm1 an1 cd1 ct1 | 2 => PySem.W.fnOf "do_jobs_clash" "do_jobs_clash" (defArgs s_do_jobs_clash) (defBody s_do_jobs_clash) (defScope s_do_jobs_clash) .none kV2 dc2 pm2 an2 cd2 ct2 | 3 => PySem.W.fnOf "do_job_and_ask_clash" "do_job_and_ask_clash" (defArgs s_do_job_and_ask_clash) (defBody s_do_job_and_ask_clash) (defScope s_do_job_and_ask_clash) .none kV3 dc3 pm3 an3 cd3 ct3 | 4 => PySem.W.fnOf "does_all_row_clash" "does_all_row_clash" (defArgs s_does_all_row_clash) (defBody s_does_all_row_clash) (defScope s_does_all_row_clash) .none kV4 dc4 pm4 an4 cd4 ct4 | 5 => PySem.W.fnOf "do_alike_sorts_clash" "do_alike_sorts_clash" (defArgs s_do_alike_sorts_clash) (defBody s_do_alike_sorts_clash) (defScope s_do_alike_sorts_clash) .none kV5 dc5 pm5 an5 cd5 ct5 | 6 => PySem.W.fnOf "do_clash" "do_clash" (defArgs s_do_clash) (defBody s_do_clash) (defScope s_do_clash) .none kV6 dc6 pm6 an6 cd6 ct6 | 7 => PySem.W.fnOf "_law_spread" "_law_spread" (defArgs s_l_spread) (defBody s_l_spread) (defScope s_l_spread) .none kV7 dc7 pm7 an7 cd7 ct7 | 8 => PySem.W.fnOf "_law_open" "_law_open" (defArgs s_l_open) (defBody s_l_open) (defScope s_l_open) .none kV8 dc8 pm8 an8 cd8 ct8 | 9 => PySem.W.fnOf "_law_anew" "_law_anew" (defArgs s_l_anew) (defBody s_l_anew) (defScope s_l_anew) .none kV9 dc9 pm9 an9 cd9 ct9 | 10 => PySem.W.fnOf "_law_take" "_law_take" (defArgs s_l_take) (defBody s_l_take) (defScope s_l_take) .none kV10 dc10 pm10 an10 cd10 ct10 | 11 => PySem.W.fnOf "_law_names" "_law_names" (defArgs s_l_names) (defBody s_l_names) (defScope s_l_names) .none kV11 dc11 pm11 an11 cd11 ct11 | 12 => PySem.W.fnOf "_law_town" "_law_town" (defArgs s_l_town) (defBody s_l_town) (defScope s_l_town) .none kV12 dc12 pm12 an12 cd12 ct12 | 13 => PySem.W.fnOf "_law_do_clash" "_law_do_clash" (defArgs s_l_do_clash) (defBody s_l_do_clash) (defScope s_l_do_clash) .none kV13 dc13 pm13 an13 cd13 ct13 | 14 => PySem.W.fnOf "_law_number" "_law_number" (defArgs s_l_number) (defBody s_l_number) (defScope s_l_number) .none kV14 dc14 pm14 an14 cd14 ct14 | 15 => PySem.W.fnOf "_law_two_times" "_law_two_times" (defArgs s_l_two_times) (defBody s_l_two_times) (defScope s_l_two_times) .none kV15 dc15 pm15 an15 cd15 ct15 | 16 => PySem.W.fnOf "_law_any_row" "_law_any_row" (defArgs s_l_any_row) (defBody s_l_any_row) (defScope s_l_any_row) .none kV16 dc16 pm16 an16 cd16 ct16 | 17 => PySem.W.fnOf "_law_few_row" "_law_few_row" (defArgs s_l_few_row) (defBody s_l_few_row) (defScope s_l_few_row) .none kV17 dc17 pm17 an17 cd17 ct17 | 18 => PySem.W.fnOf "_law_right" "_law_right" (defArgs s_l_right) (defBody s_l_right) (defScope s_l_right) .none kV18 dc18 pm18 an18 cd18 ct18 | 19 => PySem.W.fnOf "law" "law" (defArgs s_law) (defBody s_law) (defScope s_law) .none kV19 dc19 pm19 an19 cd19 ct19 | _ => PySem.W.fnOf "law" "law" (defArgs s_law) (defBody s_law) (defScope s_law) .none kV19 dc19 pm19 an19 cd19 ct19
  have T : Txt K mg af fd := { g_is_out_of_order := PySem.W.mg_of X G a0, F_is_out_of_order := F0, b_is_out_of_order := b0, g_do_asks_clash := PySem.W.mg_of X G a1, F_do_asks_clash := F1, b_do_asks_clash := b1, g_do_jobs_clash := PySem.W.mg_of X G a2, F_do_jobs_clash := F2, b_do_jobs_clash := b2, g_do_job_and_ask_clash := PySem.W.mg_of X G a3, F_do_job_and_ask_clash := F3, b_do_job_and_ask_clash := b3, g_does_all_row_clash := PySem.W.mg_of X G a4, F_does_all_row_clash := F4, b_does_all_row_clash := b4, g_do_alike_sorts_clash := PySem.W.mg_of X G a5, F_do_alike_sorts_clash := F5, b_do_alike_sorts_clash := b5, g_do_clash := PySem.W.mg_of X G a6, F_do_clash := F6, b_do_clash := b6, g_l_spread := PySem.W.mg_of X G a7, F_l_spread := F7, b_l_spread := b7, g_l_open := PySem.W.mg_of X G a8, F_l_open := F8, b_l_open := b8, g_l_anew := PySem.W.mg_of X G a9, F_l_anew := F9, b_l_anew := b9, g_l_take := PySem.W.mg_of X G a10, F_l_take := F10, b_l_take := b10, g_l_names := PySem.W.mg_of X G a11, F_l_names := F11, b_l_names := b11, g_l_town := PySem.W.mg_of X G a12, F_l_town := F12, b_l_town := b12, g_l_do_clash := PySem.W.mg_of X G a13, F_l_do_clash := F13, b_l_do_clash := b13, g_l_number := PySem.W.mg_of X G a14, F_l_number := F14, b_l_number := b14, g_l_two_times := PySem.W.mg_of X G a15, F_l_two_times := F15, b_l_two_times := b15, g_l_any_row := PySem.W.mg_of X G a16, F_l_any_row := F16, b_l_any_row := b16, g_l_few_row := PySem.W.mg_of X G a17, F_l_few_row := F17, b_l_few_row := b17, g_l_right := PySem.W.mg_of X G a18, F_l_right := F18, b_l_right := b18, g_law := PySem.W.mg_of X G a19, F_law := F19, b_law := b19, m_bool := PySem.W.mg_none_of X G z0, m_enumerate := PySem.W.mg_none_of X G z1, m_int := PySem.W.mg_none_of X G z2, m_isinstance := PySem.W.mg_none_of X G z3, m_len := PySem.W.mg_none_of X G z4, m_list := PySem.W.mg_none_of X G z5, m_range := PySem.W.mg_none_of X G z6, m_sorted := PySem.W.mg_none_of X G z7, m_tuple := PySem.W.mg_none_of X G z8 }
  exact ⟨fd 19, fun s v => .of_eq rfl, fun base _ _ => ok_law T⟩
end Gp
open PySem PySem.W PyProof.Rows
set_option maxHeartbeats 0 in
theorem PySem.Challenge.cw_gapcalls_k03_rows_that_clash_holds : PySem.Challenge.rw_gapcalls_k03_rows_that_clash.Holds := by
  w_on; o_law; k_head; (case hw => w_witness2)
  k_fill
  refine L2.walk_of (l := PySem.Challenge.rw_gapcalls_k03_rows_that_clash) (n := 63) (k := 6) (x := "script") (CX := fun _ => L2.CX0) (sp := fun w => Gp.sp_law _) rfl (by decide) rfl ⟨rfl, by decide, by decide⟩ (fun w h Y => PySem.W.kIn_of Y) ?F (fun _ _ a ns hl _ hS => ⟨a, ns, rfl, hS, hl, fun _ => rfl⟩) (fun _ _ _ _ _ h => h)
  case F =>
    intro w mg fa h KX G hmg
    refine' Gp.all_mk KX G hmg ?a0 ?l0 ?c0 ?k0 ?a1 ?l1 ?c1 ?k1 ?a2 ?l2 ?c2 ?k2 ?a3 ?l3 ?c3 ?k3 ?a4 ?l4 ?c4 ?k4 ?a5 ?l5 ?c5 ?k5 ?a6 ?l6 ?c6 ?k6 ?a7 ?l7 ?c7 ?k7 ?a8 ?l8 ?c8 ?k8 ?a9 ?l9 ?c9 ?k9 ?a10 ?l10 ?c10 ?k10 ?a11 ?l11 ?c11 ?k11 ?a12 ?l12 ?c12 ?k12 ?a13 ?l13 ?c13 ?k13 ?a14 ?l14 ?c14 ?k14 ?a15 ?l15 ?c15 ?k15 ?a16 ?l16 ?c16 ?k16 ?a17 ?l17 ?c17 ?k17 ?a18 ?l18 ?c18 ?k18 ?a19 ?l19 ?c19 ?k19 ?z0 ?z1 ?z2 ?z3 ?z4 ?z5 ?z6 ?z7 ?z8
    (case a0 => k_is)
    (case l0 => k_is)
    (case c0 => k_is)
    (case k0 => k_is)
    (case a1 => k_is)
    (case l1 => k_is)
    (case c1 => k_is)
    (case k1 => k_is)
    (case a2 => k_is)
    (case l2 => k_is)
    (case c2 => k_is)
    (case k2 => k_is)
    (case a3 => k_is)
    (case l3 => k_is)
    (case c3 => k_is)
    (case k3 => k_is)
    (case a4 => k_is)
    (case l4 => k_is)
    (case c4 => k_is)
    (case k4 => k_is)
    (case a5 => k_is)
    (case l5 => k_is)
    (case c5 => k_is)
    (case k5 => k_is)
    (case a6 => k_is)
    (case l6 => k_is)
    (case c6 => k_is)
    (case k6 => k_is)
    (case a7 => k_is)
    (case l7 => k_is)
    (case c7 => k_is)
    (case k7 => k_is)
    (case a8 => k_is)
    (case l8 => k_is)
    (case c8 => k_is)
    (case k8 => k_is)
    (case a9 => k_is)
    (case l9 => k_is)
    (case c9 => k_is)
    (case k9 => k_is)
    (case a10 => k_is)
    (case l10 => k_is)
    (case c10 => k_is)
    (case k10 => k_is)
    (case a11 => k_is)
    (case l11 => k_is)
    (case c11 => k_is)
    (case k11 => k_is)
    (case a12 => k_is)
    (case l12 => k_is)
    (case c12 => k_is)
    (case k12 => k_is)
    (case a13 => k_is)
    (case l13 => k_is)
    (case c13 => k_is)
    (case k13 => k_is)
    (case a14 => k_is)
    (case l14 => k_is)
    (case c14 => k_is)
    (case k14 => k_is)
    (case a15 => k_is)
    (case l15 => k_is)
    (case c15 => k_is)
    (case k15 => k_is)
    (case a16 => k_is)
    (case l16 => k_is)
    (case c16 => k_is)
    (case k16 => k_is)
    (case a17 => k_is)
    (case l17 => k_is)
    (case c17 => k_is)
    (case k17 => k_is)
    (case a18 => k_is)
    (case l18 => k_is)
    (case c18 => k_is)
    (case k18 => k_is)
    (case a19 => k_is)
    (case l19 => k_is)
    (case c19 => k_is)
    (case k19 => k_is)
    (case z0 => k_is)
    (case z1 => k_is)
    (case z2 => k_is)
    (case z3 => k_is)
    (case z4 => k_is)
    (case z5 => k_is)
    (case z6 => k_is)
    (case z7 => k_is)
    (case z8 => k_is)
