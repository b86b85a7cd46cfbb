/- What pacer's calls answer, in plain numbers. -/
import Derived.Test.YtifgdpokmgibgaaSLeaf
namespace Go.Proofs.Ytifgdpokmgibgaa
open Go.RowKit
set_option linter.unusedVariables false
set_option linter.unusedSimpArgs false
attribute [local go_sem] Oper.semAt_some


/-- A bucket: its rate, burst, tokens, last. -/
structure Pc where
  r : Int
  b : Int
  t : Int
  l : Int
def pcZ : Pc := ⟨0, 0, 0, 0⟩
def I64 (x : Int) : Prop := -9223372036854775808 ≤ x ∧ x ≤ 9223372036854775807
structure PcI (p : Pc) : Prop where
  r : I64 p.r
  b : I64 p.b
  t : I64 p.t
  l : I64 p.l
def szB (n : Int) : Bool := decide (0 ≤ n ∧ n ≤ 1073741824)
def rtB (n : Int) : Bool := decide (1 ≤ n ∧ n ≤ 1099511627776)
def Ok (p : Pc) : Prop := (1 ≤ p.r ∧ p.r ≤ 1099511627776) ∧ (1 ≤ p.b ∧ p.b ≤ 1073741824) ∧ (-1073741824000000 ≤ p.t ∧ p.t ≤ p.b * 1000000) ∧ (0 ≤ p.l ∧ p.l ≤ 1125899906842624)
/-- P20.1. -/
def okB (p : Pc) : Bool := decide ((1 ≤ p.r ∧ p.r ≤ 1099511627776) ∧ (1 ≤ p.b ∧ p.b ≤ 1073741824) ∧ (-1073741824000000 ≤ p.t ∧ p.t ≤ p.b * 1000000) ∧ (0 ≤ p.l ∧ p.l ≤ 1125899906842624))
def chkE (p : Pc) : Int := if okB p = true then 0 else 230
theorem ok_out {p : Pc} (h : okB p = true) : Ok p := by
  simp only [okB, decide_eq_true_eq] at h
  exact h
theorem ok_in {p : Pc} (h : Ok p) : okB p = true := by
  simp only [okB, decide_eq_true_eq]
  exact h
theorem ok_no {p : Pc} (h : okB p = false) : ¬ Ok p := fun k => by
  rw [ok_in k] at h
  cases h
theorem sz_out {n : Int} (h : szB n = true) : 0 ≤ n ∧ n ≤ 1073741824 := of_decide_eq_true h
theorem sz_no {n : Int} (h : szB n = false) : ¬ (0 ≤ n ∧ n ≤ 1073741824) := of_decide_eq_false h
theorem rt_out {n : Int} (h : rtB n = true) : 1 ≤ n ∧ n ≤ 1099511627776 := of_decide_eq_true h
theorem rt_no {n : Int} (h : rtB n = false) : ¬ (1 ≤ n ∧ n ≤ 1099511627776) := of_decide_eq_false h
/-- The nearest bucket that may be. -/
def nearP (p : Pc) : Pc := ⟨clampI p.r 1 1099511627776, clampI p.b 1 1073741824, clampI p.t (-1073741824000000) (clampI p.b 1 1073741824 * 1000000), clampI p.l 0 1125899906842624⟩
theorem clamp_in {x a b : Int} (hab : a ≤ b) : a ≤ clampI x a b ∧ clampI x a b ≤ b := by
  unfold clampI; split
  · omega
  · split
    · omega
    · split <;> omega
theorem clamp_eq {x a b : Int} (h : a ≤ x ∧ x ≤ b) : clampI x a b = x := by
  unfold clampI; rw [if_neg (by omega), if_neg (by omega), if_neg (by omega)]
theorem near_ok {p : Pc} (h : Ok p) : nearP p = p := by
  obtain ⟨h1, h2, h3, h4⟩ := h
  cases p
  simp only [nearP] at *
  rw [clamp_eq h1, clamp_eq h2, clamp_eq h3, clamp_eq h4]
theorem near_no {p : Pc} (h : ¬ Ok p) : p ≠ nearP p := by
  intro e
  apply h
  have hb := clamp_in (x := p.b) (a := 1) (b := 1073741824) (by omega)
  have e1 : p.r = clampI p.r 1 1099511627776 := congrArg Pc.r e
  have e2 : p.b = clampI p.b 1 1073741824 := congrArg Pc.b e
  have e3 : p.t = clampI p.t (-1073741824000000) (clampI p.b 1 1073741824 * 1000000) := congrArg Pc.t e
  have e4 : p.l = clampI p.l 0 1125899906842624 := congrArg Pc.l e
  have h1 := clamp_in (x := p.r) (a := 1) (b := 1099511627776) (by omega)
  have h3 := clamp_in (x := p.t) (a := -1073741824000000) (b := clampI p.b 1 1073741824 * 1000000) (by omega)
  have h4 := clamp_in (x := p.l) (a := 0) (b := 1125899906842624) (by omega)
  rw [← e2] at h3 hb
  rw [← e1] at h1
  rw [← e4] at h4
  rw [← e2] at e3
  rw [← e3] at h3
  exact ⟨h1, hb, h3, h4⟩
/-- P20.2: Fill. -/
def inB (p : Pc) (now : Int) : Bool := decide (p.l ≤ now ∧ now ≤ 1125899906842624)
theorem in_out {p : Pc} {n : Int} (h : inB p n = true) : p.l ≤ n ∧ n ≤ 1125899906842624 := of_decide_eq_true h
theorem in_no {p : Pc} {n : Int} (h : inB p n = false) : ¬ (p.l ≤ n ∧ n ≤ 1125899906842624) := of_decide_eq_false h
def fillT (p : Pc) (now : Int) : Int := min (p.t + p.r * (now - p.l)) (p.b * 1000000)
def fllQ (p : Pc) (now : Int) : Pc := if okB p = true then if inB p now = true then ⟨p.r, p.b, fillT p now, now⟩ else pcZ else pcZ
def fllE (p : Pc) (now : Int) : Int := if okB p = true then if inB p now = true then 0 else 2 else 230
/-- P20.2: May, Take. -/
def mayB (p : Pc) (n : Int) : Bool := okB p && (szB n && (decide (n * 1000000 ≤ p.t) || decide (p.t = p.b * 1000000)))
def tkeQ (p : Pc) (n : Int) : Pc := if okB p = true then if mayB p n = true then ⟨p.r, p.b, p.t - n * 1000000, p.l⟩ else pcZ else pcZ
def tkeE (p : Pc) (n : Int) : Int := if okB p = true then if mayB p n = true then 0 else 2 else 230
/-- P20.2: When. -/
def misI (p : Pc) (n : Int) : Int := max (min n p.b * 1000000 - p.t) 0
def waitI (p : Pc) (n : Int) : Int := (misI p n + p.r - 1).tdiv p.r
def whnI (p : Pc) (n : Int) : Int := if okB p = true then if szB n = true then min (p.l + waitI p n) 1125899906842624 else 0 else 0
def whnE (p : Pc) (n : Int) : Int := if okB p = true then if szB n = true then 0 else 2 else 230
/-- P20.2: Set. -/
def setQ (p : Pc) (n : Int) : Pc := if okB p = true then if rtB n = true then ⟨n, p.b, p.t, p.l⟩ else pcZ else pcZ
def setE (p : Pc) (n : Int) : Int := if okB p = true then if rtB n = true then 0 else 2 else 230
/-- P20.1: New. -/
def newP (r b l : Int) : Pc := ⟨r, b, b * 1000000, l⟩
def newB (r b l : Int) : Bool := rtB r && decide ((1 ≤ b ∧ b ≤ 1073741824) ∧ (0 ≤ l ∧ l ≤ 1125899906842624))
def newQ (r b l : Int) : Pc := if newB r b l = true then newP r b l else pcZ
def newE (r b l : Int) : Int := if newB r b l = true then 0 else 2
/-- The product, and what becomes of it. -/
theorem fill_sum {p : Pc} {now : Int} (h : Ok p) (hn : p.l ≤ now ∧ now ≤ 1125899906842624) : min (sumI p.t (mulDivI p.r (now - p.l) 1)) (p.b * 1000000) = fillT p now := by
  obtain ⟨h1, h2, h3, h4⟩ := h
  have hd : 0 ≤ now - p.l := by omega
  obtain ⟨d, hd2⟩ : ∃ d, now - p.l = d := ⟨_, rfl⟩
  unfold fillT
  rw [hd2] at hd ⊢
  have hp : 0 ≤ p.r * d := Int.mul_nonneg (by omega) hd
  unfold mulDivI
  rw [if_neg (by omega), Int.ediv_one]
  obtain ⟨x, hx⟩ : ∃ x, p.r * d = x := ⟨_, rfl⟩
  rw [hx] at hp ⊢
  unfold sumI
  by_cases hb : 9223372036854775807 < x
  · rw [if_pos hb]
    by_cases hc : 9223372036854775807 < p.t + 9223372036854775807
    · rw [if_pos hc]; omega
    · rw [if_neg hc, if_neg (by omega)]; omega
  · rw [if_neg hb]
    by_cases hc : 9223372036854775807 < p.t + x
    · rw [if_pos hc]; omega
    · rw [if_neg hc, if_neg (by omega)]
theorem fill_min {p : Pc} {now : Int} (h : Ok p) (hn : p.l ≤ now ∧ now ≤ 1125899906842624) : p.t + min (p.b * 1000000 - p.t) (mulDivI p.r (now - p.l) 1) = fillT p now := by
  obtain ⟨h1, h2, h3, h4⟩ := h
  have hd : 0 ≤ now - p.l := by omega
  obtain ⟨d, hd2⟩ : ∃ d, now - p.l = d := ⟨_, rfl⟩
  unfold fillT
  rw [hd2] at hd ⊢
  have hp : 0 ≤ p.r * d := Int.mul_nonneg (by omega) hd
  unfold mulDivI
  rw [if_neg (by omega), Int.ediv_one]
  obtain ⟨x, hx⟩ : ∃ x, p.r * d = x := ⟨_, rfl⟩
  rw [hx] at hp ⊢
  by_cases hb : 9223372036854775807 < x
  · rw [if_pos hb]; omega
  · rw [if_neg hb]; omega
theorem md_bd {p : Pc} {now : Int} (h : Ok p) (hn : p.l ≤ now) : 0 ≤ mulDivI p.r (now - p.l) 1 ∧ mulDivI p.r (now - p.l) 1 ≤ 9223372036854775807 := by
  have hp : 0 ≤ p.r * (now - p.l) := Int.mul_nonneg (by have := h.1; omega) (by omega)
  unfold mulDivI
  rw [if_neg (by have := h.1; omega), Int.ediv_one]
  split <;> omega
theorem fill_ok {p : Pc} {now : Int} (h : Ok p) (hn : p.l ≤ now ∧ now ≤ 1125899906842624) : p.t ≤ fillT p now ∧ fillT p now ≤ p.b * 1000000 ∧ Ok ⟨p.r, p.b, fillT p now, now⟩ := by
  obtain ⟨h1, h2, h3, h4⟩ := h
  have hp : 0 ≤ p.r * (now - p.l) := Int.mul_nonneg (by omega) (by omega)
  have : p.t ≤ fillT p now ∧ fillT p now ≤ p.b * 1000000 := by unfold fillT; omega
  refine ⟨this.1, this.2, h1, h2, ?_, ?_⟩
  · show -1073741824000000 ≤ fillT p now ∧ fillT p now ≤ p.b * 1000000
    omega
  · show 0 ≤ now ∧ now ≤ 1125899906842624
    omega
theorem mis_bd {p : Pc} {n : Int} (h : Ok p) (hn : 0 ≤ n ∧ n ≤ 1073741824) : 0 ≤ misI p n ∧ misI p n ≤ 2147483648000000 := by
  obtain ⟨h1, h2, h3, h4⟩ := h
  unfold misI; omega
theorem wait_eq {p : Pc} {n : Int} (h : Ok p) (hn : 0 ≤ n ∧ n ≤ 1073741824) : waitI p n = (misI p n + p.r - 1) / p.r := by
  have := mis_bd h hn
  unfold waitI
  exact Int.tdiv_eq_ediv_of_nonneg (by have := h.1; omega)
/-- The wait: the least number of microseconds that give what is missing. -/
theorem wait_is {p : Pc} {n : Int} (h : Ok p) (hn : 0 ≤ n ∧ n ≤ 1073741824) : 0 ≤ waitI p n ∧ waitI p n ≤ 2147483648000000 ∧ misI p n ≤ p.r * waitI p n ∧ (misI p n = 0 → waitI p n = 0) ∧ (0 < misI p n → p.r * (waitI p n - 1) < misI p n ∧ 1 ≤ waitI p n) := by
  have hm := mis_bd h hn
  rw [wait_eq h hn]
  have hr := h.1
  obtain ⟨m, hm2⟩ : ∃ m, misI p n = m := ⟨_, rfl⟩
  rw [hm2] at hm ⊢
  have h1 := Int.mul_ediv_add_emod (m + p.r - 1) p.r
  have h2 := Int.emod_nonneg (m + p.r - 1) (show p.r ≠ 0 by omega)
  have h3 := Int.emod_lt_of_pos (m + p.r - 1) (show 0 < p.r by omega)
  have h4 : 0 ≤ (m + p.r - 1) / p.r := Int.ediv_nonneg (by omega) (by omega)
  obtain ⟨k, hk⟩ : ∃ k, (m + p.r - 1) / p.r = k := ⟨_, rfl⟩
  rw [hk] at h1 h4 ⊢
  obtain ⟨e, he⟩ : ∃ e, (m + p.r - 1) % p.r = e := ⟨_, rfl⟩
  rw [he] at h1 h2 h3
  have h5 : p.r * (k - 1) = p.r * k - p.r := by rw [Int.mul_sub, Int.mul_one]
  refine ⟨h4, ?_, by omega, fun h0 => ?_, fun h0 => ⟨by rw [h5]; omega, ?_⟩⟩
  · rcases Int.lt_or_le 2147483648000000 k with hc | hc
    · exfalso
      have h6 : p.r * 2147483648000001 ≤ p.r * k := Int.mul_le_mul_of_nonneg_left (by omega) (by omega)
      omega
    · exact hc
  · subst h0
    rcases Int.lt_or_le 0 k with hc | hc
    · exfalso
      have h6 : p.r * 1 ≤ p.r * k := Int.mul_le_mul_of_nonneg_left (by omega) (by omega)
      omega
    · omega
  · rcases Int.lt_or_le k 1 with hc | hc
    · exfalso
      have : k = 0 := by omega
      subst this
      rw [Int.mul_zero] at h1
      omega
    · exact hc
end Go.Proofs.Ytifgdpokmgibgaa
