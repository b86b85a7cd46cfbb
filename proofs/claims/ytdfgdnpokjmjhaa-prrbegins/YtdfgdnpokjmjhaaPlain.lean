/- What prr's calls answer, in plain numbers. -/
import Derived.Test.YtdfgdnpokjmjhaaSPlain
import Derived.WalkKit
import Derived.ProofKit
import Derived.OpenShut
import Derived.ChangeOld
namespace Go.Proofs.Ytdfgdnpokjmjhaa
open Go.ChangeShapes Go.WideShapes Go.ChangeAt Go.RowKit
set_option linter.unusedVariables false


def I64 (x : Int) : Prop := -9223372036854775808 ≤ x ∧ x ≤ 9223372036854775807
/-- A state of a recovery: given, out, flight. -/
structure Pr where
  g : Int
  o : Int
  f : Int
def zP : Pr := ⟨0, 0, 0⟩
/-- P14.1: may it be? -/
def okB (p : Pr) : Bool := decide (0 ≤ p.g ∧ p.g ≤ 1125899906842624 ∧ 0 ≤ p.o ∧ p.o ≤ 1125899906842624 ∧ 1 ≤ p.f ∧ p.f ≤ 1073741824)
theorem ok_out {g o f : Int} (k : okB ⟨g, o, f⟩ = true) : 0 ≤ g ∧ g ≤ 1125899906842624 ∧ 0 ≤ o ∧ o ≤ 1125899906842624 ∧ 1 ≤ f ∧ f ≤ 1073741824 := of_decide_eq_true k
theorem ok_in {g o f : Int} (k : 0 ≤ g ∧ g ≤ 1125899906842624 ∧ 0 ≤ o ∧ o ≤ 1125899906842624 ∧ 1 ≤ f ∧ f ≤ 1073741824) : okB ⟨g, o, f⟩ = true := decide_eq_true k
theorem ok_not {g o f : Int} (k : okB ⟨g, o, f⟩ = false) : ¬ (0 ≤ g ∧ g ≤ 1125899906842624 ∧ 0 ≤ o ∧ o ≤ 1125899906842624 ∧ 1 ≤ f ∧ f ≤ 1073741824) := of_decide_eq_false k
def chkE (p : Pr) : Int := if okB p = true then 0 else 230
theorem clamp_in {x l h : Int} (k : l ≤ h) : l ≤ clampI x l h ∧ clampI x l h ≤ h := by unfold clampI; split <;> (try split) <;> (try split) <;> omega
theorem clamp_self {x l h : Int} (k : l ≤ x) (k2 : x ≤ h) : clampI x l h = x := by unfold clampI; rw [if_neg (by omega), if_neg (by omega), if_neg (by omega)]
theorem clamp_min {x h : Int} (k : 0 ≤ x) (k2 : 0 ≤ h) : clampI x 0 h = min x h := by unfold clampI; rw [if_neg (by omega), if_neg (by omega)]; split <;> omega
theorem near_iff (g o f : Int) : (clampI g 0 1125899906842624 = g ∧ clampI o 0 1125899906842624 = o ∧ clampI f 1 1073741824 = f) ↔ okB ⟨g, o, f⟩ = true := by
  have a1 := @clamp_in g 0 1125899906842624 (by omega)
  have a2 := @clamp_in o 0 1125899906842624 (by omega)
  have a3 := @clamp_in f 1 1073741824 (by omega)
  constructor
  · rintro ⟨h1, h2, h3⟩
    rw [h1] at a1; rw [h2] at a2; rw [h3] at a3
    exact ok_in ⟨a1.1, a1.2, a2.1, a2.2, a3.1, a3.2⟩
  · intro k
    have := ok_out k
    exact ⟨clamp_self (by omega) (by omega), clamp_self (by omega) (by omega), clamp_self (by omega) (by omega)⟩
def szB (n : Int) : Bool := decide (0 ≤ n ∧ n ≤ 1073741824)
def offB (n : Int) : Bool := decide (0 ≤ n ∧ n ≤ 1125899906842624)
def argB (n p s m : Int) : Bool := decide ((0 ≤ n ∧ n ≤ 1073741824) ∧ (0 ≤ p ∧ p ≤ 1073741824) ∧ (0 ≤ s ∧ s ≤ 1073741824) ∧ 1 ≤ m ∧ m ≤ 65000)
theorem sz_out {n : Int} (k : szB n = true) : 0 ≤ n ∧ n ≤ 1073741824 := of_decide_eq_true k
/-- a times b by c, upwards, at most the greatest int. -/
def upI (a b c : Int) : Int := if 9223372036854775807 ≤ a * b / c then 9223372036854775807 else if a * b % c = 0 then a * b / c else a * b / c + 1
theorem up_bd {a b c : Int} (ha : 0 ≤ a) (hb : 0 ≤ b) (hc : 1 ≤ c) : 0 ≤ upI a b c ∧ upI a b c ≤ 9223372036854775807 := by
  have : 0 ≤ a * b / c := Int.ediv_nonneg (Int.mul_nonneg ha hb) (by omega)
  unfold upI; split <;> (try split) <;> omega
theorem rem_eq (a b c : Int) : a % c * b % c = a * b % c := by rw [Int.mul_emod, Int.emod_emod_of_dvd _ (Int.dvd_refl c), ← Int.mul_emod]
theorem up_whole {a b c : Int} (ha : 0 ≤ a) (hb : 0 ≤ b) (hc : 1 ≤ c) (h : a * b % c = 0) : upI a b c = mulDivI a b c := by
  unfold upI mulDivI; rw [if_neg (show ¬ (a < 0 ∨ b < 0 ∨ c ≤ 0) by omega)]
  by_cases k : 9223372036854775807 ≤ a * b / c
  · rw [if_pos k]; split <;> omega
  · rw [if_neg k, if_pos h, if_neg (by omega)]
theorem up_part {a b c : Int} (ha : 0 ≤ a) (hb : 0 ≤ b) (hc : 1 ≤ c) (h : 0 < a * b % c) : upI a b c = sumI (mulDivI a b c) 1 := by
  have h0 : 0 ≤ a * b / c := Int.ediv_nonneg (Int.mul_nonneg ha hb) (by omega)
  unfold upI mulDivI sumI; rw [if_neg (show ¬ (a < 0 ∨ b < 0 ∨ c ≤ 0) by omega)]
  by_cases k : 9223372036854775807 ≤ a * b / c
  · rw [if_pos k]
    by_cases k2 : 9223372036854775807 < a * b / c
    · rw [if_pos k2, if_pos (by omega)]
    · rw [if_neg k2, if_pos (by omega)]
  · rw [if_neg k, if_neg (by omega), if_neg (by omega), if_neg (by omega), if_neg (by omega)]
theorem muldiv_bd {a b c : Int} (ha : 0 ≤ a) (hb : 0 ≤ b) (hc : 1 ≤ c) : 0 ≤ mulDivI a b c ∧ mulDivI a b c ≤ 9223372036854775807 := by
  have h0 : 0 ≤ a * b / c := Int.ediv_nonneg (Int.mul_nonneg ha hb) (by omega)
  unfold mulDivI; rw [if_neg (by omega)]; split <;> omega
/-- The document's way: the products modulo 2^64 are alike if and only if nothing is left over. -/
theorem up_mod {a b c : Int} (ha : 0 ≤ a) (hb : 0 ≤ b) (hc : 1 ≤ c ∧ c ≤ 1073741824) (h : mulDivI a b c ≠ 9223372036854775807) :
    (mulDivI a b c * c % 18446744073709551616 = a * b % 18446744073709551616 → upI a b c = mulDivI a b c) ∧ (mulDivI a b c * c % 18446744073709551616 ≠ a * b % 18446744073709551616 → upI a b c = mulDivI a b c + 1) := by
  have h1 : mulDivI a b c = a * b / c := by
    unfold mulDivI at h ⊢; rw [if_neg (by omega)] at h ⊢
    by_cases k : 9223372036854775807 < a * b / c
    · rw [if_pos k] at h; omega
    · rw [if_neg k]
  rw [h1] at h
  have h2 : ¬ 9223372036854775807 ≤ a * b / c := by
    intro k
    rcases Int.lt_or_eq_of_le k with k | k
    · apply h; rw [← h1]; unfold mulDivI; rw [if_neg (by omega), if_pos k]
    · exact h k.symm
  rw [h1]
  have e := Int.mul_ediv_add_emod (a * b) c
  have r0 : 0 ≤ a * b % c := Int.emod_nonneg _ (by omega)
  have r1 : a * b % c < c := Int.emod_lt_of_pos _ (by omega)
  rw [Int.mul_comm c] at e
  unfold upI
  rw [if_neg h2]
  generalize a * b / c * c = Y at e ⊢
  generalize a * b % c = r at e r0 r1 ⊢
  constructor
  · intro k; rw [if_pos (by omega)]
  · intro k; rw [if_neg (by omega)]
def owedI (g o n m : Int) (s : Bool) : Int := if s = true then max (g - o) n + m else max (g - o) n
def rawI (g o f n p s m : Int) (b : Bool) : Int := if s < p then upI g s f - o else min (s - p) (owedI g o n m b)
def mayI (g o f n p s m : Int) (b : Bool) : Int := if o = 0 then max (max (rawI g o f n p s m b) m) 0 else max (rawI g o f n p s m b) 0
def moreI (g n : Int) : Int := min (g + n) 1125899906842624
/-- P14.2. -/
def givR (x : Pr) (n p s m : Int) : Pr := if okB x = true then if argB n p s m = true then ⟨moreI x.g n, x.o, x.f⟩ else zP else zP
def givQ (x : Pr) (n p s m : Int) (b : Bool) : Int := if okB x = true then if argB n p s m = true then mayI (moreI x.g n) x.o x.f n p s m b else 0 else 0
def givE (x : Pr) (n p s m : Int) : Int := if okB x = true then if argB n p s m = true then 0 else 2 else 230
def sntR (x : Pr) (n : Int) : Pr := if okB x = true then if szB n = true then ⟨x.g, moreI x.o n, x.f⟩ else zP else zP
def sntE (x : Pr) (n : Int) : Int := if okB x = true then if szB n = true then 0 else 2 else 230
def bgnR (n : Int) : Pr := if szB n = true then ⟨0, 0, max n 1⟩ else zP
def bgnE (n : Int) : Int := if szB n = true then 0 else 2
end Go.Proofs.Ytdfgdnpokjmjhaa
