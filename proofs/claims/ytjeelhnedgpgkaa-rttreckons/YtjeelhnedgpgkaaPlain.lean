/- What rtt's calls answer, in plain numbers. -/
import Derived.WalkKit
import Derived.ProofKit
import Derived.OpenShut
import Derived.ChangeOld
namespace Go.Proofs.Ytjeelhnedgpgkaa
open Go.ChangeShapes Go.WideShapes Go.ChangeAt Go.RowKit
set_option linter.unusedVariables false


def I64 (x : Int) : Prop := -9223372036854775808 ≤ x ∧ x ≤ 9223372036854775807
def Ints (s v o l h : Int) : Prop := I64 s ∧ I64 v ∧ I64 o ∧ I64 l ∧ I64 h
/-- An estimator. -/
structure Rt where
  s : Int
  v : Int
  o : Int
  l : Int
  h : Int
def zR : Rt := ⟨0, 0, 0, 0, 0⟩
/-- P11.1: may it be? -/
def okB (r : Rt) : Bool := decide (1 ≤ r.l ∧ r.l ≤ r.h ∧ r.h ≤ 1125899906842624 ∧ r.l ≤ r.o ∧ r.o ≤ r.h ∧ 0 ≤ r.s ∧ r.s ≤ 1125899906842624 ∧ 0 ≤ r.v ∧ r.v ≤ 1125899906842624)
theorem ok_out {s v o l h : Int} (k : okB ⟨s, v, o, l, h⟩ = true) : 1 ≤ l ∧ l ≤ h ∧ h ≤ 1125899906842624 ∧ l ≤ o ∧ o ≤ h ∧ 0 ≤ s ∧ s ≤ 1125899906842624 ∧ 0 ≤ v ∧ v ≤ 1125899906842624 := of_decide_eq_true k
theorem ok_not {s v o l h : Int} (k : okB ⟨s, v, o, l, h⟩ = false) : ¬ (1 ≤ l ∧ l ≤ h ∧ h ≤ 1125899906842624 ∧ l ≤ o ∧ o ≤ h ∧ 0 ≤ s ∧ s ≤ 1125899906842624 ∧ 0 ≤ v ∧ v ≤ 1125899906842624) := of_decide_eq_false k
def chkE (r : Rt) : Int := if okB r = true then 0 else 230
def clampI (x l h : Int) : Int := if x < l ∨ h < l then l else if h < x then h else x
theorem clamp_in {x l h : Int} (k : l ≤ h) : l ≤ clampI x l h ∧ clampI x l h ≤ h := by unfold clampI; split <;> (try split) <;> omega
theorem clamp_self {x l h : Int} (k : l ≤ x) (k2 : x ≤ h) : clampI x l h = x := by unfold clampI; rw [if_neg (by omega), if_neg (by omega)]
def nearH (h : Int) : Int := clampI h 1 1125899906842624
def nearL (l h : Int) : Int := clampI l 1 (nearH h)
def nearO (o l h : Int) : Int := clampI o (nearL l h) (nearH h)
def nearM (s : Int) : Int := clampI s 0 1125899906842624
/-- Nearest is the estimator itself if and only if it may be. -/
theorem near_iff (s v o l h : Int) : (nearM s = s ∧ nearM v = v ∧ nearO o l h = o ∧ nearL l h = l ∧ nearH h = h) ↔ okB ⟨s, v, o, l, h⟩ = true := by
  have a1 := @clamp_in h 1 1125899906842624 (by omega)
  have a2 := @clamp_in l 1 (nearH h) a1.1
  have a3 := @clamp_in o (nearL l h) (nearH h) a2.2
  have a4 := @clamp_in s 0 1125899906842624 (by omega)
  have a5 := @clamp_in v 0 1125899906842624 (by omega)
  constructor
  · rintro ⟨h1, h2, h3, h4, h5⟩
    unfold okB
    apply decide_eq_true
    change nearL l h = l at h4
    unfold nearM at h1 h2
    unfold nearO at h3
    rw [h3] at a3
    unfold nearL at h4 a3
    rw [h4] at a2 a3
    unfold nearH at h5 a2 a3
    rw [h5] at a1 a2 a3
    rw [h1] at a4
    rw [h2] at a5
    simp only
    omega
  · intro k
    have := ok_out k
    have e5 : nearH h = h := clamp_self (by omega) (by omega)
    have e4 : nearL l h = l := by unfold nearL; rw [e5]; exact clamp_self (by omega) (by omega)
    refine ⟨clamp_self (by omega) (by omega), clamp_self (by omega) (by omega), ?_, e4, e5⟩
    unfold nearO; rw [e4, e5]; exact clamp_self (by omega) (by omega)
def rawO (s v : Int) : Int := if 0 < s then s + max 1000 (4 * v) else 1000000
def setR (r : Rt) : Rt := ⟨r.s, r.v, clampI (rawO r.s r.v) r.l r.h, r.l, r.h⟩
def sm1 (r : Rt) (t : Int) : Rt := if r.s = 0 then ⟨t, t / 2, r.o, r.l, r.h⟩ else ⟨(7 * r.s + t) / 8, (3 * r.v + max (r.s - t) (t - r.s)) / 4, r.o, r.l, r.h⟩
/-- P11.2. -/
def smpR (r : Rt) (t : Int) : Rt := if okB r = true then if 1 ≤ t ∧ t ≤ 1125899906842624 then setR (sm1 r t) else zR else zR
def smpE (r : Rt) (t : Int) : Int := if okB r = true then if 1 ≤ t ∧ t ≤ 1125899906842624 then 0 else 2 else 230
def bckR (r : Rt) : Rt := if okB r = true then ⟨r.s, r.v, min (2 * r.o) r.h, r.l, r.h⟩ else zR
def clmR (r : Rt) : Rt := if okB r = true then setR r else zR
def newB (l h : Int) : Bool := decide (1 ≤ l ∧ l ≤ h ∧ h ≤ 1125899906842624)
def newR (l h : Int) : Rt := if newB l h = true then setR ⟨0, 0, 0, l, h⟩ else zR
def newE (l h : Int) : Int := if newB l h = true then 0 else 2
theorem new_ok (l h : Int) : okB (setR ⟨0, 0, 0, l, h⟩) = newB l h := by
  unfold okB newB setR
  rw [Bool.eq_iff_iff]
  simp only [decide_eq_true_eq]
  constructor
  · intro k; exact ⟨k.1, k.2.1, k.2.2.1⟩
  · intro k
    have := @clamp_in (rawO 0 0) l h k.2.1
    omega
/-- What Sample, Back and Calm answer may be. -/
theorem set_ok {s v o l h : Int} (k : okB ⟨s, v, o, l, h⟩ = true) {s' v' o' : Int} (hs : 0 ≤ s' ∧ s' ≤ 1125899906842624) (hv : 0 ≤ v' ∧ v' ≤ 1125899906842624) : okB (setR ⟨s', v', o', l, h⟩) = true := by
  have := ok_out k
  have := @clamp_in (rawO s' v') l h (by omega)
  unfold okB setR
  apply decide_eq_true
  simp only
  omega
theorem sm1_in {s v o l h t : Int} (k : okB ⟨s, v, o, l, h⟩ = true) (ht : 1 ≤ t ∧ t ≤ 1125899906842624) : ∃ s' v', sm1 ⟨s, v, o, l, h⟩ t = ⟨s', v', o, l, h⟩ ∧ 1 ≤ s' ∧ s' ≤ 1125899906842624 ∧ 0 ≤ v' ∧ v' ≤ 1125899906842624 := by
  have := ok_out k
  unfold sm1
  simp only
  split
  · exact ⟨_, _, rfl, by omega, by omega, by omega, by omega⟩
  · exact ⟨_, _, rfl, by omega, by omega, by omega, by omega⟩
end Go.Proofs.Ytjeelhnedgpgkaa
