/- What window's calls answer, in plain numbers. -/
import Derived.Test.YtliiogafemlagaaSLeaf
namespace Go.Proofs.Ytliiogafemlagaa
open Go.RowKit
set_option linter.unusedVariables false
set_option linter.unusedSimpArgs false
attribute [local go_sem] Oper.semAt_some


/-- What is known of a window. -/
structure Wn where
  un : Int
  sz : Int
  ed : Int
  l1 : Int
  l2 : Int
  mo : Int
  tr : Int
def wnZ : Wn := ⟨0, 0, 0, 0, 0, 0, 0⟩
/-- What a segment tells. -/
structure Sg where
  pa : Int
  pk : Int
  pz : Int
def sgZ : Sg := ⟨0, 0, 0⟩
def I64 (x : Int) : Prop := -9223372036854775808 ≤ x ∧ x ≤ 9223372036854775807
structure WnI (p : Wn) : Prop where
  un : I64 p.un
  sz : I64 p.sz
  ed : I64 p.ed
  l1 : I64 p.l1
  l2 : I64 p.l2
  mo : I64 p.mo
  tr : I64 p.tr
def farB (n : Int) : Bool := decide (0 ≤ n ∧ n ≤ 1125900980584448)
theorem far_out {n : Int} (h : farB n = true) : 0 ≤ n ∧ n ≤ 1125900980584448 := of_decide_eq_true h
theorem far_no {n : Int} (h : farB n = false) : ¬ (0 ≤ n ∧ n ≤ 1125900980584448) := of_decide_eq_false h
def offB (n : Int) : Bool := decide (0 ≤ n ∧ n ≤ 1125899906842624)
theorem off_out {n : Int} (h : offB n = true) : 0 ≤ n ∧ n ≤ 1125899906842624 := of_decide_eq_true h
theorem off_no {n : Int} (h : offB n = false) : ¬ (0 ≤ n ∧ n ≤ 1125899906842624) := of_decide_eq_false h
def szB (n : Int) : Bool := decide (0 ≤ n ∧ n ≤ 1073741824)
theorem sz_out {n : Int} (h : szB n = true) : 0 ≤ n ∧ n ≤ 1073741824 := of_decide_eq_true h
theorem sz_no {n : Int} (h : szB n = false) : ¬ (0 ≤ n ∧ n ≤ 1073741824) := of_decide_eq_false h

def Ok (p : Wn) : Prop := (0 ≤ p.un ∧ p.un ≤ 1125900980584448) ∧ (0 ≤ p.ed ∧ p.ed ≤ 1125900980584448) ∧ (0 ≤ p.l1 ∧ p.l1 ≤ 1125900980584448) ∧ (0 ≤ p.l2 ∧ p.l2 ≤ 1125900980584448) ∧ (0 ≤ p.sz ∧ p.sz ≤ 1073741824) ∧ (0 ≤ p.mo ∧ p.mo ≤ 1073741824) ∧ p.sz ≤ p.mo ∧ p.l2 + p.sz ≤ p.ed ∧ (0 ≤ p.tr ∧ p.tr ≤ 100)
/-- P21.1. -/
def okB (p : Wn) : Bool := decide ((0 ≤ p.un ∧ p.un ≤ 1125900980584448) ∧ (0 ≤ p.ed ∧ p.ed ≤ 1125900980584448) ∧ (0 ≤ p.l1 ∧ p.l1 ≤ 1125900980584448) ∧ (0 ≤ p.l2 ∧ p.l2 ≤ 1125900980584448) ∧ (0 ≤ p.sz ∧ p.sz ≤ 1073741824) ∧ (0 ≤ p.mo ∧ p.mo ≤ 1073741824) ∧ p.sz ≤ p.mo ∧ p.l2 + p.sz ≤ p.ed ∧ (0 ≤ p.tr ∧ p.tr ≤ 100))
def chkE (p : Wn) : Int := if okB p = true then 0 else 230
theorem ok_out {p : Wn} (h : okB p = true) : Ok p := by
  simp only [okB, decide_eq_true_eq] at h
  exact h
theorem ok_in {p : Wn} (h : Ok p) : okB p = true := by
  simp only [okB, decide_eq_true_eq]
  exact h
def newQ (n : Int) : Wn := if szB n = true then ⟨0, n, n, 0, 0, n, 0⟩ else wnZ
def newE (n : Int) : Int := if szB n = true then 0 else 2
theorem new_ok {n : Int} (h : szB n = true) : Ok (newQ n) := by
  have := sz_out h
  unfold newQ
  rw [if_pos h]
  unfold Ok
  simp only
  omega
/-- P21.2: the segment is no older one. -/
def curB (p : Wn) (q : Sg) : Bool := decide (p.l1 < q.pa ∨ (q.pa = p.l1 ∧ p.l2 ≤ q.pk))
def takeQ (p : Wn) (q : Sg) : Wn := ⟨max p.un q.pk, q.pz, max p.ed (q.pk + q.pz), q.pa, q.pk, max p.mo q.pz, if 0 < q.pz then 0 else p.tr⟩
def tellQ (p : Wn) (q : Sg) : Wn := if curB p q = true then takeQ p q else ⟨max p.un q.pk, p.sz, p.ed, p.l1, p.l2, p.mo, p.tr⟩
def argB (x y z : Int) : Bool := offB x && (offB y && szB z)
def tldQ (p : Wn) (x y z : Int) : Wn := if okB p = true then if argB x y z = true then tellQ p ⟨x, y, z⟩ else wnZ else wnZ
def tldE (p : Wn) (x y z : Int) : Int := if okB p = true then if argB x y z = true then 0 else 2 else 230
theorem arg_out {x y z : Int} (h : argB x y z = true) : (0 ≤ x ∧ x ≤ 1125899906842624) ∧ (0 ≤ y ∧ y ≤ 1125899906842624) ∧ (0 ≤ z ∧ z ≤ 1073741824) := by
  unfold argB at h
  simp only [Bool.and_eq_true] at h
  exact ⟨off_out h.1, off_out h.2.1, sz_out h.2.2⟩
theorem tell_ok {p : Wn} (h : Ok p) {q : Sg} (ha : 0 ≤ q.pa ∧ q.pa ≤ 1125899906842624) (hk : 0 ≤ q.pk ∧ q.pk ≤ 1125899906842624) (hz : 0 ≤ q.pz ∧ q.pz ≤ 1073741824) : Ok (tellQ p q) := by
  unfold tellQ takeQ
  unfold Ok at h ⊢
  split
  · simp only
    split <;> omega
  · simp only
    omega
def rgtI (p : Wn) : Int := if okB p = true then p.l2 + p.sz else 0
def shtB (p : Wn) (n : Int) : Bool := okB p && decide (p.l2 + p.sz ≤ n)
/-- P21.3. -/
def triQ (p : Wn) : Wn := if okB p = true then ⟨p.un, p.sz, p.ed, p.l1, p.l2, p.mo, min (p.tr + 1) 100⟩ else wnZ
def itD : Nat → Int → Int
  | 0, t => t
  | k + 1, t => min (2 * itD k t) 1125899906842624
theorem itD_bd {t : Int} (h : 0 < t ∧ t ≤ 1125899906842624) (k : Nat) : 0 < itD k t ∧ itD k t ≤ 1125899906842624 := by
  induction k with
  | zero => exact h
  | succ k ih => show 0 < min (2 * itD k t) 1125899906842624 ∧ min (2 * itD k t) 1125899906842624 ≤ 1125899906842624; omega
def dblI (t n : Int) : Int := if t ≤ 0 then t else itD n.toNat t
def waiI (p : Wn) (x y z : Int) : Int := if okB p = true then clampI (dblI (min x 1125899906842624) p.tr) y z else 0
end Go.Proofs.Ytliiogafemlagaa
