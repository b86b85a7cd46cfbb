/- What board's calls answer, in plain records. -/
import Derived.RowKit
namespace Go.Proofs.Ytokiklaffbdomaa
open Go.RowKit
set_option linter.unusedVariables false

/-- A record. -/
structure Rc where
  f : Int
  t : Int
  fin : Bool
  sent : Int
  tx : Int
  sk : Bool
  lo : Bool
  ag : Bool
  gv : Int
  ga : Int
  fa : Int
  idl : Bool
def rz : Rc := ⟨0, 0, false, 0, 0, false, false, false, 0, 0, 0, false⟩
def tmB (n : Int) : Bool := decide (0 ≤ n ∧ n ≤ 1125899906842624)
/-- A record that may be. -/
def okR (x : Rc) : Bool := decide (0 ≤ x.f ∧ x.f < x.t ∧ x.t ≤ 1125899906842625 ∧ 1 ≤ x.tx) && tmB x.sent && tmB x.gv && tmB x.ga && tmB x.fa && (!x.ag || x.lo) && (!x.sk || (!x.lo && !x.ag))
def nth (ts : List Rc) (i : Nat) : Rc := ts[i]?.getD rz
def okAt (ts : List Rc) (i : Nat) : Bool := okR (nth ts i) && (decide (i = 0) || (decide ((nth ts i).f = (nth ts (i - 1)).t) && !(nth ts (i - 1)).fin))
/-- P10.1. -/
def okB (ts : List Rc) : Bool := decide (ts.length ≤ 65536) && (List.range ts.length).all (okAt ts)
def chkI (ts : List Rc) : Int := if okB ts = true then 0 else 100
theorem okB_iff {ts : List Rc} : okB ts = true ↔ ts.length ≤ 65536 ∧ ∀ i, i < ts.length → okAt ts i = true := by
  simp [okB]
theorem chk_yes {ts : List Rc} (h : okB ts = true) : chkI ts = 0 := if_pos h
theorem chk_no {ts : List Rc} (h : okB ts = false) : chkI ts = 100 := if_neg (by rw [h]; decide)
theorem okAt_iff {ts : List Rc} {i : Nat} : okAt ts i = true ↔ okR (nth ts i) = true ∧ (i = 0 ∨ ((nth ts i).f = (nth ts (i - 1)).t ∧ (nth ts (i - 1)).fin = false)) := by
  simp [okAt]
theorem okR_out {x : Rc} (h : okR x = true) : 0 ≤ x.f ∧ x.f < x.t ∧ x.t ≤ 1125899906842625 ∧ 1 ≤ x.tx ∧ tmB x.sent = true ∧ tmB x.gv = true ∧ tmB x.ga = true ∧ tmB x.fa = true ∧ (x.ag = true → x.lo = true) ∧ (x.sk = true → x.lo = false ∧ x.ag = false) := by
  simp only [okR, Bool.and_eq_true, decide_eq_true_eq] at h
  obtain ⟨⟨⟨⟨⟨⟨h1, h2⟩, h3⟩, h4⟩, h5⟩, h6⟩, h7⟩ := h
  refine ⟨h1.1, h1.2.1, h1.2.2.1, h1.2.2.2, h2, h3, h4, h5, ?_, ?_⟩
  · intro e; rw [e] at h6; simpa using h6
  · intro e; rw [e] at h7; simpa using h7
theorem okR_in {x : Rc} (h1 : 0 ≤ x.f ∧ x.f < x.t ∧ x.t ≤ 1125899906842625 ∧ 1 ≤ x.tx) (h2 : tmB x.sent = true) (h3 : tmB x.gv = true) (h4 : tmB x.ga = true) (h5 : tmB x.fa = true) (h6 : x.ag = true → x.lo = true) (h7 : x.sk = true → x.lo = false ∧ x.ag = false) : okR x = true := by
  simp only [okR, Bool.and_eq_true, decide_eq_true_eq]
  refine ⟨⟨⟨⟨⟨⟨h1, h2⟩, h3⟩, h4⟩, h5⟩, ?_⟩, ?_⟩
  · cases ha : x.ag <;> simp_all
  · cases ha : x.sk <;> simp_all
theorem nth_lt {ts : List Rc} {i : Nat} (h : i < ts.length) : ts[i]? = some (nth ts i) := by simp [nth, h]
theorem nth_mem {ts : List Rc} {i : Nat} (h : i < ts.length) : nth ts i ∈ ts := by
  have : nth ts i = ts[i] := by simp [nth, h]
  rw [this]; exact List.getElem_mem h
theorem nth_append_left {l r : List Rc} {i : Nat} (h : i < l.length) : nth (l ++ r) i = nth l i := by
  unfold nth; rw [List.getElem?_append_left h]
theorem nth_append_right {l r : List Rc} {i : Nat} (h : l.length ≤ i) : nth (l ++ r) i = nth r (i - l.length) := by
  unfold nth; rw [List.getElem?_append_right h]
theorem take_nth {ts : List Rc} {i : Nat} (h : i < ts.length) : ts.take (i + 1) = ts.take i ++ [nth ts i] := by
  rw [List.take_add_one]; simp [nth, h]
theorem nth_ext {l r : List Rc} (hl : l.length = r.length) (h : ∀ i, i < l.length → nth l i = nth r i) : l = r := by
  apply List.ext_getElem hl
  intro i h1 h2
  have := h i h1
  simpa [nth, h1, h2] using this
theorem okB_at {ts : List Rc} (h : okB ts = true) {i : Nat} (hi : i < ts.length) : okR (nth ts i) = true := (okAt_iff.1 ((okB_iff.1 h).2 i hi)).1
theorem okB_all {ts : List Rc} (h : okB ts = true) {x : Rc} (hx : x ∈ ts) : okR x = true := by
  obtain ⟨i, hi, rfl⟩ := List.mem_iff_getElem.1 hx
  have := okB_at h hi
  simpa [nth, hi] using this
end Go.Proofs.Ytokiklaffbdomaa
