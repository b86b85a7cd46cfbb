/- Sizes of records that may be. -/
import Derived.Test.YtokiklaffbdomaaThose
namespace Go.Proofs.Ytokiklaffbdomaa
open Go.RowKit
set_option linter.unusedVariables false

def sizeL : List Rc → Int
  | [] => 0
  | x :: r => (x.t - x.f) + sizeL r
theorem sizeL_append (l r : List Rc) : sizeL (l ++ r) = sizeL l + sizeL r := by
  induction l with
  | nil => simp [sizeL]
  | cons x l ih => rw [List.cons_append, sizeL, sizeL, ih]; omega
theorem sizeL_snoc (l : List Rc) (x : Rc) : sizeL (l ++ [x]) = sizeL l + (x.t - x.f) := by rw [sizeL_append]; simp [sizeL]
theorem sizeL_pos {l : List Rc} (h : ∀ x ∈ l, x.f ≤ x.t) : 0 ≤ sizeL l := by
  induction l with
  | nil => simp [sizeL]
  | cons x l ih => have := ih (fun y hy => h y (List.mem_cons_of_mem _ hy)); have := h x List.mem_cons_self; rw [sizeL]; omega
theorem sizeL_filter {l : List Rc} (p : Rc → Bool) (h : ∀ x ∈ l, x.f ≤ x.t) : sizeL (l.filter p) ≤ sizeL l := by
  induction l with
  | nil => simp [sizeL]
  | cons x l ih =>
    have i1 := ih (fun y hy => h y (List.mem_cons_of_mem _ hy))
    have := h x List.mem_cons_self
    rw [List.filter_cons]
    split
    · rw [sizeL, sizeL]; omega
    · rw [sizeL]; omega
theorem okB_le {ts : List Rc} (h : okB ts = true) : ∀ x ∈ ts, x.f ≤ x.t := fun x hx => by have := okR_out (okB_all h hx); omega
theorem size_take {ts : List Rc} (h : okB ts = true) : ∀ i, i < ts.length → sizeL (ts.take (i + 1)) ≤ (nth ts i).t
  | 0, hi => by
    rw [take_nth hi]; simp [sizeL]
    have := okR_out (okB_at h hi); omega
  | i + 1, hi => by
    have ih := size_take h i (by omega)
    rw [take_nth hi, sizeL_snoc]
    have h1 := (okAt_iff.1 ((okB_iff.1 h).2 (i + 1) hi)).2
    rcases h1 with h1 | h1
    · omega
    · have := h1.1; simp at this; omega
theorem size_all {ts : List Rc} (h : okB ts = true) : sizeL ts ≤ 1125899906842625 := by
  cases hl : ts.length with
  | zero => have : ts = [] := List.eq_nil_of_length_eq_zero hl
            subst this; simp [sizeL]
  | succ n =>
    have h1 := size_take h n (by omega)
    rw [List.take_of_length_le (by omega)] at h1
    have := okR_out (okB_at h (show n < ts.length by omega))
    omega
theorem sel_len (p : Rc → Bool) (ts : List Rc) : (sel p 0 ts).length ≤ ts.length := by
  have h := congrArg List.length (sel_map p ts 0)
  rw [List.length_map] at h
  rw [h]; exact List.length_filter_le _ _
/-- What is known of a beginning of those that pass. -/
theorem pre_out {p : Rc → Bool} {ts : List Rc} (h : okB ts = true) {pre : List (Nat × Rc)} (hp : pre <+: sel p 0 ts) : 0 ≤ sizeL (pre.map (·.2)) ∧ sizeL (pre.map (·.2)) ≤ 1125899906842625 ∧ pre.length ≤ 65536 ∧ (∀ q ∈ pre, okR q.2 = true ∧ p q.2 = true) := by
  have hq : pre.map (·.2) <+: ts.filter p := by rw [← sel_map p ts 0]; exact hp.map _
  obtain ⟨r, hr⟩ := hq
  have hm : ∀ x ∈ pre.map (·.2), x ∈ ts.filter p := fun x hx => by rw [← hr]; exact List.mem_append_left _ hx
  have hn : ∀ x ∈ r, x ∈ ts.filter p := fun x hx => by rw [← hr]; exact List.mem_append_right _ hx
  have h1 := sizeL_pos (l := pre.map (·.2)) (fun x hx => okB_le h x (List.mem_filter.1 (hm x hx)).1)
  have h2 := sizeL_pos (l := r) (fun x hx => okB_le h x (List.mem_filter.1 (hn x hx)).1)
  have h3 := sizeL_filter p (okB_le h)
  have h4 := size_all h
  rw [← hr, sizeL_append] at h3
  have h5 := hp.length_le
  have h6 := sel_len p ts
  have h7 := (okB_iff.1 h).1
  refine ⟨h1, by omega, by omega, fun q hq => ?_⟩
  have := hm q.2 (List.mem_map_of_mem hq)
  exact ⟨okB_all h (List.mem_filter.1 this).1, (List.mem_filter.1 this).2⟩
def cntN (p : Rc → Bool) (ts : List Rc) : Int := if okB ts = true then ((ts.filter p).length : Int) else 0
def cntB (p : Rc → Bool) (ts : List Rc) : Int := if okB ts = true then sizeL (ts.filter p) else 0
def lostI (ts : List Rc) : Int := if okB ts = true then (match sel (fun x => x.lo && !x.ag) 0 ts with | [] => -1 | q :: _ => (q.1 : Int)) else -1
def maxT : Int → List Rc → Int
  | m, [] => m
  | m, x :: r => maxT (max m x.t) r
theorem maxT_snoc (m : Int) (l : List Rc) (x : Rc) : maxT m (l ++ [x]) = max (maxT m l) x.t := by
  induction l generalizing m with
  | nil => rfl
  | cons y l ih => exact ih _
def highI (ts : List Rc) : Int := if okB ts = true then maxT 0 (ts.filter (·.sk)) else 0
end Go.Proofs.Ytokiklaffbdomaa
