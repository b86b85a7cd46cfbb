/- What leaves a bucket, in plain numbers. -/
import Derived.Test.YtifgdpokmgibgaaPlain
namespace Go.Proofs.Ytifgdpokmgibgaa
open Go.RowKit
set_option linter.unusedVariables false
set_option linter.unusedSimpArgs false
attribute [local go_sem] Oper.semAt_some


def at0 (l : List Int) (k : Nat) : Int := l[k]?.getD 0
def sufI (l : List Int) (k : Nat) : Int := (l.drop k).foldr (· + ·) 0
theorem suf_end (l : List Int) {k : Nat} (h : l.length ≤ k) : sufI l k = 0 := by
  unfold sufI; rw [List.drop_eq_nil_of_le h]; rfl
theorem suf_next {l : List Int} {k : Nat} (h : k < l.length) : sufI l k = at0 l k + sufI l (k + 1) := by
  unfold sufI at0
  rw [List.drop_eq_getElem_cons h, List.foldr_cons, List.getElem?_eq_getElem h]; rfl
theorem foldr_snoc (l : List Int) (v : Int) : (l ++ [v]).foldr (· + ·) 0 = l.foldr (· + ·) 0 + v := by
  induction l with
  | nil => show v + 0 = 0 + v; omega
  | cons a r ih => show a + (r ++ [v]).foldr (· + ·) 0 = a + r.foldr (· + ·) 0 + v; rw [ih]; omega
theorem suf_snoc {l : List Int} {v : Int} {k : Nat} (h : k ≤ l.length) : sufI (l ++ [v]) k = sufI l k + v := by
  unfold sufI; rw [List.drop_append_of_le_length h]; exact foldr_snoc _ v
theorem at0_old {l : List Int} {v : Int} {k : Nat} (h : k < l.length) : at0 (l ++ [v]) k = at0 l k := by
  unfold at0; rw [List.getElem?_append_left h]
theorem at0_new (l : List Int) (v : Int) : at0 (l ++ [v]) l.length = v := by unfold at0; simp
/-- What a bucket of this rate and burst holds, and what left it, at which times. -/
structure Led (r b t nw : Int) (ts ss : List Int) : Prop where
  len : ss.length = ts.length
  sz : ∀ k, k < ts.length → 0 ≤ at0 ss k ∧ at0 ss k ≤ 1048576
  tm : ∀ k, k < ts.length → 0 ≤ at0 ts k ∧ at0 ts k ≤ nw
  led : ∀ k, k < ts.length → t + sufI ss k * 1000000 ≤ b * 1000000 + r * (nw - at0 ts k)
theorem led_nil (r b t nw : Int) : Led r b t nw [] [] := ⟨rfl, fun k h => by simp at h, fun k h => by simp at h, fun k h => by simp at h⟩
theorem led_fill {r b t nw now : Int} {ts ss : List Int} (h : Led r b t nw ts ss) (hr : 0 ≤ r) (hn : nw ≤ now) : Led r b (fillT ⟨r, b, t, nw⟩ now) now ts ss := by
  refine ⟨h.len, h.sz, fun k hk => by have := h.tm k hk; omega, fun k hk => ?_⟩
  have h1 := h.led k hk
  have e : r * (now - at0 ts k) = r * (nw - at0 ts k) + r * (now - nw) := by rw [← Int.mul_add]; congr 1; omega
  have e2 : fillT ⟨r, b, t, nw⟩ now ≤ t + r * (now - nw) := by unfold fillT; simp only; omega
  rw [e]; omega
theorem led_take {r b t nw v : Int} {ts ss : List Int} (h : Led r b t nw ts ss) (ht : t ≤ b * 1000000) (hv : 0 ≤ v ∧ v ≤ 1048576) (hn : 0 ≤ nw) : Led r b (t - v * 1000000) nw (ts ++ [nw]) (ss ++ [v]) := by
  have hl := h.len
  have old : ∀ k, k < (ts ++ [nw]).length → k < ts.length ∨ k = ts.length := fun k hk => by simp at hk; omega
  refine ⟨by simp [hl], fun k hk => ?_, fun k hk => ?_, fun k hk => ?_⟩
  · rcases old k hk with h1 | rfl
    · rw [at0_old (by omega)]; exact h.sz k h1
    · rw [← hl, at0_new]; exact hv
  · rcases old k hk with h1 | rfl
    · rw [at0_old h1]; exact h.tm k h1
    · rw [at0_new]; omega
  · rcases old k hk with h1 | rfl
    · rw [at0_old h1, suf_snoc (by omega)]
      have := h.led k h1
      omega
    · rw [at0_new, suf_snoc (by omega), suf_end ss (by omega), show nw - nw = 0 by omega, Int.mul_zero]
      omega
theorem suf_bd {l : List Int} (h : ∀ k, k < l.length → 0 ≤ at0 l k ∧ at0 l k ≤ 1048576) : ∀ d k, k + d = l.length → 0 ≤ sufI l k ∧ sufI l k ≤ (d : Int) * 1048576 := by
  intro d
  induction d with
  | zero => intro k hk; rw [suf_end l (by omega)]; omega
  | succ d ih =>
    intro k hk
    have h1 := ih (k + 1) (by omega)
    have h2 := h k (by omega)
    rw [suf_next (by omega)]
    omega
end Go.Proofs.Ytifgdpokmgibgaa
