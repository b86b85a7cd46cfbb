/- A text with its sum in it is valid; one bit turned in a valid text is told: the plain mathematics. -/
import Derived.Test.YtllmeeebjjmanaaDoorPlain
namespace Go.Proofs.YtllmeeebjjmanaaDoor

theorem wt_even {bs : List Int} {k : Nat} (hk : k % 2 = 0) (h : k < bs.length) (x : Int) : wt false (bs.set k x) = wt false bs + 256 * (x - bs[k]?.getD 0) := by
  have := wt_set k false bs x h
  simpa [hk] using this
theorem wt_odd {bs : List Int} {k : Nat} (hk : k % 2 = 1) (h : k < bs.length) (x : Int) : wt false (bs.set k x) = wt false bs + (x - bs[k]?.getD 0) := by
  have := wt_set k false bs x h
  simpa [hk] using this

theorem byts_get {bs : List Int} (h : Byts bs) (k : Nat) (hk : k < bs.length) : 0 ≤ bs[k]?.getD 0 ∧ bs[k]?.getD 0 ≤ 255 := by
  have : bs[k]?.getD 0 = bs[k] := by simp [hk]
  rw [this]
  exact h _ (List.getElem_mem hk)

/-- The sum put at an even place where 0 stood. -/
theorem fit_put {b0 : List Int} {k : Nat} {s : Int} (hb : Byts b0) (hk : k % 2 = 0) (hl : k + 1 < b0.length) (z0 : b0[k]?.getD 0 = 0) (z1 : b0[k + 1]?.getD 0 = 0) (hs : sumI b0 = s) :
    sumI ((b0.set k (s / 256)).set (k + 1) (s % 256)) = 0 := by
  have hsb : 0 ≤ s ∧ s ≤ 65535 := by have := acc_bd hb; unfold sumI at hs; omega
  refine fit_valid hb (byts_set (byts_set hb k (by omega)) (k + 1) (by omega)) ?_
  rw [wt_odd (by omega) (by simpa using hl), wt_even hk (by omega), List.getElem?_set_ne (by omega), z0, z1, hs]
  omega

theorem zero_at {bs : List Int} {k : Nat} (h : k + 1 < bs.length) : ((bs.set k 0).set (k + 1) 0)[k]?.getD 0 = 0 ∧ ((bs.set k 0).set (k + 1) 0)[k + 1]?.getD 0 = 0 := by
  constructor
  · rw [List.getElem?_set_ne (by omega), List.getElem?_set_self (by omega)]; rfl
  · rw [List.getElem?_set_self (by simpa using h)]; rfl

theorem pow_small (d : Int) (j : Nat) (hj : j < 8) (hd : d = 2 ^ j ∨ d = -(2 ^ j)) : d % 65535 ≠ 0 ∧ (256 * d) % 65535 ≠ 0 := by
  have : j = 0 ∨ j = 1 ∨ j = 2 ∨ j = 3 ∨ j = 4 ∨ j = 5 ∨ j = 6 ∨ j = 7 := by omega
  rcases this with rfl | rfl | rfl | rfl | rfl | rfl | rfl | rfl <;> rcases hd with rfl | rfl <;> decide

/-- One byte changed by a power of two: no longer valid. -/
theorem turned_told {bs : List Int} (hb : Byts bs) (hv : sumI bs = 0) {p : Nat} (hp : p < bs.length) {x : Int} (hx : 0 ≤ x ∧ x ≤ 255) {j : Nat} (hj : j < 8) (hd : x - bs[p]?.getD 0 = 2 ^ j ∨ x - bs[p]?.getD 0 = -(2 ^ j)) :
    (sumI (bs.set p x) == 0) = false := by
  have h1 := (sum_zero hb).1 hv
  have h2 := pow_small _ j hj hd
  have : ¬ sumI (bs.set p x) = 0 := by
    rw [sum_zero (byts_set hb p hx)]
    rcases Nat.mod_two_eq_zero_or_one p with h | h
    · have e := wt_even h hp x
      omega
    · have e := wt_odd h hp x
      omega
  simpa using this
end Go.Proofs.YtllmeeebjjmanaaDoor
