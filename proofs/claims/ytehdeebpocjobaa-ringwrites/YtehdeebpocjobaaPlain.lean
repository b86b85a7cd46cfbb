/- The plain mathematics of a ring: what may be, where it ends, how much room it has, what each call makes of it. -/
import Derived.RowKit
namespace Go.Proofs.Ytehdeebpocjobaa
set_option linter.unusedVariables false

def I64 (n : Int) : Prop := -9223372036854775808 ≤ n ∧ n ≤ 9223372036854775807
def Byts (bs : List Int) : Prop := ∀ x ∈ bs, 0 ≤ x ∧ x ≤ 255

/-- A ring: its base, its bytes, its room, whether its end is told. -/
structure Rg where
  b : Int
  bs : List Int
  k : Int
  q : Bool
def zR : Rg := ⟨0, [], 0, false⟩

def okB (b : Int) (n : Nat) (k : Int) : Bool := decide (0 ≤ b ∧ b ≤ 1125899906842624 ∧ 0 ≤ k ∧ k ≤ 1073741824 ∧ (n : Int) ≤ k ∧ b + (n : Int) ≤ 1125899906842624)
def chkI (b : Int) (n : Nat) (k : Int) : Int := if okB b n k = true then 0 else 2
def endI (b : Int) (n : Nat) (k : Int) : Int := if okB b n k = true then b + (n : Int) else 0
def opnI (b : Int) (n : Nat) (k : Int) (q : Bool) : Int := if okB b n k = true then (if q = true then 71 else 0) else 2
def minI (x y : Int) : Int := if y < x then y else x
def roomI (b : Int) (n : Nat) (k : Int) (q : Bool) : Int := if okB b n k = true then (if q = true then 0 else minI (k - (n : Int)) (1125899906842624 - (b + (n : Int)))) else 0
/-- How many are written. -/
def wrN (r : Rg) (m : Nat) : Nat := (minI (m : Int) (roomI r.b r.bs.length r.k r.q)).toNat
def wrR (r : Rg) (ds : List Int) : Rg := if okB r.b r.bs.length r.k = true then (if r.q = true then zR else ⟨r.b, r.bs ++ ds.take (wrN r ds.length), r.k, r.q⟩) else zR
def wrM (r : Rg) (m : Nat) : Int := if okB r.b r.bs.length r.k = true then (if r.q = true then 0 else (wrN r m : Int)) else 0
def clR (r : Rg) : Rg := if okB r.b r.bs.length r.k = true then (if r.q = true then zR else ⟨r.b, r.bs, r.k, true⟩) else zR
def slB (b : Int) (n : Nat) (k f t : Int) : Bool := okB b n k && decide (b ≤ f ∧ f ≤ t ∧ t ≤ b + (n : Int))
def slL (r : Rg) (f t : Int) : List Int := if slB r.b r.bs.length r.k f t = true then (r.bs.take (t - r.b).toNat).drop (f - r.b).toNat else []
def slE (r : Rg) (f t : Int) : Int := if slB r.b r.bs.length r.k f t = true then 0 else 2
def rlR (r : Rg) (t : Int) : Rg := if slB r.b r.bs.length r.k t (r.b + (r.bs.length : Int)) = true then ⟨t, r.bs.drop (t - r.b).toNat, r.k, r.q⟩ else zR
def rlE (r : Rg) (t : Int) : Int := if slB r.b r.bs.length r.k t (r.b + (r.bs.length : Int)) = true then 0 else 2

theorem ok_out {b : Int} {n : Nat} {k : Int} (h : okB b n k = true) : 0 ≤ b ∧ b ≤ 1125899906842624 ∧ 0 ≤ k ∧ k ≤ 1073741824 ∧ (n : Int) ≤ k ∧ b + (n : Int) ≤ 1125899906842624 := of_decide_eq_true h
theorem ok_in {b : Int} {n : Nat} {k : Int} (h : 0 ≤ b ∧ b ≤ 1125899906842624 ∧ 0 ≤ k ∧ k ≤ 1073741824 ∧ (n : Int) ≤ k ∧ b + (n : Int) ≤ 1125899906842624) : okB b n k = true := decide_eq_true h
theorem ok_not {b : Int} {n : Nat} {k : Int} (h : okB b n k = false) : ¬ (0 ≤ b ∧ b ≤ 1125899906842624 ∧ 0 ≤ k ∧ k ≤ 1073741824 ∧ (n : Int) ≤ k ∧ b + (n : Int) ≤ 1125899906842624) := of_decide_eq_false h
theorem sl_out {b : Int} {n : Nat} {k f t : Int} (h : slB b n k f t = true) : okB b n k = true ∧ b ≤ f ∧ f ≤ t ∧ t ≤ b + (n : Int) := by
  unfold slB at h
  rw [Bool.and_eq_true] at h
  exact ⟨h.1, of_decide_eq_true h.2⟩
theorem sl_in {b : Int} {n : Nat} {k f t : Int} (h : okB b n k = true) (h2 : b ≤ f ∧ f ≤ t ∧ t ≤ b + (n : Int)) : slB b n k f t = true := by
  unfold slB
  rw [h, decide_eq_true h2]; rfl
theorem byts_take {bs : List Int} (h : Byts bs) (k : Nat) : Byts (bs.take k) := fun x hx => h x (List.mem_of_mem_take hx)
theorem byts_drop {bs : List Int} (h : Byts bs) (k : Nat) : Byts (bs.drop k) := fun x hx => h x (List.mem_of_mem_drop hx)
theorem byts_app {bs cs : List Int} (h : Byts bs) (h2 : Byts cs) : Byts (bs ++ cs) := fun x hx => by
  rcases List.mem_append.1 hx with hx | hx
  · exact h x hx
  · exact h2 x hx
theorem room_ge {b : Int} {n : Nat} {k : Int} {q : Bool} : 0 ≤ roomI b n k q := by
  unfold roomI
  split
  · rename_i h
    have := ok_out h
    split
    · omega
    · unfold minI; split <;> omega
  · omega
theorem room_le {b : Int} {n : Nat} {k : Int} (h : okB b n k = true) {q : Bool} : roomI b n k q ≤ k - (n : Int) ∧ roomI b n k q ≤ 1125899906842624 - (b + (n : Int)) := by
  have := ok_out h
  unfold roomI
  rw [if_pos h]
  split
  · omega
  · unfold minI; split <;> omega
theorem wrN_le (r : Rg) (m : Nat) : wrN r m ≤ m ∧ (wrN r m : Int) = minI (m : Int) (roomI r.b r.bs.length r.k r.q) := by
  have := @room_ge r.b r.bs.length r.k r.q
  unfold wrN
  constructor
  · unfold minI; split <;> omega
  · unfold minI; split <;> omega
end Go.Proofs.Ytehdeebpocjobaa
