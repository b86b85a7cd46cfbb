/- The plain mathematics of datagrams: what each call makes of a row. -/
import Derived.RowKit
namespace Go.Proofs.Ytkbgpbhlcmainaa
set_option linter.unusedVariables false

/-- A datagram: its bytes, when it was sent. -/
abbrev Dg := List Int × Int
def z0 : Dg := ([], 0)
def I64 (n : Int) : Prop := -9223372036854775808 ≤ n ∧ n ≤ 9223372036854775807
def Byts (bs : List Int) : Prop := ∀ x ∈ bs, 0 ≤ x ∧ x ≤ 255

def plB (n : Nat) (k : Int) : Bool := decide (0 ≤ k ∧ k < (n : Int))
def sendL (l : List Dg) (b : List Int) (t : Int) : List Dg := if 65536 ≤ l.length then [] else l ++ [(b, t)]
def sendE (l : List Dg) : Int := if 65536 ≤ l.length then 70 else 0
def takeD (l : List Dg) (k : Int) : Dg := if plB l.length k = true then l[k.toNat]?.getD z0 else z0
def takeL (l : List Dg) (k : Int) : List Dg := if plB l.length k = true then l.take k.toNat ++ l.drop (k.toNat + 1) else []
def takeE (l : List Dg) (k : Int) : Int := if plB l.length k = true then 0 else 50
def dblL (l : List Dg) (k : Int) : List Dg := if plB l.length k = true then (if 65536 ≤ l.length then [] else l ++ [l[k.toNat]?.getD z0]) else []
def dblE (l : List Dg) (k : Int) : Int := if plB l.length k = true then (if 65536 ≤ l.length then 70 else 0) else 50
def bitB (n : Nat) (b : Int) : Bool := decide (0 ≤ b ∧ b < 8 * (n : Int))
def turnI (bs : List Int) (b : Int) : List Int := bs.set (b.toNat / 8) (bits .xor .u8 (bs[b.toNat / 8]?.getD 0) ((2 : Int) ^ (b.toNat % 8) % 256))
def spoL (l : List Dg) (k b : Int) : List Dg := if plB l.length k = true then (if bitB (l[k.toNat]?.getD z0).1.length b = true then l.set k.toNat (turnI (l[k.toNat]?.getD z0).1 b, (l[k.toNat]?.getD z0).2) else []) else []
def spoE (l : List Dg) (k b : Int) : Int := if plB l.length k = true then (if bitB (l[k.toNat]?.getD z0).1.length b = true then 0 else 2) else 50

def minI (m y : Int) : Int := if y < m then y else m
def leastI (now : Int) (l : List Dg) : Int := l.foldl (fun m x => minI m x.2) now
def ageI (now m : Int) : Int := if 9223372036854775807 < now - m then 9223372036854775807 else now - m
def oldI (l : List Dg) (now : Int) : Int := ageI now (leastI now l)
def cntN (l : List Dg) (b : List Int) : Nat := (l.filter fun x => x.1 == b).length

theorem least_le (l : List Dg) : ∀ m, leastI m l ≤ m := by
  induction l with
  | nil => intro m; simp [leastI]
  | cons a r ih =>
    intro m
    have := ih (minI m a.2)
    simp only [leastI, List.foldl_cons] at this ⊢
    have h : minI m a.2 ≤ m := by unfold minI; split <;> omega
    omega
theorem least_snoc (m : Int) (l : List Dg) (x : Dg) : leastI m (l ++ [x]) = minI (leastI m l) x.2 := by simp [leastI]
theorem least_i64 {l : List Dg} : ∀ {m : Int}, I64 m → (∀ x ∈ l, I64 x.2) → I64 (leastI m l) := by
  induction l with
  | nil => intro m h _; exact h
  | cons a r ih =>
    intro m h hl
    exact ih (m := minI m a.2) (by have := hl a (by simp); unfold minI; split <;> assumption) (fun x hx => hl x (by simp [hx]))

theorem take_snoc {l : List Dg} {k : Nat} {x : Dg} (h : k < l.length) (hx : l[k]?.getD z0 = x) : l.take (k + 1) = l.take k ++ [x] := by
  subst hx
  rw [List.take_add_one]; simp [h]

/-- The document's way to reckon: the greatest of all differences. -/
theorem old_step {now m s : Int} (hm : m ≤ now) (hn : I64 now) (hi : I64 m) (hs : I64 s) :
    (s < now → ∀ d, d = (if 9223372036854775807 < now - s then 9223372036854775807 else now - s) → (if d > ageI now m then d else ageI now m) = ageI now (minI m s)) ∧ (¬ s < now → ageI now m = ageI now (minI m s)) := by
  unfold I64 at *
  refine ⟨fun h d hd => ?_, fun h => ?_⟩
  · subst hd
    unfold ageI minI
    repeat' split
    all_goals omega
  · unfold ageI minI
    repeat' split
    all_goals omega

theorem cnt_snoc (l : List Dg) (x : Dg) (b : List Int) : cntN (l ++ [x]) b = if x.1 = b then cntN l b + 1 else cntN l b := by
  unfold cntN
  rw [List.filter_append]
  by_cases h : x.1 = b <;> simp [h]
theorem cnt_le (l : List Dg) (b : List Int) : cntN l b ≤ l.length := List.length_filter_le _ _

theorem cut_mid {l : List Dg} {k : Nat} (h : k < l.length) : l = l.take k ++ l[k]?.getD z0 :: l.drop (k + 1) := by
  conv => lhs; rw [← List.take_append_drop k l]
  congr 1
  rw [List.drop_eq_getElem_cons h]
  simp [h]
theorem cnt_take {l : List Dg} {k : Nat} (h : k < l.length) (b : List Int) : cntN l b = (if (l[k]?.getD z0).1 = b then 1 else 0) + cntN (l.take k ++ l.drop (k + 1)) b := by
  conv => lhs; rw [cut_mid h]
  unfold cntN
  rw [List.filter_append, List.filter_cons, List.filter_append, List.length_append, List.length_append]
  by_cases hx : (l[k]?.getD z0).1 = b
  · rw [if_pos (by simpa using hx), if_pos hx, List.length_cons]; omega
  · rw [if_neg (by simpa using hx), if_neg hx]; omega

theorem least_far {l : List Dg} {now more : Int} (hm : 0 ≤ more) (h0 : l ≠ []) (h : ∀ x ∈ l, 0 ≤ x.2 ∧ x.2 ≤ now) : leastI (now + more) l = leastI now l := by
  cases l with
  | nil => exact absurd rfl h0
  | cons a r =>
    have ha := h a (by simp)
    simp only [leastI, List.foldl_cons]
    congr 1
    unfold minI
    repeat' split
    all_goals omega
theorem least_ge {l : List Dg} {b : Int} : ∀ {m : Int}, b ≤ m → (∀ x ∈ l, b ≤ x.2) → b ≤ leastI m l := by
  induction l with
  | nil => intro m h _; exact h
  | cons a r ih =>
    intro m h hl
    exact ih (m := minI m a.2) (by have := hl a (by simp); unfold minI; split <;> assumption) (fun x hx => hl x (by simp [hx]))
theorem ages {l : List Dg} {now more : Int} (hn : 0 ≤ now ∧ now ≤ 1099511627776) (hm : 0 ≤ more ∧ more ≤ 1099511627776) (h0 : l ≠ []) (h : ∀ x ∈ l, 0 ≤ x.2 ∧ x.2 ≤ now) : oldI l (now + more) = oldI l now + more := by
  unfold oldI
  rw [least_far hm.1 h0 h]
  have h1 := least_le l now
  have h2 : 0 ≤ leastI now l := least_ge hn.1 (fun x hx => (h x hx).1)
  unfold ageI
  repeat' split
  all_goals omega
theorem old_nil (now : Int) : oldI [] now = 0 := by
  unfold oldI leastI ageI
  simp
theorem old_bd {l : List Dg} {now : Int} (hn : 0 ≤ now ∧ now ≤ 1099511627776) (h : ∀ x ∈ l, 0 ≤ x.2 ∧ x.2 ≤ now) : 0 ≤ oldI l now ∧ oldI l now ≤ 1099511627776 := by
  have h1 := least_le l now
  have h2 : 0 ≤ leastI now l := least_ge hn.1 (fun x hx => (h x hx).1)
  unfold oldI ageI
  split <;> omega

/-! ### A bit turned -/
theorem xor_all : ∀ (a : Fin 256) (b : Fin 8), 0 ≤ bits BinOp.xor IntKind.u8 (a.val : Int) ((2 : Int) ^ b.val % 256) ∧ bits BinOp.xor IntKind.u8 (a.val : Int) ((2 : Int) ^ b.val % 256) ≤ 255 ∧
    bits BinOp.xor IntKind.u8 (a.val : Int) ((2 : Int) ^ b.val % 256) ≠ (a.val : Int) ∧ bits BinOp.xor IntKind.u8 (bits BinOp.xor IntKind.u8 (a.val : Int) ((2 : Int) ^ b.val % 256)) ((2 : Int) ^ b.val % 256) = (a.val : Int) := by
  decide +kernel
theorem xor_turns (y : Int) (j : Nat) (hy : 0 ≤ y ∧ y ≤ 255) (hj : j < 8) (z : Int) (hz : bits BinOp.xor IntKind.u8 y ((2 : Int) ^ j % 256) = z) : (0 ≤ z ∧ z ≤ 255) ∧ z ≠ y ∧ bits BinOp.xor IntKind.u8 z ((2 : Int) ^ j % 256) = y := by
  have h := xor_all ⟨y.toNat, by omega⟩ ⟨j, hj⟩
  have e : ((y.toNat : Nat) : Int) = y := by omega
  simp only [e, hz] at h
  exact ⟨⟨h.1, h.2.1⟩, h.2.2.1, h.2.2.2⟩
theorem turn_len (bs : List Int) (b : Int) : (turnI bs b).length = bs.length := by simp [turnI]
theorem turn_at {bs : List Int} {b : Int} (hb : Byts bs) (h : 0 ≤ b ∧ b < 8 * (bs.length : Int)) : ∃ y z, bs[b.toNat / 8]? = some y ∧ (0 ≤ y ∧ y ≤ 255) ∧ turnI bs b = bs.set (b.toNat / 8) z ∧ bits BinOp.xor IntKind.u8 y ((2 : Int) ^ (b.toNat % 8) % 256) = z ∧ (0 ≤ z ∧ z ≤ 255) ∧ z ≠ y ∧ bits BinOp.xor IntKind.u8 z ((2 : Int) ^ (b.toNat % 8) % 256) = y := by
  have hlt : b.toNat / 8 < bs.length := by omega
  have hy := hb _ (List.getElem_mem hlt)
  obtain ⟨h1, h2, h3⟩ := xor_turns bs[b.toNat / 8] (b.toNat % 8) hy (by omega) _ rfl
  refine ⟨bs[b.toNat / 8], _, List.getElem?_eq_getElem hlt, hy, ?_, rfl, h1, h2, h3⟩
  unfold turnI
  rw [List.getElem?_eq_getElem hlt]
  rfl
theorem byts_set {bs : List Int} {k : Nat} {z : Int} (hb : Byts bs) (hz : 0 ≤ z ∧ z ≤ 255) : Byts (bs.set k z) := fun x hx => by
  rcases List.mem_or_eq_of_mem_set hx with h | h
  · exact hb x h
  · subst h; exact hz
theorem turn_byts {bs : List Int} {b : Int} (hb : Byts bs) (h : 0 ≤ b ∧ b < 8 * (bs.length : Int)) : Byts (turnI bs b) := by
  obtain ⟨y, z, _, _, e, _, hz, _⟩ := turn_at hb h
  rw [e]
  exact byts_set hb hz
theorem turn_twice {bs : List Int} {b : Int} (hb : Byts bs) (h : 0 ≤ b ∧ b < 8 * (bs.length : Int)) : turnI (turnI bs b) b = bs := by
  obtain ⟨y, z, hy, _, e, hz, _, _, hyz⟩ := turn_at hb h
  have hlt : b.toNat / 8 < bs.length := by omega
  rw [e]
  unfold turnI
  rw [List.set_set]
  rw [show (bs.set (b.toNat / 8) z)[b.toNat / 8]?.getD 0 = z from by simp [hlt], hyz]
  apply List.ext_getElem?
  intro i
  by_cases hi : b.toNat / 8 = i
  · subst hi; rw [List.getElem?_set_self hlt, hy]
  · rw [List.getElem?_set_ne hi]
theorem turn_ne {bs : List Int} {b : Int} (hb : Byts bs) (h : 0 ≤ b ∧ b < 8 * (bs.length : Int)) : turnI bs b ≠ bs := by
  obtain ⟨y, z, hy, _, e, hz, _, hne, _⟩ := turn_at hb h
  have hlt : b.toNat / 8 < bs.length := by omega
  rw [e]
  intro h'
  have : (bs.set (b.toNat / 8) z)[b.toNat / 8]? = bs[b.toNat / 8]? := by rw [h']
  rw [List.getElem?_set_self hlt, hy] at this
  exact hne (Option.some.inj this)

theorem spo_twice {l : List Dg} {k b : Int} (hl : ∀ x ∈ l, Byts x.1) (h : spoE l k b = 0) : spoE (spoL l k b) k b = 0 ∧ spoL (spoL l k b) k b = l ∧ spoL l k b ≠ l ∧ (spoL l k b).length = l.length := by
  unfold spoE at h
  cases hp : plB l.length k with
  | false => simp [hp] at h
  | true =>
    obtain ⟨x, hx⟩ : ∃ x, l[k.toNat]?.getD z0 = x := ⟨_, rfl⟩
    rw [hx] at h
    cases hb : bitB x.1.length b with
    | false => simp [hp, hb] at h
    | true =>
      have hk : k.toNat < l.length := by simp [plB] at hp; omega
      have hbd : 0 ≤ b ∧ b < 8 * (x.1.length : Int) := by simpa [bitB] using hb
      have hxm : x ∈ l := by rw [← hx]; simp [hk]
      have hB := hl x hxm
      have e1 : spoL l k b = l.set k.toNat (turnI x.1 b, x.2) := by unfold spoL; rw [hp, hx, hb]; simp
      have g1 : (l.set k.toNat (turnI x.1 b, x.2))[k.toNat]?.getD z0 = (turnI x.1 b, x.2) := by simp [hk]
      have hset : (l.set k.toNat (turnI x.1 b, x.2)).set k.toNat x = l := by
        rw [List.set_set]
        apply List.ext_getElem?
        intro i
        by_cases hi : k.toNat = i
        · subst hi; rw [List.getElem?_set_self hk, ← hx]; simp [hk]
        · rw [List.getElem?_set_ne hi]
      refine ⟨?_, ?_, ?_, by rw [e1]; simp⟩
      · rw [e1]; unfold spoE; rw [List.length_set, hp, g1, turn_len, hb]; simp
      · rw [e1]; unfold spoL; rw [List.length_set, hp, g1, turn_len, hb]
        simp only [if_true]
        rw [turn_twice hB hbd]
        exact hset
      · rw [e1]
        intro h'
        have : (l.set k.toNat (turnI x.1 b, x.2))[k.toNat]?.getD z0 = l[k.toNat]?.getD z0 := by rw [h']
        rw [g1, hx] at this
        have h2 : turnI x.1 b = x.1 := congrArg Prod.fst this
        exact turn_ne hB hbd h2
end Go.Proofs.Ytkbgpbhlcmainaa
