/- An even path, in plain numbers. -/
import Derived.Test.YtdgiapeniafklaaPlain
namespace Go.Proofs.Ytdgiapeniafklaa
open Go.RowKit
set_option linter.unusedVariables false
set_option linter.unusedSimpArgs false
attribute [local go_sem] Oper.semAt_some


/-- The sampler ahead of step i. -/
def evQ (z g : Int) (D i : Nat) : Rt := if D < i then ⟨((i : Int) - D) * z, ((i : Int) - 1) * g, ((i : Int) - 1 - D) * g, 0⟩ else rtZ
/-- Behind step i's delivery. -/
def evG (z g : Int) (D i : Nat) : Rt := ⟨((i : Int) + 1 - D) * z, (i : Int) * g, ((i : Int) - D) * g, 0⟩
/-- The record of step j. -/
def evR (z g : Int) (D j : Nat) : Rc := ⟨(j : Int) * z, ((j : Int) + 1) * z, false, (j : Int) * g, 1, false, false, false, if D ≤ j then ((j : Int) + 1 - D) * z else 0, if D ≤ j then (j : Int) * g else 0, if D ≤ j then ((j : Int) - D) * g else 0, false⟩
/-- As it is handed to Sent. -/
def evX (z g : Int) (j : Nat) : Rc := ⟨(j : Int) * z, ((j : Int) + 1) * z, false, (j : Int) * g, 1, false, false, false, 0, 0, 0, false⟩
def evL (z g : Int) (D i : Nat) : List Rc := (List.range' (i - D) (min i D)).map (evR z g D)
def evT (z g : Int) (D i : Nat) : List Rc := (List.range' (i - D + 1) (D - 1)).map (evR z g D)
theorem evL_len (z g : Int) (D i : Nat) : (evL z g D i).length = min i D := by simp [evL]
theorem evL_0 (z g : Int) (D : Nat) : evL z g D 0 = [] := by simp [evL]
theorem evL_low {D i : Nat} (z g : Int) (h : i < D) : evL z g D (i + 1) = evL z g D i ++ [evR z g D i] := by
  unfold evL
  rw [show i + 1 - D = 0 by omega, show i - D = 0 by omega, show min (i + 1) D = i + 1 by omega, show min i D = i by omega, List.range'_concat]
  simp
theorem evL_cons {D i : Nat} (z g : Int) (hD : 1 ≤ D) (h : D ≤ i) : evL z g D i = evR z g D (i - D) :: evT z g D i := by
  unfold evL evT
  rw [show min i D = D - 1 + 1 by omega, List.range'_succ]
  simp
theorem evL_next {D i : Nat} (z g : Int) (hD : 1 ≤ D) (h : D ≤ i) : evL z g D (i + 1) = evT z g D i ++ [evR z g D i] := by
  unfold evL evT
  rw [show min (i + 1) D = D - 1 + 1 by omega, show i + 1 - D = i - D + 1 by omega, List.range'_concat]
  simp only [List.map_append, List.map_cons, List.map_nil, Nat.mul_one, Nat.one_mul]
  congr 3
  omega
theorem evT_len (z g : Int) (D i : Nat) : (evT z g D i).length = D - 1 := by simp [evT]
theorem mul_bd {a b A B : Int} (ha : 0 ≤ a ∧ a ≤ A) (hb : 0 ≤ b ∧ b ≤ B) : 0 ≤ a * b ∧ a * b ≤ A * B := ⟨Int.mul_nonneg ha.1 hb.1, Int.mul_le_mul ha.2 hb.2 hb.1 (by omega)⟩
/-- What the statement asks of its numbers. -/
structure EvN (z g : Int) (D i : Nat) : Prop where
  z : 1 ≤ z ∧ z ≤ 10000
  g : 1 ≤ g ∧ g ≤ 100000
  D : 1 ≤ D ∧ D ≤ 50
  i : i ≤ 110
section
variable {z g : Int} {D i : Nat}
theorem EvN.iz (h : EvN z g D i) : 0 ≤ (i : Int) * z ∧ (i : Int) * z ≤ 1100000 := mul_bd (A := 110) (B := 10000) (by have := h.i; omega) (by have := h.z; omega)
theorem EvN.ig (h : EvN z g D i) : 0 ≤ (i : Int) * g ∧ (i : Int) * g ≤ 11000000 := mul_bd (A := 110) (B := 100000) (by have := h.i; omega) (by have := h.g; omega)
theorem EvN.Dz (h : EvN z g D i) : 0 ≤ (D : Int) * z ∧ (D : Int) * z ≤ 500000 := mul_bd (A := 50) (B := 10000) (by have := h.D; omega) (by have := h.z; omega)
theorem EvN.Dg (h : EvN z g D i) : 1 ≤ (D : Int) * g ∧ (D : Int) * g ≤ 5000000 := by
  have h1 := mul_bd (a := (D : Int)) (b := g) (A := 50) (B := 100000) (by have := h.D; omega) (by have := h.g; omega)
  have h2 : (1 : Int) * 1 ≤ (D : Int) * g := Int.mul_le_mul (by have := h.D; omega) h.g.1 (by omega) (by omega)
  omega
theorem EvN.zle (h : EvN z g D i) (hd : D ≤ i) : (D : Int) * z ≤ (i : Int) * z := Int.mul_le_mul_of_nonneg_right (by omega) (by have := h.z; omega)
theorem EvN.gle (h : EvN z g D i) (hd : D ≤ i) : (D : Int) * g ≤ (i : Int) * g := Int.mul_le_mul_of_nonneg_right (by omega) (by have := h.g; omega)
theorem EvN.gle1 (h : EvN z g D i) (hd : D + 1 ≤ i) : (D : Int) * g + g ≤ (i : Int) * g := by
  have : ((D : Int) + 1) * g ≤ (i : Int) * g := Int.mul_le_mul_of_nonneg_right (by omega) (by have := h.g; omega)
  rw [Int.add_mul, Int.one_mul] at this
  exact this
theorem EvN.sub (h : EvN z g D i) (j : Nat) (hj : j ≤ i) : EvN z g D j := ⟨h.z, h.g, h.D, by have := h.i; omega⟩
theorem ev_rec (h : EvN z g D i) : recB (evR z g D i) = true := by
  have h1 := h.iz; have h2 := h.ig; have h3 := h.Dz; have h4 := h.Dg; have h5 := h.z; have h6 := h.g
  refine rec_in ⟨?_, ?_, ?_, ?_, ?_⟩
  · simp only [evR, Int.add_mul, Int.one_mul]; omega
  · simp only [evR]
    split
    · rename_i hd; have := h.zle hd; simp only [Int.add_mul, Int.sub_mul, Int.one_mul]; omega
    · omega
  · simp only [evR]; split <;> omega
  · simp only [evR]
    split
    · rename_i hd; have := h.gle hd; simp only [Int.sub_mul]; omega
    · omega
  · simp only [evR]; omega
theorem ev_recX (h : EvN z g D i) : recB (evX z g i) = true := by
  have h1 := h.iz; have h2 := h.ig; have h5 := h.z
  refine rec_in ⟨?_, ?_, ?_, ?_, ?_⟩
  · simp only [evX, Int.add_mul, Int.one_mul]; omega
  all_goals (simp only [evX]; omega)
theorem i64_of {x : Int} (h : 0 ≤ x ∧ x ≤ 1125899906842624) : I64 x := by unfold I64; omega
theorem ev_i (h : EvN z g D i) : RcI (evR z g D i) := by
  have h1 := rec_out (ev_rec h)
  have h2 := h.iz; have h3 := h.z
  refine ⟨?_, ?_, i64_of h1.2.2.2.2, ?_, i64_of h1.2.1, i64_of h1.2.2.1, i64_of h1.2.2.2.1⟩
  · simp only [evR]; unfold I64; omega
  · simp only [evR, Int.add_mul, Int.one_mul]; unfold I64; omega
  · simp only [evR]; unfold I64; omega
theorem ev_iX (h : EvN z g D i) : RcI (evX z g i) := by
  have h1 := rec_out (ev_recX h)
  have h2 := h.iz; have h3 := h.z
  refine ⟨?_, ?_, i64_of h1.2.2.2.2, ?_, i64_of h1.2.1, i64_of h1.2.2.1, i64_of h1.2.2.2.1⟩
  · simp only [evX]; unfold I64; omega
  · simp only [evX, Int.add_mul, Int.one_mul]; unfold I64; omega
  · simp only [evX]; unfold I64; omega
theorem ev_okG (h : EvN z g D i) (hd : D ≤ i) : okQ (evG z g D i) = true := by
  have h1 := h.iz; have h2 := h.ig; have h3 := h.Dz; have h4 := h.Dg; have h5 := h.z; have h6 := h.g; have h7 := h.zle hd; have h8 := h.gle hd
  refine ok_in ⟨?_, ?_, ?_, ?_⟩ <;> simp only [evG, Int.add_mul, Int.sub_mul, Int.one_mul] <;> omega
theorem ev_okQ (h : EvN z g D i) : okQ (evQ z g D i) = true := by
  have h1 := h.iz; have h2 := h.ig; have h3 := h.Dz; have h4 := h.Dg; have h5 := h.z; have h6 := h.g
  unfold evQ
  split
  · rename_i hd
    have h7 := h.zle (by omega); have h8 := h.gle1 (by omega)
    refine ok_in ⟨?_, ?_, ?_, ?_⟩ <;> simp only [Int.add_mul, Int.sub_mul, Int.one_mul] <;> omega
  · rfl
theorem evQ_next (hd : D ≤ i) : evQ z g D (i + 1) = evG z g D i := by
  unfold evQ evG
  rw [if_pos (by omega)]
  congr 1
  all_goals (congr 1; omega)
theorem evQ_low (hd : i < D) : evQ z g D (i + 1) = rtZ ∧ evQ z g D i = rtZ := by
  unfold evQ
  rw [if_neg (by omega), if_neg (by omega)]; exact ⟨rfl, rfl⟩
theorem tm_small {x : Int} (h : 0 ≤ x ∧ x ≤ 11000000) : tmB x = true := tm_in (by omega)
/-- Sent, at step i. -/
theorem ev_sent (h : EvN z g D i) {q : Rt} (hq : q = evQ z g D (i + 1)) {nn : Bool} (hn : nn = true → i = 0) : sntQ q (evX z g i) ((i : Int) * g) nn = evQ z g D (i + 1) ∧ sntX q (evX z g i) ((i : Int) * g) nn = evR z g D i ∧ sntE q (evX z g i) ((i : Int) * g) = 0 := by
  subst hq
  have hk : okQ (evQ z g D (i + 1)) = true := by
    by_cases hd : D ≤ i
    · rw [evQ_next hd]; exact ev_okG h hd
    · rw [(evQ_low (by omega)).1]; rfl
  have hb : (tmB ((i : Int) * g) && recB (evX z g i)) = true := by rw [tm_small h.ig, ev_recX h]; rfl
  have hD := h.D
  have e1 : sentQ (evQ z g D (i + 1)) ((i : Int) * g) nn = evQ z g D (i + 1) := by
    unfold sentQ
    split
    · rename_i e
      obtain rfl := hn e
      rw [(evQ_low (by omega)).1]
      simp [rtZ]
    · rfl
  unfold sntQ sntX sntE
  rw [if_pos hk, if_pos hb, if_pos hk, if_pos hb, if_pos hk, if_pos hb]
  refine ⟨e1, ?_, rfl⟩
  unfold sentX
  rw [e1]
  unfold evX evR
  by_cases hd : D ≤ i
  · rw [evQ_next hd, if_pos hd, if_pos hd, if_pos hd]; rfl
  · rw [(evQ_low (by omega)).1, if_neg hd, if_neg hd, if_neg hd]; rfl
end
/-- Given, at step j + D. -/
theorem ev_given {z g : Int} {D j : Nat} (h : EvN z g D (j + D)) :
    givQ (evQ z g D (j + D)) [evR z g D j] (((j + D : Nat) : Int) * g) 0 = evG z g D (j + D) ∧ givE (evQ z g D (j + D)) [evR z g D j] (((j + D : Nat) : Int) * g) 0 = 0 ∧
    ∃ s, givS (evQ z g D (j + D)) [evR z g D j] (((j + D : Nat) : Int) * g) 0 = s ∧ s.ack = z ∧ s.rtt = (D : Int) * g ∧ (D ≤ j → s.rat = z * 1000000 / g) := by
  have hj := h.sub j (by omega)
  have h1 := hj.iz; have h2 := hj.ig; have h3 := h.Dz; have h4 := h.Dg; have h5 := h.z; have h6 := h.g; have h7 := h.D
  have hk := ev_okQ h
  have hb : givB [evR z g D j] (((j + D : Nat) : Int) * g) 0 = true := by
    unfold givB; rw [tm_small h.ig]
    simp only [recsB, List.all_cons, List.all_nil, ev_rec hj]; rfl
  have hgv : (evQ z g D (j + D)).gv = (j : Int) * z := by
    unfold evQ
    split
    · show (((j + D : Nat) : Int) - D) * z = _
      congr 1; omega
    · rename_i hn
      obtain rfl : j = 0 := by omega
      simp [rtZ]
  have hid : (evQ z g D (j + D)).idt = 0 := by unfold evQ; split <;> rfl
  have hone : oneR [evR z g D j] = evR z g D j := by
    have : (rcZ).gv ≤ (evR z g D j).gv := (rec_out (ev_rec hj)).2.1.1
    simp only [oneR, List.foldl_cons, List.foldl_nil]
    rw [if_pos this]
  have hack : ackI [evR z g D j] = z := by
    simp only [ackI, List.foldl_cons, List.foldl_nil, evR, Int.add_mul, Int.one_mul]; omega
  have hall : allG (evQ z g D (j + D)) [evR z g D j] = (j : Int) * z + z := by
    unfold allG; rw [hgv, hack]; omega
  have hsum : ((j + D : Nat) : Int) * g = (j : Int) * g + (D : Int) * g := by rw [Int.natCast_add, Int.add_mul]
  unfold givQ givE givS
  rw [if_pos hk, if_pos hb, if_pos hk, if_pos hb, if_pos hk, if_pos hb]
  refine ⟨?_, rfl, _, rfl, ?_, ?_, ?_⟩
  · unfold giv
    rw [if_neg (by simp), hall, hone, hid]
    unfold evG
    congr 1
    · rw [show ((j + D : Nat) : Int) + 1 - D = (j : Int) + 1 by omega, Int.add_mul, Int.one_mul]
    · show (j : Int) * g = _
      congr 1; omega
    · split <;> rfl
  · unfold gvs; rw [if_neg (by simp)]; exact hack
  · unfold gvs; rw [if_neg (by simp), hone]
    show rttI (evR z g D j) _ = _
    unfold rttI
    rw [if_pos (show (evR z g D j).tx = 1 from rfl), hsum]
    show max 0 ((j : Int) * g + (D : Int) * g - (j : Int) * g) = _
    omega
  · intro hd
    have h8 := hj.zle hd; have h9 := hj.gle hd
    unfold gvs; rw [if_neg (by simp), hone, hall]
    show spdI (evR z g D j) ((j : Int) * z + z) _ 0 = _
    have ht : spdT (evR z g D j) (((j + D : Nat) : Int) * g) = (D : Int) * g := by
      unfold spdT evR
      simp only [if_pos hd, hsum, Int.sub_mul]
      omega
    have hgr : (evR z g D j).gv = (j : Int) * z + z - (D : Int) * z := by
      unfold evR; simp only [if_pos hd, Int.sub_mul, Int.add_mul, Int.one_mul]
    have hDz : 0 < (D : Int) * z := Int.mul_pos (by omega) (by omega)
    unfold spdI
    rw [ht, hgr, if_neg (by omega), show (j : Int) * z + z - ((j : Int) * z + z - (D : Int) * z) = (D : Int) * z by omega]
    unfold mulDivI
    have he : (D : Int) * z * 1000000 / ((D : Int) * g) = z * 1000000 / g := by
      rw [Int.mul_assoc]; exact Int.mul_ediv_mul_of_pos _ _ (by omega)
    have hle : z * 1000000 / g ≤ z * 1000000 := Int.ediv_le_self _ (by omega)
    rw [if_neg (by omega), he, if_neg (by omega)]
end Go.Proofs.Ytdgiapeniafklaa
