/- The contract of readOption, of an option that is right. -/
import Derived.Test.YtllmeeebjjmanaaDoorBlocks
namespace Go.Proofs.YtllmeeebjjmanaaDoor
open Go.ChangeShapes Go.WideShapes Go.ChangeAt Go.RowKit Go.Shelf
set_option linter.unusedVariables false

/-- But for block p, what lay is as it was. -/
structure But (p : Nat) (w w' : World) : Prop where
  os : w'.os = w.os
  tape : w'.tape = w.tape
  output : w'.output = w.output
  size : w.heap.size ≤ w'.heap.size
  block : ∀ k, k < w.heap.size → k ≠ p → w'.heap[k]? = w.heap[k]?

theorem But.refl (p : Nat) (w : World) : But p w w := ⟨rfl, rfl, rfl, Nat.le_refl _, fun _ _ _ => rfl⟩
theorem But.trans {p : Nat} {a b c : World} (h : But p a b) (k : But p b c) : But p a c :=
  ⟨k.os.trans h.os, k.tape.trans h.tape, k.output.trans h.output, Nat.le_trans h.size k.size, fun i hi hp => (k.block i (Nat.lt_of_lt_of_le hi h.size) hp).trans (h.block i hi hp)⟩
theorem But.setCell (p : Nat) (w : World) (k : Nat) (v : Value) : But p w (w.setCell ⟨p, k, none⟩ v) :=
  ⟨rfl, rfl, rfl, by simp [World.setCell], fun i _ hp => Below.heap_setCell _ _ _ _ hp⟩
theorem But.drewN (p : Nat) (w : World) (n : Nat) : But p w (w.drewN n) := ⟨rfl, rfl, rfl, Nat.le_refl _, fun _ _ _ => rfl⟩
theorem But.of_below {p : Nat} {w w' : World} (h : Below w.heap.size w w') : But p w w' := ⟨h.os, h.tape, h.output, h.size, fun i hi _ => h.block i hi⟩
theorem But.below {p n : Nat} {w w' : World} (h : But p w w') (hn : n ≤ p) (hs : p ≤ w.heap.size) : Below n w w' := ⟨h.os, h.tape, h.output, h.size, fun i hi => h.block i (by omega) (by omega)⟩

theorem But.cell {p : Nat} {w w' : World} (h : But p w w') {a : Addr} {v : Value} (hc : w.cell? a = some v) (hp : a.block ≠ p) : w'.cell? a = some v :=
  (World.cell?_of_block (w := w) (h.block a.block (lt_of_cell hc) hp)).trans hc
theorem BytesAt.but {p : Nat} {w w' : World} {a : Option Addr} {bs : List Int} (h : BytesAt w a bs) (hb : But p w w') (hp : ∀ x, a = some x → x.block ≠ p) : BytesAt w' a bs := by
  refine ⟨h.1, h.2.1, fun j hj => ?_⟩
  obtain ⟨b, o, e, hc⟩ := h.2.2 j hj
  exact ⟨b, o, e, hb.cell hc (show b ≠ p from hp _ e)⟩
theorem BlksAt.but {p : Nat} {w w' : World} {a : Option Addr} {l : List (Int × Int)} (h : BlksAt w a l) (hb : But p w w') (hp : ∀ x, a = some x → x.block ≠ p) : BlksAt w' a l := by
  refine ⟨h.1, h.2.1, fun j hj => ?_⟩
  obtain ⟨b, o, e, hc, hd⟩ := h.2.2 j hj
  exact ⟨b, o, e, hb.cell hc (show b ≠ p from hp _ e), hb.cell hd (show b ≠ p from hp _ e)⟩

theorem seg_set {w : World} {p : Nat} {cs : Array Value} {t : TypeId} (h : w.heap[p]? = some (.cells cs t)) (k : Nat) (v : Value) : (w.setCell ⟨p, k, none⟩ v).heap[p]? = some (.cells (cs.setIfInBounds k v) t) := by
  simp [World.setCell, Array.getElem?_modify, h]
theorem seg_frozen {w : World} {p : Nat} {cs : Array Value} {t : TypeId} (h : w.heap[p]? = some (.cells cs t)) (k : Nat) : w.frozen? ⟨p, k, none⟩ = false := by
  unfold World.frozen?
  rw [show w.heap[(⟨p, k, none⟩ : Addr).block]? = some (.cells cs t) from h]
  simp

theorem RowB.ge {w : World} {B : Nat} {va : Option Addr} {L vc : Nat} {l : List (Int × Int)} (h : RowB w B va L vc l) : ∀ x, va = some x → B ≤ x.block := by
  intro x hx
  rcases h.2 with ⟨e, _⟩ | ⟨g, c, cur, e, hb, _⟩
  · cases e; cases hx
  · cases e; cases hx; exact hb

theorem once_ok (w : World) : Calls Tryd.prog 55 #[.bool true, .bool true] w fun e w' => e = .returned (.tuple #[]) ∧ w' = w := by
  go_enter Tryd.func55, Tryd.ntmps55
  go_wp2_with (go_at_call 43; refine (must_ok _ _).mono ?_; rintro e w' ⟨rfl, rfl⟩)
  go_end0
  exact ⟨rfl, rfl⟩

set_option maxRecDepth 100000 in
set_option maxHeartbeats 1000000 in
theorem readOption_2 (p : Nat) (s : Seg) (ka : Option Addr) (kc : Nat) (da : Option Addr) (dc : Nat) (la : Option Addr) (lc : Nat) (body : List Int) (w : World) (hp : SegCells w p s ka kc da dc) (hb : BytesAt w la body) (hms : s.ms < 0) (hl : body.length = 2) :
    Calls Tryd.prog 54 #[.pointer (some ⟨p, 0, none⟩), .int .u8 2, .slice la 2 lc] w fun e w' => e = .returned (.tuple #[]) ∧ SegCells w' p { s with ms := wordAt body 0 } ka kc da dc ∧ But p w w' := by
  obtain ⟨b, o, rfl, _⟩ := hb.2.2 0 (by omega)
  have hw := word_at b o 2 lc 0 body w hb (by omega) (by decide)
  have HW : Hid (Calls Tryd.prog 45 #[.slice (some ⟨b, o, none⟩) 2 lc] w fun e w' => e = .returned (.int .i64 (wordAt body 0)) ∧ ∃ k, w' = w.drewN k) := hw
  have HP : Hid (SegCells w p s ka kc da dc) := hp
  have c7 := (boxAt_of hp).c7
  have f7 := seg_frozen hp 7
  have hd : decide (s.ms < 0) = true := by simpa using hms
  clear hw hp hb hl hms
  go_enter Tryd.func54, Tryd.ntmps54
  go_wp2_with (first | (go_at_call 55; refine (once_ok _).mono ?_; rintro e w' ⟨rfl, rfl⟩) | (go_at_call 45; refine HW.out.mono ?_; rintro e w' ⟨rfl, k, rfl⟩))
  go_end0
  refine ⟨rfl, ?_, (But.drewN _ _ _).trans (But.setCell _ _ _ _)⟩
  exact seg_set (w := World.drewN _ _) HP.out 7 _

set_option maxRecDepth 100000 in
set_option maxHeartbeats 1000000 in
theorem readOption_3 (p : Nat) (s : Seg) (ka : Option Addr) (kc : Nat) (da : Option Addr) (dc : Nat) (la : Option Addr) (lc : Nat) (body : List Int) (w : World) (hp : SegCells w p s ka kc da dc) (hb : BytesAt w la body) (hms : s.sc < 0) (hl : body.length = 1) :
    Calls Tryd.prog 54 #[.pointer (some ⟨p, 0, none⟩), .int .u8 3, .slice la 1 lc] w fun e w' => e = .returned (.tuple #[]) ∧ SegCells w' p { s with sc := min (nth body 0) 14 } ka kc da dc ∧ But p w w' := by
  obtain ⟨b, o, rfl, h0⟩ := hb.2.2 0 (by omega)
  have hnb := nth_bd hb.2.1 0
  have h0' : w.cell? ⟨b, o, none⟩ = some (.int .u8 (nth body 0)) := h0
  obtain ⟨x, hx⟩ : ∃ x, nth body 0 = x := ⟨_, rfl⟩
  rw [hx] at h0' hnb ⊢
  have HP : Hid (SegCells w p s ka kc da dc) := hp
  have c8 := (boxAt_of hp).c8
  have f8 := seg_frozen hp 8
  have hd : decide (s.sc < 0) = true := by simpa using hms
  clear hp hb hl hms hx h0
  go_enter Tryd.func54, Tryd.ntmps54
  go_wp2_with (first | (go_at_call 55; refine (once_ok _).mono ?_; rintro e w' ⟨rfl, rfl⟩))
  all_goals go_end0
  all_goals refine ⟨rfl, ?_, But.setCell _ _ _ _⟩
  all_goals (first | (rw [show min x 14 = 14 from by omega]; exact seg_set HP.out 8 _) | (rw [show min x 14 = x from by omega]; exact seg_set HP.out 8 _))

set_option maxRecDepth 100000 in
set_option maxHeartbeats 1000000 in
theorem readOption_4 (p : Nat) (s : Seg) (ka : Option Addr) (kc : Nat) (da : Option Addr) (dc : Nat) (la : Option Addr) (lc : Nat) (w : World) (hp : SegCells w p s ka kc da dc) (hms : s.so = false) :
    Calls Tryd.prog 54 #[.pointer (some ⟨p, 0, none⟩), .int .u8 4, .slice la 0 lc] w fun e w' => e = .returned (.tuple #[]) ∧ SegCells w' p { s with so := true } ka kc da dc ∧ But p w w' := by
  have HP : Hid (SegCells w p s ka kc da dc) := hp
  have c9 := (boxAt_of hp).c9
  rw [hms] at c9
  have f9 := seg_frozen hp 9
  clear hp hms
  go_enter Tryd.func54, Tryd.ntmps54
  go_wp2_with (first | (go_at_call 55; refine (once_ok _).mono ?_; rintro e w' ⟨rfl, rfl⟩))
  go_end0
  exact ⟨rfl, seg_set HP.out 9 _, But.setCell _ _ _ _⟩

set_option maxRecDepth 100000 in
set_option maxHeartbeats 1000000 in
theorem readOption_x (p : Nat) (la : Option Addr) (ll lc : Nat) (kind : Int) (w : World) (h2 : (kind == 2) = false) (h3 : (kind == 3) = false) (h4 : (kind == 4) = false) (h8 : (kind == 8) = false) (h5 : (kind == 5) = false) :
    Calls Tryd.prog 54 #[.pointer (some ⟨p, 0, none⟩), .int .u8 kind, .slice la ll lc] w fun e w' => e = .returned (.tuple #[]) ∧ w' = w := by
  go_enter Tryd.func54, Tryd.ntmps54
  go_wp2_with fail
  go_end0
  exact ⟨rfl, rfl⟩

set_option maxRecDepth 100000 in
set_option maxHeartbeats 1000000 in
theorem readOption_5 (p : Nat) (s : Seg) (ka : Option Addr) (kc : Nat) (da : Option Addr) (dc : Nat) (la : Option Addr) (lc m : Nat) (body : List Int) (w : World) (hp : SegCells w p s ka kc da dc) (hb : BytesAt w la body) (hms : s.sk = []) (hl : body.length = 8 * m) (hc : 8 * m ≤ lc) (hm : 1 ≤ m ∧ m ≤ 4) :
    Calls Tryd.prog 54 #[.pointer (some ⟨p, 0, none⟩), .int .u8 5, .slice la (8 * m : Nat) lc] w fun e w' => e = .returned (.tuple #[]) ∧ (∃ ka' kc', SegCells w' p { s with sk := rdBlk m body } ka' kc' da dc ∧ BlksAt w' ka' (rdBlk m body) ∧ ∀ x, ka' = some x → p < x.block) ∧ But p w w' := by
  have hr := readBlocks_any la lc m body w hb hl hc hm.2
  have HR : Hid (Calls Tryd.prog 56 #[.slice la (8 * m) lc] w fun e w' => ∃ va vc, e = .returned (.slice va m vc) ∧ RowB w' w.heap.size va m vc (rdBlk m body) ∧ Below w.heap.size w w') := hr
  have HP : Hid (SegCells w p s ka kc da dc) := hp
  have HY : Hid (Byts body) := hb.2.1
  have hplt : p < w.heap.size := (Array.getElem?_eq_some_iff.1 hp).1
  have c13 := (boxAt_of hp).c13
  rw [hms] at c13
  have f13 := seg_frozen hp 13
  obtain ⟨ll, hll⟩ : ∃ ll, 8 * m = ll := ⟨_, rfl⟩
  rw [hll] at HR ⊢
  have hq : ((ll : Int).tdiv 8) = m := by rw [Int.tdiv_eq_ediv_of_nonneg (by omega)]; omega
  have hr : ((ll : Int).tmod 8) = 0 := by rw [Int.tmod_eq_emod_of_nonneg (by omega)]; omega
  have hm1 : (1 : Int) ≤ (m : Int) := by omega
  have hm4 : (m : Int) ≤ 4 := by omega
  have hll32 : ll ≤ 32 := by omega
  clear hp hms hb hl hc hm hll
  go_enter Tryd.func54, Tryd.ntmps54
  go_wp2_with (first | (go_at_call 55; refine (once_ok _).mono ?_; rintro e w' ⟨rfl, rfl⟩))
  refine HR.out.mono ?_
  rintro e w1 ⟨va, vc, rfl, hRB, hB⟩
  have hp1 : SegCells w1 p s ka kc da dc := block_keep HP.out hB (Nat.le_refl _)
  clear c13 f13
  have c13 := (boxAt_of hp1).c13
  have f13 := seg_frozen hp1 13
  have HP1 : Hid (SegCells w1 p s ka kc da dc) := hp1
  have HRB : Hid (RowB w1 w'.heap.size va m vc (rdBlk m body)) := hRB
  clear hp1 hRB
  go_wp2_with fail
  go_end0
  have hbp : ∀ x, va = some x → p < x.block := fun x hx => by have := HRB.out.ge x hx; omega
  refine ⟨rfl, ⟨va, vc, ?_, ?_, hbp⟩, (But.of_below hB).trans (But.setCell _ _ _ _)⟩
  · have e : SegCells (w1.setCell ⟨p, 13, none⟩ (.slice va m vc)) p { s with sk := rdBlk m body } va vc da dc := by
      unfold SegCells segV
      rw [rdBlk_len]
      exact seg_set HP1.out 13 _
    exact e
  · exact (HRB.out.blks (by rw [rdBlk_len]; omega) (rdBlk_ok _ _ HY.out)).but (But.setCell p _ _ _) (fun x hx => by have := hbp x hx; omega)

set_option maxRecDepth 100000 in
set_option maxHeartbeats 2000000 in
theorem readOption_8 (p : Nat) (s : Seg) (ka : Option Addr) (kc : Nat) (da : Option Addr) (dc : Nat) (la : Option Addr) (lc : Nat) (body : List Int) (w : World) (hp : SegCells w p s ka kc da dc) (hb : BytesAt w la body) (hms : s.st = false) (hl : body.length = 8) (hc : 8 ≤ lc) :
    Calls Tryd.prog 54 #[.pointer (some ⟨p, 0, none⟩), .int .u8 8, .slice la 8 lc] w fun e w' => e = .returned (.tuple #[]) ∧ SegCells w' p { s with st := true, va := longAt body 0, ec := longAt body 4 } ka kc da dc ∧ But p w w' := by
  obtain ⟨b, o, rfl, _⟩ := hb.2.2 0 (by omega)
  have hsl := sl_l (some ⟨b, o, none⟩) 8 lc 4 4 rfl (by omega)
  rw [cutA_some b o lc 4 (by omega)] at hsl
  obtain ⟨zc, hzc⟩ : ∃ zc, lc - 4 = zc := ⟨_, rfl⟩
  rw [hzc] at hsl
  have L1 : Hid (∀ j, Calls Tryd.prog 46 #[.slice (some ⟨b, o, none⟩) 8 lc] (w.drewN j) fun e w' => e = .returned (.int .u32 (longAt body 0)) ∧ ∃ i, w' = (w.drewN j).drewN i) := fun j =>
    long_at b o 8 lc 0 _ (w.drewN j) hb (by omega) (by omega) (by omega)
  have L2 : Hid (∀ j, Calls Tryd.prog 46 #[.slice (some ⟨b, o + 4, none⟩) 4 zc] (w.drewN j) fun e w' => e = .returned (.int .u32 (longAt body 4)) ∧ ∃ i, w' = (w.drewN j).drewN i) := fun j =>
    long_at b o 4 zc 4 _ (w.drewN j) hb (by omega) (by omega) (by omega)
  have HP : Hid (SegCells w p s ka kc da dc) := hp
  have c10 := (boxAt_of hp).c10
  rw [hms] at c10
  have c11 := (boxAt_of hp).c11
  have c12 := (boxAt_of hp).c12
  have f10 := seg_frozen hp 10
  have f11 := seg_frozen hp 11
  have f12 := seg_frozen hp 12
  clear hp hb hl hms hzc
  go_enter Tryd.func54, Tryd.ntmps54
  go_wp2_with (first | (go_at_call 55; refine (once_ok _).mono ?_; rintro e w' ⟨rfl, rfl⟩))
  go_region_held3 (fun w' => True) (exact trivial)
    (first
      | (go_at_call_of 46 zc; refine (L2.out _).mono ?_; rintro e w' ⟨rfl, i, rfl⟩)
      | (go_at_call_of 46 lc; refine (L1.out 1).mono ?_; rintro e w' ⟨rfl, i, rfl⟩))
  go_wp2_with fail
  go_end0
  exact ⟨rfl, seg_set (seg_set (seg_set (w := World.drewN _ _) HP.out 10 _) 11 _) 12 _, (But.drewN _ _ _).trans ((But.setCell _ _ _ _).trans ((But.setCell _ _ _ _).trans (But.setCell _ _ _ _)))⟩

/-- An option that is right is read. -/
theorem readOption_any (p : Nat) (s s' : Seg) (ka : Option Addr) (kc : Nat) (da : Option Addr) (dc : Nat) (kind : Int) (la : Option Addr) (ll lc : Nat) (body : List Int) (w : World)
    (hp : SegCells w p s ka kc da dc) (hk : BlksAt w ka s.sk) (hkp : ∀ x, ka = some x → p < x.block) (hb : BytesAt w la body) (hl : body.length = ll) (hc : ll ≤ lc) (h : opt1 s kind body = some s') :
    Calls Tryd.prog 54 #[.pointer (some ⟨p, 0, none⟩), .int .u8 kind, .slice la ll lc] w fun e w' => e = .returned (.tuple #[]) ∧ (∃ ka' kc', SegCells w' p s' ka' kc' da dc ∧ BlksAt w' ka' s'.sk ∧ ∀ x, ka' = some x → p < x.block) ∧ But p w w' := by
  have hkp' : ∀ x, ka = some x → x.block ≠ p := fun x hx => by have := hkp x hx; omega
  unfold opt1 at h
  by_cases h2 : kind = 2
  · rw [if_pos h2] at h
    subst h2
    by_cases hh : s.ms < 0 ∧ body.length = 2
    · rw [if_pos hh] at h
      cases h
      obtain rfl : ll = 2 := by omega
      refine (readOption_2 p s ka kc da dc la lc body w hp hb hh.1 hh.2).mono ?_
      rintro e w' ⟨rfl, h1, h2⟩
      exact ⟨rfl, ⟨ka, kc, h1, hk.but h2 hkp', hkp⟩, h2⟩
    · rw [if_neg hh] at h; cases h
  rw [if_neg h2] at h
  by_cases h3 : kind = 3
  · rw [if_pos h3] at h
    subst h3
    by_cases hh : s.sc < 0 ∧ body.length = 1
    · rw [if_pos hh] at h
      cases h
      obtain rfl : ll = 1 := by omega
      refine (readOption_3 p s ka kc da dc la lc body w hp hb hh.1 hh.2).mono ?_
      rintro e w' ⟨rfl, h1, h2⟩
      exact ⟨rfl, ⟨ka, kc, h1, hk.but h2 hkp', hkp⟩, h2⟩
    · rw [if_neg hh] at h; cases h
  rw [if_neg h3] at h
  by_cases h4 : kind = 4
  · rw [if_pos h4] at h
    subst h4
    by_cases hh : s.so = false ∧ body.length = 0
    · rw [if_pos hh] at h
      cases h
      obtain rfl : ll = 0 := by omega
      refine (readOption_4 p s ka kc da dc la lc w hp hh.1).mono ?_
      rintro e w' ⟨rfl, h1, h2⟩
      exact ⟨rfl, ⟨ka, kc, h1, hk.but h2 hkp', hkp⟩, h2⟩
    · rw [if_neg hh] at h; cases h
  rw [if_neg h4] at h
  by_cases h8 : kind = 8
  · rw [if_pos h8] at h
    subst h8
    by_cases hh : s.st = false ∧ body.length = 8
    · rw [if_pos hh] at h
      cases h
      obtain rfl : ll = 8 := by omega
      refine (readOption_8 p s ka kc da dc la lc body w hp hb hh.1 hh.2 hc).mono ?_
      rintro e w' ⟨rfl, h1, h2⟩
      exact ⟨rfl, ⟨ka, kc, h1, hk.but h2 hkp', hkp⟩, h2⟩
    · rw [if_neg hh] at h; cases h
  rw [if_neg h8] at h
  by_cases h5 : kind = 5
  · rw [if_pos h5] at h
    subst h5
    by_cases hh : s.sk = [] ∧ (body.length % 8 = 0 ∧ 8 ≤ body.length ∧ body.length ≤ 32)
    · rw [if_pos hh] at h
      cases h
      obtain ⟨m, hm⟩ : ∃ m, body.length / 8 = m := ⟨_, rfl⟩
      rw [hm]
      have hbl : body.length = 8 * m := by omega
      obtain rfl : ll = 8 * m := by omega
      exact readOption_5 p s ka kc da dc la lc m body w hp hb hh.1 hbl hc (by omega)
    · rw [if_neg hh] at h; cases h
  rw [if_neg h5] at h
  cases h
  refine (readOption_x p la ll lc kind w (by simpa using h2) (by simpa using h3) (by simpa using h4) (by simpa using h8) (by simpa using h5)).mono ?_
  rintro e w' ⟨rfl, rfl⟩
  exact ⟨rfl, ⟨ka, kc, hp, hk, hkp⟩, But.refl _ _⟩

set_option maxRecDepth 100000 in
theorem optionLen_ok (b o n c : Nat) (m : Int) (w : World) (hn : (2 : Int) ≤ (n : Int)) (h1 : w.cell? ⟨b, o + 1, none⟩ = some (.int .u8 m)) (hm : 2 ≤ m ∧ m ≤ 255) (hmn : m ≤ (n : Int)) :
    Calls Tryd.prog 53 #[.slice (some ⟨b, o, none⟩) n c] w fun e w' => e = .returned (.int .i64 m) ∧ w' = w := by
  go_enter Tryd.func53, Tryd.ntmps53
  go_wp2_with (go_at_call_of 43 true; refine (must_ok _ _).mono ?_; rintro e w' ⟨rfl, rfl⟩)
  go_ret
  exact ⟨rfl, rfl⟩
end Go.Proofs.YtllmeeebjjmanaaDoor
