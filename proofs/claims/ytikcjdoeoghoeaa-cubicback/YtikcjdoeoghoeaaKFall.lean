/- The contracts of fall, collapse and settle. -/
import Derived.Test.YtikcjdoeoghoeaaKBegin
namespace Go.Proofs.Ytikcjdoeoghoeaa
open Go.ChangeShapes Go.WideShapes Go.ChangeAt Go.RowKit
set_option linter.unusedVariables false


/-- What a call that is handed the box g leaves: all else as it was. -/
structure Chg (w : World) (g : Nat) (X : World) : Prop where
  size : w.heap.size ≤ X.heap.size
  other : ∀ k, k < w.heap.size → k ≠ g → X.heap[k]? = w.heap[k]?
  below : ∀ B a, B ≤ g → Below B a w → Below B a X
theorem Sto.chg {w X : World} {g : Nat} (h : Sto w g X) : Chg w g X := ⟨by rw [h.size]; exact Nat.le_refl _, fun k _ hk => h.other k hk, h.below⟩
theorem Chg.refl (w : World) (g : Nat) : Chg w g w := (Sto.refl w g).chg
theorem Chg.trans {w X Y : World} {g : Nat} (h : Chg w g X) (h' : Chg X g Y) : Chg w g Y := ⟨Nat.le_trans h.size h'.size, fun k hk hg => (h'.other k (Nat.lt_of_lt_of_le hk h.size) hg).trans (h.other k hk hg), fun B a hB hb => h'.below B a hB (h.below B a hB hb)⟩
theorem Chg.of_below {w X : World} {g : Nat} (hg : g < w.heap.size) (h : Below w.heap.size w X) : Chg w g X := ⟨h.size, fun k hk _ => h.block k hk, fun B a hB hb => hb.trans (h.mono (by omega))⟩
theorem Chg.set {w X : World} {g : Nat} (h : Chg w g X) (i : Nat) (v : Value) : Chg w g (X.setCell ⟨g, i, none⟩ v) := h.trans ((Sto.refl X g).set i v).chg
theorem Chg.drewN {w X : World} {g : Nat} (h : Chg w g X) (n : Nat) : Chg w g (X.drewN n) := h.trans ((Sto.refl X g).drewN n).chg
theorem Chg.drew {w X : World} {g : Nat} (h : Chg w g X) : Chg w g X.drew := h.trans (Sto.refl X g).drew.chg
theorem Chg.later {w X Y : World} {g : Nat} (h : Chg w g X) (hg : g < X.heap.size) (h' : Below X.heap.size X Y) : Chg w g Y := h.trans (Chg.of_below hg h')
theorem Box.chg {w X : World} {g k : Nat} {t : TypeId} {cs : List Value} (h : Box w k t cs) (hs : Chg w g X) (hk : k ≠ g) : Box X k t cs := (hs.other k h.lt hk).trans h
theorem wp_named {K : Code} {P : Program} {Q : Exit → Act → World → Prop} {a : Act} {W : World} (h : ∀ X, X = W → K.wp P Q a X) : K.wp P Q a W := h W rfl
theorem box_to {W : World} {g : Nat} {t : TypeId} {cs cs' : List Value} (h : Box W g t cs) (e : cs = cs') : Box W g t cs' := e ▸ h

set_option maxRecDepth 100000 in
set_option maxHeartbeats 4000000 in
theorem kfall_aa (c : Cc) (g : Nat) (q17 q7 d : Int) (h17 : (c.cw * 17).tdiv 20 = q17) (h7 : (c.cw * 7).tdiv 10 = q7) (hd : 2 * c.ms = d) (hq : 0 ≤ q7 ∧ q7 ≤ 1073741824) (hq17 : 0 ≤ q17 ∧ q17 ≤ 1073741824) (hw : c.cw < c.wm) (hx : q7 < d) (hm : 1 ≤ c.ms ∧ c.ms ≤ 65000) (hc : 0 ≤ c.cw ∧ c.cw ≤ 1073741824) (w : World) (hb : Box w g 48 (ccL c)) : Calls Try.prog 43 #[.pointer (some ⟨g, 0, none⟩)] w fun e w' => e = .returned (.tuple #[]) ∧ Chg w g w' ∧ Box w' g 48 (ccL { c with wm := q17, ss := d, ep := -1, ac := 0 }) := by
  have HF : Hid (Chg w g w ∧ Box w g 48 (ccL c)) := ⟨Chg.refl w g, hb⟩
  have k1 := Box.cell hb 1 rfl
  have k2 := Box.cell hb 2 rfl
  have k3 := Box.cell hb 3 rfl
  have k4 := Box.cell hb 4 rfl
  have k5 := Box.cell hb 5 rfl
  have k6 := Box.cell hb 6 rfl
  have fz := fun i => Box.frozen hb i
  have hlt := hb.lt
  clear hb
  go_enter Try.func43, Try.ntmps43
  go_upto_region 0 with fail
  go_quiet (fail)
  go_upto_region 3 with fail
  go_region
  go_wp2_with fail
  go_end0
  refine ⟨rfl, ?hs, ?hx⟩
  case hs => repeat (first | with_reducible exact HF.out.1 | with_reducible refine Chg.set ?_ _ _ | with_reducible refine Chg.drewN ?_ _ | with_reducible refine Chg.drew ?_)
  case hx =>
    apply box_to
    · repeat (first | with_reducible exact HF.out.2 | with_reducible apply Box.set | with_reducible apply Box.drewN | with_reducible apply Box.drew)
    · rfl

set_option maxRecDepth 100000 in
set_option maxHeartbeats 4000000 in
theorem kfall_ab (c : Cc) (g : Nat) (q17 q7 d : Int) (h17 : (c.cw * 17).tdiv 20 = q17) (h7 : (c.cw * 7).tdiv 10 = q7) (hd : 2 * c.ms = d) (hq : 0 ≤ q7 ∧ q7 ≤ 1073741824) (hq17 : 0 ≤ q17 ∧ q17 ≤ 1073741824) (hw : c.cw < c.wm) (hx : d ≤ q7) (hm : 1 ≤ c.ms ∧ c.ms ≤ 65000) (hc : 0 ≤ c.cw ∧ c.cw ≤ 1073741824) (w : World) (hb : Box w g 48 (ccL c)) : Calls Try.prog 43 #[.pointer (some ⟨g, 0, none⟩)] w fun e w' => e = .returned (.tuple #[]) ∧ Chg w g w' ∧ Box w' g 48 (ccL { c with wm := q17, ss := q7, ep := -1, ac := 0 }) := by
  have HF : Hid (Chg w g w ∧ Box w g 48 (ccL c)) := ⟨Chg.refl w g, hb⟩
  have k1 := Box.cell hb 1 rfl
  have k2 := Box.cell hb 2 rfl
  have k3 := Box.cell hb 3 rfl
  have k4 := Box.cell hb 4 rfl
  have k5 := Box.cell hb 5 rfl
  have k6 := Box.cell hb 6 rfl
  have fz := fun i => Box.frozen hb i
  have hlt := hb.lt
  clear hb
  go_enter Try.func43, Try.ntmps43
  go_upto_region 0 with fail
  go_quiet (fail)
  go_upto_region 3 with fail
  go_region
  go_wp2_with fail
  go_end0
  refine ⟨rfl, ?hs, ?hx⟩
  case hs => repeat (first | with_reducible exact HF.out.1 | with_reducible refine Chg.set ?_ _ _ | with_reducible refine Chg.drewN ?_ _ | with_reducible refine Chg.drew ?_)
  case hx =>
    apply box_to
    · repeat (first | with_reducible exact HF.out.2 | with_reducible apply Box.set | with_reducible apply Box.drewN | with_reducible apply Box.drew)
    · rfl

set_option maxRecDepth 100000 in
set_option maxHeartbeats 4000000 in
theorem kfall_ba (c : Cc) (g : Nat) (q17 q7 d : Int) (h17 : (c.cw * 17).tdiv 20 = q17) (h7 : (c.cw * 7).tdiv 10 = q7) (hd : 2 * c.ms = d) (hq : 0 ≤ q7 ∧ q7 ≤ 1073741824) (hq17 : 0 ≤ q17 ∧ q17 ≤ 1073741824) (hw : c.wm ≤ c.cw) (hx : q7 < d) (hm : 1 ≤ c.ms ∧ c.ms ≤ 65000) (hc : 0 ≤ c.cw ∧ c.cw ≤ 1073741824) (w : World) (hb : Box w g 48 (ccL c)) : Calls Try.prog 43 #[.pointer (some ⟨g, 0, none⟩)] w fun e w' => e = .returned (.tuple #[]) ∧ Chg w g w' ∧ Box w' g 48 (ccL { c with wm := c.cw, ss := d, ep := -1, ac := 0 }) := by
  have HF : Hid (Chg w g w ∧ Box w g 48 (ccL c)) := ⟨Chg.refl w g, hb⟩
  have k1 := Box.cell hb 1 rfl
  have k2 := Box.cell hb 2 rfl
  have k3 := Box.cell hb 3 rfl
  have k4 := Box.cell hb 4 rfl
  have k5 := Box.cell hb 5 rfl
  have k6 := Box.cell hb 6 rfl
  have fz := fun i => Box.frozen hb i
  have hlt := hb.lt
  clear hb
  go_enter Try.func43, Try.ntmps43
  go_upto_region 0 with fail
  go_quiet (fail)
  go_upto_region 3 with fail
  go_region
  go_wp2_with fail
  go_end0
  refine ⟨rfl, ?hs, ?hx⟩
  case hs => repeat (first | with_reducible exact HF.out.1 | with_reducible refine Chg.set ?_ _ _ | with_reducible refine Chg.drewN ?_ _ | with_reducible refine Chg.drew ?_)
  case hx =>
    apply box_to
    · repeat (first | with_reducible exact HF.out.2 | with_reducible apply Box.set | with_reducible apply Box.drewN | with_reducible apply Box.drew)
    · rfl

set_option maxRecDepth 100000 in
set_option maxHeartbeats 4000000 in
theorem kfall_bb (c : Cc) (g : Nat) (q17 q7 d : Int) (h17 : (c.cw * 17).tdiv 20 = q17) (h7 : (c.cw * 7).tdiv 10 = q7) (hd : 2 * c.ms = d) (hq : 0 ≤ q7 ∧ q7 ≤ 1073741824) (hq17 : 0 ≤ q17 ∧ q17 ≤ 1073741824) (hw : c.wm ≤ c.cw) (hx : d ≤ q7) (hm : 1 ≤ c.ms ∧ c.ms ≤ 65000) (hc : 0 ≤ c.cw ∧ c.cw ≤ 1073741824) (w : World) (hb : Box w g 48 (ccL c)) : Calls Try.prog 43 #[.pointer (some ⟨g, 0, none⟩)] w fun e w' => e = .returned (.tuple #[]) ∧ Chg w g w' ∧ Box w' g 48 (ccL { c with wm := c.cw, ss := q7, ep := -1, ac := 0 }) := by
  have HF : Hid (Chg w g w ∧ Box w g 48 (ccL c)) := ⟨Chg.refl w g, hb⟩
  have k1 := Box.cell hb 1 rfl
  have k2 := Box.cell hb 2 rfl
  have k3 := Box.cell hb 3 rfl
  have k4 := Box.cell hb 4 rfl
  have k5 := Box.cell hb 5 rfl
  have k6 := Box.cell hb 6 rfl
  have fz := fun i => Box.frozen hb i
  have hlt := hb.lt
  clear hb
  go_enter Try.func43, Try.ntmps43
  go_upto_region 0 with fail
  go_quiet (fail)
  go_upto_region 3 with fail
  go_region
  go_wp2_with fail
  go_end0
  refine ⟨rfl, ?hs, ?hx⟩
  case hs => repeat (first | with_reducible exact HF.out.1 | with_reducible refine Chg.set ?_ _ _ | with_reducible refine Chg.drewN ?_ _ | with_reducible refine Chg.drew ?_)
  case hx =>
    apply box_to
    · repeat (first | with_reducible exact HF.out.2 | with_reducible apply Box.set | with_reducible apply Box.drewN | with_reducible apply Box.drew)
    · rfl

theorem kfall_is (c : Cc) (g : Nat) (hm : 1 ≤ c.ms ∧ c.ms ≤ 65000) (hc : 0 ≤ c.cw ∧ c.cw ≤ 1073741824) (w : World) (hb : Box w g 48 (ccL c)) : Calls Try.prog 43 #[.pointer (some ⟨g, 0, none⟩)] w fun e w' => e = .returned (.tuple #[]) ∧ Chg w g w' ∧ Box w' g 48 (ccL (falE c)) := by
  have e1 : (c.cw * 17).tdiv 20 = c.cw * 17 / 20 := Int.tdiv_eq_ediv_of_nonneg (by omega)
  have e2 : (c.cw * 7).tdiv 10 = c.cw * 7 / 10 := Int.tdiv_eq_ediv_of_nonneg (by omega)
  unfold falE falW
  by_cases h : c.cw < c.wm
  · rw [if_pos h]
    by_cases h2 : c.cw * 7 / 10 < 2 * c.ms
    · rw [show max (c.cw * 7 / 10) (2 * c.ms) = 2 * c.ms by omega]; exact kfall_aa c g _ _ _ e1 e2 rfl (by omega) (by omega) h h2 hm hc w hb
    · rw [show max (c.cw * 7 / 10) (2 * c.ms) = c.cw * 7 / 10 by omega]; exact kfall_ab c g _ _ _ e1 e2 rfl (by omega) (by omega) h (by omega) hm hc w hb
  · rw [if_neg h]
    by_cases h2 : c.cw * 7 / 10 < 2 * c.ms
    · rw [show max (c.cw * 7 / 10) (2 * c.ms) = 2 * c.ms by omega]; exact kfall_ba c g _ _ _ e1 e2 rfl (by omega) (by omega) (by omega) h2 hm hc w hb
    · rw [show max (c.cw * 7 / 10) (2 * c.ms) = c.cw * 7 / 10 by omega]; exact kfall_bb c g _ _ _ e1 e2 rfl (by omega) (by omega) (by omega) (by omega) hm hc w hb

set_option maxRecDepth 100000 in
set_option maxHeartbeats 4000000 in
theorem kset_is (c : Cc) (g : Nat)  (w : World) (hb : Box w g 48 (ccL c)) : Calls Try.prog 45 #[.pointer (some ⟨g, 0, none⟩)] w fun e w' => e = .returned (.tuple #[]) ∧ Chg w g w' ∧ Box w' g 48 (ccL (setE c)) := by
  have HF : Hid (Chg w g w ∧ Box w g 48 (ccL c)) := ⟨Chg.refl w g, hb⟩
  have k2 := Box.cell hb 2 rfl
  have k3 := Box.cell hb 3 rfl
  have fz := fun i => Box.frozen hb i
  have hlt := hb.lt
  clear hb
  go_enter Try.func45, Try.ntmps45
  go_wp2_with fail
  go_end0
  refine ⟨rfl, ?hs, ?hx⟩
  case hs => repeat (first | with_reducible exact HF.out.1 | with_reducible refine Chg.set ?_ _ _ | with_reducible refine Chg.drewN ?_ _ | with_reducible refine Chg.drew ?_)
  case hx =>
    apply box_to
    · repeat (first | with_reducible exact HF.out.2 | with_reducible apply Box.set | with_reducible apply Box.drewN | with_reducible apply Box.drew)
    · rfl

set_option maxRecDepth 100000 in
set_option maxHeartbeats 4000000 in
theorem kcol_is (c : Cc) (g : Nat) (hm : 1 ≤ c.ms ∧ c.ms ≤ 65000) (hc : 0 ≤ c.cw ∧ c.cw ≤ 1073741824) (w : World) (hb : Box w g 48 (ccL c)) : Calls Try.prog 44 #[.pointer (some ⟨g, 0, none⟩)] w fun e w' => e = .returned (.tuple #[]) ∧ Chg w g w' ∧ Box w' g 48 (ccL (colE c)) := by
  have c1 := kfall_is c g hm hc w hb
  have hlt := hb.lt
  clear hb
  go_enter Try.func44, Try.ntmps44
  go_wp2_with fail
  refine c1.mono ?_
  rintro e w1 ⟨rfl, hS, hB⟩
  have HF : Hid (Chg w g w1 ∧ Box w1 g 48 (ccL (falE c))) := ⟨hS, hB⟩
  have k1 : w1.cell? ⟨g, 1, none⟩ = some (.int .i64 c.ms) := Box.cell hB 1 rfl
  have k2 : w1.cell? ⟨g, 2, none⟩ = some (.int .i64 c.cw) := Box.cell hB 2 rfl
  have fz := fun i => Box.frozen hB i
  have hlt1 := hB.lt
  clear hB hS c1
  go_wp2_with fail
  go_end0
  refine ⟨rfl, ?hs, ?hx⟩
  case hs => repeat (first | with_reducible exact HF.out.1 | with_reducible refine Chg.set ?_ _ _ | with_reducible refine Chg.drewN ?_ _ | with_reducible refine Chg.drew ?_)
  case hx =>
    apply box_to
    · repeat (first | with_reducible exact HF.out.2 | with_reducible apply Box.set | with_reducible apply Box.drewN | with_reducible apply Box.drew)
    · rfl
end Go.Proofs.Ytikcjdoeoghoeaa
