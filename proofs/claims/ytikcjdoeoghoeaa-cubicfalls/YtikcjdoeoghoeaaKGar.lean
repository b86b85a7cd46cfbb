/- The contract of growAsReno. -/
import Derived.Test.YtikcjdoeoghoeaaKFall
namespace Go.Proofs.Ytikcjdoeoghoeaa
open Go.ChangeShapes Go.WideShapes Go.ChangeAt Go.RowKit
set_option linter.unusedVariables false


/-- Blocks that were made later do not count. -/
theorem Chg.sto {w X Y : World} {g p : Nat} (h : Chg w g X) (hs : Sto X p Y) (hp : w.heap.size ≤ p) (hg : g < w.heap.size) : Chg w g Y :=
  ⟨by rw [hs.size]; exact h.size, fun k hk hkg => (hs.other k (by omega)).trans (h.other k hk hkg), fun B a hB hb => hs.below B a (by omega) (h.below B a hB hb)⟩
set_option maxRecDepth 100000 in
set_option maxHeartbeats 4000000 in
theorem kgar_in (c d : Cc) (g : Nat) (n er : Int) (w : World) (hb : Box w g 48 (ccL c)) (c1 : ∀ W, Calls Try.prog 36 #[ccv c] W fun e w' => e = .returned (ccv (asR c)) ∧ Below W.heap.size W w') (c2 : ∀ W, Calls Try.prog 49 #[ccv (asR c), .int .i64 n, .bool false] W fun e w' => e = .returned (.tuple #[ccv d, .int .i64 er]) ∧ Below W.heap.size W w') :
    Calls Try.prog 26 #[.pointer (some ⟨g, 0, none⟩), .int .i64 n] w fun e w' => e = .returned (.tuple #[]) ∧ Chg w g w' ∧ Box w' g 48 (ccL { c with cw := d.cw, ac := d.ac }) := by
  have HF : Hid (Chg w g w ∧ Box w g 48 (ccL c)) := ⟨Chg.refl w g, hb⟩
  have HL : Hid (g < w.heap.size) := hb.lt
  clear hb
  go_enter Try.func26, Try.ntmps26
  go_wp2_with (first | (refine wpC_load rfl isC48 rfl rfl HF.out.2 ?_))
  refine (c1 _).mono ?_
  rintro e w1 ⟨rfl, hB⟩
  have HG : Hid (Chg w g w1 ∧ Box w1 g 48 (ccL c)) := ⟨HF.out.1.later HF.out.2.lt hB, HF.out.2.later hB⟩
  clear HF hB c1
  go_wp2_with fail
  refine (c2 _).mono ?_
  rintro e w2 ⟨rfl, hB⟩
  have HF : Hid (Chg w g w2 ∧ Box w2 g 48 (ccL c)) := ⟨HG.out.1.later HG.out.2.lt hB, HG.out.2.later hB⟩
  clear HG hB c2
  go_wp2_with (first | (refine wpC_alloc rfl rfl zero26 ?_))
  intro X3 p HN
  have HG : Hid (Chg w g X3 ∧ Box X3 g 48 (ccL c) ∧ Box X3 p 26 (ccL zC) ∧ w.heap.size ≤ p) := ⟨HF.out.1.later HF.out.2.lt HN.out.2.1, HF.out.2.later HN.out.2.1, HN.out.2.2, by rw [HN.out.1]; exact HF.out.1.size⟩
  clear HF HN
  go_wp2_with (first | (refine wpC_store rfl isC26 rfl rfl rfl rfl HG.out.2.2.1 rfl ?_))
  intro X4 HN
  have hgp : w.heap.size ≤ p := HG.out.2.2.2
  have hgl := HL.out
  have HE : Hid (Chg w g X4 ∧ Box X4 g 48 (ccL c)) := ⟨HG.out.1.sto HN.out.1 hgp hgl, HG.out.2.1.sto HN.out.1 (by omega)⟩
  have hbp := HN.out.2
  clear HG HN
  have HF := HE
  clear HE
  have k2 := Box.cell HF.out.2 2 rfl
  have k4 := Box.cell HF.out.2 4 rfl
  have fz := fun i => Box.frozen HF.out.2 i
  have j2 := Box.cell hbp 2 rfl
  have j4 := Box.cell hbp 4 rfl
  have hne : p ≠ g := by omega
  have hlt := HF.out.2.lt
  have hlp := hbp.lt
  clear hbp HL hgp hgl
  go_upto_region 1 with fail
  go_region
  go_wp2_with fail
  go_end0
  refine ⟨rfl, ?hs, ?hx⟩
  case hs => repeat (first | with_reducible exact HF.out.1 | with_reducible refine Chg.set ?_ _ _ | with_reducible refine Chg.drewN ?_ _ | with_reducible refine Chg.drew ?_)
  case hx =>
    apply box_to
    · repeat (first | with_reducible exact HF.out.2 | with_reducible apply Box.set | with_reducible apply Box.drewN | with_reducible apply Box.drew)
    · rfl
theorem kgar_is (c : Cc) (g : Nat) (n : Int) (k : kOk c = true) (k2 : szB n = true) (hs : c.cw < c.ss) (w : World) (hb : Box w g 48 (ccL c)) :
    Calls Try.prog 26 #[.pointer (some ⟨g, 0, none⟩), .int .i64 n] w fun e w' => e = .returned (.tuple #[]) ∧ Chg w g w' ∧ Box w' g 48 (ccL { c with cw := min (c.cw + min n c.ms) 1073741824 }) := by
  have ho : okB (asR c) = true := by
    rw [asr_ok]
    unfold kOk at k
    simp only [Bool.and_eq_true] at k ⊢
    exact ⟨k.1.2, k.2⟩
  have a1 := fun W => ack_is (asR c) n false (cci_asr (kok_cci k)) W
  unfold ackR ansR at a1
  rw [if_pos (by rw [ho, k2]; rfl), if_neg (by simp)] at a1
  have h := kgar_in c (rn (asR c).ms (grwC (asR c) n) (asR c).ss (grwA (asR c) n)) g n _ w hb (fun W => asr_is c W) a1
  have e1 : grwC (asR c) n = min (c.cw + min n c.ms) 1073741824 := by unfold grwC; rw [if_pos (show (asR c).cw < (asR c).ss from hs)]; rfl
  have e2 : grwA (asR c) n = c.ac := by unfold grwA; rw [if_pos (show (asR c).cw < (asR c).ss from hs)]; rfl
  have e3 : ({ c with cw := (rn (asR c).ms (grwC (asR c) n) (asR c).ss (grwA (asR c) n)).cw, ac := (rn (asR c).ms (grwC (asR c) n) (asR c).ss (grwA (asR c) n)).ac } : Cc) = { c with cw := min (c.cw + min n c.ms) 1073741824 } := by
    rw [show (rn (asR c).ms (grwC (asR c) n) (asR c).ss (grwA (asR c) n)).cw = grwC (asR c) n from rfl, show (rn (asR c).ms (grwC (asR c) n) (asR c).ss (grwA (asR c) n)).ac = grwA (asR c) n from rfl, e1, e2]
  rw [e3] at h
  exact h
end Go.Proofs.Ytikcjdoeoghoeaa
