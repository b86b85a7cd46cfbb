/- Texts: KRow, KBgn, KTim -/
import Derived.Test.YtagmighcofllhaaDoorGB
import Derived.Lib.AppendZeros
namespace Go.Proofs.YtagmighcofllhaaDoor
open Go.ChangeShapes Go.WideShapes Go.ChangeAt Go.RowKit
set_option linter.unusedVariables false
set_option linter.unusedSimpArgs false

open Fil
/-- A controller's row that came in. -/
structure RowIn (w : World) (c : Cc) (es : List Tm) : Prop where
  tims : TimsAt w c.ba es
  len : es.length = c.bn
  cap : c.bn ≤ c.bc
  nul : c.ba = none → c.bc = 0
  siz : c.bn * 16 ≤ 140737488351232
theorem RowIn.below {w X : World} {c : Cc} {es : List Tm} (h : RowIn w c es) (hb : Below w.heap.size w X) : RowIn X c es := ⟨h.tims.below hb (Nat.le_refl _), h.len, h.cap, h.nul, h.siz⟩
theorem RowIn.of {w : World} {B : Nat} {c : Cc} {es : List Tm} (h : Fil.RowT w B c.ba c.bn c.bc es) (hs : c.bn * 16 ≤ 140737488351232) : RowIn w c es := ⟨h.tims, h.len, h.max.1, row_none h, hs⟩
theorem copy_nil (w : World) (A : Option Addr) (n c : Nat) (es : List Tm) (hT : TimsAt w A es) (hn : es.length = n) (hA : A = none → c = 0) (hs : n * 16 ≤ 140737488351232) :
    ∃ va vc w', (Builtin.append_ #[24, 24] 24 #[.slice none 0 0, .slice A n c]).run Tryd.prog w = .ok (.slice va n vc) w' ∧ Fil.RowT w' 0 va n vc es ∧ Below w.heap.size w w' := by
  subst hn
  obtain ⟨va, vc, w', hr, hR, hg⟩ := app_row w w.heap.size none 0 0 [] (Fil.RowT.nil _ _) (Nat.le_refl _) A c es hT hA (by omega)
  rw [Nat.zero_add] at hr hR
  rw [List.nil_append] at hR
  exact ⟨va, vc, w', hr, hR.mono (Nat.zero_le _), Fil.below_append (Below.refl _ w) (Nat.le_refl _) (Fil.RowT.nil w w.heap.size) hg⟩
theorem copy_new (w : World) (A : Option Addr) (n c : Nat) (es : List Tm) (hT : TimsAt w A es) (hn : es.length = n) (hA : A = none → c = 0) (hs : n * 16 ≤ 140737488351232) :
    ∃ va vc w', (Builtin.append_ #[24, 24] 24 #[.slice (some ⟨w.heap.size, 0, none⟩) 0 0, .slice A n c]).run Tryd.prog (w.alloc (.cells #[] 61)) = .ok (.slice va n vc) w' ∧ Fil.RowT w' 0 va n vc es ∧ Below w.heap.size w w' := by
  subst hn
  have hO := owns_empty w w.heap.size (Nat.le_refl _)
  have hb0 : Below w.heap.size w (w.alloc (.cells #[] 61)) := (Below.refl _ w).alloc (Nat.le_refl _) _
  obtain ⟨va, vc, w', hr, hR, hg⟩ := app_row (w.alloc (.cells #[] 61)) w.heap.size _ 0 0 [] hO hb0.size A c es (hT.below hb0 (Nat.le_refl _)) hA (by omega)
  rw [Nat.zero_add] at hr hR
  rw [List.nil_append] at hR
  exact ⟨va, vc, w', hr, hR.mono (Nat.zero_le _), Fil.below_append hb0 hb0.size hO hg⟩
/-- l[:t:t] and l[:t]. -/
theorem sl_hm (a : Option Addr) (n c t : Nat) (ti : Int) (ht : ti = (t : Int)) (h2 : t ≤ c) (w : World) :
    (Instr.slice 24 (.slice a n c) none (some (.int .i64 ti)) (some (.int .i64 ti))).run Tryd.prog w = .ok (.slice a t t) w := by
  subst ht
  rw [run_slice_hm w 24 a n c under24 .i64 .i64 t t (by omega) (by omega) (by omega), size61]
  cases a <;> simp [sliced, Addr.add]
theorem sl_h (a : Option Addr) (n c t : Nat) (ti : Int) (ht : ti = (t : Int)) (h2 : t ≤ c) (w : World) :
    (Instr.slice 24 (.slice a n c) none (some (.int .i64 ti)) none).run Tryd.prog w = .ok (.slice a t c) w := by
  subst ht
  rw [run_slice_h w 24 a n c under24 .i64 t (by omega) (by omega), size61]
  cases a <;> simp [sliced, Addr.add]
theorem cci_rowed {c : Cc} (h : CcI c) (a : Option Addr) (k : Nat) : CcI (rowed c a c.bn k) := ⟨h.kd, h.ms, h.cw, h.ss, h.ac, h.wm, h.ep, h.ck, h.we, h.st, h.md, h.mr, h.ma, h.rd, h.na, h.fu, h.fc, h.ph, h.pa, h.da, h.pr, h.bn⟩
end Go.Proofs.YtagmighcofllhaaDoor

/- The contract of begin. -/
namespace Go.Proofs.YtagmighcofllhaaDoor
open Go.ChangeShapes Go.WideShapes Go.ChangeAt Go.RowKit
set_option linter.unusedVariables false
set_option linter.unusedSimpArgs false

open Fil

set_option maxRecDepth 100000 in
set_option maxHeartbeats 4000000 in
theorem bg8_no (w : World) (c : Cc) (c1 : ∀ W, Below w.heap.size w W → Calls Tryd.prog 11 #[ccv c] W fun e w' => e = .returned (.int .i64 230) ∧ Below W.heap.size W w')  : Calls Tryd.prog 24 #[ccv c] w fun e w' => e = .returned (.tuple #[ccv zC, .int .i64 230]) ∧ Below w.heap.size w w' := by
  go_enter Tryd.func24, Tryd.ntmps24
  go_wp2_with (first | (refine wpC_box rfl rfl rfl ?_))
  intro X1 p HN
  have HX1 : Hid (Below w.heap.size w X1 ∧ Box X1 p 26 (ccL c) ∧ w.heap.size ≤ p ∧ True) := by
    have hb := Below.refl w.heap.size w
    obtain ⟨hg, hb2, bn⟩ := HN.out
    have hz := hb.size
    exact ⟨Below.on hb hb2, bn, by omega, trivial⟩
  clear HN 
  go_wp2_with (first | (refine wpC_alloc rfl rfl zero48 ?_))
  intro X2 r HN
  have HX2 : Hid (Below w.heap.size w X2 ∧ Box X2 p 26 (ccL c) ∧ Box X2 r 48 (ccL zC) ∧ w.heap.size ≤ p ∧ p < r ∧ True) := by
    obtain ⟨hb, b0, l0, _⟩ := HX1.out
    obtain ⟨hg, hb2, bn⟩ := HN.out
    have z0 := b0.lt
    exact ⟨Below.on hb hb2, b0.later hb2, bn, l0, by omega, trivial⟩
  clear HN HX1
  go_wp2_with (first | (refine wpC_load rfl isC26 rfl rfl (HX2.out.2.1) ?_) | fail)
  refine (c1 _ (HX2.out.1)).mono ?_
  rintro e w3 ⟨rfl, hB⟩
  have HX3 : Hid (Below w.heap.size w w3 ∧ Box w3 p 26 (ccL c) ∧ Box w3 r 48 (ccL zC) ∧ w.heap.size ≤ p ∧ p < r ∧ True) := by
    obtain ⟨hb, b0, b1, l0, l1, _⟩ := HX2.out
    exact ⟨Below.on hb hB, b0.later hB, b1.later hB, l0, l1, trivial⟩
  clear hB HX2
  go_wp2_with (first | (refine wpC_build0 rfl rfl built48 ?_) | (refine wpC_store rfl isC48 rfl rfl rfl rfl (HX3.out.2.2.1) rfl ?_))
  intro X4 HN
  have HX4 : Hid (Below w.heap.size w X4 ∧ Box X4 p 26 (ccL c) ∧ Box X4 r 48 (ccL zC) ∧ w.heap.size ≤ p ∧ p < r ∧ True) := by
    obtain ⟨hb, b0, b1, l0, l1, _⟩ := HX3.out
    obtain ⟨st, bn⟩ := HN.out
    exact ⟨st.below _ _ (by omega) hb, b0.sto st (by omega), bn, l0, l1, trivial⟩
  clear HN HX3
  go_wp2_with fail
  refine bodyPost_ret (resC2 isC48 rfl _ _ rfl (HX4.out.2.2.1)) rfl ?_
  exact ⟨rfl, HX4.out.1⟩

set_option maxRecDepth 100000 in
set_option maxHeartbeats 4000000 in
theorem bg8_in (w : World) (c : Cc) (es : List Tm) (hR : Hid (RowIn w c es)) (c1 : ∀ W, Below w.heap.size w W → Calls Tryd.prog 11 #[ccv c] W fun e w' => e = .returned (.int .i64 0) ∧ Below W.heap.size W w')  : Calls Tryd.prog 24 #[ccv c] w fun e w' => ∃ va vk, e = .returned (.tuple #[ccv (rowed c va c.bn vk), .int .i64 0]) ∧ Fil.RowT w' 0 va c.bn vk es ∧ Below w.heap.size w w' := by
  go_enter Tryd.func24, Tryd.ntmps24
  go_wp2_with (first | (refine wpC_box rfl rfl rfl ?_))
  intro X1 p HN
  have HX1 : Hid (Below w.heap.size w X1 ∧ Box X1 p 26 (ccL c) ∧ w.heap.size ≤ p ∧ True) := by
    have hb := Below.refl w.heap.size w
    obtain ⟨hg, hb2, bn⟩ := HN.out
    have hz := hb.size
    exact ⟨Below.on hb hb2, bn, by omega, trivial⟩
  clear HN 
  go_wp2_with (first | (refine wpC_alloc rfl rfl zero48 ?_))
  intro X2 r HN
  have HX2 : Hid (Below w.heap.size w X2 ∧ Box X2 p 26 (ccL c) ∧ Box X2 r 48 (ccL zC) ∧ w.heap.size ≤ p ∧ p < r ∧ True) := by
    obtain ⟨hb, b0, l0, _⟩ := HX1.out
    obtain ⟨hg, hb2, bn⟩ := HN.out
    have z0 := b0.lt
    exact ⟨Below.on hb hb2, b0.later hb2, bn, l0, by omega, trivial⟩
  clear HN HX1
  go_wp2_with (first | (refine wpC_load rfl isC26 rfl rfl (HX2.out.2.1) ?_) | fail)
  refine (c1 _ (HX2.out.1)).mono ?_
  rintro e w3 ⟨rfl, hB⟩
  have HX3 : Hid (Below w.heap.size w w3 ∧ Box w3 p 26 (ccL c) ∧ Box w3 r 48 (ccL zC) ∧ w.heap.size ≤ p ∧ p < r ∧ True) := by
    obtain ⟨hb, b0, b1, l0, l1, _⟩ := HX2.out
    exact ⟨Below.on hb hB, b0.later hB, b1.later hB, l0, l1, trivial⟩
  clear hB HX2
  have k11 := Box.cell (HX3.out.2.1) 11 rfl
  obtain ⟨va, vk, wc, A1, R1, B1⟩ := copy_nil w3 c.ba c.bn c.bc es (hR.out.tims.below (HX3.out.1) (Nat.le_refl _)) hR.out.len hR.out.nul hR.out.siz
  have A2 : Hid _ := A1
  have HX4 : Hid (Below w.heap.size w wc ∧ Box wc p 26 (ccL c) ∧ Box wc r 48 (ccL zC) ∧ w.heap.size ≤ p ∧ p < r ∧ Fil.RowT wc 0 va c.bn vk es ∧ True) := by
    obtain ⟨hb, b0, b1, l0, l1, _⟩ := HX3.out
    exact ⟨Below.on hb B1, b0.later B1, b1.later B1, l0, l1, R1, trivial⟩
  clear A1 R1 B1 HX3
  have m11 := Box.cell (HX4.out.2.1) 11 rfl
  have fz := fun i => Box.frozen (HX4.out.2.1) i
  go_upto_region 5 with (first | (at_builtin; refine Lib.wpList_append_run _ rfl (.const (.slice none 0 0)) (.tmp 12) 24 24 rfl (.slice none 0 0) (.slice c.ba c.bn c.bc) rfl rfl (.slice va c.bn vk) wc A2.out ?_))
  obtain ⟨X5, hX⟩ : ∃ X, (wc.setCell ⟨p, 11, none⟩ (.slice va c.bn vk)) = X := ⟨_, rfl⟩
  try rw [hX]
  have HX5 : Hid (Below w.heap.size w X5 ∧ Box X5 p 26 (ccL (rowed c va c.bn vk)) ∧ Box X5 r 48 (ccL zC) ∧ w.heap.size ≤ p ∧ p < r ∧ Fil.RowT X5 0 va c.bn vk es ∧ True) := by
    obtain ⟨hb, b0, b1, l0, l1, r0, _⟩ := HX4.out
    have st : Sto wc p X5 := by rw [← hX]; exact ((Sto.refl wc p).set 11 _)
    have bn : Box X5 p 26 (ccL (rowed c va c.bn vk)) := by rw [← hX]; exact box_to (b0.set 11 _) rfl
    exact ⟨st.below _ _ (by omega) hb, bn, b1.sto st (by omega), l0, l1, r0.sto b0 (by decide) st, trivial⟩
  clear hX HX4
  clear k11 m11 fz A2
  go_wp2_with (first | (refine wpC_load rfl isC26 rfl rfl (HX5.out.2.1) ?_) | (refine wpC_build1 rfl rfl rfl (built48C _) ?_) | (refine wpC_store rfl isC48 rfl rfl rfl rfl (HX5.out.2.2.1) rfl ?_))
  intro X6 HN
  have HX6 : Hid (Below w.heap.size w X6 ∧ Box X6 p 26 (ccL (rowed c va c.bn vk)) ∧ Box X6 r 48 (ccL (rowed c va c.bn vk)) ∧ w.heap.size ≤ p ∧ p < r ∧ Fil.RowT X6 0 va c.bn vk es ∧ True) := by
    obtain ⟨hb, b0, b1, l0, l1, r0, _⟩ := HX5.out
    obtain ⟨st, bn⟩ := HN.out
    exact ⟨st.below _ _ (by omega) hb, b0.sto st (by omega), bn, l0, l1, r0.sto b1 (by decide) st, trivial⟩
  clear HN HX5
  go_wp2_with fail
  refine bodyPost_ret (resC2 isC48 rfl _ _ rfl (HX6.out.2.2.1)) rfl ?_
  exact ⟨va, vk, rfl, (HX6.out.2.2.2.2.2.1), HX6.out.1⟩

theorem bg8_yes (c : Cc) (es : List Tm) (hI : CcI c) (k : okC c es = true) (w : World) (hR : RowIn w c es) : Calls Tryd.prog 24 #[ccv c] w fun e w' => ∃ va vk, e = .returned (.tuple #[ccv (rowed c va c.bn vk), .int .i64 0]) ∧ Fil.RowT w' 0 va c.bn vk es ∧ Below w.heap.size w w' :=
  bg8_in w c es hR (fun W hW => chk8_ok c es hI hR.len k W (hR.tims.below hW (Nat.le_refl _)))
theorem bg8_bad (c : Cc) (es : List Tm) (hI : CcI c) (k : okC c es = false) (w : World) (hR : RowIn w c es) : Calls Tryd.prog 24 #[ccv c] w fun e w' => e = .returned (.tuple #[ccv zC, .int .i64 230]) ∧ Below w.heap.size w w' :=
  bg8_no w c (fun W hW => chk8_no c es hI hR.len k W (hR.tims.below hW (Nat.le_refl _)))
end Go.Proofs.YtagmighcofllhaaDoor

/- The contract of Timeout. -/
namespace Go.Proofs.YtagmighcofllhaaDoor
open Go.ChangeShapes Go.WideShapes Go.ChangeAt Go.RowKit
set_option linter.unusedVariables false
set_option linter.unusedSimpArgs false

open Fil

set_option maxRecDepth 100000 in
set_option maxHeartbeats 4000000 in
theorem tim_no (w : World) (c : Cc) (n : Int) (c1 : ∀ W, Below w.heap.size w W → Calls Tryd.prog 24 #[ccv c] W fun e w' => e = .returned (.tuple #[ccv zC, .int .i64 230]) ∧ Below W.heap.size W w')  : Calls Tryd.prog 20 #[ccv c, .int .i64 n] w fun e w' => e = .returned (.tuple #[ccv zC, .int .i64 230]) ∧ Below w.heap.size w w' := by
  go_enter Tryd.func20, Tryd.ntmps20
  go_wp2_with (first | (refine wpC_box rfl rfl rfl ?_))
  intro X1 p HN
  have HX1 : Hid (Below w.heap.size w X1 ∧ Box X1 p 26 (ccL c) ∧ w.heap.size ≤ p ∧ True) := by
    have hb := Below.refl w.heap.size w
    obtain ⟨hg, hb2, bn⟩ := HN.out
    have hz := hb.size
    exact ⟨Below.on hb hb2, bn, by omega, trivial⟩
  clear HN 
  go_wp2_with (first | (refine wpC_alloc rfl rfl zero26 ?_))
  intro X2 r HN
  have HX2 : Hid (Below w.heap.size w X2 ∧ Box X2 p 26 (ccL c) ∧ Box X2 r 26 (ccL zC) ∧ w.heap.size ≤ p ∧ p < r ∧ True) := by
    obtain ⟨hb, b0, l0, _⟩ := HX1.out
    obtain ⟨hg, hb2, bn⟩ := HN.out
    have z0 := b0.lt
    exact ⟨Below.on hb hb2, b0.later hb2, bn, l0, by omega, trivial⟩
  clear HN HX1
  go_wp2_with (first | (refine wpC_load rfl isC26 rfl rfl (HX2.out.2.1) ?_) | fail)
  refine (c1 _ (HX2.out.1)).mono ?_
  rintro e w3 ⟨rfl, hB⟩
  have HX3 : Hid (Below w.heap.size w w3 ∧ Box w3 p 26 (ccL c) ∧ Box w3 r 26 (ccL zC) ∧ w.heap.size ≤ p ∧ p < r ∧ True) := by
    obtain ⟨hb, b0, b1, l0, l1, _⟩ := HX2.out
    exact ⟨Below.on hb hB, b0.later hB, b1.later hB, l0, l1, trivial⟩
  clear hB HX2
  go_wp2_with (first | (refine wpC_alloc rfl rfl zero48 ?_))
  intro X4 k HN
  have HX4 : Hid (Below w.heap.size w X4 ∧ Box X4 p 26 (ccL c) ∧ Box X4 r 26 (ccL zC) ∧ Box X4 k 48 (ccL zC) ∧ w.heap.size ≤ p ∧ p < r ∧ r < k ∧ True) := by
    obtain ⟨hb, b0, b1, l0, l1, _⟩ := HX3.out
    obtain ⟨hg, hb2, bn⟩ := HN.out
    have z0 := b0.lt
    have z1 := b1.lt
    exact ⟨Below.on hb hb2, b0.later hb2, b1.later hb2, bn, l0, l1, by omega, trivial⟩
  clear HN HX3
  go_wp2_with (first | (refine wpC_store rfl isC48 rfl rfl rfl rfl (HX4.out.2.2.2.1) rfl ?_))
  intro X5 HN
  have HX5 : Hid (Below w.heap.size w X5 ∧ Box X5 p 26 (ccL c) ∧ Box X5 r 26 (ccL zC) ∧ Box X5 k 48 (ccL zC) ∧ w.heap.size ≤ p ∧ p < r ∧ r < k ∧ True) := by
    obtain ⟨hb, b0, b1, b2, l0, l1, l2, _⟩ := HX4.out
    obtain ⟨st, bn⟩ := HN.out
    exact ⟨st.below _ _ (by omega) hb, b0.sto st (by omega), b1.sto st (by omega), bn, l0, l1, l2, trivial⟩
  clear HN HX4
  go_wp2_with (first | (refine wpC_build0 rfl rfl built26 ?_) | (refine wpC_store rfl isC26 rfl rfl rfl rfl (HX5.out.2.2.1) rfl ?_))
  intro X6 HN
  have HX6 : Hid (Below w.heap.size w X6 ∧ Box X6 p 26 (ccL c) ∧ Box X6 r 26 (ccL zC) ∧ Box X6 k 48 (ccL zC) ∧ w.heap.size ≤ p ∧ p < r ∧ r < k ∧ True) := by
    obtain ⟨hb, b0, b1, b2, l0, l1, l2, _⟩ := HX5.out
    obtain ⟨st, bn⟩ := HN.out
    exact ⟨st.below _ _ (by omega) hb, b0.sto st (by omega), bn, b2.sto st (by omega), l0, l1, l2, trivial⟩
  clear HN HX5
  go_wp2_with fail
  refine bodyPost_ret (resC2 isC26 rfl _ _ rfl (HX6.out.2.2.1)) rfl ?_
  exact ⟨rfl, HX6.out.1⟩

set_option maxRecDepth 100000 in
set_option maxHeartbeats 4000000 in
theorem tim_arg (w : World) (c : Cc) (es : List Tm) (n : Int) (c1 : ∀ W, Below w.heap.size w W → Calls Tryd.prog 24 #[ccv c] W fun e w' => ∃ va vk, e = .returned (.tuple #[ccv (rowed c va c.bn vk), .int .i64 0]) ∧ Fil.RowT w' 0 va c.bn vk es ∧ Below W.heap.size W w') (c2 : ∀ W, Calls Tryd.prog 54 #[.int .i64 n] W fun e w' => e = .returned (.bool false) ∧ w' = W) : Calls Tryd.prog 20 #[ccv c, .int .i64 n] w fun e w' => e = .returned (.tuple #[ccv zC, .int .i64 2]) ∧ Below w.heap.size w w' := by
  go_enter Tryd.func20, Tryd.ntmps20
  go_wp2_with (first | (refine wpC_box rfl rfl rfl ?_))
  intro X1 p HN
  have HX1 : Hid (Below w.heap.size w X1 ∧ Box X1 p 26 (ccL c) ∧ w.heap.size ≤ p ∧ True) := by
    have hb := Below.refl w.heap.size w
    obtain ⟨hg, hb2, bn⟩ := HN.out
    have hz := hb.size
    exact ⟨Below.on hb hb2, bn, by omega, trivial⟩
  clear HN 
  go_wp2_with (first | (refine wpC_alloc rfl rfl zero26 ?_))
  intro X2 r HN
  have HX2 : Hid (Below w.heap.size w X2 ∧ Box X2 p 26 (ccL c) ∧ Box X2 r 26 (ccL zC) ∧ w.heap.size ≤ p ∧ p < r ∧ True) := by
    obtain ⟨hb, b0, l0, _⟩ := HX1.out
    obtain ⟨hg, hb2, bn⟩ := HN.out
    have z0 := b0.lt
    exact ⟨Below.on hb hb2, b0.later hb2, bn, l0, by omega, trivial⟩
  clear HN HX1
  go_wp2_with (first | (refine wpC_load rfl isC26 rfl rfl (HX2.out.2.1) ?_) | fail)
  refine (c1 _ (HX2.out.1)).mono ?_
  rintro e w3 ⟨va, vk, rfl, hR, hB⟩
  have HX3 : Hid (Below w.heap.size w w3 ∧ Box w3 p 26 (ccL c) ∧ Box w3 r 26 (ccL zC) ∧ w.heap.size ≤ p ∧ p < r ∧ Fil.RowT w3 0 va c.bn vk es ∧ True) := by
    obtain ⟨hb, b0, b1, l0, l1, _⟩ := HX2.out
    exact ⟨Below.on hb hB, b0.later hB, b1.later hB, l0, l1, hR, trivial⟩
  clear hB hR HX2
  go_wp2_with (first | (refine wpC_alloc rfl rfl zero48 ?_))
  intro X4 k HN
  have HX4 : Hid (Below w.heap.size w X4 ∧ Box X4 p 26 (ccL c) ∧ Box X4 r 26 (ccL zC) ∧ Box X4 k 48 (ccL zC) ∧ w.heap.size ≤ p ∧ p < r ∧ r < k ∧ Fil.RowT X4 0 va c.bn vk es ∧ True) := by
    obtain ⟨hb, b0, b1, l0, l1, r0, _⟩ := HX3.out
    obtain ⟨hg, hb2, bn⟩ := HN.out
    have z0 := b0.lt
    have z1 := b1.lt
    exact ⟨Below.on hb hb2, b0.later hb2, b1.later hb2, bn, l0, l1, by omega, r0.later hb2, trivial⟩
  clear HN HX3
  go_wp2_with (first | (refine wpC_store rfl isC48 rfl rfl rfl rfl (HX4.out.2.2.2.1) rfl ?_))
  intro X5 HN
  have HX5 : Hid (Below w.heap.size w X5 ∧ Box X5 p 26 (ccL c) ∧ Box X5 r 26 (ccL zC) ∧ Box X5 k 48 (ccL (rowed c va c.bn vk)) ∧ w.heap.size ≤ p ∧ p < r ∧ r < k ∧ Fil.RowT X5 0 va c.bn vk es ∧ True) := by
    obtain ⟨hb, b0, b1, b2, l0, l1, l2, r0, _⟩ := HX4.out
    obtain ⟨st, bn⟩ := HN.out
    exact ⟨st.below _ _ (by omega) hb, b0.sto st (by omega), b1.sto st (by omega), bn, l0, l1, l2, r0.sto b2 (by decide) st, trivial⟩
  clear HN HX4
  go_wp2_with fail
  refine (c2 _).mono ?_
  rintro e w' ⟨rfl, hq⟩
  obtain rfl := hq.symm
  clear hq
  go_wp2_with (first | (refine wpC_build0 rfl rfl built26 ?_) | (refine wpC_store rfl isC26 rfl rfl rfl rfl (HX5.out.2.2.1) rfl ?_))
  intro X6 HN
  have HX6 : Hid (Below w.heap.size w X6 ∧ Box X6 p 26 (ccL c) ∧ Box X6 r 26 (ccL zC) ∧ Box X6 k 48 (ccL (rowed c va c.bn vk)) ∧ w.heap.size ≤ p ∧ p < r ∧ r < k ∧ Fil.RowT X6 0 va c.bn vk es ∧ True) := by
    obtain ⟨hb, b0, b1, b2, l0, l1, l2, r0, _⟩ := HX5.out
    obtain ⟨st, bn⟩ := HN.out
    exact ⟨st.below _ _ (by omega) hb, b0.sto st (by omega), bn, b2.sto st (by omega), l0, l1, l2, r0.sto b1 (by decide) st, trivial⟩
  clear HN HX5
  go_wp2_with fail
  refine bodyPost_ret (resC2 isC26 rfl _ _ rfl (HX6.out.2.2.1)) rfl ?_
  exact ⟨rfl, HX6.out.1⟩

set_option maxRecDepth 100000 in
set_option maxHeartbeats 4000000 in
theorem tim_in (w : World) (c : Cc) (es : List Tm) (n : Int) (c1 : ∀ W, Below w.heap.size w W → Calls Tryd.prog 24 #[ccv c] W fun e w' => ∃ va vk, e = .returned (.tuple #[ccv (rowed c va c.bn vk), .int .i64 0]) ∧ Fil.RowT w' 0 va c.bn vk es ∧ Below W.heap.size W w') (c2 : ∀ W, Calls Tryd.prog 54 #[.int .i64 n] W fun e w' => e = .returned (.bool true) ∧ w' = W) : Calls Tryd.prog 20 #[ccv c, .int .i64 n] w fun e w' => ∃ va vk, e = .returned (.tuple #[ccv (timE (rowed c va c.bn vk)), .int .i64 0]) ∧ Fil.RowT w' 0 va c.bn vk es ∧ Below w.heap.size w w' := by
  go_enter Tryd.func20, Tryd.ntmps20
  go_wp2_with (first | (refine wpC_box rfl rfl rfl ?_))
  intro X1 p HN
  have HX1 : Hid (Below w.heap.size w X1 ∧ Box X1 p 26 (ccL c) ∧ w.heap.size ≤ p ∧ True) := by
    have hb := Below.refl w.heap.size w
    obtain ⟨hg, hb2, bn⟩ := HN.out
    have hz := hb.size
    exact ⟨Below.on hb hb2, bn, by omega, trivial⟩
  clear HN 
  go_wp2_with (first | (refine wpC_alloc rfl rfl zero26 ?_))
  intro X2 r HN
  have HX2 : Hid (Below w.heap.size w X2 ∧ Box X2 p 26 (ccL c) ∧ Box X2 r 26 (ccL zC) ∧ w.heap.size ≤ p ∧ p < r ∧ True) := by
    obtain ⟨hb, b0, l0, _⟩ := HX1.out
    obtain ⟨hg, hb2, bn⟩ := HN.out
    have z0 := b0.lt
    exact ⟨Below.on hb hb2, b0.later hb2, bn, l0, by omega, trivial⟩
  clear HN HX1
  go_wp2_with (first | (refine wpC_load rfl isC26 rfl rfl (HX2.out.2.1) ?_) | fail)
  refine (c1 _ (HX2.out.1)).mono ?_
  rintro e w3 ⟨va, vk, rfl, hR, hB⟩
  have HX3 : Hid (Below w.heap.size w w3 ∧ Box w3 p 26 (ccL c) ∧ Box w3 r 26 (ccL zC) ∧ w.heap.size ≤ p ∧ p < r ∧ Fil.RowT w3 0 va c.bn vk es ∧ True) := by
    obtain ⟨hb, b0, b1, l0, l1, _⟩ := HX2.out
    exact ⟨Below.on hb hB, b0.later hB, b1.later hB, l0, l1, hR, trivial⟩
  clear hB hR HX2
  go_wp2_with (first | (refine wpC_alloc rfl rfl zero48 ?_))
  intro X4 k HN
  have HX4 : Hid (Below w.heap.size w X4 ∧ Box X4 p 26 (ccL c) ∧ Box X4 r 26 (ccL zC) ∧ Box X4 k 48 (ccL zC) ∧ w.heap.size ≤ p ∧ p < r ∧ r < k ∧ Fil.RowT X4 0 va c.bn vk es ∧ True) := by
    obtain ⟨hb, b0, b1, l0, l1, r0, _⟩ := HX3.out
    obtain ⟨hg, hb2, bn⟩ := HN.out
    have z0 := b0.lt
    have z1 := b1.lt
    exact ⟨Below.on hb hb2, b0.later hb2, b1.later hb2, bn, l0, l1, by omega, r0.later hb2, trivial⟩
  clear HN HX3
  go_wp2_with (first | (refine wpC_store rfl isC48 rfl rfl rfl rfl (HX4.out.2.2.2.1) rfl ?_))
  intro X5 HN
  have HX5 : Hid (Below w.heap.size w X5 ∧ Box X5 p 26 (ccL c) ∧ Box X5 r 26 (ccL zC) ∧ Box X5 k 48 (ccL (rowed c va c.bn vk)) ∧ w.heap.size ≤ p ∧ p < r ∧ r < k ∧ Fil.RowT X5 0 va c.bn vk es ∧ True) := by
    obtain ⟨hb, b0, b1, b2, l0, l1, l2, r0, _⟩ := HX4.out
    obtain ⟨st, bn⟩ := HN.out
    exact ⟨st.below _ _ (by omega) hb, b0.sto st (by omega), b1.sto st (by omega), bn, l0, l1, l2, r0.sto b2 (by decide) st, trivial⟩
  clear HN HX4
  go_wp2_with fail
  refine (c2 _).mono ?_
  rintro e w' ⟨rfl, hq⟩
  obtain rfl := hq.symm
  clear hq
  have k1 := Box.cell (HX5.out.2.2.2.1) 1 rfl
  have k2 := Box.cell (HX5.out.2.2.2.1) 2 rfl
  have k21 := Box.cell (HX5.out.2.2.2.1) 21 rfl
  have fz := fun i => Box.frozen (HX5.out.2.2.2.1) i
  go_upto_region 7 with fail
  obtain ⟨X6, hX⟩ : ∃ X, ((X5.setCell ⟨k, 21, none⟩ (.int .i64 (rowed c va c.bn vk).cw)).setCell ⟨k, 2, none⟩ (.int .i64 (rowed c va c.bn vk).ms)) = X := ⟨_, rfl⟩
  try rw [hX]
  have HX6 : Hid (Below w.heap.size w X6 ∧ Box X6 p 26 (ccL c) ∧ Box X6 r 26 (ccL zC) ∧ Box X6 k 48 (ccL (timE (rowed c va c.bn vk))) ∧ w.heap.size ≤ p ∧ p < r ∧ r < k ∧ Fil.RowT X6 0 va c.bn vk es ∧ True) := by
    obtain ⟨hb, b0, b1, b2, l0, l1, l2, r0, _⟩ := HX5.out
    have st : Sto X5 k X6 := by rw [← hX]; exact (((Sto.refl X5 k).set 21 _).set 2 _)
    have bn : Box X6 k 48 (ccL (timE (rowed c va c.bn vk))) := by rw [← hX]; exact box_to ((b2.set 21 _).set 2 _) rfl
    exact ⟨st.below _ _ (by omega) hb, b0.sto st (by omega), b1.sto st (by omega), bn, l0, l1, l2, r0.sto b2 (by decide) st, trivial⟩
  clear hX HX5
  clear k1 k2 k21 fz
  go_wp2_with (first | (refine wpC_load rfl isC26 rfl rfl (HX6.out.2.2.2.1) ?_) | (refine wpC_store rfl isC26 rfl rfl rfl rfl (HX6.out.2.2.1) rfl ?_))
  intro X7 HN
  have HX7 : Hid (Below w.heap.size w X7 ∧ Box X7 p 26 (ccL c) ∧ Box X7 r 26 (ccL (timE (rowed c va c.bn vk))) ∧ Box X7 k 48 (ccL (timE (rowed c va c.bn vk))) ∧ w.heap.size ≤ p ∧ p < r ∧ r < k ∧ Fil.RowT X7 0 va c.bn vk es ∧ True) := by
    obtain ⟨hb, b0, b1, b2, l0, l1, l2, r0, _⟩ := HX6.out
    obtain ⟨st, bn⟩ := HN.out
    exact ⟨st.below _ _ (by omega) hb, b0.sto st (by omega), bn, b2.sto st (by omega), l0, l1, l2, r0.sto b1 (by decide) st, trivial⟩
  clear HN HX6
  go_wp2_with fail
  refine bodyPost_ret (resC2 isC26 rfl _ _ rfl (HX7.out.2.2.1)) rfl ?_
  exact ⟨va, vk, rfl, (HX7.out.2.2.2.2.2.2.2.1), HX7.out.1⟩

theorem tim_yes (c : Cc) (es : List Tm) (n : Int) (hI : CcI c) (k : okC c es = true) (k2 : szB n = true) (w : World) (hR : RowIn w c es) : Calls Tryd.prog 20 #[ccv c, .int .i64 n] w fun e w' => ∃ va vk, e = .returned (.tuple #[ccv (timE (rowed c va c.bn vk)), .int .i64 0]) ∧ Fil.RowT w' 0 va c.bn vk es ∧ Below w.heap.size w w' :=
  tim_in w c es n (fun W hW => bg8_yes c es hI k W (hR.below hW)) (fun W => sz_is n k2 W)
def timX (c : Cc) (es : List Tm) (n : Int) : Int := if okC c es = true then if szB n = true then 0 else 2 else 230
theorem tim_bad (c : Cc) (es : List Tm) (n : Int) (hI : CcI c) (k : (okC c es && szB n) = false) (w : World) (hR : RowIn w c es) : Calls Tryd.prog 20 #[ccv c, .int .i64 n] w fun e w' => e = .returned (.tuple #[ccv zC, .int .i64 (timX c es n)]) ∧ Below w.heap.size w w' := by
  unfold timX
  cases h : okC c es with
  | false => rw [if_neg (by simp)]; exact tim_no w c n (fun W hW => bg8_bad c es hI h W (hR.below hW))
  | true =>
    rw [h] at k
    have k2 : szB n = false := by simpa using k
    rw [if_pos rfl, if_neg (by rw [k2]; simp)]
    exact tim_arg w c es n (fun W hW => bg8_yes c es hI h W (hR.below hW)) (fun W => sz_is n k2 W)
end Go.Proofs.YtagmighcofllhaaDoor
