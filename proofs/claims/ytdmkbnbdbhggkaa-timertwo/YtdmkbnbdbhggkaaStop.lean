/- The contract of Stop. -/
import Derived.Test.YtdmkbnbdbhggkaaRow
namespace Go.Proofs.Ytdmkbnbdbhggkaa
open Go.ChangeShapes Go.WideShapes Go.ChangeAt Go.RowKit Go.Shelf
set_option linter.unusedVariables false
attribute [local go_sem] Oper.semAt_some

def stopE (l : List Tm) (k : Int) : Int := if chk 0 l = true then (if kindB k = true then 0 else 2) else 40
def stopL (l : List Tm) (k : Int) : List Tm := if chk 0 l = true then (if kindB k = true then wo l k else []) else []

/-- A box of another type than timers, behind an append. -/
theorem boxed_appended {W w1 : World} {n₀ B B' : Nat} {t : TypeId} {v u x : Value} {k : Nat} {xs : List Value} {tmp : Obj} (hu : Boxed W B t u) (hte : t ≠ 31) (hrow : W.ownsRow n₀ 31 2 v k xs) (hgrow : (W.alloc tmp).grownBy w1 v.ownBlock) (hne : B ≠ B') : Boxed (w1.setCell ⟨B', 0, none⟩ x) B t u :=
  boxed_other ((hu.alloc tmp).kept hgrow (hu.not_row hte hrow)) hne 0 x

set_option maxRecDepth 100000 in
set_option maxHeartbeats 2000000 in
theorem stop_any (A : Option Addr) (cap : Nat) (ts : List Tm) (k : Int) (w : World) (hT : TimsAt w A ts) :
    Calls Try.prog 13 #[.slice A ts.length cap, .int .i64 k] w fun e W' => ∃ va vc, e = .returned (.tuple #[.slice va (stopL ts k).length vc, .int .i64 (stopE ts k)]) ∧ RowT W' w.heap.size va (stopL ts k).length vc (stopL ts k) ∧ Below w.heap.size w W' := by
  refine (callsIn_wide (n := 3)).1 ?_
  refine callsIn_of_wp_marks Try.func13 rfl trivial ?_ rfl
  simp only [Try.ntmps13, List.size_toArray, List.length_cons, List.length_nil, Nat.reduceAdd, Nat.reduceSub, Array.replicate_succ, Array.replicate_zero, List.push_toArray, List.append_toArray, List.nil_append, List.cons_append]
  have bK := Boxed.new w 23 (.int .i64 k)
  have hB0 : Below w.heap.size w (w.alloc (.cells #[.int .i64 k] 23)) := (Below.refl _ w).alloc (Nat.le_refl _) _
  have cC := check_any A cap ts _ (hT.below hB0 (Nat.le_refl _))
  cases hc : chk 0 ts with
  | false =>
    have hE : errI ts = 40 := by simp [errI, hc]
    have HE : Hid (stopE ts k = 40 ∧ stopL ts k = []) := by unfold Hid stopE stopL; simp [hc]
    rw [hE] at cC
    clear hE hc
    gi_wp2_with (refine ⟨trivial, ?_⟩; gi_at_call 16; refine (callsIn_wide.2 cC).mono ?_; rintro e w1 ⟨rfl, hB1⟩)
    refine ⟨_, results_tmp2 rfl _ _ _, none, 0, by rw [HE.out.1, HE.out.2]; rfl, by rw [HE.out.2]; exact RowT.nil _ _, hB0.trans (hB1.mono (by simp))⟩
  | true =>
    have hE : errI ts = 0 := by simp [errI, hc]
    have hlen : ts.length ≤ 5 := chk0_len hc
    rw [hE] at cC
    clear hE
    cases hk : kindB k with
    | false =>
      have HE : Hid (stopE ts k = 2 ∧ stopL ts k = []) := by unfold Hid stopE stopL; simp [hc, hk]
      clear hc
      gi_wp2_with (first
        | (refine ⟨trivial, ?_⟩; gi_at_call 16; refine (callsIn_wide.2 cC).mono ?_; rintro e w1 ⟨rfl, hB1⟩; have bK1 := boxed_bel bK hB1 (by simp); have cK := bK1.cell)
        | (refine ⟨trivial, ?_⟩; gi_at_call 25; refine (callsIn_wide.2 (isKind_walk _ _)).mono ?_; rintro e w1 ⟨rfl, rfl⟩))
      refine ⟨_, results_tmp2 rfl _ _ _, none, 0, by rw [HE.out.1, HE.out.2]; rfl, by rw [HE.out.2]; exact RowT.nil _ _, hB0.trans (hB1.mono (by simp))⟩
    | true =>
      have HE : Hid (stopE ts k = 0 ∧ stopL ts k = wo ts k) := by unfold Hid stopE stopL; simp [hc, hk]
      clear hc
      obtain ⟨i0, hi, hz0, hz1, hz2⟩ := info_parts Try.info31
      gi_wp2_with (first
        | (refine ⟨trivial, ?_⟩; gi_at_call 16; refine (callsIn_wide.2 cC).mono ?_; rintro e w1 ⟨rfl, hB1⟩; have bK1 := boxed_bel bK hB1 (by simp); have cK := bK1.cell)
        | (refine ⟨trivial, ?_⟩; gi_at_call 25; refine (callsIn_wide.2 (isKind_walk _ _)).mono ?_; rintro e w1 ⟨rfl, rfl⟩)
        | (refine ⟨trivial, ?_⟩; gi_at_call 19; refine (each_in Fence.wide _ trivial rfl _ _ _ _).mono ?_; rintro e w' ⟨rfl, rfl⟩))
      have hBw : Below w.heap.size w w1 := hB0.trans (hB1.mono (by simp))
      have hs1 : w.heap.size < w1.heap.size := by have := hB1.size; simp at this; omega
      have bK2 := (bK1.alloc (.cells #[.slice none 0 0] 22)).alloc (.cells #[.slice A ts.length cap] 22)
      have bO2 := (Boxed.new w1 22 (.slice none 0 0)).alloc (.cells #[.slice A ts.length cap] 22)
      have bN2 := Boxed.new (w1.alloc (.cells #[.slice none 0 0] 22)) 22 (.slice A ts.length cap)
      simp only [World.size_alloc] at bN2
      have hB2 : Below w.heap.size w ((w1.alloc (.cells #[.slice none 0 0] 22)).alloc (.cells #[.slice A ts.length cap] 22)) := (hBw.alloc (by omega) _).alloc (by simp; omega) _
      have hsz : ((w1.alloc (.cells #[.slice none 0 0] 22)).alloc (.cells #[.slice A ts.length cap] 22)).heap.size = w1.heap.size + 2 := by simp
      obtain ⟨W0, hW0⟩ : ∃ W0, (w1.alloc (.cells #[.slice none 0 0] 22)).alloc (.cells #[.slice A ts.length cap] 22) = W0 := ⟨_, rfl⟩
      obtain ⟨m, hm⟩ : ∃ m, w1.heap.size = m := ⟨_, rfl⟩
      rw [hm] at bO2 bN2 hsz hs1 ⊢
      rw [hW0] at bK2 bO2 bN2 hB2 hsz ⊢
      clear hW0 hm hBw bK1 hB1 cC cK
      refine wpIn_rangeFunc_ownH (F := Fence.wide) (n := 3) rfl (by omega) (gf := 26) (lb := #[.pointer (some ⟨m + 1, 0, none⟩)]) rfl trivial (enters_of Try.func26 (by kernel_rfl) rfl)
        (each_stops Fence.wide 2 trivial rfl (by omega) (m + 1) cap A ts w W0 (by omega) hB2 hT bN2.cell) belowK_t (belowK_b (by omega)) (Below.refl _ _) (fun _ => rfl)
        (fun pre W => (Boxed W w.heap.size 23 (.int .i64 k) ∧ ∃ v, Boxed W m 22 v ∧ W.ownsRow w.heap.size 31 2 v (wo pre k).length (tcells (wo pre k)) ∧ True) ∧ Below w.heap.size w W)
        (fun _ _ _ => False)
        (OwnFrom.and (OwnFrom.and (Own.from (boxed_own _ _ (fun _ => _)) _) (Own.from (holdsRow_own w.heap.size m 22 31 2 (fun pre => (wo pre k).length) (fun pre => tcells (wo pre k)) (fun _ _ => True)) _)) (ownFrom_below (Nat.le_refl _) (by omega)))
        (fun _ _ _ _ _ hs _ _ => hs)
        ⟨⟨bK2, _, bO2, World.ownsRow_nil _ _ _ _, trivial⟩, hB2⟩
        (fun x a' W => ∃ Bx, m < Bx ∧ BoxT W Bx x ∧ a' = { tmps := #[.slice A ts.length cap, .int .i64 k, undef, .pointer (some ⟨w.heap.size, 0, none⟩), .slice none 0 0, .int .i64 0, .int .i64 0, .pointer (some ⟨m, 0, none⟩), .pointer (some ⟨Bx, 0, none⟩), .slice A ts.length cap, .int .i64 0, .int .i64 0, .bool false, undef, .int .i64 k, .bool true, .bool false, .slice A ts.length cap, .func (.func 26) #[] #[.pointer (some ⟨m + 1, 0, none⟩)], .agg #[.int .i64 x.1, .int .i64 x.2], undef, undef, undef, undef, undef, undef, undef, undef, undef], defers := [] })
        (fun x a' _ X Y row hs hg hr => by obtain ⟨Bx, h1, h2, h3⟩ := hs; exact ⟨Bx, h1, boxT_turn h2 hg hr, h3⟩)
        ?assign ?body ?done ?stop
      case assign =>
        rintro l pre x W K ⟨⟨bK, v, bO, hrow, _⟩, hB⟩ hK
        gi_wp2
        exact hK _ _ ((KeepsOthers.alloc _ _).from _) ((Below.refl _ W).alloc hB.size _) ⟨⟨bK.alloc _, v, bO.alloc _, hrow.alloc _, trivial⟩, hB.alloc hB.size _⟩ ⟨W.heap.size, bO.lt, BoxT.new W x, rfl⟩
      case body =>
        rintro l pre x a' W hl ⟨r, hr⟩ ⟨⟨bK, v, bO, hrow, _⟩, hB⟩ ⟨Bx, hBx, bY, rfl⟩ hlt
        have cK := bK.cell
        have cO := bO.cell
        have y0 := bY.cell0
        have y1 := bY.cell1
        have hpl : (wo pre k).length ≤ pre.length := wo_len _ _
        have hs := hB.size
        by_cases hx : x.1 = k
        · have hx' : (x.1 != k) = false := by simpa using hx
          have HX : Hid (wo (pre ++ [x]) k = wo pre k) := wo_snoc_miss pre hx
          clear hx
          gi_wp2
          exact ⟨KeepsFrom.refl _ _, Below.refl _ _, ⟨bK, v, bO, by rw [HX.out]; exact hrow, trivial⟩, hB⟩
        · have hx' : (x.1 != k) = true := by simpa using hx
          have HX : Hid (wo (pre ++ [x]) k = wo pre k ++ [x]) := wo_snoc_hit pre hx
          clear hx
          gi_wp2_with (gi_at_builtin; refine wpListIn_append_own _ rfl _ _ 22 rfl w.heap.size 31 i0 (.agg #[.int .i64 0, .int .i64 0]) 2 16 Try.underlying22 hi hz0 hz1 hz2 rfl (by decide) _ _ _ rfl (hrow.alloc _) ⟨W.heap.size, 0, none⟩ 1 1 [.int .i64 x.1, .int .i64 x.2] rfl rfl (cells_new W [.int .i64 x.1, .int .i64 x.2] 31) two_one (by unfold maxLen; omega) (by omega) (by simp; omega) ?_; intro v' w2 hown' hgrow _; obtain ⟨g', cap', rfl⟩ := ownsRow_succ hown'; obtain ⟨hv1, hv2, hr2, hk2, hb2⟩ := bO.appended (by decide) hrow hB.size (by omega) hown' hgrow; have HK := boxed_appended (x := .slice (some ⟨g', 0, none⟩) ((wo pre k).length + 1) cap') bK (by decide) hrow hgrow (B' := m) (by omega); have hc1 := hv1.cell; have hf1 := hv1.frozen)
          exact ⟨hk2.from _, hb2, ⟨HK, _, hv2, by rw [HX.out, tcells_snoc, List.length_append]; exact hr2, trivial⟩, hB.trans hb2⟩
      case done =>
        rintro D ys W hD rfl ⟨⟨bK, v, bO, hrow, _⟩, hB⟩ hK
        obtain ⟨va, vc, rfl, hR⟩ := rowT_of hrow
        have cO := bO.cell
        gi_wp2
        refine ⟨by simp, .inl ⟨_, _, rfl, run_takeDeferred hK, ?_⟩⟩
        refine ⟨_, results_tmp2 rfl _ _ _, va, vc, by rw [HE.out.1, HE.out.2]; rfl, ?_, hB.trans (belowK_b (w := w) (Nat.le_refl _) W D _ _ (by omega) hK rfl rfl)⟩
        rw [HE.out.2]
        exact ownsRow_putObj hR _ hK rfl
      case stop =>
        rintro D c pre W _ _ h _
        exact h.elim
end Go.Proofs.Ytdmkbnbdbhggkaa
