/- The contract of wire.read: of bytes that are a segment. -/
import Derived.Test.YtllmeeebjjmanaaDoorReadR
namespace Go.Proofs.YtllmeeebjjmanaaDoor
open Go.ChangeShapes Go.WideShapes Go.ChangeAt Go.RowKit Go.Shelf
set_option linter.unusedVariables false
attribute [local go_sem] alloc_drewN setCell_drewN

theorem hid_in {p : Prop} (h : p) : Hid p := h

theorem head_late2 {w2 wa : World} {bs tl : List Int} {off zl g1 c1 : Nat} {x13 : Int} (hx : nth bs 13 = x13) (ht : bs.drop off = tl) (hl : tl.length = zl) (hz : zl ≤ 65000) (hb : 0 ≤ x13 ∧ x13 ≤ 255) (ho : offI bs = off) (hy : Byts tl) (hR : Row wa w2.heap.size (some ⟨g1, 0, none⟩) zl c1 tl) (hg : w2.heap.size ≤ g1 ∧ g1 < wa.heap.size) (hB : Below w2.heap.size w2 wa)
    (hq : wa.heap[w2.heap.size]? = some (.cells #[.int .i64 0, .int .i64 0, .int .u32 0, .int .u32 0, .int .i64 0, .int .i64 0, .int .i64 0, .int .i64 0, .int .i64 0, .bool false, .bool false, .int .u32 0, .int .u32 0, .slice none 0 0, .slice none 0 0] 26) ∧ g1 ≠ w2.heap.size) :
    HeadAt w2 (((((((((((((((wa.setCell ⟨w2.heap.size, 0, none⟩ (.int .i64 (wordAt bs 0))).setCell ⟨w2.heap.size, 1, none⟩ (.int .i64 (wordAt bs 2))).setCell ⟨w2.heap.size, 2, none⟩ (.int .u32 (longAt bs 4))).setCell ⟨w2.heap.size, 3, none⟩ (.int .u32 (longAt bs 8))).setCell ⟨w2.heap.size, 4, none⟩ (.int .i64 (IntKind.i64.wrap x13))).setCell ⟨w2.heap.size, 5, none⟩ (.int .i64 (wordAt bs 14))).setCell ⟨w2.heap.size, 6, none⟩ (.int .i64 (wordAt bs 18))).setCell ⟨w2.heap.size, 7, none⟩ (.int .i64 (-1))).setCell ⟨w2.heap.size, 8, none⟩ (.int .i64 (-1))).setCell ⟨w2.heap.size, 9, none⟩ (.bool false)).setCell ⟨w2.heap.size, 10, none⟩ (.bool false)).setCell ⟨w2.heap.size, 11, none⟩ (.int .u32 0)).setCell ⟨w2.heap.size, 12, none⟩ (.int .u32 0)).setCell ⟨w2.heap.size, 13, none⟩ (.slice none 0 0)).setCell ⟨w2.heap.size, 14, none⟩ (.slice (some ⟨g1, 0, none⟩) zl c1)) bs tl w2.heap.size (some ⟨g1, 0, none⟩) c1 :=
  head_late hx ht hl hz hb ho hy hR hg hB hq


set_option maxRecDepth 100000 in
set_option maxHeartbeats 40000000 in
theorem read_data (b o n c : Nat) (bs : List Int) (src dst : Int) (S : Seg) (w : World) (hb : BytesAt w (some ⟨b, o, none⟩) bs) (hn : bs.length = n) (hc : n ≤ c) (hs : U32 src) (hd : U32 dst) (h : getI bs src dst = (0, S)) (hzz : n - offI bs ≠ 0) :
    Calls Tryd.prog 34 #[.slice (some ⟨b, o, none⟩) n c, .int .u32 src, .int .u32 dst] w fun e w' => (∃ ka kc da dc, e = .returned (.agg (segV S ka kc da dc)) ∧ BlksAt w' ka S.sk ∧ BytesAt w' da S.da ∧ (da = none → dc = 0) ∧ (∀ x, ka = some x → w.heap.size < x.block) ∧ (∀ x, da = some x → w.heap.size < x.block)) ∧ Below w.heap.size w w' := by
  obtain ⟨h20, ho1, ho2, hsum, hdat, hrd⟩ := get_ok h
  rw [hn] at h20 ho2 hsum hdat
  obtain ⟨W0, hW0⟩ : ∃ W0, w.alloc (.cells (segV zeroS none 0 none 0) 26) = W0 := ⟨_, rfl⟩
  have hsz : W0.heap.size = w.heap.size + 1 := by rw [← hW0]; simp
  have hblk0 : Hid (W0.heap[w.heap.size]? = some (.cells (segV zeroS none 0 none 0) 26)) := by rw [← hW0]; exact World.alloc_heap_new w _
  have b0 : Below w.heap.size w W0 := by rw [← hW0]; exact (Below.refl _ w).alloc (Nat.le_refl _) _
  have hb0 := hb.below b0 (Nat.le_refl _)
  obtain ⟨_, _, e12, c12⟩ := hb0.2.2 12 (by omega)
  cases e12
  have c12' : W0.cell? ⟨b, o + 12, none⟩ = some (.int .u8 (nth bs 12)) := c12
  have hb12 := nth_bd hb.2.1 12
  obtain ⟨x12, hx12⟩ : ∃ x, nth bs 12 = x := ⟨_, rfl⟩
  rw [hx12] at c12' hb12
  obtain ⟨off, hoff⟩ : ∃ off, offI bs = off := ⟨_, rfl⟩
  have hoffx : 4 * (x12 / 16) = (off : Int) := by rw [← hoff, offI, hx12]; omega
  rw [hoff] at ho1 ho2
  have hof60 : off ≤ 60 := by omega
  rw [hoff] at hdat hrd hzz
  have HNN : Hid (bs.length = n) := hn
  have HRD : Hid (rdI (segI bs) ((bs.take off).drop 20) = some S ∧ offI bs = off) := ⟨hrd, hoff⟩
  have HSUM : Hid (sumI (pseudoI src dst (n : Int) ++ bs) = 0) := hsum
  have HB0 : Hid (BytesAt W0 (some ⟨b, o, none⟩) bs) := hb0
  have HS : Hid (U32 src ∧ U32 dst) := ⟨hs, hd⟩
  have HBE : Hid (Below w.heap.size w W0) := b0
  have k1 : (20 : Int) ≤ (n : Int) := by omega
  have k13 : (13 : Int) < (n : Int) := by omega
  have k2 : (20 : Int) ≤ (off : Int) := by omega
  have k3 : (off : Int) ≤ (n : Int) := by omega
  have hdi : (n : Int) - (off : Int) ≤ 65000 := by omega
  have hn64 : (n : Int) ≤ 65060 := by omega
  clear hrd hn hoff hb0 hb hs hd hsum b0 h c12 hx12
  unfold segV zeroS at hW0
  dsimp only [List.length_nil] at hW0
  go_enter Tryd.func34, Tryd.ntmps34
  go_wp2_with (go_at_call_of 43 true; refine (must_ok _ _).mono ?_; rintro e w' ⟨rfl, rfl⟩)
  refine (pseudo_any src dst (n : Int) _ HS.out.1 HS.out.2).mono ?_
  rintro e w1 ⟨pa, pc, rfl, hpb, hB1⟩
  have HB1 : Hid (BytesAt w1 (some ⟨b, o, none⟩) bs) := HB0.out.below hB1 (Nat.le_refl _)
  have hP := parts_new w1 [(pa, pseudoI src dst (n : Int), pc), (some ⟨b, o, none⟩, bs, c)] (by simp [maxLen]) (fun v hv => by
    simp only [List.mem_cons, List.not_mem_nil, or_false] at hv
    rcases hv with rfl | rfl
    · exact hpb
    · exact HB1.out)
  have hP' : PartsAt (w1.alloc (.cells #[.slice pa 12 pc, .slice (some ⟨b, o, none⟩) n c] 24)) (some ⟨w1.heap.size, 0, none⟩) [pseudoI src dst (n : Int), bs] := by
    have := hP
    simp only [List.map_cons, List.map_nil, HNN.out, pseudo_len] at this
    exact this
  have HP : Hid (PartsAt (w1.alloc (.cells #[.slice pa 12 pc, .slice (some ⟨b, o, none⟩) n c] 24)) (some ⟨w1.heap.size, 0, none⟩) [pseudoI src dst (n : Int), bs]) := hP'
  have HB1' : Hid (Below _ _ w1) := hB1
  clear hP hP' hpb hB1 c12'
  clear hW0
  go_wp2_with fail
  refine (valid_any _ _ [pseudoI src dst (n : Int), bs] _ HP.out).mono ?_
  rintro e w2 ⟨he, hB2⟩
  have he' : [pseudoI src dst (n : Int), bs].flatten = pseudoI src dst (n : Int) ++ bs := by simp
  rw [he', HSUM.out] at he
  obtain rfl : e = .returned (.bool true) := he
  have hx : Below _ _ w1 := HB1'.out
  have hb2 := (below_more hx (.cells #[.slice pa 12 pc, .slice (some ⟨b, o, none⟩) n c] 24)).trans (hB2.mono (by have := hx.size; simp; omega))
  have HB2 : Hid (BytesAt w2 (some ⟨b, o, none⟩) bs) := HB0.out.below hb2 (Nat.le_refl _)
  have HBW : Hid (Below w.heap.size w w2) := HBE.out.trans (hb2.mono HBE.out.size)
  have HBLK2 : Hid (w2.heap[w.heap.size]? = some (.cells (segV zeroS none 0 none 0) 26)) := block_keep hblk0.out hb2 (Nat.le_refl _)
  have hblt : b < w.heap.size ∨ True := .inr trivial
  clear hx hb2 hB2 he' HB1 HB1' HP HBE hblk0 hblt
  obtain ⟨i0, hi, hz0, hz1, hz2⟩ := info_parts Tryd.info5
  obtain ⟨_, _, e13, c13⟩ := HB2.out.2.2 13 (by have := HNN.out; omega)
  cases e13
  have c13' : w2.cell? ⟨b, o + 13, none⟩ = some (.int .u8 (nth bs 13)) := c13
  have hb13 := nth_bd HB2.out.2.1 13
  obtain ⟨x13, hx13⟩ : ∃ x, nth bs 13 = x := ⟨_, rfl⟩
  rw [hx13] at c13' hb13
  have HX13 : Hid (nth bs 13 = x13) := hx13
  have C13 : Hid (∀ W, Below w2.heap.size w2 W → W.cell? ⟨b, o + 13, none⟩ = some (.int .u8 x13)) := fun W hW => (hW.cell (p := ⟨b, o + 13, none⟩) (lt_of_cell c13')).trans c13'
  have HBY : Hid (∀ W, Below w2.heap.size w2 W → BytesAt W (some ⟨b, o, none⟩) bs) := fun W hW => HB2.out.below hW (Nat.le_refl _)
  clear c13 hx13
  have sl2 := sl_l (some ⟨b, o, none⟩) n c 2 2 rfl (by omega)
  rw [cutA_some b o c 2 (by omega)] at sl2
  obtain ⟨n2, hn2⟩ : ∃ x, n - 2 = x := ⟨_, rfl⟩
  obtain ⟨c2, hc2⟩ : ∃ x, c - 2 = x := ⟨_, rfl⟩
  rw [hn2, hc2] at sl2
  have sl4 := sl_l (some ⟨b, o, none⟩) n c 4 4 rfl (by omega)
  rw [cutA_some b o c 4 (by omega)] at sl4
  obtain ⟨n4, hn4⟩ : ∃ x, n - 4 = x := ⟨_, rfl⟩
  obtain ⟨c4, hc4⟩ : ∃ x, c - 4 = x := ⟨_, rfl⟩
  rw [hn4, hc4] at sl4
  have sl8 := sl_l (some ⟨b, o, none⟩) n c 8 8 rfl (by omega)
  rw [cutA_some b o c 8 (by omega)] at sl8
  obtain ⟨n8, hn8⟩ : ∃ x, n - 8 = x := ⟨_, rfl⟩
  obtain ⟨c8, hc8⟩ : ∃ x, c - 8 = x := ⟨_, rfl⟩
  rw [hn8, hc8] at sl8
  have sl14 := sl_l (some ⟨b, o, none⟩) n c 14 14 rfl (by omega)
  rw [cutA_some b o c 14 (by omega)] at sl14
  obtain ⟨n14, hn14⟩ : ∃ x, n - 14 = x := ⟨_, rfl⟩
  obtain ⟨c14, hc14⟩ : ∃ x, c - 14 = x := ⟨_, rfl⟩
  rw [hn14, hc14] at sl14
  have sl18 := sl_l (some ⟨b, o, none⟩) n c 18 18 rfl (by omega)
  rw [cutA_some b o c 18 (by omega)] at sl18
  obtain ⟨n18, hn18⟩ : ∃ x, n - 18 = x := ⟨_, rfl⟩
  obtain ⟨c18, hc18⟩ : ∃ x, c - 18 = x := ⟨_, rfl⟩
  rw [hn18, hc18] at sl18
  have slz := sl_l (some ⟨b, o, none⟩) n c off (off : Int) rfl (by omega)
  obtain ⟨zx, hzx⟩ : ∃ x, cutA (some ⟨b, o, none⟩) c off = x := ⟨_, rfl⟩
  obtain ⟨zl, hzl⟩ : ∃ x, n - off = x := ⟨_, rfl⟩
  obtain ⟨zc, hzc⟩ : ∃ x, c - off = x := ⟨_, rfl⟩
  rw [hzx, hzl, hzc] at slz
  rw [hzl] at hzz
  have HZL : Hid (zl ≠ 0) := hzz
  clear hzz
  obtain ⟨tl, htl⟩ : ∃ x, bs.drop off = x := ⟨_, rfl⟩
  have HTL : Hid (bs.drop off = tl ∧ tl.length = zl ∧ zl ≤ 65000) := ⟨htl, by rw [← htl, List.length_drop]; have := HNN.out; omega, by omega⟩
  have HTB : Hid (∀ W, Below w2.heap.size w2 W → BytesAt W zx tl) := fun W hW => by rw [← htl, ← hzx]; exact bytes_from (HBY.out W hW) off (by have := HNN.out; omega) c (by have := HNN.out; omega)
  have HZX : Hid (0 < zl → zx = some ⟨b, o + off, none⟩) := fun h => by rw [← hzx]; exact cutA_some b o c off (by omega)
  have K0 : Hid (∀ W, Below w2.heap.size w2 W → Calls Tryd.prog 45 #[.slice (some ⟨b, o, none⟩) n c] W fun e w' => e = .returned (.int .i64 (wordAt bs 0)) ∧ ∃ k, w' = W.drewN k) := fun W hW =>
    word_at b o n c 0 bs W (HBY.out W hW) (by have := HNN.out; omega) (by omega)
  have K2 : Hid (∀ W, Below w2.heap.size w2 W → Calls Tryd.prog 45 #[.slice (some ⟨b, o + 2, none⟩) n2 c2] W fun e w' => e = .returned (.int .i64 (wordAt bs 2)) ∧ ∃ k, w' = W.drewN k) := fun W hW =>
    word_at b o n2 c2 2 bs W (HBY.out W hW) (by have := HNN.out; omega) (by omega)
  have K4 : Hid (∀ W, Below w2.heap.size w2 W → Calls Tryd.prog 46 #[.slice (some ⟨b, o + 4, none⟩) n4 c4] W fun e w' => e = .returned (.int .u32 (longAt bs 4)) ∧ ∃ k, w' = W.drewN k) := fun W hW =>
    long_at b o n4 c4 4 bs W (HBY.out W hW) (by have := HNN.out; omega) (by omega) (by omega)
  have K8 : Hid (∀ W, Below w2.heap.size w2 W → Calls Tryd.prog 46 #[.slice (some ⟨b, o + 8, none⟩) n8 c8] W fun e w' => e = .returned (.int .u32 (longAt bs 8)) ∧ ∃ k, w' = W.drewN k) := fun W hW =>
    long_at b o n8 c8 8 bs W (HBY.out W hW) (by have := HNN.out; omega) (by omega) (by omega)
  have K14 : Hid (∀ W, Below w2.heap.size w2 W → Calls Tryd.prog 45 #[.slice (some ⟨b, o + 14, none⟩) n14 c14] W fun e w' => e = .returned (.int .i64 (wordAt bs 14)) ∧ ∃ k, w' = W.drewN k) := fun W hW =>
    word_at b o n14 c14 14 bs W (HBY.out W hW) (by have := HNN.out; omega) (by omega)
  have K18 : Hid (∀ W, Below w2.heap.size w2 W → Calls Tryd.prog 45 #[.slice (some ⟨b, o + 18, none⟩) n18 c18] W fun e w' => e = .returned (.int .i64 (wordAt bs 18)) ∧ ∃ k, w' = W.drewN k) := fun W hW =>
    word_at b o n18 c18 18 bs W (HBY.out W hW) (by have := HNN.out; omega) (by omega)
  clear hzx hzl hzc htl hn2 hc2 hn4 hc4 hn8 hc8 hn14 hc14 hn18 hc18
  go_upto_region 7 with (go_at_call_of 43 true; refine (must_ok _ _).mono ?_; rintro e w2 ⟨rfl, rfl⟩)
  go_cut [8] (fun v wr => ∃ (q : Nat) (da : Option Addr) (dc : Nat), v = .pointer (some ⟨q, 0, none⟩) ∧ Hid (HeadAt w2 wr bs tl q da dc))
  case first =>
    have hz : zl ≠ 0 := HZL.out
    have hzp : 0 < zl := by omega
    obtain rfl := HZX.out hzp
    have hzl : zl ≤ 65000 := HTL.out.2.2
    have HTY : Hid (Byts tl) := (HTB.out _ (Below.refl _ _)).2.1
    clear c13' hoffx hb12 hdat ho1 ho2 hof60 k1 k2 k3 hdi hn64
    go_region_held3 (fun W => W.cell? ⟨b, o + 13, none⟩ = some (.int .u8 x13) ∧ Below w2.heap.size w2 W) (refine ⟨C13.out _ ?_, ?_⟩ <;> (repeat (first | with_reducible exact Below.refl _ _ | with_reducible assumption | with_reducible refine Below.drew ?_ | with_reducible refine below_drewN ?_ _ | with_reducible refine below_more ?_ _ | with_reducible refine below_setq ?_ _ _)))
      (first
        | (refine step_append_lies _ rfl (.const (.slice none 0 0)) (.tmp 65) 24 rfl w2.heap.size 5 i0 (.int .u8 0) 1 1 Tryd.underlying24 hi hz0 hz1 hz2 rfl (by decide) (.slice none 0 0) 0 [] rfl (World.ownsRow_nil _ _ _ _) ⟨b, o + off, none⟩ zl zc (tl.map (Value.int .u8)) rfl (by simpa using HTL.out.2.1) (news_all (HTB.out _ (by repeat (first | with_reducible exact Below.refl _ _ | with_reducible assumption | with_reducible refine Below.drew ?_ | with_reducible refine below_drewN ?_ _ | with_reducible refine below_more ?_ _)))) (ints_one _ _) hzp (by unfold maxLen; omega) (by omega) (Below.size (B := w2.heap.size) (by repeat (first | with_reducible exact Below.refl _ _ | with_reducible assumption | with_reducible refine Below.drew ?_ | with_reducible refine below_drewN ?_ _ | with_reducible refine below_more ?_ _))) _ rfl ?_; intro g1 c1 wa hown1 hg1 hat1 hlt1; have hba : Below w2.heap.size w2 wa := below_nil (by repeat (first | with_reducible exact Below.refl _ _ | with_reducible assumption | with_reducible refine Below.drew ?_ | with_reducible refine below_drewN ?_ _ | with_reducible refine below_more ?_ _)) (Below.size (B := w2.heap.size) (by repeat (first | with_reducible exact Below.refl _ _ | with_reducible assumption | with_reducible refine Below.drew ?_ | with_reducible refine below_drewN ?_ _ | with_reducible refine below_more ?_ _))) hg1; have hRa : Hid (Row wa w2.heap.size (some ⟨g1, 0, none⟩) zl c1 tl) := row_nil hown1; have hge : Hid (w2.heap.size ≤ g1 ∧ g1 < wa.heap.size) := ⟨hRa.out.ge, hlt1⟩; (first | (have hqb : Hid (wa.heap[w2.heap.size]? = some (.cells #[.int .i64 0, .int .i64 0, .int .u32 0, .int .u32 0, .int .i64 0, .int .i64 0, .int .i64 0, .int .i64 0, .int .i64 0, .bool false, .bool false, .int .u32 0, .int .u32 0, .slice none 0 0, .slice none 0 0] 26) ∧ g1 ≠ w2.heap.size) := q_kept hg1 hat1; have hqc : ∀ k, wa.cell? ⟨w2.heap.size, k, none⟩ = (#[.int .i64 0, .int .i64 0, .int .u32 0, .int .u32 0, .int .i64 0, .int .i64 0, .int .i64 0, .int .i64 0, .int .i64 0, .bool false, .bool false, .int .u32 0, .int .u32 0, .slice none 0 0, .slice none 0 0] : Array Value)[k]? := fun k => box_cells hqb.out.1 k; have hqf : ∀ k, wa.frozen? ⟨w2.heap.size, k, none⟩ = false := fun k => seg_frozen hqb.out.1 k) | skip); clear hown1 hg1 hat1 hlt1)
        | (go_at_call_of 45 n2; refine (K2.out _ (by repeat (first | with_reducible exact Below.refl _ _ | with_reducible assumption | with_reducible refine Below.drew ?_ | with_reducible refine below_drewN ?_ _ | with_reducible refine below_more ?_ _))).mono ?_; rintro e w' ⟨rfl, i, rfl⟩)
        | (go_at_call_of 46 n4; refine (K4.out _ (by repeat (first | with_reducible exact Below.refl _ _ | with_reducible assumption | with_reducible refine Below.drew ?_ | with_reducible refine below_drewN ?_ _ | with_reducible refine below_more ?_ _))).mono ?_; rintro e w' ⟨rfl, i, rfl⟩)
        | (go_at_call_of 46 n8; refine (K8.out _ (by repeat (first | with_reducible exact Below.refl _ _ | with_reducible assumption | with_reducible refine Below.drew ?_ | with_reducible refine below_drewN ?_ _ | with_reducible refine below_more ?_ _))).mono ?_; rintro e w' ⟨rfl, i, rfl⟩)
        | (go_at_call_of 45 n14; refine (K14.out _ (by repeat (first | with_reducible exact Below.refl _ _ | with_reducible assumption | with_reducible refine Below.drew ?_ | with_reducible refine below_drewN ?_ _ | with_reducible refine below_more ?_ _))).mono ?_; rintro e w' ⟨rfl, i, rfl⟩)
        | (go_at_call_of 45 n18; refine (K18.out _ (by repeat (first | with_reducible exact Below.refl _ _ | with_reducible assumption | with_reducible refine Below.drew ?_ | with_reducible refine below_drewN ?_ _ | with_reducible refine below_more ?_ _))).mono ?_; rintro e w' ⟨rfl, i, rfl⟩)
        | (go_at_call_of 45 n; refine (K0.out _ (by repeat (first | with_reducible exact Below.refl _ _ | with_reducible assumption | with_reducible refine Below.drew ?_ | with_reducible refine below_drewN ?_ _ | with_reducible refine below_more ?_ _))).mono ?_; rintro e w' ⟨rfl, i, rfl⟩))
    all_goals go_wp2_with fail
    all_goals go_meet
    all_goals refine ⟨_, some ⟨g1, 0, none⟩, c1, rfl, hid_in ?_⟩
    all_goals (first
      | with_reducible exact head_last HX13.out HTL.out.1 HTL.out.2.1 hzl hb13 HRD.out.2 HTY.out hRa.out hge.out hba
      | with_reducible exact head_late2 HX13.out HTL.out.1 HTL.out.2.1 hzl hb13 HRD.out.2 HTY.out hRa.out hge.out hba hqb.out)
  case rest =>
    obtain ⟨q, da, dc, rfl, H⟩ := hcut
    rename_i hgo
    refine hgo _ _ ?_
    exact read_rest b o n c off q dc bs tl src dst S da w w2 wc _ _ _ _ _ _ _ _ _ _ _ _ _ _ _ _ _ _ _ _ _ _ _ _ _ _ _ _ _ _ _ _ _ _ _ _ _ _ _ _ _ _ _ _ _ _ _ _ _ _ _ _ _ _ _ _ _ _ _ _ _ _ _ _ H HBY HB2 HNN HRD HTL.out.1 HBLK2 HBW hc hof60 (by omega) k2 k3
end Go.Proofs.YtllmeeebjjmanaaDoor
