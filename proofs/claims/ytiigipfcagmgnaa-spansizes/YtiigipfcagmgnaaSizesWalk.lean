/- The walk of SpanSizes. -/
import Derived.Test.YtiigipfcagmgnaaHasWalk
namespace Go.Proofs.Ytiigipfcagmgnaa
open Go.ChangeShapes Go.WideShapes Go.ChangeAt Go.RowKit Go.Shelf
set_option linter.unusedVariables false

theorem below_on {B : Nat} {a w w' : World} (h : Below B a w) (hB : B ≤ a.heap.size) (h' : Below w.heap.size w w') : Below B a w' := h.trans (h'.mono (Nat.le_trans hB h.size))

set_option maxRecDepth 100000 in
set_option maxHeartbeats 4000000 in
/-- A row or a span that may not be. -/
theorem sizes_not (A : Option Addr) (cap : Nat) (ts : List Tm) (s : Tm) (w : World) (hT : Got w A cap ts) (hok : ¬ (chk (-1) ts = true ∧ rightB s = true)) :
    Calls Try.prog 7 #[.slice A ts.length cap, tmV s] w fun e w' => e = .returned (.bool true) ∧ Below w.heap.size w w' := by
  have hB0 : Below w.heap.size w (w.alloc (.cells #[.int .i64 s.1, .int .i64 s.2] 24)) := (Below.refl _ w).alloc (Nat.le_refl _) _
  have bS := BoxT.new w s
  have cC := check_any A cap ts _ (hT.later hB0).1
  cases hc : chk (-1) ts with
  | false =>
    have hE : errI ts = 60 := by simp [errI, hc]
    rw [hE] at cC
    clear hE hc hok
    go_enter Try.func7, Try.ntmps7
    go_wp2_with (first | (go_at_call 18; refine cC.mono ?_; rintro e w1 ⟨rfl, hB1⟩) | (go_at_call 11; refine (heads_any _).mono ?_; rintro e w2 ⟨rfl, hB2⟩))
    go_ret
    exact ⟨rfl, below_next (below_next hB0 hB1) hB2⟩
  | true =>
    have hE : errI ts = 0 := by simp [errI, hc]
    have hnr : ¬ rightB s = true := fun h => hok ⟨hc, h⟩
    rw [rightB_iff] at hnr
    rw [hE] at cC
    clear hE hc hok
    by_cases h1 : s.1 < 0
    · clear hnr
      go_enter Try.func7, Try.ntmps7
      go_wp2_with (first | (go_at_call 18; refine cC.mono ?_; rintro e w1 ⟨rfl, hB1⟩; have bS1 := bS.on hB1; have s0 := bS1.cell0; have s1 := bS1.cell1) | (go_at_call 11; refine (heads_any _).mono ?_; rintro e w2 ⟨rfl, hB2⟩))
      go_ret
      exact ⟨rfl, below_next (below_next hB0 hB1) hB2⟩
    · by_cases h2 : s.2 < s.1
      · clear hnr
        go_enter Try.func7, Try.ntmps7
        go_wp2_with (first | (go_at_call 18; refine cC.mono ?_; rintro e w1 ⟨rfl, hB1⟩; have bS1 := bS.on hB1; have s0 := bS1.cell0; have s1 := bS1.cell1) | (go_at_call 11; refine (heads_any _).mono ?_; rintro e w2 ⟨rfl, hB2⟩))
        go_ret
        exact ⟨rfl, below_next (below_next hB0 hB1) hB2⟩
      · have h3 : 1125899906842624 < s.2 := by omega
        clear hnr
        go_enter Try.func7, Try.ntmps7
        go_wp2_with (first | (go_at_call 18; refine cC.mono ?_; rintro e w1 ⟨rfl, hB1⟩; have bS1 := bS.on hB1; have s0 := bS1.cell0; have s1 := bS1.cell1) | (go_at_call 11; refine (heads_any _).mono ?_; rintro e w2 ⟨rfl, hB2⟩))
        go_ret
        exact ⟨rfl, below_next (below_next hB0 hB1) hB2⟩

/-- What is known ahead of the walk: all answers. -/
structure SizesIs (ts : List Tm) (s : Tm) (n : Nat) (S : List Tm) (m : Nat) (C : List Tm) (p : Nat) (G : List Tm) (q : Nat) (zl zg : Int) : Prop where
  qn : ts.length = n
  qS : addV ts s = S
  qm : S.length = m
  qC : cutV ts s = C
  qp : C.length = p
  qG : gapsV ts s = G
  qq : G.length = q
  qe : bothI ts s = 0
  et : errI ts = 0
  eG : errI G = 0
  vzl : sizeV ts = zl
  vzg : sizeV G = zg
  zS : sizeV S = zl + zg
  zC : sizeV C = zl - (s.2 - s.1 - zg)
  cov : coversV ts s = (q == 0)
  cS : chk (-1) S = true
  rG : ∀ x ∈ G, rightB x = true
  back : backs S G = ts
  len : m + q ≤ n + 2

set_option maxRecDepth 100000 in
set_option maxHeartbeats 8000000 in
theorem sizes_go (A : Option Addr) (cap : Nat) (ts : List Tm) (s : Tm) (w : World) (hT : Got w A cap ts) (n m p q : Nat) (S C G : List Tm) (zl zg : Int) (hr : n * 16 ≤ 140737488351232) (hs1 : 0 ≤ s.1) (hs2 : s.1 ≤ s.2) (hs3 : s.2 ≤ 1125899906842624)
    (hz1 : 0 ≤ zl ∧ zl ≤ 1125899906842625) (hz2 : 0 ≤ zg ∧ zg ≤ 1125899906842625) (H : SizesIs ts s n S m C p G q zl zg) :
    Calls Try.prog 7 #[.slice A n cap, tmV s] w fun e w' => e = .returned (.bool true) ∧ Below w.heap.size w w' := by
  have hlen := H.len
  have hB0 : Below w.heap.size w (w.alloc (.cells #[.int .i64 s.1, .int .i64 s.2] 24)) := (Below.refl _ w).alloc (Nat.le_refl _) _
  have bS := BoxT.new w s
  have HT : Hid (Got w A cap ts) := hT
  have HH : Hid (SizesIs ts s n S m C p G q zl zg) := H
  have c0 := check_is A cap ts _ (hT.later hB0) n H.qn 0 H.et
  have HB0 : Hid (Below w.heap.size w (w.alloc (.cells #[.int .i64 s.1, .int .i64 s.2] 24))) := hB0
  have HX : Hid (BoxT (w.alloc (.cells #[.int .i64 s.1, .int .i64 s.2] 24)) w.heap.size s) := bS
  clear hT H hB0 bS
  go_enter Try.func7, Try.ntmps7
  go_wp2_with fail
  refine c0.mono ?_
  rintro e w0 ⟨rfl, hB1⟩
  have HB1 : Hid (Below w.heap.size w w0) := below_next HB0.out hB1
  have HX1 : Hid (BoxT w0 w.heap.size s) := HX.out.on hB1
  have k0 := HX1.out.cell0
  have k1 := HX1.out.cell1
  have c1 := add_fin A cap ts s w0 (HT.out.later HB1.out) n HH.out.qn (by omega) S HH.out.qS m HH.out.qm 0 HH.out.qe
  clear c0 hB1 HB0 HX
  go_wp2_with fail
  refine c1.mono ?_
  rintro e w1 ⟨va1, vc1, rfl, hT1, hB2⟩
  have HB2 : Hid (Below w.heap.size w w1) := below_next HB1.out hB2
  have HX2 : Hid (BoxT w1 w.heap.size s) := HX1.out.on hB2
  have HT2 : Hid (Got w1 va1 vc1 S) := hT1
  have k2 := HX2.out.cell0
  have k3 := HX2.out.cell1
  have c2 := cut_fin A cap ts s w1 (HT.out.later HB2.out) n HH.out.qn (by omega) C HH.out.qC p HH.out.qp 0 HH.out.qe
  clear c1 hB2 hT1 HB1 HX1 k0 k1
  go_wp2_with fail
  refine c2.mono ?_
  rintro e w2 ⟨va2, vc2, rfl, hT3, hB3⟩
  have HB3 : Hid (Below w.heap.size w w2) := below_next HB2.out hB3
  have HX3 : Hid (BoxT w2 w.heap.size s) := HX2.out.on hB3
  have HT3 : Hid (Got w2 va1 vc1 S ∧ Got w2 va2 vc2 C) := ⟨HT2.out.later hB3, hT3⟩
  have k4 := HX3.out.cell0
  have k5 := HX3.out.cell1
  have c3 := gaps_is A cap ts s w2 (HT.out.later HB3.out) n HH.out.qn (by omega) G HH.out.qG q HH.out.qq
  clear c2 hB3 hT3 HB2 HX2 HT2 k2 k3
  go_wp2_with fail
  refine c3.mono ?_
  rintro e w3 ⟨va3, vc3, rfl, hT4, hB4⟩
  have HB4 : Hid (Below w.heap.size w w3) := below_next HB3.out hB4
  have HX4 : Hid (BoxT w3 w.heap.size s) := HX3.out.on hB4
  have HT4 : Hid (Got w3 va1 vc1 S ∧ Got w3 va2 vc2 C ∧ Got w3 va3 vc3 G) := ⟨HT3.out.1.later hB4, HT3.out.2.later hB4, hT4⟩
  have c4 := check_is va3 vc3 G w3 hT4 q HH.out.qq 0 HH.out.eG
  clear c3 hB4 hT4 HB3 HX3 HT3 k4 k5
  go_wp2_with fail
  refine c4.mono ?_
  rintro e w4 ⟨rfl, hB5⟩
  have HB5 : Hid (Below w.heap.size w w4) := below_next HB4.out hB5
  have HX5 : Hid (BoxT w4 w.heap.size s) := HX4.out.on hB5
  have HT5 : Hid (Got w4 va1 vc1 S ∧ Got w4 va2 vc2 C ∧ Got w4 va3 vc3 G) := ⟨HT4.out.1.later hB5, HT4.out.2.1.later hB5, HT4.out.2.2.later hB5⟩
  clear c4 hB5 HB4 HX4 HT4
  have HC : Hid (∀ W, Below w4.heap.size w4 W → W.cell? ⟨w.heap.size, 0, none⟩ = some (.int .i64 s.1) ∧ W.cell? ⟨w.heap.size, 1, none⟩ = some (.int .i64 s.2)) := fun W hW => ⟨(HX5.out.on hW).cell0, (HX5.out.on hW).cell1⟩
  have hw1 : IntKind.i64.wrap (s.2 - s.1) = s.2 - s.1 := by rw [IntKind.wrap_i64]; omega
  have hw2 : IntKind.i64.wrap (s.2 - s.1 - zg) = s.2 - s.1 - zg := by rw [IntKind.wrap_i64]; omega
  go_upto_region 8 with fail
  go_region_held3 (fun W => W.cell? ⟨w.heap.size, 0, none⟩ = some (.int .i64 s.1) ∧ W.cell? ⟨w.heap.size, 1, none⟩ = some (.int .i64 s.2) ∧ Below w4.heap.size w4 W)
    (refine ⟨(HC.out _ ?_).1, (HC.out _ ?_).2, ?_⟩ <;> (repeat (first | with_reducible exact Below.refl _ _ | with_reducible assumption | with_reducible refine Below.drew ?_ | with_reducible refine below_drewN ?_ _)))
    (first
      | (go_at_call 25; refine (size_is va3 vc3 G _ (HT5.out.2.2.later (by repeat (first | with_reducible exact Below.refl _ _ | with_reducible assumption | with_reducible refine Below.drew ?_ | with_reducible refine below_drewN ?_ _))) q HH.out.qq zg HH.out.vzg).mono ?_; rintro e w5 ⟨rfl, hb5'⟩; have hb5 : Below w4.heap.size w4 w5 := below_on (by repeat (first | with_reducible exact Below.refl _ _ | with_reducible assumption | with_reducible refine Below.drew ?_ | with_reducible refine below_drewN ?_ _)) (Nat.le_refl _) hb5'))
  have HB6 : Hid (Below w.heap.size w w5) := below_next HB5.out hb5
  have HX6 : Hid (BoxT w5 w.heap.size s) := HX5.out.on hb5
  have HT6 : Hid (Got w5 va1 vc1 S ∧ Got w5 va2 vc2 C ∧ Got w5 va3 vc3 G) := ⟨HT5.out.1.later hb5, HT5.out.2.1.later hb5, HT5.out.2.2.later hb5⟩
  clear hb5' hb5 HB5 HX5 HT5 HC
  obtain ⟨inn, hinn⟩ : ∃ inn, s.2 - s.1 - zg = inn := ⟨_, rfl⟩
  have HIN : Hid (s.2 - s.1 - zg = inn) := hinn
  have hin1 : -1125899906842626 ≤ inn ∧ inn ≤ 1125899906842626 := by omega
  rw [hinn]
  clear hinn hw1 hw2
  go_wp2_with fail
  go_loopw [11, 12] (fun v vi wr => ∃ (i L : Nat) (va : Option Addr) (vc : Nat), vi = .int .i64 i ∧ v = .slice va L vc ∧ i ≤ q ∧ L ≤ m + i ∧ Hid ((backs S (G.take i)).length = L ∧ Got wr va vc (backs S (G.take i)) ∧ Below w5.heap.size w5 wr))
    (fun _ vi _ => q - (intOf vi).toNat)
  case atStart => exact ⟨0, m, va1, vc1, rfl, rfl, Nat.zero_le _, Nat.le_refl _, by simpa [backs] using HH.out.qm, by simpa [backs] using HT6.out.1, Below.refl _ _⟩
  case round =>
    obtain ⟨i, L, va, vc, rfl, rfl, hiq, hLi, HL⟩ := hrel
    by_cases hlt : i < q
    · have hi' : i < G.length := by have := HH.out.qq; omega
      obtain ⟨kb, ko, e3, hc0, hc1⟩ := HT6.out.2.2.1.2 i hi'
      obtain ⟨z, hz⟩ : ∃ z, G[i]?.getD (0, 0) = z := ⟨_, rfl⟩
      rw [hz] at hc0 hc1
      have hzm : z ∈ G := by rw [← hz]; simp [hi']
      have hd0 : wr.cell? ⟨kb, ko + i * 2, none⟩ = some (.int .i64 z.1) := (HL.out.2.2.cell (p := ⟨kb, ko + i * 2, none⟩) (lt_of_cell hc0)).trans hc0
      have hd1 : wr.cell? ⟨kb, ko + i * 2 + 1, none⟩ = some (.int .i64 z.2) := (HL.out.2.2.cell (p := ⟨kb, ko + i * 2 + 1, none⟩) (lt_of_cell hc1)).trans hc1
      have htk : G.take (i + 1) = G.take i ++ [z] := take_snoc hi' hz
      have hch : chk (-1) (backs S (G.take i)) = true := backs_chk _ _ HH.out.cS (fun x hx => HH.out.rG x (List.mem_of_mem_take hx))
      obtain ⟨N, hN⟩ : ∃ N, cutV (backs S (G.take i)) z = N := ⟨_, rfl⟩
      obtain ⟨r, hrr⟩ : ∃ r, N.length = r := ⟨_, rfl⟩
      have hrl : r ≤ L + 1 := by rw [← hrr, ← hN, ← HL.out.1]; exact cutV_len1 _ _
      have HNX : Hid (backs S (G.take (i + 1)) = N ∧ N.length = r) := ⟨by rw [htk, backs_snoc, hN], hrr⟩
      have c6 := cut_fin va vc _ z wr HL.out.2.1 L HL.out.1 (by omega) N hN r hrr 0 (bothI_ok hch (HH.out.rG z hzm))
      have HB : Hid (Below w5.heap.size w5 wr) := HL.out.2.2
      subst e3
      clear hz hc0 hc1 hzm htk hch hN hrr hi' HL
      go_wp2_with (go_at_call 15; refine c6.mono ?_; rintro e w6 ⟨va6, vc6, rfl, hT7, hB7⟩)
      go_roundw
      case rel => exact ⟨i + 1, r, va6, vc6, by go_num, rfl, by omega, by omega, by rw [HNX.out.1]; exact HNX.out.2, by rw [HNX.out.1]; exact hT7, below_next HB.out hB7⟩
      case measure => simp [intOf]; omega
    · obtain rfl : i = q := by omega
      have hall : G.take i = G := by rw [← HH.out.qq]; exact List.take_length
      rw [hall, HH.out.back, HH.out.qn] at HL
      have hLn : n = L := HL.out.1
      subst hLn
      obtain ⟨ea, eb⟩ : (∃ x, x = zl + zg) ∧ (∃ x, x = zl - inn) := ⟨⟨_, rfl⟩, ⟨_, rfl⟩⟩
      have HB7 : Hid (Below w.heap.size w wr) := below_next HB6.out HL.out.2.2
      have HX7 : Hid (BoxT wr w.heap.size s) := HX6.out.on HL.out.2.2
      have HT7 : Hid (Got wr va1 vc1 S ∧ Got wr va2 vc2 C ∧ Got wr va3 vc3 G ∧ Got wr va vc ts) := ⟨HT6.out.1.later HL.out.2.2, HT6.out.2.1.later HL.out.2.2, HT6.out.2.2.later HL.out.2.2, HL.out.2.1⟩
      have c7 := size_is va1 vc1 S wr HT7.out.1 m HH.out.qm (zl + zg) HH.out.zS
      clear hall HB6 HX6 HT6 HL ea eb
      go_wp2_with fail
      refine c7.mono ?_
      rintro e w7 ⟨rfl, hB8⟩
      have HB8 : Hid (Below w.heap.size w w7) := below_next HB7.out hB8
      have HX8 : Hid (BoxT w7 w.heap.size s) := HX7.out.on hB8
      have HT8 : Hid (Got w7 va2 vc2 C ∧ Got w7 va3 vc3 G ∧ Got w7 va vc ts) := ⟨HT7.out.2.1.later hB8, HT7.out.2.2.1.later hB8, HT7.out.2.2.2.later hB8⟩
      have c8 := size_is A cap ts w7 (HT.out.later HB8.out) n HH.out.qn zl HH.out.vzl
      clear c7 hB8 HB7 HX7 HT7
      go_wp2_with fail
      refine c8.mono ?_
      rintro e w8 ⟨rfl, hB9⟩
      have HB9 : Hid (Below w.heap.size w w8) := below_next HB8.out hB9
      have HX9 : Hid (BoxT w8 w.heap.size s) := HX8.out.on hB9
      have HT9 : Hid (Got w8 va2 vc2 C ∧ Got w8 va3 vc3 G ∧ Got w8 va vc ts) := ⟨HT8.out.1.later hB9, HT8.out.2.1.later hB9, HT8.out.2.2.later hB9⟩
      have c9 := size_is va3 vc3 G w8 HT9.out.2.1 i HH.out.qq zg HH.out.vzg
      clear c8 hB9 HB8 HX8 HT8
      go_wp2_with fail
      refine c9.mono ?_
      rintro e w9 ⟨rfl, hB10⟩
      have HB10 : Hid (Below w.heap.size w w9) := below_next HB9.out hB10
      have HX10 : Hid (BoxT w9 w.heap.size s) := HX9.out.on hB10
      have HT10 : Hid (Got w9 va2 vc2 C ∧ Got w9 va vc ts) := ⟨HT9.out.1.later hB10, HT9.out.2.2.later hB10⟩
      have hzC : sizeV C = zl - inn := by rw [HH.out.zC, HIN.out]
      have c10 := size_is va2 vc2 C w9 HT10.out.1 p HH.out.qp (zl - inn) hzC
      clear c9 hB10 HB9 HX9 HT9 hzC
      go_wp2_with fail
      refine c10.mono ?_
      rintro e w10 ⟨rfl, hB11⟩
      have HB11 : Hid (Below w.heap.size w w10) := below_next HB10.out hB11
      have HX11 : Hid (BoxT w10 w.heap.size s) := HX10.out.on hB11
      have HT11 : Hid (Got w10 va vc ts) := HT10.out.2.later hB11
      have c11 := size_is A cap ts w10 (HT.out.later HB11.out) n HH.out.qn zl HH.out.vzl
      clear c10 hB11 HB10 HX10 HT10
      go_wp2_with fail
      refine c11.mono ?_
      rintro e w11 ⟨rfl, hB12⟩
      have HB12 : Hid (Below w.heap.size w w11) := below_next HB11.out hB12
      have HX12 : Hid (BoxT w11 w.heap.size s) := HX11.out.on hB12
      have HT12 : Hid (Got w11 va vc ts) := HT11.out.later hB12
      have k6 := HX12.out.cell0
      have k7 := HX12.out.cell1
      clear c11 hB12 HB11 HX11 HT11
      by_cases hq0 : i = 0
      · subst hq0
        have c12 := covers_is A cap ts s w11 (HT.out.later HB12.out) n HH.out.qn true (by rw [HH.out.cov]; rfl)
        go_wp2_with fail
        refine c12.mono ?_
        rintro e w12 ⟨rfl, hB13⟩
        have HB13 : Hid (Below w.heap.size w w12) := below_next HB12.out hB13
        have c13 := size_is va vc ts w12 (HT12.out.later hB13) n HH.out.qn zl HH.out.vzl
        clear c12 hB13 HB12 HX12 HT12 k6 k7
        go_wp2_with fail
        refine c13.mono ?_
        rintro e w13 ⟨rfl, hB14⟩
        have HB14 : Hid (Below w.heap.size w w13) := below_next HB13.out hB14
        have c14 := size_is A cap ts w13 (HT.out.later HB14.out) n HH.out.qn zl HH.out.vzl
        clear c13 hB14 HB13
        go_wp2_with fail
        refine c14.mono ?_
        rintro e w14 ⟨rfl, hB15⟩
        have HB15 : Hid (Below w.heap.size w w14) := below_next HB14.out hB15
        clear c14 hB15 HB14
        go_wp2_with (go_at_call 11; refine (heads_any _).mono ?_; rintro e w15 ⟨rfl, hB16⟩)
        go_ret
        exact ⟨rfl, below_next HB15.out hB16⟩
      · have hq1 : 0 < i := by omega
        have c12 := covers_is A cap ts s w11 (HT.out.later HB12.out) n HH.out.qn false (by rw [HH.out.cov]; simpa using hq0)
        have hi0 : ((i : Int) == 0) = false := by simp; omega
        clear hq0
        go_wp2_with fail
        refine c12.mono ?_
        rintro e w12 ⟨rfl, hB13⟩
        have HB13 : Hid (Below w.heap.size w w12) := below_next HB12.out hB13
        have c13 := size_is va vc ts w12 (HT12.out.later hB13) n HH.out.qn zl HH.out.vzl
        clear c12 hB13 HB12 HX12 HT12 k6 k7
        go_wp2_with fail
        refine c13.mono ?_
        rintro e w13 ⟨rfl, hB14⟩
        have HB14 : Hid (Below w.heap.size w w13) := below_next HB13.out hB14
        have c14 := size_is A cap ts w13 (HT.out.later HB14.out) n HH.out.qn zl HH.out.vzl
        clear c13 hB14 HB13
        go_wp2_with fail
        refine c14.mono ?_
        rintro e w14 ⟨rfl, hB15⟩
        have HB15 : Hid (Below w.heap.size w w14) := below_next HB14.out hB15
        clear c14 hB15 HB14
        go_wp2_with (go_at_call 11; refine (heads_any _).mono ?_; rintro e w15 ⟨rfl, hB16⟩)
        go_ret
        exact ⟨rfl, below_next HB15.out hB16⟩

theorem sizes_walk (A : Option Addr) (cap : Nat) (ts : List Tm) (s : Tm) (w : World) (hT : Got w A cap ts) (hr : ts.length * 16 ≤ 140737488351232) :
    Calls Try.prog 7 #[.slice A ts.length cap, tmV s] w fun e w' => e = .returned (.bool true) ∧ Below w.heap.size w w' := by
  by_cases hok : chk (-1) ts = true ∧ rightB s = true
  · obtain ⟨hc, hs⟩ := hok
    have hs' := rightB_iff.1 hs
    have hgv : gapsV ts s = gapsL ts s.1 s.2 := by unfold gapsV; rw [if_pos hc]
    have hgc : chk (-1) (gapsL ts s.1 s.2) = true := chk_mono (gaps_chk hc hs'.2.2) (by omega)
    have z1 : sizeV ts = sizeL ts := by unfold sizeV; rw [if_pos hc]
    have z2 : sizeV (gapsV ts s) = sizeL (gapsL ts s.1 s.2) := by unfold sizeV; rw [hgv, if_pos hgc]
    have b1 := sizeL_bound ts (-1) hc (by omega)
    have b2 := sizeL_bound _ (-1) hgc (by omega)
    refine sizes_go A cap ts s w hT _ _ _ _ _ _ _ (sizeV ts) (sizeV (gapsV ts s)) hr hs'.1 hs'.2.1 hs'.2.2 (by rw [z1]; omega) (by rw [z2]; omega)
      ⟨rfl, rfl, rfl, rfl, rfl, rfl, rfl, bothI_ok hc hs, by unfold errI; rw [if_pos hc], by unfold errI; rw [hgv, if_pos hgc], rfl, rfl, ?_, ?_, ?_, addV_chk hc hs, ?_, ?_, ?_⟩
    · rw [z1, z2]; unfold sizeV; rw [if_pos (addV_chk hc hs)]; exact addV_size hc hs
    · rw [z1, z2]; unfold sizeV; rw [if_pos (cutV_chk hc hs)]; exact cutV_size hc hs
    · unfold coversV; rw [hc, hgv, Bool.true_and]
      cases gapsL ts s.1 s.2 <;> rfl
    · rw [hgv]; exact right_of_chk hgc (Int.le_refl _)
    · rw [hgv]; exact backs_all hc hs
    · rw [hgv]; exact addV_len hc hs
  · exact sizes_not A cap ts s w hT hok
end Go.Proofs.Ytiigipfcagmgnaa
