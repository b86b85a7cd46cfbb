/- The contracts of the document's own four, two, Options. -/
import Derived.Test.YtllmeeebjjmanaaDoorOpts
namespace Go.Proofs.YtllmeeebjjmanaaDoor
open Go.ChangeShapes Go.WideShapes Go.ChangeAt Go.RowKit Go.Shelf
set_option linter.unusedVariables false

theorem refFour_any (x : Int) (w : World) (hx : U32 x) :
    Calls Tryd.prog 27 #[.int .u32 x] w fun e w' => ∃ g, e = .returned (.slice (some ⟨g, 0, none⟩) 4 4) ∧ BytesAt w' (some ⟨g, 0, none⟩) (fourI x) ∧ Below w.heap.size w w' := by
  obtain ⟨h0, h1⟩ := hx
  have hn := bytes_new w (fourI x) (four_byts ⟨h0, h1⟩) (by simp [fourI, maxLen])
  go_enter Tryd.func27, Tryd.ntmps27
  go_wp2
  go_ret
  exact ⟨_, rfl, hn, (Below.refl _ w).alloc (Nat.le_refl _) _⟩

theorem row_grown (w : World) (B p c n : Nat) (cs : List Int) (hp : w.heap.size = p) (hB : B ≤ p) (hl : cs.length = n) (hn : n ≤ c) (hc : c ≤ maxLen) :
    Row ((w.alloc (.cells ((cs.map (Value.int .u8)).toArray ++ Builtin.zeroCells #[Value.int .u8 0] (c - n)) 5)).drew) B (some ⟨p, 0, none⟩) n c cs := by
  subst hp hl
  refine ⟨by simp, .inr ⟨w.heap.size, _, _, rfl, hB, heap_alloc_new w _, hn, hc, ?_, ?_⟩⟩
  · simp only [Array.size_append, List.size_toArray, size_zeroCells, List.length_map]
    simp
    omega
  · simp only [Array.toList_append]
    rw [List.take_append_of_le_length (by simp)]
    rw [List.take_of_length_le (by simp)]

theorem refTwo_any (x : Int) (w : World) (hx : 0 ≤ x ∧ x ≤ 65535) :
    Calls Tryd.prog 26 #[.int .i64 x] w fun e w' => ∃ g, e = .returned (.slice (some ⟨g, 0, none⟩) 2 2) ∧ Row w' w.heap.size (some ⟨g, 0, none⟩) 2 2 (twoI x) ∧ BytesAt w' (some ⟨g, 0, none⟩) (twoI x) ∧ Below w.heap.size w w' := by
  obtain ⟨h0, h1⟩ := hx
  have e1 : x / 256 % 256 = x / 256 := Int.emod_eq_of_lt (by omega) (by omega)
  have hn := bytes_new w (twoI x) (two_byts x) (by simp [twoI, maxLen])
  have hr : Row (w.alloc (.cells ((twoI x).map (Value.int .u8)).toArray 5)) w.heap.size (some ⟨w.heap.size, 0, none⟩) 2 2 (twoI x) := World.ownsRow_lit w ((twoI x).map (Value.int .u8)).toArray 2 (Nat.le_refl _) (by decide) rfl
  have hb := (Below.refl w.heap.size w).alloc (Nat.le_refl _) (.cells ((twoI x).map (Value.int .u8)).toArray 5)
  unfold twoI at hn hr hb ⊢
  rw [e1] at hn hr hb ⊢
  go_enter Tryd.func26, Tryd.ntmps26
  go_wp2
  go_ret
  exact ⟨_, rfl, hr, hn, hb⟩

set_option maxRecDepth 100000 in
set_option maxHeartbeats 4000000 in
theorem refOptions_any (s : Seg) (ka : Option Addr) (kc : Nat) (da : Option Addr) (dc : Nat) (w : World) (hs : SegIn w s ka da) (hk : s.sk.length ≤ 1000) :
    Calls Tryd.prog 16 #[.agg (segV s ka kc da dc)] w fun e w' => ∃ va vc, e = .returned (.slice va (optI s).length vc) ∧ Row w' w.heap.size va (optI s).length vc (optI s) ∧ Below w.heap.size w w' := by
  obtain ⟨sp, dp, sq, ak, fl, wn, ur, ms, sc, so, st, va, ec, sk, dat⟩ := s
  obtain ⟨i0, hi, hz0, hz1, hz2⟩ := info_parts Tryd.info5
  obtain ⟨W0, hW0⟩ : ∃ W0, w.alloc (.cells (segV ⟨sp, dp, sq, ak, fl, wn, ur, ms, sc, so, st, va, ec, sk, dat⟩ ka kc da dc) 26) = W0 := ⟨_, rfl⟩
  have HB := box_cell w (segV ⟨sp, dp, sq, ak, fl, wn, ur, ms, sc, so, st, va, ec, sk, dat⟩ ka kc da dc) 26
  rw [hW0] at HB
  have hsz : W0.heap.size = w.heap.size + 1 := by rw [← hW0]; simp
  obtain ⟨n, hn⟩ : ∃ n, sk.length = n := ⟨_, rfl⟩
  have hn1 : n ≤ 1000 := by rw [← hn]; exact hk
  have HN0 : Hid (sk.length = n) := hn
  have H7 : Hid (∀ wr, Below (w.heap.size + 1) W0 wr → wr.cell? ⟨w.heap.size, 7, none⟩ = some (.int .i64 ms)) := fun wr h => HB wr h 7
  have H8 : Hid (∀ wr, Below (w.heap.size + 1) W0 wr → wr.cell? ⟨w.heap.size, 8, none⟩ = some (.int .i64 sc)) := fun wr h => HB wr h 8
  have H9 : Hid (∀ wr, Below (w.heap.size + 1) W0 wr → wr.cell? ⟨w.heap.size, 9, none⟩ = some (.bool so)) := fun wr h => HB wr h 9
  have H10 : Hid (∀ wr, Below (w.heap.size + 1) W0 wr → wr.cell? ⟨w.heap.size, 10, none⟩ = some (.bool st)) := fun wr h => HB wr h 10
  have H11 : Hid (∀ wr, Below (w.heap.size + 1) W0 wr → wr.cell? ⟨w.heap.size, 11, none⟩ = some (.int .u32 va)) := fun wr h => HB wr h 11
  have H12 : Hid (∀ wr, Below (w.heap.size + 1) W0 wr → wr.cell? ⟨w.heap.size, 12, none⟩ = some (.int .u32 ec)) := fun wr h => HB wr h 12
  have H13 : Hid (∀ wr, Below (w.heap.size + 1) W0 wr → wr.cell? ⟨w.heap.size, 13, none⟩ = some (.slice ka n kc)) := fun wr h => by rw [← hn]; exact HB wr h 13
  have hE : Below w.heap.size w W0 := by rw [← hW0]; exact (Below.refl _ w).alloc (Nat.le_refl _) _
  have HE : Hid (Below w.heap.size w W0) := hE
  have HK : Hid (BlksAt W0 ka sk) := by
    refine hs.ks.below hE (Nat.le_refl _)
  have hms : -9223372036854775808 ≤ ms ∧ ms ≤ 9223372036854775807 := hs.i7
  have hsc : -9223372036854775808 ≤ sc ∧ sc ≤ 9223372036854775807 := hs.i8
  have hva : U32 va := hs.ok.va
  have hec : U32 ec := hs.ok.ec
  have HVA : Hid (U32 va) := hva
  have HEC : Hid (U32 ec) := hec
  have c7 := H7.out W0 (Below.refl _ _)
  unfold segV at *
  dsimp only at *
  rw [hn] at hW0 ⊢
  clear HB hs hk hE hva hec hn
  go_enter Tryd.func16, Tryd.ntmps16
  go_upto_if 7 with fail
  clear hW0
  go_cut [3] (fun v wx => Upto W0 (w.heap.size + 1) (mssI ms) v wx)
  case first =>
    by_cases h : 0 ≤ ms
    · skip
      go_wp2_with fail
      go_meet
      refine ⟨_, _, _, rfl, ?_, ?_⟩
      · rw [mssI, if_pos (by omega)]
        exact row_grown (W0.alloc _) (w.heap.size + 1) (w.heap.size + 1 + 1) _ 4 [2, 4, ms / 256 % 256, ms % 256] (by simp [hsz]) (by omega) rfl (by simp [Question.cut]) (grownCap_le_maxLen W0 4 0 5 (by decide))
      · exact (((Below.refl _ W0).alloc (by omega) _).alloc (by simp [hsz]) _).drew
    · have hd : decide (0 ≤ ms) = false := by simpa using h
      go_wp2_with fail
      go_meet
      exact ⟨none, 0, 0, rfl, by rw [mssI, if_neg (by omega)]; exact Row.nil _ _, Below.refl _ _⟩
  case rest =>
    obtain ⟨va1, L1, vc1, rfl, hR, hB⟩ := hcut
    have hl1 : L1 ≤ 4 := by rw [← hR.len]; unfold mssI; split <;> simp
    have hb0 := hB.size
    rw [hsz] at hb0
    clear c7
    have c8 := H8.out _ hB
    go_upto_if 20 with fail
    go_cut [3] (fun v wx => Upto W0 (w.heap.size + 1) (mssI ms ++ scaI sc) v wx)
    case first =>
      by_cases h : 0 ≤ sc
      · have oR := hR.alloc (.cells ([3, 3, sc % 256].map (Value.int .u8)).toArray 5)
        go_wp2_with (at_builtin; refine wpList_append_own _ rfl (.tmp 21) (.tmp 25) 24 rfl (w.heap.size + 1) 5 i0 (.int .u8 0) 1 1 Tryd.underlying24 hi hz0 hz1 hz2 rfl (by decide) _ L1 _ rfl oR ⟨wc.heap.size, 0, none⟩ 3 3 ([3, 3, sc % 256].map (Value.int .u8)) rfl rfl (cells_new wc ([3, 3, sc % 256].map (Value.int .u8)) 5) (ints_one _ _) (by unfold maxLen; omega) (by omega) (by simp; omega) ?_; intro v1 w1 hown1 hg1 _; have hb1 : Below (w.heap.size + 1) W0 w1 := below_append (hB.alloc hb0 _) (by simp; omega) oR hg1; rw [← List.map_append] at hown1; obtain ⟨a1, c1, rfl, hR1⟩ := row_of hown1)
        go_meet
        exact ⟨_, _, _, rfl, by rw [scaI, if_pos (by omega)]; exact hR1, hb1⟩
      · have hd : decide (0 ≤ sc) = false := by simpa using h
        go_wp2_with fail
        go_meet
        exact ⟨_, _, _, rfl, by rw [scaI, if_neg (by omega), List.append_nil]; exact hR, hB⟩
    case rest =>
      clear hR hB hl1 hb0 c8
      obtain ⟨va2, L2, vc2, rfl, hR, hB⟩ := hcut
      have hl1 : L2 ≤ 7 := by rw [← hR.len]; unfold mssI scaI; split <;> split <;> simp
      have hb0 := hB.size
      rw [hsz] at hb0
      have c9 := H9.out _ hB
      go_upto_if 28 with fail
      go_cut [3] (fun v wx => Upto W0 (w.heap.size + 1) (mssI ms ++ scaI sc ++ sokI so) v wx)
      case first =>
        cases so with
        | true =>
          have oR := hR.alloc (.cells ([4, 2].map (Value.int .u8)).toArray 5)
          go_wp2_with (at_builtin; refine wpList_append_own _ rfl (.tmp 29) (.tmp 30) 24 rfl (w.heap.size + 1) 5 i0 (.int .u8 0) 1 1 Tryd.underlying24 hi hz0 hz1 hz2 rfl (by decide) _ L2 _ rfl oR ⟨wc.heap.size, 0, none⟩ 2 2 ([4, 2].map (Value.int .u8)) rfl rfl (cells_new wc ([4, 2].map (Value.int .u8)) 5) (ints_one _ _) (by unfold maxLen; omega) (by omega) (by simp; omega) ?_; intro v1 w1 hown1 hg1 _; have hb1 : Below (w.heap.size + 1) W0 w1 := below_append (hB.alloc hb0 _) (by simp; omega) oR hg1; rw [← List.map_append] at hown1; obtain ⟨a1, c1, rfl, hR1⟩ := row_of hown1)
          go_meet
          exact ⟨_, _, _, rfl, hR1, hb1⟩
        | false =>
          go_wp2_with fail
          go_meet
          exact ⟨_, _, _, rfl, by rw [sokI, if_neg (by decide), List.append_nil]; exact hR, hB⟩
      case rest =>
        clear hR hB hl1 hb0 c9
        obtain ⟨va3, L3, vc3, rfl, hR, hB⟩ := hcut
        have hl1 : L3 ≤ 9 := by rw [← hR.len]; unfold mssI scaI sokI; split <;> split <;> split <;> simp
        have hb0 := hB.size
        rw [hsz] at hb0
        have c10 := H10.out _ hB
        go_upto_if 33 with fail
        go_cut [3] (fun v wx => Upto W0 (w.heap.size + 1) (mssI ms ++ scaI sc ++ sokI so ++ stpI st va ec) v wx)
        case first =>
          cases st with
          | true =>
            have HN : Hid (∀ j u, ([8, 10].map (Value.int .u8))[j]? = some u → (wc.alloc (.cells ([8, 10].map (Value.int .u8)).toArray 5)).drew.cell? ((⟨wc.heap.size, 0, none⟩ : Addr).add j) = some u) := cells_newD wc _ rfl ([8, 10].map (Value.int .u8)) 5
            have oR : Hid (Row (wc.alloc (.cells ([8, 10].map (Value.int .u8)).toArray 5)).drew (w.heap.size + 1) va3 L3 vc3 (mssI ms ++ scaI sc ++ sokI so)) := hR.alloc _
            have HR : Hid (Below (w.heap.size + 1) W0 (wc.alloc (.cells ([8, 10].map (Value.int .u8)).toArray 5)).drew) := (hB.alloc hb0 _).drew
            clear c10 hR
            go_wp2_with fail
            go_region_held3 (fun w' => w'.cell? ⟨w.heap.size, 11, none⟩ = some (.int .u32 va) ∧ w'.cell? ⟨w.heap.size, 12, none⟩ = some (.int .u32 ec) ∧ Below (w.heap.size + 1) W0 w') (first | exact ⟨H11.out _ (by assumption), H12.out _ (by assumption), by assumption⟩ | exact ⟨H11.out _ HR.out, H12.out _ HR.out, HR.out⟩ | exact ⟨H11.out _ hB.drew, H12.out _ hB.drew, hB.drew⟩)
              (first
                | (refine step_append_lies _ rfl (.tmp 34) (.tmp 35) 24 rfl (w.heap.size + 1) 5 i0 (.int .u8 0) 1 1 Tryd.underlying24 hi hz0 hz1 hz2 rfl (by decide) (.slice va3 L3 vc3) L3 _ rfl oR.out ⟨wc.heap.size, 0, none⟩ 2 2 ([8, 10].map (Value.int .u8)) rfl rfl HN.out (ints_one _ _) (by decide) (by unfold maxLen; omega) (by omega) (by simp; omega) _ rfl ?_; intro g1 c1 w1 hown1 hg1 _ _; have hb1 : Below (w.heap.size + 1) W0 w1 := below_append HR.out (by simp; omega) oR.out hg1; rw [← List.map_append] at hown1; have hR1 : Row w1 (w.heap.size + 1) (some ⟨g1, 0, none⟩) (L3 + 2) c1 (mssI ms ++ scaI sc ++ sokI so ++ [8, 10]) := hown1)
                | (go_at_call_of 27 va; refine (refFour_any va _ HVA.out).mono ?_; rintro e w2 ⟨g2, rfl, hF2, hb2'⟩; have hb2 : Below (w.heap.size + 1) W0 w2 := hb1.trans (hb2'.mono (by have := hb1.size; omega)); have hR2 : Row w2 (w.heap.size + 1) (some ⟨g1, 0, none⟩) (L3 + 2) c1 (mssI ms ++ scaI sc ++ sokI so ++ [8, 10]) := hR1.below hb2' (Nat.le_refl _))
                | (refine step_append_lies _ rfl (.tmp 36) (.tmp 39) 24 rfl (w.heap.size + 1) 5 i0 (.int .u8 0) 1 1 Tryd.underlying24 hi hz0 hz1 hz2 rfl (by decide) (.slice (some ⟨g1, 0, none⟩) (L3 + 2) c1) (L3 + 2) _ rfl hR2 ⟨g2, 0, none⟩ 4 4 ((fourI va).map (Value.int .u8)) rfl rfl hF2.news (ints_one _ _) (by decide) (by unfold maxLen; omega) (by omega) (by have := hb2.size; omega) _ rfl ?_; intro g3 c3 w3 hown3 hg3 _ _; have hb3 : Below (w.heap.size + 1) W0 w3 := below_append hb2 (by have := hb2.size; omega) hR2 hg3; rw [← List.map_append] at hown3; have hR3 : Row w3 (w.heap.size + 1) (some ⟨g3, 0, none⟩) (L3 + 2 + 4) c3 (mssI ms ++ scaI sc ++ sokI so ++ [8, 10] ++ fourI va) := hown3)
                | (go_at_call_of 27 ec; refine (refFour_any ec _ HEC.out).mono ?_; rintro e w4 ⟨g4, rfl, hF4, hb4'⟩; have hb4 : Below (w.heap.size + 1) W0 w4 := hb3.trans (hb4'.mono (by have := hb3.size; omega)); have hR4 : Row w4 (w.heap.size + 1) (some ⟨g3, 0, none⟩) (L3 + 2 + 4) c3 (mssI ms ++ scaI sc ++ sokI so ++ [8, 10] ++ fourI va) := hR3.below hb4' (Nat.le_refl _))
                | (refine step_append_lies _ rfl (.tmp 40) (.tmp 43) 24 rfl (w.heap.size + 1) 5 i0 (.int .u8 0) 1 1 Tryd.underlying24 hi hz0 hz1 hz2 rfl (by decide) (.slice (some ⟨g3, 0, none⟩) (L3 + 2 + 4) c3) (L3 + 2 + 4) _ rfl hR4 ⟨g4, 0, none⟩ 4 4 ((fourI ec).map (Value.int .u8)) rfl rfl hF4.news (ints_one _ _) (by decide) (by unfold maxLen; omega) (by omega) (by have := hb4.size; omega) _ rfl ?_; intro g5 c5 w5 hown5 hg5 _ _; have hb5 : Below (w.heap.size + 1) W0 w5 := below_append hb4 (by have := hb4.size; omega) hR4 hg5; rw [← List.map_append] at hown5; have hR5 : Row w5 (w.heap.size + 1) (some ⟨g5, 0, none⟩) (L3 + 2 + 4 + 4) c5 (mssI ms ++ scaI sc ++ sokI so ++ [8, 10] ++ fourI va ++ fourI ec) := hown5))
            go_wp2_with fail
            go_meet
            exact ⟨_, _, _, rfl, by rw [stpI, if_pos rfl, ← List.append_assoc, ← List.append_assoc]; exact hR5, hb5⟩
          | false =>
            go_wp2_with fail
            go_meet
            exact ⟨_, _, _, rfl, by rw [stpI, if_neg (by decide), List.append_nil]; exact hR, hB⟩
        case rest =>
          clear hR hB hl1 hb0 c10
          obtain ⟨va4, L4, vc4, rfl, hR, hB⟩ := hcut
          obtain ⟨P4, hP4⟩ : ∃ P4, mssI ms ++ scaI sc ++ sokI so ++ stpI st va ec = P4 := ⟨_, rfl⟩
          rw [hP4] at hR
          have hl1 : L4 ≤ 19 := by rw [← hR.len, ← hP4]; unfold mssI scaI sokI stpI fourI; split <;> split <;> split <;> split <;> simp
          have HP4 : Hid (mssI ms ++ scaI sc ++ sokI so ++ stpI st va ec = P4) := hP4
          clear hP4
          have hb0 := hB.size
          rw [hsz] at hb0
          have c13 := H13.out _ hB
          go_upto_if 48 with fail
          go_cut [3] (fun v wx => Upto W0 (w.heap.size + 1) (P4 ++ sksI sk) v wx)
          case first =>
            by_cases h : n = 0
            · have hsk : sk = [] := List.eq_nil_of_length_eq_zero (by have := HN0.out; omega)
              have HSK : Hid (sksI sk = []) := by unfold Hid; rw [hsk]; rfl
              subst h
              clear hsk
              go_wp2_with fail
              go_meet
              exact ⟨_, _, _, rfl, by rw [HSK.out, List.append_nil]; exact hR, hB⟩
            · have oR := hR.alloc (.cells ([5, (2 + 8 * (n : Int)) % 256].map (Value.int .u8)).toArray 5)
              have hp : (0 : Int) < (n : Int) := by omega
              have HSK : Hid (sksI sk = [5, (2 + 8 * (n : Int)) % 256] ++ blksI sk) := by
                unfold Hid sksI
                rw [if_neg (fun e => h (by rw [← HN0.out, e]; rfl)), HN0.out]
              go_wp2_with (at_builtin; refine wpList_append_own _ rfl (.tmp 49) (.tmp 56) 24 rfl (w.heap.size + 1) 5 i0 (.int .u8 0) 1 1 Tryd.underlying24 hi hz0 hz1 hz2 rfl (by decide) _ L4 _ rfl oR ⟨wc.heap.size, 0, none⟩ 2 2 ([5, (2 + 8 * (n : Int)) % 256].map (Value.int .u8)) rfl rfl (cells_new wc ([5, (2 + 8 * (n : Int)) % 256].map (Value.int .u8)) 5) (ints_one _ _) (by unfold maxLen; omega) (by omega) (by simp; omega) ?_; intro v1 w1 hown1 hg1 _; have hb1 : Below (w.heap.size + 1) W0 w1 := below_append (hB.alloc hb0 _) (by simp; omega) oR hg1; rw [← List.map_append] at hown1; obtain ⟨a1, c1, rfl, hR1⟩ := row_of hown1)
              obtain ⟨P5, hP5⟩ : ∃ P5, P4 ++ [5, (2 + 8 * (n : Int)) % 256] = P5 := ⟨_, rfl⟩
              rw [hP5] at hR1
              have hl5 : P5.length ≤ 21 := by rw [← hP5, List.length_append, hR.len]; simp; omega
              have HP5 : Hid (P4 ++ [5, (2 + 8 * (n : Int)) % 256] = P5) := hP5
              have HR1 : Hid (Row w1 (w.heap.size + 1) a1 (L4 + 2) c1 P5) := hR1
              have HB1 : Hid (Below (w.heap.size + 1) W0 w1) := hb1
              clear hP5 hR hB hb0 c13 oR hR1 hb1 hg1 hown1 hl1
              go_loopw [3, 4] (fun v vi wr => ∃ (i : Nat), vi = .int .i64 i ∧ i ≤ n ∧ Upto W0 (w.heap.size + 1) (P5 ++ blksI (sk.take i)) v wr)
                (fun _ vi _ => n - (intOf vi).toNat)
              case atStart => exact ⟨0, rfl, Nat.zero_le _, _, _, _, rfl, by simpa [blksI] using HR1.out, HB1.out⟩
              case round =>
                clear HR1 HB1
                obtain ⟨i, rfl, hin, va6, L6, vc6, rfl, hR6, hB6⟩ := hrel
                have hl6 : L6 ≤ 9000 := by
                  rw [← hR6.len, List.length_append, blks_len, List.length_take]
                  have := HN0.out; omega
                have hb6 := hB6.size
                rw [hsz] at hb6
                have c13 := H13.out _ hB6
                by_cases hlt : i < n
                · have hi' : i < sk.length := by have := HN0.out; omega
                  obtain ⟨kb, ko, rfl, hc0, hc1⟩ := HK.out.2.2 i hi'
                  have hu := HK.out.2.1 (sk[i]?.getD (0, 0)) (by simp [hi'])
                  obtain ⟨f, hf⟩ : ∃ f, (sk[i]?.getD (0, 0)).1 = f := ⟨_, rfl⟩
                  obtain ⟨t, ht⟩ : ∃ t, (sk[i]?.getD (0, 0)).2 = t := ⟨_, rfl⟩
                  have hbt := blks_take hi'
                  rw [hf] at hc0 hu hbt
                  rw [ht] at hc1 hu hbt
                  have Hbt : Hid (blksI (sk.take (i + 1)) = blksI (sk.take i) ++ (fourI f ++ fourI t)) := hbt
                  have HF : Hid (∀ W, Below (w.heap.size + 1) W0 W → W.cell? ⟨kb, ko + i * 2, none⟩ = some (.int .u32 f)) := fun W hW => (hW.cell (p := ⟨kb, ko + i * 2, none⟩) (by have := lt_of_cell hc0; rw [hsz] at this; exact this)).trans hc0
                  have HG : Hid (∀ W, Below (w.heap.size + 1) W0 W → W.cell? ⟨kb, ko + i * 2 + 1, none⟩ = some (.int .u32 t)) := fun W hW => (hW.cell (p := ⟨kb, ko + i * 2 + 1, none⟩) (by have := lt_of_cell hc1; rw [hsz] at this; exact this)).trans hc1
                  have HU : Hid (U32 f ∧ U32 t) := hu
                  have OR6 : Hid (Row wr.drew (w.heap.size + 1) va6 L6 vc6 (P5 ++ blksI (sk.take i))) := hR6
                  have hB6' : Below (w.heap.size + 1) W0 wr.drew := hB6.drew
                  have hlt' : (i : Int) < (n : Int) := by omega
                  clear hc0 hc1 hf ht hbt hu hi' hR6
                  go_upto_region 15 with fail
                  clear c13
                  go_region_held3 (fun w' => w'.cell? ⟨w.heap.size, 13, none⟩ = some (.slice (some ⟨kb, ko, none⟩) n kc) ∧ w'.cell? ⟨kb, ko + i * 2, none⟩ = some (.int .u32 f) ∧ w'.cell? ⟨kb, ko + i * 2 + 1, none⟩ = some (.int .u32 t) ∧ Below (w.heap.size + 1) W0 w') (first | exact ⟨H13.out _ (by assumption), HF.out _ (by assumption), HG.out _ (by assumption), by assumption⟩ | exact ⟨H13.out _ hB6', HF.out _ hB6', HG.out _ hB6', hB6'⟩)
                    (first
                      | (go_at_call_of 27 f; refine (refFour_any f _ HU.out.1).mono ?_; rintro e w2 ⟨g2, rfl, hF2, hb2'⟩; have hb2 : Below (w.heap.size + 1) W0 w2 := hB6'.trans (hb2'.mono (by have := hB6'.size; omega)); have hR2 : Row w2 (w.heap.size + 1) va6 L6 vc6 (P5 ++ blksI (sk.take i)) := OR6.out.below hb2' (Nat.le_refl _))
                      | (refine step_append_lies _ rfl (.tmp 65) (.tmp 72) 24 rfl (w.heap.size + 1) 5 i0 (.int .u8 0) 1 1 Tryd.underlying24 hi hz0 hz1 hz2 rfl (by decide) (.slice va6 L6 vc6) (L6) _ rfl hR2 ⟨g2, 0, none⟩ 4 4 ((fourI f).map (Value.int .u8)) rfl rfl hF2.news (ints_one _ _) (by decide) (by unfold maxLen; omega) (by omega) (by have := hb2.size; omega) _ rfl ?_; intro g3 c3 w3 hown3 hg3 _ _; have hb3 : Below (w.heap.size + 1) W0 w3 := below_append hb2 (by have := hb2.size; omega) hR2 hg3; rw [← List.map_append] at hown3; have hR3 : Row w3 (w.heap.size + 1) (some ⟨g3, 0, none⟩) (L6 + 4) c3 (P5 ++ blksI (sk.take i) ++ fourI f) := hown3)
                      | (go_at_call_of 27 t; refine (refFour_any t _ HU.out.2).mono ?_; rintro e w4 ⟨g4, rfl, hF4, hb4'⟩; have hb4 : Below (w.heap.size + 1) W0 w4 := hb3.trans (hb4'.mono (by have := hb3.size; omega)); have hR4 : Row w4 (w.heap.size + 1) (some ⟨g3, 0, none⟩) (L6 + 4) c3 (P5 ++ blksI (sk.take i) ++ fourI f) := hR3.below hb4' (Nat.le_refl _))
                      | (refine step_append_lies _ rfl (.tmp 73) (.tmp 80) 24 rfl (w.heap.size + 1) 5 i0 (.int .u8 0) 1 1 Tryd.underlying24 hi hz0 hz1 hz2 rfl (by decide) (.slice (some ⟨g3, 0, none⟩) (L6 + 4) c3) (L6 + 4) _ rfl hR4 ⟨g4, 0, none⟩ 4 4 ((fourI t).map (Value.int .u8)) rfl rfl hF4.news (ints_one _ _) (by decide) (by unfold maxLen; omega) (by omega) (by have := hb4.size; omega) _ rfl ?_; intro g5 c5 w5 hown5 hg5 _ _; have hb5 : Below (w.heap.size + 1) W0 w5 := below_append hb4 (by have := hb4.size; omega) hR4 hg5; rw [← List.map_append] at hown5; have hR5 : Row w5 (w.heap.size + 1) (some ⟨g5, 0, none⟩) (L6 + 4 + 4) c5 (P5 ++ blksI (sk.take i) ++ fourI f ++ fourI t) := hown5))
                  go_wp2_with fail
                  go_roundw
                  case rel => exact ⟨i + 1, by go_num, by omega, _, _, _, rfl, by rw [Hbt.out, ← List.append_assoc, ← List.append_assoc]; exact hR5, hb5⟩
                  case measure => simp [intOf]; omega
                · obtain rfl : i = n := by omega
                  have e1 : sk.take i = sk := by rw [← HN0.out]; exact List.take_length
                  rw [e1] at hR6
                  clear e1
                  go_wp2_with fail
                  go_meet
                  exact ⟨_, _, _, rfl, by rw [HSK.out, ← List.append_assoc, HP5.out]; exact hR6, hB6⟩
          case rest =>
            clear hR hB hl1 hb0 c13
            obtain ⟨va6, L6, vc6, rfl, hR6, hB6⟩ := hcut
            have hl6 : L6 ≤ 9000 := by
              rw [← hR6.len, List.length_append]
              have h1 : P4.length ≤ 19 := by rw [← HP4.out]; unfold mssI scaI sokI stpI fourI; split <;> split <;> split <;> split <;> simp
              have h2 : (sksI sk).length ≤ 2 + 8 * n := by
                unfold sksI; split
                · simp
                · rw [List.length_append, blks_len, HN0.out]; simp
              omega
            have hraw : P4 ++ sksI sk = rawI ⟨sp, dp, sq, ak, fl, wn, ur, ms, sc, so, st, va, ec, sk, dat⟩ := by rw [← HP4.out]; rfl
            rw [hraw] at hR6
            obtain ⟨R, hRR⟩ : ∃ R, rawI ⟨sp, dp, sq, ak, fl, wn, ur, ms, sc, so, st, va, ec, sk, dat⟩ = R := ⟨_, rfl⟩
            rw [hRR] at hR6
            have HRR : Hid (rawI ⟨sp, dp, sq, ak, fl, wn, ur, ms, sc, so, st, va, ec, sk, dat⟩ = R) := hRR
            clear hRR hraw
            have hRl : R.length ≤ 9000 := by rw [hR6.len]; exact hl6
            go_wp2_with fail
            go_loopw [3] (fun v wr2 => ∃ (k : Nat) (va7 : Option Addr) (L7 vc7 : Nat), v = .slice va7 L7 vc7 ∧ k ≤ (4 - R.length % 4) % 4 ∧ L7 = R.length + k ∧ Hid (Row wr2 (w.heap.size + 1) va7 L7 vc7 (R ++ List.replicate k 0)) ∧ Below (w.heap.size + 1) W0 wr2)
              (fun v _ => R.length + 4 - lenOf v)
            case atStart => exact ⟨0, va6, L6, vc6, rfl, Nat.zero_le _, by rw [hR6.len]; rfl, by rw [List.replicate_zero, List.append_nil]; exact hR6, hB6⟩
            case round =>
              obtain ⟨k, va7, L7, vc7, rfl, hk, hL7, hR7, hB7⟩ := hrel
              have hb7 := hB7.size
              rw [hsz] at hb7
              have HL7 : Hid (L7 = R.length + k) := hL7
              have hl7 : L7 ≤ 9010 := by omega
              by_cases hm : L7 % 4 = 0
              · have hm' : ((L7 : Int).tmod 4 != 0) = false := by
                  rw [Int.tmod_eq_emod_of_nonneg (by omega)]; simp; omega
                clear hL7
                go_wp2_with fail
                go_ret
                have hke : k = (4 - R.length % 4) % 4 := by have := HL7.out; omega
                have ho : optI ⟨sp, dp, sq, ak, fl, wn, ur, ms, sc, so, st, va, ec, sk, dat⟩ = R ++ List.replicate k 0 := by
                  rw [optI, HRR.out, padI, hke]
                have hol : (R ++ List.replicate k (0 : Int)).length = L7 := hR7.out.len
                rw [ho, hol]
                exact ⟨_, _, rfl, hR7.out.mono (by omega), HE.out.trans (hB7.mono (by omega))⟩
              · have hm' : ((L7 : Int).tmod 4 != 0) = true := by
                  rw [Int.tmod_eq_emod_of_nonneg (by omega)]; simp; omega
                have oR := hR7.out.alloc (.cells ([0].map (Value.int .u8)).toArray 5)
                clear hL7
                go_wp2_with (at_builtin; refine wpList_append_own _ rfl (.tmp 86) (.tmp 87) 24 rfl (w.heap.size + 1) 5 i0 (.int .u8 0) 1 1 Tryd.underlying24 hi hz0 hz1 hz2 rfl (by decide) _ L7 _ rfl oR ⟨wr.heap.size, 0, none⟩ 1 1 ([0].map (Value.int .u8)) rfl rfl (cells_new wr ([0].map (Value.int .u8)) 5) (ints_one _ _) (by unfold maxLen; omega) (by omega) (by simp; omega) ?_; intro v1 w1 hown1 hg1 _; have hb1 : Below (w.heap.size + 1) W0 w1 := below_append (hB7.alloc hb7 _) (by simp; omega) oR hg1; rw [← List.map_append] at hown1; obtain ⟨a1, c1, rfl, hR1⟩ := row_of hown1)
                go_roundw
                case rel => exact ⟨k + 1, _, _, _, rfl, by have := HL7.out; omega, by have := HL7.out; omega, by rw [List.replicate_succ', ← List.append_assoc]; exact hR1, hb1⟩
                case measure => simp [lenOf]; have := HL7.out; omega
end Go.Proofs.YtllmeeebjjmanaaDoor
