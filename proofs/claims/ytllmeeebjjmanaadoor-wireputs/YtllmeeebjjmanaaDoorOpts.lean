/- The contract of wire.Options. -/
import Derived.Test.YtllmeeebjjmanaaDoorSegV
namespace Go.Proofs.YtllmeeebjjmanaaDoor
open Go.ChangeShapes Go.WideShapes Go.ChangeAt Go.RowKit Go.Shelf
set_option linter.unusedVariables false

/-- Behind an append to nil. -/
theorem below_nil {B : Nat} {w wa w' : World} (hB : Below B w wa) (hs : B ≤ wa.heap.size) (hg : wa.grownBy w' (Value.slice none 0 0).ownBlock) : Below B w w' :=
  hB.grown hg hs (fun k hk => by simp [Value.ownBlock] at hk)

theorem pair_cells {w : World} {k : Nat} {a b : Value} {t : TypeId} (h : w.heap[k]? = some (.cells #[a, b] t)) : w.cell? ⟨k, 0, none⟩ = some a ∧ w.cell? ⟨k, 1, none⟩ = some b := by
  simp [World.cell?, h]

theorem Row.own_lt {w : World} {B : Nat} {va : Option Addr} {L vc : Nat} {bs : List Int} (h : Row w B va L vc bs) {k : Nat} (hk : w.heap.size ≤ k) : (Value.slice va L vc).ownBlock ≠ some k := by
  rcases h.2 with ⟨e, _⟩ | ⟨g, c, cur, e, _, hh, _⟩
  · cases e; simp [Value.ownBlock]
  · cases e
    have := (Array.getElem?_eq_some_iff.1 hh).1
    simp [Value.ownBlock]; omega

/-- A slice's length, in a slot. -/
def lenOf : Value → Nat | .slice _ n _ => n | _ => 0

theorem blks_take {l : List (Int × Int)} {i : Nat} (h : i < l.length) : blksI (l.take (i + 1)) = blksI (l.take i) ++ (fourI (l[i]?.getD (0, 0)).1 ++ fourI (l[i]?.getD (0, 0)).2) := by
  have : l.take (i + 1) = l.take i ++ [l[i]?.getD (0, 0)] := by
    rw [List.take_add_one]; simp [h]
  rw [this]
  simp [blksI, blkI]

set_option maxRecDepth 100000 in
set_option maxHeartbeats 4000000 in
theorem options_any (s : Seg) (ka : Option Addr) (kc : Nat) (da : Option Addr) (dc : Nat) (w : World) (hs : SegIn w s ka da) (hk : s.sk.length ≤ 1000) :
    Calls Tryd.prog 15 #[.agg (segV s ka kc da dc)] w fun e w' => ∃ va vc, e = .returned (.slice va (optI s).length vc) ∧ Row w' w.heap.size va (optI s).length vc (optI s) ∧ Below w.heap.size w w' := by
  obtain ⟨sp, dp, sq, ak, fl, wn, ur, ms, sc, so, st, va, ec, sk, dat⟩ := s
  obtain ⟨i0, hi, hz0, hz1, hz2⟩ := info_parts Tryd.info5
  obtain ⟨W0, hW0⟩ : ∃ W0, w.alloc (.cells (segV ⟨sp, dp, sq, ak, fl, wn, ur, ms, sc, so, st, va, ec, sk, dat⟩ ka kc da dc) 26) = W0 := ⟨_, rfl⟩
  have HB := box_cell w (segV ⟨sp, dp, sq, ak, fl, wn, ur, ms, sc, so, st, va, ec, sk, dat⟩ ka kc da dc) 26
  rw [hW0] at HB
  have hsz : W0.heap.size = w.heap.size + 1 := by rw [← hW0]; simp
  obtain ⟨n, hn⟩ : ∃ n, sk.length = n := ⟨_, rfl⟩
  have hn1 : n ≤ 1000 := by rw [← hn]; exact hk
  have HN0 : Hid (sk.length = n) := hn
  have H7 : Hid (∀ wr, Below (w.heap.size + 1) W0 wr → wr.cell? ⟨w.heap.size, 7, none⟩ = some (.int .i64 ms)) := fun wr h => HB wr h 7
  have H8 : Hid (∀ wr, Below (w.heap.size + 1) W0 wr → wr.cell? ⟨w.heap.size, 8, none⟩ = some (.int .i64 sc)) := fun wr h => HB wr h 8
  have H9 : Hid (∀ wr, Below (w.heap.size + 1) W0 wr → wr.cell? ⟨w.heap.size, 9, none⟩ = some (.bool so)) := fun wr h => HB wr h 9
  have H10 : Hid (∀ wr, Below (w.heap.size + 1) W0 wr → wr.cell? ⟨w.heap.size, 10, none⟩ = some (.bool st)) := fun wr h => HB wr h 10
  have H11 : Hid (∀ wr, Below (w.heap.size + 1) W0 wr → wr.cell? ⟨w.heap.size, 11, none⟩ = some (.int .u32 va)) := fun wr h => HB wr h 11
  have H12 : Hid (∀ wr, Below (w.heap.size + 1) W0 wr → wr.cell? ⟨w.heap.size, 12, none⟩ = some (.int .u32 ec)) := fun wr h => HB wr h 12
  have H13 : Hid (∀ wr, Below (w.heap.size + 1) W0 wr → wr.cell? ⟨w.heap.size, 13, none⟩ = some (.slice ka n kc)) := fun wr h => by rw [← hn]; exact HB wr h 13
  have hE : Below w.heap.size w W0 := by rw [← hW0]; exact (Below.refl _ w).alloc (Nat.le_refl _) _
  have HE : Hid (Below w.heap.size w W0) := hE
  have HK : Hid (BlksAt W0 ka sk) := by
    refine hs.ks.below hE (Nat.le_refl _)
  have hms : -9223372036854775808 ≤ ms ∧ ms ≤ 9223372036854775807 := hs.i7
  have hsc : -9223372036854775808 ≤ sc ∧ sc ≤ 9223372036854775807 := hs.i8
  have hva : U32 va := hs.ok.va
  have hec : U32 ec := hs.ok.ec
  have HVA : Hid (U32 va) := hva
  have HEC : Hid (U32 ec) := hec
  have c7 := H7.out W0 (Below.refl _ _)
  unfold segV at *
  dsimp only at *
  rw [hn] at hW0 ⊢
  clear HB hs hk hE hva hec hn
  go_enter Tryd.func15, Tryd.ntmps15
  go_upto_if 8 with fail
  clear hW0
  go_cut [3] (fun v wx => Upto W0 (w.heap.size + 1) (mssI ms) v wx)
  case first =>
    by_cases h : 0 ≤ ms
    · have hnew := cells_newD W0 (w.heap.size + 1) hsz ([2, 4].map (Value.int .u8)) 5
      have HN : Hid (∀ j u, ([2, 4].map (Value.int .u8))[j]? = some u → (W0.alloc (.cells ([2, 4].map (Value.int .u8)).toArray 5)).drew.cell? ((⟨w.heap.size + 1, 0, none⟩ : Addr).add j) = some u) := hnew
      clear hnew
      go_wp2_with fail
      go_region_held3 (fun w' => w'.cell? ⟨w.heap.size, 7, none⟩ = some (.int .i64 ms) ∧ Below (w.heap.size + 1) W0 w') (first | exact ⟨H7.out _ (by assumption), by assumption⟩ | (refine ⟨H7.out _ ?_, ?_⟩ <;> (repeat (first | with_reducible refine Below.drew ?_ | with_reducible exact Below.refl _ _ | (with_reducible refine Below.alloc ?_ ?_ _))) <;> simp [hsz]))
        (first
          | (refine step_append_lies _ rfl (.tmp 9) (.tmp 10) 24 rfl (w.heap.size + 1) 5 i0 (.int .u8 0) 1 1 Tryd.underlying24 hi hz0 hz1 hz2 rfl (by decide) (.slice none 0 0) 0 [] rfl (World.ownsRow_nil _ _ _ _) ⟨w.heap.size + 1, 0, none⟩ 2 2 ([2, 4].map (Value.int .u8)) rfl rfl HN.out (ints_one _ _) (by decide) (by decide) (by decide) (by simp [hsz]) _ rfl ?_; intro g1 c1 w1 hown1 hg1 _ _; have hb1 : Below (w.heap.size + 1) W0 w1 := below_nil (((Below.refl _ W0).alloc (by omega) _).drew) (by simp [hsz]) hg1; have hR1 : Row w1 (w.heap.size + 1) (some ⟨g1, 0, none⟩) 2 c1 [2, 4] := hown1)
          | (go_at_call 22; refine (appWord _ (w.heap.size + 1) _ _ _ _ _ hR1 (by have := hb1.size; omega) (by decide) hms).mono ?_; rintro e w2 ⟨a2, c2, rfl, hR2, hb2, _⟩; have hb3 := hb1.trans hb2))
      go_wp2_with fail
      go_meet
      exact ⟨_, _, _, rfl, by rw [mssI, if_pos (by omega)]; exact hR2, hb3⟩
    · have hd : decide (0 ≤ ms) = false := by simpa using h
      go_wp2_with fail
      go_meet
      exact ⟨none, 0, 0, rfl, by rw [mssI, if_neg (by omega)]; exact Row.nil _ _, Below.refl _ _⟩
  case rest =>
    obtain ⟨va1, L1, vc1, rfl, hR, hB⟩ := hcut
    have hl1 : L1 ≤ 4 := by rw [← hR.len]; unfold mssI; split <;> simp
    have hb0 := hB.size
    rw [hsz] at hb0
    clear c7
    have c8 := H8.out _ hB
    go_upto_if 17 with fail
    go_cut [3] (fun v wx => Upto W0 (w.heap.size + 1) (mssI ms ++ scaI sc) v wx)
    case first =>
      by_cases h : 0 ≤ sc
      · have oR := hR.alloc (.cells ([3, 3, sc % 256].map (Value.int .u8)).toArray 5)
        go_wp2_with (at_builtin; refine wpList_append_own _ rfl (.tmp 18) (.tmp 22) 24 rfl (w.heap.size + 1) 5 i0 (.int .u8 0) 1 1 Tryd.underlying24 hi hz0 hz1 hz2 rfl (by decide) _ L1 _ rfl oR ⟨wc.heap.size, 0, none⟩ 3 3 ([3, 3, sc % 256].map (Value.int .u8)) rfl rfl (cells_new wc ([3, 3, sc % 256].map (Value.int .u8)) 5) (ints_one _ _) (by unfold maxLen; omega) (by omega) (by simp; omega) ?_; intro v1 w1 hown1 hg1 _; have hb1 : Below (w.heap.size + 1) W0 w1 := below_append (hB.alloc hb0 _) (by simp; omega) oR hg1; rw [← List.map_append] at hown1; obtain ⟨a1, c1, rfl, hR1⟩ := row_of hown1)
        go_meet
        exact ⟨_, _, _, rfl, by rw [scaI, if_pos (by omega)]; exact hR1, hb1⟩
      · have hd : decide (0 ≤ sc) = false := by simpa using h
        go_wp2_with fail
        go_meet
        exact ⟨_, _, _, rfl, by rw [scaI, if_neg (by omega), List.append_nil]; exact hR, hB⟩
    case rest =>
      clear hR hB hl1 hb0 c8
      obtain ⟨va2, L2, vc2, rfl, hR, hB⟩ := hcut
      have hl1 : L2 ≤ 7 := by rw [← hR.len]; unfold mssI scaI; split <;> split <;> simp
      have hb0 := hB.size
      rw [hsz] at hb0
      have c9 := H9.out _ hB
      go_upto_if 25 with fail
      go_cut [3] (fun v wx => Upto W0 (w.heap.size + 1) (mssI ms ++ scaI sc ++ sokI so) v wx)
      case first =>
        cases so with
        | true =>
          have oR := hR.alloc (.cells ([4, 2].map (Value.int .u8)).toArray 5)
          go_wp2_with (at_builtin; refine wpList_append_own _ rfl (.tmp 26) (.tmp 27) 24 rfl (w.heap.size + 1) 5 i0 (.int .u8 0) 1 1 Tryd.underlying24 hi hz0 hz1 hz2 rfl (by decide) _ L2 _ rfl oR ⟨wc.heap.size, 0, none⟩ 2 2 ([4, 2].map (Value.int .u8)) rfl rfl (cells_new wc ([4, 2].map (Value.int .u8)) 5) (ints_one _ _) (by unfold maxLen; omega) (by omega) (by simp; omega) ?_; intro v1 w1 hown1 hg1 _; have hb1 : Below (w.heap.size + 1) W0 w1 := below_append (hB.alloc hb0 _) (by simp; omega) oR hg1; rw [← List.map_append] at hown1; obtain ⟨a1, c1, rfl, hR1⟩ := row_of hown1)
          go_meet
          exact ⟨_, _, _, rfl, hR1, hb1⟩
        | false =>
          go_wp2_with fail
          go_meet
          exact ⟨_, _, _, rfl, by rw [sokI, if_neg (by decide), List.append_nil]; exact hR, hB⟩
      case rest =>
        clear hR hB hl1 hb0 c9
        obtain ⟨va3, L3, vc3, rfl, hR, hB⟩ := hcut
        have hl1 : L3 ≤ 9 := by rw [← hR.len]; unfold mssI scaI sokI; split <;> split <;> split <;> simp
        have hb0 := hB.size
        rw [hsz] at hb0
        have c10 := H10.out _ hB
        go_upto_if 30 with fail
        go_cut [3] (fun v wx => Upto W0 (w.heap.size + 1) (mssI ms ++ scaI sc ++ sokI so ++ stpI st va ec) v wx)
        case first =>
          cases st with
          | true =>
            have HN : Hid (∀ j u, ([8, 10].map (Value.int .u8))[j]? = some u → (wc.alloc (.cells ([8, 10].map (Value.int .u8)).toArray 5)).drew.cell? ((⟨wc.heap.size, 0, none⟩ : Addr).add j) = some u) := cells_newD wc _ rfl ([8, 10].map (Value.int .u8)) 5
            have oR : Hid (Row (wc.alloc (.cells ([8, 10].map (Value.int .u8)).toArray 5)).drew (w.heap.size + 1) va3 L3 vc3 (mssI ms ++ scaI sc ++ sokI so)) := hR.alloc _
            have HR : Hid (Below (w.heap.size + 1) W0 (wc.alloc (.cells ([8, 10].map (Value.int .u8)).toArray 5)).drew) := (hB.alloc hb0 _).drew
            clear c10 hR
            go_wp2_with fail
            go_region_held3 (fun w' => w'.cell? ⟨w.heap.size, 11, none⟩ = some (.int .u32 va) ∧ w'.cell? ⟨w.heap.size, 12, none⟩ = some (.int .u32 ec) ∧ Below (w.heap.size + 1) W0 w') (first | exact ⟨H11.out _ (by assumption), H12.out _ (by assumption), by assumption⟩ | exact ⟨H11.out _ HR.out, H12.out _ HR.out, HR.out⟩ | exact ⟨H11.out _ hB.drew, H12.out _ hB.drew, hB.drew⟩)
              (first
                | (refine step_append_lies _ rfl (.tmp 31) (.tmp 32) 24 rfl (w.heap.size + 1) 5 i0 (.int .u8 0) 1 1 Tryd.underlying24 hi hz0 hz1 hz2 rfl (by decide) (.slice va3 L3 vc3) L3 _ rfl oR.out ⟨wc.heap.size, 0, none⟩ 2 2 ([8, 10].map (Value.int .u8)) rfl rfl HN.out (ints_one _ _) (by decide) (by unfold maxLen; omega) (by omega) (by simp; omega) _ rfl ?_; intro g1 c1 w1 hown1 hg1 _ _; have hb1 : Below (w.heap.size + 1) W0 w1 := below_append HR.out (by simp; omega) oR.out hg1; rw [← List.map_append] at hown1; have hR1 : Row w1 (w.heap.size + 1) (some ⟨g1, 0, none⟩) (L3 + 2) c1 (mssI ms ++ scaI sc ++ sokI so ++ [8, 10]) := hown1)
                | (go_at_call_of 23 va; refine (appLong _ (w.heap.size + 1) _ _ _ _ _ hR1 (by have := hb1.size; omega) (by omega) HVA.out).mono ?_; rintro e w2 ⟨a2, c2, rfl, hR2, hb2', _⟩; have hb2 := hb1.trans hb2')
                | (go_at_call_of 23 ec; refine (appLong _ (w.heap.size + 1) _ _ _ _ _ hR2 (by have := hb2.size; omega) (by omega) HEC.out).mono ?_; rintro e w3 ⟨a3, c3, rfl, hR3, hb3', _⟩; have hb3 := hb2.trans hb3'))
            go_wp2_with fail
            go_meet
            exact ⟨_, _, _, rfl, by rw [stpI, if_pos rfl, ← List.append_assoc, ← List.append_assoc]; exact hR3, hb3⟩
          | false =>
            go_wp2_with fail
            go_meet
            exact ⟨_, _, _, rfl, by rw [stpI, if_neg (by decide), List.append_nil]; exact hR, hB⟩
        case rest =>
          clear hR hB hl1 hb0 c10
          obtain ⟨va4, L4, vc4, rfl, hR, hB⟩ := hcut
          obtain ⟨P4, hP4⟩ : ∃ P4, mssI ms ++ scaI sc ++ sokI so ++ stpI st va ec = P4 := ⟨_, rfl⟩
          rw [hP4] at hR
          have hl1 : L4 ≤ 19 := by rw [← hR.len, ← hP4]; unfold mssI scaI sokI stpI fourI; split <;> split <;> split <;> split <;> simp
          have HP4 : Hid (mssI ms ++ scaI sc ++ sokI so ++ stpI st va ec = P4) := hP4
          clear hP4
          have hb0 := hB.size
          rw [hsz] at hb0
          have c13 := H13.out _ hB
          go_upto_if 43 with fail
          go_cut [3] (fun v wx => Upto W0 (w.heap.size + 1) (P4 ++ (if n = 0 then [] else [5, (2 + 8 * (n : Int)) % 256])) v wx)
          case first =>
            by_cases h : n = 0
            · subst h
              go_wp2_with fail
              go_meet
              exact ⟨_, _, _, rfl, by simpa using hR, hB⟩
            · have oR := hR.alloc (.cells ([5, (2 + 8 * (n : Int)) % 256].map (Value.int .u8)).toArray 5)
              have hp : (0 : Int) < (n : Int) := by omega
              go_wp2_with (at_builtin; refine wpList_append_own _ rfl (.tmp 44) (.tmp 51) 24 rfl (w.heap.size + 1) 5 i0 (.int .u8 0) 1 1 Tryd.underlying24 hi hz0 hz1 hz2 rfl (by decide) _ L4 _ rfl oR ⟨wc.heap.size, 0, none⟩ 2 2 ([5, (2 + 8 * (n : Int)) % 256].map (Value.int .u8)) rfl rfl (cells_new wc ([5, (2 + 8 * (n : Int)) % 256].map (Value.int .u8)) 5) (ints_one _ _) (by unfold maxLen; omega) (by omega) (by simp; omega) ?_; intro v1 w1 hown1 hg1 _; have hb1 : Below (w.heap.size + 1) W0 w1 := below_append (hB.alloc hb0 _) (by simp; omega) oR hg1; rw [← List.map_append] at hown1; obtain ⟨a1, c1, rfl, hR1⟩ := row_of hown1)
              go_meet
              exact ⟨_, _, _, rfl, by rw [if_neg h]; exact hR1, hb1⟩
          case rest =>
            clear hR hB hl1 hb0 c13
            obtain ⟨va5, L5, vc5, rfl, hR, hB⟩ := hcut
            obtain ⟨P5, hP5⟩ : ∃ P5, P4 ++ (if n = 0 then [] else [5, (2 + 8 * (n : Int)) % 256]) = P5 := ⟨_, rfl⟩
            have hl4 : P4.length ≤ 19 := by rw [← HP4.out]; unfold mssI scaI sokI stpI fourI; split <;> split <;> split <;> split <;> simp
            rw [hP5] at hR
            have hl5 : P5.length ≤ 21 := by rw [← hP5, List.length_append]; split <;> simp <;> omega
            have HP5 : Hid (P4 ++ (if n = 0 then [] else [5, (2 + 8 * (n : Int)) % 256]) = P5) := hP5
            have hl1 : L5 ≤ 21 := by rw [← hR.len]; exact hl5
            clear hP5 hl4
            have hb0 := hB.size
            rw [hsz] at hb0
            have c13 := H13.out _ hB
            go_wp2_with fail
            go_loopw [3, 56] (fun v vi wr => ∃ (i : Nat), vi = .int .i64 i ∧ i ≤ n ∧ Upto W0 (w.heap.size + 1) (P5 ++ blksI (sk.take i)) v wr)
              (fun _ vi _ => n - (intOf vi).toNat)
            case atStart => exact ⟨0, rfl, Nat.zero_le _, _, _, _, rfl, by simpa [blksI] using hR, hB⟩
            case round =>
              obtain ⟨i, rfl, hin, va6, L6, vc6, rfl, hR6, hB6⟩ := hrel
              have hl6 : L6 ≤ 9000 := by
                rw [← hR6.len, List.length_append, blks_len, List.length_take]
                have := HN0.out; omega
              have hb6 := hB6.size
              rw [hsz] at hb6
              clear hR hB hb0 c13
              by_cases hlt : i < n
              · have hi' : i < sk.length := by have := HN0.out; omega
                obtain ⟨kb, ko, rfl, hc0, hc1⟩ := HK.out.2.2 i hi'
                have hu := HK.out.2.1 (sk[i]?.getD (0, 0)) (by simp [hi'])
                obtain ⟨f, hf⟩ : ∃ f, (sk[i]?.getD (0, 0)).1 = f := ⟨_, rfl⟩
                obtain ⟨t, ht⟩ : ∃ t, (sk[i]?.getD (0, 0)).2 = t := ⟨_, rfl⟩
                have hbt := blks_take hi'
                rw [hf] at hc0 hu hbt
                rw [ht] at hc1 hu hbt
                have Hbt : Hid (blksI (sk.take (i + 1)) = blksI (sk.take i) ++ (fourI f ++ fourI t)) := hbt
                have hd0 : wr.cell? ⟨kb, ko + i * 2, none⟩ = some (.int .u32 f) := (hB6.cell (p := ⟨kb, ko + i * 2, none⟩) (by have := lt_of_cell hc0; rw [hsz] at this; exact this)).trans hc0
                have hd1 : wr.cell? ⟨kb, ko + i * 2 + 1, none⟩ = some (.int .u32 t) := (hB6.cell (p := ⟨kb, ko + i * 2 + 1, none⟩) (by have := lt_of_cell hc1; rw [hsz] at this; exact this)).trans hc1
                have HU : Hid (U32 f ∧ U32 t) := hu
                clear hc0 hc1 hf ht hbt hu hi'
                have HW6 : Hid (Below (w.heap.size + 1) W0 (wr.alloc (.cells #[.int .u32 f, .int .u32 t] 63)).drew) := (hB6.alloc hb6 _).drew
                have OR6 : Hid (Row (wr.alloc (.cells #[.int .u32 f, .int .u32 t] 63)).drew (w.heap.size + 1) va6 L6 vc6 (P5 ++ blksI (sk.take i))) := hR6.alloc _
                have HO6 : Hid ((Value.slice va6 L6 vc6).ownBlock ≠ some wr.heap.size) := hR6.own_lt (Nat.le_refl _)
                have hq0 : (wr.alloc (.cells #[.int .u32 f, .int .u32 t] 63)).drew.heap[wr.heap.size]? = some (.cells #[.int .u32 f, .int .u32 t] 63) := World.alloc_heap_new wr _
                have HQ0 : Hid ((wr.alloc (.cells #[.int .u32 f, .int .u32 t] 63)).drew.heap[wr.heap.size]? = some (.cells #[.int .u32 f, .int .u32 t] 63)) := hq0
                have HC0 : Hid ((wr.alloc (.cells #[.int .u32 f, .int .u32 t] 63)).drew.cell? ⟨wr.heap.size, 0, none⟩ = some (.int .u32 f) ∧ (wr.alloc (.cells #[.int .u32 f, .int .u32 t] 63)).drew.cell? ⟨wr.heap.size, 1, none⟩ = some (.int .u32 t)) := pair_cells hq0
                clear hq0 hR6
                go_upto_region 15 with fail
                clear hd0 hd1
                go_region_held3 (fun w' => w'.cell? ⟨wr.heap.size, 0, none⟩ = some (.int .u32 f) ∧ w'.cell? ⟨wr.heap.size, 1, none⟩ = some (.int .u32 t) ∧ Below (w.heap.size + 1) W0 w') (first | exact ⟨HC0.out.1, HC0.out.2, HW6.out⟩ | exact ⟨hs2.out.1, hs2.out.2, hb2⟩ | exact ⟨hs3.out.1, hs3.out.2, hb3⟩)
                  (first
                    | (go_at_call_of 23 f; refine (appLong _ (w.heap.size + 1) _ _ _ _ _ OR6.out (by simp; omega) (by omega) HU.out.1).mono ?_; rintro e w2 ⟨a2, c2, rfl, hR2, hb2', hA2⟩; have hb2 := HW6.out.trans hb2'; have hq2 : Hid (w2.heap[wr.heap.size]? = some (.cells #[.int .u32 f, .int .u32 t] 63)) := ((hA2 wr.heap.size (by simp) HO6.out).1).trans HQ0.out; have HO2 : Hid ((Value.slice a2 (L6 + 4) c2).ownBlock ≠ some wr.heap.size) := (hA2 wr.heap.size (by simp) HO6.out).2; have hs2 : Hid (w2.cell? ⟨wr.heap.size, 0, none⟩ = some (.int .u32 f) ∧ w2.cell? ⟨wr.heap.size, 1, none⟩ = some (.int .u32 t)) := pair_cells hq2.out; have hw2 : wr.heap.size < w2.heap.size := Nat.lt_of_lt_of_le (by simp) hb2'.size; clear hA2)
                    | (go_at_call_of 23 t; refine (appLong _ (w.heap.size + 1) _ _ _ _ _ hR2 (by have := hb2.size; omega) (by omega) HU.out.2).mono ?_; rintro e w3 ⟨a3, c3, rfl, hR3, hb3', hA3⟩; have hb3 := hb2.trans hb3'; have hs3 : Hid (w3.cell? ⟨wr.heap.size, 0, none⟩ = some (.int .u32 f) ∧ w3.cell? ⟨wr.heap.size, 1, none⟩ = some (.int .u32 t)) := pair_cells (((hA3 wr.heap.size hw2 HO2.out).1).trans hq2.out); clear hA3))
                go_wp2_with fail
                go_roundw
                case rel => exact ⟨i + 1, by go_num, by omega, _, _, _, rfl, by rw [Hbt.out, ← List.append_assoc, ← List.append_assoc]; exact hR3, hb3⟩
                case measure => simp [intOf]; omega
              · obtain rfl : i = n := by omega
                have hraw : P5 ++ blksI (sk.take i) = rawI ⟨sp, dp, sq, ak, fl, wn, ur, ms, sc, so, st, va, ec, sk, dat⟩ := by
                  have e1 : sk.take i = sk := by rw [← HN0.out]; exact List.take_length
                  rw [e1, ← HP5.out, ← HP4.out, rawI, sksI, ← HN0.out]
                  by_cases h0 : sk = []
                  · subst h0; simp [blksI]
                  · have : ¬ sk.length = 0 := by simpa using h0
                    rw [if_neg this, if_neg h0]
                    simp only [List.append_assoc]
                rw [hraw] at hR6
                obtain ⟨R, hRR⟩ : ∃ R, rawI ⟨sp, dp, sq, ak, fl, wn, ur, ms, sc, so, st, va, ec, sk, dat⟩ = R := ⟨_, rfl⟩
                rw [hRR] at hR6
                have HRR : Hid (rawI ⟨sp, dp, sq, ak, fl, wn, ur, ms, sc, so, st, va, ec, sk, dat⟩ = R) := hRR
                clear hRR hraw
                have hRl : R.length ≤ 9000 := by rw [hR6.len]; exact hl6
                go_wp2_with fail
                go_loopw [3] (fun v wr2 => ∃ (k : Nat) (va7 : Option Addr) (L7 vc7 : Nat), v = .slice va7 L7 vc7 ∧ k ≤ (4 - R.length % 4) % 4 ∧ L7 = R.length + k ∧ Hid (Row wr2 (w.heap.size + 1) va7 L7 vc7 (R ++ List.replicate k 0)) ∧ Below (w.heap.size + 1) W0 wr2)
                  (fun v _ => R.length + 4 - lenOf v)
                case atStart => exact ⟨0, va6, L6, vc6, rfl, Nat.zero_le _, by rw [hR6.len]; rfl, by rw [List.replicate_zero, List.append_nil]; exact hR6, hB6⟩
                case round =>
                  obtain ⟨k, va7, L7, vc7, rfl, hk, hL7, hR7, hB7⟩ := hrel
                  have hb7 := hB7.size
                  rw [hsz] at hb7
                  have HL7 : Hid (L7 = R.length + k) := hL7
                  have hl7 : L7 ≤ 9010 := by omega
                  by_cases hm : L7 % 4 = 0
                  · have hm' : ((L7 : Int).tmod 4 != 0) = false := by
                      rw [Int.tmod_eq_emod_of_nonneg (by omega)]; simp; omega
                    clear hL7
                    go_wp2_with fail
                    go_ret
                    have hke : k = (4 - R.length % 4) % 4 := by have := HL7.out; omega
                    have ho : optI ⟨sp, dp, sq, ak, fl, wn, ur, ms, sc, so, st, va, ec, sk, dat⟩ = R ++ List.replicate k 0 := by
                      rw [optI, HRR.out, padI, hke]
                    have hol : (R ++ List.replicate k (0 : Int)).length = L7 := hR7.out.len
                    rw [ho, hol]
                    exact ⟨_, _, rfl, hR7.out.mono (by omega), HE.out.trans (hB7.mono (by omega))⟩
                  · have hm' : ((L7 : Int).tmod 4 != 0) = true := by
                      rw [Int.tmod_eq_emod_of_nonneg (by omega)]; simp; omega
                    have oR := hR7.out.alloc (.cells ([0].map (Value.int .u8)).toArray 5)
                    clear hL7
                    go_wp2_with (at_builtin; refine wpList_append_own _ rfl (.tmp 72) (.tmp 73) 24 rfl (w.heap.size + 1) 5 i0 (.int .u8 0) 1 1 Tryd.underlying24 hi hz0 hz1 hz2 rfl (by decide) _ L7 _ rfl oR ⟨wr.heap.size, 0, none⟩ 1 1 ([0].map (Value.int .u8)) rfl rfl (cells_new wr ([0].map (Value.int .u8)) 5) (ints_one _ _) (by unfold maxLen; omega) (by omega) (by simp; omega) ?_; intro v1 w1 hown1 hg1 _; have hb1 : Below (w.heap.size + 1) W0 w1 := below_append (hB7.alloc hb7 _) (by simp; omega) oR hg1; rw [← List.map_append] at hown1; obtain ⟨a1, c1, rfl, hR1⟩ := row_of hown1)
                    go_roundw
                    case rel => exact ⟨k + 1, _, _, _, rfl, by have := HL7.out; omega, by have := HL7.out; omega, by rw [List.replicate_succ', ← List.append_assoc]; exact hR1, hb1⟩
                    case measure => simp [lenOf]; have := HL7.out; omega
end Go.Proofs.YtllmeeebjjmanaaDoor
