/- The contract of mustBe. -/
import Derived.Test.YtllmeeebjjmanaaDoorOpts
import Derived.Test.YtllmeeebjjmanaaDoorErr
namespace Go.Proofs.YtllmeeebjjmanaaDoor
open Go.ChangeShapes Go.WideShapes Go.ChangeAt Go.RowKit Go.Shelf
set_option linter.unusedVariables false

theorem opt_le {s : Seg} {n : Nat} (h : s.sk.length ≤ n) : (optI s).length ≤ 24 + 8 * n := by
  rw [optI, pad_len, raw_len]
  split <;> split <;> split <;> split <;> split <;> omega

/-- What mustBe ends in. -/
def MustI (s : Seg) (e : Ending) : Prop := (ChkI s ∧ e = .returned (.tuple #[])) ∨ (¬ ChkI s ∧ ∃ why, (0 ≤ why ∧ why ≤ 7) ∧ e = .panicked (upC why))

set_option maxRecDepth 100000 in
set_option maxHeartbeats 4000000 in
theorem mustBe_any (s : Seg) (ka : Option Addr) (kc : Nat) (da : Option Addr) (dc : Nat) (w : World) (hs : SegIn w s ka da) :
    Calls Tryd.prog 31 #[.agg (segV s ka kc da dc)] w fun e w' => MustI s e ∧ Below w.heap.size w w' := by
  obtain ⟨sp, dp, sq, ak, fl, wn, ur, ms, sc, so, st, va, ec, sk, dat⟩ := s
  obtain ⟨W0, hW0⟩ : ∃ W0, w.alloc (.cells (segV ⟨sp, dp, sq, ak, fl, wn, ur, ms, sc, so, st, va, ec, sk, dat⟩ ka kc da dc) 26) = W0 := ⟨_, rfl⟩
  have HB := box_cell w (segV ⟨sp, dp, sq, ak, fl, wn, ur, ms, sc, so, st, va, ec, sk, dat⟩ ka kc da dc) 26
  rw [hW0] at HB
  have hsz : W0.heap.size = w.heap.size + 1 := by rw [← hW0]; simp
  have hE : Below w.heap.size w W0 := by rw [← hW0]; exact (Below.refl _ w).alloc (Nat.le_refl _) _
  have HE : Hid (Below w.heap.size w W0) := hE
  have HS : Hid (SegIn W0 ⟨sp, dp, sq, ak, fl, wn, ur, ms, sc, so, st, va, ec, sk, dat⟩ ka da) := hs.below hE (Nat.le_refl _)
  have HB' := fun k => HB W0 (Below.refl _ _) k
  have c0 : W0.cell? ⟨w.heap.size, 0, none⟩ = some (.int .i64 sp) := HB' 0
  have c1 : W0.cell? ⟨w.heap.size, 1, none⟩ = some (.int .i64 dp) := HB' 1
  have c2 : W0.cell? ⟨w.heap.size, 2, none⟩ = some (.int .u32 sq) := HB' 2
  have c3 : W0.cell? ⟨w.heap.size, 3, none⟩ = some (.int .u32 ak) := HB' 3
  have c4 : W0.cell? ⟨w.heap.size, 4, none⟩ = some (.int .i64 fl) := HB' 4
  have c5 : W0.cell? ⟨w.heap.size, 5, none⟩ = some (.int .i64 wn) := HB' 5
  have c6 : W0.cell? ⟨w.heap.size, 6, none⟩ = some (.int .i64 ur) := HB' 6
  have c7 : W0.cell? ⟨w.heap.size, 7, none⟩ = some (.int .i64 ms) := HB' 7
  have c8 : W0.cell? ⟨w.heap.size, 8, none⟩ = some (.int .i64 sc) := HB' 8
  have c9 : W0.cell? ⟨w.heap.size, 9, none⟩ = some (.bool so) := HB' 9
  have c10 : W0.cell? ⟨w.heap.size, 10, none⟩ = some (.bool st) := HB' 10
  have c11 : W0.cell? ⟨w.heap.size, 11, none⟩ = some (.int .u32 va) := HB' 11
  have c12 : W0.cell? ⟨w.heap.size, 12, none⟩ = some (.int .u32 ec) := HB' 12
  have c13 : W0.cell? ⟨w.heap.size, 13, none⟩ = some (.slice ka sk.length kc) := HB' 13
  have c14 : W0.cell? ⟨w.heap.size, 14, none⟩ = some (.slice da dat.length dc) := HB' 14
  unfold segV at *
  dsimp only at *
  clear HB HB' hs hE
  go_enter Tryd.func31, Tryd.ntmps31
  go_wp2_with fail
  clear hW0
  go_loopw [13] (fun vi wr => ∃ (k : Nat) (ki : Int), vi = .int .i64 ki ∧ Hid (k ≤ 4 ∧ ki = k ∧ (1 ≤ k → 0 ≤ sp ∧ sp ≤ 65535) ∧ (2 ≤ k → 0 ≤ dp ∧ dp ≤ 65535) ∧ (3 ≤ k → 0 ≤ wn ∧ wn ≤ 65535) ∧ (4 ≤ k → 0 ≤ ur ∧ ur ≤ 65535)) ∧ wr = W0)
    (fun vi _ => 4 - (intOf vi).toNat)
  case atStart => exact ⟨0, 0, rfl, ⟨by omega, by omega, by omega, by omega, by omega, by omega⟩, rfl⟩
  case round =>
    obtain ⟨k, ki, rfl, H, rfl⟩ := hrel
    rcases (show (k = 0 ∧ ki = 0) ∨ (k = 1 ∧ ki = 1) ∨ (k = 2 ∧ ki = 2) ∨ (k = 3 ∧ ki = 3) ∨ (k = 4 ∧ ki = 4) from by have := H.out; omega) with ⟨rfl, rfl⟩ | ⟨rfl, rfl⟩ | ⟨rfl, rfl⟩ | ⟨rfl, rfl⟩ | ⟨rfl, rfl⟩
    · have hix : ∀ w : World, (Instr.index 76 (.agg #[.int .i64 sp, .int .i64 dp, .int .i64 wn, .int .i64 ur]) (.int .i64 0)).run Tryd.prog w = .ok (.int .i64 sp) w := fun _ => by kernel_rfl
      by_cases h0 : 0 ≤ sp
      · by_cases h1 : sp ≤ 65535
        · go_wp2_with (go_at_call_of 43 true; refine (must_ok _ _).mono ?_; rintro e w' ⟨rfl, rfl⟩)
          go_roundw
          case rel => exact ⟨1, 1, rfl, ⟨by omega, by omega, by have := H.out; omega, by have := H.out; omega, by have := H.out; omega, by have := H.out; omega⟩, trivial⟩
          case measure => simp [intOf]
        · have hd : decide (sp ≤ 65535) = false := by simpa using h1
          go_wp2_with (go_at_call_of 43 false; refine (must_no _ _).mono ?_; rintro e w' ⟨rfl, rfl⟩)
          exact ⟨rfl, .inr ⟨fun h => by have := h.1; (try dsimp only at this); omega, 0, by omega, rfl⟩, HE.out⟩
      · have hd : decide (0 ≤ sp) = false := by simpa using h0
        go_wp2_with (go_at_call_of 43 false; refine (must_no _ _).mono ?_; rintro e w' ⟨rfl, rfl⟩)
        exact ⟨rfl, .inr ⟨fun h => by have := h.1; (try dsimp only at this); omega, 0, by omega, rfl⟩, HE.out⟩
    · have hix : ∀ w : World, (Instr.index 76 (.agg #[.int .i64 sp, .int .i64 dp, .int .i64 wn, .int .i64 ur]) (.int .i64 1)).run Tryd.prog w = .ok (.int .i64 dp) w := fun _ => by kernel_rfl
      by_cases h0 : 0 ≤ dp
      · by_cases h1 : dp ≤ 65535
        · go_wp2_with (go_at_call_of 43 true; refine (must_ok _ _).mono ?_; rintro e w' ⟨rfl, rfl⟩)
          go_roundw
          case rel => exact ⟨2, 2, rfl, ⟨by omega, by omega, by have := H.out; omega, by have := H.out; omega, by have := H.out; omega, by have := H.out; omega⟩, trivial⟩
          case measure => simp [intOf]
        · have hd : decide (dp ≤ 65535) = false := by simpa using h1
          go_wp2_with (go_at_call_of 43 false; refine (must_no _ _).mono ?_; rintro e w' ⟨rfl, rfl⟩)
          exact ⟨rfl, .inr ⟨fun h => by have := h.2.1; (try dsimp only at this); omega, 0, by omega, rfl⟩, HE.out⟩
      · have hd : decide (0 ≤ dp) = false := by simpa using h0
        go_wp2_with (go_at_call_of 43 false; refine (must_no _ _).mono ?_; rintro e w' ⟨rfl, rfl⟩)
        exact ⟨rfl, .inr ⟨fun h => by have := h.2.1; (try dsimp only at this); omega, 0, by omega, rfl⟩, HE.out⟩
    · have hix : ∀ w : World, (Instr.index 76 (.agg #[.int .i64 sp, .int .i64 dp, .int .i64 wn, .int .i64 ur]) (.int .i64 2)).run Tryd.prog w = .ok (.int .i64 wn) w := fun _ => by kernel_rfl
      by_cases h0 : 0 ≤ wn
      · by_cases h1 : wn ≤ 65535
        · go_wp2_with (go_at_call_of 43 true; refine (must_ok _ _).mono ?_; rintro e w' ⟨rfl, rfl⟩)
          go_roundw
          case rel => exact ⟨3, 3, rfl, ⟨by omega, by omega, by have := H.out; omega, by have := H.out; omega, by have := H.out; omega, by have := H.out; omega⟩, trivial⟩
          case measure => simp [intOf]
        · have hd : decide (wn ≤ 65535) = false := by simpa using h1
          go_wp2_with (go_at_call_of 43 false; refine (must_no _ _).mono ?_; rintro e w' ⟨rfl, rfl⟩)
          exact ⟨rfl, .inr ⟨fun h => by have := h.2.2.1; (try dsimp only at this); omega, 0, by omega, rfl⟩, HE.out⟩
      · have hd : decide (0 ≤ wn) = false := by simpa using h0
        go_wp2_with (go_at_call_of 43 false; refine (must_no _ _).mono ?_; rintro e w' ⟨rfl, rfl⟩)
        exact ⟨rfl, .inr ⟨fun h => by have := h.2.2.1; (try dsimp only at this); omega, 0, by omega, rfl⟩, HE.out⟩
    · have hix : ∀ w : World, (Instr.index 76 (.agg #[.int .i64 sp, .int .i64 dp, .int .i64 wn, .int .i64 ur]) (.int .i64 3)).run Tryd.prog w = .ok (.int .i64 ur) w := fun _ => by kernel_rfl
      by_cases h0 : 0 ≤ ur
      · by_cases h1 : ur ≤ 65535
        · go_wp2_with (go_at_call_of 43 true; refine (must_ok _ _).mono ?_; rintro e w' ⟨rfl, rfl⟩)
          go_roundw
          case rel => exact ⟨4, 4, rfl, ⟨by omega, by omega, by have := H.out; omega, by have := H.out; omega, by have := H.out; omega, by have := H.out; omega⟩, trivial⟩
          case measure => simp [intOf]
        · have hd : decide (ur ≤ 65535) = false := by simpa using h1
          go_wp2_with (go_at_call_of 43 false; refine (must_no _ _).mono ?_; rintro e w' ⟨rfl, rfl⟩)
          exact ⟨rfl, .inr ⟨fun h => by have := h.2.2.2.1; (try dsimp only at this); omega, 0, by omega, rfl⟩, HE.out⟩
      · have hd : decide (0 ≤ ur) = false := by simpa using h0
        go_wp2_with (go_at_call_of 43 false; refine (must_no _ _).mono ?_; rintro e w' ⟨rfl, rfl⟩)
        exact ⟨rfl, .inr ⟨fun h => by have := h.2.2.2.1; (try dsimp only at this); omega, 0, by omega, rfl⟩, HE.out⟩
    · by_cases fl0 : 0 ≤ fl
      case neg =>
        have hd : decide (0 ≤ fl) = false := by simpa using fl0
        go_wp2_with (go_at_call_of 43 false; refine (must_no _ _).mono ?_; rintro e w' ⟨rfl, rfl⟩)
        exact ⟨rfl, .inr ⟨fun h => by have := h.2.2.2.2.1; (try dsimp only at this); omega, 1, by omega, rfl⟩, HE.out⟩
      by_cases fl1 : fl ≤ 255
      case neg =>
        have hd : decide (fl ≤ 255) = false := by simpa using fl1
        go_wp2_with (go_at_call_of 43 false; refine (must_no _ _).mono ?_; rintro e w' ⟨rfl, rfl⟩)
        exact ⟨rfl, .inr ⟨fun h => by have := h.2.2.2.2.1; (try dsimp only at this); omega, 1, by omega, rfl⟩, HE.out⟩
      go_wp2_with fail
      refine (must_ok _ _).mono ?_
      rintro e w' ⟨rfl, rfl⟩
      by_cases ms0 : -1 ≤ ms
      case neg =>
        have hd : decide (-1 ≤ ms) = false := by simpa using ms0
        go_wp2_with (go_at_call_of 43 false; refine (must_no _ _).mono ?_; rintro e w' ⟨rfl, rfl⟩)
        exact ⟨rfl, .inr ⟨fun h => by have := h.2.2.2.2.2.1; (try dsimp only at this); omega, 2, by omega, rfl⟩, HE.out⟩
      by_cases ms1 : ms ≤ 65535
      case neg =>
        have hd : decide (ms ≤ 65535) = false := by simpa using ms1
        go_wp2_with (go_at_call_of 43 false; refine (must_no _ _).mono ?_; rintro e w' ⟨rfl, rfl⟩)
        exact ⟨rfl, .inr ⟨fun h => by have := h.2.2.2.2.2.1; (try dsimp only at this); omega, 2, by omega, rfl⟩, HE.out⟩
      go_wp2_with fail
      refine (must_ok _ _).mono ?_
      rintro e w' ⟨rfl, rfl⟩
      by_cases sc0 : -1 ≤ sc
      case neg =>
        have hd : decide (-1 ≤ sc) = false := by simpa using sc0
        go_wp2_with (go_at_call_of 43 false; refine (must_no _ _).mono ?_; rintro e w' ⟨rfl, rfl⟩)
        exact ⟨rfl, .inr ⟨fun h => by have := h.2.2.2.2.2.2.1; (try dsimp only at this); omega, 3, by omega, rfl⟩, HE.out⟩
      by_cases sc1 : sc ≤ 14
      case neg =>
        have hd : decide (sc ≤ 14) = false := by simpa using sc1
        go_wp2_with (go_at_call_of 43 false; refine (must_no _ _).mono ?_; rintro e w' ⟨rfl, rfl⟩)
        exact ⟨rfl, .inr ⟨fun h => by have := h.2.2.2.2.2.2.1; (try dsimp only at this); omega, 3, by omega, rfl⟩, HE.out⟩
      go_wp2_with fail
      refine (must_ok _ _).mono ?_
      rintro e w' ⟨rfl, rfl⟩
      have hst : (st = true ∨ (st = false ∧ va = 0 ∧ ec = 0)) ∨ (st = false ∧ ¬ va = 0) ∨ (st = false ∧ va = 0 ∧ ¬ ec = 0) := by
        cases st
        · by_cases a : va = 0
          · by_cases b : ec = 0
            · exact .inl (.inr ⟨rfl, a, b⟩)
            · exact .inr (.inr ⟨rfl, a, b⟩)
          · exact .inr (.inl ⟨rfl, a⟩)
        · exact .inl (.inl rfl)
      rcases hst with hst | ⟨rfl, hva⟩ | ⟨rfl, rfl, hec⟩
      case inr.inl =>
        have hd : (va == 0) = false := by simpa using hva
        go_wp2_with (go_at_call_of 43 false; refine (must_no _ _).mono ?_; rintro e w' ⟨rfl, rfl⟩)
        exact ⟨rfl, .inr ⟨fun h => by have := h.2.2.2.2.2.2.2.1; (try dsimp only at this); simp at this; omega, 4, by omega, rfl⟩, HE.out⟩
      case inr.inr =>
        have hd : (ec == 0) = false := by simpa using hec
        go_wp2_with (go_at_call_of 43 false; refine (must_no _ _).mono ?_; rintro e w' ⟨rfl, rfl⟩)
        exact ⟨rfl, .inr ⟨fun h => by have := h.2.2.2.2.2.2.2.1; (try dsimp only at this); simp at this; omega, 4, by omega, rfl⟩, HE.out⟩
      rcases hst with rfl | ⟨rfl, rfl, rfl⟩
      · go_wp2_with fail
        refine (must_ok _ _).mono ?_
        rintro e w' ⟨rfl, rfl⟩
        by_cases hda : (dat.length : Int) ≤ 65000
        case neg =>
          have hd : decide ((dat.length : Int) ≤ 65000) = false := by simpa using hda
          go_wp2_with (go_at_call_of 43 false; refine (must_no _ _).mono ?_; rintro e w' ⟨rfl, rfl⟩)
          exact ⟨rfl, .inr ⟨fun h => by have := h.2.2.2.2.2.2.2.2.1; (try dsimp only at this); omega, 5, by omega, rfl⟩, HE.out⟩
        go_wp2_with fail
        refine (must_ok _ _).mono ?_
        rintro e w' ⟨rfl, rfl⟩
        by_cases hsk : (sk.length : Int) ≤ 4
        case neg =>
          have hd : decide ((sk.length : Int) ≤ 4) = false := by simpa using hsk
          go_wp2_with (go_at_call_of 43 false; refine (must_no _ _).mono ?_; rintro e w' ⟨rfl, rfl⟩)
          exact ⟨rfl, .inr ⟨fun h => by have := h.2.2.2.2.2.2.2.2.2.1; (try dsimp only at this); omega, 6, by omega, rfl⟩, HE.out⟩
        go_wp2_with fail
        refine (must_ok _ _).mono ?_
        rintro e w' ⟨rfl, rfl⟩
        go_wp2_with fail
        have hopt := options_any ⟨sp, dp, sq, ak, fl, wn, ur, ms, sc, so, true, va, ec, sk, dat⟩ ka kc da dc _ HS.out (by dsimp only; omega)
        unfold segV at hopt
        dsimp only at hopt
        refine hopt.mono ?_
        clear hopt
        rintro e w1 ⟨oa, oc, rfl, _, hb1⟩
        obtain ⟨o, ho⟩ : ∃ o, (optI ⟨sp, dp, sq, ak, fl, wn, ur, ms, sc, so, true, va, ec, sk, dat⟩).length = o := ⟨_, rfl⟩
        rw [ho]
        have HO : Hid ((optI ⟨sp, dp, sq, ak, fl, wn, ur, ms, sc, so, true, va, ec, sk, dat⟩).length = o) := ho
        have hol : o ≤ 2000 := by rw [← ho]; exact Nat.le_trans (opt_le (n := 4) (by dsimp only; omega)) (by omega)
        have hb2 : Below w.heap.size w w1 := HE.out.trans (hb1.mono (by omega))
        clear ho hb1
        by_cases ho4 : (o : Int) ≤ 40
        case neg =>
          have hd : decide ((o : Int) ≤ 40) = false := by simpa using ho4
          go_wp2_with (go_at_call_of 43 false; refine (must_no _ _).mono ?_; rintro e w' ⟨rfl, rfl⟩)
          exact ⟨rfl, .inr ⟨fun h => by have := h.2.2.2.2.2.2.2.2.2.2; (try dsimp only at this); rw [HO.out] at this; omega, 7, by omega, rfl⟩, hb2⟩
        go_wp2_with fail
        refine (must_ok _ _).mono ?_
        rintro e w' ⟨rfl, rfl⟩
        go_wp2_with fail
        go_end0
        obtain ⟨_, _, k0, k1, k2, k3⟩ := H.out
        exact ⟨.inl ⟨⟨k0 (by omega), k1 (by omega), k2 (by omega), k3 (by omega), ⟨fl0, fl1⟩, ⟨ms0, ms1⟩, ⟨sc0, sc1⟩, by simp, by dsimp only; omega, by dsimp only; omega, by rw [HO.out]; omega⟩, rfl⟩, hb2⟩
      · go_wp2_with fail
        refine (must_ok _ _).mono ?_
        rintro e w' ⟨rfl, rfl⟩
        by_cases hda : (dat.length : Int) ≤ 65000
        case neg =>
          have hd : decide ((dat.length : Int) ≤ 65000) = false := by simpa using hda
          go_wp2_with (go_at_call_of 43 false; refine (must_no _ _).mono ?_; rintro e w' ⟨rfl, rfl⟩)
          exact ⟨rfl, .inr ⟨fun h => by have := h.2.2.2.2.2.2.2.2.1; (try dsimp only at this); omega, 5, by omega, rfl⟩, HE.out⟩
        go_wp2_with fail
        refine (must_ok _ _).mono ?_
        rintro e w' ⟨rfl, rfl⟩
        by_cases hsk : (sk.length : Int) ≤ 4
        case neg =>
          have hd : decide ((sk.length : Int) ≤ 4) = false := by simpa using hsk
          go_wp2_with (go_at_call_of 43 false; refine (must_no _ _).mono ?_; rintro e w' ⟨rfl, rfl⟩)
          exact ⟨rfl, .inr ⟨fun h => by have := h.2.2.2.2.2.2.2.2.2.1; (try dsimp only at this); omega, 6, by omega, rfl⟩, HE.out⟩
        go_wp2_with fail
        refine (must_ok _ _).mono ?_
        rintro e w' ⟨rfl, rfl⟩
        go_wp2_with fail
        have hopt := options_any ⟨sp, dp, sq, ak, fl, wn, ur, ms, sc, so, false, 0, 0, sk, dat⟩ ka kc da dc _ HS.out (by dsimp only; omega)
        unfold segV at hopt
        dsimp only at hopt
        refine hopt.mono ?_
        clear hopt
        rintro e w1 ⟨oa, oc, rfl, _, hb1⟩
        obtain ⟨o, ho⟩ : ∃ o, (optI ⟨sp, dp, sq, ak, fl, wn, ur, ms, sc, so, false, 0, 0, sk, dat⟩).length = o := ⟨_, rfl⟩
        rw [ho]
        have HO : Hid ((optI ⟨sp, dp, sq, ak, fl, wn, ur, ms, sc, so, false, 0, 0, sk, dat⟩).length = o) := ho
        have hol : o ≤ 2000 := by rw [← ho]; exact Nat.le_trans (opt_le (n := 4) (by dsimp only; omega)) (by omega)
        have hb2 : Below w.heap.size w w1 := HE.out.trans (hb1.mono (by omega))
        clear ho hb1
        by_cases ho4 : (o : Int) ≤ 40
        case neg =>
          have hd : decide ((o : Int) ≤ 40) = false := by simpa using ho4
          go_wp2_with (go_at_call_of 43 false; refine (must_no _ _).mono ?_; rintro e w' ⟨rfl, rfl⟩)
          exact ⟨rfl, .inr ⟨fun h => by have := h.2.2.2.2.2.2.2.2.2.2; (try dsimp only at this); rw [HO.out] at this; omega, 7, by omega, rfl⟩, hb2⟩
        go_wp2_with fail
        refine (must_ok _ _).mono ?_
        rintro e w' ⟨rfl, rfl⟩
        go_wp2_with fail
        go_end0
        obtain ⟨_, _, k0, k1, k2, k3⟩ := H.out
        exact ⟨.inl ⟨⟨k0 (by omega), k1 (by omega), k2 (by omega), k3 (by omega), ⟨fl0, fl1⟩, ⟨ms0, ms1⟩, ⟨sc0, sc1⟩, .inr ⟨rfl, rfl⟩, by dsimp only; omega, by dsimp only; omega, by rw [HO.out]; omega⟩, rfl⟩, hb2⟩
end Go.Proofs.YtllmeeebjjmanaaDoor
