/- The walk of RecvBegins. -/
import Derived.Test.YtkigcdmlkmcdcaaMRefNew
namespace Go.Proofs.Ytkigcdmlkmcdcaa
open Go.ChangeShapes Go.WideShapes Go.ChangeAt Go.RowKit
set_option linter.unusedVariables false
set_option linter.unusedSimpArgs false

def zeroR : Pl.Rv := ⟨⟨0, [], []⟩, 0, 0, 0, 0, false, false, 0, false, [], 0, 0, false⟩
theorem zero_at (W : World) : RvAt W zeroR noH where
  un := SlAt.nil _
  late := PcsAt.nil' _
  les := rfl
  fst := SpAt.nil' _
  n := by unfold I64; decide
  cap := by unfold I64; decide
  shift := by unfold I64; decide
  edge := by unfold I64; decide
  recent := by unfold U32; decide
  fin := by unfold I64; decide
  irs := by unfold U32; decide
  own := by unfold U32; decide
theorem new_okR {size shift irs own : Int} {stamps sacks : Bool} (h : roomB size shift = true) : (Pl.newR size shift irs own stamps sacks).Ok := by
  obtain ⟨h1, h2, h3, h4⟩ := roomB_iff.1 h
  have hw := Pl.window_bd (r := Pl.newR size shift irs own stamps sacks) (by show ((0 : Nat) : Int) ≤ size; omega)
  have hw' : 0 ≤ (Pl.newR size shift irs own stamps sacks).edge ∧ (Pl.newR size shift irs own stamps sacks).edge ≤ size := by
    have e : (Pl.newR size shift irs own stamps sacks).edge = (Pl.newR size shift irs own stamps sacks).window := rfl
    rw [e]
    exact ⟨hw.1, by have := hw.2; have e2 : (Pl.newR size shift irs own stamps sacks).cap - (((Pl.newR size shift irs own stamps sacks).s.u.length : Nat) : Int) = size := by show size - ((0 : Nat) : Int) = size; omega
                    omega⟩
  exact { n0 := (by show (0 : Int) ≤ 0; omega), nf := (by show (0 : Int) ≤ 562949953421312; omega), c1 := h1, cm := h2, s0 := h3, s14 := h4, uc := (by show ((0 : Nat) : Int) ≤ size; omega), un := (by show ((0 : Nat) : Int) ≤ 0; omega), f1 := (by show (-1 : Int) ≤ -1; omega), fn := (fun h => by have h' : (0 : Int) ≤ -1 := h; omega), ff := (by show (-1 : Int) ≤ 562949953421312; omega), e0 := hw'.1, er := (by show (Pl.newR size shift irs own stamps sacks).edge ≤ 0 - ((0 : Nat) : Int) + size; omega), lat := trivial, lim := (fun p hp => by cases hp), lfin := (fun _ p hp => by cases hp), fst := (fun a ha => by cases ha), nod := (by simp [Pl.newR]), dn := rfl, dl := fun _ => rfl }
theorem new_at {size shift irs own : Int} {stamps sacks : Bool} (h : roomB size shift = true) (hi : U32 irs) (ho : U32 own) (W : World) : RvAt W (Pl.newR size shift irs own stamps sacks) noH := by
  have hk := new_okR (irs := irs) (own := own) (stamps := stamps) (sacks := sacks) h
  obtain ⟨h1, h2, h3, h4⟩ := roomB_iff.1 h
  refine { un := SlAt.nil _, late := PcsAt.nil' _, les := rfl, fst := SpAt.nil' _, n := (by unfold I64; show _ ≤ (0 : Int) ∧ (0 : Int) ≤ _; omega), cap := ?_, shift := ?_, edge := ?_, recent := (by unfold U32; show (0 : Int) ≤ 0 ∧ (0 : Int) ≤ 4294967295; omega), fin := (by unfold I64; show _ ≤ (-1 : Int) ∧ (-1 : Int) ≤ _; omega), irs := hi, own := ho }
  · show I64 size; unfold I64; omega
  · show I64 shift; unfold I64; omega
  · have a := hk.e0; have b := hk.er
    have e : (Pl.newR size shift irs own stamps sacks).reach = size := by show 0 - ((0 : Nat) : Int) + size = size; omega
    rw [e] at b
    unfold I64; omega
set_option maxRecDepth 100000 in
set_option maxHeartbeats 4000000 in
theorem begin_gen (size shift irs : Int) (st : Bool) (w : World) (R : Pl.Rv) (e : Int) (he : e = 0 ∨ e = 2) (HA : Hid (∀ W, RvAt W R noH)) (HO : Hid (e = 0 → R.Ok))
    (c1 : ∀ W, Calls Try.prog 23 #[.int .i64 size, .int .i64 shift, .int .u32 irs, .int .u32 ((irs + 1) % 4294967296), .bool st, .bool (!st)] W fun x w' => x = .returned (.tuple #[.agg #[.int .i64 R.s.n, .slice noH.ua R.s.u.length noH.uc, .slice noH.la noH.es.length noH.lc, .int .i64 R.cap, .int .i64 R.shift, .int .i64 R.edge, .int .u32 R.recent, .bool R.stamps, .bool R.sacks, .int .i64 R.fin, .bool R.dn, .slice noH.fa R.first.length noH.fc, .int .u32 R.irs, .int .u32 R.own, .bool R.stamp], .int .i64 e]) ∧ Below W.heap.size W w')
    (c2 : ∀ W, Calls Try.prog 24 #[.int .i64 size, .int .i64 shift, .int .u32 irs, .int .u32 ((irs + 1) % 4294967296), .bool st, .bool (!st)] W fun x w' => x = .returned (.tuple #[.agg #[.int .i64 R.s.n, .slice noH.ua R.s.u.length noH.uc, .slice noH.la noH.es.length noH.lc, .int .i64 R.cap, .int .i64 R.shift, .int .i64 R.edge, .int .u32 R.recent, .bool R.stamps, .bool R.sacks, .int .i64 R.fin, .bool R.dn, .slice noH.fa R.first.length noH.fc, .int .u32 R.irs, .int .u32 R.own, .bool R.stamp], .int .i64 e]) ∧ Below W.heap.size W w') :
    Calls Try.prog 7 #[.int .i64 size, .int .i64 shift, .int .u32 irs, .bool st] w fun e w' => e = .returned (.bool true) ∧ Below w.heap.size w w' := by
  have k2 := heads_any
  have HS : Hid (∀ W, Calls Try.prog 16 #[.agg #[.int .i64 R.s.n, .slice noH.ua R.s.u.length noH.uc, .slice noH.la noH.es.length noH.lc, .int .i64 R.cap, .int .i64 R.shift, .int .i64 R.edge, .int .u32 R.recent, .bool R.stamps, .bool R.sacks, .int .i64 R.fin, .bool R.dn, .slice noH.fa R.first.length noH.fc, .int .u32 R.irs, .int .u32 R.own, .bool R.stamp], .agg #[.int .i64 R.s.n, .slice noH.ua R.s.u.length noH.uc, .slice noH.la noH.es.length noH.lc, .int .i64 R.cap, .int .i64 R.shift, .int .i64 R.edge, .int .u32 R.recent, .bool R.stamps, .bool R.sacks, .int .i64 R.fin, .bool R.dn, .slice noH.fa R.first.length noH.fc, .int .u32 R.irs, .int .u32 R.own, .bool R.stamp]] W fun e w' => e = .returned (.bool true) ∧ Below W.heap.size W w') := fun W => sameRv_any R noH noH W (HA.out W) (HA.out W)
  have HC : Hid (e = 0 → ∀ W, Calls Try.prog 9 #[.agg #[.int .i64 R.s.n, .slice noH.ua R.s.u.length noH.uc, .slice noH.la noH.es.length noH.lc, .int .i64 R.cap, .int .i64 R.shift, .int .i64 R.edge, .int .u32 R.recent, .bool R.stamps, .bool R.sacks, .int .i64 R.fin, .bool R.dn, .slice noH.fa R.first.length noH.fc, .int .u32 R.irs, .int .u32 R.own, .bool R.stamp]] W fun e w' => e = .returned (.int .i64 0) ∧ Below W.heap.size W w') := fun h W => recvCheck_ok R noH W (HA.out W) (HO.out h)
  clear HA HO
  generalize noH = H0 at *
  rcases he with rfl | rfl
  · have HC0 : Hid (∀ W, Calls Try.prog 9 #[.agg #[.int .i64 R.s.n, .slice H0.ua R.s.u.length H0.uc, .slice H0.la H0.es.length H0.lc, .int .i64 R.cap, .int .i64 R.shift, .int .i64 R.edge, .int .u32 R.recent, .bool R.stamps, .bool R.sacks, .int .i64 R.fin, .bool R.dn, .slice H0.fa R.first.length H0.fc, .int .u32 R.irs, .int .u32 R.own, .bool R.stamp]] W fun e w' => e = .returned (.int .i64 0) ∧ Below W.heap.size W w') := HC.out rfl
    clear HC
    go_enter Try.func7, Try.ntmps7
    go_wp2_with fail
    refine (c1 _).mono ?_
    rintro x w1 ⟨rfl, hB1⟩
    clear c1
    have bA : Box (w1.alloc (.cells #[.int .i64 R.s.n, .slice H0.ua R.s.u.length H0.uc, .slice H0.la H0.es.length H0.lc, .int .i64 R.cap, .int .i64 R.shift, .int .i64 R.edge, .int .u32 R.recent, .bool R.stamps, .bool R.sacks, .int .i64 R.fin, .bool R.dn, .slice H0.fa R.first.length H0.fc, .int .u32 R.irs, .int .u32 R.own, .bool R.stamp] 27)) w1.heap.size 27 [.int .i64 R.s.n, .slice H0.ua R.s.u.length H0.uc, .slice H0.la H0.es.length H0.lc, .int .i64 R.cap, .int .i64 R.shift, .int .i64 R.edge, .int .u32 R.recent, .bool R.stamps, .bool R.sacks, .int .i64 R.fin, .bool R.dn, .slice H0.fa R.first.length H0.fc, .int .u32 R.irs, .int .u32 R.own, .bool R.stamp] := Box.new w1 27 [.int .i64 R.s.n, .slice H0.ua R.s.u.length H0.uc, .slice H0.la H0.es.length H0.lc, .int .i64 R.cap, .int .i64 R.shift, .int .i64 R.edge, .int .u32 R.recent, .bool R.stamps, .bool R.sacks, .int .i64 R.fin, .bool R.dn, .slice H0.fa R.first.length H0.fc, .int .u32 R.irs, .int .u32 R.own, .bool R.stamp]
    have HF1 : Hid (Box (w1.alloc (.cells #[.int .i64 R.s.n, .slice H0.ua R.s.u.length H0.uc, .slice H0.la H0.es.length H0.lc, .int .i64 R.cap, .int .i64 R.shift, .int .i64 R.edge, .int .u32 R.recent, .bool R.stamps, .bool R.sacks, .int .i64 R.fin, .bool R.dn, .slice H0.fa R.first.length H0.fc, .int .u32 R.irs, .int .u32 R.own, .bool R.stamp] 27)) w1.heap.size 27 [.int .i64 R.s.n, .slice H0.ua R.s.u.length H0.uc, .slice H0.la H0.es.length H0.lc, .int .i64 R.cap, .int .i64 R.shift, .int .i64 R.edge, .int .u32 R.recent, .bool R.stamps, .bool R.sacks, .int .i64 R.fin, .bool R.dn, .slice H0.fa R.first.length H0.fc, .int .u32 R.irs, .int .u32 R.own, .bool R.stamp] ∧ Below w.heap.size w (w1.alloc (.cells #[.int .i64 R.s.n, .slice H0.ua R.s.u.length H0.uc, .slice H0.la H0.es.length H0.lc, .int .i64 R.cap, .int .i64 R.shift, .int .i64 R.edge, .int .u32 R.recent, .bool R.stamps, .bool R.sacks, .int .i64 R.fin, .bool R.dn, .slice H0.fa R.first.length H0.fc, .int .u32 R.irs, .int .u32 R.own, .bool R.stamp] 27))) := ⟨bA, below_more hB1 _⟩
    clear bA hB1
    go_wp2_with fail
    refine (c2 _).mono ?_
    rintro x w2 ⟨rfl, hB2⟩
    clear c2
    go_upto_region 3 with fail
    obtain ⟨X2, hX2⟩ : ∃ X2, w2.alloc (.cells #[.int .i64 R.s.n, .slice H0.ua R.s.u.length H0.uc, .slice H0.la H0.es.length H0.lc, .int .i64 R.cap, .int .i64 R.shift, .int .i64 R.edge, .int .u32 R.recent, .bool R.stamps, .bool R.sacks, .int .i64 R.fin, .bool R.dn, .slice H0.fa R.first.length H0.fc, .int .u32 R.irs, .int .u32 R.own, .bool R.stamp] 27) = X2 := ⟨_, rfl⟩
    have bB : Box X2 w2.heap.size 27 [.int .i64 R.s.n, .slice H0.ua R.s.u.length H0.uc, .slice H0.la H0.es.length H0.lc, .int .i64 R.cap, .int .i64 R.shift, .int .i64 R.edge, .int .u32 R.recent, .bool R.stamps, .bool R.sacks, .int .i64 R.fin, .bool R.dn, .slice H0.fa R.first.length H0.fc, .int .u32 R.irs, .int .u32 R.own, .bool R.stamp] := by rw [← hX2]; exact Box.new w2 27 [.int .i64 R.s.n, .slice H0.ua R.s.u.length H0.uc, .slice H0.la H0.es.length H0.lc, .int .i64 R.cap, .int .i64 R.shift, .int .i64 R.edge, .int .u32 R.recent, .bool R.stamps, .bool R.sacks, .int .i64 R.fin, .bool R.dn, .slice H0.fa R.first.length H0.fc, .int .u32 R.irs, .int .u32 R.own, .bool R.stamp]
    have HF2 : Hid (Box X2 w1.heap.size 27 [.int .i64 R.s.n, .slice H0.ua R.s.u.length H0.uc, .slice H0.la H0.es.length H0.lc, .int .i64 R.cap, .int .i64 R.shift, .int .i64 R.edge, .int .u32 R.recent, .bool R.stamps, .bool R.sacks, .int .i64 R.fin, .bool R.dn, .slice H0.fa R.first.length H0.fc, .int .u32 R.irs, .int .u32 R.own, .bool R.stamp] ∧ Below w.heap.size w X2) := by rw [← hX2]; exact ⟨(HF1.out.1.later hB2).alloc _, below_more (Below.on HF1.out.2 hB2) _⟩
    try rw [hX2]
    clear hX2 hB2 HF1
    obtain ⟨c0, c1, c2, c3, c4, c5, c6, c7, c8, c9, c10, c11, c12, c13, c14⟩ := Box.c15 HF2.out.1
    obtain ⟨d0, d1, d2, d3, d4, d5, d6, d7, d8, d9, d10, d11, d12, d13, d14⟩ := Box.c15 bB
    clear bB
    as_aux_lemma =>
      go_wp2_with fail
      refine (HS.out _).mono ?_
      rintro x w3 ⟨rfl, hB3⟩
      clear c0 c1 c2 c3 c4 c5 c6 c7 c8 c9 c10 c11 c12 c13 c14 d0 d1 d2 d3 d4 d5 d6 d7 d8 d9 d10 d11 d12 d13 d14
      obtain ⟨c0, c1, c2, c3, c4, c5, c6, c7, c8, c9, c10, c11, c12, c13, c14⟩ := Box.c15 (HF2.out.1.later hB3)
      go_wp2_with fail
      refine (HC0.out _).mono ?_
      rintro x w4 ⟨rfl, hB4⟩
      clear c0 c1 c2 c3 c4 c5 c6 c7 c8 c9 c10 c11 c12 c13 c14
      go_wp2_with fail
      refine (k2 _).mono ?_
      rintro x w5 ⟨rfl, hB5⟩
      go_wp2_with fail
      go_ret
      exact ⟨rfl, Below.on (Below.on (Below.on HF2.out.2 hB3) hB4) hB5⟩
  · clear HC
    go_enter Try.func7, Try.ntmps7
    go_wp2_with fail
    refine (c1 _).mono ?_
    rintro x w1 ⟨rfl, hB1⟩
    clear c1
    have bA : Box (w1.alloc (.cells #[.int .i64 R.s.n, .slice H0.ua R.s.u.length H0.uc, .slice H0.la H0.es.length H0.lc, .int .i64 R.cap, .int .i64 R.shift, .int .i64 R.edge, .int .u32 R.recent, .bool R.stamps, .bool R.sacks, .int .i64 R.fin, .bool R.dn, .slice H0.fa R.first.length H0.fc, .int .u32 R.irs, .int .u32 R.own, .bool R.stamp] 27)) w1.heap.size 27 [.int .i64 R.s.n, .slice H0.ua R.s.u.length H0.uc, .slice H0.la H0.es.length H0.lc, .int .i64 R.cap, .int .i64 R.shift, .int .i64 R.edge, .int .u32 R.recent, .bool R.stamps, .bool R.sacks, .int .i64 R.fin, .bool R.dn, .slice H0.fa R.first.length H0.fc, .int .u32 R.irs, .int .u32 R.own, .bool R.stamp] := Box.new w1 27 [.int .i64 R.s.n, .slice H0.ua R.s.u.length H0.uc, .slice H0.la H0.es.length H0.lc, .int .i64 R.cap, .int .i64 R.shift, .int .i64 R.edge, .int .u32 R.recent, .bool R.stamps, .bool R.sacks, .int .i64 R.fin, .bool R.dn, .slice H0.fa R.first.length H0.fc, .int .u32 R.irs, .int .u32 R.own, .bool R.stamp]
    have HF1 : Hid (Box (w1.alloc (.cells #[.int .i64 R.s.n, .slice H0.ua R.s.u.length H0.uc, .slice H0.la H0.es.length H0.lc, .int .i64 R.cap, .int .i64 R.shift, .int .i64 R.edge, .int .u32 R.recent, .bool R.stamps, .bool R.sacks, .int .i64 R.fin, .bool R.dn, .slice H0.fa R.first.length H0.fc, .int .u32 R.irs, .int .u32 R.own, .bool R.stamp] 27)) w1.heap.size 27 [.int .i64 R.s.n, .slice H0.ua R.s.u.length H0.uc, .slice H0.la H0.es.length H0.lc, .int .i64 R.cap, .int .i64 R.shift, .int .i64 R.edge, .int .u32 R.recent, .bool R.stamps, .bool R.sacks, .int .i64 R.fin, .bool R.dn, .slice H0.fa R.first.length H0.fc, .int .u32 R.irs, .int .u32 R.own, .bool R.stamp] ∧ Below w.heap.size w (w1.alloc (.cells #[.int .i64 R.s.n, .slice H0.ua R.s.u.length H0.uc, .slice H0.la H0.es.length H0.lc, .int .i64 R.cap, .int .i64 R.shift, .int .i64 R.edge, .int .u32 R.recent, .bool R.stamps, .bool R.sacks, .int .i64 R.fin, .bool R.dn, .slice H0.fa R.first.length H0.fc, .int .u32 R.irs, .int .u32 R.own, .bool R.stamp] 27))) := ⟨bA, below_more hB1 _⟩
    clear bA hB1
    go_wp2_with fail
    refine (c2 _).mono ?_
    rintro x w2 ⟨rfl, hB2⟩
    clear c2
    go_upto_region 3 with fail
    obtain ⟨X2, hX2⟩ : ∃ X2, w2.alloc (.cells #[.int .i64 R.s.n, .slice H0.ua R.s.u.length H0.uc, .slice H0.la H0.es.length H0.lc, .int .i64 R.cap, .int .i64 R.shift, .int .i64 R.edge, .int .u32 R.recent, .bool R.stamps, .bool R.sacks, .int .i64 R.fin, .bool R.dn, .slice H0.fa R.first.length H0.fc, .int .u32 R.irs, .int .u32 R.own, .bool R.stamp] 27) = X2 := ⟨_, rfl⟩
    have bB : Box X2 w2.heap.size 27 [.int .i64 R.s.n, .slice H0.ua R.s.u.length H0.uc, .slice H0.la H0.es.length H0.lc, .int .i64 R.cap, .int .i64 R.shift, .int .i64 R.edge, .int .u32 R.recent, .bool R.stamps, .bool R.sacks, .int .i64 R.fin, .bool R.dn, .slice H0.fa R.first.length H0.fc, .int .u32 R.irs, .int .u32 R.own, .bool R.stamp] := by rw [← hX2]; exact Box.new w2 27 [.int .i64 R.s.n, .slice H0.ua R.s.u.length H0.uc, .slice H0.la H0.es.length H0.lc, .int .i64 R.cap, .int .i64 R.shift, .int .i64 R.edge, .int .u32 R.recent, .bool R.stamps, .bool R.sacks, .int .i64 R.fin, .bool R.dn, .slice H0.fa R.first.length H0.fc, .int .u32 R.irs, .int .u32 R.own, .bool R.stamp]
    have HF2 : Hid (Box X2 w1.heap.size 27 [.int .i64 R.s.n, .slice H0.ua R.s.u.length H0.uc, .slice H0.la H0.es.length H0.lc, .int .i64 R.cap, .int .i64 R.shift, .int .i64 R.edge, .int .u32 R.recent, .bool R.stamps, .bool R.sacks, .int .i64 R.fin, .bool R.dn, .slice H0.fa R.first.length H0.fc, .int .u32 R.irs, .int .u32 R.own, .bool R.stamp] ∧ Below w.heap.size w X2) := by rw [← hX2]; exact ⟨(HF1.out.1.later hB2).alloc _, below_more (Below.on HF1.out.2 hB2) _⟩
    try rw [hX2]
    clear hX2 hB2 HF1
    obtain ⟨c0, c1, c2, c3, c4, c5, c6, c7, c8, c9, c10, c11, c12, c13, c14⟩ := Box.c15 HF2.out.1
    obtain ⟨d0, d1, d2, d3, d4, d5, d6, d7, d8, d9, d10, d11, d12, d13, d14⟩ := Box.c15 bB
    clear bB
    as_aux_lemma =>
      go_wp2_with fail
      refine (HS.out _).mono ?_
      rintro x w3 ⟨rfl, hB3⟩
      clear c0 c1 c2 c3 c4 c5 c6 c7 c8 c9 c10 c11 c12 c13 c14 d0 d1 d2 d3 d4 d5 d6 d7 d8 d9 d10 d11 d12 d13 d14
      go_wp2_with fail
      refine (k2 _).mono ?_
      rintro x w5 ⟨rfl, hB5⟩
      go_wp2_with fail
      go_ret
      exact ⟨rfl, Below.on (Below.on HF2.out.2 hB3) hB5⟩
theorem begin_walk (size shift irs : Int) (st : Bool) (w : World) (h1 : I64 size) (h2 : I64 shift) (h3 : U32 irs) : Calls Try.prog 7 #[.int .i64 size, .int .i64 shift, .int .u32 irs, .bool st] w fun e w' => e = .returned (.bool true) ∧ Below w.heap.size w w' := by
  have ho : U32 ((irs + 1) % 4294967296) := by unfold U32; omega
  cases hr : roomB size shift with
  | false => exact begin_gen size shift irs st w zeroR 2 (.inr rfl) (fun W => zero_at W) (fun h => by cases h) (fun W => recvNew_no size shift irs _ st (!st) W hr) (fun W => refNew_no size shift irs _ st (!st) W hr)
  | true => exact begin_gen size shift irs st w (Pl.newR size shift irs ((irs + 1) % 4294967296) st (!st)) 0 (.inl rfl) (fun W => new_at hr h3 ho W) (fun _ => new_okR hr) (fun W => recvNew_ok size shift irs _ st (!st) W hr) (fun W => refNew_ok size shift irs _ st (!st) W hr)
end Go.Proofs.Ytkigcdmlkmcdcaa
