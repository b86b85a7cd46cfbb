/- GR: Heads. -/
import Derived.Test.YtkigcdmlkmcdcaaZ
import Derived.Test.YtkigcdmlkmcdcaaGQ
/- The contract of heads: what must come at any rate comes. -/
namespace Go.Proofs.Ytkigcdmlkmcdcaa
open Go.ChangeShapes Go.WideShapes Go.ChangeAt Go.RowKit
set_option linter.unusedVariables false
set_option linter.unusedSimpArgs false

theorem conv_is (a : Option Addr) (c : Nat) (xs : List Int) (w : World) (h : zak w a xs) (n : Nat) (hn : xs.length = n) (s : ByteArray) (hs : strOfNums xs = s) : (convert 22 9 (.slice a n c)).run Try.prog w = .ok (.string s) w := by
 subst hn; subst hs; exact zg1 a c xs w h
set_option maxRecDepth 100000 in
set_option maxHeartbeats 16000000 in
theorem heads_any (w : World) : Calls Try.prog 11 #[] w fun e w' => e = .returned (.bool true) ∧ Below w.heap.size w w' := by
 have c1 := recvNew_ok 10 0 100 7 false true w (by rfl)
 have e0 : Pl.newR 10 0 100 7 false true = r0 := rfl
 rw [e0] at c1
 have d1 : ∀ W p, SlAt W (some p) 2 [99, 100] → _ := fun W p => in1 W noH (r0_at W) p
 have HD2 : Hid (∀ (W : World) (h : Hd) (H : RvAt W (Pl.tellR a1) h) (p : Addr) (hd : SlAt W (some p) 2 [97, 98]), _) := in2
 have HD3 : Hid (∀ (W : World) (h : Hd) (H : RvAt W (Pl.tellR a2) h), _) := rd3
 have HT : Hid ((tellS a1 [(2, 4)]).ak = 100 ∧ (tellS a1 [(2, 4)]).sk = [(102, 104)] ∧ (tellS a2 []).ak = 104 ∧ (Pl.tellR a2).s.u = [97, 98, 99, 100] ∧ (Pl.readR (Pl.tellR a2) 3).s.u = [100] ∧ r0.window = 10) := ⟨t1_is.1, t1_is.2, t2_is, rd_is.2.2.1, rd_is.2.1, rd_is.2.2.2⟩
 have HW : Hid (∀ W, Calls Try.prog 10 #[.agg #[.int .i64 r0.s.n, .slice noH.ua r0.s.u.length noH.uc, .slice noH.la noH.es.length noH.lc, .int .i64 r0.cap, .int .i64 r0.shift, .int .i64 r0.edge, .int .u32 r0.recent, .bool r0.stamps, .bool r0.sacks, .int .i64 r0.fin, .bool r0.dn, .slice noH.fa r0.first.length noH.fc, .int .u32 r0.irs, .int .u32 r0.own, .bool r0.stamp]] W fun e w' => e = .returned (.int .i64 r0.window) ∧ Below W.heap.size W w') := fun W => zd3 r0 noH W (r0_at W) r0_ok
 have HL1 : Hid (∀ (w : World) (B : Nat) (h : Hd), RvOwn w B (Pl.tellR a1) h → RvAt w (Pl.tellR a1) h) := fun w B h H => lies1 H
 have HL2 : Hid (∀ (w : World) (B : Nat) (h : Hd), RvOwn w B (Pl.tellR a2) h → RvAt w (Pl.tellR a2) h) := fun w B h H => lies2 H
 have HN : Hid (∀ W : World, Calls Try.prog 23 #[.int .i64 0, .int .i64 0, .int .u32 0, .int .u32 0, .bool false, .bool false] W fun e w' => e = .returned (.tuple #[.agg #[.int .i64 0, .slice none 0 0, .slice none 0 0, .int .i64 0, .int .i64 0, .int .i64 0, .int .u32 0, .bool false, .bool false, .int .i64 0, .bool false, .slice none 0 0, .int .u32 0, .int .u32 0, .bool false], .int .i64 2]) ∧ Below W.heap.size W w') := fun W => recvNew_no 0 0 0 0 false false W (by rfl)
 generalize r0 = R0 at *
 generalize noH = H0 at *
 generalize Pl.readR (Pl.tellR a2) 3 = R3 at *
 generalize readS (Pl.tellR a2) 3 = T3 at *
 generalize Pl.rdB (Pl.tellR a2) 3 = B3 at *
 generalize Pl.tellR a1 = R1 at *
 generalize Pl.tellR a2 = R2 at *
 generalize tellS a1 [(2, 4)] = T1 at *
 generalize tellS a2 [] = T2 at *
 have hcv : ∀ (W : World) (p : Nat) (C : Array Value) (n c : Nat), W.heap.size = p → (convert 22 22 (.slice (some ⟨p, 0, none⟩) n c)).run Try.prog (W.alloc (.cells C 5)) = .ok (.slice (some ⟨p, 0, none⟩) n c) (W.alloc (.cells C 5 (C.size, C.size + 1))) := fun W p C n c hp => by
  subst hp
  exact Lib.run_convert_bytes_const (P := Try.prog) W 22 5 C n c Try.underlying22 Try.underlying5
 have HD1 : Hid (_) := d1
 clear d1 e0
 go_enter Try.func11, Try.ntmps11
 go_wp2_with fail
 refine c1.mono ?_
 rintro e w1 ⟨rfl, hB1⟩
 clear c1
 obtain ⟨X1, hX1⟩ : ∃ X1, (w1.alloc (.cells #[.int .i64 R0.s.n, .slice H0.ua R0.s.u.length H0.uc, .slice H0.la H0.es.length H0.lc, .int .i64 R0.cap, .int .i64 R0.shift, .int .i64 R0.edge, .int .u32 R0.recent, .bool R0.stamps, .bool R0.sacks, .int .i64 R0.fin, .bool R0.dn, .slice H0.fa R0.first.length H0.fc, .int .u32 R0.irs, .int .u32 R0.own, .bool R0.stamp] 27)).alloc (.cells #[.int .u8 99, .int .u8 100] 5 (2, 3)) = X1 := ⟨_, rfl⟩
 have bx1 : Box X1 w1.heap.size 27 (rvL R0 H0) := by rw [← hX1]; exact (Box.new w1 27 [.int .i64 R0.s.n, .slice H0.ua R0.s.u.length H0.uc, .slice H0.la H0.es.length H0.lc, .int .i64 R0.cap, .int .i64 R0.shift, .int .i64 R0.edge, .int .u32 R0.recent, .bool R0.stamps, .bool R0.sacks, .int .i64 R0.fin, .bool R0.dn, .slice H0.fa R0.first.length H0.fc, .int .u32 R0.irs, .int .u32 R0.own, .bool R0.stamp]).alloc _
 have sl1 : SlAt X1 (some ⟨w1.heap.size + 1, 0, none⟩) 2 [99, 100] := by
  rw [← hX1]
  have := lit2 (w1.alloc (.cells #[.int .i64 R0.s.n, .slice H0.ua R0.s.u.length H0.uc, .slice H0.la H0.es.length H0.lc, .int .i64 R0.cap, .int .i64 R0.shift, .int .i64 R0.edge, .int .u32 R0.recent, .bool R0.stamps, .bool R0.sacks, .int .i64 R0.fin, .bool R0.dn, .slice H0.fa R0.first.length H0.fc, .int .u32 R0.irs, .int .u32 R0.own, .bool R0.stamp] 27)) 99 100 (by decide) (by decide)
  rwa [World.size_alloc] at this
 have lx1 : Below w.heap.size w X1 := by rw [← hX1]; exact zaa (zaa hB1 _) _
 have c2 := HD1.out X1 ⟨w1.heap.size + 1, 0, none⟩ sl1
 have sz1 : X1.heap.size = w1.heap.size + 2 := by rw [← hX1]; simp
 have HX1 : Hid (Box X1 w1.heap.size 27 (rvL R0 H0) ∧ Below w.heap.size w X1 ∧ X1.heap.size = w1.heap.size + 2) := ⟨bx1, lx1, sz1⟩
 clear hB1 bx1 sl1 lx1 sz1
 go_wp2_with fail
 try rw [hX1]
 refine c2.mono ?_
 rintro e w2 ⟨k1, kt1, rfl, hO2, hG2, hB2⟩
 clear c2 hX1
 as_aux_lemma =>
  obtain ⟨X2, hX2⟩ : ∃ X2, ((w2.alloc (.cells #[.int .i64 R1.s.n, .slice k1.ua R1.s.u.length k1.uc, .slice k1.la k1.es.length k1.lc, .int .i64 R1.cap, .int .i64 R1.shift, .int .i64 R1.edge, .int .u32 R1.recent, .bool R1.stamps, .bool R1.sacks, .int .i64 R1.fin, .bool R1.dn, .slice k1.fa R1.first.length k1.fc, .int .u32 R1.irs, .int .u32 R1.own, .bool R1.stamp] 27)).alloc (.cells #[.int .i64 T1.sp, .int .i64 T1.dp, .int .u32 T1.sq, .int .u32 T1.ak, .int .i64 T1.fl, .int .i64 T1.wn, .int .i64 T1.ur, .int .i64 T1.ms, .int .i64 T1.sc, .bool T1.so, .bool T1.st, .int .u32 T1.va, .int .u32 T1.ec, .slice kt1.ka T1.sk.length kt1.kc, .slice kt1.da T1.da.length kt1.dc] 34)).alloc (.cells #[.int .u8 97, .int .u8 98] 5 (2, 3)) = X2 := ⟨_, rfl⟩
  have m2 : Below w2.heap.size w2 X2 := by rw [← hX2]; exact zaa (zaa (zaa (Below.refl _ _) _) _) _
  have g2 : Box X2 (w2.heap.size + 1) 34 [.int .i64 T1.sp, .int .i64 T1.dp, .int .u32 T1.sq, .int .u32 T1.ak, .int .i64 T1.fl, .int .i64 T1.wn, .int .i64 T1.ur, .int .i64 T1.ms, .int .i64 T1.sc, .bool T1.so, .bool T1.st, .int .u32 T1.va, .int .u32 T1.ec, .slice kt1.ka T1.sk.length kt1.kc, .slice kt1.da T1.da.length kt1.dc] := by
   rw [← hX2]
   have := (Box.new (w2.alloc (.cells #[.int .i64 R1.s.n, .slice k1.ua R1.s.u.length k1.uc, .slice k1.la k1.es.length k1.lc, .int .i64 R1.cap, .int .i64 R1.shift, .int .i64 R1.edge, .int .u32 R1.recent, .bool R1.stamps, .bool R1.sacks, .int .i64 R1.fin, .bool R1.dn, .slice k1.fa R1.first.length k1.fc, .int .u32 R1.irs, .int .u32 R1.own, .bool R1.stamp] 27)) 34 [.int .i64 T1.sp, .int .i64 T1.dp, .int .u32 T1.sq, .int .u32 T1.ak, .int .i64 T1.fl, .int .i64 T1.wn, .int .i64 T1.ur, .int .i64 T1.ms, .int .i64 T1.sc, .bool T1.so, .bool T1.st, .int .u32 T1.va, .int .u32 T1.ec, .slice kt1.ka T1.sk.length kt1.kc, .slice kt1.da T1.da.length kt1.dc]).alloc (.cells #[.int .u8 97, .int .u8 98] 5 (2, 3))
   rwa [World.size_alloc] at this
  have sl2 : SlAt X2 (some ⟨w2.heap.size + 1 + 1, 0, none⟩) 2 [97, 98] := by
   rw [← hX2]
   have := lit2 ((w2.alloc (.cells #[.int .i64 R1.s.n, .slice k1.ua R1.s.u.length k1.uc, .slice k1.la k1.es.length k1.lc, .int .i64 R1.cap, .int .i64 R1.shift, .int .i64 R1.edge, .int .u32 R1.recent, .bool R1.stamps, .bool R1.sacks, .int .i64 R1.fin, .bool R1.dn, .slice k1.fa R1.first.length k1.fc, .int .u32 R1.irs, .int .u32 R1.own, .bool R1.stamp] 27)).alloc (.cells #[.int .i64 T1.sp, .int .i64 T1.dp, .int .u32 T1.sq, .int .u32 T1.ak, .int .i64 T1.fl, .int .i64 T1.wn, .int .i64 T1.ur, .int .i64 T1.ms, .int .i64 T1.sc, .bool T1.so, .bool T1.st, .int .u32 T1.va, .int .u32 T1.ec, .slice kt1.ka T1.sk.length kt1.kc, .slice kt1.da T1.da.length kt1.dc] 34)) 97 98 (by decide) (by decide)
   rwa [World.size_alloc, World.size_alloc] at this
  have q2 : Below X1.heap.size X1 X2 := Below.on hB2 m2
  have c3 := HD2.out X2 k1 (HL1.out X2 _ k1 (hO2.later m2)) ⟨w2.heap.size + 1 + 1, 0, none⟩ sl2
  have HX2 : Hid (Box X2 w1.heap.size 27 (rvL R0 H0) ∧ Box X2 (w2.heap.size + 1) 34 [.int .i64 T1.sp, .int .i64 T1.dp, .int .u32 T1.sq, .int .u32 T1.ak, .int .i64 T1.fl, .int .i64 T1.wn, .int .i64 T1.ur, .int .i64 T1.ms, .int .i64 T1.sc, .bool T1.so, .bool T1.st, .int .u32 T1.va, .int .u32 T1.ec, .slice kt1.ka T1.sk.length kt1.kc, .slice kt1.da T1.da.length kt1.dc] ∧ SgOwn X2 (X1.heap.size + 4) T1 kt1 ∧ Below w.heap.size w X2) := ⟨HX1.out.1.later q2, g2, hG2.later m2, Below.on HX1.out.2.1 q2⟩
  clear hO2 hG2 hB2 m2 g2 sl2 q2
  go_wp2_with fail
  try rw [hX2]
  refine c3.mono ?_
  rintro e w3 ⟨k2, kt2, rfl, hO3, hG3, hB3⟩
  clear c3 hX2 HX1 HD1 HD2 HL1
  as_aux_lemma =>
   obtain ⟨X3, hX3⟩ : ∃ X3, (w3.alloc (.cells #[.int .i64 R2.s.n, .slice k2.ua R2.s.u.length k2.uc, .slice k2.la k2.es.length k2.lc, .int .i64 R2.cap, .int .i64 R2.shift, .int .i64 R2.edge, .int .u32 R2.recent, .bool R2.stamps, .bool R2.sacks, .int .i64 R2.fin, .bool R2.dn, .slice k2.fa R2.first.length k2.fc, .int .u32 R2.irs, .int .u32 R2.own, .bool R2.stamp] 27)).alloc (.cells #[.int .i64 T2.sp, .int .i64 T2.dp, .int .u32 T2.sq, .int .u32 T2.ak, .int .i64 T2.fl, .int .i64 T2.wn, .int .i64 T2.ur, .int .i64 T2.ms, .int .i64 T2.sc, .bool T2.so, .bool T2.st, .int .u32 T2.va, .int .u32 T2.ec, .slice kt2.ka T2.sk.length kt2.kc, .slice kt2.da T2.da.length kt2.dc] 34) = X3 := ⟨_, rfl⟩
   have m3 : Below w3.heap.size w3 X3 := by rw [← hX3]; exact zaa (zaa (Below.refl _ _) _) _
   have g3 : Box X3 (w3.heap.size + 1) 34 [.int .i64 T2.sp, .int .i64 T2.dp, .int .u32 T2.sq, .int .u32 T2.ak, .int .i64 T2.fl, .int .i64 T2.wn, .int .i64 T2.ur, .int .i64 T2.ms, .int .i64 T2.sc, .bool T2.so, .bool T2.st, .int .u32 T2.va, .int .u32 T2.ec, .slice kt2.ka T2.sk.length kt2.kc, .slice kt2.da T2.da.length kt2.dc] := by
    rw [← hX3]
    have := Box.new (w3.alloc (.cells #[.int .i64 R2.s.n, .slice k2.ua R2.s.u.length k2.uc, .slice k2.la k2.es.length k2.lc, .int .i64 R2.cap, .int .i64 R2.shift, .int .i64 R2.edge, .int .u32 R2.recent, .bool R2.stamps, .bool R2.sacks, .int .i64 R2.fin, .bool R2.dn, .slice k2.fa R2.first.length k2.fc, .int .u32 R2.irs, .int .u32 R2.own, .bool R2.stamp] 27)) 34 [.int .i64 T2.sp, .int .i64 T2.dp, .int .u32 T2.sq, .int .u32 T2.ak, .int .i64 T2.fl, .int .i64 T2.wn, .int .i64 T2.ur, .int .i64 T2.ms, .int .i64 T2.sc, .bool T2.so, .bool T2.st, .int .u32 T2.va, .int .u32 T2.ec, .slice kt2.ka T2.sk.length kt2.kc, .slice kt2.da T2.da.length kt2.dc]
    rwa [World.size_alloc] at this
   have x3 : Box X3 w3.heap.size 27 (rvL R2 k2) := by
    rw [← hX3]
    exact (Box.new w3 27 [.int .i64 R2.s.n, .slice k2.ua R2.s.u.length k2.uc, .slice k2.la k2.es.length k2.lc, .int .i64 R2.cap, .int .i64 R2.shift, .int .i64 R2.edge, .int .u32 R2.recent, .bool R2.stamps, .bool R2.sacks, .int .i64 R2.fin, .bool R2.dn, .slice k2.fa R2.first.length k2.fc, .int .u32 R2.irs, .int .u32 R2.own, .bool R2.stamp]).alloc _
   have q3 : Below X2.heap.size X2 X3 := Below.on hB3 m3
   have at3 := HL2.out X3 _ k2 (hO3.later m3)
   have cRd := HD3.out X3 k2 at3
   have HX3 : Hid (Box X3 w1.heap.size 27 (rvL R0 H0) ∧ Box X3 (w2.heap.size + 1) 34 [.int .i64 T1.sp, .int .i64 T1.dp, .int .u32 T1.sq, .int .u32 T1.ak, .int .i64 T1.fl, .int .i64 T1.wn, .int .i64 T1.ur, .int .i64 T1.ms, .int .i64 T1.sc, .bool T1.so, .bool T1.st, .int .u32 T1.va, .int .u32 T1.ec, .slice kt1.ka T1.sk.length kt1.kc, .slice kt1.da T1.da.length kt1.dc] ∧ SgOwn X3 (X1.heap.size + 4) T1 kt1 ∧ Below w.heap.size w X3 ∧ Box X3 w3.heap.size 27 (rvL R2 k2) ∧ Box X3 (w3.heap.size + 1) 34 [.int .i64 T2.sp, .int .i64 T2.dp, .int .u32 T2.sq, .int .u32 T2.ak, .int .i64 T2.fl, .int .i64 T2.wn, .int .i64 T2.ur, .int .i64 T2.ms, .int .i64 T2.sc, .bool T2.so, .bool T2.st, .int .u32 T2.va, .int .u32 T2.ec, .slice kt2.ka T2.sk.length kt2.kc, .slice kt2.da T2.da.length kt2.dc] ∧ SlAt X3 k2.ua k2.uc R2.s.u) := ⟨HX2.out.1.later q3, HX2.out.2.1.later q3, HX2.out.2.2.1.later q3, Below.on HX2.out.2.2.2 q3, x3, g3, at3.un⟩
   obtain ⟨c0, c1, c2, c3, c4, c5, c6, c7, c8, c9, c10, c11, c12, c13, c14⟩ := Box.c15 x3
   clear hO3 hG3 hB3 m3 g3 x3 q3 at3 HX2
   go_wp2_with fail
   try rw [hX3]
   refine cRd.mono ?_
   rintro e w4 ⟨k3, da, dc, kt3, rfl, hu3, hd3, hB4⟩
   clear cRd hX3 HD3 HL2 c0 c1 c2 c3 c4 c5 c6 c7 c8 c9 c10 c11 c12 c13 c14
   as_aux_lemma =>
    obtain ⟨X4, hX4⟩ : ∃ X4, (w4.alloc (.cells #[.int .i64 R3.s.n, .slice k3.ua R3.s.u.length k3.uc, .slice k3.la k3.es.length k3.lc, .int .i64 R3.cap, .int .i64 R3.shift, .int .i64 R3.edge, .int .u32 R3.recent, .bool R3.stamps, .bool R3.sacks, .int .i64 R3.fin, .bool R3.dn, .slice k3.fa R3.first.length k3.fc, .int .u32 R3.irs, .int .u32 R3.own, .bool R3.stamp] 27)).alloc (.cells #[.int .i64 T3.sp, .int .i64 T3.dp, .int .u32 T3.sq, .int .u32 T3.ak, .int .i64 T3.fl, .int .i64 T3.wn, .int .i64 T3.ur, .int .i64 T3.ms, .int .i64 T3.sc, .bool T3.so, .bool T3.st, .int .u32 T3.va, .int .u32 T3.ec, .slice kt3.ka T3.sk.length kt3.kc, .slice kt3.da T3.da.length kt3.dc] 34) = X4 := ⟨_, rfl⟩
    have m4 : Below w4.heap.size w4 X4 := by rw [← hX4]; exact zaa (zaa (Below.refl _ _) _) _
    have x4 : Box X4 w4.heap.size 27 (rvL R3 k3) := by
     rw [← hX4]
     exact (Box.new w4 27 [.int .i64 R3.s.n, .slice k3.ua R3.s.u.length k3.uc, .slice k3.la k3.es.length k3.lc, .int .i64 R3.cap, .int .i64 R3.shift, .int .i64 R3.edge, .int .u32 R3.recent, .bool R3.stamps, .bool R3.sacks, .int .i64 R3.fin, .bool R3.dn, .slice k3.fa R3.first.length k3.fc, .int .u32 R3.irs, .int .u32 R3.own, .bool R3.stamp]).alloc _
    have q4 : Below X3.heap.size X3 X4 := Below.on hB4 m4
    have c5 := HN.out X4
    have HX4 : Hid (Below X3.heap.size X3 X4 ∧ Box X4 w4.heap.size 27 (rvL R3 k3) ∧ SlAt X4 k3.ua k3.uc [100] ∧ SlAt X4 da dc [97, 98, 99]) := ⟨q4, x4, hu3.later m4, hd3.later m4⟩
    clear hu3 hd3 hB4 m4 x4 q4 HN
    go_wp2_with fail
    try rw [hX4]
    refine c5.mono ?_
    rintro e w5 ⟨rfl, hB5⟩
    clear c5 hX4
    as_aux_lemma =>
     go_upto_region 6 with fail
     obtain ⟨X5, hX5⟩ : ∃ X5, w5.alloc (.cells zR.toArray 27) = X5 := ⟨_, rfl⟩
     have q5 : Below X4.heap.size X4 X5 := by rw [← hX5]; exact zaa hB5 _
     have q35 : Below X3.heap.size X3 X5 := Below.on HX4.out.1 q5
     have HB5 : Hid (Below w.heap.size w X5) := Below.on HX3.out.2.2.2.1 q35
     have bb := (HX3.out.2.2.1.later q35).row.blks (by have := HX3.out.2.2.1.four; omega)
     obtain ⟨b, o, hka, hb0, hb1⟩ := bb.2 0 (by rw [HT.out.2.1]; decide)
     rw [HT.out.2.1] at hb0 hb1
     have hb0' : X5.cell? ⟨b, o, none⟩ = some (.int .u32 102) := hb0
     have hb1' : X5.cell? ⟨b, o + 1, none⟩ = some (.int .u32 104) := hb1
     have hsk : T1.sk.length = 1 := by rw [HT.out.2.1]; rfl
     have hak1 := HT.out.1
     have hak2 := HT.out.2.2.1
     have e3 := (HX3.out.2.1.later q35).cell 3 rfl
     have e13 := (HX3.out.2.1.later q35).cell 13 rfl
     have f3 := (HX3.out.2.2.2.2.2.1.later q35).cell 3 rfl
     have g1 := (HX3.out.2.2.2.2.1.later q35).cell 1 rfl
     have k1' := (HX4.out.2.1.later q5).cell 1 rfl
     have v1 := conv_is k2.ua k2.uc R2.s.u X5 (HX3.out.2.2.2.2.2.2.later q35).1 R2.s.u.length rfl ⟨#[97, 98, 99, 100]⟩ (by rw [HT.out.2.2.2.1]; rfl)
     have v2 := conv_is da dc [97, 98, 99] X5 (HX4.out.2.2.2.later q5).1 3 rfl ⟨#[97, 98, 99]⟩ (by rfl)
     have v3 := conv_is k3.ua k3.uc [100] X5 (HX4.out.2.2.1.later q5).1 R3.s.u.length (by rw [HT.out.2.2.2.2.1]) ⟨#[100]⟩ (by rfl)
     have cWn := HW.out X5
     rw [HT.out.2.2.2.2.2] at cWn
     have bx := HX3.out.1.later q35
     try rw [hX5]
     clear hX5
     have hbx := bx
     obtain ⟨c0, c1, c2, c3, c4, c5, c6, c7, c8, c9, c10, c11, c12, c13, c14⟩ := Box.c15 hbx
     clear hbx bx HX3 HX4 HT HW q5 q35 hb0 hb1 bb hB5
     as_aux_lemma =>
      go_wp2_with fail
      refine cWn.mono ?_
      rintro e w6 ⟨rfl, hB6⟩
      have HB6 : Hid (Below w.heap.size w w6) := Below.on HB5.out hB6
      clear cWn hB6 HB5 c0 c1 c2 c3 c4 c5 c6 c7 c8 c9 c10 c11 c12 c13 c14 v1 v2 v3 e3 e13 f3 g1 k1'
      as_aux_lemma =>
       go_wp2_with fail
       go_ret
       exact ⟨rfl, HB6.out⟩
end Go.Proofs.Ytkigcdmlkmcdcaa

