/- The walk of RecvWindow: a receiver that may be. -/
import Derived.Test.YtkigcdmlkmcdcaaMWinWalk
namespace Go.Proofs.Ytkigcdmlkmcdcaa
open Go.ChangeShapes Go.WideShapes Go.ChangeAt Go.RowKit
set_option linter.unusedVariables false
set_option linter.unusedSimpArgs false

theorem win_nums {cap : Int} {len m : Nat} {wn wx ye edge n sh sw : Int} (p1 : 0 ≤ wn) (p2 : wn ≤ cap - (len : Int)) (p3 : wn ≤ wx) (p4 : wx ≤ wn + (m : Int) + (2 : Int) ^ sh.toNat) (p5 : sw * (2 : Int) ^ sh.toNat = wn) (p6 : edge ≤ ye) (p7 : ye ≤ edge ∨ ye ≤ n + wn) (l1 : 0 ≤ n ∧ n ≤ 562949953421312) (l2 : 1 ≤ cap ∧ cap ≤ 1073741824) (l3 : 0 ≤ sh ∧ sh ≤ 14) (l4 : (len : Int) ≤ cap) (p9 : m ≤ len) (p10 : 0 ≤ edge) (p11 : edge ≤ 2000000000000000) :
    IntKind.i64.wrap (cap - (len : Int)) = cap - (len : Int) ∧ IntKind.i64.wrap (wn + (m : Int)) = wn + (m : Int) ∧ IntKind.u64.wrap sh = sh ∧ IntKind.i64.wrap ((2 : Int) ^ sh.toNat) = (2 : Int) ^ sh.toNat ∧ IntKind.i64.wrap (wn + (m : Int) + (2 : Int) ^ sh.toNat) = wn + (m : Int) + (2 : Int) ^ sh.toNat ∧ IntKind.i64.wrap (sw * (2 : Int) ^ sh.toNat) = wn ∧ decide (0 ≤ wn) = true ∧ decide (wn ≤ cap - (len : Int)) = true ∧ decide (wn ≤ wx) = true ∧ decide (wx ≤ wn + (m : Int) + (2 : Int) ^ sh.toNat) = true ∧ decide (edge ≤ ye) = true ∧ decide (ye ≤ if edge < n + wn then n + wn else edge) = true ∧ IntKind.i64.wrap (n + wn) = n + wn ∧ (wn == wn) = true := by
  have h1 := Pl.two_pos sh.toNat
  have h2 : (2 : Int) ^ sh.toNat ≤ 16384 := by
    obtain ⟨k, rfl⟩ : ∃ k : Nat, sh = k := ⟨sh.toNat, by omega⟩
    have hk : k ≤ 14 := by omega
    simp only [Int.toNat_natCast]
    have : ∀ j, j ≤ 14 → (2 : Int) ^ j ≤ 16384 := by decide
    exact this k hk
  rw [p5]
  obtain ⟨U, hU⟩ : ∃ U, (2 : Int) ^ sh.toNat = U := ⟨_, rfl⟩
  rw [hU] at h1 h2 p4 ⊢
  have w64 : ∀ x : Int, -9223372036854775808 ≤ x → x ≤ 9223372036854775807 → IntKind.i64.wrap x = x := fun x a b => by simp [IntKind.wrap, IntKind.signed, IntKind.bits]; omega
  refine ⟨w64 _ (by omega) (by omega), w64 _ (by omega) (by omega), ?_, w64 _ (by omega) (by omega), w64 _ (by omega) (by omega), w64 _ (by omega) (by omega), by simp; omega, by simp; omega, by simp; omega, by simp; omega, by simp; omega, ?_, w64 _ (by omega) (by omega), by simp⟩
  · simp [IntKind.wrap, IntKind.signed, IntKind.bits]; omega
  · simp; split <;> omega
set_option maxRecDepth 100000 in
set_option maxHeartbeats 16000000 in
theorem win_y (r : Pl.Rv) (h : Hd) (n : Int) (w : World) (H : RvAt w r h) (hok : r.Ok) : Calls Try.prog 3 #[.agg #[.int .i64 r.s.n, .slice h.ua r.s.u.length h.uc, .slice h.la h.es.length h.lc, .int .i64 r.cap, .int .i64 r.shift, .int .i64 r.edge, .int .u32 r.recent, .bool r.stamps, .bool r.sacks, .int .i64 r.fin, .bool r.dn, .slice h.fa r.first.length h.fc, .int .u32 r.irs, .int .u32 r.own, .bool r.stamp], .int .i64 n] w fun e w' => e = .returned (.bool true) ∧ Below w.heap.size w w' := by
  obtain ⟨W0, hW0⟩ : ∃ W0, w.alloc (.cells #[.int .i64 r.s.n, .slice h.ua r.s.u.length h.uc, .slice h.la h.es.length h.lc, .int .i64 r.cap, .int .i64 r.shift, .int .i64 r.edge, .int .u32 r.recent, .bool r.stamps, .bool r.sacks, .int .i64 r.fin, .bool r.dn, .slice h.fa r.first.length h.fc, .int .u32 r.irs, .int .u32 r.own, .bool r.stamp] 27) = W0 := ⟨_, rfl⟩
  have hX : Box W0 w.heap.size 27 [.int .i64 r.s.n, .slice h.ua r.s.u.length h.uc, .slice h.la h.es.length h.lc, .int .i64 r.cap, .int .i64 r.shift, .int .i64 r.edge, .int .u32 r.recent, .bool r.stamps, .bool r.sacks, .int .i64 r.fin, .bool r.dn, .slice h.fa r.first.length h.fc, .int .u32 r.irs, .int .u32 r.own, .bool r.stamp] := by rw [← hW0]; exact Box.new w 27 [.int .i64 r.s.n, .slice h.ua r.s.u.length h.uc, .slice h.la h.es.length h.lc, .int .i64 r.cap, .int .i64 r.shift, .int .i64 r.edge, .int .u32 r.recent, .bool r.stamps, .bool r.sacks, .int .i64 r.fin, .bool r.dn, .slice h.fa r.first.length h.fc, .int .u32 r.irs, .int .u32 r.own, .bool r.stamp]
  have b0 : Below w.heap.size w W0 := by rw [← hW0]; exact below_more (Below.refl _ _) _
  obtain ⟨c0, c1, c2, c3, c4, c5, c6, c7, c8, c9, c10, c11, c12, c13, c14⟩ := Box.c15 hX
  have k1 := recvCheck_ok r h W0 (H.later b0) hok
  have HB : Hid (Below w.heap.size w W0 ∧ Box W0 w.heap.size 27 [.int .i64 r.s.n, .slice h.ua r.s.u.length h.uc, .slice h.la h.es.length h.lc, .int .i64 r.cap, .int .i64 r.shift, .int .i64 r.edge, .int .u32 r.recent, .bool r.stamps, .bool r.sacks, .int .i64 r.fin, .bool r.dn, .slice h.fa r.first.length h.fc, .int .u32 r.irs, .int .u32 r.own, .bool r.stamp]) := ⟨b0, hX⟩
  have k2 := heads_any
  have HK : Hid (∀ W, Below W0.heap.size W0 W → Calls Try.prog 10 #[.agg #[.int .i64 r.s.n, .slice h.ua r.s.u.length h.uc, .slice h.la h.es.length h.lc, .int .i64 r.cap, .int .i64 r.shift, .int .i64 r.edge, .int .u32 r.recent, .bool r.stamps, .bool r.sacks, .int .i64 r.fin, .bool r.dn, .slice h.fa r.first.length h.fc, .int .u32 r.irs, .int .u32 r.own, .bool r.stamp]] W fun e w' => e = .returned (.int .i64 r.window) ∧ Below W.heap.size W w') := fun W hW => recvWindow_ok r h W (H.later (Below.on b0 hW)) hok
  obtain ⟨R, hR⟩ : ∃ R, Pl.readR r n = R := ⟨_, rfl⟩
  obtain ⟨T, hT⟩ : ∃ T, readS r n = T := ⟨_, rfl⟩
  obtain ⟨Q, hQ⟩ : ∃ Q, Pl.rdB r n = Q := ⟨_, rfl⟩
  obtain ⟨m, hm⟩ : ∃ m, Pl.rdN r n = m := ⟨_, rfl⟩
  obtain ⟨Y, hY⟩ : ∃ Y, Pl.tellR r = Y := ⟨_, rfl⟩
  obtain ⟨Z, hZ⟩ : ∃ Z, tellS r r.first = Z := ⟨_, rfl⟩
  obtain ⟨wn, hwn⟩ : ∃ wn, r.window = wn := ⟨_, rfl⟩
  rw [hwn] at HK
  have HRd : Hid (∀ W, Below W0.heap.size W0 W → Calls Try.prog 12 #[.agg #[.int .i64 r.s.n, .slice h.ua r.s.u.length h.uc, .slice h.la h.es.length h.lc, .int .i64 r.cap, .int .i64 r.shift, .int .i64 r.edge, .int .u32 r.recent, .bool r.stamps, .bool r.sacks, .int .i64 r.fin, .bool r.dn, .slice h.fa r.first.length h.fc, .int .u32 r.irs, .int .u32 r.own, .bool r.stamp], .int .i64 n] W fun e w' => ∃ (k : Hd) (da : Option Addr) (dc : Nat) (ks : Hs), e = .returned (.tuple #[.agg #[.int .i64 R.s.n, .slice k.ua R.s.u.length k.uc, .slice k.la k.es.length k.lc, .int .i64 R.cap, .int .i64 R.shift, .int .i64 R.edge, .int .u32 R.recent, .bool R.stamps, .bool R.sacks, .int .i64 R.fin, .bool R.dn, .slice k.fa R.first.length k.fc, .int .u32 R.irs, .int .u32 R.own, .bool R.stamp], .slice da m dc, .agg #[.int .i64 T.sp, .int .i64 T.dp, .int .u32 T.sq, .int .u32 T.ak, .int .i64 T.fl, .int .i64 T.wn, .int .i64 T.ur, .int .i64 T.ms, .int .i64 T.sc, .bool T.so, .bool T.st, .int .u32 T.va, .int .u32 T.ec, .slice ks.ka T.sk.length ks.kc, .slice ks.da T.da.length ks.dc], .bool Q, .int .i64 0]) ∧ RvAt w' R k ∧ Below W.heap.size W w') := fun W hW => by
    have key := recvRead_ok r h n W (H.later (Below.on b0 hW)) hok
    have hro := (Pl.read_ok (n := n) hok).1
    rw [hR] at hro
    rw [hR, hT, hQ, hm] at key
    refine key.mono ?_
    rintro e w' ⟨k, da, dc, ks, he, hO, _, _, hb⟩
    have hii : R.recent = r.recent ∧ R.irs = r.irs ∧ R.own = r.own := by
      rw [← hR]; unfold Pl.readR; split <;> exact ⟨rfl, rfl, rfl⟩
    refine ⟨k, da, dc, ks, he, hO.lies ?_ ?_ ?_ ?_ ?_ ?_ ?_ ?_, hb⟩
    · have := hro.n0; have := hro.nf; simp only [Pl.farI] at *; unfold I64; omega
    · have := hro.c1; have := hro.cm; unfold I64; omega
    · have := hro.s0; have := hro.s14; unfold I64; omega
    · have := hro.e0; have := hro.er; have h2 : R.reach = R.s.bot + R.cap := rfl; have h3 : R.s.bot = R.s.n - (R.s.u.length : Int) := rfl; have := hro.nf; have := hro.cm; simp only [Pl.farI] at *; unfold I64; omega
    · rw [hii.1]; exact H.recent
    · have := hro.f1; have := hro.ff; simp only [Pl.farI] at *; unfold I64; omega
    · rw [hii.2.1]; exact H.irs
    · rw [hii.2.2]; exact H.own
  have HTl : Hid (∀ W, Below W0.heap.size W0 W → Calls Try.prog 13 #[.agg #[.int .i64 r.s.n, .slice h.ua r.s.u.length h.uc, .slice h.la h.es.length h.lc, .int .i64 r.cap, .int .i64 r.shift, .int .i64 r.edge, .int .u32 r.recent, .bool r.stamps, .bool r.sacks, .int .i64 r.fin, .bool r.dn, .slice h.fa r.first.length h.fc, .int .u32 r.irs, .int .u32 r.own, .bool r.stamp]] W fun e w' => ∃ (k : Hd) (ks : Hs), e = .returned (.tuple #[.agg #[.int .i64 Y.s.n, .slice k.ua Y.s.u.length k.uc, .slice k.la k.es.length k.lc, .int .i64 Y.cap, .int .i64 Y.shift, .int .i64 Y.edge, .int .u32 Y.recent, .bool Y.stamps, .bool Y.sacks, .int .i64 Y.fin, .bool Y.dn, .slice k.fa Y.first.length k.fc, .int .u32 Y.irs, .int .u32 Y.own, .bool Y.stamp], .agg #[.int .i64 Z.sp, .int .i64 Z.dp, .int .u32 Z.sq, .int .u32 Z.ak, .int .i64 Z.fl, .int .i64 Z.wn, .int .i64 Z.ur, .int .i64 Z.ms, .int .i64 Z.sc, .bool Z.so, .bool Z.st, .int .u32 Z.va, .int .u32 Z.ec, .slice ks.ka Z.sk.length ks.kc, .slice ks.da Z.da.length ks.dc]]) ∧ Below W.heap.size W w') := fun W hW => by
    have key := recvTell_ok r h W (H.later (Below.on b0 hW)) hok
    rw [hY, hZ] at key
    exact key.mono fun e w' ⟨k, ks, he, _, _, hb⟩ => ⟨k, ks, he, hb⟩
  have HWx : Hid (R.Ok) := by have := (Pl.read_ok (n := n) hok).1; rw [hR] at this; exact this
  obtain ⟨wx, hwx⟩ : ∃ wx, R.window = wx := ⟨_, rfl⟩
  have HP : Hid (0 ≤ wn ∧ wn ≤ r.cap - (r.s.u.length : Int) ∧ wn ≤ wx ∧ wx ≤ wn + (m : Int) + (2 : Int) ^ r.shift.toNat ∧ Z.wn * (2 : Int) ^ r.shift.toNat = wn ∧ r.edge ≤ Y.edge ∧ (Y.edge ≤ r.edge ∨ Y.edge ≤ r.s.n + wn) ∧ lowB r ∧ m ≤ r.s.u.length ∧ 0 ≤ r.edge ∧ r.edge ≤ 2000000000000000) := by
    have w1 := Pl.window_bd hok.uc
    have w2 := Pl.window_cut (n := n) hok
    have w3 := (Pl.read_ok (n := n) hok).2.2.2
    have w4 := Pl.window_unit r
    have w5 := (Pl.tell_ok hok).2
    have e1 : Z.wn = r.window / (2 : Int) ^ r.shift.toNat := by rw [← hZ]; rfl
    have e2 : Y.edge = Pl.maxJ r.edge (r.s.n + r.window) := by rw [← hY]; rfl
    have h2 : r.reach = r.s.bot + r.cap := rfl
    have h3 : r.s.bot = r.s.n - (r.s.u.length : Int) := rfl
    have hml : m ≤ r.s.u.length := by
      rw [← hm]; unfold Pl.rdN Pl.minJ Pl.maxJ; split <;> split <;> omega
    rw [hR, hwx] at w3
    rw [hwn] at w1 w2 w4 e1 e2
    rw [← w3, hm] at w2
    rw [← e1] at w4
    rw [hY] at w5
    refine ⟨w1.1, w1.2, w2.1, w2.2, w4, w5, ?_, ?_, hml, hok.e0, ?_⟩
    · rw [e2]; unfold Pl.maxJ; split
      · exact .inr (by omega)
      · exact .inl (by omega)
    · have := hok.nf; simp only [Pl.farI] at this
      exact ⟨⟨hok.n0, this⟩, ⟨hok.c1, hok.cm⟩, ⟨hok.s0, hok.s14⟩, hok.uc, hok.un⟩
    · have := hok.er; have := hok.nf; have := hok.cm; have := hok.un; simp only [Pl.farI] at *; omega
  clear hX b0 H hok hR hT hQ hm hY hZ hwn
  go_enter Try.func3, Try.ntmps3
  go_wp2_with fail
  refine k1.mono ?_
  rintro e w1 ⟨rfl, hB1⟩
  clear c0 c1 c2 c3 c4 c5 c6 c7 c8 c9 c10 c11 c12 c13 c14 k1 hW0
  obtain ⟨c0, c1, c2, c3, c4, c5, c6, c7, c8, c9, c10, c11, c12, c13, c14⟩ := Box.c15 (HB.out.2.later hB1)
  go_wp2_with fail
  refine (HK.out _ hB1).mono ?_
  rintro e w2 ⟨rfl, hB2'⟩
  have hB2 : Below W0.heap.size W0 w2 := Below.on hB1 hB2'
  clear c0 c1 c2 c3 c4 c5 c6 c7 c8 c9 c10 c11 c12 c13 c14 hB1 hB2' HK
  as_aux_lemma =>
    obtain ⟨c0, c1, c2, c3, c4, c5, c6, c7, c8, c9, c10, c11, c12, c13, c14⟩ := Box.c15 (HB.out.2.later hB2)
    go_wp2_with fail
    refine (HRd.out _ hB2).mono ?_
    rintro e w3 ⟨k, da, dc, ks, rfl, hA3, hB3'⟩
    have hB3 : Below W0.heap.size W0 w3 := Below.on hB2 hB3'
    clear c0 c1 c2 c3 c4 c5 c6 c7 c8 c9 c10 c11 c12 c13 c14 hB2 hB3' HRd
    obtain ⟨X3, hX3⟩ : ∃ X3, (w3.alloc (.cells #[.int .i64 R.s.n, .slice k.ua R.s.u.length k.uc, .slice k.la k.es.length k.lc, .int .i64 R.cap, .int .i64 R.shift, .int .i64 R.edge, .int .u32 R.recent, .bool R.stamps, .bool R.sacks, .int .i64 R.fin, .bool R.dn, .slice k.fa R.first.length k.fc, .int .u32 R.irs, .int .u32 R.own, .bool R.stamp] 27)).alloc (.cells #[.int .i64 T.sp, .int .i64 T.dp, .int .u32 T.sq, .int .u32 T.ak, .int .i64 T.fl, .int .i64 T.wn, .int .i64 T.ur, .int .i64 T.ms, .int .i64 T.sc, .bool T.so, .bool T.st, .int .u32 T.va, .int .u32 T.ec, .slice ks.ka T.sk.length ks.kc, .slice ks.da T.da.length ks.dc] 34) = X3 := ⟨_, rfl⟩
    have bX : Box X3 w3.heap.size 27 [.int .i64 R.s.n, .slice k.ua R.s.u.length k.uc, .slice k.la k.es.length k.lc, .int .i64 R.cap, .int .i64 R.shift, .int .i64 R.edge, .int .u32 R.recent, .bool R.stamps, .bool R.sacks, .int .i64 R.fin, .bool R.dn, .slice k.fa R.first.length k.fc, .int .u32 R.irs, .int .u32 R.own, .bool R.stamp] := by rw [← hX3]; exact (Box.new w3 27 [.int .i64 R.s.n, .slice k.ua R.s.u.length k.uc, .slice k.la k.es.length k.lc, .int .i64 R.cap, .int .i64 R.shift, .int .i64 R.edge, .int .u32 R.recent, .bool R.stamps, .bool R.sacks, .int .i64 R.fin, .bool R.dn, .slice k.fa R.first.length k.fc, .int .u32 R.irs, .int .u32 R.own, .bool R.stamp]).alloc _
    have b3 : Below w3.heap.size w3 X3 := by rw [← hX3]; exact below_more (below_more (Below.refl _ _) _) _
    have HX3 : Hid (Box X3 w3.heap.size 27 [.int .i64 R.s.n, .slice k.ua R.s.u.length k.uc, .slice k.la k.es.length k.lc, .int .i64 R.cap, .int .i64 R.shift, .int .i64 R.edge, .int .u32 R.recent, .bool R.stamps, .bool R.sacks, .int .i64 R.fin, .bool R.dn, .slice k.fa R.first.length k.fc, .int .u32 R.irs, .int .u32 R.own, .bool R.stamp] ∧ Below W0.heap.size W0 X3 ∧ RvAt X3 R k) := ⟨bX, Below.on hB3 b3, hA3.later b3⟩
    obtain ⟨c0, c1, c2, c3, c4, c5, c6, c7, c8, c9, c10, c11, c12, c13, c14⟩ := Box.c15 (HB.out.2.later HX3.out.2.1)
    clear bX b3 hB3 hA3
    as_aux_lemma =>
      go_wp2_with fail
      try rw [hX3]
      refine (HTl.out _ HX3.out.2.1).mono ?_
      rintro e w4 ⟨ky, kz, rfl, hB4⟩
      clear c0 c1 c2 c3 c4 c5 c6 c7 c8 c9 c10 c11 c12 c13 c14 hX3 HTl
      go_upto_region 6 with fail
      obtain ⟨X4, hX4⟩ : ∃ X4, (w4.alloc (.cells #[.int .i64 Y.s.n, .slice ky.ua Y.s.u.length ky.uc, .slice ky.la ky.es.length ky.lc, .int .i64 Y.cap, .int .i64 Y.shift, .int .i64 Y.edge, .int .u32 Y.recent, .bool Y.stamps, .bool Y.sacks, .int .i64 Y.fin, .bool Y.dn, .slice ky.fa Y.first.length ky.fc, .int .u32 Y.irs, .int .u32 Y.own, .bool Y.stamp] 27)).alloc (.cells #[.int .i64 Z.sp, .int .i64 Z.dp, .int .u32 Z.sq, .int .u32 Z.ak, .int .i64 Z.fl, .int .i64 Z.wn, .int .i64 Z.ur, .int .i64 Z.ms, .int .i64 Z.sc, .bool Z.so, .bool Z.st, .int .u32 Z.va, .int .u32 Z.ec, .slice kz.ka Z.sk.length kz.kc, .slice kz.da Z.da.length kz.dc] 34) = X4 := ⟨_, rfl⟩
      have bY0 : Box X4 w4.heap.size 27 [.int .i64 Y.s.n, .slice ky.ua Y.s.u.length ky.uc, .slice ky.la ky.es.length ky.lc, .int .i64 Y.cap, .int .i64 Y.shift, .int .i64 Y.edge, .int .u32 Y.recent, .bool Y.stamps, .bool Y.sacks, .int .i64 Y.fin, .bool Y.dn, .slice ky.fa Y.first.length ky.fc, .int .u32 Y.irs, .int .u32 Y.own, .bool Y.stamp] := by rw [← hX4]; exact (Box.new w4 27 [.int .i64 Y.s.n, .slice ky.ua Y.s.u.length ky.uc, .slice ky.la ky.es.length ky.lc, .int .i64 Y.cap, .int .i64 Y.shift, .int .i64 Y.edge, .int .u32 Y.recent, .bool Y.stamps, .bool Y.sacks, .int .i64 Y.fin, .bool Y.dn, .slice ky.fa Y.first.length ky.fc, .int .u32 Y.irs, .int .u32 Y.own, .bool Y.stamp]).alloc _
      have bS0 : Box X4 (w4.heap.size + 1) 34 [.int .i64 Z.sp, .int .i64 Z.dp, .int .u32 Z.sq, .int .u32 Z.ak, .int .i64 Z.fl, .int .i64 Z.wn, .int .i64 Z.ur, .int .i64 Z.ms, .int .i64 Z.sc, .bool Z.so, .bool Z.st, .int .u32 Z.va, .int .u32 Z.ec, .slice kz.ka Z.sk.length kz.kc, .slice kz.da Z.da.length kz.dc] := by
        rw [← hX4]
        have := Box.new (w4.alloc (.cells #[.int .i64 Y.s.n, .slice ky.ua Y.s.u.length ky.uc, .slice ky.la ky.es.length ky.lc, .int .i64 Y.cap, .int .i64 Y.shift, .int .i64 Y.edge, .int .u32 Y.recent, .bool Y.stamps, .bool Y.sacks, .int .i64 Y.fin, .bool Y.dn, .slice ky.fa Y.first.length ky.fc, .int .u32 Y.irs, .int .u32 Y.own, .bool Y.stamp] 27)) 34 [.int .i64 Z.sp, .int .i64 Z.dp, .int .u32 Z.sq, .int .u32 Z.ak, .int .i64 Z.fl, .int .i64 Z.wn, .int .i64 Z.ur, .int .i64 Z.ms, .int .i64 Z.sc, .bool Z.so, .bool Z.st, .int .u32 Z.va, .int .u32 Z.ec, .slice kz.ka Z.sk.length kz.kc, .slice kz.da Z.da.length kz.dc]
        rwa [World.size_alloc] at this
      have b4 : Below X3.heap.size X3 X4 := Below.on hB4 (by rw [← hX4]; exact below_more (below_more (Below.refl _ _) _) _)
      try rw [hX4]
      clear hX4 hB4
      obtain ⟨px, hpx⟩ : ∃ px, w3.heap.size = px := ⟨_, rfl⟩
      obtain ⟨py, hpy⟩ : ∃ py, w4.heap.size = py := ⟨_, rfl⟩
      obtain ⟨pz, hps⟩ : ∃ pz, py + 1 = pz := ⟨_, rfl⟩
      obtain ⟨ye, hye⟩ : ∃ ye, Y.edge = ye := ⟨_, rfl⟩
      obtain ⟨sw, hsw⟩ : ∃ sw, Z.wn = sw := ⟨_, rfl⟩
      rw [hpx] at HX3
      rw [hpy] at bY0 bS0
      rw [hps] at bS0
      rw [hye, hsw] at HP
      have bY : ∀ W, Below X4.heap.size X4 W → W.cell? ⟨py, 5, none⟩ = some (.int .i64 ye) := fun W hW => by have := (bY0.later hW).cell 5 rfl; rwa [hye] at this
      have bS : ∀ W, Below X4.heap.size X4 W → W.cell? ⟨pz, 5, none⟩ = some (.int .i64 sw) := fun W hW => by have := (bS0.later hW).cell 5 rfl; rwa [hsw] at this
      have HF : Hid (Below w.heap.size w X4 ∧ RvAt X4 R k ∧ Box X4 w.heap.size 27 [.int .i64 r.s.n, .slice h.ua r.s.u.length h.uc, .slice h.la h.es.length h.lc, .int .i64 r.cap, .int .i64 r.shift, .int .i64 r.edge, .int .u32 r.recent, .bool r.stamps, .bool r.sacks, .int .i64 r.fin, .bool r.dn, .slice h.fa r.first.length h.fc, .int .u32 r.irs, .int .u32 r.own, .bool r.stamp] ∧ Box X4 px 27 [.int .i64 R.s.n, .slice k.ua R.s.u.length k.uc, .slice k.la k.es.length k.lc, .int .i64 R.cap, .int .i64 R.shift, .int .i64 R.edge, .int .u32 R.recent, .bool R.stamps, .bool R.sacks, .int .i64 R.fin, .bool R.dn, .slice k.fa R.first.length k.fc, .int .u32 R.irs, .int .u32 R.own, .bool R.stamp] ∧ (∀ W, Below X4.heap.size X4 W → W.cell? ⟨py, 5, none⟩ = some (.int .i64 ye)) ∧ (∀ W, Below X4.heap.size X4 W → W.cell? ⟨pz, 5, none⟩ = some (.int .i64 sw))) := ⟨Below.on HB.out.1 (Below.on HX3.out.2.1 b4), HX3.out.2.2.later b4, HB.out.2.later (Below.on HX3.out.2.1 b4), HX3.out.1.later b4, bY, bS⟩
      try rw [hpx]
      try rw [hpy]
      try rw [hps]
      clear hpx hpy hps hye hsw bY0 bS0 bY bS b4 HX3
      have HKx : Hid (∀ W, Below X4.heap.size X4 W → Calls Try.prog 10 #[.agg #[.int .i64 R.s.n, .slice k.ua R.s.u.length k.uc, .slice k.la k.es.length k.lc, .int .i64 R.cap, .int .i64 R.shift, .int .i64 R.edge, .int .u32 R.recent, .bool R.stamps, .bool R.sacks, .int .i64 R.fin, .bool R.dn, .slice k.fa R.first.length k.fc, .int .u32 R.irs, .int .u32 R.own, .bool R.stamp]] W fun e w' => e = .returned (.int .i64 wx) ∧ Below W.heap.size W w') := fun W hW => hwx ▸ recvWindow_ok R k W (HF.out.2.1.later hW) HWx.out
      obtain ⟨p1, p2, p3, p4, p5, p6, p7, ⟨⟨l1, l2⟩, ⟨l3, l4⟩, ⟨l5, l6⟩, l7, l8⟩, p9, p10, p11⟩ := HP.out
      have HC : Hid (∀ W, Below X4.heap.size X4 W → W.cell? ⟨w.heap.size, 0, none⟩ = some (.int .i64 r.s.n) ∧ W.cell? ⟨w.heap.size, 1, none⟩ = some (.slice h.ua r.s.u.length h.uc) ∧ W.cell? ⟨w.heap.size, 3, none⟩ = some (.int .i64 r.cap) ∧ W.cell? ⟨w.heap.size, 4, none⟩ = some (.int .i64 r.shift) ∧ W.cell? ⟨w.heap.size, 5, none⟩ = some (.int .i64 r.edge) ∧ W.cell? ⟨px, 0, none⟩ = some (.int .i64 R.s.n) ∧ W.cell? ⟨px, 1, none⟩ = some (.slice k.ua R.s.u.length k.uc) ∧ W.cell? ⟨px, 2, none⟩ = some (.slice k.la k.es.length k.lc) ∧ W.cell? ⟨px, 3, none⟩ = some (.int .i64 R.cap) ∧ W.cell? ⟨px, 4, none⟩ = some (.int .i64 R.shift) ∧ W.cell? ⟨px, 5, none⟩ = some (.int .i64 R.edge) ∧ W.cell? ⟨px, 6, none⟩ = some (.int .u32 R.recent) ∧ W.cell? ⟨px, 7, none⟩ = some (.bool R.stamps) ∧ W.cell? ⟨px, 8, none⟩ = some (.bool R.sacks) ∧ W.cell? ⟨px, 9, none⟩ = some (.int .i64 R.fin) ∧ W.cell? ⟨px, 10, none⟩ = some (.bool R.dn) ∧ W.cell? ⟨px, 11, none⟩ = some (.slice k.fa R.first.length k.fc) ∧ W.cell? ⟨px, 12, none⟩ = some (.int .u32 R.irs) ∧ W.cell? ⟨px, 13, none⟩ = some (.int .u32 R.own) ∧ W.cell? ⟨px, 14, none⟩ = some (.bool R.stamp) ∧ W.cell? ⟨py, 5, none⟩ = some (.int .i64 ye) ∧ W.cell? ⟨pz, 5, none⟩ = some (.int .i64 sw)) := fun W hW => ⟨(HF.out.2.2.1.later hW).cell 0 rfl, (HF.out.2.2.1.later hW).cell 1 rfl, (HF.out.2.2.1.later hW).cell 3 rfl, (HF.out.2.2.1.later hW).cell 4 rfl, (HF.out.2.2.1.later hW).cell 5 rfl, (HF.out.2.2.2.1.later hW).cell 0 rfl, (HF.out.2.2.2.1.later hW).cell 1 rfl, (HF.out.2.2.2.1.later hW).cell 2 rfl, (HF.out.2.2.2.1.later hW).cell 3 rfl, (HF.out.2.2.2.1.later hW).cell 4 rfl, (HF.out.2.2.2.1.later hW).cell 5 rfl, (HF.out.2.2.2.1.later hW).cell 6 rfl, (HF.out.2.2.2.1.later hW).cell 7 rfl, (HF.out.2.2.2.1.later hW).cell 8 rfl, (HF.out.2.2.2.1.later hW).cell 9 rfl, (HF.out.2.2.2.1.later hW).cell 10 rfl, (HF.out.2.2.2.1.later hW).cell 11 rfl, (HF.out.2.2.2.1.later hW).cell 12 rfl, (HF.out.2.2.2.1.later hW).cell 13 rfl, (HF.out.2.2.2.1.later hW).cell 14 rfl, HF.out.2.2.2.2.1 W hW, HF.out.2.2.2.2.2 W hW⟩
      obtain ⟨S, hS⟩ : ∃ S : World → Prop, S = fun W => W.cell? ⟨w.heap.size, 0, none⟩ = some (.int .i64 r.s.n) ∧ W.cell? ⟨w.heap.size, 1, none⟩ = some (.slice h.ua r.s.u.length h.uc) ∧ W.cell? ⟨w.heap.size, 3, none⟩ = some (.int .i64 r.cap) ∧ W.cell? ⟨w.heap.size, 4, none⟩ = some (.int .i64 r.shift) ∧ W.cell? ⟨w.heap.size, 5, none⟩ = some (.int .i64 r.edge) ∧ W.cell? ⟨px, 0, none⟩ = some (.int .i64 R.s.n) ∧ W.cell? ⟨px, 1, none⟩ = some (.slice k.ua R.s.u.length k.uc) ∧ W.cell? ⟨px, 2, none⟩ = some (.slice k.la k.es.length k.lc) ∧ W.cell? ⟨px, 3, none⟩ = some (.int .i64 R.cap) ∧ W.cell? ⟨px, 4, none⟩ = some (.int .i64 R.shift) ∧ W.cell? ⟨px, 5, none⟩ = some (.int .i64 R.edge) ∧ W.cell? ⟨px, 6, none⟩ = some (.int .u32 R.recent) ∧ W.cell? ⟨px, 7, none⟩ = some (.bool R.stamps) ∧ W.cell? ⟨px, 8, none⟩ = some (.bool R.sacks) ∧ W.cell? ⟨px, 9, none⟩ = some (.int .i64 R.fin) ∧ W.cell? ⟨px, 10, none⟩ = some (.bool R.dn) ∧ W.cell? ⟨px, 11, none⟩ = some (.slice k.fa R.first.length k.fc) ∧ W.cell? ⟨px, 12, none⟩ = some (.int .u32 R.irs) ∧ W.cell? ⟨px, 13, none⟩ = some (.int .u32 R.own) ∧ W.cell? ⟨px, 14, none⟩ = some (.bool R.stamp) ∧ W.cell? ⟨py, 5, none⟩ = some (.int .i64 ye) ∧ W.cell? ⟨pz, 5, none⟩ = some (.int .i64 sw) := ⟨_, rfl⟩
      have HSK : Hid (∀ W, Below X4.heap.size X4 W → S W) := fun W hW => by rw [hS]; exact HC.out W hW
      obtain ⟨hn1, hn2, hn3, hn4, hn5, hn6, g1, g2, g3, g4, g5, g6, hn7, g7⟩ := win_nums (cap := r.cap) (len := r.s.u.length) (m := m) (wn := wn) (wx := wx) (ye := ye) (edge := r.edge) (n := r.s.n) (sh := r.shift) (sw := sw) p1 p2 p3 p4 p5 p6 p7 ⟨l1, l2⟩ ⟨l3, l4⟩ ⟨l5, l6⟩ l7 p9 p10 p11
      have HFB : Hid (Below w.heap.size w X4) := HF.out.1
      clear HWx HP HB p1 p2 p3 p4 p5 p6 p7 l1 l2 l3 l4 l7 l8 p9 p10 p11 HC HF
      simp only [List.append_eq, List.cons_append, List.nil_append]
      obtain ⟨d6, hd6⟩ : ∃ d6, (if r.edge < r.s.n + wn then r.s.n + wn else r.edge) = d6 := ⟨_, rfl⟩
      rw [hd6] at g6
      as_aux_lemma =>
        have y0 : ∀ {ps : String} (ev : Operand → Value), ev (.tmp 5) = .int .i64 wn → ∀ W, S W → (execOp ev { dst := some 38, op := Go.Op.move (Go.Operand.tmp 5), type := 3, pos := ps, after := #[], guard := none }).run Try.prog W = .ok (.value (.int .i64 wn)) W := by
          intro ps ev h0 W hSw
          rw [hS] at hSw
          try dsimp only at hSw
          first | (go_simp; done) | (go_simp; with_reducible rfl)
        have y1 : ∀ {ps : String} (ev : Operand → Value), ev (.tmp 38) = .int .i64 wn → ev (.const (Go.Value.int Go.IntKind.i64 0)) = (Go.Value.int Go.IntKind.i64 0) → ∀ W, S W → (execOp ev { dst := some 39, op := Go.Op.binOp Go.BinOp.geq 3 (Go.Operand.tmp 38) (Go.Operand.const (Go.Value.int Go.IntKind.i64 0)) 3, type := 4, pos := ps, after := #[{ on := 0, ground := Go.Ground.data }], guard := none }).run Try.prog W = .ok (.value (.bool true)) W := by
          intro ps ev h0 h1 W hSw
          rw [hS] at hSw
          try dsimp only at hSw
          first | (go_simp; done) | (go_simp; with_reducible rfl)
        have y2 : ∀ {ps : String} (ev : Operand → Value), ev (.tmp 39) = .bool true → ∀ W, S W → (execOp ev { dst := some 40, op := Go.Op.move (Go.Operand.tmp 39), type := 4, pos := ps, after := #[{ on := 1, ground := Go.Ground.data }], guard := none }).run Try.prog W = .ok (.value (.bool true)) W := by
          intro ps ev h0 W hSw
          rw [hS] at hSw
          try dsimp only at hSw
          first | (go_simp; done) | (go_simp; with_reducible rfl)
        have y3 : ∀ {ps : String} (ev : Operand → Value), ev (.tmp 5) = .int .i64 wn → ∀ W, S W → (execOp ev { dst := some 41, op := Go.Op.move (Go.Operand.tmp 5), type := 3, pos := ps, after := #[{ on := 2, ground := Go.Ground.guard }], guard := some (2, true) }).run Try.prog W = .ok (.value (.int .i64 wn)) W := by
          intro ps ev h0 W hSw
          rw [hS] at hSw
          try dsimp only at hSw
          first | (go_simp; done) | (go_simp; with_reducible rfl)
        have y4 : ∀ {ps : String} (ev : Operand → Value), ev (.tmp 2) = .pointer (some ⟨w.heap.size, 0, none⟩) → ∀ W, S W → (execOp ev { dst := some 42, op := Go.Op.fieldAddr 27 (Go.Operand.tmp 2) 3, type := 0, pos := ps, after := #[{ on := 2, ground := Go.Ground.guard }], guard := some (2, true) }).run Try.prog W = .ok (.value (.pointer (some ⟨w.heap.size, 3, none⟩))) W := by
          intro ps ev h0 W hSw
          rw [hS] at hSw
          try dsimp only at hSw
          first | (go_simp; done) | (go_simp; with_reducible rfl)
        have y5 : ∀ {ps : String} (ev : Operand → Value), ev (.tmp 42) = .pointer (some ⟨w.heap.size, 3, none⟩) → ∀ W, S W → (execOp ev { dst := some 43, op := Go.Op.load 3 (Go.Operand.tmp 42), type := 3, pos := ps, after := #[{ on := 4, ground := Go.Ground.data }, { on := 2, ground := Go.Ground.guard }], guard := some (2, true) }).run Try.prog W = .ok (.value (.int .i64 r.cap)) W := by
          intro ps ev h0 W hSw
          rw [hS] at hSw
          try dsimp only at hSw
          first | (go_simp; done) | (go_simp; with_reducible rfl)
        have y6 : ∀ {ps : String} (ev : Operand → Value), ev (.tmp 2) = .pointer (some ⟨w.heap.size, 0, none⟩) → ∀ W, S W → (execOp ev { dst := some 44, op := Go.Op.fieldAddr 27 (Go.Operand.tmp 2) 1, type := 0, pos := ps, after := #[{ on := 2, ground := Go.Ground.guard }], guard := some (2, true) }).run Try.prog W = .ok (.value (.pointer (some ⟨w.heap.size, 1, none⟩))) W := by
          intro ps ev h0 W hSw
          rw [hS] at hSw
          try dsimp only at hSw
          first | (go_simp; done) | (go_simp; with_reducible rfl)
        have y7 : ∀ {ps : String} (ev : Operand → Value), ev (.tmp 44) = .pointer (some ⟨w.heap.size, 1, none⟩) → ∀ W, S W → (execOp ev { dst := some 45, op := Go.Op.load 22 (Go.Operand.tmp 44), type := 22, pos := ps, after := #[{ on := 6, ground := Go.Ground.data }, { on := 2, ground := Go.Ground.guard }], guard := some (2, true) }).run Try.prog W = .ok (.value (.slice h.ua r.s.u.length h.uc)) W := by
          intro ps ev h0 W hSw
          rw [hS] at hSw
          try dsimp only at hSw
          first | (go_simp; done) | (go_simp; with_reducible rfl)
        have y8 : ∀ {ps : String} (ev : Operand → Value), ev (.tmp 45) = .slice h.ua r.s.u.length h.uc → ∀ W, S W → (execOp ev { dst := some 46, op := Go.Op.call { callee := Go.Callee.builtin Go.Builtin.len, args := #[Go.Operand.tmp 45], argTypes := #[22] }, type := 3, pos := ps, after := #[{ on := 7, ground := Go.Ground.data }, { on := 2, ground := Go.Ground.guard }], guard := some (2, true) }).run Try.prog W = .ok (.value (.int .i64 (r.s.u.length : Int))) W := by
          intro ps ev h0 W hSw
          rw [hS] at hSw
          try dsimp only at hSw
          first | (go_simp; done) | (go_simp; with_reducible rfl)
        have y9 : ∀ {ps : String} (ev : Operand → Value), ev (.tmp 43) = .int .i64 r.cap → ev (.tmp 46) = .int .i64 (r.s.u.length : Int) → ∀ W, S W → (execOp ev { dst := some 47, op := Go.Op.binOp Go.BinOp.sub 3 (Go.Operand.tmp 43) (Go.Operand.tmp 46) 3, type := 3, pos := ps, after := #[{ on := 5, ground := Go.Ground.data }, { on := 8, ground := Go.Ground.data }, { on := 2, ground := Go.Ground.guard }], guard := some (2, true) }).run Try.prog W = .ok (.value (.int .i64 (r.cap - (r.s.u.length : Int)))) W := by
          intro ps ev h0 h1 W hSw
          rw [hS] at hSw
          try dsimp only at hSw
          first | (go_simp; done) | (go_simp; with_reducible rfl)
        have y10 : ∀ {ps : String} (ev : Operand → Value), ev (.tmp 41) = .int .i64 wn → ev (.tmp 47) = .int .i64 (r.cap - (r.s.u.length : Int)) → ∀ W, S W → (execOp ev { dst := some 48, op := Go.Op.binOp Go.BinOp.leq 3 (Go.Operand.tmp 41) (Go.Operand.tmp 47) 3, type := 4, pos := ps, after := #[{ on := 3, ground := Go.Ground.data }, { on := 9, ground := Go.Ground.data }, { on := 2, ground := Go.Ground.guard }], guard := some (2, true) }).run Try.prog W = .ok (.value (.bool true)) W := by
          intro ps ev h0 h1 W hSw
          rw [hS] at hSw
          try dsimp only at hSw
          first | (go_simp; done) | (go_simp; with_reducible rfl)
        have y11 : ∀ {ps : String} (ev : Operand → Value), ev (.tmp 40) = .bool true → ev (.tmp 48) = .bool true → ev (.const (Go.Value.bool false)) = (Go.Value.bool false) → ∀ W, S W → (execOp ev { dst := some 49, op := Go.Op.pick (Go.Operand.tmp 40) (Go.Operand.tmp 48) (Go.Operand.const (Go.Value.bool false)), type := 4, pos := ps, after := #[{ on := 2, ground := Go.Ground.data }, { on := 10, ground := Go.Ground.data }], guard := none }).run Try.prog W = .ok (.value (.bool true)) W := by
          intro ps ev h0 h1 h2 W hSw
          rw [hS] at hSw
          try dsimp only at hSw
          first | (go_simp; done) | (go_simp; with_reducible rfl)
        have y12 : ∀ {ps : String} (ev : Operand → Value), ev (.tmp 49) = .bool true → ∀ W, S W → (execOp ev { dst := some 50, op := Go.Op.move (Go.Operand.tmp 49), type := 4, pos := ps, after := #[{ on := 11, ground := Go.Ground.data }, { on := 2, ground := Go.Ground.chain }], guard := none }).run Try.prog W = .ok (.value (.bool true)) W := by
          intro ps ev h0 W hSw
          rw [hS] at hSw
          try dsimp only at hSw
          first | (go_simp; done) | (go_simp; with_reducible rfl)
        have y13 : ∀ {ps : String} (ev : Operand → Value), ev (.tmp 10) = .int .i64 0 → ∀ W, S W → (execOp ev { dst := some 51, op := Go.Op.move (Go.Operand.tmp 10), type := 28, pos := ps, after := #[{ on := 12, ground := Go.Ground.guard }], guard := some (12, true) }).run Try.prog W = .ok (.value (.int .i64 0)) W := by
          intro ps ev h0 W hSw
          rw [hS] at hSw
          try dsimp only at hSw
          first | (go_simp; done) | (go_simp; with_reducible rfl)
        have y14 : ∀ {ps : String} (ev : Operand → Value), ev (.tmp 51) = .int .i64 0 → ev (.const (Go.Value.int Go.IntKind.i64 0)) = (Go.Value.int Go.IntKind.i64 0) → ∀ W, S W → (execOp ev { dst := some 52, op := Go.Op.binOp Go.BinOp.eql 28 (Go.Operand.tmp 51) (Go.Operand.const (Go.Value.int Go.IntKind.i64 0)) 28, type := 4, pos := ps, after := #[{ on := 13, ground := Go.Ground.data }, { on := 12, ground := Go.Ground.guard }], guard := some (12, true) }).run Try.prog W = .ok (.value (.bool true)) W := by
          intro ps ev h0 h1 W hSw
          rw [hS] at hSw
          try dsimp only at hSw
          first | (go_simp; done) | (go_simp; with_reducible rfl)
        have y15 : ∀ {ps : String} (ev : Operand → Value), ev (.tmp 50) = .bool true → ev (.tmp 52) = .bool true → ev (.const (Go.Value.bool false)) = (Go.Value.bool false) → ∀ W, S W → (execOp ev { dst := some 53, op := Go.Op.pick (Go.Operand.tmp 50) (Go.Operand.tmp 52) (Go.Operand.const (Go.Value.bool false)), type := 4, pos := ps, after := #[{ on := 12, ground := Go.Ground.data }, { on := 14, ground := Go.Ground.data }], guard := none }).run Try.prog W = .ok (.value (.bool true)) W := by
          intro ps ev h0 h1 h2 W hSw
          rw [hS] at hSw
          try dsimp only at hSw
          first | (go_simp; done) | (go_simp; with_reducible rfl)
        have y16 : ∀ {ps : String} (ev : Operand → Value), ev (.tmp 53) = .bool true → ∀ W, S W → (execOp ev { dst := some 54, op := Go.Op.move (Go.Operand.tmp 53), type := 4, pos := ps, after := #[{ on := 15, ground := Go.Ground.data }, { on := 12, ground := Go.Ground.chain }], guard := none }).run Try.prog W = .ok (.value (.bool true)) W := by
          intro ps ev h0 W hSw
          rw [hS] at hSw
          try dsimp only at hSw
          first | (go_simp; done) | (go_simp; with_reducible rfl)
        have y17 : ∀ {ps : String} (ev : Operand → Value), ev (.tmp 6) = .pointer (some ⟨px, 0, none⟩) → ∀ W, S W → (execOp ev { dst := some 55, op := Go.Op.load 27 (Go.Operand.tmp 6), type := 27, pos := ps, after := #[{ on := 16, ground := Go.Ground.guard }], guard := some (16, true) }).run Try.prog W = .ok (.value (.agg #[.int .i64 R.s.n, .slice k.ua R.s.u.length k.uc, .slice k.la k.es.length k.lc, .int .i64 R.cap, .int .i64 R.shift, .int .i64 R.edge, .int .u32 R.recent, .bool R.stamps, .bool R.sacks, .int .i64 R.fin, .bool R.dn, .slice k.fa R.first.length k.fc, .int .u32 R.irs, .int .u32 R.own, .bool R.stamp])) W := by
          intro ps ev h0 W hSw
          rw [hS] at hSw
          try dsimp only at hSw
          first | (go_simp; done) | (go_simp; with_reducible rfl)
        have y19 : ∀ {ps : String} (ev : Operand → Value), ev (.tmp 5) = .int .i64 wn → ∀ W, S W → (execOp ev { dst := some 57, op := Go.Op.move (Go.Operand.tmp 5), type := 3, pos := ps, after := #[{ on := 16, ground := Go.Ground.guard }], guard := some (16, true) }).run Try.prog W = .ok (.value (.int .i64 wn)) W := by
          intro ps ev h0 W hSw
          rw [hS] at hSw
          try dsimp only at hSw
          first | (go_simp; done) | (go_simp; with_reducible rfl)
        have y20 : ∀ {ps : String} (ev : Operand → Value), ev (.tmp 56) = .int .i64 wx → ev (.tmp 57) = .int .i64 wn → ∀ W, S W → (execOp ev { dst := some 58, op := Go.Op.binOp Go.BinOp.geq 3 (Go.Operand.tmp 56) (Go.Operand.tmp 57) 3, type := 4, pos := ps, after := #[{ on := 18, ground := Go.Ground.data }, { on := 19, ground := Go.Ground.data }, { on := 16, ground := Go.Ground.guard }], guard := some (16, true) }).run Try.prog W = .ok (.value (.bool true)) W := by
          intro ps ev h0 h1 W hSw
          rw [hS] at hSw
          try dsimp only at hSw
          first | (go_simp; done) | (go_simp; with_reducible rfl)
        have y21 : ∀ {ps : String} (ev : Operand → Value), ev (.tmp 54) = .bool true → ev (.tmp 58) = .bool true → ev (.const (Go.Value.bool false)) = (Go.Value.bool false) → ∀ W, S W → (execOp ev { dst := some 59, op := Go.Op.pick (Go.Operand.tmp 54) (Go.Operand.tmp 58) (Go.Operand.const (Go.Value.bool false)), type := 4, pos := ps, after := #[{ on := 16, ground := Go.Ground.data }, { on := 20, ground := Go.Ground.data }], guard := none }).run Try.prog W = .ok (.value (.bool true)) W := by
          intro ps ev h0 h1 h2 W hSw
          rw [hS] at hSw
          try dsimp only at hSw
          first | (go_simp; done) | (go_simp; with_reducible rfl)
        have y22 : ∀ {ps : String} (ev : Operand → Value), ev (.tmp 59) = .bool true → ∀ W, S W → (execOp ev { dst := some 60, op := Go.Op.move (Go.Operand.tmp 59), type := 4, pos := ps, after := #[{ on := 21, ground := Go.Ground.data }, { on := 18, ground := Go.Ground.chain }], guard := none }).run Try.prog W = .ok (.value (.bool true)) W := by
          intro ps ev h0 W hSw
          rw [hS] at hSw
          try dsimp only at hSw
          first | (go_simp; done) | (go_simp; with_reducible rfl)
        have y23 : ∀ {ps : String} (ev : Operand → Value), ev (.tmp 6) = .pointer (some ⟨px, 0, none⟩) → ∀ W, S W → (execOp ev { dst := some 61, op := Go.Op.load 27 (Go.Operand.tmp 6), type := 27, pos := ps, after := #[{ on := 22, ground := Go.Ground.guard }], guard := some (22, true) }).run Try.prog W = .ok (.value (.agg #[.int .i64 R.s.n, .slice k.ua R.s.u.length k.uc, .slice k.la k.es.length k.lc, .int .i64 R.cap, .int .i64 R.shift, .int .i64 R.edge, .int .u32 R.recent, .bool R.stamps, .bool R.sacks, .int .i64 R.fin, .bool R.dn, .slice k.fa R.first.length k.fc, .int .u32 R.irs, .int .u32 R.own, .bool R.stamp])) W := by
          intro ps ev h0 W hSw
          rw [hS] at hSw
          try dsimp only at hSw
          first | (go_simp; done) | (go_simp; with_reducible rfl)
        have y25 : ∀ {ps : String} (ev : Operand → Value), ev (.tmp 5) = .int .i64 wn → ∀ W, S W → (execOp ev { dst := some 63, op := Go.Op.move (Go.Operand.tmp 5), type := 3, pos := ps, after := #[{ on := 22, ground := Go.Ground.guard }], guard := some (22, true) }).run Try.prog W = .ok (.value (.int .i64 wn)) W := by
          intro ps ev h0 W hSw
          rw [hS] at hSw
          try dsimp only at hSw
          first | (go_simp; done) | (go_simp; with_reducible rfl)
        have y26 : ∀ {ps : String} (ev : Operand → Value), ev (.tmp 7) = .slice da m dc → ∀ W, S W → (execOp ev { dst := some 64, op := Go.Op.move (Go.Operand.tmp 7), type := 22, pos := ps, after := #[{ on := 22, ground := Go.Ground.guard }], guard := some (22, true) }).run Try.prog W = .ok (.value (.slice da m dc)) W := by
          intro ps ev h0 W hSw
          rw [hS] at hSw
          try dsimp only at hSw
          first | (go_simp; done) | (go_simp; with_reducible rfl)
        have y27 : ∀ {ps : String} (ev : Operand → Value), ev (.tmp 64) = .slice da m dc → ∀ W, S W → (execOp ev { dst := some 65, op := Go.Op.call { callee := Go.Callee.builtin Go.Builtin.len, args := #[Go.Operand.tmp 64], argTypes := #[22] }, type := 3, pos := ps, after := #[{ on := 26, ground := Go.Ground.data }, { on := 22, ground := Go.Ground.guard }], guard := some (22, true) }).run Try.prog W = .ok (.value (.int .i64 (m : Int))) W := by
          intro ps ev h0 W hSw
          rw [hS] at hSw
          try dsimp only at hSw
          first | (go_simp; done) | (go_simp; with_reducible rfl)
        have y28 : ∀ {ps : String} (ev : Operand → Value), ev (.tmp 63) = .int .i64 wn → ev (.tmp 65) = .int .i64 (m : Int) → ∀ W, S W → (execOp ev { dst := some 66, op := Go.Op.binOp Go.BinOp.add 3 (Go.Operand.tmp 63) (Go.Operand.tmp 65) 3, type := 3, pos := ps, after := #[{ on := 25, ground := Go.Ground.data }, { on := 27, ground := Go.Ground.data }, { on := 22, ground := Go.Ground.guard }], guard := some (22, true) }).run Try.prog W = .ok (.value (.int .i64 (wn + (m : Int)))) W := by
          intro ps ev h0 h1 W hSw
          rw [hS] at hSw
          try dsimp only at hSw
          first | (go_simp; done) | (go_simp; with_reducible rfl)
        have y29 : ∀ {ps : String} (ev : Operand → Value), ev (.tmp 2) = .pointer (some ⟨w.heap.size, 0, none⟩) → ∀ W, S W → (execOp ev { dst := some 67, op := Go.Op.fieldAddr 27 (Go.Operand.tmp 2) 4, type := 0, pos := ps, after := #[{ on := 22, ground := Go.Ground.guard }], guard := some (22, true) }).run Try.prog W = .ok (.value (.pointer (some ⟨w.heap.size, 4, none⟩))) W := by
          intro ps ev h0 W hSw
          rw [hS] at hSw
          try dsimp only at hSw
          first | (go_simp; done) | (go_simp; with_reducible rfl)
        have y30 : ∀ {ps : String} (ev : Operand → Value), ev (.tmp 67) = .pointer (some ⟨w.heap.size, 4, none⟩) → ∀ W, S W → (execOp ev { dst := some 68, op := Go.Op.load 3 (Go.Operand.tmp 67), type := 3, pos := ps, after := #[{ on := 29, ground := Go.Ground.data }, { on := 22, ground := Go.Ground.guard }], guard := some (22, true) }).run Try.prog W = .ok (.value (.int .i64 r.shift)) W := by
          intro ps ev h0 W hSw
          rw [hS] at hSw
          try dsimp only at hSw
          first | (go_simp; done) | (go_simp; with_reducible rfl)
        have y31 : ∀ {ps : String} (ev : Operand → Value), ev (.tmp 68) = .int .i64 r.shift → ∀ W, S W → (execOp ev { dst := some 69, op := Go.Op.convert 3 39 (Go.Operand.tmp 68), type := 39, pos := ps, after := #[{ on := 30, ground := Go.Ground.data }, { on := 22, ground := Go.Ground.guard }], guard := some (22, true) }).run Try.prog W = .ok (.value (.int .u64 r.shift)) W := by
          intro ps ev h0 W hSw
          rw [hS] at hSw
          try dsimp only at hSw
          first | (go_simp; done) | (go_simp; with_reducible rfl)
        have y32 : ∀ {ps : String} (ev : Operand → Value), ev (.const (Go.Value.int Go.IntKind.i64 1)) = (Go.Value.int Go.IntKind.i64 1) → ev (.tmp 69) = .int .u64 r.shift → ∀ W, S W → (execOp ev { dst := some 70, op := Go.Op.binOp Go.BinOp.shl 3 (Go.Operand.const (Go.Value.int Go.IntKind.i64 1)) (Go.Operand.tmp 69) 39, type := 3, pos := ps, after := #[{ on := 31, ground := Go.Ground.data }, { on := 22, ground := Go.Ground.guard }], guard := some (22, true) }).run Try.prog W = .ok (.value (.int .i64 ((2 : Int) ^ r.shift.toNat))) W := by
          intro ps ev h0 h1 W hSw
          rw [hS] at hSw
          try dsimp only at hSw
          first | (go_simp; done) | (go_simp; with_reducible rfl)
        have y33 : ∀ {ps : String} (ev : Operand → Value), ev (.tmp 66) = .int .i64 (wn + (m : Int)) → ev (.tmp 70) = .int .i64 ((2 : Int) ^ r.shift.toNat) → ∀ W, S W → (execOp ev { dst := some 71, op := Go.Op.binOp Go.BinOp.add 3 (Go.Operand.tmp 66) (Go.Operand.tmp 70) 3, type := 3, pos := ps, after := #[{ on := 28, ground := Go.Ground.data }, { on := 32, ground := Go.Ground.data }, { on := 22, ground := Go.Ground.guard }], guard := some (22, true) }).run Try.prog W = .ok (.value (.int .i64 (wn + (m : Int) + (2 : Int) ^ r.shift.toNat))) W := by
          intro ps ev h0 h1 W hSw
          rw [hS] at hSw
          try dsimp only at hSw
          first | (go_simp; done) | (go_simp; with_reducible rfl)
        have y34 : ∀ {ps : String} (ev : Operand → Value), ev (.tmp 62) = .int .i64 wx → ev (.tmp 71) = .int .i64 (wn + (m : Int) + (2 : Int) ^ r.shift.toNat) → ∀ W, S W → (execOp ev { dst := some 72, op := Go.Op.binOp Go.BinOp.leq 3 (Go.Operand.tmp 62) (Go.Operand.tmp 71) 3, type := 4, pos := ps, after := #[{ on := 24, ground := Go.Ground.data }, { on := 33, ground := Go.Ground.data }, { on := 22, ground := Go.Ground.guard }], guard := some (22, true) }).run Try.prog W = .ok (.value (.bool true)) W := by
          intro ps ev h0 h1 W hSw
          rw [hS] at hSw
          try dsimp only at hSw
          first | (go_simp; done) | (go_simp; with_reducible rfl)
        have y35 : ∀ {ps : String} (ev : Operand → Value), ev (.tmp 60) = .bool true → ev (.tmp 72) = .bool true → ev (.const (Go.Value.bool false)) = (Go.Value.bool false) → ∀ W, S W → (execOp ev { dst := some 73, op := Go.Op.pick (Go.Operand.tmp 60) (Go.Operand.tmp 72) (Go.Operand.const (Go.Value.bool false)), type := 4, pos := ps, after := #[{ on := 22, ground := Go.Ground.data }, { on := 34, ground := Go.Ground.data }], guard := none }).run Try.prog W = .ok (.value (.bool true)) W := by
          intro ps ev h0 h1 h2 W hSw
          rw [hS] at hSw
          try dsimp only at hSw
          first | (go_simp; done) | (go_simp; with_reducible rfl)
        have y36 : ∀ {ps : String} (ev : Operand → Value), ev (.tmp 73) = .bool true → ∀ W, S W → (execOp ev { dst := some 74, op := Go.Op.move (Go.Operand.tmp 73), type := 4, pos := ps, after := #[{ on := 35, ground := Go.Ground.data }, { on := 24, ground := Go.Ground.chain }], guard := none }).run Try.prog W = .ok (.value (.bool true)) W := by
          intro ps ev h0 W hSw
          rw [hS] at hSw
          try dsimp only at hSw
          first | (go_simp; done) | (go_simp; with_reducible rfl)
        have y37 : ∀ {ps : String} (ev : Operand → Value), ev (.tmp 12) = .pointer (some ⟨pz, 0, none⟩) → ∀ W, S W → (execOp ev { dst := some 75, op := Go.Op.fieldAddr 34 (Go.Operand.tmp 12) 5, type := 0, pos := ps, after := #[{ on := 36, ground := Go.Ground.guard }], guard := some (36, true) }).run Try.prog W = .ok (.value (.pointer (some ⟨pz, 5, none⟩))) W := by
          intro ps ev h0 W hSw
          rw [hS] at hSw
          try dsimp only at hSw
          first | (go_simp; done) | (go_simp; with_reducible rfl)
        have y38 : ∀ {ps : String} (ev : Operand → Value), ev (.tmp 75) = .pointer (some ⟨pz, 5, none⟩) → ∀ W, S W → (execOp ev { dst := some 76, op := Go.Op.load 3 (Go.Operand.tmp 75), type := 3, pos := ps, after := #[{ on := 37, ground := Go.Ground.data }, { on := 36, ground := Go.Ground.guard }], guard := some (36, true) }).run Try.prog W = .ok (.value (.int .i64 sw)) W := by
          intro ps ev h0 W hSw
          rw [hS] at hSw
          try dsimp only at hSw
          first | (go_simp; done) | (go_simp; with_reducible rfl)
        have y39 : ∀ {ps : String} (ev : Operand → Value), ev (.tmp 2) = .pointer (some ⟨w.heap.size, 0, none⟩) → ∀ W, S W → (execOp ev { dst := some 77, op := Go.Op.fieldAddr 27 (Go.Operand.tmp 2) 4, type := 0, pos := ps, after := #[{ on := 36, ground := Go.Ground.guard }], guard := some (36, true) }).run Try.prog W = .ok (.value (.pointer (some ⟨w.heap.size, 4, none⟩))) W := by
          intro ps ev h0 W hSw
          rw [hS] at hSw
          try dsimp only at hSw
          first | (go_simp; done) | (go_simp; with_reducible rfl)
        have y40 : ∀ {ps : String} (ev : Operand → Value), ev (.tmp 77) = .pointer (some ⟨w.heap.size, 4, none⟩) → ∀ W, S W → (execOp ev { dst := some 78, op := Go.Op.load 3 (Go.Operand.tmp 77), type := 3, pos := ps, after := #[{ on := 39, ground := Go.Ground.data }, { on := 36, ground := Go.Ground.guard }], guard := some (36, true) }).run Try.prog W = .ok (.value (.int .i64 r.shift)) W := by
          intro ps ev h0 W hSw
          rw [hS] at hSw
          try dsimp only at hSw
          first | (go_simp; done) | (go_simp; with_reducible rfl)
        have y41 : ∀ {ps : String} (ev : Operand → Value), ev (.tmp 78) = .int .i64 r.shift → ∀ W, S W → (execOp ev { dst := some 79, op := Go.Op.convert 3 39 (Go.Operand.tmp 78), type := 39, pos := ps, after := #[{ on := 40, ground := Go.Ground.data }, { on := 36, ground := Go.Ground.guard }], guard := some (36, true) }).run Try.prog W = .ok (.value (.int .u64 r.shift)) W := by
          intro ps ev h0 W hSw
          rw [hS] at hSw
          try dsimp only at hSw
          first | (go_simp; done) | (go_simp; with_reducible rfl)
        have y42 : ∀ {ps : String} (ev : Operand → Value), ev (.tmp 76) = .int .i64 sw → ev (.tmp 79) = .int .u64 r.shift → ∀ W, S W → (execOp ev { dst := some 80, op := Go.Op.binOp Go.BinOp.shl 3 (Go.Operand.tmp 76) (Go.Operand.tmp 79) 39, type := 3, pos := ps, after := #[{ on := 38, ground := Go.Ground.data }, { on := 41, ground := Go.Ground.data }, { on := 36, ground := Go.Ground.guard }], guard := some (36, true) }).run Try.prog W = .ok (.value (.int .i64 wn)) W := by
          intro ps ev h0 h1 W hSw
          rw [hS] at hSw
          try dsimp only at hSw
          first | (go_simp; done) | (go_simp; with_reducible rfl)
        have y43 : ∀ {ps : String} (ev : Operand → Value), ev (.tmp 5) = .int .i64 wn → ∀ W, S W → (execOp ev { dst := some 81, op := Go.Op.move (Go.Operand.tmp 5), type := 3, pos := ps, after := #[{ on := 36, ground := Go.Ground.guard }], guard := some (36, true) }).run Try.prog W = .ok (.value (.int .i64 wn)) W := by
          intro ps ev h0 W hSw
          rw [hS] at hSw
          try dsimp only at hSw
          first | (go_simp; done) | (go_simp; with_reducible rfl)
        have y44 : ∀ {ps : String} (ev : Operand → Value), ev (.tmp 80) = .int .i64 wn → ev (.tmp 81) = .int .i64 wn → ∀ W, S W → (execOp ev { dst := some 82, op := Go.Op.binOp Go.BinOp.eql 3 (Go.Operand.tmp 80) (Go.Operand.tmp 81) 3, type := 4, pos := ps, after := #[{ on := 42, ground := Go.Ground.data }, { on := 43, ground := Go.Ground.data }, { on := 36, ground := Go.Ground.guard }], guard := some (36, true) }).run Try.prog W = .ok (.value (.bool true)) W := by
          intro ps ev h0 h1 W hSw
          rw [hS] at hSw
          try dsimp only at hSw
          first | (go_simp; done) | (go_simp; with_reducible rfl)
        have y45 : ∀ {ps : String} (ev : Operand → Value), ev (.tmp 74) = .bool true → ev (.tmp 82) = .bool true → ev (.const (Go.Value.bool false)) = (Go.Value.bool false) → ∀ W, S W → (execOp ev { dst := some 83, op := Go.Op.pick (Go.Operand.tmp 74) (Go.Operand.tmp 82) (Go.Operand.const (Go.Value.bool false)), type := 4, pos := ps, after := #[{ on := 36, ground := Go.Ground.data }, { on := 44, ground := Go.Ground.data }], guard := none }).run Try.prog W = .ok (.value (.bool true)) W := by
          intro ps ev h0 h1 h2 W hSw
          rw [hS] at hSw
          try dsimp only at hSw
          first | (go_simp; done) | (go_simp; with_reducible rfl)
        have y46 : ∀ {ps : String} (ev : Operand → Value), ev (.tmp 83) = .bool true → ∀ W, S W → (execOp ev { dst := some 84, op := Go.Op.move (Go.Operand.tmp 83), type := 4, pos := ps, after := #[{ on := 45, ground := Go.Ground.data }, { on := 36, ground := Go.Ground.chain }], guard := none }).run Try.prog W = .ok (.value (.bool true)) W := by
          intro ps ev h0 W hSw
          rw [hS] at hSw
          try dsimp only at hSw
          first | (go_simp; done) | (go_simp; with_reducible rfl)
        have y47 : ∀ {ps : String} (ev : Operand → Value), ev (.tmp 11) = .pointer (some ⟨py, 0, none⟩) → ∀ W, S W → (execOp ev { dst := some 85, op := Go.Op.fieldAddr 27 (Go.Operand.tmp 11) 5, type := 0, pos := ps, after := #[{ on := 46, ground := Go.Ground.guard }], guard := some (46, true) }).run Try.prog W = .ok (.value (.pointer (some ⟨py, 5, none⟩))) W := by
          intro ps ev h0 W hSw
          rw [hS] at hSw
          try dsimp only at hSw
          first | (go_simp; done) | (go_simp; with_reducible rfl)
        have y48 : ∀ {ps : String} (ev : Operand → Value), ev (.tmp 85) = .pointer (some ⟨py, 5, none⟩) → ∀ W, S W → (execOp ev { dst := some 86, op := Go.Op.load 3 (Go.Operand.tmp 85), type := 3, pos := ps, after := #[{ on := 47, ground := Go.Ground.data }, { on := 46, ground := Go.Ground.guard }], guard := some (46, true) }).run Try.prog W = .ok (.value (.int .i64 ye)) W := by
          intro ps ev h0 W hSw
          rw [hS] at hSw
          try dsimp only at hSw
          first | (go_simp; done) | (go_simp; with_reducible rfl)
        have y49 : ∀ {ps : String} (ev : Operand → Value), ev (.tmp 2) = .pointer (some ⟨w.heap.size, 0, none⟩) → ∀ W, S W → (execOp ev { dst := some 87, op := Go.Op.fieldAddr 27 (Go.Operand.tmp 2) 5, type := 0, pos := ps, after := #[{ on := 46, ground := Go.Ground.guard }], guard := some (46, true) }).run Try.prog W = .ok (.value (.pointer (some ⟨w.heap.size, 5, none⟩))) W := by
          intro ps ev h0 W hSw
          rw [hS] at hSw
          try dsimp only at hSw
          first | (go_simp; done) | (go_simp; with_reducible rfl)
        have y50 : ∀ {ps : String} (ev : Operand → Value), ev (.tmp 87) = .pointer (some ⟨w.heap.size, 5, none⟩) → ∀ W, S W → (execOp ev { dst := some 88, op := Go.Op.load 3 (Go.Operand.tmp 87), type := 3, pos := ps, after := #[{ on := 49, ground := Go.Ground.data }, { on := 46, ground := Go.Ground.guard }], guard := some (46, true) }).run Try.prog W = .ok (.value (.int .i64 r.edge)) W := by
          intro ps ev h0 W hSw
          rw [hS] at hSw
          try dsimp only at hSw
          first | (go_simp; done) | (go_simp; with_reducible rfl)
        have y51 : ∀ {ps : String} (ev : Operand → Value), ev (.tmp 86) = .int .i64 ye → ev (.tmp 88) = .int .i64 r.edge → ∀ W, S W → (execOp ev { dst := some 89, op := Go.Op.binOp Go.BinOp.geq 3 (Go.Operand.tmp 86) (Go.Operand.tmp 88) 3, type := 4, pos := ps, after := #[{ on := 48, ground := Go.Ground.data }, { on := 50, ground := Go.Ground.data }, { on := 46, ground := Go.Ground.guard }], guard := some (46, true) }).run Try.prog W = .ok (.value (.bool true)) W := by
          intro ps ev h0 h1 W hSw
          rw [hS] at hSw
          try dsimp only at hSw
          first | (go_simp; done) | (go_simp; with_reducible rfl)
        have y52 : ∀ {ps : String} (ev : Operand → Value), ev (.tmp 84) = .bool true → ev (.tmp 89) = .bool true → ev (.const (Go.Value.bool false)) = (Go.Value.bool false) → ∀ W, S W → (execOp ev { dst := some 90, op := Go.Op.pick (Go.Operand.tmp 84) (Go.Operand.tmp 89) (Go.Operand.const (Go.Value.bool false)), type := 4, pos := ps, after := #[{ on := 46, ground := Go.Ground.data }, { on := 51, ground := Go.Ground.data }], guard := none }).run Try.prog W = .ok (.value (.bool true)) W := by
          intro ps ev h0 h1 h2 W hSw
          rw [hS] at hSw
          try dsimp only at hSw
          first | (go_simp; done) | (go_simp; with_reducible rfl)
        have y53 : ∀ {ps : String} (ev : Operand → Value), ev (.tmp 90) = .bool true → ∀ W, S W → (execOp ev { dst := some 91, op := Go.Op.move (Go.Operand.tmp 90), type := 4, pos := ps, after := #[{ on := 52, ground := Go.Ground.data }, { on := 46, ground := Go.Ground.chain }], guard := none }).run Try.prog W = .ok (.value (.bool true)) W := by
          intro ps ev h0 W hSw
          rw [hS] at hSw
          try dsimp only at hSw
          first | (go_simp; done) | (go_simp; with_reducible rfl)
        have y54 : ∀ {ps : String} (ev : Operand → Value), ev (.tmp 11) = .pointer (some ⟨py, 0, none⟩) → ∀ W, S W → (execOp ev { dst := some 92, op := Go.Op.fieldAddr 27 (Go.Operand.tmp 11) 5, type := 0, pos := ps, after := #[{ on := 53, ground := Go.Ground.guard }], guard := some (53, true) }).run Try.prog W = .ok (.value (.pointer (some ⟨py, 5, none⟩))) W := by
          intro ps ev h0 W hSw
          rw [hS] at hSw
          try dsimp only at hSw
          first | (go_simp; done) | (go_simp; with_reducible rfl)
        have y55 : ∀ {ps : String} (ev : Operand → Value), ev (.tmp 92) = .pointer (some ⟨py, 5, none⟩) → ∀ W, S W → (execOp ev { dst := some 93, op := Go.Op.load 3 (Go.Operand.tmp 92), type := 3, pos := ps, after := #[{ on := 54, ground := Go.Ground.data }, { on := 53, ground := Go.Ground.guard }], guard := some (53, true) }).run Try.prog W = .ok (.value (.int .i64 ye)) W := by
          intro ps ev h0 W hSw
          rw [hS] at hSw
          try dsimp only at hSw
          first | (go_simp; done) | (go_simp; with_reducible rfl)
        have y56 : ∀ {ps : String} (ev : Operand → Value), ev (.tmp 2) = .pointer (some ⟨w.heap.size, 0, none⟩) → ∀ W, S W → (execOp ev { dst := some 94, op := Go.Op.fieldAddr 27 (Go.Operand.tmp 2) 5, type := 0, pos := ps, after := #[{ on := 53, ground := Go.Ground.guard }], guard := some (53, true) }).run Try.prog W = .ok (.value (.pointer (some ⟨w.heap.size, 5, none⟩))) W := by
          intro ps ev h0 W hSw
          rw [hS] at hSw
          try dsimp only at hSw
          first | (go_simp; done) | (go_simp; with_reducible rfl)
        have y57 : ∀ {ps : String} (ev : Operand → Value), ev (.tmp 94) = .pointer (some ⟨w.heap.size, 5, none⟩) → ∀ W, S W → (execOp ev { dst := some 95, op := Go.Op.load 3 (Go.Operand.tmp 94), type := 3, pos := ps, after := #[{ on := 56, ground := Go.Ground.data }, { on := 53, ground := Go.Ground.guard }], guard := some (53, true) }).run Try.prog W = .ok (.value (.int .i64 r.edge)) W := by
          intro ps ev h0 W hSw
          rw [hS] at hSw
          try dsimp only at hSw
          first | (go_simp; done) | (go_simp; with_reducible rfl)
        have y58 : ∀ {ps : String} (ev : Operand → Value), ev (.tmp 2) = .pointer (some ⟨w.heap.size, 0, none⟩) → ∀ W, S W → (execOp ev { dst := some 96, op := Go.Op.fieldAddr 27 (Go.Operand.tmp 2) 0, type := 0, pos := ps, after := #[{ on := 53, ground := Go.Ground.guard }], guard := some (53, true) }).run Try.prog W = .ok (.value (.pointer (some ⟨w.heap.size, 0, none⟩))) W := by
          intro ps ev h0 W hSw
          rw [hS] at hSw
          try dsimp only at hSw
          first | (go_simp; done) | (go_simp; with_reducible rfl)
        have y59 : ∀ {ps : String} (ev : Operand → Value), ev (.tmp 96) = .pointer (some ⟨w.heap.size, 0, none⟩) → ∀ W, S W → (execOp ev { dst := some 97, op := Go.Op.load 3 (Go.Operand.tmp 96), type := 3, pos := ps, after := #[{ on := 58, ground := Go.Ground.data }, { on := 53, ground := Go.Ground.guard }], guard := some (53, true) }).run Try.prog W = .ok (.value (.int .i64 r.s.n)) W := by
          intro ps ev h0 W hSw
          rw [hS] at hSw
          try dsimp only at hSw
          first | (go_simp; done) | (go_simp; with_reducible rfl)
        have y60 : ∀ {ps : String} (ev : Operand → Value), ev (.tmp 5) = .int .i64 wn → ∀ W, S W → (execOp ev { dst := some 98, op := Go.Op.move (Go.Operand.tmp 5), type := 3, pos := ps, after := #[{ on := 53, ground := Go.Ground.guard }], guard := some (53, true) }).run Try.prog W = .ok (.value (.int .i64 wn)) W := by
          intro ps ev h0 W hSw
          rw [hS] at hSw
          try dsimp only at hSw
          first | (go_simp; done) | (go_simp; with_reducible rfl)
        have y61 : ∀ {ps : String} (ev : Operand → Value), ev (.tmp 97) = .int .i64 r.s.n → ev (.tmp 98) = .int .i64 wn → ∀ W, S W → (execOp ev { dst := some 99, op := Go.Op.binOp Go.BinOp.add 3 (Go.Operand.tmp 97) (Go.Operand.tmp 98) 3, type := 3, pos := ps, after := #[{ on := 59, ground := Go.Ground.data }, { on := 60, ground := Go.Ground.data }, { on := 53, ground := Go.Ground.guard }], guard := some (53, true) }).run Try.prog W = .ok (.value (.int .i64 (r.s.n + wn))) W := by
          intro ps ev h0 h1 W hSw
          rw [hS] at hSw
          try dsimp only at hSw
          first | (go_simp; done) | (go_simp; with_reducible rfl)
        have y62 : ∀ {ps : String} (ev : Operand → Value), ev (.tmp 95) = .int .i64 r.edge → ev (.tmp 99) = .int .i64 (r.s.n + wn) → ∀ W, S W → (execOp ev { dst := some 100, op := Go.Op.call { callee := Go.Callee.builtin Go.Builtin.max, args := #[Go.Operand.tmp 95, Go.Operand.tmp 99], argTypes := #[3, 3] }, type := 3, pos := ps, after := #[{ on := 57, ground := Go.Ground.data }, { on := 61, ground := Go.Ground.data }, { on := 53, ground := Go.Ground.guard }], guard := some (53, true) }).run Try.prog W = .ok (.value (.int .i64 d6)) W := by
          intro ps ev h0 h1 W hSw
          rw [hS] at hSw
          try dsimp only at hSw
          first | (go_simp; done) | (go_simp; with_reducible rfl)
        have y63 : ∀ {ps : String} (ev : Operand → Value), ev (.tmp 93) = .int .i64 ye → ev (.tmp 100) = .int .i64 d6 → ∀ W, S W → (execOp ev { dst := some 101, op := Go.Op.binOp Go.BinOp.leq 3 (Go.Operand.tmp 93) (Go.Operand.tmp 100) 3, type := 4, pos := ps, after := #[{ on := 55, ground := Go.Ground.data }, { on := 62, ground := Go.Ground.data }, { on := 53, ground := Go.Ground.guard }], guard := some (53, true) }).run Try.prog W = .ok (.value (.bool true)) W := by
          intro ps ev h0 h1 W hSw
          rw [hS] at hSw
          try dsimp only at hSw
          first | (go_simp; done) | (go_simp; with_reducible rfl)
        have y64 : ∀ {ps : String} (ev : Operand → Value), ev (.tmp 91) = .bool true → ev (.tmp 101) = .bool true → ev (.const (Go.Value.bool false)) = (Go.Value.bool false) → ∀ W, S W → (execOp ev { dst := some 102, op := Go.Op.pick (Go.Operand.tmp 91) (Go.Operand.tmp 101) (Go.Operand.const (Go.Value.bool false)), type := 4, pos := ps, after := #[{ on := 53, ground := Go.Ground.data }, { on := 63, ground := Go.Ground.data }], guard := none }).run Try.prog W = .ok (.value (.bool true)) W := by
          intro ps ev h0 h1 h2 W hSw
          rw [hS] at hSw
          try dsimp only at hSw
          first | (go_simp; done) | (go_simp; with_reducible rfl)
        have y65 : ∀ {ps : String} (ev : Operand → Value), ev (.tmp 102) = .bool true → ∀ W, S W → (execOp ev { dst := some 103, op := Go.Op.move (Go.Operand.tmp 102), type := 4, pos := ps, after := #[{ on := 64, ground := Go.Ground.data }, { on := 53, ground := Go.Ground.chain }], guard := none }).run Try.prog W = .ok (.value (.bool true)) W := by
          intro ps ev h0 W hSw
          rw [hS] at hSw
          try dsimp only at hSw
          first | (go_simp; done) | (go_simp; with_reducible rfl)
        have y67 : ∀ {ps : String} (ev : Operand → Value), ev (.tmp 103) = .bool true → ev (.tmp 104) = .bool true → ev (.const (Go.Value.bool false)) = (Go.Value.bool false) → ∀ W, S W → (execOp ev { dst := some 105, op := Go.Op.pick (Go.Operand.tmp 103) (Go.Operand.tmp 104) (Go.Operand.const (Go.Value.bool false)), type := 4, pos := ps, after := #[{ on := 65, ground := Go.Ground.data }, { on := 66, ground := Go.Ground.data }], guard := none }).run Try.prog W = .ok (.value (.bool true)) W := by
          intro ps ev h0 h1 h2 W hSw
          rw [hS] at hSw
          try dsimp only at hSw
          first | (go_simp; done) | (go_simp; with_reducible rfl)
        have y68 : ∀ {ps : String} (ev : Operand → Value), ev (.tmp 105) = .bool true → ∀ W, S W → (execOp ev { dst := some 4, op := Go.Op.assign (Go.Operand.tmp 105), type := 4, pos := ps, after := ([{ on := 67, ground := Go.Ground.data }, { on := 66, ground := Go.Ground.chain }, { on := 0, ground := Go.Ground.phase }, { on := 1, ground := Go.Ground.phase }, { on := 2, ground := Go.Ground.phase }, { on := 3, ground := Go.Ground.phase }, { on := 4, ground := Go.Ground.phase }, { on := 5, ground := Go.Ground.phase }, { on := 6, ground := Go.Ground.phase }, { on := 7, ground := Go.Ground.phase }, { on := 8, ground := Go.Ground.phase }, { on := 9, ground := Go.Ground.phase }, { on := 10, ground := Go.Ground.phase }, { on := 11, ground := Go.Ground.phase }, { on := 12, ground := Go.Ground.phase }, { on := 13, ground := Go.Ground.phase }, { on := 14, ground := Go.Ground.phase }, { on := 15, ground := Go.Ground.phase }, { on := 16, ground := Go.Ground.phase }, { on := 17, ground := Go.Ground.phase }, { on := 18, ground := Go.Ground.phase }, { on := 19, ground := Go.Ground.phase }, { on := 20, ground := Go.Ground.phase }, { on := 21, ground := Go.Ground.phase }, { on := 22, ground := Go.Ground.phase }, { on := 23, ground := Go.Ground.phase }, { on := 24, ground := Go.Ground.phase }, { on := 25, ground := Go.Ground.phase }, { on := 26, ground := Go.Ground.phase }, { on := 27, ground := Go.Ground.phase }, { on := 28, ground := Go.Ground.phase }, { on := 29, ground := Go.Ground.phase }, { on := 30, ground := Go.Ground.phase }, { on := 31, ground := Go.Ground.phase }, { on := 32, ground := Go.Ground.phase }, { on := 33, ground := Go.Ground.phase }, { on := 34, ground := Go.Ground.phase }, { on := 35, ground := Go.Ground.phase }, { on := 36, ground := Go.Ground.phase }, { on := 37, ground := Go.Ground.phase }, { on := 38, ground := Go.Ground.phase }, { on := 39, ground := Go.Ground.phase }, { on := 40, ground := Go.Ground.phase }, { on := 41, ground := Go.Ground.phase }, { on := 42, ground := Go.Ground.phase }, { on := 43, ground := Go.Ground.phase }, { on := 44, ground := Go.Ground.phase }, { on := 45, ground := Go.Ground.phase }, { on := 46, ground := Go.Ground.phase }, { on := 47, ground := Go.Ground.phase }, { on := 48, ground := Go.Ground.phase }, { on := 49, ground := Go.Ground.phase }, { on := 50, ground := Go.Ground.phase }, { on := 51, ground := Go.Ground.phase }, { on := 52, ground := Go.Ground.phase }, { on := 53, ground := Go.Ground.phase }, { on := 54, ground := Go.Ground.phase }, { on := 55, ground := Go.Ground.phase }, { on := 56, ground := Go.Ground.phase }, { on := 57, ground := Go.Ground.phase }, { on := 58, ground := Go.Ground.phase }, { on := 59, ground := Go.Ground.phase }, { on := 60, ground := Go.Ground.phase }, { on := 61, ground := Go.Ground.phase }, { on := 62, ground := Go.Ground.phase }, { on := 63, ground := Go.Ground.phase }, { on := 64, ground := Go.Ground.phase }, { on := 65, ground := Go.Ground.phase }, { on := 66, ground := Go.Ground.phase }, { on := 67, ground := Go.Ground.phase }]).toArray, guard := none }).run Try.prog W = .ok (.value (.bool true)) W := by
          intro ps ev h0 W hSw
          rw [hS] at hSw
          try dsimp only at hSw
          first | (go_simp; done) | (go_simp; with_reducible rfl)
        refine wp_class (fun W' => S W' ∧ Below X4.heap.size X4 W') (by kernel_rfl) (by kernel_rfl) ?hC ?_
        case hC => exact ⟨HSK.out _ (Below.drew (Below.refl _ _)), Below.drew (Below.refl _ _)⟩
        refine qs_val (by kernel_rfl) (fun W hW => y0 _ rfl W hW.1) ?_
        try simp only [Act.put, List.setIfInBounds_toArray, List.set_cons_zero, List.set_cons_succ]
        refine qs_val (by kernel_rfl) (fun W hW => y1 _ rfl rfl W hW.1) ?_
        try simp only [Act.put, List.setIfInBounds_toArray, List.set_cons_zero, List.set_cons_succ]
        refine qs_val (by kernel_rfl) (fun W hW => y2 _ rfl W hW.1) ?_
        try simp only [Act.put, List.setIfInBounds_toArray, List.set_cons_zero, List.set_cons_succ]
        refine qs_val (by kernel_rfl) (fun W hW => y3 _ rfl W hW.1) ?_
        try simp only [Act.put, List.setIfInBounds_toArray, List.set_cons_zero, List.set_cons_succ]
        refine qs_val (by kernel_rfl) (fun W hW => y4 _ rfl W hW.1) ?_
        try simp only [Act.put, List.setIfInBounds_toArray, List.set_cons_zero, List.set_cons_succ]
        refine qs_val (by kernel_rfl) (fun W hW => y5 _ rfl W hW.1) ?_
        try simp only [Act.put, List.setIfInBounds_toArray, List.set_cons_zero, List.set_cons_succ]
        refine qs_val (by kernel_rfl) (fun W hW => y6 _ rfl W hW.1) ?_
        try simp only [Act.put, List.setIfInBounds_toArray, List.set_cons_zero, List.set_cons_succ]
        refine qs_val (by kernel_rfl) (fun W hW => y7 _ rfl W hW.1) ?_
        try simp only [Act.put, List.setIfInBounds_toArray, List.set_cons_zero, List.set_cons_succ]
        refine qs_val (by kernel_rfl) (fun W hW => y8 _ rfl W hW.1) ?_
        try simp only [Act.put, List.setIfInBounds_toArray, List.set_cons_zero, List.set_cons_succ]
        refine qs_val (by kernel_rfl) (fun W hW => y9 _ rfl rfl W hW.1) ?_
        try simp only [Act.put, List.setIfInBounds_toArray, List.set_cons_zero, List.set_cons_succ]
        refine qs_val (by kernel_rfl) (fun W hW => y10 _ rfl rfl W hW.1) ?_
        try simp only [Act.put, List.setIfInBounds_toArray, List.set_cons_zero, List.set_cons_succ]
        refine qs_val (by kernel_rfl) (fun W hW => y11 _ rfl rfl rfl W hW.1) ?_
        try simp only [Act.put, List.setIfInBounds_toArray, List.set_cons_zero, List.set_cons_succ]
        refine qs_val (by kernel_rfl) (fun W hW => y12 _ rfl W hW.1) ?_
        try simp only [Act.put, List.setIfInBounds_toArray, List.set_cons_zero, List.set_cons_succ]
        refine qs_val (by kernel_rfl) (fun W hW => y13 _ rfl W hW.1) ?_
        try simp only [Act.put, List.setIfInBounds_toArray, List.set_cons_zero, List.set_cons_succ]
        refine qs_val (by kernel_rfl) (fun W hW => y14 _ rfl rfl W hW.1) ?_
        try simp only [Act.put, List.setIfInBounds_toArray, List.set_cons_zero, List.set_cons_succ]
        refine qs_val (by kernel_rfl) (fun W hW => y15 _ rfl rfl rfl W hW.1) ?_
        try simp only [Act.put, List.setIfInBounds_toArray, List.set_cons_zero, List.set_cons_succ]
        refine qs_val (by kernel_rfl) (fun W hW => y16 _ rfl W hW.1) ?_
        try simp only [Act.put, List.setIfInBounds_toArray, List.set_cons_zero, List.set_cons_succ]
        refine qs_val (by kernel_rfl) (fun W hW => y17 _ rfl W hW.1) ?_
        try simp only [Act.put, List.setIfInBounds_toArray, List.set_cons_zero, List.set_cons_succ]
        refine qs_enter (v := .int .i64 wx) (f := 10) (args := #[.agg #[.int .i64 R.s.n, .slice k.ua R.s.u.length k.uc, .slice k.la k.es.length k.lc, .int .i64 R.cap, .int .i64 R.shift, .int .i64 R.edge, .int .u32 R.recent, .bool R.stamps, .bool R.sacks, .int .i64 R.fin, .bool R.dn, .slice k.fa R.first.length k.fc, .int .u32 R.irs, .int .u32 R.own, .bool R.stamp]]) (by kernel_rfl) ?hy18q1 ?hc18q1 ?rest18q1
        case hy18q1 => (intro w hSw; (try dsimp only at hSw); first | (go_simp; done) | (go_simp; with_reducible rfl))
        case hc18q1 => (intro w hSw; refine (HKx.out w hSw.2).mono ?_; rintro e w1 ⟨rfl, hB⟩; exact ⟨rfl, HSK.out _ (Below.on hSw.2 hB), Below.on hSw.2 hB⟩)
        try simp only [Act.put, List.setIfInBounds_toArray, List.set_cons_zero, List.set_cons_succ]
        refine qs_val (by kernel_rfl) (fun W hW => y19 _ rfl W hW.1) ?_
        try simp only [Act.put, List.setIfInBounds_toArray, List.set_cons_zero, List.set_cons_succ]
        refine qs_val (by kernel_rfl) (fun W hW => y20 _ rfl rfl W hW.1) ?_
        try simp only [Act.put, List.setIfInBounds_toArray, List.set_cons_zero, List.set_cons_succ]
        refine qs_val (by kernel_rfl) (fun W hW => y21 _ rfl rfl rfl W hW.1) ?_
        try simp only [Act.put, List.setIfInBounds_toArray, List.set_cons_zero, List.set_cons_succ]
        refine qs_val (by kernel_rfl) (fun W hW => y22 _ rfl W hW.1) ?_
        try simp only [Act.put, List.setIfInBounds_toArray, List.set_cons_zero, List.set_cons_succ]
        refine qs_val (by kernel_rfl) (fun W hW => y23 _ rfl W hW.1) ?_
        try simp only [Act.put, List.setIfInBounds_toArray, List.set_cons_zero, List.set_cons_succ]
        refine qs_enter (v := .int .i64 wx) (f := 10) (args := #[.agg #[.int .i64 R.s.n, .slice k.ua R.s.u.length k.uc, .slice k.la k.es.length k.lc, .int .i64 R.cap, .int .i64 R.shift, .int .i64 R.edge, .int .u32 R.recent, .bool R.stamps, .bool R.sacks, .int .i64 R.fin, .bool R.dn, .slice k.fa R.first.length k.fc, .int .u32 R.irs, .int .u32 R.own, .bool R.stamp]]) (by kernel_rfl) ?hy24q2 ?hc24q2 ?rest24q2
        case hy24q2 => (intro w hSw; (try dsimp only at hSw); first | (go_simp; done) | (go_simp; with_reducible rfl))
        case hc24q2 => (intro w hSw; refine (HKx.out w hSw.2).mono ?_; rintro e w1 ⟨rfl, hB⟩; exact ⟨rfl, HSK.out _ (Below.on hSw.2 hB), Below.on hSw.2 hB⟩)
        try simp only [Act.put, List.setIfInBounds_toArray, List.set_cons_zero, List.set_cons_succ]
        refine qs_val (by kernel_rfl) (fun W hW => y25 _ rfl W hW.1) ?_
        try simp only [Act.put, List.setIfInBounds_toArray, List.set_cons_zero, List.set_cons_succ]
        refine qs_val (by kernel_rfl) (fun W hW => y26 _ rfl W hW.1) ?_
        try simp only [Act.put, List.setIfInBounds_toArray, List.set_cons_zero, List.set_cons_succ]
        refine qs_val (by kernel_rfl) (fun W hW => y27 _ rfl W hW.1) ?_
        try simp only [Act.put, List.setIfInBounds_toArray, List.set_cons_zero, List.set_cons_succ]
        refine qs_val (by kernel_rfl) (fun W hW => y28 _ rfl rfl W hW.1) ?_
        try simp only [Act.put, List.setIfInBounds_toArray, List.set_cons_zero, List.set_cons_succ]
        refine qs_val (by kernel_rfl) (fun W hW => y29 _ rfl W hW.1) ?_
        try simp only [Act.put, List.setIfInBounds_toArray, List.set_cons_zero, List.set_cons_succ]
        refine qs_val (by kernel_rfl) (fun W hW => y30 _ rfl W hW.1) ?_
        try simp only [Act.put, List.setIfInBounds_toArray, List.set_cons_zero, List.set_cons_succ]
        refine qs_val (by kernel_rfl) (fun W hW => y31 _ rfl W hW.1) ?_
        try simp only [Act.put, List.setIfInBounds_toArray, List.set_cons_zero, List.set_cons_succ]
        refine qs_val (by kernel_rfl) (fun W hW => y32 _ rfl rfl W hW.1) ?_
        try simp only [Act.put, List.setIfInBounds_toArray, List.set_cons_zero, List.set_cons_succ]
        refine qs_val (by kernel_rfl) (fun W hW => y33 _ rfl rfl W hW.1) ?_
        try simp only [Act.put, List.setIfInBounds_toArray, List.set_cons_zero, List.set_cons_succ]
        refine qs_val (by kernel_rfl) (fun W hW => y34 _ rfl rfl W hW.1) ?_
        try simp only [Act.put, List.setIfInBounds_toArray, List.set_cons_zero, List.set_cons_succ]
        refine qs_val (by kernel_rfl) (fun W hW => y35 _ rfl rfl rfl W hW.1) ?_
        try simp only [Act.put, List.setIfInBounds_toArray, List.set_cons_zero, List.set_cons_succ]
        refine qs_val (by kernel_rfl) (fun W hW => y36 _ rfl W hW.1) ?_
        try simp only [Act.put, List.setIfInBounds_toArray, List.set_cons_zero, List.set_cons_succ]
        refine qs_val (by kernel_rfl) (fun W hW => y37 _ rfl W hW.1) ?_
        try simp only [Act.put, List.setIfInBounds_toArray, List.set_cons_zero, List.set_cons_succ]
        refine qs_val (by kernel_rfl) (fun W hW => y38 _ rfl W hW.1) ?_
        try simp only [Act.put, List.setIfInBounds_toArray, List.set_cons_zero, List.set_cons_succ]
        refine qs_val (by kernel_rfl) (fun W hW => y39 _ rfl W hW.1) ?_
        try simp only [Act.put, List.setIfInBounds_toArray, List.set_cons_zero, List.set_cons_succ]
        refine qs_val (by kernel_rfl) (fun W hW => y40 _ rfl W hW.1) ?_
        try simp only [Act.put, List.setIfInBounds_toArray, List.set_cons_zero, List.set_cons_succ]
        refine qs_val (by kernel_rfl) (fun W hW => y41 _ rfl W hW.1) ?_
        try simp only [Act.put, List.setIfInBounds_toArray, List.set_cons_zero, List.set_cons_succ]
        refine qs_val (by kernel_rfl) (fun W hW => y42 _ rfl rfl W hW.1) ?_
        try simp only [Act.put, List.setIfInBounds_toArray, List.set_cons_zero, List.set_cons_succ]
        refine qs_val (by kernel_rfl) (fun W hW => y43 _ rfl W hW.1) ?_
        try simp only [Act.put, List.setIfInBounds_toArray, List.set_cons_zero, List.set_cons_succ]
        refine qs_val (by kernel_rfl) (fun W hW => y44 _ rfl rfl W hW.1) ?_
        try simp only [Act.put, List.setIfInBounds_toArray, List.set_cons_zero, List.set_cons_succ]
        refine qs_val (by kernel_rfl) (fun W hW => y45 _ rfl rfl rfl W hW.1) ?_
        try simp only [Act.put, List.setIfInBounds_toArray, List.set_cons_zero, List.set_cons_succ]
        refine qs_val (by kernel_rfl) (fun W hW => y46 _ rfl W hW.1) ?_
        try simp only [Act.put, List.setIfInBounds_toArray, List.set_cons_zero, List.set_cons_succ]
        refine qs_val (by kernel_rfl) (fun W hW => y47 _ rfl W hW.1) ?_
        try simp only [Act.put, List.setIfInBounds_toArray, List.set_cons_zero, List.set_cons_succ]
        refine qs_val (by kernel_rfl) (fun W hW => y48 _ rfl W hW.1) ?_
        try simp only [Act.put, List.setIfInBounds_toArray, List.set_cons_zero, List.set_cons_succ]
        refine qs_val (by kernel_rfl) (fun W hW => y49 _ rfl W hW.1) ?_
        try simp only [Act.put, List.setIfInBounds_toArray, List.set_cons_zero, List.set_cons_succ]
        refine qs_val (by kernel_rfl) (fun W hW => y50 _ rfl W hW.1) ?_
        try simp only [Act.put, List.setIfInBounds_toArray, List.set_cons_zero, List.set_cons_succ]
        refine qs_val (by kernel_rfl) (fun W hW => y51 _ rfl rfl W hW.1) ?_
        try simp only [Act.put, List.setIfInBounds_toArray, List.set_cons_zero, List.set_cons_succ]
        refine qs_val (by kernel_rfl) (fun W hW => y52 _ rfl rfl rfl W hW.1) ?_
        try simp only [Act.put, List.setIfInBounds_toArray, List.set_cons_zero, List.set_cons_succ]
        refine qs_val (by kernel_rfl) (fun W hW => y53 _ rfl W hW.1) ?_
        try simp only [Act.put, List.setIfInBounds_toArray, List.set_cons_zero, List.set_cons_succ]
        refine qs_val (by kernel_rfl) (fun W hW => y54 _ rfl W hW.1) ?_
        try simp only [Act.put, List.setIfInBounds_toArray, List.set_cons_zero, List.set_cons_succ]
        refine qs_val (by kernel_rfl) (fun W hW => y55 _ rfl W hW.1) ?_
        try simp only [Act.put, List.setIfInBounds_toArray, List.set_cons_zero, List.set_cons_succ]
        refine qs_val (by kernel_rfl) (fun W hW => y56 _ rfl W hW.1) ?_
        try simp only [Act.put, List.setIfInBounds_toArray, List.set_cons_zero, List.set_cons_succ]
        refine qs_val (by kernel_rfl) (fun W hW => y57 _ rfl W hW.1) ?_
        try simp only [Act.put, List.setIfInBounds_toArray, List.set_cons_zero, List.set_cons_succ]
        refine qs_val (by kernel_rfl) (fun W hW => y58 _ rfl W hW.1) ?_
        try simp only [Act.put, List.setIfInBounds_toArray, List.set_cons_zero, List.set_cons_succ]
        refine qs_val (by kernel_rfl) (fun W hW => y59 _ rfl W hW.1) ?_
        try simp only [Act.put, List.setIfInBounds_toArray, List.set_cons_zero, List.set_cons_succ]
        refine qs_val (by kernel_rfl) (fun W hW => y60 _ rfl W hW.1) ?_
        try simp only [Act.put, List.setIfInBounds_toArray, List.set_cons_zero, List.set_cons_succ]
        refine qs_val (by kernel_rfl) (fun W hW => y61 _ rfl rfl W hW.1) ?_
        try simp only [Act.put, List.setIfInBounds_toArray, List.set_cons_zero, List.set_cons_succ]
        refine qs_val (by kernel_rfl) (fun W hW => y62 _ rfl rfl W hW.1) ?_
        try simp only [Act.put, List.setIfInBounds_toArray, List.set_cons_zero, List.set_cons_succ]
        refine qs_val (by kernel_rfl) (fun W hW => y63 _ rfl rfl W hW.1) ?_
        try simp only [Act.put, List.setIfInBounds_toArray, List.set_cons_zero, List.set_cons_succ]
        refine qs_val (by kernel_rfl) (fun W hW => y64 _ rfl rfl rfl W hW.1) ?_
        try simp only [Act.put, List.setIfInBounds_toArray, List.set_cons_zero, List.set_cons_succ]
        refine qs_val (by kernel_rfl) (fun W hW => y65 _ rfl W hW.1) ?_
        try simp only [Act.put, List.setIfInBounds_toArray, List.set_cons_zero, List.set_cons_succ]
        refine qs_enter (v := .bool true) (f := 11) (args := #[]) (by kernel_rfl) ?hy66q3 ?hc66q3 ?rest66q3
        case hy66q3 => (intro w hSw; (try dsimp only at hSw); first | (go_simp; done) | (go_simp; with_reducible rfl))
        case hc66q3 => (intro w hSw; refine (k2 w).mono ?_; rintro e w1 ⟨rfl, hB⟩; exact ⟨rfl, HSK.out _ (Below.on hSw.2 hB), Below.on hSw.2 hB⟩)
        try simp only [Act.put, List.setIfInBounds_toArray, List.set_cons_zero, List.set_cons_succ]
        refine qs_val (by kernel_rfl) (fun W hW => y67 _ rfl rfl rfl W hW.1) ?_
        try simp only [Act.put, List.setIfInBounds_toArray, List.set_cons_zero, List.set_cons_succ]
        refine qs_val (by kernel_rfl) (fun W hW => y68 _ rfl W hW.1) ?_
        try simp only [Act.put, List.setIfInBounds_toArray, List.set_cons_zero, List.set_cons_succ]
        refine qs_nil ?_
        intro W5 hC5
        have HB5 : Hid (Below w.heap.size w W5) := Below.on HFB.out hC5.2
        clear y0 y1 y2 y3 y4 y5 y6 y7 y8 y9 y10 y11 y12 y13 y14 y15 y16 y17 y19 y20 y21 y22 y23 y25 y26 y27 y28 y29 y30 y31 y32 y33 y34 y35 y36 y37 y38 y39 y40 y41 y42 y43 y44 y45 y46 y47 y48 y49 y50 y51 y52 y53 y54 y55 y56 y57 y58 y59 y60 y61 y62 y63 y64 y65 y67 y68 hC5 HKx k2 HSK HFB hd6
        go_wp2_with fail
        go_ret
        exact ⟨rfl, HB5.out⟩
end Go.Proofs.Ytkigcdmlkmcdcaa
