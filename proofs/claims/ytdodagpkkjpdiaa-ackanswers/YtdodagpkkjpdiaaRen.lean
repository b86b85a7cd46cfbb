/- The contract of renewed: a receiver as new memory, down to its bytes. -/
import Derived.Test.YtdodagpkkjpdiaaOwn
namespace Go.Proofs.Ytdodagpkkjpdiaa
open Go.ChangeShapes Go.WideShapes Go.ChangeAt Go.RowKit
set_option linter.unusedVariables false
set_option linter.unusedSimpArgs false

/-- A receiver that is the call's own, down to its bytes. -/
structure RvOwn (w : World) (B : Nat) (r : Pl.Rv) (h : Hd) : Prop where
  les : h.es.map En.pc = r.s.l
  reach : h.es.length * 32 ≤ 140737488351232
  row : RowE w B h.la h.es.length h.lc h.es
  fam : Fam w B (⟨0, h.ua, h.uc, r.s.u⟩ :: h.es)
  fst : RowT w B h.fa r.first.length h.fc r.first
  frc : r.first.length * 16 ≤ 140737488351232
theorem RvOwn.at {w : World} {B : Nat} {r : Pl.Rv} {h : Hd} (H : RvOwn w B r h) {w0 : World} {h0 : Hd} (H0 : RvAt w0 r h0) : RvAt w r h :=
  { un := (H.fam.mine _ (List.mem_cons_self ..)).ok.1, late := ⟨H.reach, H.row.max.1, H.row.max.2, H.row.nil0, H.row.ents, fun x hx => (H.fam.mine x (List.mem_cons_of_mem _ hx)).ok⟩, les := H.les, fst := H.fst.sp H.frc, n := H0.n, cap := H0.cap, shift := H0.shift, edge := H0.edge, recent := H0.recent, fin := H0.fin, irs := H0.irs, own := H0.own }
theorem RvOwn.later {w w' : World} {B : Nat} {r : Pl.Rv} {h : Hd} (H : RvOwn w B r h) (hb : Below w.heap.size w w') : RvOwn w' B r h := { H with row := H.row.later hb, fam := H.fam.later hb, fst := H.fst.later hb }
theorem RvOwn.mono {w : World} {B B' : Nat} {r : Pl.Rv} {h : Hd} (H : RvOwn w B r h) (hb : B' ≤ B) : RvOwn w B' r h := { H with row := H.row.mono hb, fam := ⟨fun x hx => (H.fam.mine x hx).mono hb, H.fam.part⟩, fst := H.fst.mono hb }

/-- What the loop has laid, up to a place. -/
structure RenTo (w0 wr : World) (B : Nat) (es0 : List En) (u : En) (la : Option Addr) (lc n i : Nat) (fs : List En) (cs : List Value) (fa : Option Addr) (fn fc : Nat) (first : List Tm) : Prop where
  row : RowE wr B la n lc fs
  tk : (fs.take i).map En.pc = (es0.map En.pc).take i
  dr : fs.drop i = es0.drop i
  fam : Fam wr B (u :: fs.take i)
  fst : RowT wr B fa fn fc first
  box : Box wr w0.heap.size 46 cs
  zer : Box wr (w0.heap.size + 1) 46 [.int .i64 0, .slice none 0 0, .slice none 0 0, .int .i64 0, .int .i64 0, .int .i64 0, .int .u32 0, .bool false, .bool false, .int .i64 0, .bool false, .slice none 0 0, .int .u32 0, .int .u32 0, .bool false]
  bel : Below w0.heap.size w0 wr
  B : B ≤ wr.heap.size

theorem ren_next {w0 wr X w1 : World} {B : Nat} {es0 : List En} {u : En} {lc n i gl : Nat} {fs : List En} {cs : List Value} {fa : Option Addr} {fn fc : Nat} {first : List Tm} {x : En} {va : Option Addr} {vc : Nat}
    (h : RenTo w0 wr B es0 u (some ⟨gl, 0, none⟩) lc n i fs cs fa fn fc first) (hx : es0[i]? = some x) (hfx : fs[i]? = some x) (hok : x.ok w0) (hX : Below wr.heap.size wr X) (h1 : Below X.heap.size X w1) (hR : Row w1 X.heap.size va x.bs.length vc x.bs) (hin : i < n) (hB : w0.heap.size + 1 < B) :
    RenTo w0 (w1.setCell ⟨gl, i * 2 + 1, none⟩ (.slice va x.bs.length vc)) B es0 u (some ⟨gl, 0, none⟩) lc n (i + 1) (fs.set i ⟨x.f, va, vc, x.bs⟩) cs fa fn fc first := by
  have hwr := Below.on hX h1
  have hrow := h.row.later hwr
  obtain ⟨cur, hcur⟩ := hrow.obj
  have hge := hrow.ge
  have hfl : fs.length = n := h.row.len
  have htk : (fs.set i ⟨x.f, va, vc, x.bs⟩).take (i + 1) = fs.take i ++ [⟨x.f, va, vc, x.bs⟩] := by
    rw [List.take_add_one]
    simp [hfl, hin]
    rw [List.take_set]
    apply List.set_eq_of_length_le
    simp
    omega
  have hmine : (⟨x.f, va, vc, x.bs⟩ : En).mine w1 wr.heap.size := ⟨hR.mono hX.size, hok.1.1.2.1, hok.1.1.1, hok.2⟩
  have hfam := h.fam.snoc hwr h.B hmine
  have hfam2 : Fam w1 B (u :: (fs.take i ++ [⟨x.f, va, vc, x.bs⟩])) := hfam
  refine ⟨hrow.set i x _ hfx rfl, ?_, ?_, ?_, ?_, ?_, ?_, ?_, ?_⟩
  · rw [htk, List.map_append, h.tk, List.take_add_one (l := es0.map En.pc), List.getElem?_map, hx]
    rfl
  · rw [List.drop_set_of_lt (by omega)]
    have := congrArg (List.drop 1) h.dr
    simpa [List.drop_drop, Nat.add_comm] using this
  · rw [htk]
    exact hfam2.beside hcur (by decide) _ _
  · exact ownsRow_beside (h.fst.later hwr) hcur (by decide) _ _
  · exact (h.box.later hwr).aside _ _ _ (by omega)
  · exact (h.zer.later hwr).aside _ _ _ (by omega)
  · exact below_set (h.bel.trans (hwr.mono h.bel.size)) _ _ _ (by omega)
  · have := h.B
    have h2 := hwr.size
    have : w1.heap.size = (w1.setCell ⟨gl, i * 2 + 1, none⟩ (.slice va x.bs.length vc)).heap.size := by simp [World.setCell]
    omega

set_option maxRecDepth 100000 in
set_option maxHeartbeats 4000000 in
theorem renewed_any (r : Pl.Rv) (h : Hd) (w : World) (H : RvAt w r h) :
    Calls Try.prog 33 #[.agg #[.int .i64 r.s.n, .slice h.ua r.s.u.length h.uc, .slice h.la h.es.length h.lc, .int .i64 r.cap, .int .i64 r.shift, .int .i64 r.edge, .int .u32 r.recent, .bool r.stamps, .bool r.sacks, .int .i64 r.fin, .bool r.dn, .slice h.fa r.first.length h.fc, .int .u32 r.irs, .int .u32 r.own, .bool r.stamp]] w fun e w' => ∃ k : Hd, e = .returned (.agg #[.int .i64 r.s.n, .slice k.ua r.s.u.length k.uc, .slice k.la k.es.length k.lc, .int .i64 r.cap, .int .i64 r.shift, .int .i64 r.edge, .int .u32 r.recent, .bool r.stamps, .bool r.sacks, .int .i64 r.fin, .bool r.dn, .slice k.fa r.first.length k.fc, .int .u32 r.irs, .int .u32 r.own, .bool r.stamp]) ∧ RvOwn w' w.heap.size r k ∧ Below w.heap.size w w' := by
  obtain ⟨ua, uc, la, lc, es, fa, fc⟩ := h
  have HH : Hid (RvAt w r ⟨ua, uc, la, lc, es, fa, fc⟩) := H
  have hlr : es.length * 32 ≤ 140737488351232 := H.late.reach
  have hfr := H.fst.reach
  have hur := H.un.1.1
  dsimp only
  have hX0 := Box.new w 46 (rvL r ⟨ua, uc, la, lc, es, fa, fc⟩)
  obtain ⟨W0, hW0⟩ : ∃ W0, (w.alloc (.cells #[.int .i64 r.s.n, .slice ua r.s.u.length uc, .slice la es.length lc, .int .i64 r.cap, .int .i64 r.shift, .int .i64 r.edge, .int .u32 r.recent, .bool r.stamps, .bool r.sacks, .int .i64 r.fin, .bool r.dn, .slice fa r.first.length fc, .int .u32 r.irs, .int .u32 r.own, .bool r.stamp] 46)).alloc (.cells #[.int .i64 0, .slice none 0 0, .slice none 0 0, .int .i64 0, .int .i64 0, .int .i64 0, .int .u32 0, .bool false, .bool false, .int .i64 0, .bool false, .slice none 0 0, .int .u32 0, .int .u32 0, .bool false] 46) = W0 := ⟨_, rfl⟩
  have b0 : Below w.heap.size w W0 := by rw [← hW0]; exact below_more (below_more (Below.refl _ _) _) _
  have hX : Box W0 w.heap.size 46 [.int .i64 r.s.n, .slice ua r.s.u.length uc, .slice la es.length lc, .int .i64 r.cap, .int .i64 r.shift, .int .i64 r.edge, .int .u32 r.recent, .bool r.stamps, .bool r.sacks, .int .i64 r.fin, .bool r.dn, .slice fa r.first.length fc, .int .u32 r.irs, .int .u32 r.own, .bool r.stamp] := by rw [← hW0]; exact Box.alloc hX0 _
  have hZ : Box W0 (w.heap.size + 1) 46 [.int .i64 0, .slice none 0 0, .slice none 0 0, .int .i64 0, .int .i64 0, .int .i64 0, .int .u32 0, .bool false, .bool false, .int .i64 0, .bool false, .slice none 0 0, .int .u32 0, .int .u32 0, .bool false] := by rw [← hW0]; have := Box.new (w.alloc (.cells #[.int .i64 r.s.n, .slice ua r.s.u.length uc, .slice la es.length lc, .int .i64 r.cap, .int .i64 r.shift, .int .i64 r.edge, .int .u32 r.recent, .bool r.stamps, .bool r.sacks, .int .i64 r.fin, .bool r.dn, .slice fa r.first.length fc, .int .u32 r.irs, .int .u32 r.own, .bool r.stamp] 46)) 46 [.int .i64 0, .slice none 0 0, .slice none 0 0, .int .i64 0, .int .i64 0, .int .i64 0, .int .u32 0, .bool false, .bool false, .int .i64 0, .bool false, .slice none 0 0, .int .u32 0, .int .u32 0, .bool false]; rwa [World.size_alloc] at this
  have hs0 : W0.heap.size = w.heap.size + 2 := by rw [← hW0]; simp
  have k1 := cloneB_any ua uc r.s.u W0 (H.un.later b0)
  have HS0 : Hid (W0.heap.size = w.heap.size + 2) := hs0
  obtain ⟨n, hn⟩ : ∃ n, es.length = n := ⟨_, rfl⟩
  obtain ⟨m, hm⟩ : ∃ m, r.first.length = m := ⟨_, rfl⟩
  obtain ⟨u, hu⟩ : ∃ u, r.s.u.length = u := ⟨_, rfl⟩
  have HN : Hid (es.length = n ∧ r.first.length = m ∧ r.s.u.length = u) := ⟨hn, hm, hu⟩
  have HB : Hid (Below w.heap.size w W0) := b0
  rw [hn] at hlr hW0 hX
  rw [hm] at hfr hW0 hX
  rw [hu] at hur hW0 hX k1
  rw [hn, hm, hu]
  have HX : Hid (Box W0 w.heap.size 46 [.int .i64 r.s.n, .slice ua u uc, .slice la n lc, .int .i64 r.cap, .int .i64 r.shift, .int .i64 r.edge, .int .u32 r.recent, .bool r.stamps, .bool r.sacks, .int .i64 r.fin, .bool r.dn, .slice fa m fc, .int .u32 r.irs, .int .u32 r.own, .bool r.stamp] ∧ Box W0 (w.heap.size + 1) 46 [.int .i64 0, .slice none 0 0, .slice none 0 0, .int .i64 0, .int .i64 0, .int .i64 0, .int .u32 0, .bool false, .bool false, .int .i64 0, .bool false, .slice none 0 0, .int .u32 0, .int .u32 0, .bool false]) := ⟨hX, hZ⟩
  obtain ⟨c0, c1, c2, c3, c4, c5, c6, c7, c8, c9, c10, c11, c12, c13, c14⟩ := Box.c15 hX
  clear hX0 H b0 hX hZ hs0 hn hm hu
  go_enter Try.func33, Try.ntmps33
  go_wp2_with fail
  refine k1.mono ?_
  rintro e w1 ⟨va1, vc1, rfl, hR1, hB1⟩
  have H1 : Hid (Row w1 W0.heap.size va1 u vc1 r.s.u ∧ Below W0.heap.size W0 w1) := ⟨hR1, hB1⟩
  have hX1 := HX.out.1.later hB1
  have hf1 := hX1.frozen 1
  have hX1s := hX1.set 1 (.slice va1 u vc1)
  clear k1 hW0 c0 c1 c2 c3 c4 c5 c6 c7 c8 c9 c10 c11 c12 c13 c14
  obtain ⟨c0, c1, c2, c3, c4, c5, c6, c7, c8, c9, c10, c11, c12, c13, c14⟩ := Box.c15 hX1
  obtain ⟨W1, hW1⟩ : ∃ W1, w1.setCell ⟨w.heap.size, 1, none⟩ (.slice va1 u vc1) = W1 := ⟨_, rfl⟩
  rw [hW1] at hX1s
  have hlt1 : w.heap.size < W0.heap.size := by have := HS0.out; omega
  have hb1 : Below w.heap.size w W1 := by rw [← hW1]; exact below_set (Below.on HB.out hB1) _ _ _ (Nat.le_refl _)
  have hrow1 : Row W1 W0.heap.size va1 u vc1 r.s.u := by rw [← hW1]; exact ownsRow_aside hR1 _ _ _ hlt1
  have hz1 : Box W1 (w.heap.size + 1) 46 [.int .i64 0, .slice none 0 0, .slice none 0 0, .int .i64 0, .int .i64 0, .int .i64 0, .int .u32 0, .bool false, .bool false, .int .i64 0, .bool false, .slice none 0 0, .int .u32 0, .int .u32 0, .bool false] := by rw [← hW1]; exact (HX.out.2.later hB1).aside _ _ _ (by omega)
  have hsz1 : W0.heap.size ≤ W1.heap.size := by rw [← hW1]; have := hB1.size; simpa [World.setCell] using this
  have k2 := cloneS_any fa fc r.first W1 (HH.out.fst.later hb1).tims HH.out.fst.nil (by have := HH.out.fst.reach; omega)
  rw [HN.out.2.1] at k2
  have H2 : Hid (Row W1 W0.heap.size va1 u vc1 r.s.u ∧ Box W1 (w.heap.size + 1) 46 [.int .i64 0, .slice none 0 0, .slice none 0 0, .int .i64 0, .int .i64 0, .int .i64 0, .int .u32 0, .bool false, .bool false, .int .i64 0, .bool false, .slice none 0 0, .int .u32 0, .int .u32 0, .bool false] ∧ Below w.heap.size w W1 ∧ W0.heap.size ≤ W1.heap.size) := ⟨hrow1, hz1, hb1, hsz1⟩
  have hX1' : Box W1 w.heap.size 46 [.int .i64 r.s.n, .slice va1 u vc1, .slice la n lc, .int .i64 r.cap, .int .i64 r.shift, .int .i64 r.edge, .int .u32 r.recent, .bool r.stamps, .bool r.sacks, .int .i64 r.fin, .bool r.dn, .slice fa m fc, .int .u32 r.irs, .int .u32 r.own, .bool r.stamp] := hX1s
  have HX1 : Hid (Box W1 w.heap.size 46 [.int .i64 r.s.n, .slice va1 u vc1, .slice la n lc, .int .i64 r.cap, .int .i64 r.shift, .int .i64 r.edge, .int .u32 r.recent, .bool r.stamps, .bool r.sacks, .int .i64 r.fin, .bool r.dn, .slice fa m fc, .int .u32 r.irs, .int .u32 r.own, .bool r.stamp]) := hX1'
  obtain ⟨d0, d1, d2, d3, d4, d5, d6, d7, d8, d9, d10, d11, d12, d13, d14⟩ := Box.c15 hX1'
  clear hR1 hB1 hX1 hX1s hX1' hb1 hrow1 hz1 hsz1
  go_wp2_with fail
  refine k2.mono ?_
  rintro e w2 ⟨va2, vc2, rfl, hR2, hB2⟩
  have hX2 := HX1.out.later hB2
  have hf2 := hX2.frozen 11
  have hX2s := hX2.set 11 (.slice va2 m vc2)
  clear k2 hW1 c0 c1 c2 c3 c4 c5 c6 c7 c8 c9 c10 c11 c12 c13 c14 d0 d1 d2 d3 d4 d5 d6 d7 d8 d9 d10 d11 d12 d13 d14 hf1
  obtain ⟨c0, c1, c2, c3, c4, c5, c6, c7, c8, c9, c10, c11, c12, c13, c14⟩ := Box.c15 hX2
  obtain ⟨W2, hW2⟩ : ∃ W2, w2.setCell ⟨w.heap.size, 11, none⟩ (.slice va2 m vc2) = W2 := ⟨_, rfl⟩
  rw [hW2] at hX2s
  have hs1 := H2.out.2.2.2
  have hb2 : Below w.heap.size w W2 := by rw [← hW2]; exact below_set (H2.out.2.2.1.trans (hB2.mono H2.out.2.2.1.size)) _ _ _ (Nat.le_refl _)
  have hrow2 : Row W2 W0.heap.size va1 u vc1 r.s.u := by rw [← hW2]; exact ownsRow_aside (H2.out.1.later hB2) _ _ _ hlt1
  have hrowF2 : RowT W2 W0.heap.size va2 m vc2 r.first := by rw [← hW2]; exact ownsRow_aside (hR2.mono hs1) _ _ _ hlt1
  have hz2 : Box W2 (w.heap.size + 1) 46 [.int .i64 0, .slice none 0 0, .slice none 0 0, .int .i64 0, .int .i64 0, .int .i64 0, .int .u32 0, .bool false, .bool false, .int .i64 0, .bool false, .slice none 0 0, .int .u32 0, .int .u32 0, .bool false] := by rw [← hW2]; exact (H2.out.2.1.later hB2).aside _ _ _ (by omega)
  have hsz2 : W0.heap.size ≤ W2.heap.size := by rw [← hW2]; have := hB2.size; have : w2.heap.size = (w2.setCell ⟨w.heap.size, 11, none⟩ (.slice va2 m vc2)).heap.size := by simp [World.setCell]
                                                omega
  have k3 := cloneP_any la lc es W2 (HH.out.late.later hb2)
  rw [HN.out.1] at k3
  have hX2' : Box W2 w.heap.size 46 [.int .i64 r.s.n, .slice va1 u vc1, .slice la n lc, .int .i64 r.cap, .int .i64 r.shift, .int .i64 r.edge, .int .u32 r.recent, .bool r.stamps, .bool r.sacks, .int .i64 r.fin, .bool r.dn, .slice va2 m vc2, .int .u32 r.irs, .int .u32 r.own, .bool r.stamp] := hX2s
  have H3 : Hid (Row W2 W0.heap.size va1 u vc1 r.s.u ∧ RowT W2 W0.heap.size va2 m vc2 r.first ∧ Box W2 (w.heap.size + 1) 46 [.int .i64 0, .slice none 0 0, .slice none 0 0, .int .i64 0, .int .i64 0, .int .i64 0, .int .u32 0, .bool false, .bool false, .int .i64 0, .bool false, .slice none 0 0, .int .u32 0, .int .u32 0, .bool false] ∧ Below w.heap.size w W2 ∧ W0.heap.size ≤ W2.heap.size ∧ Box W2 w.heap.size 46 [.int .i64 r.s.n, .slice va1 u vc1, .slice la n lc, .int .i64 r.cap, .int .i64 r.shift, .int .i64 r.edge, .int .u32 r.recent, .bool r.stamps, .bool r.sacks, .int .i64 r.fin, .bool r.dn, .slice va2 m vc2, .int .u32 r.irs, .int .u32 r.own, .bool r.stamp]) := ⟨hrow2, hrowF2, hz2, hb2, hsz2, hX2'⟩
  obtain ⟨d0, d1, d2, d3, d4, d5, d6, d7, d8, d9, d10, d11, d12, d13, d14⟩ := Box.c15 hX2'
  clear hR2 hB2 hX2 hX2s hX2' hb2 hrow2 hrowF2 hz2 hsz2 hs1
  go_wp2_with fail
  refine k3.mono ?_
  rintro e w3 ⟨va3, vc3, rfl, hR3, hB3⟩
  have hX3 := H3.out.2.2.2.2.2.later hB3
  have hf3 := hX3.frozen 2
  have hX3s := hX3.set 2 (.slice va3 n vc3)
  clear k3 hW2 c0 c1 c2 c3 c4 c5 c6 c7 c8 c9 c10 c11 c12 c13 c14 d0 d1 d2 d3 d4 d5 d6 d7 d8 d9 d10 d11 d12 d13 d14 hf2
  obtain ⟨c0, c1, c2, c3, c4, c5, c6, c7, c8, c9, c10, c11, c12, c13, c14⟩ := Box.c15 hX3
  obtain ⟨W3, hW3⟩ : ∃ W3, w3.setCell ⟨w.heap.size, 2, none⟩ (.slice va3 n vc3) = W3 := ⟨_, rfl⟩
  rw [hW3] at hX3s
  have hs2 := H3.out.2.2.2.2.1
  have hX3' : Box W3 w.heap.size 46 [.int .i64 r.s.n, .slice va1 u vc1, .slice va3 n vc3, .int .i64 r.cap, .int .i64 r.shift, .int .i64 r.edge, .int .u32 r.recent, .bool r.stamps, .bool r.sacks, .int .i64 r.fin, .bool r.dn, .slice va2 m vc2, .int .u32 r.irs, .int .u32 r.own, .bool r.stamp] := hX3s
  have HST : Hid (RenTo w W3 W0.heap.size es ⟨0, va1, vc1, r.s.u⟩ va3 vc3 n 0 es [.int .i64 r.s.n, .slice va1 u vc1, .slice va3 n vc3, .int .i64 r.cap, .int .i64 r.shift, .int .i64 r.edge, .int .u32 r.recent, .bool r.stamps, .bool r.sacks, .int .i64 r.fin, .bool r.dn, .slice va2 m vc2, .int .u32 r.irs, .int .u32 r.own, .bool r.stamp] va2 m vc2 r.first) := by
    have hmine : (⟨0, va1, vc1, r.s.u⟩ : En).mine W3 W0.heap.size := by
      refine ⟨?_, HH.out.un.1.2.1, HH.out.un.1.1, by unfold I64; simp only; omega⟩
      show Row W3 W0.heap.size va1 r.s.u.length vc1 r.s.u
      rw [HN.out.2.2, ← hW3]
      exact ownsRow_aside (H3.out.1.later hB3) _ _ _ hlt1
    refine ⟨?_, by simp, by simp, ⟨fun x hx => ?_, by simp [Parted]⟩, ?_, hX3', ?_, ?_, ?_⟩
    · rw [← hW3]; exact ownsRow_aside (hR3.mono hs2) _ _ _ hlt1
    · simp at hx; rw [hx]; exact hmine
    · rw [← hW3]; exact ownsRow_aside (H3.out.2.1.later hB3) _ _ _ hlt1
    · rw [← hW3]; exact (H3.out.2.2.1.later hB3).aside _ _ _ (by omega)
    · rw [← hW3]; exact below_set (H3.out.2.2.2.1.trans (hB3.mono H3.out.2.2.2.1.size)) _ _ _ (Nat.le_refl _)
    · rw [← hW3]; have := hB3.size; have : w3.heap.size = (w3.setCell ⟨w.heap.size, 2, none⟩ (.slice va3 n vc3)).heap.size := by simp [World.setCell]
      omega
  obtain ⟨d0, d1, d2, d3, d4, d5, d6, d7, d8, d9, d10, d11, d12, d13, d14⟩ := Box.c15 hX3'
  clear hR3 hB3 hX3 hX3s hX3' hs2
  go_wp2_with fail
  clear d0 d1 d2 d3 d4 d5 d6 d7 d8 d9 d10 d11 d12 d13 d14 c0 c1 c2 c3 c4 c5 c6 c7 c8 c9 c10 c11 c12 c13 c14 hW3 hf3
  go_loopw [20] (fun vi wr => ∃ (i : Nat) (fs : List En), vi = .int .i64 i ∧ i ≤ n ∧ Hid (RenTo w wr W0.heap.size es ⟨0, va1, vc1, r.s.u⟩ va3 vc3 n i fs [.int .i64 r.s.n, .slice va1 u vc1, .slice va3 n vc3, .int .i64 r.cap, .int .i64 r.shift, .int .i64 r.edge, .int .u32 r.recent, .bool r.stamps, .bool r.sacks, .int .i64 r.fin, .bool r.dn, .slice va2 m vc2, .int .u32 r.irs, .int .u32 r.own, .bool r.stamp] va2 m vc2 r.first))
    (fun vi _ => n - (intOf vi).toNat)
  case atStart => exact ⟨0, es, rfl, Nat.zero_le _, HST.out⟩
  case round =>
    obtain ⟨i, fs, rfl, hin, HL⟩ := hrel
    by_cases hlt : i < n
    · have hout := HL.out
      obtain ⟨gl, rfl, hgl, hgl2⟩ : ∃ gl, va3 = some ⟨gl, 0, none⟩ ∧ W0.heap.size ≤ gl ∧ gl < wr.heap.size := by
        rcases hout.row.at with e | ⟨g, e, h1, h2, _⟩
        · rcases hout.row.2 with ⟨e', h0⟩ | ⟨g, cap, cur, e', _⟩
          · omega
          · rw [e] at e'; cases e'
        · exact ⟨g, e, h1, h2⟩
      obtain ⟨x, hx⟩ : ∃ x, es[i]? = some x := ⟨es[i]'(by have := HN.out.1; omega), List.getElem?_eq_getElem _⟩
      have hfx : fs[i]? = some x := by
        have := congrArg (fun l => l[0]?) hout.dr
        simpa [List.getElem?_drop, hx] using this
      obtain ⟨hc0, hc1⟩ := hout.row.cellE i x hfx
      have hok := HH.out.late.ok x (List.mem_of_getElem? hx)
      have hb' : Below wr.heap.size wr (wr.alloc (.cells #[.int .i64 x.f, .slice x.a x.bs.length x.c] 53)) := below_more (Below.refl _ _) _
      have hbx := Box.new wr 53 [.int .i64 x.f, .slice x.a x.bs.length x.c]
      have HX : Hid (es[i]? = some x ∧ fs[i]? = some x ∧ x.ok w ∧ Below wr.heap.size wr (wr.alloc (.cells #[.int .i64 x.f, .slice x.a x.bs.length x.c] 53)) ∧ Box (wr.alloc (.cells #[.int .i64 x.f, .slice x.a x.bs.length x.c] 53)) wr.heap.size 53 [.int .i64 x.f, .slice x.a x.bs.length x.c] ∧ W0.heap.size ≤ gl ∧ gl < wr.heap.size) := ⟨hx, hfx, hok, hb', hbx, hgl, hgl2⟩
      clear hout hx hfx hok hb' hbx hgl hgl2
      go_wp2_with fail
      obtain ⟨X, hX⟩ : ∃ X, wr.alloc (.cells #[.int .i64 x.f, .slice x.a x.bs.length x.c] 53) = X := ⟨_, rfl⟩
      rw [hX] at HX ⊢
      clear hX hc0 hc1
      have HC : Hid (∀ W, Below X.heap.size X W → W.cell? ⟨w.heap.size, 2, none⟩ = some (.slice (some ⟨gl, 0, none⟩) n vc3) ∧ W.cell? ⟨wr.heap.size, 1, none⟩ = some (.slice x.a x.bs.length x.c) ∧ W.cell? ⟨gl, i * 2 + 1, none⟩ = some (.slice x.a x.bs.length x.c) ∧ W.frozen? ⟨gl, i * 2 + 1, none⟩ = false) := fun W hW => by
        have hwr := Below.on HX.out.2.2.2.1 hW
        have hr := HL.out.row.later hwr
        exact ⟨(HL.out.box.later hwr).cell 2 rfl, (HX.out.2.2.2.2.1.later hW).cell 1 rfl, (hr.cellE i x HX.out.2.1).2, hr.frozen _⟩
      have HCL : Hid (∀ W, Below X.heap.size X W → Calls Try.prog 47 #[.slice x.a x.bs.length x.c] W fun e w' => ∃ va vc, e = .returned (.slice va x.bs.length vc) ∧ Row w' W.heap.size va x.bs.length vc x.bs ∧ Below W.heap.size W w') := fun W hW => cloneB_any x.a x.c x.bs W (HX.out.2.2.1.1.later (HL.out.bel.trans ((Below.on HX.out.2.2.2.1 hW).mono HL.out.bel.size)))
      obtain ⟨z0, z1, z2, z3⟩ := HC.out X (Below.refl _ _)
      have hii : (i : Int) < (n : Int) := by omega
      go_region_with
        (go_at_call 47; refine (HCL.out _ (by repeat (first | with_reducible exact Below.refl _ _ | with_reducible assumption | with_reducible refine Below.drew ?_ | with_reducible refine below_drewN ?_ _ | with_reducible refine below_more ?_ _))).mono ?_; rintro e w1 ⟨va, vc, rfl, hR', hb'⟩; have hb1 : Below X.heap.size X w1 := Below.on (by repeat (first | with_reducible exact Below.refl _ _ | with_reducible assumption | with_reducible refine Below.drew ?_ | with_reducible refine below_drewN ?_ _ | with_reducible refine below_more ?_ _)) hb'; have hR1 : Row w1 X.heap.size va x.bs.length vc x.bs := hR'.mono (by exact Nat.le_refl _); obtain ⟨y0, y1, y2, y3⟩ := HC.out _ hb1)
      all_goals go_wp2_with fail
      all_goals go_roundw
      all_goals first
        | (case measure => simp [intOf]; omega)
        | skip
      all_goals exact ⟨i + 1, _, by go_num, by omega, ren_next HL.out HX.out.1 HX.out.2.1 HX.out.2.2.1 HX.out.2.2.2.1 (by first | exact hb1 | exact Below.drew hb1 | exact below_drewN hb1 _) (by first | exact hR1 | exact hR1.of_heap rfl) (by omega) (by have := HS0.out; omega)⟩
    · obtain rfl : i = n := by omega
      obtain ⟨c0, c1, c2, c3, c4, c5, c6, c7, c8, c9, c10, c11, c12, c13, c14⟩ := Box.c15 HL.out.box
      obtain ⟨f0, f1, f2, f3, f4, f5, f6, f7, f8, f9, f10, f11, f12, f13, f14⟩ := Box.f15 HL.out.zer
      obtain ⟨d0, d1, d2, d3, d4, d5, d6, d7, d8, d9, d10, d11, d12, d13, d14⟩ := Box.c15 HL.out.zer
      have hfl : fs.length = i := HL.out.row.len
      have hfn : fs.take i = fs := List.take_of_length_le (by omega)
      have HFI : Hid (fs.take i = fs ∧ fs.length = i) := ⟨hfn, hfl⟩
      clear hfl hfn
      go_wp2_with fail
      clear c0 c1 c2 c3 c4 c5 c6 c7 c8 c9 c10 c11 c12 c13 c14 d0 d1 d2 d3 d4 d5 d6 d7 d8 d9 d10 d11 d12 d13 d14 f0 f1 f2 f3 f4 f5 f6 f7 f8 f9 f10 f11 f12 f13 f14
      have hout := HL.out
      have hlt2 : w.heap.size + 1 < W0.heap.size := by have := HS0.out; omega
      have hput : Box (setAll wr (w.heap.size + 1) 0 [.int .i64 r.s.n, .slice va1 u vc1, .slice va3 i vc3, .int .i64 r.cap, .int .i64 r.shift, .int .i64 r.edge, .int .u32 r.recent, .bool r.stamps, .bool r.sacks, .int .i64 r.fin, .bool r.dn, .slice va2 m vc2, .int .u32 r.irs, .int .u32 r.own, .bool r.stamp]) (w.heap.size + 1) 46 [.int .i64 r.s.n, .slice va1 u vc1, .slice va3 i vc3, .int .i64 r.cap, .int .i64 r.shift, .int .i64 r.edge, .int .u32 r.recent, .bool r.stamps, .bool r.sacks, .int .i64 r.fin, .bool r.dn, .slice va2 m vc2, .int .u32 r.irs, .int .u32 r.own, .bool r.stamp] := hout.zer.put _ rfl
      have q1 : RowE (setAll wr (w.heap.size + 1) 0 [.int .i64 r.s.n, .slice va1 u vc1, .slice va3 i vc3, .int .i64 r.cap, .int .i64 r.shift, .int .i64 r.edge, .int .u32 r.recent, .bool r.stamps, .bool r.sacks, .int .i64 r.fin, .bool r.dn, .slice va2 m vc2, .int .u32 r.irs, .int .u32 r.own, .bool r.stamp]) W0.heap.size va3 i vc3 fs := ownsRow_setAll hout.row _ _ _ hlt2
      have q2 : Fam (setAll wr (w.heap.size + 1) 0 [.int .i64 r.s.n, .slice va1 u vc1, .slice va3 i vc3, .int .i64 r.cap, .int .i64 r.shift, .int .i64 r.edge, .int .u32 r.recent, .bool r.stamps, .bool r.sacks, .int .i64 r.fin, .bool r.dn, .slice va2 m vc2, .int .u32 r.irs, .int .u32 r.own, .bool r.stamp]) W0.heap.size (⟨0, va1, vc1, r.s.u⟩ :: fs) := by
        have hfam := hout.fam
        rw [HFI.out.1] at hfam
        exact ⟨fun x hx => { hfam.mine x hx with row := ownsRow_setAll (hfam.mine x hx).row _ _ _ hlt2 }, hfam.part⟩
      have q3 : RowT (setAll wr (w.heap.size + 1) 0 [.int .i64 r.s.n, .slice va1 u vc1, .slice va3 i vc3, .int .i64 r.cap, .int .i64 r.shift, .int .i64 r.edge, .int .u32 r.recent, .bool r.stamps, .bool r.sacks, .int .i64 r.fin, .bool r.dn, .slice va2 m vc2, .int .u32 r.irs, .int .u32 r.own, .bool r.stamp]) W0.heap.size va2 m vc2 r.first := ownsRow_setAll hout.fst _ _ _ hlt2
      have q4 : Below w.heap.size w (setAll wr (w.heap.size + 1) 0 [.int .i64 r.s.n, .slice va1 u vc1, .slice va3 i vc3, .int .i64 r.cap, .int .i64 r.shift, .int .i64 r.edge, .int .u32 r.recent, .bool r.stamps, .bool r.sacks, .int .i64 r.fin, .bool r.dn, .slice va2 m vc2, .int .u32 r.irs, .int .u32 r.own, .bool r.stamp]) := setAll_below (Nat.le_succ _) hout.bel
      have hes : fs.map En.pc = r.s.l := by
        have h1 := hout.tk
        rw [HFI.out.1, HH.out.les, List.take_of_length_le (by rw [HH.out.len]; exact Nat.le_of_eq HN.out.1)] at h1
        exact h1
      have hm := HN.out.2.1
      have hu := HN.out.2.2
      have hfl := HFI.out.2
      have q5 : RvOwn (setAll wr (w.heap.size + 1) 0 [.int .i64 r.s.n, .slice va1 u vc1, .slice va3 i vc3, .int .i64 r.cap, .int .i64 r.shift, .int .i64 r.edge, .int .u32 r.recent, .bool r.stamps, .bool r.sacks, .int .i64 r.fin, .bool r.dn, .slice va2 m vc2, .int .u32 r.irs, .int .u32 r.own, .bool r.stamp]) w.heap.size r ⟨va1, vc1, va3, vc3, fs, va2, vc2⟩ := by
        refine RvOwn.mono (B := W0.heap.size) ⟨hes, by show fs.length * 32 ≤ _; rw [hfl]; exact hlr, ?_, q2, ?_, by rw [hm]; exact hfr⟩ (by omega)
        · show RowE _ _ va3 fs.length vc3 fs
          rw [hfl]; exact q1
        · show RowT _ _ va2 r.first.length vc2 r.first
          rw [hm]; exact q3
      have HQ : Hid (∃ k : Hd, (Value.agg #[.int .i64 r.s.n, .slice va1 u vc1, .slice va3 i vc3, .int .i64 r.cap, .int .i64 r.shift, .int .i64 r.edge, .int .u32 r.recent, .bool r.stamps, .bool r.sacks, .int .i64 r.fin, .bool r.dn, .slice va2 m vc2, .int .u32 r.irs, .int .u32 r.own, .bool r.stamp] = .agg #[.int .i64 r.s.n, .slice k.ua u k.uc, .slice k.la k.es.length k.lc, .int .i64 r.cap, .int .i64 r.shift, .int .i64 r.edge, .int .u32 r.recent, .bool r.stamps, .bool r.sacks, .int .i64 r.fin, .bool r.dn, .slice k.fa m k.fc, .int .u32 r.irs, .int .u32 r.own, .bool r.stamp]) ∧ RvOwn (setAll wr (w.heap.size + 1) 0 [.int .i64 r.s.n, .slice va1 u vc1, .slice va3 i vc3, .int .i64 r.cap, .int .i64 r.shift, .int .i64 r.edge, .int .u32 r.recent, .bool r.stamps, .bool r.sacks, .int .i64 r.fin, .bool r.dn, .slice va2 m vc2, .int .u32 r.irs, .int .u32 r.own, .bool r.stamp]) w.heap.size r k ∧ Below w.heap.size w (setAll wr (w.heap.size + 1) 0 [.int .i64 r.s.n, .slice va1 u vc1, .slice va3 i vc3, .int .i64 r.cap, .int .i64 r.shift, .int .i64 r.edge, .int .u32 r.recent, .bool r.stamps, .bool r.sacks, .int .i64 r.fin, .bool r.dn, .slice va2 m vc2, .int .u32 r.irs, .int .u32 r.own, .bool r.stamp])) :=
        ⟨⟨va1, vc1, va3, vc3, fs, va2, vc2⟩, by simp only [hm, hu, hfl], q5, q4⟩
      refine bodyPost_ret (res_r rfl _ _ (w.heap.size + 1) _ rfl rfl hput) rfl ?_
      obtain ⟨k, hk1, hk2, hk3⟩ := HQ.out
      exact ⟨k, congrArg Ending.returned hk1, hk2, hk3⟩
end Go.Proofs.Ytdodagpkkjpdiaa
