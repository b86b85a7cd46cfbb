/- The contracts of lateEnd, mayEnd and isStale. -/
import Derived.Test.YtdodagpkkjpdiaaFind
namespace Go.Proofs.Ytdodagpkkjpdiaa
open Go.ChangeShapes Go.WideShapes Go.ChangeAt Go.RowKit
set_option linter.unusedVariables false
set_option linter.unusedSimpArgs false

theorem ok_low {r : Pl.Rv} (h : r.Ok) : lowB r := ⟨⟨h.n0, h.nf⟩, ⟨h.c1, h.cm⟩, ⟨h.s0, h.s14⟩, h.uc, h.un⟩
theorem ok_fits {r : Pl.Rv} (h : r.Ok) : Fits r.s.l := ⟨r.s.n, h.n0, h.lat, fun p hp => by have := h.lim p hp; have := (Pl.Ok.reach h).2.2.2.2; unfold Pl.farI at *; omega⟩
theorem fld1 (f t : Int) (w : World) : (Instr.field 39 (.agg #[.int .i64 f, .int .i64 t]) 1).run Try.prog w = .ok (.int .i64 t) w := by kernel_rfl
set_option maxRecDepth 100000 in
set_option maxHeartbeats 4000000 in
theorem lateEnd_walk (r : Pl.Rv) (h : Hd) (w : World) (H : RvAt w r h) (hok : Fits r.s.l) :
    Calls Try.prog 65 #[.agg #[.int .i64 r.s.n, .slice h.ua r.s.u.length h.uc, .slice h.la h.es.length h.lc, .int .i64 r.cap, .int .i64 r.shift, .int .i64 r.edge, .int .u32 r.recent, .bool r.stamps, .bool r.sacks, .int .i64 r.fin, .bool r.dn, .slice h.fa r.first.length h.fc, .int .u32 r.irs, .int .u32 r.own, .bool r.stamp]] w fun e w' => e = .returned (.int .i64 (Pl.lateEnd r.s)) ∧ Below w.heap.size w w' := by
  have b0 : Below w.heap.size w (w.alloc (.cells #[.int .i64 r.s.n, .slice h.ua r.s.u.length h.uc, .slice h.la h.es.length h.lc, .int .i64 r.cap, .int .i64 r.shift, .int .i64 r.edge, .int .u32 r.recent, .bool r.stamps, .bool r.sacks, .int .i64 r.fin, .bool r.dn, .slice h.fa r.first.length h.fc, .int .u32 r.irs, .int .u32 r.own, .bool r.stamp] 46)) := (Below.refl _ w).alloc (Nat.le_refl _) _
  have hlen := H.len
  by_cases h0 : h.es.length = 0
  · have HE : Hid (Pl.lateEnd r.s = r.s.n) := by
      have : r.s.l = [] := List.eq_nil_of_length_eq_zero (by omega)
      unfold Hid Pl.lateEnd; rw [this]; rfl
    have h0' : ((h.es.length : Int) == 0) = true := by simp [h0]
    clear H hok hlen h0
    go_enter Try.func65, Try.ntmps65
    go_wp2_with fail
    go_ret
    exact ⟨ret_int HE.out.symm, b0⟩
  · obtain ⟨m, hm⟩ : ∃ m, h.es.length = m + 1 := ⟨h.es.length - 1, by omega⟩
    obtain ⟨b, o, x, ha, hx, hxo, hc0, hc1⟩ := (H.late.later b0).get m (by omega)
    have hmem : x.pc ∈ r.s.l := by rw [← H.les]; exact List.mem_map.2 ⟨x, List.mem_of_getElem? hx, rfl⟩
    have hfit := spW_fit (hok.bd hmem)
    have HE : Hid (Pl.lateEnd r.s = Pl.pend x.pc) := by
      unfold Hid Pl.lateEnd
      rw [← H.les, List.getLast?_map, List.getLast?_eq_getElem?, hm]
      simp [hx]
    have cS := fun W => spanOf_walk x.f x.a x.bs.length x.c W _ hfit
    have hfd := fld1
    have h0' : ((h.es.length : Int) == 0) = false := by simp [h0]
    have hr := H.late.reach
    have hm1 : ((h.es.length : Int) - 1) = (m : Int) := by omega
    have hm2 : m < h.es.length := by omega
    have hm3 : (m : Int) < (h.es.length : Int) := by omega
    have HB0 : Hid (Below w.heap.size w (w.alloc (.cells #[.int .i64 r.s.n, .slice h.ua r.s.u.length h.uc, .slice h.la h.es.length h.lc, .int .i64 r.cap, .int .i64 r.shift, .int .i64 r.edge, .int .u32 r.recent, .bool r.stamps, .bool r.sacks, .int .i64 r.fin, .bool r.dn, .slice h.fa r.first.length h.fc, .int .u32 r.irs, .int .u32 r.own, .bool r.stamp] 46))) := b0
    obtain ⟨L, hL⟩ : ∃ L, h.es.length = L := ⟨_, rfl⟩
    rw [hL] at h0' hr hm1 hm2 hm3 HB0 hc0 hc1 ⊢
    rw [ha] at HB0 hc0 hc1 ⊢
    clear H hok hlen h0 hx hxo hmem hfit b0 hm hL ha
    go_enter Try.func65, Try.ntmps65
    go_wp2_with (go_at_call 64; refine (cS _).mono ?_; rintro e w1 ⟨rfl, hB⟩)
    go_ret
    exact ⟨ret_int HE.out.symm, Below.on HB0.out hB⟩
def endB (r : Pl.Rv) (x : Int) : Bool := decide (r.fin = -1) && decide (Pl.lateEnd r.s ≤ x) && decide (x ≤ r.limit)
set_option maxRecDepth 100000 in
set_option maxHeartbeats 4000000 in
theorem mayEnd_walk (r : Pl.Rv) (h : Hd) (x : Int) (w : World) (H : RvAt w r h) (hok : r.Ok) :
    Calls Try.prog 50 #[.agg #[.int .i64 r.s.n, .slice h.ua r.s.u.length h.uc, .slice h.la h.es.length h.lc, .int .i64 r.cap, .int .i64 r.shift, .int .i64 r.edge, .int .u32 r.recent, .bool r.stamps, .bool r.sacks, .int .i64 r.fin, .bool r.dn, .slice h.fa r.first.length h.fc, .int .u32 r.irs, .int .u32 r.own, .bool r.stamp], .int .i64 x] w fun e w' => e = .returned (.bool (endB r x)) ∧ Below w.heap.size w w' := by
  have hX := Box.new w 46 (rvL r h)
  have b0 : Below w.heap.size w (w.alloc (.cells #[.int .i64 r.s.n, .slice h.ua r.s.u.length h.uc, .slice h.la h.es.length h.lc, .int .i64 r.cap, .int .i64 r.shift, .int .i64 r.edge, .int .u32 r.recent, .bool r.stamps, .bool r.sacks, .int .i64 r.fin, .bool r.dn, .slice h.fa r.first.length h.fc, .int .u32 r.irs, .int .u32 r.own, .bool r.stamp] 46)) := (Below.refl _ w).alloc (Nat.le_refl _) _
  obtain ⟨W0, hW0⟩ : ∃ W0, w.alloc (.cells #[.int .i64 r.s.n, .slice h.ua r.s.u.length h.uc, .slice h.la h.es.length h.lc, .int .i64 r.cap, .int .i64 r.shift, .int .i64 r.edge, .int .u32 r.recent, .bool r.stamps, .bool r.sacks, .int .i64 r.fin, .bool r.dn, .slice h.fa r.first.length h.fc, .int .u32 r.irs, .int .u32 r.own, .bool r.stamp] 46) = W0 := ⟨_, rfl⟩
  have hW0' : w.alloc (.cells (rvL r h).toArray 46) = W0 := hW0
  rw [hW0'] at hX
  rw [hW0] at b0
  have HB : Hid (Below w.heap.size w W0) := b0
  have HK : Hid (∀ W, Below W0.heap.size W0 W → W.cell? ⟨w.heap.size, 0, none⟩ = some (.int .i64 r.s.n) ∧ W.cell? ⟨w.heap.size, 1, none⟩ = some (.slice h.ua r.s.u.length h.uc) ∧ W.cell? ⟨w.heap.size, 2, none⟩ = some (.slice h.la h.es.length h.lc) ∧ W.cell? ⟨w.heap.size, 3, none⟩ = some (.int .i64 r.cap) ∧ W.cell? ⟨w.heap.size, 4, none⟩ = some (.int .i64 r.shift) ∧ W.cell? ⟨w.heap.size, 5, none⟩ = some (.int .i64 r.edge) ∧ W.cell? ⟨w.heap.size, 6, none⟩ = some (.int .u32 r.recent) ∧ W.cell? ⟨w.heap.size, 7, none⟩ = some (.bool r.stamps) ∧ W.cell? ⟨w.heap.size, 8, none⟩ = some (.bool r.sacks) ∧ W.cell? ⟨w.heap.size, 9, none⟩ = some (.int .i64 r.fin) ∧ W.cell? ⟨w.heap.size, 10, none⟩ = some (.bool r.dn) ∧ W.cell? ⟨w.heap.size, 11, none⟩ = some (.slice h.fa r.first.length h.fc) ∧ W.cell? ⟨w.heap.size, 12, none⟩ = some (.int .u32 r.irs) ∧ W.cell? ⟨w.heap.size, 13, none⟩ = some (.int .u32 r.own) ∧ W.cell? ⟨w.heap.size, 14, none⟩ = some (.bool r.stamp)) := fun W hW => Box.c15 (show Box W w.heap.size 46 [.int .i64 r.s.n, .slice h.ua r.s.u.length h.uc, .slice h.la h.es.length h.lc, .int .i64 r.cap, .int .i64 r.shift, .int .i64 r.edge, .int .u32 r.recent, .bool r.stamps, .bool r.sacks, .int .i64 r.fin, .bool r.dn, .slice h.fa r.first.length h.fc, .int .u32 r.irs, .int .u32 r.own, .bool r.stamp] from hX.later hW)
  have cE := lateEnd_walk r h W0 (H.later b0) (ok_fits hok)
  have cL := fun W => limit_walk r h W (ok_low hok)
  obtain ⟨c0, c1, c2, c3, c4, c5, c6, c7, c8, c9, c10, c11, c12, c13, c14⟩ := HK.out W0 (Below.refl _ _)
  have HF : Hid (endB r x = (decide (r.fin = -1) && decide (Pl.lateEnd r.s ≤ x) && decide (x ≤ r.limit))) := rfl
  obtain ⟨E, hE⟩ : ∃ E, Pl.lateEnd r.s = E := ⟨_, rfl⟩
  obtain ⟨L, hL⟩ : ∃ L, r.limit = L := ⟨_, rfl⟩
  rw [hE] at cE HF
  rw [hL] at cL HF
  clear hX hW0' b0 H hok hE hL
  by_cases g1 : r.fin = -1
  · have g1' : (r.fin == -1) = true := by simpa using g1
    have HG : Hid (r.fin = -1) := g1
    clear g1
    by_cases g2 : x < E
    · have HE : Hid (endB r x = false) := by unfold Hid; rw [HF.out]; simp [show ¬ E ≤ x by omega]
      go_enter Try.func50, Try.ntmps50
      go_wp2_with (go_at_call 65; refine cE.mono ?_; rintro e w1 ⟨rfl, hB⟩)
      go_ret
      exact ⟨ret_bool HE.out.symm, Below.on HB.out hB⟩
    · have HE : Hid (endB r x = decide (x ≤ L)) := by unfold Hid; rw [HF.out]; simp [show E ≤ x by omega, HG.out]
      go_enter Try.func50, Try.ntmps50
      go_wp2_with (first
        | (go_at_call 65; refine cE.mono ?_; rintro e w1 ⟨rfl, hB⟩; obtain ⟨d0, d1, d2, d3, d4, d5, d6, d7, d8, d9, d10, d11, d12, d13, d14⟩ := HK.out _ hB)
        | (go_at_call 66; refine (cL _).mono ?_; rintro e w2 ⟨rfl, hB2⟩))
      go_ret
      exact ⟨ret_bool HE.out.symm, Below.on HB.out (Below.on hB hB2)⟩
  · have g1' : (r.fin == -1) = false := by simpa using g1
    have HE : Hid (endB r x = false) := by unfold Hid; rw [HF.out]; simp [g1]
    go_enter Try.func50, Try.ntmps50
    go_wp2_with fail
    go_ret
    exact ⟨ret_bool HE.out.symm, HB.out⟩
set_option maxRecDepth 100000 in
set_option maxHeartbeats 4000000 in
theorem isStale_walk (r : Pl.Rv) (h : Hd) (s : Seg) (k : Hs) (w : World) (hr : U32 r.recent) (hs : U32 s.va) :
    Calls Try.prog 34 #[.agg #[.int .i64 r.s.n, .slice h.ua r.s.u.length h.uc, .slice h.la h.es.length h.lc, .int .i64 r.cap, .int .i64 r.shift, .int .i64 r.edge, .int .u32 r.recent, .bool r.stamps, .bool r.sacks, .int .i64 r.fin, .bool r.dn, .slice h.fa r.first.length h.fc, .int .u32 r.irs, .int .u32 r.own, .bool r.stamp], .agg #[.int .i64 s.sp, .int .i64 s.dp, .int .u32 s.sq, .int .u32 s.ak, .int .i64 s.fl, .int .i64 s.wn, .int .i64 s.ur, .int .i64 s.ms, .int .i64 s.sc, .bool s.so, .bool s.st, .int .u32 s.va, .int .u32 s.ec, .slice k.ka s.sk.length k.kc, .slice k.da s.da.length k.dc]] w fun e w' => e = .returned (.bool (r.stamps && r.stamp && decide (Pl.dfI r.recent s.va < 0))) ∧ Below w.heap.size w w' := by
  have b0 : Below w.heap.size w ((w.alloc (.cells #[.int .i64 r.s.n, .slice h.ua r.s.u.length h.uc, .slice h.la h.es.length h.lc, .int .i64 r.cap, .int .i64 r.shift, .int .i64 r.edge, .int .u32 r.recent, .bool r.stamps, .bool r.sacks, .int .i64 r.fin, .bool r.dn, .slice h.fa r.first.length h.fc, .int .u32 r.irs, .int .u32 r.own, .bool r.stamp] 46)).alloc (.cells #[.int .i64 s.sp, .int .i64 s.dp, .int .u32 s.sq, .int .u32 s.ak, .int .i64 s.fl, .int .i64 s.wn, .int .i64 s.ur, .int .i64 s.ms, .int .i64 s.sc, .bool s.so, .bool s.st, .int .u32 s.va, .int .u32 s.ec, .slice k.ka s.sk.length k.kc, .slice k.da s.da.length k.dc] 28)) := ((Below.refl _ w).alloc (Nat.le_refl _) _).alloc (by simp) _
  have cD := fun W => diff_walk r.recent s.va hr hs W
  cases g1 : r.stamps with
  | false =>
    rw [g1] at b0
    go_enter Try.func34, Try.ntmps34
    go_wp2_with fail
    go_ret
    exact ⟨ret_bool (by simp), b0⟩
  | true =>
    rw [g1] at b0
    cases g2 : r.stamp with
    | false =>
      rw [g2] at b0
      go_enter Try.func34, Try.ntmps34
      go_wp2_with fail
      go_ret
      exact ⟨ret_bool (by simp), b0⟩
    | true =>
      rw [g2] at b0
      go_enter Try.func34, Try.ntmps34
      go_wp2_with (go_at_call 21; refine (cD _).mono ?_; rintro e w1 ⟨rfl, rfl⟩)
      go_ret
      exact ⟨ret_bool (by simp), b0⟩
end Go.Proofs.Ytdodagpkkjpdiaa
