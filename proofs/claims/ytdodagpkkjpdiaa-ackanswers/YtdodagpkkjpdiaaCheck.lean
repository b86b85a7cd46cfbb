/- The contract of Check. -/
import Derived.Test.YtdodagpkkjpdiaaChkP
import Derived.Test.YtdodagpkkjpdiaaNum
namespace Go.Proofs.Ytdodagpkkjpdiaa
open Go.ChangeShapes Go.WideShapes Go.ChangeAt Go.RowKit
set_option linter.unusedVariables false
set_option linter.unusedSimpArgs false

set_option maxRecDepth 100000 in
set_option maxHeartbeats 4000000 in
theorem recvCheck_any (r : Pl.Rv) (h : Hd) (w : World) (H : RvAt w r h) (q : Int) (hq : (if okB r h.es = true then (0 : Int) else 230) = q) :
    Calls Try.prog 32 #[.agg #[.int .i64 r.s.n, .slice h.ua r.s.u.length h.uc, .slice h.la h.es.length h.lc, .int .i64 r.cap, .int .i64 r.shift, .int .i64 r.edge, .int .u32 r.recent, .bool r.stamps, .bool r.sacks, .int .i64 r.fin, .bool r.dn, .slice h.fa r.first.length h.fc, .int .u32 r.irs, .int .u32 r.own, .bool r.stamp]] w fun e w' => e = .returned (.int .i64 q) ∧ Below w.heap.size w w' := by
  have hX := Box.new w 46 (rvL r h)
  have b0 : Below w.heap.size w (w.alloc (.cells #[.int .i64 r.s.n, .slice h.ua r.s.u.length h.uc, .slice h.la h.es.length h.lc, .int .i64 r.cap, .int .i64 r.shift, .int .i64 r.edge, .int .u32 r.recent, .bool r.stamps, .bool r.sacks, .int .i64 r.fin, .bool r.dn, .slice h.fa r.first.length h.fc, .int .u32 r.irs, .int .u32 r.own, .bool r.stamp] 46)) := (Below.refl _ w).alloc (Nat.le_refl _) _
  obtain ⟨W0, hW0⟩ : ∃ W0, w.alloc (.cells #[.int .i64 r.s.n, .slice h.ua r.s.u.length h.uc, .slice h.la h.es.length h.lc, .int .i64 r.cap, .int .i64 r.shift, .int .i64 r.edge, .int .u32 r.recent, .bool r.stamps, .bool r.sacks, .int .i64 r.fin, .bool r.dn, .slice h.fa r.first.length h.fc, .int .u32 r.irs, .int .u32 r.own, .bool r.stamp] 46) = W0 := ⟨_, rfl⟩
  have hW0' : w.alloc (.cells (rvL r h).toArray 46) = W0 := hW0
  rw [hW0'] at hX
  rw [hW0] at b0
  have HB : Hid (Below w.heap.size w W0) := b0
  have HK : Hid (∀ W, Below W0.heap.size W0 W → W.cell? ⟨w.heap.size, 0, none⟩ = some (.int .i64 r.s.n) ∧ W.cell? ⟨w.heap.size, 1, none⟩ = some (.slice h.ua r.s.u.length h.uc) ∧ W.cell? ⟨w.heap.size, 2, none⟩ = some (.slice h.la h.es.length h.lc) ∧ W.cell? ⟨w.heap.size, 3, none⟩ = some (.int .i64 r.cap) ∧ W.cell? ⟨w.heap.size, 4, none⟩ = some (.int .i64 r.shift) ∧ W.cell? ⟨w.heap.size, 5, none⟩ = some (.int .i64 r.edge) ∧ W.cell? ⟨w.heap.size, 6, none⟩ = some (.int .u32 r.recent) ∧ W.cell? ⟨w.heap.size, 7, none⟩ = some (.bool r.stamps) ∧ W.cell? ⟨w.heap.size, 8, none⟩ = some (.bool r.sacks) ∧ W.cell? ⟨w.heap.size, 9, none⟩ = some (.int .i64 r.fin) ∧ W.cell? ⟨w.heap.size, 10, none⟩ = some (.bool r.dn) ∧ W.cell? ⟨w.heap.size, 11, none⟩ = some (.slice h.fa r.first.length h.fc) ∧ W.cell? ⟨w.heap.size, 12, none⟩ = some (.int .u32 r.irs) ∧ W.cell? ⟨w.heap.size, 13, none⟩ = some (.int .u32 r.own) ∧ W.cell? ⟨w.heap.size, 14, none⟩ = some (.bool r.stamp)) := fun W hW => Box.c15 (show Box W w.heap.size 46 [.int .i64 r.s.n, .slice h.ua r.s.u.length h.uc, .slice h.la h.es.length h.lc, .int .i64 r.cap, .int .i64 r.shift, .int .i64 r.edge, .int .u32 r.recent, .bool r.stamps, .bool r.sacks, .int .i64 r.fin, .bool r.dn, .slice h.fa r.first.length h.fc, .int .u32 r.irs, .int .u32 r.own, .bool r.stamp] from hX.later hW)
  have n1 := numbers_walk r h W0
  have HQ : Hid ((if okB r h.es = true then (0 : Int) else 230) = q) := hq
  obtain ⟨c0, c1, c2, c3, c4, c5, c6, c7, c8, c9, c10, c11, c12, c13, c14⟩ := HK.out W0 (Below.refl _ _)
  cases h1 : numB r with
  | false =>
    rw [h1] at n1
    obtain rfl : q = 230 := by rw [← hq]; unfold okB; rw [h1]; rfl
    clear hq h1 H hX hW0' b0
    go_enter Try.func32, Try.ntmps32
    go_wp2_with (first | (go_at_call 44; refine n1.mono ?_; rintro e w1 ⟨rfl, hB1⟩))
    go_ret
    exact ⟨rfl, Below.on HB.out hB1⟩
  | true =>
    rw [h1] at n1
    have hlow : lowB r := by
      unfold numB at h1
      simp only [Bool.and_eq_true] at h1
      exact lowBb_iff.1 h1.1.1.1.1
    have n2 := fun W (hW : Below W0.heap.size W0 W) => late_walk r h W (H.later (Below.on b0 hW)) hlow
    cases h2 : lateB r h.es with
    | false =>
      rw [h2] at n2
      obtain rfl : q = 230 := by rw [← hq]; unfold okB; rw [h1, h2]; rfl
      clear hq h1 h2 H hX hW0' b0 hlow
      go_enter Try.func32, Try.ntmps32
      go_wp2_with (first
        | (go_at_call 44; refine n1.mono ?_; rintro e w1 ⟨rfl, hB1⟩; obtain ⟨d0, d1, d2, d3, d4, d5, d6, d7, d8, d9, d10, d11, d12, d13, d14⟩ := HK.out _ hB1)
        | (go_at_call 45; refine (n2 _ hB1).mono ?_; rintro e w2 ⟨rfl, hB2⟩))
      go_ret
      exact ⟨rfl, Below.on HB.out (Below.on hB1 hB2)⟩
    | true =>
      have hfits : Fits r.s.l := by
        have hxs : ∀ x ∈ h.es, I64 x.f ∧ x.bs.length ≤ 140737488351232 := fun x hx => ⟨(H.late.ok x hx).2, (H.late.ok x hx).1.1.1⟩
        have h2' := h2
        unfold lateB at h2'
        simp only [Bool.and_eq_true] at h2'
        have hc := (chk_lat (es := h.es) (lo := -1) (by omega) hxs).1 h2'.1
        rw [H.les] at hc
        obtain ⟨⟨a1, a2⟩, ⟨a3, a4⟩, ⟨a5, a6⟩, a7, a8⟩ := hlow
        cases hl : r.s.l with
        | nil => exact ⟨0, by omega, trivial, fun p hp => by cases hp⟩
        | cons p rest =>
          have hl0 : h.es.length ≠ 0 := by rw [← H.len, hl]; simp
          have h3 := h2'.2
          simp only [Bool.or_eq_true, Bool.and_eq_true, decide_eq_true_iff] at h3
          obtain ⟨z, hz⟩ : ∃ z, r.s.l.getLast? = some z := by rw [hl]; exact ⟨_, List.getLast?_eq_some_getLast (by simp)⟩
          rcases h3 with h3 | ⟨h3, h4⟩
          · exact absurd h3 hl0
          · obtain ⟨x0, hx0⟩ : ∃ x0, h.es[0]? = some x0 := ⟨_, List.getElem?_eq_getElem (by omega)⟩
            obtain ⟨x1, hx1⟩ : ∃ x1, h.es[h.es.length - 1]? = some x1 := ⟨_, List.getElem?_eq_getElem (by omega)⟩
            have e0 : x0.pc = p := by
              have := congrArg (fun l => l[0]?) H.les
              simp only [List.getElem?_map, hx0, hl] at this
              simpa using this
            have e1 : x1.pc = z := by
              have hz' := hz
              rw [← H.les, List.getLast?_map, List.getLast?_eq_getElem?, hx1] at hz'
              simpa using hz'
            have e2 : (spnsW h.es)[0]?.getD ((0, 0) : Tm) = spW x0 := by unfold spnsW; rw [List.getElem?_map, hx0]; rfl
            have e3 : (spnsW h.es)[h.es.length - 1]?.getD ((0, 0) : Tm) = spW x1 := by unfold spnsW; rw [List.getElem?_map, hx1]; rfl
            have hlb : boundI r ≤ 562949953421312 := by
              have hm := (Pl.min_le r.reach Pl.farI).2.1
              have hm2 := (Pl.min_le r.limit r.fin).1
              unfold boundI
              have : r.limit = Pl.minJ r.reach Pl.farI := rfl
              unfold Pl.farI at *
              split <;> omega
            have e4 : (spW x1).2 = Pl.pend z := by
              have hzb := hc.2 z (List.mem_of_getLast? hz)
              rw [← e1] at hzb ⊢
              have e5 : Pl.pend x1.pc = x1.f + (x1.bs.length : Int) := rfl
              have hb := (hxs x1 (List.mem_of_getElem? hx1)).1
              unfold I64 at hb
              show wrap64 (x1.f + (x1.bs.length : Int)) = _
              rw [e5] at hzb ⊢
              exact wrap64_id (by omega) (by omega)
            have h4' : ((spnsW h.es)[h.es.length - 1]?.getD ((0, 0) : Tm)).2 ≤ boundI r := h4
            rw [e3, e4] at h4'
            rw [← hl]
            have h3' : r.s.n < ((spnsW h.es)[0]?.getD ((0, 0) : Tm)).1 := h3
            rw [e2] at h3'
            refine ⟨r.s.n, a1, ?_, fun q hq' => ?_⟩
            · rw [hl] at hc ⊢
              refine ⟨?_, hc.1.2⟩
              rw [← e0]; exact h3'
            · have := lat_last hc.1 hz q hq'
              omega
      have n3 := fun W (hW : Below W0.heap.size W0 W) => firsts_walk r h W (H.later (Below.on b0 hW)) hfits
      obtain ⟨f, hf⟩ : ∃ f, fstGo r.s.l r.first [] = f := ⟨_, rfl⟩
      rw [hf] at n3
      rw [h2] at n2
      have HF : Hid ((if f = true then (0 : Int) else 230) = q) := by
        unfold Hid; rw [← hq]; unfold okB; rw [h1, h2, hf]; simp
      clear hq h1 h2 H hX hW0' b0 hlow hfits hf
      cases f with
      | true =>
        obtain rfl : (0 : Int) = q := by have := HF.out; simpa using this
        go_enter Try.func32, Try.ntmps32
        go_wp2_with (first
          | (go_at_call 44; refine n1.mono ?_; rintro e w1 ⟨rfl, hB1⟩; obtain ⟨d0, d1, d2, d3, d4, d5, d6, d7, d8, d9, d10, d11, d12, d13, d14⟩ := HK.out _ hB1)
          | (go_at_call 45; refine (n2 _ hB1).mono ?_; rintro e w2 ⟨rfl, hB2⟩; have hB12 := Below.on hB1 hB2; clear d0 d1 d2 d3 d4 d5 d6 d7 d8 d9 d10 d11 d12 d13 d14; obtain ⟨d0, d1, d2, d3, d4, d5, d6, d7, d8, d9, d10, d11, d12, d13, d14⟩ := HK.out _ hB12)
          | (go_at_call 46; refine (n3 _ hB12).mono ?_; rintro e w3 ⟨rfl, hB3⟩))
        go_ret
        exact ⟨rfl, Below.on HB.out (Below.on hB12 hB3)⟩
      | false =>
        obtain rfl : (230 : Int) = q := by have := HF.out; simpa using this
        go_enter Try.func32, Try.ntmps32
        go_wp2_with (first
          | (go_at_call 44; refine n1.mono ?_; rintro e w1 ⟨rfl, hB1⟩; obtain ⟨d0, d1, d2, d3, d4, d5, d6, d7, d8, d9, d10, d11, d12, d13, d14⟩ := HK.out _ hB1)
          | (go_at_call 45; refine (n2 _ hB1).mono ?_; rintro e w2 ⟨rfl, hB2⟩; have hB12 := Below.on hB1 hB2; clear d0 d1 d2 d3 d4 d5 d6 d7 d8 d9 d10 d11 d12 d13 d14; obtain ⟨d0, d1, d2, d3, d4, d5, d6, d7, d8, d9, d10, d11, d12, d13, d14⟩ := HK.out _ hB12)
          | (go_at_call 46; refine (n3 _ hB12).mono ?_; rintro e w3 ⟨rfl, hB3⟩))
        go_ret
        exact ⟨rfl, Below.on HB.out (Below.on hB12 hB3)⟩
theorem recvCheck_ok (r : Pl.Rv) (h : Hd) (w : World) (H : RvAt w r h) (hok : r.Ok) : Calls Try.prog 32 #[.agg #[.int .i64 r.s.n, .slice h.ua r.s.u.length h.uc, .slice h.la h.es.length h.lc, .int .i64 r.cap, .int .i64 r.shift, .int .i64 r.edge, .int .u32 r.recent, .bool r.stamps, .bool r.sacks, .int .i64 r.fin, .bool r.dn, .slice h.fa r.first.length h.fc, .int .u32 r.irs, .int .u32 r.own, .bool r.stamp]] w fun e w' => e = .returned (.int .i64 0) ∧ Below w.heap.size w w' :=
  recvCheck_any r h w H 0 (by rw [if_pos ((okB_iff H).2 hok)])
theorem recvCheck_no (r : Pl.Rv) (h : Hd) (w : World) (H : RvAt w r h) (hok : ¬ r.Ok) : Calls Try.prog 32 #[.agg #[.int .i64 r.s.n, .slice h.ua r.s.u.length h.uc, .slice h.la h.es.length h.lc, .int .i64 r.cap, .int .i64 r.shift, .int .i64 r.edge, .int .u32 r.recent, .bool r.stamps, .bool r.sacks, .int .i64 r.fin, .bool r.dn, .slice h.fa r.first.length h.fc, .int .u32 r.irs, .int .u32 r.own, .bool r.stamp]] w fun e w' => e = .returned (.int .i64 230) ∧ Below w.heap.size w w' :=
  recvCheck_any r h w H 230 (by rw [if_neg (fun hc => hok ((okB_iff H).1 hc))])
end Go.Proofs.Ytdodagpkkjpdiaa
