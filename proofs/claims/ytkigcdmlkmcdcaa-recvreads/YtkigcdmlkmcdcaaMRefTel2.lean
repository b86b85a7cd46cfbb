/- The document's tell in its outer form; its Tell. -/
import Derived.Test.YtkigcdmlkmcdcaaZ
import Derived.Test.YtkigcdmlkmcdcaaMRefTell
import Derived.Test.YtkigcdmlkmcdcaaMRefSeq
import Derived.Test.YtkigcdmlkmcdcaaMRefWin
import Derived.Test.YtkigcdmlkmcdcaaGO
namespace Go.Proofs.Ytkigcdmlkmcdcaa
open Go.ChangeShapes Go.WideShapes Go.ChangeAt Go.RowKit
set_option linter.unusedVariables false
set_option linter.unusedSimpArgs false

theorem zi8 {w U : World} (h : Chg (lies none) w U) : Below w.heap.size w U :=
 ⟨h.flat.os, h.flat.tape, h.flat.output, h.flat.size, fun k hk => h.same k hk (fun ⟨_, _, e⟩ => by cases e)⟩
theorem first_bd {r : Pl.Rv} (ho : r.Ok) {x : Tm} (hx : x ∈ r.first) : (0 ≤ x.1 ∧ x.1 ≤ 562949953421312) ∧ 0 ≤ x.2 ∧ x.2 ≤ 562949953421312 := by
 have h1 := ho.fst x hx
 unfold Pl.spansL at h1
 obtain ⟨p, hp, rfl⟩ := List.mem_map.1 h1
 have h2 := zbj ho.lat p hp
 have h3 := pend_m ho p hp
 have h4 := ho.n0
 show (0 ≤ p.1 ∧ p.1 ≤ _) ∧ 0 ≤ Pl.pend p ∧ Pl.pend p ≤ _
 omega
theorem ak_is (r : Pl.Rv) : Pl.adI r.irs (if r.dn = true then r.s.n + 1 else r.s.n) = if r.dn = true then Pl.adI (Pl.adI r.irs r.s.n) 1 else Pl.adI r.irs r.s.n := by
 split
 · exact ad_one _ _
 · rfl
set_option maxHeartbeats 4000000 in
theorem ze9 (r : Pl.Rv) (h : Hd) (w : World) (H : RvAt w r h) (hok : r.Ok) :
 Calls Try.prog 40 #[.agg #[.int .i64 r.s.n, .slice h.ua r.s.u.length h.uc, .slice h.la h.es.length h.lc, .int .i64 r.cap, .int .i64 r.shift, .int .i64 r.edge, .int .u32 r.recent, .bool r.stamps, .bool r.sacks, .int .i64 r.fin, .bool r.dn, .slice h.fa r.first.length h.fc, .int .u32 r.irs, .int .u32 r.own, .bool r.stamp], .slice none 0 0] w fun e w' => ∃ (k : Hd) (ks : Hs), e = .returned (.tuple #[.agg #[.int .i64 (Pl.tellR r).s.n, .slice k.ua (Pl.tellR r).s.u.length k.uc, .slice k.la k.es.length k.lc, .int .i64 (Pl.tellR r).cap, .int .i64 (Pl.tellR r).shift, .int .i64 (Pl.tellR r).edge, .int .u32 (Pl.tellR r).recent, .bool (Pl.tellR r).stamps, .bool (Pl.tellR r).sacks, .int .i64 (Pl.tellR r).fin, .bool (Pl.tellR r).dn, .slice k.fa (Pl.tellR r).first.length k.fc, .int .u32 (Pl.tellR r).irs, .int .u32 (Pl.tellR r).own, .bool (Pl.tellR r).stamp], .agg #[.int .i64 (tellS r r.first).sp, .int .i64 (tellS r r.first).dp, .int .u32 (tellS r r.first).sq, .int .u32 (tellS r r.first).ak, .int .i64 (tellS r r.first).fl, .int .i64 (tellS r r.first).wn, .int .i64 (tellS r r.first).ur, .int .i64 (tellS r r.first).ms, .int .i64 (tellS r r.first).sc, .bool (tellS r r.first).so, .bool (tellS r r.first).st, .int .u32 (tellS r r.first).va, .int .u32 (tellS r r.first).ec, .slice ks.ka (tellS r r.first).sk.length ks.kc, .slice ks.da (tellS r r.first).da.length ks.dc]]) ∧ RvOwn w' w.heap.size (Pl.tellR r) k ∧ SgOwn w' w.heap.size (tellS r r.first) ks ∧ Below w.heap.size w w' := by
 obtain ⟨ua, uc, la, lc, es, fa, fc⟩ := h
 have hwb := Pl.window_bd hok.uc
 have hcm := hok.cm
 have he := hok.er
 have hr := Pl.Ok.reach hok
 have hnf := hok.nf
 have hn0 := hok.n0
 have hun := hok.un
 unfold Pl.Rv.reach Pl.Rx.bot at he
 unfold Pl.farI at hnf
 have hnn : (if r.dn = true then r.s.n + 1 else r.s.n) ≤ 562949953421313 ∧ 0 ≤ (if r.dn = true then r.s.n + 1 else r.s.n) := by split <;> omega
 refine (refTell_in r.s.n r.cap r.shift r.edge r.recent r.fin r.irs r.own r.stamps r.sacks r.dn r.stamp ua r.s.u.length uc la es.length lc fa r.first.length fc r none 0 0 [] w.heap.size w r.window _ _ (if r.dn = true then Pl.adI (Pl.adI r.irs r.s.n) 1 else Pl.adI r.irs r.s.n) _ _ r.first _ _
  (fun W => zcg r ⟨ua, uc, la, lc, es, fa, fc⟩ W (ok_lowB hok)) (fun W => ?_) (fun x hx W => ?_) (fun U hU => ?_) (fun U hU => (H.later (zi8 hU)).fst) rfl (RowB.nil _ _) (Nat.le_refl _) (by omega) rfl ⟨hwb.1, by omega⟩ ⟨hok.n0, hnf⟩ ⟨hok.s0, hok.s14⟩ ⟨hok.e0, by omega⟩ rfl rfl rfl rfl rfl).mono ?_
 · have := zds r.irs (if r.dn = true then r.s.n + 1 else r.s.n) H.irs ⟨by omega, by omega⟩ W
   rwa [ak_is] at this
 · have hb := first_bd hok hx
   exact ⟨zds r.irs x.1 H.irs ⟨by omega, by omega⟩ W, zds r.irs x.2 H.irs ⟨by omega, by omega⟩ W⟩
 · refine (zfb r ⟨ua, uc, la, lc, es, fa, fc⟩ U (H.later (zi8 hU))).mono ?_
   rintro e w' ⟨⟨ua1, uc1, la1, lc1, es1, fa1, fc1⟩, rfl, hO, hB⟩
   refine ⟨ua1, uc1, la1, lc1, es1, fa1, fc1, ?_, hO, hB⟩
   have h1 := hO.les
   have h2 := H.les
   have h3 : es1.length = es.length := by
    have := congrArg List.length (h1.trans h2.symm)
    simpa using this
   simp only [h3]
 · rintro e w' ⟨ua1, uc1, la1, lc1, es1, fa1, fc1, ka, kc, rfl, hO, hR, hl, hc⟩
   have hsk : refSk r.irs r.stamps r.sacks [] r.first = (tellS r r.first).sk := refSk_nil _ _ _ _
   rw [hsk] at hR
   refine ⟨⟨ua1, uc1, la1, lc1, es1, fa1, fc1⟩, ⟨ka, kc, none, 0⟩, ?_, hO.tell, ⟨hR, ?_, rfl, rfl, rfl⟩, zi8 hc⟩
   · have h1 := hO.les
     have h2 := H.les
     have h3 : es1.length = es.length := by
      have := congrArg List.length (h1.trans h2.symm)
      simpa using this
     rw [hsk]
     simp only [h3]
     rfl
   · show (sackL r.irs r.stamps r.sacks r.first).length ≤ 4
     unfold sackL
     split
     · rw [List.length_map, List.length_take]
       split <;> omega
     · simp
end Go.Proofs.Ytkigcdmlkmcdcaa

