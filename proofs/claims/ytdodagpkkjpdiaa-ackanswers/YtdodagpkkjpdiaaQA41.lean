/- Texts: TellC, Read, Filled. -/
import Derived.Test.YtdodagpkkjpdiaaQA35
import Derived.Test.YtdodagpkkjpdiaaClass
import Derived.Test.YtdodagpkkjpdiaaRecvQ
import Derived.Test.YtdodagpkkjpdiaaQA39
import Derived.Test.YtdodagpkkjpdiaaQA40
namespace Go.Proofs.Ytdodagpkkjpdiaa
open Go.ChangeShapes Go.WideShapes Go.ChangeAt Go.RowKit
set_option linter.unusedVariables false
set_option linter.unusedSimpArgs false
end Go.Proofs.Ytdodagpkkjpdiaa
namespace Go.Proofs.Ytdodagpkkjpdiaa
open Go.ChangeShapes Go.WideShapes Go.ChangeAt Go.RowKit
set_option linter.unusedVariables false
set_option linter.unusedSimpArgs false
theorem wp_world {c : Code} {P : Program} {Q : Exit → Act → World → Prop} {a : Act} {V V' : World} (h : V = V') (g : c.wp P Q a V') : c.wp P Q a V := h ▸ g
theorem ownsRow_besideAll {B : Nat} {e : TypeId} {s n : Nat} {v : Value} {xs : List Value} {g : Nat} {t' : TypeId} (ht : t' ≠ e) : ∀ (vs : List Value) (w : World) (cs : List Value) (i : Nat), w.ownsRow B e s v n xs → Box w g t' cs → (setAll w g i vs).ownsRow B e s v n xs
  | [], _, _, _, h, _ => h
  | u :: vs, _, _, i, h, hg => ownsRow_besideAll ht vs _ _ (i + 1) (ownsRow_beside h hg ht i u) (hg.set i u)
theorem RvOwn.besideS {w : World} {B : Nat} {r : Pl.Rv} {h : Hd} (H : RvOwn w B r h) {g : Nat} {cs : List Value} (hg : Box w g 28 cs) (i : Nat) (vs : List Value) : RvOwn (setAll w g i vs) B r h :=
  { H with row := ownsRow_besideAll (by decide) _ _ _ _ H.row hg, fam := ⟨fun x hx => { H.fam.mine x hx with row := ownsRow_besideAll (by decide) _ _ _ _ (H.fam.mine x hx).row hg }, H.fam.part⟩, fst := ownsRow_besideAll (by decide) _ _ _ _ H.fst hg }
theorem SgOwn.besideS {w : World} {B : Nat} {s : Seg} {k : Hs} (h : SgOwn w B s k) {g : Nat} {cs : List Value} (hg : Box w g 28 cs) (i : Nat) (vs : List Value) : SgOwn (setAll w g i vs) B s k := { h with row := ownsRow_besideAll (by decide) _ _ _ _ h.row hg }
end Go.Proofs.Ytdodagpkkjpdiaa
namespace Go.Proofs.Ytdodagpkkjpdiaa
open Go.ChangeShapes Go.WideShapes Go.ChangeAt Go.RowKit
set_option linter.unusedVariables false
set_option linter.unusedSimpArgs false
/-- The receiver that has fresh pieces too. -/
def fillR (r : Pl.Rv) (fr : List Pl.Pc) : Pl.Rv := { r with s := Pl.mrgGo (Pl.bothN (r.s.l.length + fr.length) r.s.l fr) ⟨r.s.n, r.s.u, []⟩ }
theorem tot_perm {a b : List En} (h : a.Perm b) : tot a = tot b := (h.map _).sum_nat
theorem RvOwn.besideR {w : World} {B : Nat} {r : Pl.Rv} {h : Hd} (H : RvOwn w B r h) {g : Nat} {cs : List Value} (hg : Box w g 46 cs) (i : Nat) (vs : List Value) : RvOwn (setAll w g i vs) B r h :=
  { H with row := ownsRow_besideAll (by decide) _ _ _ _ H.row hg, fam := ⟨fun x hx => { H.fam.mine x hx with row := ownsRow_besideAll (by decide) _ _ _ _ (H.fam.mine x hx).row hg }, H.fam.part⟩, fst := ownsRow_besideAll (by decide) _ _ _ _ H.fst hg }
theorem chg_setAll {S : Nat → Prop} {g : Nat} (hg : S g) : ∀ (vs : List Value) (i : Nat) (w : World), Chg S w (setAll w g i vs)
  | [], _, w => Chg.of_below (Below.refl _ _)
  | v :: vs, i, w => (Chg.set w g i v hg).trans (chg_setAll hg vs (i + 1) _)
set_option maxRecDepth 100000 in
set_option maxHeartbeats 4000000 in
theorem both_any (A : Option Addr) (n c : Nat) (D : Option Addr) (m d : Nat) (w : World) :
    Calls Try.prog 70 #[.slice A n c, .slice D m d] w fun e w' => e = .returned (.func (.func 78) #[] #[.pointer (some ⟨w.heap.size, 0, none⟩), .pointer (some ⟨w.heap.size + 1, 0, none⟩)]) ∧ w' = (w.alloc (.cells #[.slice A n c] 44)).alloc (.cells #[.slice D m d] 44) := by
  go_enter Try.func70, Try.ntmps70
  go_wp2
  go_ret
  exact ⟨rfl, rfl⟩
set_option maxRecDepth 100000 in
set_option maxHeartbeats 8000000 in
theorem filled_any (r : Pl.Rv) (h : Hd) (fa : Option Addr) (fc : Nat) (fr : List En) (B : Nat) (w : World) (H : RvOwn w B r h) (hB : B ≤ w.heap.size) (hF : RowE w B fa fr.length fc fr) (hfam : Fam w B (⟨0, h.ua, h.uc, r.s.u⟩ :: (h.es ++ fr)))
    (n0 : 0 ≤ r.s.n) (nb : r.s.n + (tot (h.es ++ fr) : Int) ≤ 1125899906842624) (ub : r.s.u.length + tot (h.es ++ fr) ≤ 140737488351232) (cb : (h.es ++ fr).length * 32 ≤ 140737488351232) (bd : ∀ e ∈ h.es ++ fr, 0 ≤ e.f ∧ e.f + (e.bs.length : Int) ≤ 1125899906842624) (r2 : Pl.Rv) (hr2 : fillR r (fr.map En.pc) = r2) :
    Calls Try.prog 52 #[.agg #[.int .i64 r.s.n, .slice h.ua r.s.u.length h.uc, .slice h.la h.es.length h.lc, .int .i64 r.cap, .int .i64 r.shift, .int .i64 r.edge, .int .u32 r.recent, .bool r.stamps, .bool r.sacks, .int .i64 r.fin, .bool r.dn, .slice h.fa r.first.length h.fc, .int .u32 r.irs, .int .u32 r.own, .bool r.stamp], .slice fa fr.length fc] w fun e w' => ∃ k : Hd, e = .returned (.agg #[.int .i64 r2.s.n, .slice k.ua r2.s.u.length k.uc, .slice k.la k.es.length k.lc, .int .i64 r2.cap, .int .i64 r2.shift, .int .i64 r2.edge, .int .u32 r2.recent, .bool r2.stamps, .bool r2.sacks, .int .i64 r2.fin, .bool r2.dn, .slice k.fa r2.first.length k.fc, .int .u32 r2.irs, .int .u32 r2.own, .bool r2.stamp]) ∧ RvOwn w' B r2 k ∧ Keep B w w' := by
  obtain ⟨W0, hW0⟩ : ∃ W0, (w.alloc (.cells #[.int .i64 r.s.n, .slice h.ua r.s.u.length h.uc, .slice h.la h.es.length h.lc, .int .i64 r.cap, .int .i64 r.shift, .int .i64 r.edge, .int .u32 r.recent, .bool r.stamps, .bool r.sacks, .int .i64 r.fin, .bool r.dn, .slice h.fa r.first.length h.fc, .int .u32 r.irs, .int .u32 r.own, .bool r.stamp] 46)).alloc (.cells #[.int .i64 0, .slice none 0 0, .slice none 0 0, .int .i64 0, .int .i64 0, .int .i64 0, .int .u32 0, .bool false, .bool false, .int .i64 0, .bool false, .slice none 0 0, .int .u32 0, .int .u32 0, .bool false] 46) = W0 := ⟨_, rfl⟩
  have b0 : Below w.heap.size w W0 := by rw [← hW0]; exact below_more (below_more (Below.refl _ _) _) _
  have hX : Box W0 w.heap.size 46 [.int .i64 r.s.n, .slice h.ua r.s.u.length h.uc, .slice h.la h.es.length h.lc, .int .i64 r.cap, .int .i64 r.shift, .int .i64 r.edge, .int .u32 r.recent, .bool r.stamps, .bool r.sacks, .int .i64 r.fin, .bool r.dn, .slice h.fa r.first.length h.fc, .int .u32 r.irs, .int .u32 r.own, .bool r.stamp] := by rw [← hW0]; exact Box.alloc (Box.new w 46 (rvL r h)) _
  have hZ : Box W0 (w.heap.size + 1) 46 [.int .i64 0, .slice none 0 0, .slice none 0 0, .int .i64 0, .int .i64 0, .int .i64 0, .int .u32 0, .bool false, .bool false, .int .i64 0, .bool false, .slice none 0 0, .int .u32 0, .int .u32 0, .bool false] := by rw [← hW0]; have := Box.new (w.alloc (.cells (rvL r h).toArray 46)) 46 [.int .i64 0, .slice none 0 0, .slice none 0 0, .int .i64 0, .int .i64 0, .int .i64 0, .int .u32 0, .bool false, .bool false, .int .i64 0, .bool false, .slice none 0 0, .int .u32 0, .int .u32 0, .bool false]; rwa [World.size_alloc] at this
  have hs0 : W0.heap.size = w.heap.size + 2 := by rw [← hW0]; simp
  obtain ⟨W2, hW2⟩ : ∃ W2, (W0.alloc (.cells #[.slice h.la h.es.length h.lc] 44)).alloc (.cells #[.slice fa fr.length fc] 44) = W2 := ⟨_, rfl⟩
  have b2 : Below W0.heap.size W0 W2 := by rw [← hW2]; exact below_more (below_more (Below.refl _ _) _) _
  have b02 : Below w.heap.size w W2 := Below.on b0 b2
  have hs2 : W2.heap.size = w.heap.size + 4 := by rw [← hW2]; simp [hs0]
  have cB := both_any h.la h.es.length h.lc fa fr.length fc W0
  rw [hW2] at cB
  have hBa : W2.cell? ⟨W0.heap.size, 0, none⟩ = some (.slice h.la h.es.length h.lc) := by
    rw [← hW2]; exact ((Boxed.new W0 44 (.slice h.la h.es.length h.lc)).alloc _).cell
  have hBb : W2.cell? ⟨W0.heap.size + 1, 0, none⟩ = some (.slice fa fr.length fc) := by
    rw [← hW2]
    have := (Boxed.new (W0.alloc (.cells #[.slice h.la h.es.length h.lc] 44)) 44 (.slice fa fr.length fc)).cell
    rwa [World.size_alloc] at this
  obtain ⟨T, hT⟩ : ∃ T, bothE (h.es.length + fr.length) h.es fr = T := ⟨_, rfl⟩
  have hTp : T.Perm (h.es ++ fr) := by rw [← hT]; exact bothE_perm (Nat.le_refl _)
  have hTt := tot_perm hTp
  have hTl := hTp.length_eq
  have hseq := both_deep 5 W0.heap.size (W0.heap.size + 1) h.lc fc h.la fa h.es fr w W2 H.row.ents hF.ents H.row.max.1 hF.max.1 (Nat.le_trans H.row.max.1 H.row.max.2) (Nat.le_trans hF.max.1 hF.max.2) b02 hBa hBb T hT
  have hbx2 : Box W2 w.heap.size 46 [.int .i64 r.s.n, .slice h.ua r.s.u.length h.uc, .slice h.la h.es.length h.lc, .int .i64 r.cap, .int .i64 r.shift, .int .i64 r.edge, .int .u32 r.recent, .bool r.stamps, .bool r.sacks, .int .i64 r.fin, .bool r.dn, .slice h.fa r.first.length h.fc, .int .u32 r.irs, .int .u32 r.own, .bool r.stamp] := hX.later b2
  have cM := merged_any w W2 B w.heap.size [.slice h.la h.es.length h.lc, .int .i64 r.cap, .int .i64 r.shift, .int .i64 r.edge, .int .u32 r.recent, .bool r.stamps, .bool r.sacks, .int .i64 r.fin, .bool r.dn, .slice h.fa r.first.length h.fc, .int .u32 r.irs, .int .u32 r.own, .bool r.stamp] ⟨r.s.n, r.s.u, []⟩ rfl h.ua h.uc T _ _ _ (fun k hk => by have := hk.2; have := b02.size; omega) (fun k hk => ?_) hseq hbx2 ((hfam.perm (hTp.cons _)).later b02) (Keep.of_below b02 hB) hB (Nat.le_refl _) n0 (by rw [hTt]; exact nb) (by rw [hTt]; exact ub) (by rw [hTl]; exact cb) (fun e he => bd e (hTp.mem_iff.1 he))
  rotate_left
  · rcases hk.1 with h1 | h1
    · obtain ⟨_, _, hlt, cur, e⟩ := owns_lies H.row h1
      exact ⟨cur, (b02.block k hlt).trans e⟩
    · obtain ⟨_, _, hlt, cur, e⟩ := owns_lies hF h1
      exact ⟨cur, (b02.block k hlt).trans e⟩
  have hmap : T.map En.pc = Pl.bothN (r.s.l.length + (fr.map En.pc).length) r.s.l (fr.map En.pc) := by
    rw [← hT, bothE_map, ← H.les, List.length_map, List.length_map]
  have HH : Hid (RvOwn w B r h ∧ T.map En.pc = Pl.bothN (r.s.l.length + (fr.map En.pc).length) r.s.l (fr.map En.pc) ∧ fillR r (fr.map En.pc) = r2) := ⟨H, hmap, hr2⟩
  have HZ : Hid (Box W2 (w.heap.size + 1) 46 [.int .i64 0, .slice none 0 0, .slice none 0 0, .int .i64 0, .int .i64 0, .int .i64 0, .int .u32 0, .bool false, .bool false, .int .i64 0, .bool false, .slice none 0 0, .int .u32 0, .int .u32 0, .bool false] ∧ W2.heap.size = w.heap.size + 4) := ⟨hZ.later b2, hs2⟩
  have c2 := hX.cell 2 rfl
  clear H hF hfam nb ub cb bd b0 hX hZ hs0 b2 b02 hs2 hBa hBb hT hTp hTt hTl hseq hbx2 hmap hr2 hW2
  go_enter Try.func52, Try.ntmps52
  go_upto_region 3 with (first
    | (go_at_call 70; refine cB.mono ?_; rintro e w' ⟨rfl, hw'⟩; obtain rfl := hw'.symm)
    | (go_at_call 69; refine cM.mono ?_; rintro e w3 ⟨n2, us, out, va, vc, ua2, uc2, own, rfl, hM3, hP3, hK3, hO3⟩; have hxc := hM3.box.cell 2 rfl; have hxf := hM3.box.frozen 2; have HM : Hid (_ ∧ _ ∧ _ ∧ _) := ⟨hM3, hP3, hK3, hO3⟩; clear hM3 hP3 hK3 hO3))
  clear cB cM c2 hW0
  obtain ⟨hM3, hP3, hK3, hO3⟩ := HM.out
  obtain ⟨k, hk⟩ : ∃ k : Hd, (⟨ua2, uc2, va, vc, out, h.fa, h.fc⟩ : Hd) = k := ⟨_, rfl⟩
  have hs2 : r2.s = ⟨n2, us, out.map En.pc⟩ := by
    rw [← HH.out.2.2]
    show Pl.mrgGo (Pl.bothN (r.s.l.length + (fr.map En.pc).length) r.s.l (fr.map En.pc)) ⟨r.s.n, r.s.u, []⟩ = _
    rw [← HH.out.2.1]; exact hP3.st
  have hre : r2 = { r with s := ⟨n2, us, out.map En.pc⟩ } := by rw [← HH.out.2.2] at hs2 ⊢; unfold fillR at hs2 ⊢; simp only at hs2 ⊢; rw [hs2]
  have O3 : RvOwn w3 B r2 k := by
    rw [hre, ← hk]
    refine ⟨rfl, ?_, ?_, ?_, hK3.owns HH.out.1.fst (by decide), HH.out.1.frc⟩
    · have := hP3.cb; simp at this; exact this
    · have h1 := HZ.out.2
      exact hM3.row.mono (by omega)
    · have := hM3.fam; simpa using this
  obtain ⟨V, hV⟩ : ∃ V, w3.setCell ⟨w.heap.size, 2, none⟩ (.slice va out.length vc) = V := ⟨_, rfl⟩
  have hbV : Box V w.heap.size 46 [.int .i64 r2.s.n, .slice k.ua r2.s.u.length k.uc, .slice k.la k.es.length k.lc, .int .i64 r2.cap, .int .i64 r2.shift, .int .i64 r2.edge, .int .u32 r2.recent, .bool r2.stamps, .bool r2.sacks, .int .i64 r2.fin, .bool r2.dn, .slice k.fa r2.first.length k.fc, .int .u32 r2.irs, .int .u32 r2.own, .bool r2.stamp] := by
    rw [← hV, hre, ← hk]
    exact hM3.box.set 2 _
  have hzw : Box w3 (w.heap.size + 1) 46 [.int .i64 0, .slice none 0 0, .slice none 0 0, .int .i64 0, .int .i64 0, .int .i64 0, .int .u32 0, .bool false, .bool false, .int .i64 0, .bool false, .slice none 0 0, .int .u32 0, .int .u32 0, .bool false] := hO3.box HZ.out.1 (by decide) (by omega)
  have hzV : Box V (w.heap.size + 1) 46 [.int .i64 0, .slice none 0 0, .slice none 0 0, .int .i64 0, .int .i64 0, .int .i64 0, .int .u32 0, .bool false, .bool false, .int .i64 0, .bool false, .slice none 0 0, .int .u32 0, .int .u32 0, .bool false] := by rw [← hV]; exact hzw.aside _ _ _ (by omega)
  have OV : RvOwn V B r2 k := by
    rw [← hV]
    exact O3.besideR hM3.box 2 [.slice va out.length vc]
  have KV : Keep B w V := by rw [← hV]; exact hK3.step hB (Chg.set (S := fun k => w.heap.size ≤ k) _ _ _ _ (Nat.le_refl _)) (fun k h => .inl h)
  obtain ⟨Y, hY⟩ : ∃ Y, setAll V (w.heap.size + 1) 0 [.int .i64 r2.s.n, .slice k.ua r2.s.u.length k.uc, .slice k.la k.es.length k.lc, .int .i64 r2.cap, .int .i64 r2.shift, .int .i64 r2.edge, .int .u32 r2.recent, .bool r2.stamps, .bool r2.sacks, .int .i64 r2.fin, .bool r2.dn, .slice k.fa r2.first.length k.fc, .int .u32 r2.irs, .int .u32 r2.own, .bool r2.stamp] = Y := ⟨_, rfl⟩
  have HF : Hid (Box Y (w.heap.size + 1) 46 [.int .i64 r2.s.n, .slice k.ua r2.s.u.length k.uc, .slice k.la k.es.length k.lc, .int .i64 r2.cap, .int .i64 r2.shift, .int .i64 r2.edge, .int .u32 r2.recent, .bool r2.stamps, .bool r2.sacks, .int .i64 r2.fin, .bool r2.dn, .slice k.fa r2.first.length k.fc, .int .u32 r2.irs, .int .u32 r2.own, .bool r2.stamp] ∧ RvOwn Y B r2 k ∧ Keep B w Y) := by
    rw [← hY]
    exact ⟨hzV.put [.int .i64 r2.s.n, .slice k.ua r2.s.u.length k.uc, .slice k.la k.es.length k.lc, .int .i64 r2.cap, .int .i64 r2.shift, .int .i64 r2.edge, .int .u32 r2.recent, .bool r2.stamps, .bool r2.sacks, .int .i64 r2.fin, .bool r2.dn, .slice k.fa r2.first.length k.fc, .int .u32 r2.irs, .int .u32 r2.own, .bool r2.stamp] rfl, OV.besideR hzV 0 _, KV.step hB (chg_setAll (S := fun k => w.heap.size ≤ k) (by omega) _ _ _) (fun k h => .inl h)⟩
  have HY : Hid (setAll V (w.heap.size + 1) 0 [.int .i64 r2.s.n, .slice k.ua r2.s.u.length k.uc, .slice k.la k.es.length k.lc, .int .i64 r2.cap, .int .i64 r2.shift, .int .i64 r2.edge, .int .u32 r2.recent, .bool r2.stamps, .bool r2.sacks, .int .i64 r2.fin, .bool r2.dn, .slice k.fa r2.first.length k.fc, .int .u32 r2.irs, .int .u32 r2.own, .bool r2.stamp] = Y) := hY
  rw [hV]
  clear hM3 hP3 hK3 hO3 HM hs2 hre O3 hV hzw OV KV hY hxc hxf
  obtain ⟨c0, c1, c2, c3, c4, c5, c6, c7, c8, c9, c10, c11, c12, c13, c14⟩ := Box.c15 hbV
  obtain ⟨d0, d1, d2, d3, d4, d5, d6, d7, d8, d9, d10, d11, d12, d13, d14⟩ := Box.c15 hzV
  obtain ⟨f0, f1, f2, f3, f4, f5, f6, f7, f8, f9, f10, f11, f12, f13, f14⟩ := Box.f15 hzV
  clear hbV hzV
  go_wp2_with fail
  have h0 := HF.out
  rw [← HY.out] at h0
  refine bodyPost_ret (res_r rfl _ _ (w.heap.size + 1) [.int .i64 r2.s.n, .slice k.ua r2.s.u.length k.uc, .slice k.la k.es.length k.lc, .int .i64 r2.cap, .int .i64 r2.shift, .int .i64 r2.edge, .int .u32 r2.recent, .bool r2.stamps, .bool r2.sacks, .int .i64 r2.fin, .bool r2.dn, .slice k.fa r2.first.length k.fc, .int .u32 r2.irs, .int .u32 r2.own, .bool r2.stamp] rfl rfl h0.1) rfl ?_
  exact ⟨k, rfl, h0.2.1, h0.2.2⟩
end Go.Proofs.Ytdodagpkkjpdiaa
