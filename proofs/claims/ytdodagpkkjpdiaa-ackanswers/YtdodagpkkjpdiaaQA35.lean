/- Texts: Tell, TellB, New, Rnd, Merge, Both, SPlain2, Fresh. -/
import Derived.Test.YtdodagpkkjpdiaaTold
import Derived.Test.YtdodagpkkjpdiaaCheck
import Derived.Test.YtdodagpkkjpdiaaRen
import Derived.Test.YtdodagpkkjpdiaaClass
import Derived.Test.YtdodagpkkjpdiaaLast
import Derived.Test.YtdodagpkkjpdiaaTaken
import Derived.Test.YtdodagpkkjpdiaaSPlain
import Derived.Test.YtdodagpkkjpdiaaRecvP
namespace Go.Proofs.Ytdodagpkkjpdiaa
open Go.ChangeShapes Go.WideShapes Go.ChangeAt Go.RowKit
set_option linter.unusedVariables false
set_option linter.unusedSimpArgs false
/-- The segment that a receiver sends, with blocks of these spans. -/
def tellS (r : Pl.Rv) (bl : List Tm) : Seg :=
  { sp := 0, dp := 0, sq := r.own, ak := if r.dn = true then Pl.adI (Pl.adI r.irs r.s.n) 1 else Pl.adI r.irs r.s.n, fl := 16, wn := r.window / (2 : Int) ^ r.shift.toNat, ur := 0, ms := -1, sc := -1, so := false, st := r.stamps, va := 0, ec := if r.stamps = true then r.recent else 0, sk := sackL r.irs r.stamps r.sacks bl, da := [] }
/-- A segment's blocks, the call's own; it has no bytes. -/
structure SgOwn (w : World) (B : Nat) (s : Seg) (k : Hs) : Prop where
  row : RowB w B k.ka s.sk.length k.kc s.sk
  four : s.sk.length ≤ 4
  da : s.da = [] ∧ k.da = none ∧ k.dc = 0
theorem SgOwn.at {w : World} {B : Nat} {s : Seg} {k : Hs} (h : SgOwn w B s k) (h1 : U32 s.sq) (h2 : U32 s.va) (h3 : I64 s.fl) : SgAt w s k := ⟨h.row.blks (by have := h.four; omega), by rw [h.da.1, h.da.2.1, h.da.2.2]; exact SlAt.nil _, h1, h2, h3⟩
theorem SgOwn.later {w w' : World} {B : Nat} {s : Seg} {k : Hs} (h : SgOwn w B s k) (hb : Below w.heap.size w w') : SgOwn w' B s k := { h with row := h.row.later hb }
theorem RowB.mono {w : World} {B B' : Nat} {va : Option Addr} {L vc : Nat} {l : List (Int × Int)} (h : RowB w B va L vc l) (hb : B' ≤ B) : RowB w B' va L vc l := by
  refine ⟨h.1, ?_⟩
  rcases h.2 with h' | ⟨g, c, cur, e, hB, r⟩
  · exact .inl h'
  · exact .inr ⟨g, c, cur, e, Nat.le_trans hb hB, r⟩
theorem SgOwn.mono {w : World} {B B' : Nat} {s : Seg} {k : Hs} (h : SgOwn w B s k) (hb : B' ≤ B) : SgOwn w B' s k := { h with row := h.row.mono hb }
theorem SgOwn.aside {w : World} {B : Nat} {s : Seg} {k : Hs} (h : SgOwn w B s k) (g i : Nat) (vs : List Value) (hg : g < B) : SgOwn (setAll w g i vs) B s k := { h with row := ownsRow_setAll h.row _ _ _ hg }
theorem RvOwn.aside {w : World} {B : Nat} {r : Pl.Rv} {h : Hd} (H : RvOwn w B r h) (g i : Nat) (vs : List Value) (hg : g < B) : RvOwn (setAll w g i vs) B r h :=
  { H with row := ownsRow_setAll H.row _ _ _ hg, fam := ⟨fun x hx => { H.fam.mine x hx with row := ownsRow_setAll (H.fam.mine x hx).row _ _ _ hg }, H.fam.part⟩, fst := ownsRow_setAll H.fst _ _ _ hg }
theorem told_any (r : Pl.Rv) (h : Hd) (ba : Option Addr) (bn bc : Nat) (bl : List Tm) (w : World) (hok : r.Ok) (hb : SpAt w ba bc bl) (hbn : bl.length = bn) :
    Calls Try.prog 36 #[.agg #[.int .i64 r.s.n, .slice h.ua r.s.u.length h.uc, .slice h.la h.es.length h.lc, .int .i64 r.cap, .int .i64 r.shift, .int .i64 r.edge, .int .u32 r.recent, .bool r.stamps, .bool r.sacks, .int .i64 r.fin, .bool r.dn, .slice h.fa r.first.length h.fc, .int .u32 r.irs, .int .u32 r.own, .bool r.stamp], .slice ba bn bc] w fun e w' => ∃ k : Hs, e = .returned (.tuple #[.agg #[.int .i64 (Pl.tellR r).s.n, .slice h.ua (Pl.tellR r).s.u.length h.uc, .slice h.la h.es.length h.lc, .int .i64 (Pl.tellR r).cap, .int .i64 (Pl.tellR r).shift, .int .i64 (Pl.tellR r).edge, .int .u32 (Pl.tellR r).recent, .bool (Pl.tellR r).stamps, .bool (Pl.tellR r).sacks, .int .i64 (Pl.tellR r).fin, .bool (Pl.tellR r).dn, .slice h.fa (Pl.tellR r).first.length h.fc, .int .u32 (Pl.tellR r).irs, .int .u32 (Pl.tellR r).own, .bool (Pl.tellR r).stamp], .agg #[.int .i64 (tellS r bl).sp, .int .i64 (tellS r bl).dp, .int .u32 (tellS r bl).sq, .int .u32 (tellS r bl).ak, .int .i64 (tellS r bl).fl, .int .i64 (tellS r bl).wn, .int .i64 (tellS r bl).ur, .int .i64 (tellS r bl).ms, .int .i64 (tellS r bl).sc, .bool (tellS r bl).so, .bool (tellS r bl).st, .int .u32 (tellS r bl).va, .int .u32 (tellS r bl).ec, .slice k.ka (tellS r bl).sk.length k.kc, .slice k.da (tellS r bl).da.length k.dc]]) ∧ SgOwn w' (w.heap.size + 3) (tellS r bl) k ∧ Below w.heap.size w w' := by
  obtain ⟨ua, uc, la, lc, es, fa, fc⟩ := h
  have hwb := Pl.window_bd hok.uc
  have hcm := hok.cm
  have he := hok.er
  have hr := Pl.Ok.reach hok
  have hnf := hok.nf
  have hun := hok.un
  unfold Pl.Rv.reach Pl.Rx.bot at he
  unfold Pl.farI at hnf
  refine (told_in r.s.n r.cap r.shift r.edge r.recent r.fin r.irs r.own r.stamps r.sacks r.dn r.stamp ua r.s.u.length uc la es.length lc fa r.first.length fc ba bn bc bl w r.window _ _ (fun W => window_walk r ⟨ua, uc, la, lc, es, fa, fc⟩ W (ok_low hok)) rfl ⟨hwb.1, by omega⟩ ⟨hok.n0, hnf⟩ ⟨hok.s0, hok.s14⟩ ⟨hok.e0, by omega⟩ hb hbn rfl _ rfl _ rfl _ rfl _ rfl _ rfl).mono ?_
  rintro e w' ⟨ka, kc, rfl, h1, h2⟩
  exact ⟨⟨ka, kc, none, 0⟩, rfl, ⟨h1.1, h1.2, rfl, rfl, rfl⟩, h2⟩
theorem RvAt.tell {w : World} {r : Pl.Rv} {h : Hd} (H : RvAt w r h) (hok : r.Ok) : RvAt w (Pl.tellR r) h := by
  have h1 := (Pl.tell_ok hok).1
  have h2 := h1.e0
  have h3 := h1.er
  have h4 := Pl.Ok.reach h1
  have h5 := h1.cm
  have h6 := h1.nf
  have h7 := h1.un
  unfold Pl.Rv.reach Pl.Rx.bot at h3
  unfold Pl.farI at h6
  exact { H with edge := by unfold I64; omega }
theorem RvOwn.tell {w : World} {B : Nat} {r : Pl.Rv} {h : Hd} (H : RvOwn w B r h) : RvOwn w B (Pl.tellR r) h := { H with }
/-- A whole receiver stored, at a step. -/
theorem wp_storeR {w : World} {ops : Array Oper} {o : Oper} {a : Act} {K : Act → World → Prop} {Q : Exit → Act → World → Prop} {E : Prop} (hgd : o.guard = none) (p q : Operand) (ho : o.op = .store 46 p q) (rn cap shift edge recent fin irs own : Int) (stamps sacks dn stamp : Bool) (ua : Option Addr) (u uc : Nat) (la : Option Addr) (n lc : Nat) (fa : Option Addr) (m fc : Nat) (g : Nat) {c0 c1 c2 c3 c4 c5 c6 c7 c8 c9 c10 c11 c12 c13 c14 : Value} (hp : a.eval p = .pointer (some ⟨g, 0, none⟩)) (hq : a.eval q = .agg #[.int .i64 rn, .slice ua u uc, .slice la n lc, .int .i64 cap, .int .i64 shift, .int .i64 edge, .int .u32 recent, .bool stamps, .bool sacks, .int .i64 fin, .bool dn, .slice fa m fc, .int .u32 irs, .int .u32 own, .bool stamp]) (hb : Box w g 46 [c0, c1, c2, c3, c4, c5, c6, c7, c8, c9, c10, c11, c12, c13, c14])
    (h : ∀ v, K (a.put o.dst v) (setAll w g 0 [.int .i64 rn, .slice ua u uc, .slice la n lc, .int .i64 cap, .int .i64 shift, .int .i64 edge, .int .u32 recent, .bool stamps, .bool sacks, .int .i64 fin, .bool dn, .slice fa m fc, .int .u32 irs, .int .u32 own, .bool stamp])) :
    if Region.wanted o (yielded ops a.tmps) = true then Oper.wp Try.prog o a w K Q else E := by
  have hw : Region.wanted o (yielded ops a.tmps) = true := by simp [Region.wanted, hgd]
  rw [if_pos hw]
  obtain ⟨d0, d1, d2, d3, d4, d5, d6, d7, d8, d9, d10, d11, d12, d13, d14⟩ := Box.c15 hb
  obtain ⟨f0, f1, f2, f3, f4, f5, f6, f7, f8, f9, f10, f11, f12, f13, f14⟩ := Box.f15 hb
  unfold Oper.wp execOp
  simp only [ho, hp, hq]
  go_simp
  exact h _
theorem wp_storeV {w : World} {ops : Array Oper} {o : Oper} {a : Act} {K : Act → World → Prop} {Q : Exit → Act → World → Prop} {E : Prop} (hgd : o.guard = none) (p q : Operand) (ho : o.op = .store 46 p q) (r : Pl.Rv) (h : Hd) (g : Nat) {cs : List Value} (hl : cs.length = 15) (hp : a.eval p = .pointer (some ⟨g, 0, none⟩)) (hq : a.eval q = .agg #[.int .i64 r.s.n, .slice h.ua r.s.u.length h.uc, .slice h.la h.es.length h.lc, .int .i64 r.cap, .int .i64 r.shift, .int .i64 r.edge, .int .u32 r.recent, .bool r.stamps, .bool r.sacks, .int .i64 r.fin, .bool r.dn, .slice h.fa r.first.length h.fc, .int .u32 r.irs, .int .u32 r.own, .bool r.stamp]) (hb : Box w g 46 cs)
    {X : World} (hX : setAll w g 0 (rvL r h) = X) (hk : ∀ v, K (a.put o.dst v) X) :
    if Region.wanted o (yielded ops a.tmps) = true then Oper.wp Try.prog o a w K Q else E := by
  subst hX
  match cs, hl, hb with
  | [c0, c1, c2, c3, c4, c5, c6, c7, c8, c9, c10, c11, c12, c13, c14], _, hb => exact wp_storeR hgd p q ho _ _ _ _ _ _ _ _ _ _ _ _ _ _ _ _ _ _ _ _ _ g hp hq hb hk
theorem wp_storeS {w : World} {ops : Array Oper} {o : Oper} {a : Act} {K : Act → World → Prop} {Q : Exit → Act → World → Prop} {E : Prop} (hgd : o.guard = none) (p q : Operand) (ho : o.op = .store 28 p q) (s : Seg) (k : Hs) (g : Nat) {cs : List Value} (hl : cs.length = 15) (hp : a.eval p = .pointer (some ⟨g, 0, none⟩)) (hq : a.eval q = .agg #[.int .i64 s.sp, .int .i64 s.dp, .int .u32 s.sq, .int .u32 s.ak, .int .i64 s.fl, .int .i64 s.wn, .int .i64 s.ur, .int .i64 s.ms, .int .i64 s.sc, .bool s.so, .bool s.st, .int .u32 s.va, .int .u32 s.ec, .slice k.ka s.sk.length k.kc, .slice k.da s.da.length k.dc]) (hb : Box w g 28 cs)
    {X : World} (hX : setAll w g 0 (sgL s k) = X) (hk : ∀ v, K (a.put o.dst v) X) :
    if Region.wanted o (yielded ops a.tmps) = true then Oper.wp Try.prog o a w K Q else E := by
  subst hX
  match cs, hl, hb with
  | [c0, c1, c2, c3, c4, c5, c6, c7, c8, c9, c10, c11, c12, c13, c14], _, hb =>
    have hw : Region.wanted o (yielded ops a.tmps) = true := by simp [Region.wanted, hgd]
    rw [if_pos hw]
    obtain ⟨d0, d1, d2, d3, d4, d5, d6, d7, d8, d9, d10, d11, d12, d13, d14⟩ := Box.c15 hb
    obtain ⟨f0, f1, f2, f3, f4, f5, f6, f7, f8, f9, f10, f11, f12, f13, f14⟩ := Box.f15 hb
    unfold Oper.wp execOp
    simp only [ho, hp, hq]
    go_simp
    exact hk _
end Go.Proofs.Ytdodagpkkjpdiaa
namespace Go.Proofs.Ytdodagpkkjpdiaa
open Go.ChangeShapes Go.WideShapes Go.ChangeAt Go.RowKit
set_option linter.unusedVariables false
set_option linter.unusedSimpArgs false
end Go.Proofs.Ytdodagpkkjpdiaa
namespace Go.Proofs.Ytdodagpkkjpdiaa
open Go.ChangeShapes Go.WideShapes Go.ChangeAt Go.RowKit
set_option linter.unusedVariables false
set_option linter.unusedSimpArgs false
def noH : Hd := ⟨none, 0, none, 0, [], none, 0⟩
theorem new_low {size shift irs own : Int} {stamps sacks : Bool} (h : roomB size shift = true) : lowB ⟨⟨0, [], []⟩, size, shift, 0, 0, stamps, sacks, -1, false, [], irs, own, false⟩ := by
  have := roomB_iff.1 h
  refine ⟨⟨by simp, by simp⟩, ⟨this.1, this.2.1⟩, ⟨this.2.2.1, this.2.2.2⟩, ?_, ?_⟩
  · simp; omega
  · simp
set_option maxRecDepth 100000 in
set_option maxHeartbeats 4000000 in
theorem recvNew_ok (size shift irs own : Int) (stamps sacks : Bool) (w : World) (hr : roomB size shift = true) :
    Calls Try.prog 13 #[.int .i64 size, .int .i64 shift, .int .u32 irs, .int .u32 own, .bool stamps, .bool sacks] w fun e w' => e = .returned (.tuple #[.agg #[.int .i64 (Pl.newR size shift irs own stamps sacks).s.n, .slice noH.ua (Pl.newR size shift irs own stamps sacks).s.u.length noH.uc, .slice noH.la noH.es.length noH.lc, .int .i64 (Pl.newR size shift irs own stamps sacks).cap, .int .i64 (Pl.newR size shift irs own stamps sacks).shift, .int .i64 (Pl.newR size shift irs own stamps sacks).edge, .int .u32 (Pl.newR size shift irs own stamps sacks).recent, .bool (Pl.newR size shift irs own stamps sacks).stamps, .bool (Pl.newR size shift irs own stamps sacks).sacks, .int .i64 (Pl.newR size shift irs own stamps sacks).fin, .bool (Pl.newR size shift irs own stamps sacks).dn, .slice noH.fa (Pl.newR size shift irs own stamps sacks).first.length noH.fc, .int .u32 (Pl.newR size shift irs own stamps sacks).irs, .int .u32 (Pl.newR size shift irs own stamps sacks).own, .bool (Pl.newR size shift irs own stamps sacks).stamp], .int .i64 0]) ∧ Below w.heap.size w w' := by
  have cR := fun W => isRoom_walk size shift W
  simp only [hr] at cR
  have cW : ∀ W, Calls Try.prog 31 #[.agg #[.int .i64 0, .slice none 0 0, .slice none 0 0, .int .i64 size, .int .i64 shift, .int .i64 0, .int .u32 0, .bool stamps, .bool sacks, .int .i64 (-1), .bool false, .slice none 0 0, .int .u32 irs, .int .u32 own, .bool false]] W fun e w' => e = .returned (.int .i64 (Pl.newR size shift irs own stamps sacks).edge) ∧ Below W.heap.size W w' := fun W => window_walk _ noH W (new_low (irs := irs) (own := own) (stamps := stamps) (sacks := sacks) hr)
  show Calls Try.prog 13 #[.int .i64 size, .int .i64 shift, .int .u32 irs, .int .u32 own, .bool stamps, .bool sacks] w fun e w' => e = .returned (.tuple #[.agg #[.int .i64 0, .slice none 0 0, .slice none 0 0, .int .i64 size, .int .i64 shift, .int .i64 (Pl.newR size shift irs own stamps sacks).edge, .int .u32 0, .bool stamps, .bool sacks, .int .i64 (-1), .bool false, .slice none 0 0, .int .u32 irs, .int .u32 own, .bool false], .int .i64 0]) ∧ Below w.heap.size w w'
  obtain ⟨wd, hwd⟩ : ∃ wd, (Pl.newR size shift irs own stamps sacks).edge = wd := ⟨_, rfl⟩
  rw [hwd] at cW ⊢
  clear hr hwd
  obtain ⟨W0, hW0⟩ : ∃ W0, (w.alloc (.cells #[.int .i64 0, .slice none 0 0, .slice none 0 0, .int .i64 0, .int .i64 0, .int .i64 0, .int .u32 0, .bool false, .bool false, .int .i64 0, .bool false, .slice none 0 0, .int .u32 0, .int .u32 0, .bool false] 46)).alloc (.cells #[.int .i64 0, .slice none 0 0, .slice none 0 0, .int .i64 size, .int .i64 shift, .int .i64 0, .int .u32 0, .bool stamps, .bool sacks, .int .i64 (-1), .bool false, .slice none 0 0, .int .u32 irs, .int .u32 own, .bool false] 46) = W0 := ⟨_, rfl⟩
  have hz : Box W0 w.heap.size 46 [.int .i64 0, .slice none 0 0, .slice none 0 0, .int .i64 0, .int .i64 0, .int .i64 0, .int .u32 0, .bool false, .bool false, .int .i64 0, .bool false, .slice none 0 0, .int .u32 0, .int .u32 0, .bool false] := by rw [← hW0]; exact (Box.new w 46 [.int .i64 0, .slice none 0 0, .slice none 0 0, .int .i64 0, .int .i64 0, .int .i64 0, .int .u32 0, .bool false, .bool false, .int .i64 0, .bool false, .slice none 0 0, .int .u32 0, .int .u32 0, .bool false]).alloc _
  have hx : Box W0 (w.heap.size + 1) 46 [.int .i64 0, .slice none 0 0, .slice none 0 0, .int .i64 size, .int .i64 shift, .int .i64 0, .int .u32 0, .bool stamps, .bool sacks, .int .i64 (-1), .bool false, .slice none 0 0, .int .u32 irs, .int .u32 own, .bool false] := by rw [← hW0]; have := Box.new (w.alloc (.cells #[.int .i64 0, .slice none 0 0, .slice none 0 0, .int .i64 0, .int .i64 0, .int .i64 0, .int .u32 0, .bool false, .bool false, .int .i64 0, .bool false, .slice none 0 0, .int .u32 0, .int .u32 0, .bool false] 46)) 46 [.int .i64 0, .slice none 0 0, .slice none 0 0, .int .i64 size, .int .i64 shift, .int .i64 0, .int .u32 0, .bool stamps, .bool sacks, .int .i64 (-1), .bool false, .slice none 0 0, .int .u32 irs, .int .u32 own, .bool false]; rwa [World.size_alloc] at this
  have hb : Below w.heap.size w W0 := by rw [← hW0]; exact below_more (below_more (Below.refl _ _) _) _
  have HB0 : Hid ((w.alloc (.cells #[.int .i64 0, .slice none 0 0, .slice none 0 0, .int .i64 0, .int .i64 0, .int .i64 0, .int .u32 0, .bool false, .bool false, .int .i64 0, .bool false, .slice none 0 0, .int .u32 0, .int .u32 0, .bool false] 46)).alloc (.cells #[.int .i64 0, .slice none 0 0, .slice none 0 0, .int .i64 size, .int .i64 shift, .int .i64 0, .int .u32 0, .bool stamps, .bool sacks, .int .i64 (-1), .bool false, .slice none 0 0, .int .u32 irs, .int .u32 own, .bool false] 46) = W0 ∧ Box W0 w.heap.size 46 [.int .i64 0, .slice none 0 0, .slice none 0 0, .int .i64 0, .int .i64 0, .int .i64 0, .int .u32 0, .bool false, .bool false, .int .i64 0, .bool false, .slice none 0 0, .int .u32 0, .int .u32 0, .bool false] ∧ Box W0 (w.heap.size + 1) 46 [.int .i64 0, .slice none 0 0, .slice none 0 0, .int .i64 size, .int .i64 shift, .int .i64 0, .int .u32 0, .bool stamps, .bool sacks, .int .i64 (-1), .bool false, .slice none 0 0, .int .u32 irs, .int .u32 own, .bool false] ∧ Below w.heap.size w W0) := ⟨hW0, hz, hx, hb⟩
  clear hW0 hz hx hb
  go_enter Try.func13, Try.ntmps13
  go_wp2_with (go_at_call 30; refine (cR _).mono ?_; rintro e w1 ⟨rfl, hw1⟩; obtain rfl := hw1.symm)
  refine (cW _).mono ?_
  rintro e w2 ⟨rfl, hB2⟩
  rw [HB0.out.1] at hB2
  have hx2 := HB0.out.2.2.1.later hB2
  have hz2 := HB0.out.2.1.later hB2
  have hc5 := hx2.cell 5 rfl
  have hf5 := hx2.frozen 5
  have HX : Hid (Box (w2.setCell ⟨w.heap.size + 1, 5, none⟩ (.int .i64 wd)) (w.heap.size + 1) 46 [.int .i64 0, .slice none 0 0, .slice none 0 0, .int .i64 size, .int .i64 shift, .int .i64 wd, .int .u32 0, .bool stamps, .bool sacks, .int .i64 (-1), .bool false, .slice none 0 0, .int .u32 irs, .int .u32 own, .bool false] ∧ Box (w2.setCell ⟨w.heap.size + 1, 5, none⟩ (.int .i64 wd)) w.heap.size 46 [.int .i64 0, .slice none 0 0, .slice none 0 0, .int .i64 0, .int .i64 0, .int .i64 0, .int .u32 0, .bool false, .bool false, .int .i64 0, .bool false, .slice none 0 0, .int .u32 0, .int .u32 0, .bool false] ∧ Below w.heap.size w (w2.setCell ⟨w.heap.size + 1, 5, none⟩ (.int .i64 wd))) := ⟨hx2.set 5 _, hz2.aside _ _ _ (by omega), below_set (Below.on HB0.out.2.2.2 hB2) _ _ _ (by omega)⟩
  clear hB2 hx2 hz2 cW cR HB0
  go_upto_region 5 with fail
  obtain ⟨V, hV⟩ : ∃ V, w2.setCell ⟨w.heap.size + 1, 5, none⟩ (.int .i64 wd) = V := ⟨_, rfl⟩
  rw [hV] at HX ⊢
  clear hV hc5 hf5
  have HF : Hid (Box (setAll V w.heap.size 0 [.int .i64 0, .slice none 0 0, .slice none 0 0, .int .i64 size, .int .i64 shift, .int .i64 wd, .int .u32 0, .bool stamps, .bool sacks, .int .i64 (-1), .bool false, .slice none 0 0, .int .u32 irs, .int .u32 own, .bool false]) w.heap.size 46 [.int .i64 0, .slice none 0 0, .slice none 0 0, .int .i64 size, .int .i64 shift, .int .i64 wd, .int .u32 0, .bool stamps, .bool sacks, .int .i64 (-1), .bool false, .slice none 0 0, .int .u32 irs, .int .u32 own, .bool false] ∧ Below w.heap.size w (setAll V w.heap.size 0 [.int .i64 0, .slice none 0 0, .slice none 0 0, .int .i64 size, .int .i64 shift, .int .i64 wd, .int .u32 0, .bool stamps, .bool sacks, .int .i64 (-1), .bool false, .slice none 0 0, .int .u32 irs, .int .u32 own, .bool false])) := ⟨HX.out.2.1.put _ rfl, setAll_below (Nat.le_refl _) HX.out.2.2⟩
  obtain ⟨d0, d1, d2, d3, d4, d5, d6, d7, d8, d9, d10, d11, d12, d13, d14⟩ := Box.c15 HX.out.1
  obtain ⟨c0, c1, c2, c3, c4, c5, c6, c7, c8, c9, c10, c11, c12, c13, c14⟩ := Box.c15 HX.out.2.1
  obtain ⟨f0, f1, f2, f3, f4, f5, f6, f7, f8, f9, f10, f11, f12, f13, f14⟩ := Box.f15 HX.out.2.1
  clear HX
  go_wp2_with fail
  refine bodyPost_ret (res_rt rfl _ _ w.heap.size [.int .i64 0, .slice none 0 0, .slice none 0 0, .int .i64 size, .int .i64 shift, .int .i64 wd, .int .u32 0, .bool stamps, .bool sacks, .int .i64 (-1), .bool false, .slice none 0 0, .int .u32 irs, .int .u32 own, .bool false] rfl rfl HF.out.1) rfl ?_
  exact ⟨rfl, HF.out.2⟩
end Go.Proofs.Ytdodagpkkjpdiaa
namespace Go.Proofs.Ytdodagpkkjpdiaa
open Go.ChangeShapes Go.WideShapes Go.ChangeAt Go.RowKit
set_option linter.unusedVariables false
set_option linter.unusedSimpArgs false
/-- All may be called; a round or none. -/
def FW (ro : Option Nat) : Fence := { Fence.wide with round := ro }
theorem rowsIn_wide {n : Nat} {P : Program} {row : String} {args : Array Value} {w : World} {R : Value → World → Prop} (h : Rows P row args w R) : RowsIn Fence.wide n P row args w R :=
  fun c cs _ => let ⟨v, w', r, s⟩ := h c cs; ⟨v, w', r, stepsIn_wide.2 s⟩
section
variable {P : Program} {ops : Array Oper} {Q : Exit → Act → World → Prop}
def Op.isDefer : Op → Bool
  | .defer _ => true
  | _ => false
def noDefer (ops : Array Oper) : Bool := ops.toList.all fun o => !Op.isDefer o.op
theorem noDefer_at (h : noDefer ops = true) (i : Nat) (o : Oper) (ho : ops[i]? = some o) (c : Call) : o.op ≠ .defer c := by
  intro e
  have hm : o ∈ ops.toList := by
    rw [← Array.getElem?_toList] at ho
    exact List.mem_of_getElem? ho
  have := (List.all_eq_true.1 h) o hm
  rw [e] at this
  cases this
theorem opsIn_of_ops (ro : Option Nat) (n : Nat) (hd : noDefer ops = true) (hq : ¬ LetsOut Q) : ∀ (l : List Nat) (a : Act) (w : World), wpOps P ops Q l a w → wpOpsIn (FW ro) n P ops Q l a w
  | [], a, w, h => h
  | i :: rest, a, w, h => by
    unfold wpOps at h
    unfold wpOpsIn
    cases ho : ops[i]? with
    | none => simp only [ho] at h ⊢; exact opsIn_of_ops ro n hd hq rest a w h
    | some o =>
      simp only [ho] at h ⊢
      by_cases hw : Region.wanted o (yielded ops a.tmps) = true
      · rw [if_pos hw] at h ⊢
        rcases h with h | ⟨_, h⟩
        · unfold Oper.wp at h
          unfold Oper.wpIn
          rw [Oper.semAt_eq _ _ _ (noDefer_at hd i o ho)]
          refine ⟨fun _ _ => trivial, ?_⟩
          generalize (execOp a.eval o).run P w = r at h
          cases r with
          | ok x w' =>
            cases x with
            | value v => exact opsIn_of_ops ro n hd hq rest _ _ h
            | skip => exact opsIn_of_ops ro n hd hq rest _ _ h
            | defer d => exact opsIn_of_ops ro n hd hq rest _ _ h
            | enter f args =>
              refine ⟨fun h => by simp [FW, Fence.wide] at h, ?_⟩
              show CallsIn Fence.wide (n - 1) P f args w' _
              refine callsIn_wide.2 (Calls.mono h (fun e w'' he => ?_))
              cases e with
              | returned v => exact opsIn_of_ops ro n hd hq rest _ _ he
              | panicked c => exact he
              | outgrown => exact he
            | row r' args =>
              refine ⟨fun h => by simp [FW, Fence.wide] at h, ?_⟩
              show RowsIn Fence.wide (n - 1) P r' args w' _
              exact rowsIn_wide (Rows.mono h (fun v w'' he => opsIn_of_ops ro n hd hq rest _ _ he))
            | round l f tmps assign body => exact h.elim
            | _ => exact h.elim
          | halt x w' =>
            cases x with
            | panic v => exact h
            | _ => exact h.elim
        · exact absurd h hq
      · rw [if_neg hw] at h ⊢
        exact ⟨fun _ _ => trivial, opsIn_of_ops ro n hd hq rest _ _ h⟩
/-- Only the plain way on. -/
def onlyN (Q : Exit → Act → World → Prop) : Exit → Act → World → Prop
  | .normal, a, w => Q .normal a w
  | _, _, _ => False
theorem onlyN_out : ¬ LetsOut (onlyN Q) := by rintro ⟨_, _, h⟩; exact h
theorem wpIn_any_of {id n : Nat} (ro : Option Nat) {a : Act} {w : World} (hm : P.follows .mixedOrders = true) (hd : noDefer ops = true) (h : wpAny P .any ops (onlyN Q) ops.size (Array.replicate ops.size false) a w.drew) : (Code.region id ops true).wpIn (FW ro) n P Q a w :=
  wpIn_mono (Q := onlyN Q) (wpIn_region_draw fun t => by
    simp only [Region.schedule, hm, Bool.true_or, if_true]
    exact opsIn_of_ops ro n hd onlyN_out _ _ _ (wpAny_sound ops.size t _ a _ h)) (fun e a w h => by
      cases e with
      | normal => exact h
      | _ => exact h.elim)
end
/-- A walk in the order of the text, under a name that nothing unfolds. -/
structure QS (P : Program) (ops : Array Oper) (C : World → Prop) (Q : Act → Prop) (l : List Oper) (a : Act) : Prop where
  out : wpQuiet P ops C Q l a
section
variable {P : Program} {ops : Array Oper} {C : World → Prop} {Q : Act → Prop} {o : Oper} {rest : List Oper} {a : Act}
theorem qs_val {v : Value} (hw : Region.wanted o (yielded ops a.tmps) = true) (hr : ∀ w, C w → (execOp a.eval o).run P w = .ok (.value v) w) (hk : QS P ops C Q rest (a.put o.dst v)) : QS P ops C Q (o :: rest) a := ⟨class_want hw (quiet_val hr hk.out)⟩
theorem qs_enter {v : Value} {f : FuncId} {args : Array Value} (hw : Region.wanted o (yielded ops a.tmps) = true) (hr : ∀ w, C w → (execOp a.eval o).run P w = .ok (.enter f args) w) (hc : ∀ w, C w → Calls P f args w fun e w' => e = .returned v ∧ C w') (hk : QS P ops C Q rest (a.put o.dst v)) : QS P ops C Q (o :: rest) a := ⟨class_want hw (quiet_enter hr hc hk.out)⟩
theorem qs_skip (hw : Region.wanted o (yielded ops a.tmps) = false) (hk : QS P ops C Q rest (a.put o.dst undef)) : QS P ops C Q (o :: rest) a := ⟨class_skip hw hk.out⟩
theorem qs_nil (h : Q a) : QS P ops C Q [] a := ⟨wpQuiet_nil h⟩
end
/-- .. by a class of worlds, in a round. -/
theorem wpIn_round_class {P : Program} {id n L : Nat} {Q : Exit → Act → World → Prop} {a : Act} {w : World} {l : List Oper} (C : World → Prop) (hm : P.follows .mixedOrders = true) (hd : noDefer l.toArray = true) (hB : Region.lexB .any l.toArray = true) (hC : C w.drew)
    (h : QS P l.toArray C (fun a' => ∀ w', C w' → Q .normal a' w') l a) : (Code.region id l.toArray true).wpIn (Fence.wide.inRound L) n P Q a w := by
  show (Code.region id l.toArray true).wpIn (FW (some L)) n P Q a w
  refine wpIn_any_of (some L) hm hd ?_
  simp only [Region.lexB, Bool.and_eq_true] at hB
  refine wpAny_of_quiet (C := C) (Q := fun a' => ∀ w', C w' → Q .normal a' w') (fun a' w' hw' h => show onlyN Q .normal a' w' from h w' hw') _ _ _ _ hC ?_
  have := wpAnyQ_lex (P := P) (C := C) (md := .any) hB.1 l 0 (Array.replicate l.length false) a (by simp) (by simpa using hB.2) (by simpa using h.out)
  simpa using this
/-- .. in an iterator. -/
theorem wpIn_wide_class {P : Program} {id n : Nat} {Q : Exit → Act → World → Prop} {a : Act} {w : World} {l : List Oper} (C : World → Prop) (hm : P.follows .mixedOrders = true) (hd : noDefer l.toArray = true) (hB : Region.lexB .any l.toArray = true) (hC : C w.drew)
    (h : QS P l.toArray C (fun a' => ∀ w', C w' → Q .normal a' w') l a) : (Code.region id l.toArray true).wpIn Fence.wide n P Q a w := by
  show (Code.region id l.toArray true).wpIn (FW none) n P Q a w
  refine wpIn_any_of none hm hd ?_
  simp only [Region.lexB, Bool.and_eq_true] at hB
  refine wpAny_of_quiet (C := C) (Q := fun a' => ∀ w', C w' → Q .normal a' w') (fun a' w' hw' h => show onlyN Q .normal a' w' from h w' hw') _ _ _ _ hC ?_
  have := wpAnyQ_lex (P := P) (C := C) (md := .any) hB.1 l 0 (Array.replicate l.length false) a (by simp) (by simpa using hB.2) (by simpa using h.out)
  simpa using this
/-- .. that ends in one operation that waits for all others, in a round. -/
theorem wpIn_round_X {P : Program} {ops : Array Oper} {id n R : Nat} {Q : Exit → Act → World → Prop} {a : Act} {w : World} (S : World → Prop) (L : Nat) (hm : P.follows .mixedOrders = true) (hd : noDefer ops = true) (hS : S w.drew)
    (h : S w.drew → wpAnyX P .any ops (onlyN Q) S L ops.size (Array.replicate ops.size false) a w.drew) : (Code.region id ops true).wpIn (Fence.wide.inRound R) n P Q a w := by
  show (Code.region id ops true).wpIn (FW (some R)) n P Q a w
  exact wpIn_any_of (some R) hm hd (wpAny_of_X _ _ _ _ (h hS))
end Go.Proofs.Ytdodagpkkjpdiaa
namespace Go.Proofs.Ytdodagpkkjpdiaa.Pl
set_option linter.unusedVariables false
/-- A piece behind those that are there, made one with the last where they touch. -/
def joinP : List Pc → Pc → List Pc
  | [], p => [p]
  | [q], p => if pend q = p.1 then [(q.1, q.2 ++ p.2)] else [q, p]
  | q :: q2 :: r, p => q :: joinP (q2 :: r) p
/-- Either. -/
def orE (a b : Option Int) : Option Int := match a with | some v => some v | none => b
theorem has_one {p : Pc} {y : Int} : hasL [p] y = if p.1 ≤ y ∧ y < pend p then p.2[(y - p.1).toNat]? else none := by
  unfold hasL; split <;> rfl
theorem join_spec {p : Pc} (hp : 0 < p.2.length) : ∀ {l : List Pc} {lo : Int}, latB lo l → lo < p.1 → (∀ q ∈ l, pend q ≤ p.1) →
    latB lo (joinP l p) ∧ (∀ y, hasL (joinP l p) y = orE (hasL l y) (hasL [p] y)) ∧ (∀ q ∈ joinP l p, pend q ≤ pend p)
  | [], lo, h, hl, _ => ⟨⟨hl, hp, trivial⟩, fun y => rfl, fun q hq => by simp [joinP] at hq; subst hq; exact Int.le_refl _⟩
  | [q], lo, h, hl, hq => by
    have hqp := hq q (List.mem_cons_self ..)
    have hpp := pend_lt hp
    have hqq := pend_lt h.2.1
    unfold joinP
    by_cases hc : pend q = p.1
    · rw [if_pos hc]
      have e : pend (q.1, q.2 ++ p.2) = pend p := by unfold pend at hc ⊢; simp; omega
      refine ⟨⟨h.1, by simp; omega, trivial⟩, fun y => ?_, fun x hx => ?_⟩
      · rw [has_one, has_one, has_one, e]
        by_cases h1 : q.1 ≤ y ∧ y < pend q
        · rw [if_pos h1, if_pos ⟨h1.1, by omega⟩]
          have hlt : (y - q.1).toNat < q.2.length := by unfold pend at h1; omega
          rw [List.getElem?_append_left hlt, List.getElem?_eq_getElem hlt]
          rfl
        · rw [if_neg h1]
          by_cases h2 : p.1 ≤ y ∧ y < pend p
          · rw [if_pos h2, if_pos ⟨by omega, h2.2⟩]
            have hge : q.2.length ≤ (y - q.1).toNat := by unfold pend at hc; omega
            rw [List.getElem?_append_right hge]
            show _ = p.2[(y - p.1).toNat]?
            congr 1
            unfold pend at hc; omega
          · rw [if_neg h2, if_neg (by omega)]; rfl
      · simp at hx; subst hx; rw [e]; exact Int.le_refl _
    · rw [if_neg hc]
      refine ⟨⟨h.1, h.2.1, by omega, hp, trivial⟩, fun y => ?_, fun x hx => ?_⟩
      · by_cases h1 : q.1 ≤ y ∧ y < pend q
        · obtain ⟨v, hv⟩ := has_some (r := []) h1.1 h1.2
          rw [hv, has_in h1.1 h1.2, ← has_in (r := []) h1.1 h1.2, hv]; rfl
        · rw [has_out (p := q) (r := [p]) (by omega), has_out (p := q) (r := []) (by omega)]; rfl
      · simp at hx
        rcases hx with rfl | rfl
        · omega
        · exact Int.le_refl _
  | q :: q2 :: r, lo, h, hl, hq => by
    have hqp := hq q (List.mem_cons_self ..)
    have hpp := pend_lt hp
    have hq2 : pend q < p.1 := by
      have h1 := h.2.2.1
      have h2 := hq q2 (List.mem_cons_of_mem _ (List.mem_cons_self ..))
      have h3 := pend_lt h.2.2.2.1
      omega
    obtain ⟨i1, i2, i3⟩ := join_spec hp (l := q2 :: r) (lo := pend q) h.2.2 hq2 (fun x hx => hq x (List.mem_cons_of_mem _ hx))
    refine ⟨⟨h.1, h.2.1, i1⟩, fun y => ?_, fun x hx => ?_⟩
    · show hasL (q :: joinP (q2 :: r) p) y = _
      by_cases h1 : q.1 ≤ y ∧ y < pend q
      · obtain ⟨v, hv⟩ := has_some (r := q2 :: r) h1.1 h1.2
        rw [hv, has_in h1.1 h1.2, ← has_in (r := q2 :: r) h1.1 h1.2, hv]; rfl
      · rw [has_out (by omega), has_out (by omega), i2]
    · rcases List.mem_cons.1 hx with rfl | hx
      · omega
      · exact i3 x hx
/-- Pieces in order that may touch. -/
def disB : Int → List Pc → Prop
  | _, [] => True
  | lo, p :: r => lo ≤ p.1 ∧ 0 < p.2.length ∧ disB (pend p) r
/-- What becomes of the pieces, one after another. -/
def mrgGo : List Pc → Rx → Rx
  | [], s => s
  | p :: r, s => if p.1 = s.n then mrgGo r ⟨s.n + (p.2.length : Int), s.u ++ p.2, s.l⟩ else mrgGo r ⟨s.n, s.u, joinP s.l p⟩
theorem has_or {p : Pc} {r : List Pc} {y : Int} : hasL (p :: r) y = orE (hasL [p] y) (hasL r y) := by
  by_cases h1 : p.1 ≤ y ∧ y < pend p
  · obtain ⟨v, hv⟩ := has_some (r := []) h1.1 h1.2
    rw [hv, has_in h1.1 h1.2, ← has_in (r := []) h1.1 h1.2, hv]; rfl
  · rw [has_out (p := p) (r := r) (by omega), has_out (p := p) (r := []) (by omega)]; rfl
theorem orE_assoc (a b c : Option Int) : orE (orE a b) c = orE a (orE b c) := by cases a <;> rfl
theorem mrg_spec : ∀ {ps : List Pc} {lo : Int} {s : Rx}, disB lo ps → s.ok → s.n ≤ lo → (∀ q ∈ s.l, pend q ≤ lo) → (s.l ≠ [] → s.n < lo) →
    (mrgGo ps s).ok ∧ (mrgGo ps s).bot = s.bot ∧ ∀ y, s.bot ≤ y → (mrgGo ps s).at y = orE (s.at y) (hasL ps y)
  | [], lo, s, _, hs, _, _, _ => ⟨hs, rfl, fun y _ => by
    show s.at y = orE (s.at y) none
    cases s.at y <;> rfl⟩
  | p :: r, lo, s, h, hs, hn, hq, hl => by
    have hp1 := h.1
    have hpp := pend_lt h.2.1
    unfold mrgGo
    by_cases hc : p.1 = s.n
    · rw [if_pos hc]
      have hl0 : s.l = [] := by
        cases hsl : s.l with
        | nil => rfl
        | cons q l => have := hl (by rw [hsl]; simp); omega
      have e : s.n + (p.2.length : Int) = pend p := by unfold pend; omega
      obtain ⟨i1, i2, i3⟩ := mrg_spec (ps := r) (lo := pend p) (s := ⟨s.n + (p.2.length : Int), s.u ++ p.2, s.l⟩) h.2.2 (by rw [hl0]; trivial) (by simp only; omega) (by rw [hl0]; intro q hq; cases hq) (by rw [hl0]; intro h; exact absurd rfl h)
      have hb : (⟨s.n + (p.2.length : Int), s.u ++ p.2, s.l⟩ : Rx).bot = s.bot := by unfold Rx.bot; simp; omega
      refine ⟨i1, by rw [i2, hb], fun y hy => ?_⟩
      rw [i3 y (by rw [hb]; exact hy), has_or, ← orE_assoc]
      congr 1
      by_cases h1 : y < s.n
      · obtain ⟨v, hv⟩ := at_some hy h1
        rw [hv]
        show _ = some v
        rw [at_un (by rw [hb]; exact hy) (by simp only; omega), hb]
        rw [at_un hy h1] at hv
        have hlt := (List.getElem?_eq_some_iff.1 hv).1
        rw [List.getElem?_append_left hlt, hv]
      · have hz : hasL s.l y = none := by rw [hl0]; rfl
        rw [at_late (s := s) (by omega), hz]
        show _ = hasL [p] y
        by_cases h2 : y < pend p
        · rw [at_un (by rw [hb]; exact hy) (by simp only; omega), hb, has_in (by omega) h2]
          have hu : (s.u.length : Int) = s.n - s.bot := by unfold Rx.bot; omega
          rw [List.getElem?_append_right (by omega)]
          congr 1
          omega
        · rw [at_late (by simp only; omega), has_out (.inr (by omega))]
          exact hz
    · rw [if_neg hc]
      have hlt : s.n < p.1 := by omega
      obtain ⟨j1, j2, j3⟩ := join_spec h.2.1 (l := s.l) (lo := s.n) hs hlt (fun q hm => by have := hq q hm; omega)
      obtain ⟨i1, i2, i3⟩ := mrg_spec (ps := r) (lo := pend p) (s := ⟨s.n, s.u, joinP s.l p⟩) h.2.2 j1 (by simp only; omega) j3 (fun _ => by simp only; omega)
      refine ⟨i1, i2, fun y hy => ?_⟩
      rw [i3 y hy, has_or, ← orE_assoc]
      congr 1
      by_cases h1 : y < s.n
      · obtain ⟨v, hv⟩ := at_some hy h1
        rw [hv]
        show _ = some v
        rw [← hv, at_un hy h1]
        exact at_un (s := ⟨s.n, s.u, joinP s.l p⟩) hy h1
      · rw [at_late (s := s) (by omega), at_late (s := ⟨s.n, s.u, joinP s.l p⟩) (by simp only; omega)]
        exact j2 y
end Go.Proofs.Ytdodagpkkjpdiaa.Pl
namespace Go.Proofs.Ytdodagpkkjpdiaa.Pl
set_option linter.unusedVariables false
/-- The pieces of two rows, each in order, in one order: k of them at most. -/
def bothN : Nat → List Pc → List Pc → List Pc
  | 0, _, _ => []
  | k + 1, [], [] => []
  | k + 1, [], q :: r => q :: bothN k r []
  | k + 1, p :: l, [] => p :: bothN k l []
  | k + 1, p :: l, q :: r => if q.1 < p.1 then q :: bothN k r (p :: l) else p :: bothN k l (q :: r)
def apart (a b : List Pc) : Prop := ∀ y, hasL a y = none ∨ hasL b y = none
theorem apart.symm {a b : List Pc} (h : apart a b) : apart b a := fun y => (h y).symm
theorem orE_comm {a b : Option Int} (h : a = none ∨ b = none) : orE a b = orE b a := by
  rcases h with rfl | rfl
  · cases b <;> rfl
  · cases a <;> rfl
theorem orE_none (a : Option Int) : orE a none = a := by cases a <;> rfl
theorem disB.mono {lo lo' : Int} : ∀ {l : List Pc}, disB lo l → lo' ≤ lo → disB lo' l
  | [], _, _ => trivial
  | p :: r, h, hl => ⟨by have := h.1; omega, h.2⟩
theorem lat_dis : ∀ {l : List Pc} {lo : Int}, latB lo l → disB lo l
  | [], _, _ => trivial
  | p :: r, lo, h => ⟨by have := h.1; omega, h.2.1, lat_dis h.2.2⟩
theorem apart.tail {p : Pc} {l b : List Pc} {lo : Int} (hd : disB lo (p :: l)) (h : apart (p :: l) b) : apart l b := fun y => by
  rcases h y with h1 | h1
  · rw [has_or] at h1
    left
    cases hx : hasL [p] y with
    | none => rw [hx] at h1; exact h1
    | some v => rw [hx] at h1; cases h1
  · exact .inr h1
/-- One that begins ahead of another that is apart from it ends ahead of it. -/
theorem apart.ends {p q : Pc} {l r : List Pc} (hp : 0 < p.2.length) (hq : 0 < q.2.length) (h : apart (p :: l) (q :: r)) (hle : p.1 ≤ q.1) : pend p ≤ q.1 := by
  by_cases hc : pend p ≤ q.1
  · exact hc
  · obtain ⟨v, hv⟩ := has_some (p := p) (r := l) hle (by omega)
    obtain ⟨u, hu⟩ := has_some (p := q) (r := r) (Int.le_refl q.1) (pend_lt hq)
    rcases h q.1 with h1 | h1
    · rw [hv] at h1; cases h1
    · rw [hu] at h1; cases h1
theorem both_spec : ∀ {k : Nat} {a b : List Pc} {lo : Int}, a.length + b.length ≤ k → disB lo a → disB lo b → apart a b →
    disB lo (bothN k a b) ∧ ∀ y, hasL (bothN k a b) y = orE (hasL a y) (hasL b y)
  | 0, a, b, lo, hk, ha, hb, hab => by
    obtain rfl : a = [] := List.length_eq_zero_iff.1 (by omega)
    obtain rfl : b = [] := List.length_eq_zero_iff.1 (by omega)
    exact ⟨trivial, fun y => rfl⟩
  | k + 1, [], [], lo, hk, ha, hb, hab => ⟨trivial, fun y => rfl⟩
  | k + 1, [], q :: r, lo, hk, ha, hb, hab => by
    obtain ⟨i1, i2⟩ := both_spec (k := k) (a := r) (b := []) (lo := pend q) (by simp at hk ⊢; omega) hb.2.2 trivial (fun y => .inr rfl)
    refine ⟨⟨hb.1, hb.2.1, i1⟩, fun y => ?_⟩
    show hasL (q :: bothN k r []) y = hasL (q :: r) y
    rw [has_or, i2, has_or (r := r)]
    show orE _ (orE (hasL r y) none) = _
    rw [orE_none]
  | k + 1, p :: l, [], lo, hk, ha, hb, hab => by
    obtain ⟨i1, i2⟩ := both_spec (k := k) (a := l) (b := []) (lo := pend p) (by simp at hk ⊢; omega) ha.2.2 trivial (fun y => .inr rfl)
    refine ⟨⟨ha.1, ha.2.1, i1⟩, fun y => ?_⟩
    show hasL (p :: bothN k l []) y = orE (hasL (p :: l) y) none
    rw [has_or, i2, has_or (r := l), orE_none]
    show orE _ (orE (hasL l y) none) = _
    rw [orE_none]
  | k + 1, p :: l, q :: r, lo, hk, ha, hb, hab => by
    unfold bothN
    by_cases hc : q.1 < p.1
    · rw [if_pos hc]
      have he := apart.ends hb.2.1 ha.2.1 hab.symm (by omega)
      obtain ⟨i1, i2⟩ := both_spec (k := k) (a := r) (b := p :: l) (lo := pend q) (by simp at hk ⊢; omega) hb.2.2 ⟨he, ha.2⟩ (apart.tail hb hab.symm)
      refine ⟨⟨hb.1, hb.2.1, i1⟩, fun y => ?_⟩
      rw [has_or, i2, ← orE_assoc, ← has_or]
      exact orE_comm (hab.symm y)
    · rw [if_neg hc]
      have he := apart.ends ha.2.1 hb.2.1 hab (by omega)
      obtain ⟨i1, i2⟩ := both_spec (k := k) (a := l) (b := q :: r) (lo := pend p) (by simp at hk ⊢; omega) ha.2.2 ⟨he, hb.2⟩ (apart.tail ha hab)
      refine ⟨⟨ha.1, ha.2.1, i1⟩, fun y => ?_⟩
      rw [has_or, i2, ← orE_assoc, ← has_or]
/-- What the program makes of a receiver's pieces and of fresh ones that are apart from them: every byte at its place. -/
theorem fill_spec {s : Rx} {fr : List Pc} {k : Nat} (hs : s.ok) (hk : s.l.length + fr.length ≤ k) (hf : disB s.n fr) (ha : apart s.l fr) :
    (mrgGo (bothN k s.l fr) ⟨s.n, s.u, []⟩).ok ∧ (mrgGo (bothN k s.l fr) ⟨s.n, s.u, []⟩).bot = s.bot ∧ ∀ y, s.bot ≤ y → (mrgGo (bothN k s.l fr) ⟨s.n, s.u, []⟩).at y = orE (s.at y) (hasL fr y) := by
  obtain ⟨h1, h2⟩ := both_spec (k := k) hk (lat_dis hs) hf ha
  obtain ⟨i1, i2, i3⟩ := mrg_spec (lo := s.n) (s := ⟨s.n, s.u, []⟩) h1 trivial (Int.le_refl _) (fun q hq => by cases hq) (fun h => absurd rfl h)
  refine ⟨i1, i2, fun y hy => ?_⟩
  rw [i3 y hy, h2]
  by_cases hn : y < s.n
  · obtain ⟨v, hv⟩ := at_some hy hn
    rw [hv]
    have : (⟨s.n, s.u, []⟩ : Rx).at y = some v := by rw [← hv, at_un hy hn]; exact at_un (s := ⟨s.n, s.u, []⟩) hy hn
    rw [this]; rfl
  · rw [at_late (s := s) (by omega), at_late (s := ⟨s.n, s.u, []⟩) (by simp only; omega)]
    rfl
end Go.Proofs.Ytdodagpkkjpdiaa.Pl
namespace Go.Proofs.Ytdodagpkkjpdiaa
def Has (l : List Tm) (o : Int) : Prop := ∃ s ∈ l, s.1 ≤ o ∧ o < s.2
theorem has_nil (o : Int) : ¬ Has [] o := fun ⟨_, h, _⟩ => by cases h
theorem has_cons {x : Tm} {r : List Tm} {o : Int} : Has (x :: r) o ↔ (x.1 ≤ o ∧ o < x.2) ∨ Has r o := by simp [Has]
theorem has_append {l r : List Tm} {o : Int} : Has (l ++ r) o ↔ Has l o ∨ Has r o := by
  induction l with
  | nil => simp [has_nil]
  | cons x l ih => rw [List.cons_append, has_cons, has_cons, ih, or_assoc]
theorem has_one {x : Tm} {o : Int} : Has [x] o ↔ x.1 ≤ o ∧ o < x.2 := by rw [has_cons]; simp [has_nil]
theorem has_below : ∀ {l : List Tm} {e o : Int}, chk e l = true → o ≤ e → ¬ Has l o
  | [], _, _, _, _ => has_nil _
  | x :: r, e, o, h, ho => by
    rw [chk_cons] at h
    rw [has_cons]
    rintro (h1 | h1)
    · omega
    · exact has_below h.2 (by omega) h1
theorem has_if {c : Prop} [Decidable c] {a : Tm} {o : Int} : Has (if c then [a] else []) o ↔ c ∧ a.1 ≤ o ∧ o < a.2 := by
  by_cases h : c
  · rw [if_pos h, has_one]; simp [h]
  · rw [if_neg h]; simp [h, has_nil]
theorem has_fin {f t o : Int} : Has (fin f t) o ↔ f ≤ o ∧ o < t := by
  unfold fin; rw [has_if]; simp only; omega
theorem has_gaps : ∀ {l : List Tm} {e f t o : Int}, chk e l = true → (Has (gapsL l f t) o ↔ f ≤ o ∧ o < t ∧ ¬ Has l o)
  | [], e, f, t, o, _ => by rw [gapsL, has_fin]; simp [has_nil]
  | x :: r, e, f, t, o, h => by
    rw [chk_cons] at h
    have hb : o ≤ x.2 → ¬ Has r o := has_below h.2
    rw [has_cons]
    by_cases h1 : t ≤ x.1
    · rw [gaps_stop h1, has_fin]
      constructor
      · intro ho
        refine ⟨ho.1, ho.2, ?_⟩
        rintro (h2 | h2)
        · omega
        · exact hb (by omega) h2
      · intro ho; exact ⟨ho.1, ho.2.1⟩
    · by_cases h2 : x.2 ≤ f
      · rw [gaps_le h1 h2, has_gaps h.2]
        constructor
        · intro ho
          refine ⟨ho.1, ho.2.1, ?_⟩
          rintro (h3 | h3)
          · omega
          · exact ho.2.2 h3
        · intro ho; exact ⟨ho.1, ho.2.1, fun h3 => ho.2.2 (.inr h3)⟩
      · rw [gaps_gt h1 h2, has_append, has_gaps h.2, has_if]
        constructor
        · rintro (⟨_, h4, h5⟩ | ⟨h3, h4, h5⟩)
          · simp only at h4 h5
            refine ⟨h4, by omega, ?_⟩
            rintro (h6 | h6)
            · omega
            · exact hb (by omega) h6
          · refine ⟨by omega, h4, ?_⟩
            rintro (h6 | h6)
            · omega
            · exact h5 h6
        · rintro ⟨h3, h4, h5⟩
          by_cases h6 : x.2 ≤ o
          · exact .inr ⟨h6, h4, fun h => h5 (.inr h)⟩
          · have h7 : ¬ (x.1 ≤ o ∧ o < x.2) := fun h => h5 (.inl h)
            exact .inl ⟨by omega, h3, by simp only; omega⟩
theorem gaps_chk : ∀ {l : List Tm} {e f t : Int}, chk e l = true → t ≤ 1125899906842624 → chk (f - 1) (gapsL l f t) = true
  | [], e, f, t, _, ht => by
    rw [gapsL]; unfold fin
    split
    · rw [chk_cons]; exact ⟨⟨by simp only; omega, by assumption, ht⟩, rfl⟩
    · rfl
  | x :: r, e, f, t, h, ht => by
    rw [chk_cons] at h
    by_cases h1 : t ≤ x.1
    · rw [gaps_stop h1]; unfold fin
      split
      · rw [chk_cons]; exact ⟨⟨by simp only; omega, by assumption, ht⟩, rfl⟩
      · rfl
    · by_cases h2 : x.2 ≤ f
      · rw [gaps_le h1 h2]; exact gaps_chk h.2 ht
      · have ih := gaps_chk (f := x.2) (t := t) h.2 ht
        rw [gaps_gt h1 h2]
        split
        · rw [List.singleton_append, chk_cons]
          exact ⟨⟨by simp only; omega, by simp only; assumption, by simp only; omega⟩, chk_mono ih (by simp only; omega)⟩
        · exact chk_mono ih (by omega)
theorem gaps_pos : ∀ {l : List Tm} {f t : Int}, ∀ g ∈ gapsL l f t, g.1 < g.2
  | [], f, t, g, hg => by
    rw [gapsL] at hg; unfold fin at hg
    split at hg
    · simp at hg; subst hg; assumption
    · cases hg
  | x :: r, f, t, g, hg => by
    by_cases h1 : t ≤ x.1
    · rw [gaps_stop h1] at hg; unfold fin at hg
      split at hg
      · simp at hg; subst hg; assumption
      · cases hg
    · by_cases h2 : x.2 ≤ f
      · rw [gaps_le h1 h2] at hg; exact gaps_pos g hg
      · rw [gaps_gt h1 h2] at hg
        rcases List.mem_append.1 hg with hg | hg
        · split at hg
          · simp at hg; subst hg; assumption
          · cases hg
        · exact gaps_pos g hg
theorem has_add : ∀ {l : List Tm} {e : Int} {s : Tm} {o : Int}, chk e l = true → s.1 < s.2 → (Has (addR l s) o ↔ (s.1 ≤ o ∧ o < s.2) ∨ Has l o)
  | [], e, s, o, _, _ => by rw [addR, has_one]; simp [has_nil]
  | x :: r, e, s, o, h, hs => by
    rw [chk_cons] at h
    unfold addR
    rw [has_cons]
    split
    · rw [has_cons, has_add h.2 hs, or_left_comm]
    · split
      · rw [has_cons, has_cons]
      · rw [has_add h.2 (by simp only; omega)]
        by_cases hr : Has r o
        · simp [hr]
        · simp only [hr, or_false]; omega
theorem chk_add : ∀ {l : List Tm} {e : Int} {s : Tm}, chk e l = true → e < s.1 → s.1 < s.2 → s.2 ≤ 1125899906842624 → chk e (addR l s) = true
  | [], e, s, _, h1, h2, h3 => by rw [addR, chk_cons]; exact ⟨⟨h1, h2, h3⟩, rfl⟩
  | x :: r, e, s, h, h1, h2, h3 => by
    rw [chk_cons] at h
    unfold addR
    split
    · rw [chk_cons]; exact ⟨h.1, chk_add h.2 (by omega) h2 h3⟩
    · split
      · rw [chk_cons, chk_cons]; exact ⟨⟨h1, h2, h3⟩, ⟨by omega, h.1.2⟩, h.2⟩
      · exact chk_add (chk_mono h.2 (by omega)) (by simp only; omega) (by simp only; omega) (by simp only; omega)
/-- A row is known by the offsets that it has. -/
theorem row_eq : ∀ {l l' : List Tm} {e e' : Int}, chk e l = true → chk e' l' = true → (∀ o, Has l o ↔ Has l' o) → l = l'
  | [], [], _, _, _, _, _ => rfl
  | [], y :: r, _, _, _, h', hh => by
    rw [chk_cons] at h'
    exact (has_nil _ ((hh y.1).2 (has_cons.2 (.inl ⟨Int.le_refl _, h'.1.2.1⟩)))).elim
  | x :: r, [], _, _, h, _, hh => by
    rw [chk_cons] at h
    exact (has_nil _ ((hh x.1).1 (has_cons.2 (.inl ⟨Int.le_refl _, h.1.2.1⟩)))).elim
  | x :: r, y :: q, e, e', h, h', hh => by
    rw [chk_cons] at h h'
    have a1 : y.1 ≤ x.1 := by
      rcases has_cons.1 ((hh x.1).1 (has_cons.2 (.inl ⟨Int.le_refl _, h.1.2.1⟩))) with h1 | h1
      · exact h1.1
      · refine Classical.byContradiction fun hn => ?_
        exact has_below h'.2 (by omega) h1
    have a2 : x.1 ≤ y.1 := by
      rcases has_cons.1 ((hh y.1).2 (has_cons.2 (.inl ⟨Int.le_refl _, h'.1.2.1⟩))) with h1 | h1
      · exact h1.1
      · refine Classical.byContradiction fun hn => ?_
        exact has_below h.2 (by omega) h1
    have b1 : ¬ x.2 < y.2 := fun hlt => by
      rcases has_cons.1 ((hh x.2).2 (has_cons.2 (.inl ⟨by omega, hlt⟩))) with h1 | h1
      · omega
      · exact has_below h.2 (Int.le_refl _) h1
    have b2 : ¬ y.2 < x.2 := fun hlt => by
      rcases has_cons.1 ((hh y.2).1 (has_cons.2 (.inl ⟨by omega, hlt⟩))) with h1 | h1
      · omega
      · exact has_below h'.2 (Int.le_refl _) h1
    have hxy : x = y := Prod.ext (by omega) (by omega)
    subst hxy
    have ht : r = q := row_eq h.2 h'.2 (fun o => by
      by_cases ho : o ≤ x.2
      · exact ⟨fun h1 => (has_below h.2 ho h1).elim, fun h1 => (has_below h'.2 ho h1).elim⟩
      · constructor
        · intro h1
          rcases has_cons.1 ((hh o).1 (has_cons.2 (.inr h1))) with h2 | h2
          · omega
          · exact h2
        · intro h1
          rcases has_cons.1 ((hh o).2 (has_cons.2 (.inr h1))) with h2 | h2
          · omega
          · exact h2)
    rw [ht]
theorem addV_is {l : List Tm} {s : Tm} (h : chk (-1) l = true) (hr : rightB s = true) : addV l s = if s.1 = s.2 then l else addR l s := by unfold addV; rw [if_pos h, if_pos hr]
theorem addV_chk {l : List Tm} {s : Tm} (h : chk (-1) l = true) (hr : rightB s = true) : chk (-1) (addV l s) = true := by
  have hs := rightB_iff.1 hr
  rw [addV_is h hr]
  by_cases he : s.1 = s.2
  · rw [if_pos he]; exact h
  · rw [if_neg he]; exact chk_add h (by omega) (by omega) (by omega)
theorem addV_has {l : List Tm} {s : Tm} {o : Int} (h : chk (-1) l = true) (hr : rightB s = true) : Has (addV l s) o ↔ (s.1 ≤ o ∧ o < s.2) ∨ Has l o := by
  have hs := rightB_iff.1 hr
  rw [addV_is h hr]
  by_cases he : s.1 = s.2
  · rw [if_pos he]
    constructor
    · exact .inr
    · rintro (h1 | h1)
      · omega
      · exact h1
  · rw [if_neg he]; exact has_add h (by omega)
theorem bothI_ok {l : List Tm} {s : Tm} (h : chk (-1) l = true) (hr : rightB s = true) : bothI l s = 0 := by unfold bothI; rw [if_pos h, if_pos hr]
end Go.Proofs.Ytdodagpkkjpdiaa
namespace Go.Proofs.Ytdodagpkkjpdiaa
set_option linter.unusedVariables false
theorem spans_chk : ∀ {l : List Pl.Pc} {lo : Int}, Pl.latB lo l → (∀ p ∈ l, Pl.pend p ≤ 1125899906842624) → chk lo (Pl.spansL l) = true
  | [], _, _, _ => rfl
  | p :: r, lo, h, hm => by
    have h1 := hm p (List.mem_cons_self ..)
    have h2 := Pl.pend_lt h.2.1
    exact chk_cons.2 ⟨⟨h.1, h2, h1⟩, spans_chk h.2.2 (fun q hq => hm q (List.mem_cons_of_mem _ hq))⟩
theorem spans_has {y : Int} : ∀ {l : List Pl.Pc}, Has (Pl.spansL l) y ↔ Pl.hasL l y ≠ none
  | [] => by constructor
             · intro h; exact absurd h (has_nil y)
             · intro h; exact absurd rfl h
  | p :: r => by
    show Has ((p.1, Pl.pend p) :: Pl.spansL r) y ↔ _
    rw [has_cons, spans_has]
    by_cases h : p.1 ≤ y ∧ y < Pl.pend p
    · obtain ⟨v, hv⟩ := Pl.has_some (r := r) h.1 h.2
      rw [hv]
      exact ⟨fun _ => by simp, fun _ => .inl h⟩
    · rw [Pl.has_out (p := p) (r := r) (by omega)]
      constructor
      · rintro (h' | h')
        · exact absurd h' h
        · exact h'
      · exact .inr
/-- A gap with its bytes. -/
def frP (x : Int) (ds : List Int) (g : Tm) : Pl.Pc := (g.1, (ds.take (g.2 - x).toNat).drop (g.1 - x).toNat)
theorem fr_len {x : Int} {ds : List Int} {g : Tm} (h1 : x ≤ g.1) (h2 : g.1 < g.2) (h3 : g.2 ≤ x + (ds.length : Int)) : ((frP x ds g).2.length : Int) = g.2 - g.1 := by
  unfold frP; simp only [List.length_drop, List.length_take]; omega
theorem fr_pend {x : Int} {ds : List Int} {g : Tm} (h1 : x ≤ g.1) (h2 : g.1 < g.2) (h3 : g.2 ≤ x + (ds.length : Int)) : Pl.pend (frP x ds g) = g.2 := by
  have := fr_len h1 h2 h3
  unfold Pl.pend; rw [this]; show g.1 + _ = _; omega
theorem fresh_has {x : Int} {ds : List Int} {y : Int} : ∀ {gs : List Tm}, (∀ g ∈ gs, x ≤ g.1 ∧ g.1 < g.2 ∧ g.2 ≤ x + (ds.length : Int)) → (Pl.hasL (gs.map (frP x ds)) y ≠ none ↔ Has gs y)
  | [], _ => ⟨fun h => absurd rfl h, fun h => absurd h (has_nil y)⟩
  | g :: r, hg => by
    obtain ⟨h1, h2, h3⟩ := hg g (List.mem_cons_self ..)
    have ih := fresh_has (y := y) (gs := r) (fun q hq => hg q (List.mem_cons_of_mem _ hq))
    have hp := fr_pend h1 h2 h3
    rw [has_cons, ← ih]
    show Pl.hasL (frP x ds g :: r.map (frP x ds)) y ≠ none ↔ _
    by_cases h : g.1 ≤ y ∧ y < g.2
    · obtain ⟨v, hv⟩ := Pl.has_some (p := frP x ds g) (r := r.map (frP x ds)) h.1 (by rw [hp]; exact h.2)
      rw [hv]
      exact ⟨fun _ => .inl h, fun _ => by simp⟩
    · rw [Pl.has_out (p := frP x ds g) (by rw [hp]; show y < g.1 ∨ g.2 ≤ y; omega)]
      constructor
      · exact .inr
      · rintro (h' | h')
        · exact absurd h' h
        · exact h'
theorem fresh_byte {x : Int} {ds : List Int} {y v : Int} : ∀ {gs : List Tm}, (∀ g ∈ gs, x ≤ g.1 ∧ g.1 < g.2 ∧ g.2 ≤ x + (ds.length : Int)) → Pl.hasL (gs.map (frP x ds)) y = some v → ds[(y - x).toNat]? = some v
  | [], _, h => by cases h
  | g :: r, hg, h => by
    obtain ⟨h1, h2, h3⟩ := hg g (List.mem_cons_self ..)
    have hp := fr_pend h1 h2 h3
    have h' : Pl.hasL (frP x ds g :: r.map (frP x ds)) y = some v := h
    by_cases hc : g.1 ≤ y ∧ y < g.2
    · rw [Pl.has_in (p := frP x ds g) hc.1 (by rw [hp]; exact hc.2)] at h'
      have e : (frP x ds g).2[(y - (frP x ds g).1).toNat]? = ds[(y - x).toNat]? := by
        show ((ds.take (g.2 - x).toNat).drop (g.1 - x).toNat)[(y - g.1).toNat]? = _
        rw [List.getElem?_drop, List.getElem?_take, if_pos (by omega)]
        congr 1; omega
      rw [← e]; exact h'
    · rw [Pl.has_out (p := frP x ds g) (by rw [hp]; show y < g.1 ∨ g.2 ≤ y; omega)] at h'
      exact fresh_byte (fun q hq => hg q (List.mem_cons_of_mem _ hq)) h'
theorem fresh_dis {x : Int} {ds : List Int} : ∀ {gs : List Tm} {e : Int}, chk e gs = true → (∀ g ∈ gs, x ≤ g.1 ∧ g.1 < g.2 ∧ g.2 ≤ x + (ds.length : Int)) → Pl.disB (e + 1) (gs.map (frP x ds))
  | [], _, _, _ => trivial
  | g :: r, e, hc, hg => by
    obtain ⟨h1, h2, h3⟩ := hg g (List.mem_cons_self ..)
    obtain ⟨⟨c1, c2, c3⟩, c4⟩ := chk_cons.1 hc
    have hp := fr_pend h1 h2 h3
    have hl := fr_len h1 h2 h3
    refine ⟨show e + 1 ≤ g.1 by omega, by omega, ?_⟩
    rw [hp]
    exact (fresh_dis c4 (fun q hq => hg q (List.mem_cons_of_mem _ hq))).mono (by omega)
/-- The program's way and the document's way of taking a segment's bytes are one. -/
theorem fill_take {s : Pl.Rx} {ds : List Int} {x hi : Int} {k : Nat} (hs : s.ok) (hm : ∀ p ∈ s.l, Pl.pend p ≤ 1125899906842624) (hh : hi ≤ 1125899906842624)
    (hk : s.l.length + (gapsL (Pl.spansL s.l) (Pl.maxJ x s.n) (Pl.minJ (x + (ds.length : Int)) hi)).length ≤ k) :
    Pl.mrgGo (Pl.bothN k s.l ((gapsL (Pl.spansL s.l) (Pl.maxJ x s.n) (Pl.minJ (x + (ds.length : Int)) hi)).map (frP x ds))) ⟨s.n, s.u, []⟩ = (Pl.takeGo s.n hi ds x s false).1
      ∧ ((gapsL (Pl.spansL s.l) (Pl.maxJ x s.n) (Pl.minJ (x + (ds.length : Int)) hi)) = [] ↔ (Pl.takeGo s.n hi ds x s false).2 = false) := by
  have hc := spans_chk hs hm
  have hmx := Pl.max_ge x s.n
  have hmn := Pl.min_le (x + (ds.length : Int)) hi
  have hG : ∀ o, Has (gapsL (Pl.spansL s.l) (Pl.maxJ x s.n) (Pl.minJ (x + (ds.length : Int)) hi)) o ↔ Pl.maxJ x s.n ≤ o ∧ o < Pl.minJ (x + (ds.length : Int)) hi ∧ ¬ Has (Pl.spansL s.l) o := fun o => has_gaps hc
  have hGc := gaps_chk (f := Pl.maxJ x s.n) (t := Pl.minJ (x + (ds.length : Int)) hi) hc (by omega)
  have hGp : ∀ g ∈ gapsL (Pl.spansL s.l) (Pl.maxJ x s.n) (Pl.minJ (x + (ds.length : Int)) hi), g.1 < g.2 := gaps_pos
  obtain ⟨gs, hgs⟩ : ∃ gs, gapsL (Pl.spansL s.l) (Pl.maxJ x s.n) (Pl.minJ (x + (ds.length : Int)) hi) = gs := ⟨_, rfl⟩
  rw [hgs] at hG hGc hGp hk ⊢
  have hin : ∀ g ∈ gs, x ≤ g.1 ∧ g.1 < g.2 ∧ g.2 ≤ x + (ds.length : Int) := fun g hg => by
    have h1 := hGp g hg
    have h2 := (hG g.1).1 ⟨g, hg, Int.le_refl _, h1⟩
    have h3 := (hG (g.2 - 1)).1 ⟨g, hg, by omega, by omega⟩
    omega
  have hdis : Pl.disB s.n (gs.map (frP x ds)) := (fresh_dis hGc hin).mono (by omega)
  have hap : Pl.apart s.l (gs.map (frP x ds)) := fun y => by
    cases h1 : Pl.hasL s.l y with
    | none => exact .inl rfl
    | some v =>
      right
      cases h2 : Pl.hasL (gs.map (frP x ds)) y with
      | none => rfl
      | some u =>
        have h3 := (fresh_has hin).1 (show Pl.hasL (gs.map (frP x ds)) y ≠ none by rw [h2]; simp)
        exact absurd (spans_has.2 (by rw [h1]; simp)) ((hG y).1 h3).2.2
  obtain ⟨f1, f2, f3⟩ := Pl.fill_spec (k := k) hs (by simpa using hk) hdis hap
  obtain ⟨t1, t2, t3, t4, t5⟩ := Pl.take_spec (ds := ds) (lo := s.n) (hi := hi) (x := x) (f := false) hs (Pl.bot_le s)
  have hcame : ∀ y, s.bot ≤ y → s.at y = none → Pl.hasL (gs.map (frP x ds)) y = Pl.came s.n hi x ds y := fun y hb hy => by
    obtain ⟨a1, a2⟩ := (Pl.at_none_iff hb).1 hy
    have hnh : ¬ Has (Pl.spansL s.l) y := fun h => spans_has.1 h a2
    unfold Pl.came
    by_cases hc2 : s.n ≤ y ∧ y < hi ∧ x ≤ y ∧ y < x + (ds.length : Int)
    · rw [if_pos hc2]
      have hh2 : Has gs y := (hG y).2 ⟨by omega, by omega, hnh⟩
      cases h2 : Pl.hasL (gs.map (frP x ds)) y with
      | none => exact absurd h2 ((fresh_has hin).2 hh2)
      | some u => exact (fresh_byte hin h2).symm
    · rw [if_neg hc2]
      cases h2 : Pl.hasL (gs.map (frP x ds)) y with
      | none => rfl
      | some u =>
        have h3 := (hG y).1 ((fresh_has hin).1 (show Pl.hasL (gs.map (frP x ds)) y ≠ none by rw [h2]; simp))
        exact absurd ⟨a1, by omega, by omega, by omega⟩ hc2
  constructor
  · refine Pl.rx_eq f1 t1 (by rw [f2, t2]) (fun y hy => ?_)
    rw [f2] at hy
    rw [f3 y hy, t4 y hy]
    cases hsy : s.at y with
    | some v => rfl
    | none => rw [hcame y hy hsy]; cases Pl.came s.n hi x ds y <;> rfl
  · constructor
    · intro h0
      cases hb : (Pl.takeGo s.n hi ds x s false).2 with
      | false => rfl
      | true =>
        rcases t5.1 hb with h | ⟨z, z1, z2, z3⟩
        · cases h
        · rw [← hcame z z1 z2, h0] at z3
          exact absurd rfl z3
    · intro h0
      cases hg0 : gs with
      | nil => rfl
      | cons g r =>
        have hgm : g ∈ gs := by rw [hg0]; exact List.mem_cons_self ..
        have h1 := hGp g hgm
        have hH : Has gs g.1 := ⟨g, hgm, Int.le_refl _, h1⟩
        have h2 := (hG g.1).1 hH
        have hb : s.bot ≤ g.1 := by have := Pl.bot_le s; omega
        have hn : s.at g.1 = none := (Pl.at_none_iff hb).2 ⟨by omega, by
          cases hx : Pl.hasL s.l g.1 with
          | none => rfl
          | some v => exact absurd (spans_has.2 (by rw [hx]; simp)) h2.2.2⟩
        have h3 := t5.2 (.inr ⟨g.1, hb, hn, by rw [← hcame g.1 hb hn]; exact (fresh_has hin).2 hH⟩)
        rw [h0] at h3; cases h3
end Go.Proofs.Ytdodagpkkjpdiaa
