/- Texts: InputT, InputA. -/
import Derived.Test.YtdodagpkkjpdiaaQA44
namespace Go.Proofs.Ytdodagpkkjpdiaa
open Go.ChangeShapes Go.WideShapes Go.ChangeAt Go.RowKit
set_option linter.unusedVariables false
set_option linter.unusedSimpArgs false
/-- What stands ahead of the answer. -/
structure InAt (w wx : World) (ra : Pl.Rv) (k : Hd) (ba : Option Addr) (bc : Nat) (bl : List Tm) : Prop where
  box : Box wx w.heap.size 46 (rvL ra k)
  zr : Box wx (w.heap.size + 2) 46 [.int .i64 0, .slice none 0 0, .slice none 0 0, .int .i64 0, .int .i64 0, .int .i64 0, .int .u32 0, .bool false, .bool false, .int .i64 0, .bool false, .slice none 0 0, .int .u32 0, .int .u32 0, .bool false]
  zs : Box wx (w.heap.size + 3) 28 [.int .i64 0, .int .i64 0, .int .u32 0, .int .u32 0, .int .i64 0, .int .i64 0, .int .i64 0, .int .i64 0, .int .i64 0, .bool false, .bool false, .int .u32 0, .int .u32 0, .slice none 0 0, .slice none 0 0]
  own : RvOwn wx (w.heap.size + 4) ra k
  bel : Below w.heap.size w wx
  sp : SpAt wx ba bc bl
  sz : w.heap.size + 4 ≤ wx.heap.size
theorem InAt.later {w wx wy : World} {ra : Pl.Rv} {k : Hd} {ba : Option Addr} {bc : Nat} {bl : List Tm} (H : InAt w wx ra k ba bc bl) (hb : Below wx.heap.size wx wy) : InAt w wy ra k ba bc bl :=
  ⟨H.box.later hb, H.zr.later hb, H.zs.later hb, H.own.later hb, Below.on H.bel hb, H.sp.later hb, Nat.le_trans H.sz hb.size⟩
theorem SpAt.setAll {w : World} {a : Option Addr} {c : Nat} {l : List Tm} (h : SpAt w a c l) {g : Nat} (i : Nat) (vs : List Value) (hg : ∀ k, lies a k → k ≠ g) : SpAt (setAll w g i vs) a c l := by
  refine { h with tims := ⟨h.tims.1, fun j hj => ?_⟩ }
  obtain ⟨b, o, e, h1, h2⟩ := h.tims.2 j hj
  have hb : (Go.Proofs.Ytdodagpkkjpdiaa.setAll w g i vs).heap[b]? = w.heap[b]? := setAll_other (hg b ⟨_, _, e⟩)
  exact ⟨b, o, e, (World.cell?_of_block (w := w) hb).trans h1, (World.cell?_of_block (w := w) hb).trans h2⟩
/-- The code from a region on. -/
def fromR (n : Nat) : Code → Option Code
  | .seq a b => match a with
    | .region m _ _ => if m = n then some (.seq a b) else fromR n b
    | _ => match fromR n a with
      | some c => some c
      | none => fromR n b
  | _ => none
set_option maxRecDepth 100000 in
set_option maxHeartbeats 16000000 in
theorem input_tail (ra : Pl.Rv) (k2 : Hd) (ba : Option Addr) (bc : Nat) (bl : List Tm) (w wc : World) (u0 u1 u3 u6 u7 u8 u10 u11 u12 u13 u14 u15 u16 u17 u18 u19 u20 u21 u22 u23 u24 u25 u26 u27 u28 u29 u30 u31 u32 u33 u34 u35 u36 u37 u38 u39 u40 u41 u42 u43 u44 u45 u46 u47 u48 : Value) (HOK : Hid ra.Ok) (HIA : Hid (InAt w wc ra k2 ba bc bl)) :
    Code.wp Try.prog ((Try.f14.body.bind (fromR 10)).getD .skip) (bodyPost Try.prog Try.f14 (fun e w' => ∃ (k : Hd) (kt : Hs), e = .returned (.tuple #[.agg #[.int .i64 (Pl.tellR ra).s.n, .slice k.ua (Pl.tellR ra).s.u.length k.uc, .slice k.la k.es.length k.lc, .int .i64 (Pl.tellR ra).cap, .int .i64 (Pl.tellR ra).shift, .int .i64 (Pl.tellR ra).edge, .int .u32 (Pl.tellR ra).recent, .bool (Pl.tellR ra).stamps, .bool (Pl.tellR ra).sacks, .int .i64 (Pl.tellR ra).fin, .bool (Pl.tellR ra).dn, .slice k.fa (Pl.tellR ra).first.length k.fc, .int .u32 (Pl.tellR ra).irs, .int .u32 (Pl.tellR ra).own, .bool (Pl.tellR ra).stamp], .agg #[.int .i64 (tellS ra bl).sp, .int .i64 (tellS ra bl).dp, .int .u32 (tellS ra bl).sq, .int .u32 (tellS ra bl).ak, .int .i64 (tellS ra bl).fl, .int .i64 (tellS ra bl).wn, .int .i64 (tellS ra bl).ur, .int .i64 (tellS ra bl).ms, .int .i64 (tellS ra bl).sc, .bool (tellS ra bl).so, .bool (tellS ra bl).st, .int .u32 (tellS ra bl).va, .int .u32 (tellS ra bl).ec, .slice kt.ka (tellS ra bl).sk.length kt.kc, .slice kt.da (tellS ra bl).da.length kt.dc], .bool true, .int .i64 0]) ∧ RvOwn w' (w.heap.size + 4) (Pl.tellR ra) k ∧ SgOwn w' (w.heap.size + 4) (tellS ra bl) kt ∧ Below w.heap.size w w')) ⟨#[u0, u1, .pointer (some ⟨w.heap.size, 0, none⟩), u3, .pointer (some ⟨w.heap.size + 2, 0, none⟩), .pointer (some ⟨w.heap.size + 3, 0, none⟩), u6, u7, u8, .slice ba bl.length bc, u10, u11, u12, u13, u14, u15, u16, u17, u18, u19, u20, u21, u22, u23, u24, u25, u26, u27, u28, u29, u30, u31, u32, u33, u34, u35, u36, u37, u38, u39, u40, u41, u42, u43, u44, u45, u46, u47, u48], []⟩ wc := by
  conv => arg 2; whnf
  have cT := told_any ra k2 ba bl.length bc bl wc HOK.out HIA.out.sp rfl
  obtain ⟨c0, c1, c2, c3, c4, c5, c6, c7, c8, c9, c10, c11, c12, c13, c14⟩ := Box.c15 HIA.out.box
  go_wp2_with fail
  refine cT.mono ?_
  rintro e w9 ⟨kt, rfl, hG9, hB9⟩
  clear c0 c1 c2 c3 c4 c5 c6 c7 c8 c9 c10 c11 c12 c13 c14 cT
  have hx9 := (HIA.out.box.later hB9).alloc (.cells #[.int .i64 0, .int .i64 0, .int .u32 0, .int .u32 0, .int .i64 0, .int .i64 0, .int .i64 0, .int .i64 0, .int .i64 0, .bool false, .bool false, .int .u32 0, .int .u32 0, .slice none 0 0, .slice none 0 0] 28)
  have hn9 := Box.new w9 28 [.int .i64 0, .int .i64 0, .int .u32 0, .int .u32 0, .int .i64 0, .int .i64 0, .int .i64 0, .int .i64 0, .int .i64 0, .bool false, .bool false, .int .u32 0, .int .u32 0, .slice none 0 0, .slice none 0 0]
  have hsz := HIA.out.sz
  have hs9 := hB9.size
  have hne : ¬ w.heap.size = w9.heap.size := by omega
  have hne' : ¬ w9.heap.size = w.heap.size := by omega
  obtain ⟨Wa, hWa⟩ : ∃ Wa, w9.alloc (.cells #[.int .i64 0, .int .i64 0, .int .u32 0, .int .u32 0, .int .i64 0, .int .i64 0, .int .i64 0, .int .i64 0, .int .i64 0, .bool false, .bool false, .int .u32 0, .int .u32 0, .slice none 0 0, .slice none 0 0] 28) = Wa := ⟨_, rfl⟩
  have hn9' : Box Wa w9.heap.size 28 [.int .i64 0, .int .i64 0, .int .u32 0, .int .u32 0, .int .i64 0, .int .i64 0, .int .i64 0, .int .i64 0, .int .i64 0, .bool false, .bool false, .int .u32 0, .int .u32 0, .slice none 0 0, .slice none 0 0] := by rw [← hWa]; exact hn9
  rw [hWa] at hx9
  have HSZ : Hid (w.heap.size + 4 ≤ wc.heap.size ∧ wc.heap.size ≤ w9.heap.size) := ⟨hsz, hs9⟩
  clear hn9 hsz hs9
  obtain ⟨c0, c1, c2, c3, c4, c5, c6, c7, c8, c9, c10, c11, c12, c13, c14⟩ := Box.c15 hx9
  obtain ⟨f0, f1, f2, f3, f4, f5, f6, f7, f8, f9, f10, f11, f12, f13, f14⟩ := Box.f15 hx9
  obtain ⟨d0, d1, d2, d3, d4, d5, d6, d7, d8, d9, d10, d11, d12, d13, d14⟩ := Box.c15 hn9'
  obtain ⟨e0, e1, e2, e3, e4, e5, e6, e7, e8, e9, e10, e11, e12, e13, e14⟩ := Box.f15 hn9'
  go_upto_region 11 with fail
  clear c0 c1 c2 c3 c4 c5 c6 c7 c8 c9 c10 c11 c12 c13 c14 d0 d1 d2 d3 d4 d5 d6 d7 d8 d9 d10 d11 d12 d13 d14 e0 e1 e2 e3 e4 e5 e6 e7 e8 e9 e10 e11 e12 e13 e14 f0 f1 f2 f3 f4 f5 f6 f7 f8 f9 f10 f11 f12 f13 f14
  obtain ⟨P1, hP1⟩ : ∃ P1, setAll Wa w.heap.size 0 (rvL (Pl.tellR ra) k2) = P1 := ⟨_, rfl⟩
  obtain ⟨Yb, hYb⟩ : ∃ Yb, setAll P1 w9.heap.size 0 (sgL (tellS ra bl) kt) = Yb := ⟨_, rfl⟩
  have hYc : setAll (setAll Wa w.heap.size 0 (rvL (Pl.tellR ra) k2)) w9.heap.size 0 (sgL (tellS ra bl) kt) = Yb := by rw [hP1]; exact hYb
  refine wp_world hYc ?_
  clear hYc
  have hWb : Below w9.heap.size w9 Wa := by rw [← hWa]; exact below_more (Below.refl _ _) _
  have hXa : Below wc.heap.size wc Wa := Below.on hB9 hWb
  have s9 := HSZ.out.2
  have sX := HSZ.out.1
  have pR : Box P1 w.heap.size 46 (rvL (Pl.tellR ra) k2) := by rw [← hP1]; exact hx9.put _ rfl
  have pG : Box P1 w9.heap.size 28 [.int .i64 0, .int .i64 0, .int .u32 0, .int .u32 0, .int .i64 0, .int .i64 0, .int .i64 0, .int .i64 0, .int .i64 0, .bool false, .bool false, .int .u32 0, .int .u32 0, .slice none 0 0, .slice none 0 0] := by rw [← hP1]; exact hn9'.putAside _ _ _ (by omega)
  have pZ : Box P1 (w.heap.size + 2) 46 [.int .i64 0, .slice none 0 0, .slice none 0 0, .int .i64 0, .int .i64 0, .int .i64 0, .int .u32 0, .bool false, .bool false, .int .i64 0, .bool false, .slice none 0 0, .int .u32 0, .int .u32 0, .bool false] := by rw [← hP1]; exact (HIA.out.zr.later hXa).putAside _ _ _ (by omega)
  have pS : Box P1 (w.heap.size + 3) 28 [.int .i64 0, .int .i64 0, .int .u32 0, .int .u32 0, .int .i64 0, .int .i64 0, .int .i64 0, .int .i64 0, .int .i64 0, .bool false, .bool false, .int .u32 0, .int .u32 0, .slice none 0 0, .slice none 0 0] := by rw [← hP1]; exact (HIA.out.zs.later hXa).putAside _ _ _ (by omega)
  have pO : RvOwn P1 (w.heap.size + 4) (Pl.tellR ra) k2 := by rw [← hP1]; exact ((HIA.out.own.later hXa).tell).aside _ _ _ (by omega)
  have pN : SgOwn P1 (w.heap.size + 4) (tellS ra bl) kt := by rw [← hP1]; exact (SgOwn.mono (hG9.later hWb) (by omega)).aside _ _ _ (by omega)
  have pB : Below w.heap.size w P1 := by rw [← hP1]; exact setAll_below (Nat.le_refl _) (Below.on HIA.out.bel hXa)
  have HYb : Hid (Box Yb w.heap.size 46 (rvL (Pl.tellR ra) k2) ∧ Box Yb w9.heap.size 28 (sgL (tellS ra bl) kt) ∧ Box Yb (w.heap.size + 2) 46 [.int .i64 0, .slice none 0 0, .slice none 0 0, .int .i64 0, .int .i64 0, .int .i64 0, .int .u32 0, .bool false, .bool false, .int .i64 0, .bool false, .slice none 0 0, .int .u32 0, .int .u32 0, .bool false] ∧ Box Yb (w.heap.size + 3) 28 [.int .i64 0, .int .i64 0, .int .u32 0, .int .u32 0, .int .i64 0, .int .i64 0, .int .i64 0, .int .i64 0, .int .i64 0, .bool false, .bool false, .int .u32 0, .int .u32 0, .slice none 0 0, .slice none 0 0] ∧ RvOwn Yb (w.heap.size + 4) (Pl.tellR ra) k2 ∧ SgOwn Yb (w.heap.size + 4) (tellS ra bl) kt ∧ Below w.heap.size w Yb ∧ w.heap.size + 4 ≤ w9.heap.size) := by
    rw [← hYb]
    exact ⟨pR.putAside _ _ _ (by omega), pG.put _ rfl, pZ.putAside _ _ _ (by omega), pS.putAside _ _ _ (by omega), pO.besideS pG _ _, pN.besideS pG _ _, setAll_below (by omega) pB, by omega⟩
  clear hWb hXa s9 sX pR pG pZ pS pO pN pB hP1 hYb hx9 hn9' hWa hne hne' hB9 hG9 HIA HSZ
  obtain ⟨S, hS⟩ : ∃ S : World → Prop, S = fun W => Box W w.heap.size 46 [.int .i64 (Pl.tellR ra).s.n, .slice k2.ua (Pl.tellR ra).s.u.length k2.uc, .slice k2.la k2.es.length k2.lc, .int .i64 (Pl.tellR ra).cap, .int .i64 (Pl.tellR ra).shift, .int .i64 (Pl.tellR ra).edge, .int .u32 (Pl.tellR ra).recent, .bool (Pl.tellR ra).stamps, .bool (Pl.tellR ra).sacks, .int .i64 (Pl.tellR ra).fin, .bool (Pl.tellR ra).dn, .slice k2.fa (Pl.tellR ra).first.length k2.fc, .int .u32 (Pl.tellR ra).irs, .int .u32 (Pl.tellR ra).own, .bool (Pl.tellR ra).stamp] ∧ Box W w9.heap.size 28 [.int .i64 (tellS ra bl).sp, .int .i64 (tellS ra bl).dp, .int .u32 (tellS ra bl).sq, .int .u32 (tellS ra bl).ak, .int .i64 (tellS ra bl).fl, .int .i64 (tellS ra bl).wn, .int .i64 (tellS ra bl).ur, .int .i64 (tellS ra bl).ms, .int .i64 (tellS ra bl).sc, .bool (tellS ra bl).so, .bool (tellS ra bl).st, .int .u32 (tellS ra bl).va, .int .u32 (tellS ra bl).ec, .slice kt.ka (tellS ra bl).sk.length kt.kc, .slice kt.da (tellS ra bl).da.length kt.dc] := ⟨_, rfl⟩
  have y0 : ∀ {ps : String} (ev : Operand → Value), ev (.tmp 2) = .pointer (some ⟨w.heap.size, 0, none⟩) → ∀ W, S W → (execOp ev { dst := some 47, op := Go.Op.load 46 (Go.Operand.tmp 2), type := 46, pos := ps, after := #[], guard := none }).run Try.prog W = .ok (.value (.agg #[.int .i64 (Pl.tellR ra).s.n, .slice k2.ua (Pl.tellR ra).s.u.length k2.uc, .slice k2.la k2.es.length k2.lc, .int .i64 (Pl.tellR ra).cap, .int .i64 (Pl.tellR ra).shift, .int .i64 (Pl.tellR ra).edge, .int .u32 (Pl.tellR ra).recent, .bool (Pl.tellR ra).stamps, .bool (Pl.tellR ra).sacks, .int .i64 (Pl.tellR ra).fin, .bool (Pl.tellR ra).dn, .slice k2.fa (Pl.tellR ra).first.length k2.fc, .int .u32 (Pl.tellR ra).irs, .int .u32 (Pl.tellR ra).own, .bool (Pl.tellR ra).stamp])) W := by
    intro ps ev h0 W hSw
    rw [hS] at hSw
    obtain ⟨c0, c1, c2, c3, c4, c5, c6, c7, c8, c9, c10, c11, c12, c13, c14⟩ := Box.c15 hSw.1
    first | (go_simp; done) | (go_simp; with_reducible rfl)
  have y1 : ∀ {ps : String} (ev : Operand → Value), ev (.tmp 10) = .pointer (some ⟨w9.heap.size, 0, none⟩) → ∀ W, S W → (execOp ev { dst := some 48, op := Go.Op.load 28 (Go.Operand.tmp 10), type := 28, pos := ps, after := #[{ on := 2, ground := Go.Ground.gcOnly Go.Departure.lateStores }], guard := none }).run Try.prog W = .ok (.value (.agg #[.int .i64 (tellS ra bl).sp, .int .i64 (tellS ra bl).dp, .int .u32 (tellS ra bl).sq, .int .u32 (tellS ra bl).ak, .int .i64 (tellS ra bl).fl, .int .i64 (tellS ra bl).wn, .int .i64 (tellS ra bl).ur, .int .i64 (tellS ra bl).ms, .int .i64 (tellS ra bl).sc, .bool (tellS ra bl).so, .bool (tellS ra bl).st, .int .u32 (tellS ra bl).va, .int .u32 (tellS ra bl).ec, .slice kt.ka (tellS ra bl).sk.length kt.kc, .slice kt.da (tellS ra bl).da.length kt.dc])) W := by
    intro ps ev h0 W hSw
    rw [hS] at hSw
    obtain ⟨c0, c1, c2, c3, c4, c5, c6, c7, c8, c9, c10, c11, c12, c13, c14⟩ := Box.c15 hSw.2
    first | (go_simp; done) | (go_simp; with_reducible rfl)
  have y4 : ∀ {ps : String} (ev : Operand → Value), ev (.const (.bool true)) = .bool true → ∀ W, S W → (execOp ev { dst := some 6, op := Go.Op.assign (Go.Operand.const (Go.Value.bool true)), type := 4, pos := ps, after := #[{ on := 3, ground := Go.Ground.chain }, { on := 0, ground := Go.Ground.phase }, { on := 1, ground := Go.Ground.phase }, { on := 2, ground := Go.Ground.phase }, { on := 3, ground := Go.Ground.phase }], guard := none }).run Try.prog W = .ok (.value (.bool true)) W := by
    intro ps ev h0 W hSw
    rw [hS] at hSw
    try dsimp only at hSw
    first | (go_simp; done) | (go_simp; with_reducible rfl)
  have hdr : Below Yb.heap.size Yb Yb.drew := Below.drew (Below.refl _ _)
  have hSd : S Yb.drew := by rw [hS]; exact ⟨HYb.out.1.later hdr, HYb.out.2.1.later hdr⟩
  have z1 := HYb.out.2.2.1.later hdr
  have z2 := HYb.out.2.2.2.1.later hdr
  have sz := HYb.out.2.2.2.2.2.2.2
  obtain ⟨X3, hX3⟩ : ∃ X3, setAll Yb.drew (w.heap.size + 2) 0 (rvL (Pl.tellR ra) k2) = X3 := ⟨_, rfl⟩
  have hS3 : S X3 := by rw [hS, ← hX3]; exact ⟨(HYb.out.1.later hdr).putAside _ _ _ (by omega), (HYb.out.2.1.later hdr).putAside _ _ _ (by omega)⟩
  have z3 : Box X3 (w.heap.size + 2) 46 (rvL (Pl.tellR ra) k2) := by rw [← hX3]; exact z1.put _ rfl
  have z4 : Box X3 (w.heap.size + 3) 28 [.int .i64 0, .int .i64 0, .int .u32 0, .int .u32 0, .int .i64 0, .int .i64 0, .int .i64 0, .int .i64 0, .int .i64 0, .bool false, .bool false, .int .u32 0, .int .u32 0, .slice none 0 0, .slice none 0 0] := by rw [← hX3]; exact z2.putAside _ _ _ (by omega)
  have o3 : RvOwn X3 (w.heap.size + 4) (Pl.tellR ra) k2 := by rw [← hX3]; exact (HYb.out.2.2.2.2.1.later hdr).aside _ _ _ (by omega)
  have g3 : SgOwn X3 (w.heap.size + 4) (tellS ra bl) kt := by rw [← hX3]; exact (HYb.out.2.2.2.2.2.1.later hdr).aside _ _ _ (by omega)
  have l3 : Below w.heap.size w X3 := by rw [← hX3]; exact setAll_below (by omega) (Below.on HYb.out.2.2.2.2.2.2.1 hdr)
  obtain ⟨X5, hX5⟩ : ∃ X5, setAll X3 (w.heap.size + 3) 0 (sgL (tellS ra bl) kt) = X5 := ⟨_, rfl⟩
  have hS5 : S X5 := by
    rw [hS] at hS3 ⊢
    rw [← hX5]; exact ⟨hS3.1.putAside _ _ _ (by omega), hS3.2.putAside _ _ _ (by omega)⟩
  have HF : Hid (Box X5 (w.heap.size + 2) 46 (rvL (Pl.tellR ra) k2) ∧ Box X5 (w.heap.size + 3) 28 (sgL (tellS ra bl) kt) ∧ RvOwn X5 (w.heap.size + 4) (Pl.tellR ra) k2 ∧ SgOwn X5 (w.heap.size + 4) (tellS ra bl) kt ∧ Below w.heap.size w X5) := by
    rw [← hX5]
    exact ⟨z3.putAside _ _ _ (by omega), z4.put _ rfl, o3.aside _ _ _ (by omega), g3.aside _ _ _ (by omega), setAll_below (by omega) l3⟩
  have HXY : Hid (setAll Yb.drew (w.heap.size + 2) 0 (rvL (Pl.tellR ra) k2) = X3 ∧ setAll X3 (w.heap.size + 3) 0 (sgL (tellS ra bl) kt) = X5) := ⟨hX3, hX5⟩
  clear hX3 hX5 o3 g3 l3 z3 z2 sz HYb hdr
  refine wp_region_X S 5 (by kernel_rfl) hSd (fun hHeld => ?_)
  refine wpX_take (i := 0) (oi := { dst := some 47, op := Go.Op.load 46 (Go.Operand.tmp 2), type := 46, pos := _, after := #[], guard := none }) (v := .agg #[.int .i64 (Pl.tellR ra).s.n, .slice k2.ua (Pl.tellR ra).s.u.length k2.uc, .slice k2.la k2.es.length k2.lc, .int .i64 (Pl.tellR ra).cap, .int .i64 (Pl.tellR ra).shift, .int .i64 (Pl.tellR ra).edge, .int .u32 (Pl.tellR ra).recent, .bool (Pl.tellR ra).stamps, .bool (Pl.tellR ra).sacks, .int .i64 (Pl.tellR ra).fin, .bool (Pl.tellR ra).dn, .slice k2.fa (Pl.tellR ra).first.length k2.fc, .int .u32 (Pl.tellR ra).irs, .int .u32 (Pl.tellR ra).own, .bool (Pl.tellR ra).stamp]) rfl (by kernel_rfl) (by kernel_rfl) (by kernel_rfl) (fun _ _ _ h => h) ⟨_, rfl, { on := 0, ground := Go.Ground.phase }, by simp, by rfl, rfl⟩ (by decide) (Or.inl ⟨by rfl, y0 _ rfl⟩) (by assumption) ?_
  try simp only [Act.put, List.setIfInBounds_toArray, List.set_cons_zero, List.set_cons_succ]
  refine wpX_take (i := 1) (oi := { dst := some 48, op := Go.Op.load 28 (Go.Operand.tmp 10), type := 28, pos := _, after := #[{ on := 2, ground := Go.Ground.gcOnly Go.Departure.lateStores }], guard := none }) (v := .agg #[.int .i64 (tellS ra bl).sp, .int .i64 (tellS ra bl).dp, .int .u32 (tellS ra bl).sq, .int .u32 (tellS ra bl).ak, .int .i64 (tellS ra bl).fl, .int .i64 (tellS ra bl).wn, .int .i64 (tellS ra bl).ur, .int .i64 (tellS ra bl).ms, .int .i64 (tellS ra bl).sc, .bool (tellS ra bl).so, .bool (tellS ra bl).st, .int .u32 (tellS ra bl).va, .int .u32 (tellS ra bl).ec, .slice kt.ka (tellS ra bl).sk.length kt.kc, .slice kt.da (tellS ra bl).da.length kt.dc]) rfl (by kernel_rfl) (by kernel_rfl) (by kernel_rfl) (fun _ _ _ h => h) ⟨_, rfl, { on := 1, ground := Go.Ground.phase }, by simp, by rfl, rfl⟩ (by decide) (Or.inl ⟨by rfl, y1 _ rfl⟩) (by assumption) ?_
  try simp only [Act.put, List.setIfInBounds_toArray, List.set_cons_zero, List.set_cons_succ]
  refine wpX_one (i := 2) (o := { dst := none, op := Go.Op.store 46 (Go.Operand.tmp 4) (Go.Operand.tmp 47), type := 0, pos := _, after := #[{ on := 0, ground := Go.Ground.data }, { on := 0, ground := Go.Ground.phase }, { on := 1, ground := Go.Ground.textOnly Go.Departure.lateStores }], guard := none }) (by kernel_rfl) rfl (fun K hK => ?_)
  refine wp_storeV rfl (.tmp 4) (.tmp 47) rfl (Pl.tellR ra) k2 (w.heap.size + 2) (cs := [.int .i64 0, .slice none 0 0, .slice none 0 0, .int .i64 0, .int .i64 0, .int .i64 0, .int .u32 0, .bool false, .bool false, .int .i64 0, .bool false, .slice none 0 0, .int .u32 0, .int .u32 0, .bool false]) rfl rfl rfl z1 HXY.out.1 (fun v => ?_)
  refine hK.out _ _ ⟨fun _ => hS3, ?_⟩
  clear hK K hHeld hSd
  try simp only [Act.put, List.setIfInBounds_toArray, List.set_cons_zero, List.set_cons_succ]
  refine wpX_one (i := 3) (o := { dst := none, op := Go.Op.store 28 (Go.Operand.tmp 5) (Go.Operand.tmp 48), type := 0, pos := _, after := #[{ on := 1, ground := Go.Ground.data }, { on := 2, ground := Go.Ground.chain }, { on := 0, ground := Go.Ground.phase }, { on := 1, ground := Go.Ground.phase }, { on := 2, ground := Go.Ground.phase }], guard := none }) (by kernel_rfl) rfl (fun K hK => ?_)
  refine wp_storeS rfl (.tmp 5) (.tmp 48) rfl (tellS ra bl) kt (w.heap.size + 3) (cs := [.int .i64 0, .int .i64 0, .int .u32 0, .int .u32 0, .int .i64 0, .int .i64 0, .int .i64 0, .int .i64 0, .int .i64 0, .bool false, .bool false, .int .u32 0, .int .u32 0, .slice none 0 0, .slice none 0 0]) rfl rfl rfl z4 HXY.out.2 (fun v => ?_)
  refine hK.out _ _ ⟨fun _ => hS5, ?_⟩
  clear hK K
  try simp only [Act.put, List.setIfInBounds_toArray, List.set_cons_zero, List.set_cons_succ]
  refine wpX_take (i := 4) (oi := { dst := some 6, op := Go.Op.assign (Go.Operand.const (Go.Value.bool true)), type := 4, pos := _, after := #[{ on := 3, ground := Go.Ground.chain }, { on := 0, ground := Go.Ground.phase }, { on := 1, ground := Go.Ground.phase }, { on := 2, ground := Go.Ground.phase }, { on := 3, ground := Go.Ground.phase }], guard := none }) (v := .bool true) rfl (by kernel_rfl) (by kernel_rfl) (by kernel_rfl) (fun _ _ _ h => h) ⟨_, rfl, { on := 4, ground := Go.Ground.chain }, by simp, by rfl, rfl⟩ (by decide) (Or.inl ⟨by rfl, y4 _ rfl⟩) (by assumption) ?_
  try simp only [Act.put, List.setIfInBounds_toArray, List.set_cons_zero, List.set_cons_succ]
  refine wpX_one (i := 5) (o := { dst := some 7, op := Go.Op.assign (Go.Operand.const (Go.Value.int Go.IntKind.i64 0)), type := 36, pos := _, after := #[{ on := 4, ground := Go.Ground.chain }, { on := 0, ground := Go.Ground.phase }, { on := 1, ground := Go.Ground.phase }, { on := 2, ground := Go.Ground.phase }, { on := 3, ground := Go.Ground.phase }, { on := 4, ground := Go.Ground.phase }], guard := none }) (by kernel_rfl) rfl (fun K hK => ?_)
  rw [if_pos (by rfl)]
  go_simp
  refine hK.out _ _ ⟨fun h => absurd rfl h, ?_⟩
  clear hK K
  refine wpX_done (by kernel_rfl) ?_ _
  try simp only [Act.put, List.setIfInBounds_toArray, List.set_cons_zero, List.set_cons_succ]
  clear z1 z4 hS3 hS5 y0 y1 y4 hS HXY
  go_wp2_with fail
  refine bodyPost_ret (res_rstt rfl _ _ (w.heap.size + 2) (w.heap.size + 3) _ _ rfl rfl rfl rfl HF.out.1 HF.out.2.1) rfl ?_
  exact ⟨k2, kt, rfl, HF.out.2.2.1, HF.out.2.2.2.1, HF.out.2.2.2.2⟩
end Go.Proofs.Ytdodagpkkjpdiaa
namespace Go.Proofs.Ytdodagpkkjpdiaa
open Go.ChangeShapes Go.WideShapes Go.ChangeAt Go.RowKit
set_option linter.unusedVariables false
set_option linter.unusedSimpArgs false
set_option maxRecDepth 100000 in
set_option maxHeartbeats 16000000 in
theorem recvInput_in (r : Pl.Rv) (h : Hd) (s : Seg) (ks : Hs) (w : World) (H : RvAt w r h) (hok : r.Ok) (hs : SgAt w s ks) (HST : Hid (r.stamps = false ∨ s.st = true)) (ra : Pl.Rv) (hra : (if Pl.oldB r (segOf s) = true then r else Pl.intoR r (segOf s)) = ra) (bl : List Tm) (hbl : (if Pl.oldB r (segOf s) = true then r.first else blkL r (segOf s)) = bl) :
    Calls Try.prog 14 #[.agg #[.int .i64 r.s.n, .slice h.ua r.s.u.length h.uc, .slice h.la h.es.length h.lc, .int .i64 r.cap, .int .i64 r.shift, .int .i64 r.edge, .int .u32 r.recent, .bool r.stamps, .bool r.sacks, .int .i64 r.fin, .bool r.dn, .slice h.fa r.first.length h.fc, .int .u32 r.irs, .int .u32 r.own, .bool r.stamp], .agg #[.int .i64 s.sp, .int .i64 s.dp, .int .u32 s.sq, .int .u32 s.ak, .int .i64 s.fl, .int .i64 s.wn, .int .i64 s.ur, .int .i64 s.ms, .int .i64 s.sc, .bool s.so, .bool s.st, .int .u32 s.va, .int .u32 s.ec, .slice ks.ka s.sk.length ks.kc, .slice ks.da s.da.length ks.dc]] w fun e w' => ∃ (k : Hd) (kt : Hs), e = .returned (.tuple #[.agg #[.int .i64 (Pl.tellR ra).s.n, .slice k.ua (Pl.tellR ra).s.u.length k.uc, .slice k.la k.es.length k.lc, .int .i64 (Pl.tellR ra).cap, .int .i64 (Pl.tellR ra).shift, .int .i64 (Pl.tellR ra).edge, .int .u32 (Pl.tellR ra).recent, .bool (Pl.tellR ra).stamps, .bool (Pl.tellR ra).sacks, .int .i64 (Pl.tellR ra).fin, .bool (Pl.tellR ra).dn, .slice k.fa (Pl.tellR ra).first.length k.fc, .int .u32 (Pl.tellR ra).irs, .int .u32 (Pl.tellR ra).own, .bool (Pl.tellR ra).stamp], .agg #[.int .i64 (tellS ra bl).sp, .int .i64 (tellS ra bl).dp, .int .u32 (tellS ra bl).sq, .int .u32 (tellS ra bl).ak, .int .i64 (tellS ra bl).fl, .int .i64 (tellS ra bl).wn, .int .i64 (tellS ra bl).ur, .int .i64 (tellS ra bl).ms, .int .i64 (tellS ra bl).sc, .bool (tellS ra bl).so, .bool (tellS ra bl).st, .int .u32 (tellS ra bl).va, .int .u32 (tellS ra bl).ec, .slice kt.ka (tellS ra bl).sk.length kt.kc, .slice kt.da (tellS ra bl).da.length kt.dc], .bool true, .int .i64 0]) ∧ RvOwn w' (w.heap.size + 4) (Pl.tellR ra) k ∧ SgOwn w' (w.heap.size + 4) (tellS ra bl) kt ∧ Below w.heap.size w w' := by
  obtain ⟨W0, hW0⟩ : ∃ W0, (((w.alloc (.cells #[.int .i64 r.s.n, .slice h.ua r.s.u.length h.uc, .slice h.la h.es.length h.lc, .int .i64 r.cap, .int .i64 r.shift, .int .i64 r.edge, .int .u32 r.recent, .bool r.stamps, .bool r.sacks, .int .i64 r.fin, .bool r.dn, .slice h.fa r.first.length h.fc, .int .u32 r.irs, .int .u32 r.own, .bool r.stamp] 46)).alloc (.cells #[.int .i64 s.sp, .int .i64 s.dp, .int .u32 s.sq, .int .u32 s.ak, .int .i64 s.fl, .int .i64 s.wn, .int .i64 s.ur, .int .i64 s.ms, .int .i64 s.sc, .bool s.so, .bool s.st, .int .u32 s.va, .int .u32 s.ec, .slice ks.ka s.sk.length ks.kc, .slice ks.da s.da.length ks.dc] 28)).alloc (.cells #[.int .i64 0, .slice none 0 0, .slice none 0 0, .int .i64 0, .int .i64 0, .int .i64 0, .int .u32 0, .bool false, .bool false, .int .i64 0, .bool false, .slice none 0 0, .int .u32 0, .int .u32 0, .bool false] 46)).alloc (.cells #[.int .i64 0, .int .i64 0, .int .u32 0, .int .u32 0, .int .i64 0, .int .i64 0, .int .i64 0, .int .i64 0, .int .i64 0, .bool false, .bool false, .int .u32 0, .int .u32 0, .slice none 0 0, .slice none 0 0] 28) = W0 := ⟨_, rfl⟩
  obtain ⟨hX, hG, hZ, hZS, hs0, b0⟩ : Box W0 w.heap.size 46 [.int .i64 r.s.n, .slice h.ua r.s.u.length h.uc, .slice h.la h.es.length h.lc, .int .i64 r.cap, .int .i64 r.shift, .int .i64 r.edge, .int .u32 r.recent, .bool r.stamps, .bool r.sacks, .int .i64 r.fin, .bool r.dn, .slice h.fa r.first.length h.fc, .int .u32 r.irs, .int .u32 r.own, .bool r.stamp] ∧ Box W0 (w.heap.size + 1) 28 [.int .i64 s.sp, .int .i64 s.dp, .int .u32 s.sq, .int .u32 s.ak, .int .i64 s.fl, .int .i64 s.wn, .int .i64 s.ur, .int .i64 s.ms, .int .i64 s.sc, .bool s.so, .bool s.st, .int .u32 s.va, .int .u32 s.ec, .slice ks.ka s.sk.length ks.kc, .slice ks.da s.da.length ks.dc] ∧ Box W0 (w.heap.size + 2) 46 [.int .i64 0, .slice none 0 0, .slice none 0 0, .int .i64 0, .int .i64 0, .int .i64 0, .int .u32 0, .bool false, .bool false, .int .i64 0, .bool false, .slice none 0 0, .int .u32 0, .int .u32 0, .bool false] ∧ Box W0 (w.heap.size + 3) 28 [.int .i64 0, .int .i64 0, .int .u32 0, .int .u32 0, .int .i64 0, .int .i64 0, .int .i64 0, .int .i64 0, .int .i64 0, .bool false, .bool false, .int .u32 0, .int .u32 0, .slice none 0 0, .slice none 0 0] ∧ W0.heap.size = w.heap.size + 4 ∧ Below w.heap.size w W0 := boxes4 w (rvL r h) (sgL s ks) hW0
  have HX : Hid (_ ∧ _ ∧ _ ∧ _ ∧ _ ∧ _) := ⟨hX, hG, hZ, hZS, hs0, b0⟩
  have hrok : ra.Ok := by
    rw [← hra]
    split
    · exact hok
    · exact (Pl.into_ok hok).1
  have HH : Hid (RvAt w r h ∧ r.Ok ∧ SgAt w s ks ∧ ra.Ok) := ⟨H, hok, hs, hrok⟩
  obtain ⟨st, hst⟩ : ∃ st, Pl.oldB r (segOf s) = st := ⟨_, rfl⟩
  rw [hst] at hra hbl
  have HRA : Hid ((if st = true then r else Pl.intoR r (segOf s)) = ra ∧ (if st = true then r.first else blkL r (segOf s)) = bl ∧ Pl.oldB r (segOf s) = st) := ⟨hra, hbl, hst⟩
  obtain ⟨c0, c1, c2, c3, c4, c5, c6, c7, c8, c9, c10, c11, c12, c13, c14⟩ := Box.c15 hX
  have cC := recvCheck_ok r h W0 (H.later b0) hok
  clear hX hG hZ hZS hs0 b0 H hok hs hrok hra hbl hst
  go_enter Try.func14, Try.ntmps14
  go_wp2_with fail
  refine cC.mono ?_
  rintro e w1 ⟨rfl, hB1⟩
  have HB1 : Hid (Below W0.heap.size W0 w1) := hB1
  clear c0 c1 c2 c3 c4 c5 c6 c7 c8 c9 c10 c11 c12 c13 c14 cC hW0
  obtain ⟨c0, c1, c2, c3, c4, c5, c6, c7, c8, c9, c10, c11, c12, c13, c14⟩ := Box.c15 (HX.out.1.later hB1)
  have cR := renewed_any r h w1 (HH.out.1.later (Below.on HX.out.2.2.2.2.2 hB1))
  clear hB1
  go_wp2_with fail
  refine cR.mono ?_
  rintro e w3 ⟨k, rfl, hO3, hB3⟩
  have hx3 := (HX.out.1.later HB1.out).later hB3
  have s0 := HX.out.2.2.2.2.1
  have s1 := HB1.out.size
  have s3 := hB3.size
  obtain ⟨X, hX⟩ : ∃ X, setAll w3 w.heap.size 0 (rvL r k) = X := ⟨_, rfl⟩
  have hXc : (((((((((((((((w3.setCell ⟨w.heap.size, 0, none⟩ (.int .i64 r.s.n)).setCell ⟨w.heap.size, 1, none⟩ (.slice k.ua r.s.u.length k.uc)).setCell ⟨w.heap.size, 2, none⟩ (.slice k.la k.es.length k.lc)).setCell ⟨w.heap.size, 3, none⟩ (.int .i64 r.cap)).setCell ⟨w.heap.size, 4, none⟩ (.int .i64 r.shift)).setCell ⟨w.heap.size, 5, none⟩ (.int .i64 r.edge)).setCell ⟨w.heap.size, 6, none⟩ (.int .u32 r.recent)).setCell ⟨w.heap.size, 7, none⟩ (.bool r.stamps)).setCell ⟨w.heap.size, 8, none⟩ (.bool r.sacks)).setCell ⟨w.heap.size, 9, none⟩ (.int .i64 r.fin)).setCell ⟨w.heap.size, 10, none⟩ (.bool r.dn)).setCell ⟨w.heap.size, 11, none⟩ (.slice k.fa r.first.length k.fc)).setCell ⟨w.heap.size, 12, none⟩ (.int .u32 r.irs)).setCell ⟨w.heap.size, 13, none⟩ (.int .u32 r.own)).setCell ⟨w.heap.size, 14, none⟩ (.bool r.stamp)) = X := hX
  have bX : Box X w.heap.size 46 [.int .i64 r.s.n, .slice k.ua r.s.u.length k.uc, .slice k.la k.es.length k.lc, .int .i64 r.cap, .int .i64 r.shift, .int .i64 r.edge, .int .u32 r.recent, .bool r.stamps, .bool r.sacks, .int .i64 r.fin, .bool r.dn, .slice k.fa r.first.length k.fc, .int .u32 r.irs, .int .u32 r.own, .bool r.stamp] := by rw [← hX]; exact hx3.put (rvL r k) rfl
  have bG : Box X (w.heap.size + 1) 28 [.int .i64 s.sp, .int .i64 s.dp, .int .u32 s.sq, .int .u32 s.ak, .int .i64 s.fl, .int .i64 s.wn, .int .i64 s.ur, .int .i64 s.ms, .int .i64 s.sc, .bool s.so, .bool s.st, .int .u32 s.va, .int .u32 s.ec, .slice ks.ka s.sk.length ks.kc, .slice ks.da s.da.length ks.dc] := by rw [← hX]; exact ((HX.out.2.1.later HB1.out).later hB3).putAside _ _ _ (by omega)
  have bZ : Box X (w.heap.size + 2) 46 [.int .i64 0, .slice none 0 0, .slice none 0 0, .int .i64 0, .int .i64 0, .int .i64 0, .int .u32 0, .bool false, .bool false, .int .i64 0, .bool false, .slice none 0 0, .int .u32 0, .int .u32 0, .bool false] := by rw [← hX]; exact ((HX.out.2.2.1.later HB1.out).later hB3).putAside _ _ _ (by omega)
  have bS : Box X (w.heap.size + 3) 28 [.int .i64 0, .int .i64 0, .int .u32 0, .int .u32 0, .int .i64 0, .int .i64 0, .int .i64 0, .int .i64 0, .int .i64 0, .bool false, .bool false, .int .u32 0, .int .u32 0, .slice none 0 0, .slice none 0 0] := by rw [← hX]; exact ((HX.out.2.2.2.1.later HB1.out).later hB3).putAside _ _ _ (by omega)
  have oX : RvOwn X (w.heap.size + 4) r k := by rw [← hX]; exact (hO3.mono (by omega)).aside _ _ _ (by omega)
  have lX : Below w.heap.size w X := by rw [← hX]; exact setAll_below (Nat.le_refl _) (Below.on HX.out.2.2.2.2.2 (Below.on HB1.out hB3))
  have sX : w.heap.size + 4 ≤ X.heap.size := by rw [← hX, setAll_size]; omega
  have HXX : Hid (Box X w.heap.size 46 [.int .i64 r.s.n, .slice k.ua r.s.u.length k.uc, .slice k.la k.es.length k.lc, .int .i64 r.cap, .int .i64 r.shift, .int .i64 r.edge, .int .u32 r.recent, .bool r.stamps, .bool r.sacks, .int .i64 r.fin, .bool r.dn, .slice k.fa r.first.length k.fc, .int .u32 r.irs, .int .u32 r.own, .bool r.stamp] ∧ Box X (w.heap.size + 1) 28 [.int .i64 s.sp, .int .i64 s.dp, .int .u32 s.sq, .int .u32 s.ak, .int .i64 s.fl, .int .i64 s.wn, .int .i64 s.ur, .int .i64 s.ms, .int .i64 s.sc, .bool s.so, .bool s.st, .int .u32 s.va, .int .u32 s.ec, .slice ks.ka s.sk.length ks.kc, .slice ks.da s.da.length ks.dc] ∧ Box X (w.heap.size + 2) 46 [.int .i64 0, .slice none 0 0, .slice none 0 0, .int .i64 0, .int .i64 0, .int .i64 0, .int .u32 0, .bool false, .bool false, .int .i64 0, .bool false, .slice none 0 0, .int .u32 0, .int .u32 0, .bool false] ∧ Box X (w.heap.size + 3) 28 [.int .i64 0, .int .i64 0, .int .u32 0, .int .u32 0, .int .i64 0, .int .i64 0, .int .i64 0, .int .i64 0, .int .i64 0, .bool false, .bool false, .int .u32 0, .int .u32 0, .slice none 0 0, .slice none 0 0] ∧ RvOwn X (w.heap.size + 4) r k ∧ Below w.heap.size w X ∧ w.heap.size + 4 ≤ X.heap.size) := ⟨bX, bG, bZ, bS, oX, lX, sX⟩
  have HXc : Hid ((((((((((((((((w3.setCell ⟨w.heap.size, 0, none⟩ (.int .i64 r.s.n)).setCell ⟨w.heap.size, 1, none⟩ (.slice k.ua r.s.u.length k.uc)).setCell ⟨w.heap.size, 2, none⟩ (.slice k.la k.es.length k.lc)).setCell ⟨w.heap.size, 3, none⟩ (.int .i64 r.cap)).setCell ⟨w.heap.size, 4, none⟩ (.int .i64 r.shift)).setCell ⟨w.heap.size, 5, none⟩ (.int .i64 r.edge)).setCell ⟨w.heap.size, 6, none⟩ (.int .u32 r.recent)).setCell ⟨w.heap.size, 7, none⟩ (.bool r.stamps)).setCell ⟨w.heap.size, 8, none⟩ (.bool r.sacks)).setCell ⟨w.heap.size, 9, none⟩ (.int .i64 r.fin)).setCell ⟨w.heap.size, 10, none⟩ (.bool r.dn)).setCell ⟨w.heap.size, 11, none⟩ (.slice k.fa r.first.length k.fc)).setCell ⟨w.heap.size, 12, none⟩ (.int .u32 r.irs)).setCell ⟨w.heap.size, 13, none⟩ (.int .u32 r.own)).setCell ⟨w.heap.size, 14, none⟩ (.bool r.stamp)) = X) := hXc
  clear c0 c1 c2 c3 c4 c5 c6 c7 c8 c9 c10 c11 c12 c13 c14 cR hO3 hB3 hX hXc bX bG bZ bS oX lX HB1 HX s0 s1 s3 sX
  obtain ⟨c0, c1, c2, c3, c4, c5, c6, c7, c8, c9, c10, c11, c12, c13, c14⟩ := Box.c15 hx3
  obtain ⟨f0, f1, f2, f3, f4, f5, f6, f7, f8, f9, f10, f11, f12, f13, f14⟩ := Box.f15 hx3
  clear hx3
  go_upto_region 5 with fail
  rw [HXc.out]
  clear c0 c1 c2 c3 c4 c5 c6 c7 c8 c9 c10 c11 c12 c13 c14 f0 f1 f2 f3 f4 f5 f6 f7 f8 f9 f10 f11 f12 f13 f14 HXc
  go_cut [26] (fun v26 wx => v26 = .bool false ∧ wx = X)
  case first =>
    have c7 := HXX.out.1.cell 7 rfl
    have c10 := HXX.out.2.1.cell 10 rfl
    rcases (by cases r.stamps <;> simp : r.stamps = true ∨ r.stamps = false) with h1 | h1
    · have h2 : s.st = true := by
        rcases HST.out with h3 | h3
        · rw [h1] at h3; cases h3
        · exact h3
      rw [h1] at c7
      rw [h2] at c10
      clear h1 h2
      go_wp2_with fail
      go_meet
      exact ⟨by simp, rfl⟩
    · rw [h1] at c7
      clear h1
      go_wp2_with fail
      go_meet
      exact ⟨by simp, rfl⟩
  case rest =>
    obtain ⟨rfl, rfl⟩ := hcut
    have cS := isStale_walk r k s ks wc HH.out.1.recent HH.out.2.2.1.va
    have hst : (r.stamps && r.stamp && decide (Pl.dfI r.recent s.va < 0)) = st := HRA.out.2.2
    rw [hst] at cS
    clear hst
    obtain ⟨c0, c1, c2, c3, c4, c5, c6, c7, c8, c9, c10, c11, c12, c13, c14⟩ := Box.c15 HXX.out.1
    obtain ⟨d0, d1, d2, d3, d4, d5, d6, d7, d8, d9, d10, d11, d12, d13, d14⟩ := Box.c15 HXX.out.2.1
    go_wp2_with fail
    refine cS.mono ?_
    rintro e w8 ⟨rfl, hB8⟩
    clear cS c0 c1 c2 c3 c4 c5 c6 c7 c8 c9 c10 c11 c12 c13 c14 d0 d1 d2 d3 d4 d5 d6 d7 d8 d9 d10 d11 d12 d13 d14
    have HB8 : Hid (Below wc.heap.size wc w8) := hB8
    clear hB8
    go_upto_if 34 with fail
    go_cut [9] (fun v9 wx => ∃ (k2 : Hd) (ba : Option Addr) (bc : Nat), v9 = .slice ba bl.length bc ∧ Hid (InAt w wx ra k2 ba bc bl))
    case first =>
      have hb1 := HXX.out.1.later HB8.out
      have hb2 := HXX.out.2.1.later HB8.out
      have hO8 := HXX.out.2.2.2.2.1.later HB8.out
      have hl8 := Below.on HXX.out.2.2.2.2.2.1 HB8.out
      have hs8 := HB8.out.size
      have hsX := HXX.out.2.2.2.2.2.2
      cases st with
      | true =>
        have e1 : r = ra := by simpa using HRA.out.1
        have e2 : r.first = bl := by simpa using HRA.out.2.1
        have HIA : Hid (InAt w w8 ra k k.fa k.fc bl ∧ r.first.length = bl.length) := by
          rw [← e1, ← e2]
          exact ⟨⟨hb1, HXX.out.2.2.1.later HB8.out, HXX.out.2.2.2.1.later HB8.out, hO8, hl8, hO8.fst.sp hO8.frc, by omega⟩, rfl⟩
        clear e1 e2 hb1 hb2 hO8 hl8 hs8 hsX
        go_wp2_with fail
        go_meet
        exact ⟨k, k.fa, k.fc, by rw [HIA.out.2], HIA.out.1⟩
      | false =>
        have e1 : Pl.intoR r (segOf s) = ra := by simpa using HRA.out.1
        have e2 : blkL r (segOf s) = bl := by simpa using HRA.out.2.1
        have cA := accepted_any (w.heap.size + 4) r k s ks w w8 hO8 (hO8.at HH.out.1) HH.out.2.1 HH.out.2.2.1 (by omega) hl8 (by omega) _ rfl ra e1 bl e2
        obtain ⟨c0, c1, c2, c3, c4, c5, c6, c7, c8, c9, c10, c11, c12, c13, c14⟩ := Box.c15 hb1
        obtain ⟨d0, d1, d2, d3, d4, d5, d6, d7, d8, d9, d10, d11, d12, d13, d14⟩ := Box.c15 hb2
        have HBX : Hid (Box w8 w.heap.size 46 (rvL r k) ∧ Box w8 (w.heap.size + 2) 46 [.int .i64 0, .slice none 0 0, .slice none 0 0, .int .i64 0, .int .i64 0, .int .i64 0, .int .u32 0, .bool false, .bool false, .int .i64 0, .bool false, .slice none 0 0, .int .u32 0, .int .u32 0, .bool false] ∧ Box w8 (w.heap.size + 3) 28 [.int .i64 0, .int .i64 0, .int .u32 0, .int .u32 0, .int .i64 0, .int .i64 0, .int .i64 0, .int .i64 0, .int .i64 0, .bool false, .bool false, .int .u32 0, .int .u32 0, .slice none 0 0, .slice none 0 0] ∧ Below w.heap.size w w8 ∧ w.heap.size + 4 ≤ w8.heap.size) := ⟨hb1, HXX.out.2.2.1.later HB8.out, HXX.out.2.2.2.1.later HB8.out, hl8, by omega⟩
        clear e1 e2 hb1 hb2 hO8 hl8 hs8 hsX
        go_wp2_with fail
        refine cA.mono ?_
        rintro e w9 ⟨k5, ba, bc, rfl, hO9, ⟨hS9, hS9l⟩, hK9⟩
        clear cA c0 c1 c2 c3 c4 c5 c6 c7 c8 c9 c10 c11 c12 c13 c14 d0 d1 d2 d3 d4 d5 d6 d7 d8 d9 d10 d11 d12 d13 d14
        have hb9 := HBX.out.1.below hK9.bel (by omega)
        obtain ⟨X9, hX9⟩ : ∃ X9, setAll w9 w.heap.size 0 (rvL ra k5) = X9 := ⟨_, rfl⟩
        have HX9c : Hid ((((((((((((((((w9.setCell ⟨w.heap.size, 0, none⟩ (.int .i64 ra.s.n)).setCell ⟨w.heap.size, 1, none⟩ (.slice k5.ua ra.s.u.length k5.uc)).setCell ⟨w.heap.size, 2, none⟩ (.slice k5.la k5.es.length k5.lc)).setCell ⟨w.heap.size, 3, none⟩ (.int .i64 ra.cap)).setCell ⟨w.heap.size, 4, none⟩ (.int .i64 ra.shift)).setCell ⟨w.heap.size, 5, none⟩ (.int .i64 ra.edge)).setCell ⟨w.heap.size, 6, none⟩ (.int .u32 ra.recent)).setCell ⟨w.heap.size, 7, none⟩ (.bool ra.stamps)).setCell ⟨w.heap.size, 8, none⟩ (.bool ra.sacks)).setCell ⟨w.heap.size, 9, none⟩ (.int .i64 ra.fin)).setCell ⟨w.heap.size, 10, none⟩ (.bool ra.dn)).setCell ⟨w.heap.size, 11, none⟩ (.slice k5.fa ra.first.length k5.fc)).setCell ⟨w.heap.size, 12, none⟩ (.int .u32 ra.irs)).setCell ⟨w.heap.size, 13, none⟩ (.int .u32 ra.own)).setCell ⟨w.heap.size, 14, none⟩ (.bool ra.stamp)) = X9) := hX9
        have HIA : Hid (InAt w X9 ra k5 ba bc bl) := by
          rw [← hX9]
          have h5 := HBX.out.2.2.2.2
          have h6 := hK9.bel.size
          refine ⟨hb9.put _ rfl, (HBX.out.2.1.below hK9.bel (by omega)).putAside _ _ _ (by omega), (HBX.out.2.2.1.below hK9.bel (by omega)).putAside _ _ _ (by omega), hO9.aside _ _ _ (by omega), setAll_below (Nat.le_refl _) (HBX.out.2.2.2.1.trans (hK9.bel.mono (by omega))), (hS9.sp hS9l).setAll _ _ (fun q hq e1 => ?_), by rw [setAll_size]; omega⟩
          have h7 := (owns_lies hS9 hq).2.1
          omega
        obtain ⟨c0, c1, c2, c3, c4, c5, c6, c7, c8, c9, c10, c11, c12, c13, c14⟩ := Box.c15 hb9
        obtain ⟨f0, f1, f2, f3, f4, f5, f6, f7, f8, f9, f10, f11, f12, f13, f14⟩ := Box.f15 hb9
        clear hO9 hS9 hK9 hb9 hX9 HBX
        go_wp2_with fail
        go_meet
        refine ⟨k5, ba, bc, rfl, ?_⟩
        rw [HX9c.out]
        exact HIA.out
    case rest =>
      obtain ⟨k2, ba, bc, rfl, HIA⟩ := hcut
      rename_i hgo
      refine hgo _ _ ?_
      exact input_tail ra k2 ba bc bl w wc _ _ _ _ _ _ _ _ _ _ _ _ _ _ _ _ _ _ _ _ _ _ _ _ _ _ _ _ _ _ _ _ _ _ _ _ _ _ _ _ _ _ _ _ _ HH.out.2.2.2 HIA
end Go.Proofs.Ytdodagpkkjpdiaa
