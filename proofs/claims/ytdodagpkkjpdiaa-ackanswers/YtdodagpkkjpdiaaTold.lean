/- The contract of told: the segment that a receiver sends. -/
import Derived.Test.YtdodagpkkjpdiaaSmall
import Derived.Test.YtdodagpkkjpdiaaOwn
import Derived.Test.YtdodagpkkjpdiaaLast
namespace Go.Proofs.Ytdodagpkkjpdiaa
open Go.ChangeShapes Go.WideShapes Go.ChangeAt Go.RowKit
set_option linter.unusedVariables false
set_option linter.unusedSimpArgs false

/-- The segment that is sent, with blocks of these spans. -/
def blkI (irs : Int) (b : Tm) : Int × Int := (Pl.adI irs b.1, Pl.adI irs b.2)
def sackL (irs : Int) (stamps sacks : Bool) (bl : List Tm) : List (Int × Int) := if sacks = true then (bl.take (if stamps = true then 3 else 4)).map (blkI irs) else []
/-- What stands when some of the segment is laid. -/
structure TellTo (w0 wx : World) (cs : List Value) (p : Nat) (own ak wn : Int) (st : Bool) (ec : Int) (ka : Option Addr) (kn kc : Nat) (sk : List (Int × Int)) : Prop where
  box : Box wx w0.heap.size 46 cs
  zr : Box wx (w0.heap.size + 1) 46 [.int .i64 0, .slice none 0 0, .slice none 0 0, .int .i64 0, .int .i64 0, .int .i64 0, .int .u32 0, .bool false, .bool false, .int .i64 0, .bool false, .slice none 0 0, .int .u32 0, .int .u32 0, .bool false]
  zs : Box wx (w0.heap.size + 2) 28 [.int .i64 0, .int .i64 0, .int .u32 0, .int .u32 0, .int .i64 0, .int .i64 0, .int .i64 0, .int .i64 0, .int .i64 0, .bool false, .bool false, .int .u32 0, .int .u32 0, .slice none 0 0, .slice none 0 0]
  seg : Box wx p 28 [.int .i64 0, .int .i64 0, .int .u32 own, .int .u32 ak, .int .i64 16, .int .i64 wn, .int .i64 0, .int .i64 (-1), .int .i64 (-1), .bool false, .bool st, .int .u32 0, .int .u32 ec, .slice ka kn kc, .slice none 0 0]
  row : RowB wx (w0.heap.size + 3) ka kn kc sk
  ge : w0.heap.size + 3 ≤ p
  bel : Below w0.heap.size w0 wx
theorem TellTo.later {w0 wx wy : World} {cs : List Value} {p : Nat} {own ak wn : Int} {st : Bool} {ec : Int} {ka : Option Addr} {kn kc : Nat} {sk : List (Int × Int)} (h : TellTo w0 wx cs p own ak wn st ec ka kn kc sk) (hb : Below wx.heap.size wx wy) : TellTo w0 wy cs p own ak wn st ec ka kn kc sk :=
  ⟨h.box.later hb, h.zr.later hb, h.zs.later hb, h.seg.later hb, h.row.later hb, h.ge, h.bel.trans (hb.mono h.bel.size)⟩
theorem tell_A {w W0 w2 : World} {cs : List Value} {own ak wn : Int} (hX : Box W0 w.heap.size 46 cs) (hZ : Box W0 (w.heap.size + 1) 46 [.int .i64 0, .slice none 0 0, .slice none 0 0, .int .i64 0, .int .i64 0, .int .i64 0, .int .u32 0, .bool false, .bool false, .int .i64 0, .bool false, .slice none 0 0, .int .u32 0, .int .u32 0, .bool false]) (hS : Box W0 (w.heap.size + 2) 28 [.int .i64 0, .int .i64 0, .int .u32 0, .int .u32 0, .int .i64 0, .int .i64 0, .int .i64 0, .int .i64 0, .int .i64 0, .bool false, .bool false, .int .u32 0, .int .u32 0, .slice none 0 0, .slice none 0 0]) (hs : W0.heap.size = w.heap.size + 3) (b0 : Below w.heap.size w W0) (hb : Below W0.heap.size W0 w2) (hz : Box w2 W0.heap.size 28 [.int .i64 0, .int .i64 0, .int .u32 0, .int .u32 0, .int .i64 0, .int .i64 0, .int .i64 0, .int .i64 0, .int .i64 0, .bool false, .bool false, .int .u32 0, .int .u32 0, .slice none 0 0, .slice none 0 0]) {wx : World} (hwx : wx = setAll w2 W0.heap.size 0 [.int .i64 0, .int .i64 0, .int .u32 own, .int .u32 ak, .int .i64 16, .int .i64 wn, .int .i64 0, .int .i64 (-1), .int .i64 (-1), .bool false, .bool false, .int .u32 0, .int .u32 0, .slice none 0 0, .slice none 0 0]) :
    TellTo w wx cs W0.heap.size own ak wn false 0 none 0 0 [] := by
  subst hwx
  refine ⟨(hX.later hb).putAside _ _ _ (by omega), (hZ.later hb).putAside _ _ _ (by omega), (hS.later hb).putAside _ _ _ (by omega), hz.put _ rfl, RowB.nil _ _, by omega, setAll_below (by omega) (Below.on b0 hb)⟩
theorem tell_B {w W0 w2 : World} {cs : List Value} {own ak wn : Int} (hX : Box W0 w.heap.size 46 cs) (hZ : Box W0 (w.heap.size + 1) 46 [.int .i64 0, .slice none 0 0, .slice none 0 0, .int .i64 0, .int .i64 0, .int .i64 0, .int .u32 0, .bool false, .bool false, .int .i64 0, .bool false, .slice none 0 0, .int .u32 0, .int .u32 0, .bool false]) (hS : Box W0 (w.heap.size + 2) 28 [.int .i64 0, .int .i64 0, .int .u32 0, .int .u32 0, .int .i64 0, .int .i64 0, .int .i64 0, .int .i64 0, .int .i64 0, .bool false, .bool false, .int .u32 0, .int .u32 0, .slice none 0 0, .slice none 0 0]) (hs : W0.heap.size = w.heap.size + 3) (b0 : Below w.heap.size w W0) (hb : Below W0.heap.size W0 w2) {wx : World} (hwx : wx = w2.alloc (.cells ([.int .i64 0, .int .i64 0, .int .u32 own, .int .u32 ak, .int .i64 16, .int .i64 wn, .int .i64 0, .int .i64 (-1), .int .i64 (-1), .bool false, .bool false, .int .u32 0, .int .u32 0, .slice none 0 0, .slice none 0 0] : List Value).toArray 28)) :
    TellTo w wx cs w2.heap.size own ak wn false 0 none 0 0 [] := by
  subst hwx
  refine ⟨(hX.later hb).alloc _, (hZ.later hb).alloc _, (hS.later hb).alloc _, Box.new _ _ _, RowB.nil _ _, by have := hb.size; omega, below_more (Below.on b0 hb) _⟩
/-- A field of the segment stored. -/
theorem TellTo.set {w0 wx : World} {cs : List Value} {p : Nat} {own ak wn : Int} {st : Bool} {ec : Int} {ka : Option Addr} {kn kc : Nat} {sk : List (Int × Int)} (h : TellTo w0 wx cs p own ak wn st ec ka kn kc sk) (ak' : Int) : TellTo w0 (wx.setCell ⟨p, 3, none⟩ (.int .u32 ak')) cs p own ak' wn st ec ka kn kc sk := by
  have hg := h.ge
  exact ⟨h.box.aside _ _ _ (by omega), h.zr.aside _ _ _ (by omega), h.zs.aside _ _ _ (by omega), h.seg.set 3 _, ownsRow_beside h.row h.seg (by decide) _ _, hg, below_set h.bel _ _ _ (by omega)⟩
theorem TellTo.set2 {w0 wx : World} {cs : List Value} {p : Nat} {own ak wn : Int} {st : Bool} {ec : Int} {ka : Option Addr} {kn kc : Nat} {sk : List (Int × Int)} (h : TellTo w0 wx cs p own ak wn st ec ka kn kc sk) (st' : Bool) (ec' : Int) : TellTo w0 ((wx.setCell ⟨p, 10, none⟩ (.bool st')).setCell ⟨p, 12, none⟩ (.int .u32 ec')) cs p own ak wn st' ec' ka kn kc sk := by
  have hg := h.ge
  have h1 : Box (wx.setCell ⟨p, 10, none⟩ (.bool st')) p 28 [.int .i64 0, .int .i64 0, .int .u32 own, .int .u32 ak, .int .i64 16, .int .i64 wn, .int .i64 0, .int .i64 (-1), .int .i64 (-1), .bool false, .bool st', .int .u32 0, .int .u32 ec, .slice ka kn kc, .slice none 0 0] := h.seg.set 10 _
  exact ⟨(h.box.aside _ _ _ (by omega)).aside _ _ _ (by omega), (h.zr.aside _ _ _ (by omega)).aside _ _ _ (by omega), (h.zs.aside _ _ _ (by omega)).aside _ _ _ (by omega), h1.set 12 _, ownsRow_beside (ownsRow_beside h.row h.seg (by decide) _ _) h1 (by decide) _ _, hg, below_set (below_set h.bel _ _ _ (by omega)) _ _ _ (by omega)⟩

theorem TellTo.set3 {w0 wx : World} {cs : List Value} {p : Nat} {own ak wn : Int} {st : Bool} {ec : Int} {ka : Option Addr} {kn kc : Nat} {sk : List (Int × Int)} (h : TellTo w0 wx cs p own ak wn st ec ka kn kc sk) (st' : Bool) (ec' : Int) : TellTo w0 ((wx.setCell ⟨p, 12, none⟩ (.int .u32 ec')).setCell ⟨p, 10, none⟩ (.bool st')) cs p own ak wn st' ec' ka kn kc sk := by
  have hg := h.ge
  have h1 : Box (wx.setCell ⟨p, 12, none⟩ (.int .u32 ec')) p 28 [.int .i64 0, .int .i64 0, .int .u32 own, .int .u32 ak, .int .i64 16, .int .i64 wn, .int .i64 0, .int .i64 (-1), .int .i64 (-1), .bool false, .bool st, .int .u32 0, .int .u32 ec', .slice ka kn kc, .slice none 0 0] := h.seg.set 12 _
  exact ⟨(h.box.aside _ _ _ (by omega)).aside _ _ _ (by omega), (h.zr.aside _ _ _ (by omega)).aside _ _ _ (by omega), (h.zs.aside _ _ _ (by omega)).aside _ _ _ (by omega), h1.set 10 _, ownsRow_beside (ownsRow_beside h.row h.seg (by decide) _ _) h1 (by decide) _ _, hg, below_set (below_set h.bel _ _ _ (by omega)) _ _ _ (by omega)⟩

theorem tell_next {w0 wr Y w2 : World} {cs : List Value} {p : Nat} {own ak wn : Int} {st : Bool} {ec : Int} {ka : Option Addr} {i kc : Nat} {sk : List (Int × Int)} {va : Option Addr} {vc : Nat} {sk' : List (Int × Int)}
    (h : TellTo w0 wr cs p own ak wn st ec ka i kc sk) (hY : Below wr.heap.size wr Y) (hg : Y.grownBy w2 (Value.slice ka i kc).ownBlock) (hR : RowB w2 (w0.heap.size + 3) va (i + 1) vc sk') :
    TellTo w0 (w2.setCell ⟨p, 13, none⟩ (.slice va (i + 1) vc)) cs p own ak wn st ec va (i + 1) vc sk' := by
  have hrow := h.row.later hY
  have hseg := (h.seg.later hY).grown hrow (by decide) hg
  have hge := h.ge
  have hb1 : Below w0.heap.size w0 Y := h.bel.trans (hY.mono h.bel.size)
  have hrow0 : Y.ownsRow w0.heap.size 41 2 (.slice ka i kc) i (bcells sk) := by
    refine ⟨hrow.1, ?_⟩
    rcases hrow.2 with h' | ⟨g, c, cur, e, hB, r⟩
    · exact .inl h'
    · exact .inr ⟨g, c, cur, e, by omega, r⟩
  exact ⟨((h.box.later hY).grown hrow (by decide) hg).aside _ _ _ (by omega), ((h.zr.later hY).grown hrow (by decide) hg).aside _ _ _ (by omega), ((h.zs.later hY).grown hrow (by decide) hg).aside _ _ _ (by omega), hseg.set 13 _, ownsRow_beside hR hseg (by decide) _ _, hge, below_set (below_append hb1 hb1.size hrow0 hg) _ _ _ (by omega)⟩
/-- One block appended, at a step of a region that draws. -/
theorem step_appB {w : World} {ops : Array Oper} {o : Oper} {a : Act} {K : Act → World → Prop} {Q : Exit → Act → World → Prop} {E : Prop} (hgd : o.guard = none) (s x : Operand)
    (ho : o.op = .call { callee := .builtin .append, args := #[s, x], argTypes := #[25, 25] })
    (B : Nat) (va : Option Addr) (n vc : Nat) (xs : List (Int × Int)) (A : Addr) (y : Int × Int) (hs : a.eval s = .slice va n vc) (hx : a.eval x = .slice (some A) 1 1)
    (hO : RowB w B va n vc xs) (hB : B ≤ w.heap.size) (hT : ∀ j u, [Value.int .u32 y.1, Value.int .u32 y.2][j]? = some u → w.cell? (A.add j) = some u) (hb : (n + 1) * 8 ≤ 140737488355328)
    (h : ∀ va' vc' w', RowB w' B va' (n + 1) vc' (xs ++ [y]) → w.grownBy w' (Value.slice va n vc).ownBlock → K (a.put o.dst (.slice va' (n + 1) vc')) w') :
    if Region.wanted o (yielded ops a.tmps) = true then Oper.wp Try.prog o a w K Q else E := by
  have hw : Region.wanted o (yielded ops a.tmps) = true := by simp [Region.wanted, hgd]
  rw [if_pos hw]
  obtain ⟨va', vc', w', hr, h1, h2, h3⟩ := appB_run w B va n vc xs hO hB A y o.type hT hb
  unfold Oper.wp execOp
  simp only [ho, resolve, invoke, builtin, Sem.run_bind, Sem.run_pure, Result.andThen_ok, List.map_toArray, List.map_cons, List.map_nil, hs, hx, hr]
  exact h va' vc' w' h1 h2
theorem cells_newB (w : World) (f t : Int) : ∀ j u, [Value.int .u32 f, Value.int .u32 t][j]? = some u → (w.alloc (.cells #[.int .u32 f, .int .u32 t] 41)).cell? ((⟨w.heap.size, 0, none⟩ : Addr).add j) = some u := cells_new w [.int .u32 f, .int .u32 t] 41

theorem TellTo.setEdge {w0 wx : World} {rn cap shift edge recent fin irs own' : Int} {stamps sacks dn stamp : Bool} {ua la fa : Option Addr} {u uc n lc m fc : Nat} {p : Nat} {own ak wn : Int} {st : Bool} {ec : Int} {ka : Option Addr} {kn kc : Nat} {sk : List (Int × Int)} (eg : Int)
    (h : TellTo w0 wx [.int .i64 rn, .slice ua u uc, .slice la n lc, .int .i64 cap, .int .i64 shift, .int .i64 edge, .int .u32 recent, .bool stamps, .bool sacks, .int .i64 fin, .bool dn, .slice fa m fc, .int .u32 irs, .int .u32 own', .bool stamp] p own ak wn st ec ka kn kc sk) :
    TellTo w0 (wx.setCell ⟨w0.heap.size, 5, none⟩ (.int .i64 eg)) [.int .i64 rn, .slice ua u uc, .slice la n lc, .int .i64 cap, .int .i64 shift, .int .i64 eg, .int .u32 recent, .bool stamps, .bool sacks, .int .i64 fin, .bool dn, .slice fa m fc, .int .u32 irs, .int .u32 own', .bool stamp] p own ak wn st ec ka kn kc sk := by
  have hg := h.ge
  exact ⟨h.box.set 5 _, h.zr.aside _ _ _ (by omega), h.zs.aside _ _ _ (by omega), h.seg.aside _ _ _ (by omega), ownsRow_aside h.row _ _ _ (by omega), hg, below_set h.bel _ _ _ (Nat.le_refl _)⟩

set_option maxRecDepth 100000 in
set_option maxHeartbeats 8000000 in
theorem told_in (rn cap shift edge recent fin irs own : Int) (stamps sacks dn stamp : Bool) (ua : Option Addr) (u uc : Nat) (la : Option Addr) (n lc : Nat) (fa : Option Addr) (m fc : Nat) (ba : Option Addr) (bn bc : Nat) (bl : List Tm) (w : World) (wd wn ak0 : Int)
    (cW : ∀ W, Calls Try.prog 31 #[.agg #[.int .i64 rn, .slice ua u uc, .slice la n lc, .int .i64 cap, .int .i64 shift, .int .i64 edge, .int .u32 recent, .bool stamps, .bool sacks, .int .i64 fin, .bool dn, .slice fa m fc, .int .u32 irs, .int .u32 own, .bool stamp]] W fun e w' => e = .returned (.int .i64 wd) ∧ Below W.heap.size W w')
    (hwn : wd / (2 : Int) ^ shift.toNat = wn) (hwb : 0 ≤ wd ∧ wd ≤ 1073741824) (hnb : 0 ≤ rn ∧ rn ≤ 562949953421312) (hsb : 0 ≤ shift ∧ shift ≤ 14) (he : 0 ≤ edge ∧ edge ≤ 2251799813685248)
    (hb : SpAt w ba bc bl) (hbn : bl.length = bn) (hak0 : Pl.adI irs rn = ak0) (sk : List (Int × Int)) (hsk : sackL irs stamps sacks bl = sk) (L : Nat) (hL : sk.length = L) (ak : Int) (hak : (if dn = true then Pl.adI ak0 1 else ak0) = ak) (ec : Int) (hec : (if stamps = true then recent else 0) = ec) (eg : Int) (heg : Pl.maxJ edge (rn + wd) = eg) :
    Calls Try.prog 36 #[.agg #[.int .i64 rn, .slice ua u uc, .slice la n lc, .int .i64 cap, .int .i64 shift, .int .i64 edge, .int .u32 recent, .bool stamps, .bool sacks, .int .i64 fin, .bool dn, .slice fa m fc, .int .u32 irs, .int .u32 own, .bool stamp], .slice ba bn bc] w fun e w' => ∃ (ka : Option Addr) (kc : Nat), e = .returned (.tuple #[.agg #[.int .i64 rn, .slice ua u uc, .slice la n lc, .int .i64 cap, .int .i64 shift, .int .i64 eg, .int .u32 recent, .bool stamps, .bool sacks, .int .i64 fin, .bool dn, .slice fa m fc, .int .u32 irs, .int .u32 own, .bool stamp], .agg #[.int .i64 0, .int .i64 0, .int .u32 own, .int .u32 ak, .int .i64 16, .int .i64 wn, .int .i64 0, .int .i64 (-1), .int .i64 (-1), .bool false, .bool stamps, .int .u32 0, .int .u32 ec, .slice ka L kc, .slice none 0 0]]) ∧ (RowB w' (w.heap.size + 3) ka L kc sk ∧ sk.length ≤ 4) ∧ Below w.heap.size w w' := by
  have hbr := hb.reach
  have hbcap := hb.cap
  have HSP : Hid (SpAt w ba bc bl ∧ bl.length = bn) := ⟨hb, hbn⟩
  have hX0 := Box.new w 46 [.int .i64 rn, .slice ua u uc, .slice la n lc, .int .i64 cap, .int .i64 shift, .int .i64 edge, .int .u32 recent, .bool stamps, .bool sacks, .int .i64 fin, .bool dn, .slice fa m fc, .int .u32 irs, .int .u32 own, .bool stamp]
  obtain ⟨W0, hW0⟩ : ∃ W0, ((w.alloc (.cells #[.int .i64 rn, .slice ua u uc, .slice la n lc, .int .i64 cap, .int .i64 shift, .int .i64 edge, .int .u32 recent, .bool stamps, .bool sacks, .int .i64 fin, .bool dn, .slice fa m fc, .int .u32 irs, .int .u32 own, .bool stamp] 46)).alloc (.cells #[.int .i64 0, .slice none 0 0, .slice none 0 0, .int .i64 0, .int .i64 0, .int .i64 0, .int .u32 0, .bool false, .bool false, .int .i64 0, .bool false, .slice none 0 0, .int .u32 0, .int .u32 0, .bool false] 46)).alloc (.cells #[.int .i64 0, .int .i64 0, .int .u32 0, .int .u32 0, .int .i64 0, .int .i64 0, .int .i64 0, .int .i64 0, .int .i64 0, .bool false, .bool false, .int .u32 0, .int .u32 0, .slice none 0 0, .slice none 0 0] 28) = W0 := ⟨_, rfl⟩
  have b0 : Below w.heap.size w W0 := by rw [← hW0]; exact below_more (below_more (below_more (Below.refl _ _) _) _) _
  have hX : Box W0 w.heap.size 46 [.int .i64 rn, .slice ua u uc, .slice la n lc, .int .i64 cap, .int .i64 shift, .int .i64 edge, .int .u32 recent, .bool stamps, .bool sacks, .int .i64 fin, .bool dn, .slice fa m fc, .int .u32 irs, .int .u32 own, .bool stamp] := by rw [← hW0]; exact Box.alloc (Box.alloc hX0 _) _
  have hZ : Box W0 (w.heap.size + 1) 46 [.int .i64 0, .slice none 0 0, .slice none 0 0, .int .i64 0, .int .i64 0, .int .i64 0, .int .u32 0, .bool false, .bool false, .int .i64 0, .bool false, .slice none 0 0, .int .u32 0, .int .u32 0, .bool false] := by rw [← hW0]; have := (Box.new (w.alloc (.cells #[.int .i64 rn, .slice ua u uc, .slice la n lc, .int .i64 cap, .int .i64 shift, .int .i64 edge, .int .u32 recent, .bool stamps, .bool sacks, .int .i64 fin, .bool dn, .slice fa m fc, .int .u32 irs, .int .u32 own, .bool stamp] 46)) 46 [.int .i64 0, .slice none 0 0, .slice none 0 0, .int .i64 0, .int .i64 0, .int .i64 0, .int .u32 0, .bool false, .bool false, .int .i64 0, .bool false, .slice none 0 0, .int .u32 0, .int .u32 0, .bool false]).alloc (.cells #[.int .i64 0, .int .i64 0, .int .u32 0, .int .u32 0, .int .i64 0, .int .i64 0, .int .i64 0, .int .i64 0, .int .i64 0, .bool false, .bool false, .int .u32 0, .int .u32 0, .slice none 0 0, .slice none 0 0] 28); rwa [World.size_alloc] at this
  have hZS : Box W0 (w.heap.size + 2) 28 [.int .i64 0, .int .i64 0, .int .u32 0, .int .u32 0, .int .i64 0, .int .i64 0, .int .i64 0, .int .i64 0, .int .i64 0, .bool false, .bool false, .int .u32 0, .int .u32 0, .slice none 0 0, .slice none 0 0] := by rw [← hW0]; have := Box.new ((w.alloc (.cells #[.int .i64 rn, .slice ua u uc, .slice la n lc, .int .i64 cap, .int .i64 shift, .int .i64 edge, .int .u32 recent, .bool stamps, .bool sacks, .int .i64 fin, .bool dn, .slice fa m fc, .int .u32 irs, .int .u32 own, .bool stamp] 46)).alloc (.cells #[.int .i64 0, .slice none 0 0, .slice none 0 0, .int .i64 0, .int .i64 0, .int .i64 0, .int .u32 0, .bool false, .bool false, .int .i64 0, .bool false, .slice none 0 0, .int .u32 0, .int .u32 0, .bool false] 46)) 28 [.int .i64 0, .int .i64 0, .int .u32 0, .int .u32 0, .int .i64 0, .int .i64 0, .int .i64 0, .int .i64 0, .int .i64 0, .bool false, .bool false, .int .u32 0, .int .u32 0, .slice none 0 0, .slice none 0 0]; rwa [World.size_alloc, World.size_alloc] at this
  have hs0 : W0.heap.size = w.heap.size + 3 := by rw [← hW0]; simp
  have HB : Hid (Below w.heap.size w W0 ∧ W0.heap.size = w.heap.size + 3) := ⟨b0, hs0⟩
  rw [hbn] at hbr hbcap
  have cA := fun W => add_walk irs rn W
  have cA1 := fun W => add_walk ak0 1 W
  rw [hak0] at cA
  have HE : Hid (sackL irs stamps sacks bl = sk ∧ sk.length = L ∧ (if dn = true then Pl.adI ak0 1 else ak0) = ak ∧ (if stamps = true then recent else 0) = ec ∧ Pl.maxJ edge (rn + wd) = eg) := ⟨hsk, hL, hak, hec, heg⟩
  have HK : Hid (∀ W, Below W0.heap.size W0 W → W.cell? ⟨w.heap.size, 0, none⟩ = some (.int .i64 rn) ∧ W.cell? ⟨w.heap.size, 1, none⟩ = some (.slice ua u uc) ∧ W.cell? ⟨w.heap.size, 2, none⟩ = some (.slice la n lc) ∧ W.cell? ⟨w.heap.size, 3, none⟩ = some (.int .i64 cap) ∧ W.cell? ⟨w.heap.size, 4, none⟩ = some (.int .i64 shift) ∧ W.cell? ⟨w.heap.size, 5, none⟩ = some (.int .i64 edge) ∧ W.cell? ⟨w.heap.size, 6, none⟩ = some (.int .u32 recent) ∧ W.cell? ⟨w.heap.size, 7, none⟩ = some (.bool stamps) ∧ W.cell? ⟨w.heap.size, 8, none⟩ = some (.bool sacks) ∧ W.cell? ⟨w.heap.size, 9, none⟩ = some (.int .i64 fin) ∧ W.cell? ⟨w.heap.size, 10, none⟩ = some (.bool dn) ∧ W.cell? ⟨w.heap.size, 11, none⟩ = some (.slice fa m fc) ∧ W.cell? ⟨w.heap.size, 12, none⟩ = some (.int .u32 irs) ∧ W.cell? ⟨w.heap.size, 13, none⟩ = some (.int .u32 own) ∧ W.cell? ⟨w.heap.size, 14, none⟩ = some (.bool stamp) ∧ Below W0.heap.size W0 W) := fun W hW => by
    obtain ⟨q0, q1, q2, q3, q4, q5, q6, q7, q8, q9, q10, q11, q12, q13, q14⟩ := Box.c15 (hX.later hW)
    exact ⟨q0, q1, q2, q3, q4, q5, q6, q7, q8, q9, q10, q11, q12, q13, q14, hW⟩
  have HKS : Hid (∀ (W : World) (v0 v1 v2 v3 v4 v5 v6 v7 v8 v9 v10 v11 v12 v13 v14 : Value), Below W0.heap.size W0 W → (((((((((((((((W.setCell ⟨W0.heap.size, 0, none⟩ v0).setCell ⟨W0.heap.size, 1, none⟩ v1).setCell ⟨W0.heap.size, 2, none⟩ v2).setCell ⟨W0.heap.size, 3, none⟩ v3).setCell ⟨W0.heap.size, 4, none⟩ v4).setCell ⟨W0.heap.size, 5, none⟩ v5).setCell ⟨W0.heap.size, 6, none⟩ v6).setCell ⟨W0.heap.size, 7, none⟩ v7).setCell ⟨W0.heap.size, 8, none⟩ v8).setCell ⟨W0.heap.size, 9, none⟩ v9).setCell ⟨W0.heap.size, 10, none⟩ v10).setCell ⟨W0.heap.size, 11, none⟩ v11).setCell ⟨W0.heap.size, 12, none⟩ v12).setCell ⟨W0.heap.size, 13, none⟩ v13).setCell ⟨W0.heap.size, 14, none⟩ v14).cell? ⟨w.heap.size, 0, none⟩ = some (.int .i64 rn) ∧ (((((((((((((((W.setCell ⟨W0.heap.size, 0, none⟩ v0).setCell ⟨W0.heap.size, 1, none⟩ v1).setCell ⟨W0.heap.size, 2, none⟩ v2).setCell ⟨W0.heap.size, 3, none⟩ v3).setCell ⟨W0.heap.size, 4, none⟩ v4).setCell ⟨W0.heap.size, 5, none⟩ v5).setCell ⟨W0.heap.size, 6, none⟩ v6).setCell ⟨W0.heap.size, 7, none⟩ v7).setCell ⟨W0.heap.size, 8, none⟩ v8).setCell ⟨W0.heap.size, 9, none⟩ v9).setCell ⟨W0.heap.size, 10, none⟩ v10).setCell ⟨W0.heap.size, 11, none⟩ v11).setCell ⟨W0.heap.size, 12, none⟩ v12).setCell ⟨W0.heap.size, 13, none⟩ v13).setCell ⟨W0.heap.size, 14, none⟩ v14).cell? ⟨w.heap.size, 1, none⟩ = some (.slice ua u uc) ∧ (((((((((((((((W.setCell ⟨W0.heap.size, 0, none⟩ v0).setCell ⟨W0.heap.size, 1, none⟩ v1).setCell ⟨W0.heap.size, 2, none⟩ v2).setCell ⟨W0.heap.size, 3, none⟩ v3).setCell ⟨W0.heap.size, 4, none⟩ v4).setCell ⟨W0.heap.size, 5, none⟩ v5).setCell ⟨W0.heap.size, 6, none⟩ v6).setCell ⟨W0.heap.size, 7, none⟩ v7).setCell ⟨W0.heap.size, 8, none⟩ v8).setCell ⟨W0.heap.size, 9, none⟩ v9).setCell ⟨W0.heap.size, 10, none⟩ v10).setCell ⟨W0.heap.size, 11, none⟩ v11).setCell ⟨W0.heap.size, 12, none⟩ v12).setCell ⟨W0.heap.size, 13, none⟩ v13).setCell ⟨W0.heap.size, 14, none⟩ v14).cell? ⟨w.heap.size, 2, none⟩ = some (.slice la n lc) ∧ (((((((((((((((W.setCell ⟨W0.heap.size, 0, none⟩ v0).setCell ⟨W0.heap.size, 1, none⟩ v1).setCell ⟨W0.heap.size, 2, none⟩ v2).setCell ⟨W0.heap.size, 3, none⟩ v3).setCell ⟨W0.heap.size, 4, none⟩ v4).setCell ⟨W0.heap.size, 5, none⟩ v5).setCell ⟨W0.heap.size, 6, none⟩ v6).setCell ⟨W0.heap.size, 7, none⟩ v7).setCell ⟨W0.heap.size, 8, none⟩ v8).setCell ⟨W0.heap.size, 9, none⟩ v9).setCell ⟨W0.heap.size, 10, none⟩ v10).setCell ⟨W0.heap.size, 11, none⟩ v11).setCell ⟨W0.heap.size, 12, none⟩ v12).setCell ⟨W0.heap.size, 13, none⟩ v13).setCell ⟨W0.heap.size, 14, none⟩ v14).cell? ⟨w.heap.size, 3, none⟩ = some (.int .i64 cap) ∧ (((((((((((((((W.setCell ⟨W0.heap.size, 0, none⟩ v0).setCell ⟨W0.heap.size, 1, none⟩ v1).setCell ⟨W0.heap.size, 2, none⟩ v2).setCell ⟨W0.heap.size, 3, none⟩ v3).setCell ⟨W0.heap.size, 4, none⟩ v4).setCell ⟨W0.heap.size, 5, none⟩ v5).setCell ⟨W0.heap.size, 6, none⟩ v6).setCell ⟨W0.heap.size, 7, none⟩ v7).setCell ⟨W0.heap.size, 8, none⟩ v8).setCell ⟨W0.heap.size, 9, none⟩ v9).setCell ⟨W0.heap.size, 10, none⟩ v10).setCell ⟨W0.heap.size, 11, none⟩ v11).setCell ⟨W0.heap.size, 12, none⟩ v12).setCell ⟨W0.heap.size, 13, none⟩ v13).setCell ⟨W0.heap.size, 14, none⟩ v14).cell? ⟨w.heap.size, 4, none⟩ = some (.int .i64 shift) ∧ (((((((((((((((W.setCell ⟨W0.heap.size, 0, none⟩ v0).setCell ⟨W0.heap.size, 1, none⟩ v1).setCell ⟨W0.heap.size, 2, none⟩ v2).setCell ⟨W0.heap.size, 3, none⟩ v3).setCell ⟨W0.heap.size, 4, none⟩ v4).setCell ⟨W0.heap.size, 5, none⟩ v5).setCell ⟨W0.heap.size, 6, none⟩ v6).setCell ⟨W0.heap.size, 7, none⟩ v7).setCell ⟨W0.heap.size, 8, none⟩ v8).setCell ⟨W0.heap.size, 9, none⟩ v9).setCell ⟨W0.heap.size, 10, none⟩ v10).setCell ⟨W0.heap.size, 11, none⟩ v11).setCell ⟨W0.heap.size, 12, none⟩ v12).setCell ⟨W0.heap.size, 13, none⟩ v13).setCell ⟨W0.heap.size, 14, none⟩ v14).cell? ⟨w.heap.size, 5, none⟩ = some (.int .i64 edge) ∧ (((((((((((((((W.setCell ⟨W0.heap.size, 0, none⟩ v0).setCell ⟨W0.heap.size, 1, none⟩ v1).setCell ⟨W0.heap.size, 2, none⟩ v2).setCell ⟨W0.heap.size, 3, none⟩ v3).setCell ⟨W0.heap.size, 4, none⟩ v4).setCell ⟨W0.heap.size, 5, none⟩ v5).setCell ⟨W0.heap.size, 6, none⟩ v6).setCell ⟨W0.heap.size, 7, none⟩ v7).setCell ⟨W0.heap.size, 8, none⟩ v8).setCell ⟨W0.heap.size, 9, none⟩ v9).setCell ⟨W0.heap.size, 10, none⟩ v10).setCell ⟨W0.heap.size, 11, none⟩ v11).setCell ⟨W0.heap.size, 12, none⟩ v12).setCell ⟨W0.heap.size, 13, none⟩ v13).setCell ⟨W0.heap.size, 14, none⟩ v14).cell? ⟨w.heap.size, 6, none⟩ = some (.int .u32 recent) ∧ (((((((((((((((W.setCell ⟨W0.heap.size, 0, none⟩ v0).setCell ⟨W0.heap.size, 1, none⟩ v1).setCell ⟨W0.heap.size, 2, none⟩ v2).setCell ⟨W0.heap.size, 3, none⟩ v3).setCell ⟨W0.heap.size, 4, none⟩ v4).setCell ⟨W0.heap.size, 5, none⟩ v5).setCell ⟨W0.heap.size, 6, none⟩ v6).setCell ⟨W0.heap.size, 7, none⟩ v7).setCell ⟨W0.heap.size, 8, none⟩ v8).setCell ⟨W0.heap.size, 9, none⟩ v9).setCell ⟨W0.heap.size, 10, none⟩ v10).setCell ⟨W0.heap.size, 11, none⟩ v11).setCell ⟨W0.heap.size, 12, none⟩ v12).setCell ⟨W0.heap.size, 13, none⟩ v13).setCell ⟨W0.heap.size, 14, none⟩ v14).cell? ⟨w.heap.size, 7, none⟩ = some (.bool stamps) ∧ (((((((((((((((W.setCell ⟨W0.heap.size, 0, none⟩ v0).setCell ⟨W0.heap.size, 1, none⟩ v1).setCell ⟨W0.heap.size, 2, none⟩ v2).setCell ⟨W0.heap.size, 3, none⟩ v3).setCell ⟨W0.heap.size, 4, none⟩ v4).setCell ⟨W0.heap.size, 5, none⟩ v5).setCell ⟨W0.heap.size, 6, none⟩ v6).setCell ⟨W0.heap.size, 7, none⟩ v7).setCell ⟨W0.heap.size, 8, none⟩ v8).setCell ⟨W0.heap.size, 9, none⟩ v9).setCell ⟨W0.heap.size, 10, none⟩ v10).setCell ⟨W0.heap.size, 11, none⟩ v11).setCell ⟨W0.heap.size, 12, none⟩ v12).setCell ⟨W0.heap.size, 13, none⟩ v13).setCell ⟨W0.heap.size, 14, none⟩ v14).cell? ⟨w.heap.size, 8, none⟩ = some (.bool sacks) ∧ (((((((((((((((W.setCell ⟨W0.heap.size, 0, none⟩ v0).setCell ⟨W0.heap.size, 1, none⟩ v1).setCell ⟨W0.heap.size, 2, none⟩ v2).setCell ⟨W0.heap.size, 3, none⟩ v3).setCell ⟨W0.heap.size, 4, none⟩ v4).setCell ⟨W0.heap.size, 5, none⟩ v5).setCell ⟨W0.heap.size, 6, none⟩ v6).setCell ⟨W0.heap.size, 7, none⟩ v7).setCell ⟨W0.heap.size, 8, none⟩ v8).setCell ⟨W0.heap.size, 9, none⟩ v9).setCell ⟨W0.heap.size, 10, none⟩ v10).setCell ⟨W0.heap.size, 11, none⟩ v11).setCell ⟨W0.heap.size, 12, none⟩ v12).setCell ⟨W0.heap.size, 13, none⟩ v13).setCell ⟨W0.heap.size, 14, none⟩ v14).cell? ⟨w.heap.size, 9, none⟩ = some (.int .i64 fin) ∧ (((((((((((((((W.setCell ⟨W0.heap.size, 0, none⟩ v0).setCell ⟨W0.heap.size, 1, none⟩ v1).setCell ⟨W0.heap.size, 2, none⟩ v2).setCell ⟨W0.heap.size, 3, none⟩ v3).setCell ⟨W0.heap.size, 4, none⟩ v4).setCell ⟨W0.heap.size, 5, none⟩ v5).setCell ⟨W0.heap.size, 6, none⟩ v6).setCell ⟨W0.heap.size, 7, none⟩ v7).setCell ⟨W0.heap.size, 8, none⟩ v8).setCell ⟨W0.heap.size, 9, none⟩ v9).setCell ⟨W0.heap.size, 10, none⟩ v10).setCell ⟨W0.heap.size, 11, none⟩ v11).setCell ⟨W0.heap.size, 12, none⟩ v12).setCell ⟨W0.heap.size, 13, none⟩ v13).setCell ⟨W0.heap.size, 14, none⟩ v14).cell? ⟨w.heap.size, 10, none⟩ = some (.bool dn) ∧ (((((((((((((((W.setCell ⟨W0.heap.size, 0, none⟩ v0).setCell ⟨W0.heap.size, 1, none⟩ v1).setCell ⟨W0.heap.size, 2, none⟩ v2).setCell ⟨W0.heap.size, 3, none⟩ v3).setCell ⟨W0.heap.size, 4, none⟩ v4).setCell ⟨W0.heap.size, 5, none⟩ v5).setCell ⟨W0.heap.size, 6, none⟩ v6).setCell ⟨W0.heap.size, 7, none⟩ v7).setCell ⟨W0.heap.size, 8, none⟩ v8).setCell ⟨W0.heap.size, 9, none⟩ v9).setCell ⟨W0.heap.size, 10, none⟩ v10).setCell ⟨W0.heap.size, 11, none⟩ v11).setCell ⟨W0.heap.size, 12, none⟩ v12).setCell ⟨W0.heap.size, 13, none⟩ v13).setCell ⟨W0.heap.size, 14, none⟩ v14).cell? ⟨w.heap.size, 11, none⟩ = some (.slice fa m fc) ∧ (((((((((((((((W.setCell ⟨W0.heap.size, 0, none⟩ v0).setCell ⟨W0.heap.size, 1, none⟩ v1).setCell ⟨W0.heap.size, 2, none⟩ v2).setCell ⟨W0.heap.size, 3, none⟩ v3).setCell ⟨W0.heap.size, 4, none⟩ v4).setCell ⟨W0.heap.size, 5, none⟩ v5).setCell ⟨W0.heap.size, 6, none⟩ v6).setCell ⟨W0.heap.size, 7, none⟩ v7).setCell ⟨W0.heap.size, 8, none⟩ v8).setCell ⟨W0.heap.size, 9, none⟩ v9).setCell ⟨W0.heap.size, 10, none⟩ v10).setCell ⟨W0.heap.size, 11, none⟩ v11).setCell ⟨W0.heap.size, 12, none⟩ v12).setCell ⟨W0.heap.size, 13, none⟩ v13).setCell ⟨W0.heap.size, 14, none⟩ v14).cell? ⟨w.heap.size, 12, none⟩ = some (.int .u32 irs) ∧ (((((((((((((((W.setCell ⟨W0.heap.size, 0, none⟩ v0).setCell ⟨W0.heap.size, 1, none⟩ v1).setCell ⟨W0.heap.size, 2, none⟩ v2).setCell ⟨W0.heap.size, 3, none⟩ v3).setCell ⟨W0.heap.size, 4, none⟩ v4).setCell ⟨W0.heap.size, 5, none⟩ v5).setCell ⟨W0.heap.size, 6, none⟩ v6).setCell ⟨W0.heap.size, 7, none⟩ v7).setCell ⟨W0.heap.size, 8, none⟩ v8).setCell ⟨W0.heap.size, 9, none⟩ v9).setCell ⟨W0.heap.size, 10, none⟩ v10).setCell ⟨W0.heap.size, 11, none⟩ v11).setCell ⟨W0.heap.size, 12, none⟩ v12).setCell ⟨W0.heap.size, 13, none⟩ v13).setCell ⟨W0.heap.size, 14, none⟩ v14).cell? ⟨w.heap.size, 13, none⟩ = some (.int .u32 own) ∧ (((((((((((((((W.setCell ⟨W0.heap.size, 0, none⟩ v0).setCell ⟨W0.heap.size, 1, none⟩ v1).setCell ⟨W0.heap.size, 2, none⟩ v2).setCell ⟨W0.heap.size, 3, none⟩ v3).setCell ⟨W0.heap.size, 4, none⟩ v4).setCell ⟨W0.heap.size, 5, none⟩ v5).setCell ⟨W0.heap.size, 6, none⟩ v6).setCell ⟨W0.heap.size, 7, none⟩ v7).setCell ⟨W0.heap.size, 8, none⟩ v8).setCell ⟨W0.heap.size, 9, none⟩ v9).setCell ⟨W0.heap.size, 10, none⟩ v10).setCell ⟨W0.heap.size, 11, none⟩ v11).setCell ⟨W0.heap.size, 12, none⟩ v12).setCell ⟨W0.heap.size, 13, none⟩ v13).setCell ⟨W0.heap.size, 14, none⟩ v14).cell? ⟨w.heap.size, 14, none⟩ = some (.bool stamp) ∧ Below W0.heap.size W0 (((((((((((((((W.setCell ⟨W0.heap.size, 0, none⟩ v0).setCell ⟨W0.heap.size, 1, none⟩ v1).setCell ⟨W0.heap.size, 2, none⟩ v2).setCell ⟨W0.heap.size, 3, none⟩ v3).setCell ⟨W0.heap.size, 4, none⟩ v4).setCell ⟨W0.heap.size, 5, none⟩ v5).setCell ⟨W0.heap.size, 6, none⟩ v6).setCell ⟨W0.heap.size, 7, none⟩ v7).setCell ⟨W0.heap.size, 8, none⟩ v8).setCell ⟨W0.heap.size, 9, none⟩ v9).setCell ⟨W0.heap.size, 10, none⟩ v10).setCell ⟨W0.heap.size, 11, none⟩ v11).setCell ⟨W0.heap.size, 12, none⟩ v12).setCell ⟨W0.heap.size, 13, none⟩ v13).setCell ⟨W0.heap.size, 14, none⟩ v14)) := fun W v0 v1 v2 v3 v4 v5 v6 v7 v8 v9 v10 v11 v12 v13 v14 hW => HK.out _ (setAll_below (vs := [v0, v1, v2, v3, v4, v5, v6, v7, v8, v9, v10, v11, v12, v13, v14]) (i := 0) (Nat.le_refl _) hW)
  have HX : Hid (Box W0 w.heap.size 46 [.int .i64 rn, .slice ua u uc, .slice la n lc, .int .i64 cap, .int .i64 shift, .int .i64 edge, .int .u32 recent, .bool stamps, .bool sacks, .int .i64 fin, .bool dn, .slice fa m fc, .int .u32 irs, .int .u32 own, .bool stamp] ∧ Box W0 (w.heap.size + 1) 46 [.int .i64 0, .slice none 0 0, .slice none 0 0, .int .i64 0, .int .i64 0, .int .i64 0, .int .u32 0, .bool false, .bool false, .int .i64 0, .bool false, .slice none 0 0, .int .u32 0, .int .u32 0, .bool false] ∧ Box W0 (w.heap.size + 2) 28 [.int .i64 0, .int .i64 0, .int .u32 0, .int .u32 0, .int .i64 0, .int .i64 0, .int .i64 0, .int .i64 0, .int .i64 0, .bool false, .bool false, .int .u32 0, .int .u32 0, .slice none 0 0, .slice none 0 0]) := ⟨hX, hZ, hZS⟩
  have hshr : IntKind.i64.wrap wn = wn := by
    have h2 := Pl.two_pos shift.toNat
    have h3 : 0 ≤ wn := by rw [← hwn]; exact Int.ediv_nonneg hwb.1 (by omega)
    have h4 : wn ≤ wd := by
      rw [← hwn]
      exact Int.ediv_le_self _ hwb.1
    rw [IntKind.wrap_i64]; omega
  obtain ⟨c0, c1, c2, c3, c4, c5, c6, c7, c8, c9, c10, c11, c12, c13, c14, _⟩ := HK.out W0 (Below.refl _ _)
  clear hb hX0 b0 hX hZ hZS hs0 hbn hak0 hsk hL hak hec heg
  go_enter Try.func36, Try.ntmps36
  go_upto_region 1 with fail
  clear c0 c1 c2 c3 c4 c5 c6 c7 c8 c9 c10 c11 c12 c13 c14 hW0
  go_cut [6] (fun v6 wx => ∃ p : Nat, v6 = .pointer (some ⟨p, 0, none⟩) ∧ Hid (TellTo w wx [.int .i64 rn, .slice ua u uc, .slice la n lc, .int .i64 cap, .int .i64 shift, .int .i64 edge, .int .u32 recent, .bool stamps, .bool sacks, .int .i64 fin, .bool dn, .slice fa m fc, .int .u32 irs, .int .u32 own, .bool stamp] p own ak0 wn false 0 none 0 0 []))
  case first =>
    go_region_held3 (fun W => W.cell? ⟨w.heap.size, 0, none⟩ = some (.int .i64 rn) ∧ W.cell? ⟨w.heap.size, 1, none⟩ = some (.slice ua u uc) ∧ W.cell? ⟨w.heap.size, 2, none⟩ = some (.slice la n lc) ∧ W.cell? ⟨w.heap.size, 3, none⟩ = some (.int .i64 cap) ∧ W.cell? ⟨w.heap.size, 4, none⟩ = some (.int .i64 shift) ∧ W.cell? ⟨w.heap.size, 5, none⟩ = some (.int .i64 edge) ∧ W.cell? ⟨w.heap.size, 6, none⟩ = some (.int .u32 recent) ∧ W.cell? ⟨w.heap.size, 7, none⟩ = some (.bool stamps) ∧ W.cell? ⟨w.heap.size, 8, none⟩ = some (.bool sacks) ∧ W.cell? ⟨w.heap.size, 9, none⟩ = some (.int .i64 fin) ∧ W.cell? ⟨w.heap.size, 10, none⟩ = some (.bool dn) ∧ W.cell? ⟨w.heap.size, 11, none⟩ = some (.slice fa m fc) ∧ W.cell? ⟨w.heap.size, 12, none⟩ = some (.int .u32 irs) ∧ W.cell? ⟨w.heap.size, 13, none⟩ = some (.int .u32 own) ∧ W.cell? ⟨w.heap.size, 14, none⟩ = some (.bool stamp) ∧ Below W0.heap.size W0 W)
      (first | with_reducible exact HKS.out _ _ _ _ _ _ _ _ _ _ _ _ _ _ _ _ (by repeat (first | with_reducible exact Below.refl _ _ | with_reducible assumption | with_reducible refine Below.drew ?_ | with_reducible refine below_drewN ?_ _ | with_reducible refine below_more ?_ _)) | exact HK.out _ (by repeat (first | with_reducible exact Below.refl _ _ | with_reducible assumption | with_reducible refine Below.drew ?_ | with_reducible refine below_drewN ?_ _ | with_reducible refine below_more ?_ _)))
      (first
        | (go_at_call 55; refine (cA _).mono ?_; rintro e w1 ⟨rfl, hw1⟩; obtain rfl := hw1.symm)
        | (go_at_call 31; refine (cW _).mono ?_; rintro e w2 ⟨rfl, hB2⟩; have hb2 : Below W0.heap.size W0 w2 := Below.on (by repeat (first | with_reducible exact Below.refl _ _ | with_reducible assumption | with_reducible refine Below.drew ?_ | with_reducible refine below_drewN ?_ _ | with_reducible refine below_more ?_ _)) hB2; (try (have hz0 := Box.later (g := W0.heap.size) (t := 28) (cs := [.int .i64 0, .int .i64 0, .int .u32 0, .int .u32 0, .int .i64 0, .int .i64 0, .int .i64 0, .int .i64 0, .int .i64 0, .bool false, .bool false, .int .u32 0, .int .u32 0, .slice none 0 0, .slice none 0 0]) (by exact Box.new _ _ _) hB2; obtain ⟨d0, d1, d2, d3, d4, d5, d6, d7, d8, d9, d10, d11, d12, d13, d14⟩ := Box.c15 hz0; obtain ⟨f0, f1, f2, f3, f4, f5, f6, f7, f8, f9, f10, f11, f12, f13, f14⟩ := Box.f15 hz0))))
    all_goals go_wp2_with fail
    all_goals go_meet
    all_goals first
      | exact ⟨_, rfl, tell_A HX.out.1 HX.out.2.1 HX.out.2.2 HB.out.2 HB.out.1 hb2 hz0 rfl⟩
      | exact ⟨_, rfl, tell_B HX.out.1 HX.out.2.1 HX.out.2.2 HB.out.2 HB.out.1 hb2 rfl⟩
  case rest =>
    obtain ⟨p, rfl, HT⟩ := hcut
    clear HK HKS HX
    obtain ⟨c0, c1, c2, c3, c4, c5, c6, c7, c8, c9, c10, c11, c12, c13, c14⟩ := Box.c15 HT.out.box
    go_upto_if 24 with fail
    clear c0 c1 c2 c3 c4 c5 c6 c7 c8 c9 c10 c11 c12 c13 c14
    go_cut [] (fun wx => Hid (TellTo w wx [.int .i64 rn, .slice ua u uc, .slice la n lc, .int .i64 cap, .int .i64 shift, .int .i64 edge, .int .u32 recent, .bool stamps, .bool sacks, .int .i64 fin, .bool dn, .slice fa m fc, .int .u32 irs, .int .u32 own, .bool stamp] p own ak wn false 0 none 0 0 []))
    case first =>
      obtain ⟨c0, c1, c2, c3, c4, c5, c6, c7, c8, c9, c10, c11, c12, c13, c14⟩ := Box.c15 HT.out.seg
      have f3 := HT.out.seg.frozen 3
      have hak := HE.out.2.2.1
      cases dn with
      | true =>
        have e1 : Pl.adI ak0 1 = ak := by simpa using hak
        clear hak
        rw [e1] at cA1
        go_wp2_with (go_at_call 55; refine (cA1 _).mono ?_; rintro e w1 ⟨rfl, hw1⟩; obtain rfl := hw1.symm)
        go_meet
        exact HT.out.set ak
      | false =>
        have e1 : ak0 = ak := by simpa using hak
        clear hak
        go_wp2_with fail
        go_meet
        exact e1 ▸ HT.out
    case rest =>
      clear HT cA1 cA
      have HT : Hid (TellTo w wc [.int .i64 rn, .slice ua u uc, .slice la n lc, .int .i64 cap, .int .i64 shift, .int .i64 edge, .int .u32 recent, .bool stamps, .bool sacks, .int .i64 fin, .bool dn, .slice fa m fc, .int .u32 irs, .int .u32 own, .bool stamp] p own ak wn false 0 none 0 0 []) := hcut
      clear hcut
      obtain ⟨c0, c1, c2, c3, c4, c5, c6, c7, c8, c9, c10, c11, c12, c13, c14⟩ := Box.c15 HT.out.box
      go_upto_if 30 with fail
      clear c0 c1 c2 c3 c4 c5 c6 c7 c8 c9 c10 c11 c12 c13 c14
      obtain ⟨room, hroom⟩ : ∃ room : Nat, (if stamps = true then 3 else 4) = room := ⟨_, rfl⟩
      have HR : Hid ((if stamps = true then 3 else 4) = room) := hroom
      have hroom2 : room = 3 ∨ room = 4 := by rw [← hroom]; split <;> simp
      clear hroom
      go_cut [7] (fun v7 wx => v7 = .int .i64 (room : Int) ∧ Hid (TellTo w wx [.int .i64 rn, .slice ua u uc, .slice la n lc, .int .i64 cap, .int .i64 shift, .int .i64 edge, .int .u32 recent, .bool stamps, .bool sacks, .int .i64 fin, .bool dn, .slice fa m fc, .int .u32 irs, .int .u32 own, .bool stamp] p own ak wn stamps ec none 0 0 []))
      case first =>
        obtain ⟨c0, c1, c2, c3, c4, c5, c6, c7, c8, c9, c10, c11, c12, c13, c14⟩ := Box.c15 HT.out.box
        obtain ⟨d0, d1, d2, d3, d4, d5, d6, d7, d8, d9, d10, d11, d12, d13, d14⟩ := Box.c15 HT.out.seg
        have f10 := HT.out.seg.frozen 10
        have f12 := HT.out.seg.frozen 12
        have hec := HE.out.2.2.2.1
        have hrm := HR.out
        cases stamps with
        | true =>
          have e1 : recent = ec := by simpa using hec
          have e2 : 3 = room := by simpa using hrm
          clear hec hrm
          have HTX : Hid (∀ W, Below wc.heap.size wc W → TellTo w ((W.setCell ⟨p, 10, none⟩ (.bool true)).setCell ⟨p, 12, none⟩ (.int .u32 recent)) [.int .i64 rn, .slice ua u uc, .slice la n lc, .int .i64 cap, .int .i64 shift, .int .i64 edge, .int .u32 recent, .bool true, .bool sacks, .int .i64 fin, .bool dn, .slice fa m fc, .int .u32 irs, .int .u32 own, .bool stamp] p own ak wn true ec none 0 0 []) := fun W hW => by
            have := (HT.out.later hW).set2 true recent
            rw [e1] at this ⊢
            exact this
          have HTY : Hid (∀ W, Below wc.heap.size wc W → TellTo w ((W.setCell ⟨p, 12, none⟩ (.int .u32 recent)).setCell ⟨p, 10, none⟩ (.bool true)) [.int .i64 rn, .slice ua u uc, .slice la n lc, .int .i64 cap, .int .i64 shift, .int .i64 edge, .int .u32 recent, .bool true, .bool sacks, .int .i64 fin, .bool dn, .slice fa m fc, .int .u32 irs, .int .u32 own, .bool stamp] p own ak wn true ec none 0 0 []) := fun W hW => by
            have := (HT.out.later hW).set3 true recent
            rw [e1] at this ⊢
            exact this
          have HE2 : Hid (3 = room) := e2
          clear e1 e2 hroom2
          go_wp2_with fail
          go_region
          all_goals go_wp2_with fail
          all_goals go_meet
          all_goals refine ⟨by rw [← HE2.out]; rfl, ?_⟩
          all_goals first
            | exact (HTX.out wc (Below.refl _ _)).later (Below.drew (Below.refl _ _))
            | exact (HTY.out wc (Below.refl _ _)).later (Below.drew (Below.refl _ _))
        | false =>
          have e1 : 0 = ec := by simpa using hec
          have e2 : 4 = room := by simpa using hrm
          clear hec hrm hroom2
          go_wp2_with fail
          go_meet
          subst e1; subst e2
          exact ⟨rfl, HT.out⟩
      case rest =>
        clear HT
        obtain ⟨rfl, HT⟩ := hcut
        obtain ⟨c0, c1, c2, c3, c4, c5, c6, c7, c8, c9, c10, c11, c12, c13, c14⟩ := Box.c15 HT.out.box
        go_upto_if 38 with fail
        clear c0 c1 c2 c3 c4 c5 c6 c7 c8 c9 c10 c11 c12 c13 c14
        go_cut [] (fun wx => ∃ (ka : Option Addr) (kc : Nat), Hid (TellTo w wx [.int .i64 rn, .slice ua u uc, .slice la n lc, .int .i64 cap, .int .i64 shift, .int .i64 edge, .int .u32 recent, .bool stamps, .bool sacks, .int .i64 fin, .bool dn, .slice fa m fc, .int .u32 irs, .int .u32 own, .bool stamp] p own ak wn stamps ec ka L kc sk))
        case first =>
          have hsk := HE.out.1
          cases sacks with
          | false =>
            have e1 : [] = sk := by simpa [sackL] using hsk
            have e2 : 0 = L := by rw [← HE.out.2.1, ← e1]; rfl
            clear hsk
            go_wp2_with fail
            go_meet
            subst e1; subst e2
            exact ⟨none, 0, HT⟩
          | true =>
            obtain ⟨q, hq⟩ : ∃ q : Nat, min room bn = q := ⟨_, rfl⟩
            have hqm : (if (bn : Int) < (room : Int) then (bn : Int) else (room : Int)) = (q : Int) := by rw [← hq]; split <;> omega
            have hqm2 : (if bn < room then (bn : Int) else (room : Int)) = (q : Int) := by rw [← hq]; split <;> omega
            have hqb : q ≤ bn ∧ q ≤ room := by omega
            have hsl := sl_upto ba bn bc q (q : Int) rfl (by omega)
            have HS : Hid ((bl.take q).map (blkI irs) = sk ∧ q = L) := by
              have h1 : (bl.take room).map (blkI irs) = sk := by
                have := hsk
                unfold sackL at this
                rw [if_pos rfl, HR.out] at this
                exact this
              have h2 : bl.take q = bl.take room := by
                rw [← hq]
                rcases Nat.lt_or_ge room bn with h | h
                · rw [Nat.min_eq_left (by omega)]
                · rw [Nat.min_eq_right h, List.take_of_length_le (by rw [HSP.out.2]; exact Nat.le_refl _), List.take_of_length_le (by rw [HSP.out.2]; exact h)]
              refine ⟨by rw [h2]; exact h1, ?_⟩
              rw [← HE.out.2.1, ← h1, List.length_map, List.length_take, HSP.out.2, ← hq]
            clear hsk hq
            go_wp2_with fail
            go_loopw [46] (fun vi wx => ∃ (i : Nat) (ka : Option Addr) (kc : Nat), vi = .int .i64 i ∧ i ≤ q ∧ Hid (TellTo w wx [.int .i64 rn, .slice ua u uc, .slice la n lc, .int .i64 cap, .int .i64 shift, .int .i64 edge, .int .u32 recent, .bool stamps, .bool true, .int .i64 fin, .bool dn, .slice fa m fc, .int .u32 irs, .int .u32 own, .bool stamp] p own ak wn stamps ec ka i kc ((bl.take i).map (blkI irs))))
              (fun vi _ => q - (intOf vi).toNat)
            case atStart => exact ⟨0, none, 0, rfl, Nat.zero_le _, HT.out⟩
            case round =>
              obtain ⟨i, ka, kc, rfl, hiq, HI⟩ := hrel
              by_cases hlt : i < q
              · obtain ⟨b, o, rfl, hc0, hc1⟩ := (HSP.out.1.tims.later HI.out.bel).2 i (by rw [HSP.out.2]; omega)
                obtain ⟨x, hx⟩ : ∃ x, bl[i]?.getD (0, 0) = x := ⟨_, rfl⟩
                rw [hx] at hc0 hc1
                have HX : Hid (bl[i]?.getD (0, 0) = x) := hx
                have hii : (i : Int) < (q : Int) := by omega
                clear hx
                go_wp2_with fail
                clear hc0 hc1
                have HXB : Hid (Box (wr.alloc (.cells #[.int .i64 x.1, .int .i64 x.2] 39)) wr.heap.size 39 [.int .i64 x.1, .int .i64 x.2] ∧ Below wr.heap.size wr (wr.alloc (.cells #[.int .i64 x.1, .int .i64 x.2] 39))) := ⟨Box.new _ _ _, below_more (Below.refl _ _) _⟩
                obtain ⟨X, hX⟩ : ∃ X, wr.alloc (.cells #[.int .i64 x.1, .int .i64 x.2] 39) = X := ⟨_, rfl⟩
                rw [hX] at HXB ⊢
                clear hX
                obtain ⟨S, hS⟩ : ∃ S : World → Prop, S = fun W => W.cell? ⟨p, 13, none⟩ = some (.slice ka i kc) ∧ W.cell? ⟨w.heap.size, 12, none⟩ = some (.int .u32 irs) ∧ W.cell? ⟨wr.heap.size, 0, none⟩ = some (.int .i64 x.1) ∧ W.cell? ⟨wr.heap.size, 1, none⟩ = some (.int .i64 x.2) := ⟨_, rfl⟩
                have HSK : Hid (∀ W, Below X.heap.size X W → S W) := fun W hW => by
                  have hwr := Below.on HXB.out.2 hW
                  rw [hS]
                  exact ⟨(HI.out.seg.later hwr).cell 13 rfl, (HI.out.box.later hwr).cell 12 rfl, (HXB.out.1.later hW).cell 0 rfl, (HXB.out.1.later hW).cell 1 rfl⟩
                obtain ⟨f1, hf1⟩ : ∃ f1, Pl.adI irs x.1 = f1 := ⟨_, rfl⟩
                obtain ⟨t1, ht1⟩ : ∃ t1, Pl.adI irs x.2 = t1 := ⟨_, rfl⟩
                have cF := fun W => add_walk irs x.1 W
                have cT := fun W => add_walk irs x.2 W
                rw [hf1] at cF
                rw [ht1] at cT
                have HFT : Hid (Pl.adI irs x.1 = f1 ∧ Pl.adI irs x.2 = t1) := ⟨hf1, ht1⟩
                clear hf1 ht1
                have y0 : ∀ {ps : String} (ev : Operand → Value), ev (.tmp 6) = .pointer (some ⟨p, 0, none⟩) → ∀ W, S W → (execOp ev { dst := some 50, op := Go.Op.fieldAddr 28 (Go.Operand.tmp 6) 13, type := 0, pos := ps, after := #[], guard := none }).run Try.prog W = .ok (.value (.pointer (some ⟨p, 13, none⟩))) W := by
                  intro ps ev h0 W hSw
                  rw [hS] at hSw
                  try dsimp only at hSw
                  first | (go_simp; done) | (go_simp; with_reducible rfl)
                have y1 : ∀ {ps : String} (ev : Operand → Value), ev (.tmp 50) = .pointer (some ⟨p, 13, none⟩) → ∀ W, S W → (execOp ev { dst := some 51, op := Go.Op.load 25 (Go.Operand.tmp 50), type := 25, pos := ps, after := #[{ on := 0, ground := Go.Ground.data }], guard := none }).run Try.prog W = .ok (.value (.slice ka i kc)) W := by
                  intro ps ev h0 W hSw
                  rw [hS] at hSw
                  try dsimp only at hSw
                  first | (go_simp; done) | (go_simp; with_reducible rfl)
                have y2 : ∀ {ps : String} (ev : Operand → Value), ev (.tmp 2) = .pointer (some ⟨w.heap.size, 0, none⟩) → ∀ W, S W → (execOp ev { dst := some 52, op := Go.Op.fieldAddr 46 (Go.Operand.tmp 2) 12, type := 0, pos := ps, after := #[], guard := none }).run Try.prog W = .ok (.value (.pointer (some ⟨w.heap.size, 12, none⟩))) W := by
                  intro ps ev h0 W hSw
                  rw [hS] at hSw
                  try dsimp only at hSw
                  first | (go_simp; done) | (go_simp; with_reducible rfl)
                have y3 : ∀ {ps : String} (ev : Operand → Value), ev (.tmp 52) = .pointer (some ⟨w.heap.size, 12, none⟩) → ∀ W, S W → (execOp ev { dst := some 53, op := Go.Op.load 22 (Go.Operand.tmp 52), type := 22, pos := ps, after := #[{ on := 2, ground := Go.Ground.data }], guard := none }).run Try.prog W = .ok (.value (.int .u32 irs)) W := by
                  intro ps ev h0 W hSw
                  rw [hS] at hSw
                  try dsimp only at hSw
                  first | (go_simp; done) | (go_simp; with_reducible rfl)
                have y4 : ∀ {ps : String} (ev : Operand → Value), ev (.tmp 9) = .pointer (some ⟨wr.heap.size, 0, none⟩) → ∀ W, S W → (execOp ev { dst := some 54, op := Go.Op.fieldAddr 39 (Go.Operand.tmp 9) 0, type := 0, pos := ps, after := #[], guard := none }).run Try.prog W = .ok (.value (.pointer (some ⟨wr.heap.size, 0, none⟩))) W := by
                  intro ps ev h0 W hSw
                  rw [hS] at hSw
                  try dsimp only at hSw
                  first | (go_simp; done) | (go_simp; with_reducible rfl)
                have y5 : ∀ {ps : String} (ev : Operand → Value), ev (.tmp 54) = .pointer (some ⟨wr.heap.size, 0, none⟩) → ∀ W, S W → (execOp ev { dst := some 55, op := Go.Op.load 3 (Go.Operand.tmp 54), type := 3, pos := ps, after := #[{ on := 4, ground := Go.Ground.data }], guard := none }).run Try.prog W = .ok (.value (.int .i64 x.1)) W := by
                  intro ps ev h0 W hSw
                  rw [hS] at hSw
                  try dsimp only at hSw
                  first | (go_simp; done) | (go_simp; with_reducible rfl)
                have y7 : ∀ {ps : String} (ev : Operand → Value), ev (.tmp 2) = .pointer (some ⟨w.heap.size, 0, none⟩) → ∀ W, S W → (execOp ev { dst := some 57, op := Go.Op.fieldAddr 46 (Go.Operand.tmp 2) 12, type := 0, pos := ps, after := #[], guard := none }).run Try.prog W = .ok (.value (.pointer (some ⟨w.heap.size, 12, none⟩))) W := by
                  intro ps ev h0 W hSw
                  rw [hS] at hSw
                  try dsimp only at hSw
                  first | (go_simp; done) | (go_simp; with_reducible rfl)
                have y8 : ∀ {ps : String} (ev : Operand → Value), ev (.tmp 57) = .pointer (some ⟨w.heap.size, 12, none⟩) → ∀ W, S W → (execOp ev { dst := some 58, op := Go.Op.load 22 (Go.Operand.tmp 57), type := 22, pos := ps, after := #[{ on := 7, ground := Go.Ground.data }], guard := none }).run Try.prog W = .ok (.value (.int .u32 irs)) W := by
                  intro ps ev h0 W hSw
                  rw [hS] at hSw
                  try dsimp only at hSw
                  first | (go_simp; done) | (go_simp; with_reducible rfl)
                have y9 : ∀ {ps : String} (ev : Operand → Value), ev (.tmp 9) = .pointer (some ⟨wr.heap.size, 0, none⟩) → ∀ W, S W → (execOp ev { dst := some 59, op := Go.Op.fieldAddr 39 (Go.Operand.tmp 9) 1, type := 0, pos := ps, after := #[], guard := none }).run Try.prog W = .ok (.value (.pointer (some ⟨wr.heap.size, 1, none⟩))) W := by
                  intro ps ev h0 W hSw
                  rw [hS] at hSw
                  try dsimp only at hSw
                  first | (go_simp; done) | (go_simp; with_reducible rfl)
                have y10 : ∀ {ps : String} (ev : Operand → Value), ev (.tmp 59) = .pointer (some ⟨wr.heap.size, 1, none⟩) → ∀ W, S W → (execOp ev { dst := some 60, op := Go.Op.load 3 (Go.Operand.tmp 59), type := 3, pos := ps, after := #[{ on := 9, ground := Go.Ground.data }], guard := none }).run Try.prog W = .ok (.value (.int .i64 x.2)) W := by
                  intro ps ev h0 W hSw
                  rw [hS] at hSw
                  try dsimp only at hSw
                  first | (go_simp; done) | (go_simp; with_reducible rfl)
                have y12 : ∀ {ps : String} (ev : Operand → Value), ev (.tmp 56) = .int .u32 f1 → ev (.tmp 61) = .int .u32 t1 → ∀ W, S W → (execOp ev { dst := some 62, op := Go.Op.build 41 #[(0, Go.Operand.tmp 56), (1, Go.Operand.tmp 61)], type := 41, pos := ps, after := #[{ on := 6, ground := Go.Ground.data }, { on := 11, ground := Go.Ground.data }], guard := none }).run Try.prog W = .ok (.value (.agg #[.int .u32 f1, .int .u32 t1])) W := by
                  intro ps ev h0 h1 W hSw
                  rw [hS] at hSw
                  try dsimp only at hSw
                  first | (go_simp; done) | (go_simp; with_reducible rfl)
                have y15 : ∀ {ps : String} (ev : Operand → Value), ev (.tmp 6) = .pointer (some ⟨p, 0, none⟩) → ∀ W, S W → (execOp ev { dst := some 65, op := Go.Op.fieldAddr 28 (Go.Operand.tmp 6) 13, type := 0, pos := ps, after := #[{ on := 0, ground := Go.Ground.phase }, { on := 1, ground := Go.Ground.phase }, { on := 2, ground := Go.Ground.phase }, { on := 3, ground := Go.Ground.phase }, { on := 4, ground := Go.Ground.phase }, { on := 5, ground := Go.Ground.phase }, { on := 6, ground := Go.Ground.phase }, { on := 7, ground := Go.Ground.phase }, { on := 8, ground := Go.Ground.phase }, { on := 9, ground := Go.Ground.phase }, { on := 10, ground := Go.Ground.phase }, { on := 11, ground := Go.Ground.phase }, { on := 12, ground := Go.Ground.phase }, { on := 13, ground := Go.Ground.phase }, { on := 14, ground := Go.Ground.phase }], guard := none }).run Try.prog W = .ok (.value (.pointer (some ⟨p, 13, none⟩))) W := by
                  intro ps ev h0 W hSw
                  rw [hS] at hSw
                  try dsimp only at hSw
                  first | (go_simp; done) | (go_simp; with_reducible rfl)
                refine wp_region_X S 16 (by kernel_rfl) (HSK.out _ (by repeat (first | with_reducible exact Below.refl _ _ | with_reducible assumption | with_reducible refine Below.drew ?_ | with_reducible refine below_drewN ?_ _ | with_reducible refine below_more ?_ _))) (fun hHeld => ?_)
                refine wpX_take (i := 0) (oi := { dst := some 50, op := Go.Op.fieldAddr 28 (Go.Operand.tmp 6) 13, type := 0, pos := _, after := #[], guard := none }) (v := .pointer (some ⟨p, 13, none⟩)) rfl (by kernel_rfl) (by kernel_rfl) (by kernel_rfl) (fun _ _ _ h => h) ⟨_, rfl, { on := 0, ground := Go.Ground.phase }, by simp, by rfl, rfl⟩ (by decide) (Or.inl ⟨by rfl, y0 _ rfl⟩) (by assumption) ?_
                try simp only [Act.put, List.setIfInBounds_toArray, List.set_cons_zero, List.set_cons_succ]
                refine wpX_take (i := 1) (oi := { dst := some 51, op := Go.Op.load 25 (Go.Operand.tmp 50), type := 25, pos := _, after := #[{ on := 0, ground := Go.Ground.data }], guard := none }) (v := .slice ka i kc) rfl (by kernel_rfl) (by kernel_rfl) (by kernel_rfl) (fun _ _ _ h => h) ⟨_, rfl, { on := 1, ground := Go.Ground.phase }, by simp, by rfl, rfl⟩ (by decide) (Or.inl ⟨by rfl, y1 _ rfl⟩) (by assumption) ?_
                try simp only [Act.put, List.setIfInBounds_toArray, List.set_cons_zero, List.set_cons_succ]
                refine wpX_take (i := 2) (oi := { dst := some 52, op := Go.Op.fieldAddr 46 (Go.Operand.tmp 2) 12, type := 0, pos := _, after := #[], guard := none }) (v := .pointer (some ⟨w.heap.size, 12, none⟩)) rfl (by kernel_rfl) (by kernel_rfl) (by kernel_rfl) (fun _ _ _ h => h) ⟨_, rfl, { on := 2, ground := Go.Ground.phase }, by simp, by rfl, rfl⟩ (by decide) (Or.inl ⟨by rfl, y2 _ rfl⟩) (by assumption) ?_
                try simp only [Act.put, List.setIfInBounds_toArray, List.set_cons_zero, List.set_cons_succ]
                refine wpX_take (i := 3) (oi := { dst := some 53, op := Go.Op.load 22 (Go.Operand.tmp 52), type := 22, pos := _, after := #[{ on := 2, ground := Go.Ground.data }], guard := none }) (v := .int .u32 irs) rfl (by kernel_rfl) (by kernel_rfl) (by kernel_rfl) (fun _ _ _ h => h) ⟨_, rfl, { on := 3, ground := Go.Ground.phase }, by simp, by rfl, rfl⟩ (by decide) (Or.inl ⟨by rfl, y3 _ rfl⟩) (by assumption) ?_
                try simp only [Act.put, List.setIfInBounds_toArray, List.set_cons_zero, List.set_cons_succ]
                refine wpX_take (i := 4) (oi := { dst := some 54, op := Go.Op.fieldAddr 39 (Go.Operand.tmp 9) 0, type := 0, pos := _, after := #[], guard := none }) (v := .pointer (some ⟨wr.heap.size, 0, none⟩)) rfl (by kernel_rfl) (by kernel_rfl) (by kernel_rfl) (fun _ _ _ h => h) ⟨_, rfl, { on := 4, ground := Go.Ground.phase }, by simp, by rfl, rfl⟩ (by decide) (Or.inl ⟨by rfl, y4 _ rfl⟩) (by assumption) ?_
                try simp only [Act.put, List.setIfInBounds_toArray, List.set_cons_zero, List.set_cons_succ]
                refine wpX_take (i := 5) (oi := { dst := some 55, op := Go.Op.load 3 (Go.Operand.tmp 54), type := 3, pos := _, after := #[{ on := 4, ground := Go.Ground.data }], guard := none }) (v := .int .i64 x.1) rfl (by kernel_rfl) (by kernel_rfl) (by kernel_rfl) (fun _ _ _ h => h) ⟨_, rfl, { on := 5, ground := Go.Ground.phase }, by simp, by rfl, rfl⟩ (by decide) (Or.inl ⟨by rfl, y5 _ rfl⟩) (by assumption) ?_
                try simp only [Act.put, List.setIfInBounds_toArray, List.set_cons_zero, List.set_cons_succ]
                refine wpX_take (i := 7) (oi := { dst := some 57, op := Go.Op.fieldAddr 46 (Go.Operand.tmp 2) 12, type := 0, pos := _, after := #[], guard := none }) (v := .pointer (some ⟨w.heap.size, 12, none⟩)) rfl (by kernel_rfl) (by kernel_rfl) (by kernel_rfl) (fun _ _ _ h => h) ⟨_, rfl, { on := 7, ground := Go.Ground.phase }, by simp, by rfl, rfl⟩ (by decide) (Or.inl ⟨by rfl, y7 _ rfl⟩) (by assumption) ?_
                try simp only [Act.put, List.setIfInBounds_toArray, List.set_cons_zero, List.set_cons_succ]
                refine wpX_take (i := 8) (oi := { dst := some 58, op := Go.Op.load 22 (Go.Operand.tmp 57), type := 22, pos := _, after := #[{ on := 7, ground := Go.Ground.data }], guard := none }) (v := .int .u32 irs) rfl (by kernel_rfl) (by kernel_rfl) (by kernel_rfl) (fun _ _ _ h => h) ⟨_, rfl, { on := 8, ground := Go.Ground.phase }, by simp, by rfl, rfl⟩ (by decide) (Or.inl ⟨by rfl, y8 _ rfl⟩) (by assumption) ?_
                try simp only [Act.put, List.setIfInBounds_toArray, List.set_cons_zero, List.set_cons_succ]
                refine wpX_take (i := 9) (oi := { dst := some 59, op := Go.Op.fieldAddr 39 (Go.Operand.tmp 9) 1, type := 0, pos := _, after := #[], guard := none }) (v := .pointer (some ⟨wr.heap.size, 1, none⟩)) rfl (by kernel_rfl) (by kernel_rfl) (by kernel_rfl) (fun _ _ _ h => h) ⟨_, rfl, { on := 9, ground := Go.Ground.phase }, by simp, by rfl, rfl⟩ (by decide) (Or.inl ⟨by rfl, y9 _ rfl⟩) (by assumption) ?_
                try simp only [Act.put, List.setIfInBounds_toArray, List.set_cons_zero, List.set_cons_succ]
                refine wpX_take (i := 10) (oi := { dst := some 60, op := Go.Op.load 3 (Go.Operand.tmp 59), type := 3, pos := _, after := #[{ on := 9, ground := Go.Ground.data }], guard := none }) (v := .int .i64 x.2) rfl (by kernel_rfl) (by kernel_rfl) (by kernel_rfl) (fun _ _ _ h => h) ⟨_, rfl, { on := 10, ground := Go.Ground.phase }, by simp, by rfl, rfl⟩ (by decide) (Or.inl ⟨by rfl, y10 _ rfl⟩) (by assumption) ?_
                try simp only [Act.put, List.setIfInBounds_toArray, List.set_cons_zero, List.set_cons_succ]
                refine wpX_one (i := 6) (o := { dst := some 56, op := Go.Op.call { callee := Go.Callee.value (Go.Operand.func 55), args := #[Go.Operand.tmp 53, Go.Operand.tmp 55], argTypes := #[22, 3] }, type := 22, pos := _, after := #[{ on := 3, ground := Go.Ground.data }, { on := 5, ground := Go.Ground.data }], guard := none }) (by kernel_rfl) rfl (fun K hK => ?_)
                rw [if_pos (by rfl)]
                go_simp
                refine (cF _).mono ?_
                rintro e w1 ⟨rfl, hw1⟩
                obtain rfl := hw1.symm
                refine hK.out _ _ ⟨fun _ => hHeld, ?_⟩
                clear hK K
                try simp only [Act.put, List.setIfInBounds_toArray, List.set_cons_zero, List.set_cons_succ]
                refine wpX_one (i := 11) (o := { dst := some 61, op := Go.Op.call { callee := Go.Callee.value (Go.Operand.func 55), args := #[Go.Operand.tmp 58, Go.Operand.tmp 60], argTypes := #[22, 3] }, type := 22, pos := _, after := #[{ on := 8, ground := Go.Ground.data }, { on := 10, ground := Go.Ground.data }, { on := 6, ground := Go.Ground.chain }], guard := none }) (by kernel_rfl) rfl (fun K hK => ?_)
                rw [if_pos (by rfl)]
                go_simp
                refine (cT _).mono ?_
                rintro e w1 ⟨rfl, hw1⟩
                obtain rfl := hw1.symm
                refine hK.out _ _ ⟨fun _ => hHeld, ?_⟩
                clear hK K
                try simp only [Act.put, List.setIfInBounds_toArray, List.set_cons_zero, List.set_cons_succ]
                refine wpX_take (i := 12) (oi := { dst := some 62, op := Go.Op.build 41 #[(0, Go.Operand.tmp 56), (1, Go.Operand.tmp 61)], type := 41, pos := _, after := #[{ on := 6, ground := Go.Ground.data }, { on := 11, ground := Go.Ground.data }], guard := none }) (v := .agg #[.int .u32 f1, .int .u32 t1]) rfl (by kernel_rfl) (by kernel_rfl) (by kernel_rfl) (fun _ _ _ h => h) ⟨_, rfl, { on := 12, ground := Go.Ground.phase }, by simp, by rfl, rfl⟩ (by decide) (Or.inl ⟨by rfl, y12 _ rfl rfl⟩) (by assumption) ?_
                try simp only [Act.put, List.setIfInBounds_toArray, List.set_cons_zero, List.set_cons_succ]
                refine wpX_one (i := 13) (o := { dst := some 63, op := Go.Op.buildSlice 25 1 #[(0, Go.Operand.tmp 62)], type := 25, pos := _, after := #[{ on := 12, ground := Go.Ground.data }], guard := none }) (by kernel_rfl) rfl (fun K hK => ?_)
                rw [if_pos (by rfl)]
                go_simp
                refine hK.out _ _ ⟨fun _ => HSK.out _ (by repeat (first | with_reducible exact Below.refl _ _ | with_reducible assumption | with_reducible refine Below.drew ?_ | with_reducible refine below_drewN ?_ _ | with_reducible refine below_more ?_ _)), ?_⟩
                clear hK K
                try simp only [Act.put, List.setIfInBounds_toArray, List.set_cons_zero, List.set_cons_succ]
                refine wpX_one (i := 14) (o := { dst := some 64, op := Go.Op.call { callee := Go.Callee.builtin Go.Builtin.append, args := #[Go.Operand.tmp 51, Go.Operand.tmp 63], argTypes := #[25, 25] }, type := 25, pos := _, after := #[{ on := 1, ground := Go.Ground.data }, { on := 13, ground := Go.Ground.data }, { on := 11, ground := Go.Ground.chain }], guard := none }) (by kernel_rfl) rfl (fun K hK => ?_)
                refine step_appB rfl (.tmp 51) (.tmp 63) rfl (w.heap.size + 3) ka i kc ((bl.take i).map (blkI irs)) ⟨X.heap.size, 0, none⟩ (f1, t1) rfl rfl (RowB.of_heap ((HI.out.row.later HXB.out.2).alloc (.cells #[.int .u32 f1, .int .u32 t1] 41)) rfl) (by have h1 := HI.out.ge; have h2 := HI.out.seg.lt; have h3 := HXB.out.2.size; simp; omega) (fun j u hj => by have := cells_newB X f1 t1 j u hj; exact this) (by omega) ?_
                intro va vc w2 hR2 hg2
                have hY : Below wr.heap.size wr ((X.drew).alloc (.cells #[.int .u32 f1, .int .u32 t1] 41)) := below_more (Below.drew HXB.out.2) _
                have hg3 : ((X.drew).alloc (.cells #[.int .u32 f1, .int .u32 t1] 41)).grownBy w2 (Value.slice ka i kc).ownBlock := hg2
                have HN : Hid (TellTo w (w2.setCell ⟨p, 13, none⟩ (.slice va (i + 1) vc)) [.int .i64 rn, .slice ua u uc, .slice la n lc, .int .i64 cap, .int .i64 shift, .int .i64 edge, .int .u32 recent, .bool stamps, .bool true, .int .i64 fin, .bool dn, .slice fa m fc, .int .u32 irs, .int .u32 own, .bool stamp] p own ak wn stamps ec va (i + 1) vc ((bl.take (i + 1)).map (blkI irs))) := by
                  have htk : bl.take (i + 1) = bl.take i ++ [x] := take_snoc (by rw [HSP.out.2]; omega) HX.out
                  have hbx : blkI irs x = (f1, t1) := by unfold blkI; rw [HFT.out.1, HFT.out.2]
                  refine tell_next HI.out hY hg3 ?_
                  rw [htk, List.map_append, List.map_cons, List.map_nil, hbx]
                  exact hR2
                have hrowY := HI.out.row.later hY
                have hsegN := (HI.out.seg.later hY).grown hrowY (by decide) hg3
                have hboxN := (HI.out.box.later hY).grown hrowY (by decide) hg3
                have hspN := (HXB.out.1.later (show Below X.heap.size X ((X.drew).alloc (.cells #[.int .u32 f1, .int .u32 t1] 41)) from below_more (Below.drew (Below.refl _ _)) _)).grown hrowY (by decide) hg3
                have hHeld2 : S w2 := by rw [hS]; exact ⟨hsegN.cell 13 rfl, hboxN.cell 12 rfl, hspN.cell 0 rfl, hspN.cell 1 rfl⟩
                have z13 := hsegN.cell 13 rfl
                have zf13 := hsegN.frozen 13
                refine hK.out _ _ ⟨fun _ => hHeld2, ?_⟩
                clear hK K hHeld
                try simp only [Act.put, List.setIfInBounds_toArray, List.set_cons_zero, List.set_cons_succ]
                refine wpX_take (i := 15) (oi := { dst := some 65, op := Go.Op.fieldAddr 28 (Go.Operand.tmp 6) 13, type := 0, pos := _, after := #[{ on := 0, ground := Go.Ground.phase }, { on := 1, ground := Go.Ground.phase }, { on := 2, ground := Go.Ground.phase }, { on := 3, ground := Go.Ground.phase }, { on := 4, ground := Go.Ground.phase }, { on := 5, ground := Go.Ground.phase }, { on := 6, ground := Go.Ground.phase }, { on := 7, ground := Go.Ground.phase }, { on := 8, ground := Go.Ground.phase }, { on := 9, ground := Go.Ground.phase }, { on := 10, ground := Go.Ground.phase }, { on := 11, ground := Go.Ground.phase }, { on := 12, ground := Go.Ground.phase }, { on := 13, ground := Go.Ground.phase }, { on := 14, ground := Go.Ground.phase }], guard := none }) (v := .pointer (some ⟨p, 13, none⟩)) rfl (by kernel_rfl) (by kernel_rfl) (by kernel_rfl) (fun _ _ _ h => h) ⟨_, rfl, { on := 15, ground := Go.Ground.data }, by simp, by rfl, rfl⟩ (by decide) (Or.inl ⟨by rfl, y15 _ rfl⟩) (by assumption) ?_
                try simp only [Act.put, List.setIfInBounds_toArray, List.set_cons_zero, List.set_cons_succ]
                clear hg2 hY hg3 hrowY hsegN hboxN hspN hR2
                refine wpX_one (i := 16) (o := { dst := none, op := Go.Op.store 25 (Go.Operand.tmp 65) (Go.Operand.tmp 64), type := 0, pos := _, after := #[{ on := 15, ground := Go.Ground.data }, { on := 14, ground := Go.Ground.data }, { on := 14, ground := Go.Ground.chain }, { on := 0, ground := Go.Ground.phase }, { on := 1, ground := Go.Ground.phase }, { on := 2, ground := Go.Ground.phase }, { on := 3, ground := Go.Ground.phase }, { on := 4, ground := Go.Ground.phase }, { on := 5, ground := Go.Ground.phase }, { on := 6, ground := Go.Ground.phase }, { on := 7, ground := Go.Ground.phase }, { on := 8, ground := Go.Ground.phase }, { on := 9, ground := Go.Ground.phase }, { on := 10, ground := Go.Ground.phase }, { on := 11, ground := Go.Ground.phase }, { on := 12, ground := Go.Ground.phase }, { on := 13, ground := Go.Ground.phase }, { on := 14, ground := Go.Ground.phase }], guard := none }) (by kernel_rfl) rfl (fun K hK => ?_)
                rw [if_pos (by rfl)]
                go_simp
                refine hK.out _ _ ⟨fun h => absurd rfl h, ?_⟩
                clear hK K
                refine wpX_done (by kernel_rfl) ?_ _
                try simp only [Act.put, List.setIfInBounds_toArray, List.set_cons_zero, List.set_cons_succ]
                clear hHeld2 z13 zf13 y0 y1 y2 y3 y4 y5 y7 y8 y9 y10 y12 y15 hS
                go_wp2_with fail
                go_roundw
                case rel => exact ⟨i + 1, va, vc, by go_num, by omega, HN⟩
                case measure => simp [intOf]; omega
              · obtain rfl : i = q := by omega
                go_wp2_with fail
                go_meet
                refine ⟨ka, kc, ?_⟩
                have h := HI.out
                rw [HS.out.1] at h
                have e := HS.out.2
                subst e
                exact h
        case rest =>
          clear HT
          obtain ⟨ka, kc, HT⟩ := hcut
          go_wp2_with fail
          obtain ⟨S, hS⟩ : ∃ S : World → Prop, S = fun W => W.cell? ⟨w.heap.size, 0, none⟩ = some (.int .i64 rn) ∧ W.cell? ⟨w.heap.size, 1, none⟩ = some (.slice ua u uc) ∧ W.cell? ⟨w.heap.size, 2, none⟩ = some (.slice la n lc) ∧ W.cell? ⟨w.heap.size, 3, none⟩ = some (.int .i64 cap) ∧ W.cell? ⟨w.heap.size, 4, none⟩ = some (.int .i64 shift) ∧ W.cell? ⟨w.heap.size, 5, none⟩ = some (.int .i64 edge) ∧ W.cell? ⟨w.heap.size, 6, none⟩ = some (.int .u32 recent) ∧ W.cell? ⟨w.heap.size, 7, none⟩ = some (.bool stamps) ∧ W.cell? ⟨w.heap.size, 8, none⟩ = some (.bool sacks) ∧ W.cell? ⟨w.heap.size, 9, none⟩ = some (.int .i64 fin) ∧ W.cell? ⟨w.heap.size, 10, none⟩ = some (.bool dn) ∧ W.cell? ⟨w.heap.size, 11, none⟩ = some (.slice fa m fc) ∧ W.cell? ⟨w.heap.size, 12, none⟩ = some (.int .u32 irs) ∧ W.cell? ⟨w.heap.size, 13, none⟩ = some (.int .u32 own) ∧ W.cell? ⟨w.heap.size, 14, none⟩ = some (.bool stamp) := ⟨_, rfl⟩
          have HSK : Hid (∀ W, Below wc.heap.size wc W → S W) := fun W hW => by
            rw [hS]
            exact Box.c15 (HT.out.box.later hW)
          have hmx : (if edge < rn + wd then rn + wd else edge) = eg := by rw [← HE.out.2.2.2.2]; rfl
          have hwr1 : IntKind.i64.wrap (rn + wd) = rn + wd := by rw [IntKind.wrap_i64]; omega
          have y0 : ∀ {ps : String} (ev : Operand → Value), ev (.tmp 2) = .pointer (some ⟨w.heap.size, 0, none⟩) → ∀ W, S W → (execOp ev { dst := some 67, op := Go.Op.fieldAddr 46 (Go.Operand.tmp 2) 5, type := 0, pos := ps, after := #[], guard := none }).run Try.prog W = .ok (.value (.pointer (some ⟨w.heap.size, 5, none⟩))) W := by
            intro ps ev h0 W hSw
            rw [hS] at hSw
            try dsimp only at hSw
            first | (go_simp; done) | (go_simp; with_reducible rfl)
          have y1 : ∀ {ps : String} (ev : Operand → Value), ev (.tmp 67) = .pointer (some ⟨w.heap.size, 5, none⟩) → ∀ W, S W → (execOp ev { dst := some 68, op := Go.Op.load 3 (Go.Operand.tmp 67), type := 3, pos := ps, after := #[{ on := 0, ground := Go.Ground.data }], guard := none }).run Try.prog W = .ok (.value (.int .i64 edge)) W := by
            intro ps ev h0 W hSw
            rw [hS] at hSw
            try dsimp only at hSw
            first | (go_simp; done) | (go_simp; with_reducible rfl)
          have y2 : ∀ {ps : String} (ev : Operand → Value), ev (.tmp 2) = .pointer (some ⟨w.heap.size, 0, none⟩) → ∀ W, S W → (execOp ev { dst := some 69, op := Go.Op.fieldAddr 46 (Go.Operand.tmp 2) 0, type := 0, pos := ps, after := #[], guard := none }).run Try.prog W = .ok (.value (.pointer (some ⟨w.heap.size, 0, none⟩))) W := by
            intro ps ev h0 W hSw
            rw [hS] at hSw
            try dsimp only at hSw
            first | (go_simp; done) | (go_simp; with_reducible rfl)
          have y3 : ∀ {ps : String} (ev : Operand → Value), ev (.tmp 69) = .pointer (some ⟨w.heap.size, 0, none⟩) → ∀ W, S W → (execOp ev { dst := some 70, op := Go.Op.load 3 (Go.Operand.tmp 69), type := 3, pos := ps, after := #[{ on := 2, ground := Go.Ground.data }], guard := none }).run Try.prog W = .ok (.value (.int .i64 rn)) W := by
            intro ps ev h0 W hSw
            rw [hS] at hSw
            try dsimp only at hSw
            first | (go_simp; done) | (go_simp; with_reducible rfl)
          have y4 : ∀ {ps : String} (ev : Operand → Value), ev (.tmp 2) = .pointer (some ⟨w.heap.size, 0, none⟩) → ∀ W, S W → (execOp ev { dst := some 71, op := Go.Op.load 46 (Go.Operand.tmp 2), type := 46, pos := ps, after := #[], guard := none }).run Try.prog W = .ok (.value (.agg #[.int .i64 rn, .slice ua u uc, .slice la n lc, .int .i64 cap, .int .i64 shift, .int .i64 edge, .int .u32 recent, .bool stamps, .bool sacks, .int .i64 fin, .bool dn, .slice fa m fc, .int .u32 irs, .int .u32 own, .bool stamp])) W := by
            intro ps ev h0 W hSw
            rw [hS] at hSw
            try dsimp only at hSw
            first | (go_simp; done) | (go_simp; with_reducible rfl)
          have y6 : ∀ {ps : String} (ev : Operand → Value), ev (.tmp 70) = .int .i64 rn → ev (.tmp 72) = .int .i64 wd → ∀ W, S W → (execOp ev { dst := some 73, op := Go.Op.binOp Go.BinOp.add 3 (Go.Operand.tmp 70) (Go.Operand.tmp 72) 3, type := 3, pos := ps, after := #[{ on := 3, ground := Go.Ground.data }, { on := 5, ground := Go.Ground.data }], guard := none }).run Try.prog W = .ok (.value (.int .i64 (rn + wd))) W := by
            intro ps ev h0 h1 W hSw
            rw [hS] at hSw
            try dsimp only at hSw
            first | (go_simp; done) | (go_simp; with_reducible rfl)
          have y7 : ∀ {ps : String} (ev : Operand → Value), ev (.tmp 68) = .int .i64 edge → ev (.tmp 73) = .int .i64 (rn + wd) → ∀ W, S W → (execOp ev { dst := some 74, op := Go.Op.call { callee := Go.Callee.builtin Go.Builtin.max, args := #[Go.Operand.tmp 68, Go.Operand.tmp 73], argTypes := #[3, 3] }, type := 3, pos := ps, after := #[{ on := 1, ground := Go.Ground.data }, { on := 6, ground := Go.Ground.data }], guard := none }).run Try.prog W = .ok (.value (.int .i64 eg)) W := by
            intro ps ev h0 h1 W hSw
            rw [hS] at hSw
            try dsimp only at hSw
            first | (go_simp; done) | (go_simp; with_reducible rfl)
          have y8 : ∀ {ps : String} (ev : Operand → Value), ev (.tmp 2) = .pointer (some ⟨w.heap.size, 0, none⟩) → ∀ W, S W → (execOp ev { dst := some 75, op := Go.Op.fieldAddr 46 (Go.Operand.tmp 2) 5, type := 0, pos := ps, after := #[{ on := 0, ground := Go.Ground.phase }, { on := 1, ground := Go.Ground.phase }, { on := 2, ground := Go.Ground.phase }, { on := 3, ground := Go.Ground.phase }, { on := 4, ground := Go.Ground.phase }, { on := 5, ground := Go.Ground.phase }, { on := 6, ground := Go.Ground.phase }, { on := 7, ground := Go.Ground.phase }], guard := none }).run Try.prog W = .ok (.value (.pointer (some ⟨w.heap.size, 5, none⟩))) W := by
            intro ps ev h0 W hSw
            rw [hS] at hSw
            try dsimp only at hSw
            first | (go_simp; done) | (go_simp; with_reducible rfl)
          refine wp_region_X S 9 (by kernel_rfl) (HSK.out _ (by repeat (first | with_reducible exact Below.refl _ _ | with_reducible assumption | with_reducible refine Below.drew ?_ | with_reducible refine below_drewN ?_ _ | with_reducible refine below_more ?_ _))) (fun hHeld => ?_)
          refine wpX_take (i := 0) (oi := { dst := some 67, op := Go.Op.fieldAddr 46 (Go.Operand.tmp 2) 5, type := 0, pos := _, after := #[], guard := none }) (v := .pointer (some ⟨w.heap.size, 5, none⟩)) rfl (by kernel_rfl) (by kernel_rfl) (by kernel_rfl) (fun _ _ _ h => h) ⟨_, rfl, { on := 0, ground := Go.Ground.phase }, by simp, by rfl, rfl⟩ (by decide) (Or.inl ⟨by rfl, y0 _ rfl⟩) (by assumption) ?_
          try simp only [Act.put, List.setIfInBounds_toArray, List.set_cons_zero, List.set_cons_succ]
          refine wpX_take (i := 1) (oi := { dst := some 68, op := Go.Op.load 3 (Go.Operand.tmp 67), type := 3, pos := _, after := #[{ on := 0, ground := Go.Ground.data }], guard := none }) (v := .int .i64 edge) rfl (by kernel_rfl) (by kernel_rfl) (by kernel_rfl) (fun _ _ _ h => h) ⟨_, rfl, { on := 1, ground := Go.Ground.phase }, by simp, by rfl, rfl⟩ (by decide) (Or.inl ⟨by rfl, y1 _ rfl⟩) (by assumption) ?_
          try simp only [Act.put, List.setIfInBounds_toArray, List.set_cons_zero, List.set_cons_succ]
          refine wpX_take (i := 2) (oi := { dst := some 69, op := Go.Op.fieldAddr 46 (Go.Operand.tmp 2) 0, type := 0, pos := _, after := #[], guard := none }) (v := .pointer (some ⟨w.heap.size, 0, none⟩)) rfl (by kernel_rfl) (by kernel_rfl) (by kernel_rfl) (fun _ _ _ h => h) ⟨_, rfl, { on := 2, ground := Go.Ground.phase }, by simp, by rfl, rfl⟩ (by decide) (Or.inl ⟨by rfl, y2 _ rfl⟩) (by assumption) ?_
          try simp only [Act.put, List.setIfInBounds_toArray, List.set_cons_zero, List.set_cons_succ]
          refine wpX_take (i := 3) (oi := { dst := some 70, op := Go.Op.load 3 (Go.Operand.tmp 69), type := 3, pos := _, after := #[{ on := 2, ground := Go.Ground.data }], guard := none }) (v := .int .i64 rn) rfl (by kernel_rfl) (by kernel_rfl) (by kernel_rfl) (fun _ _ _ h => h) ⟨_, rfl, { on := 3, ground := Go.Ground.phase }, by simp, by rfl, rfl⟩ (by decide) (Or.inl ⟨by rfl, y3 _ rfl⟩) (by assumption) ?_
          try simp only [Act.put, List.setIfInBounds_toArray, List.set_cons_zero, List.set_cons_succ]
          refine wpX_take (i := 4) (oi := { dst := some 71, op := Go.Op.load 46 (Go.Operand.tmp 2), type := 46, pos := _, after := #[], guard := none }) (v := .agg #[.int .i64 rn, .slice ua u uc, .slice la n lc, .int .i64 cap, .int .i64 shift, .int .i64 edge, .int .u32 recent, .bool stamps, .bool sacks, .int .i64 fin, .bool dn, .slice fa m fc, .int .u32 irs, .int .u32 own, .bool stamp]) rfl (by kernel_rfl) (by kernel_rfl) (by kernel_rfl) (fun _ _ _ h => h) ⟨_, rfl, { on := 4, ground := Go.Ground.phase }, by simp, by rfl, rfl⟩ (by decide) (Or.inl ⟨by rfl, y4 _ rfl⟩) (by assumption) ?_
          try simp only [Act.put, List.setIfInBounds_toArray, List.set_cons_zero, List.set_cons_succ]
          refine wpX_one (i := 5) (o := { dst := some 72, op := Go.Op.call { callee := Go.Callee.value (Go.Operand.func 31), args := #[Go.Operand.tmp 71], argTypes := #[46] }, type := 3, pos := _, after := #[{ on := 4, ground := Go.Ground.data }], guard := none }) (by kernel_rfl) rfl (fun K hK => ?_)
          rw [if_pos (by rfl)]
          go_simp
          refine (cW _).mono ?_
          rintro e w5 ⟨rfl, hB5⟩
          have hb5 : Below wc.heap.size wc w5 := Below.on (by repeat (first | with_reducible exact Below.refl _ _ | with_reducible assumption | with_reducible refine Below.drew ?_ | with_reducible refine below_drewN ?_ _ | with_reducible refine below_more ?_ _)) hB5
          have hHeld5 := HSK.out _ hb5
          refine hK.out _ _ ⟨fun _ => hHeld5, ?_⟩
          clear hK K hHeld
          try simp only [Act.put, List.setIfInBounds_toArray, List.set_cons_zero, List.set_cons_succ]
          refine wpX_take (i := 6) (oi := { dst := some 73, op := Go.Op.binOp Go.BinOp.add 3 (Go.Operand.tmp 70) (Go.Operand.tmp 72) 3, type := 3, pos := _, after := #[{ on := 3, ground := Go.Ground.data }, { on := 5, ground := Go.Ground.data }], guard := none }) (v := .int .i64 (rn + wd)) rfl (by kernel_rfl) (by kernel_rfl) (by kernel_rfl) (fun _ _ _ h => h) ⟨_, rfl, { on := 6, ground := Go.Ground.phase }, by simp, by rfl, rfl⟩ (by decide) (Or.inl ⟨by rfl, y6 _ rfl rfl⟩) (by assumption) ?_
          try simp only [Act.put, List.setIfInBounds_toArray, List.set_cons_zero, List.set_cons_succ]
          refine wpX_take (i := 7) (oi := { dst := some 74, op := Go.Op.call { callee := Go.Callee.builtin Go.Builtin.max, args := #[Go.Operand.tmp 68, Go.Operand.tmp 73], argTypes := #[3, 3] }, type := 3, pos := _, after := #[{ on := 1, ground := Go.Ground.data }, { on := 6, ground := Go.Ground.data }], guard := none }) (v := .int .i64 eg) rfl (by kernel_rfl) (by kernel_rfl) (by kernel_rfl) (fun _ _ _ h => h) ⟨_, rfl, { on := 7, ground := Go.Ground.data }, by simp, by rfl, rfl⟩ (by decide) (Or.inl ⟨by rfl, y7 _ rfl rfl⟩) (by assumption) ?_
          try simp only [Act.put, List.setIfInBounds_toArray, List.set_cons_zero, List.set_cons_succ]
          refine wpX_take (i := 8) (oi := { dst := some 75, op := Go.Op.fieldAddr 46 (Go.Operand.tmp 2) 5, type := 0, pos := _, after := #[{ on := 0, ground := Go.Ground.phase }, { on := 1, ground := Go.Ground.phase }, { on := 2, ground := Go.Ground.phase }, { on := 3, ground := Go.Ground.phase }, { on := 4, ground := Go.Ground.phase }, { on := 5, ground := Go.Ground.phase }, { on := 6, ground := Go.Ground.phase }, { on := 7, ground := Go.Ground.phase }], guard := none }) (v := .pointer (some ⟨w.heap.size, 5, none⟩)) rfl (by kernel_rfl) (by kernel_rfl) (by kernel_rfl) (fun _ _ _ h => h) ⟨_, rfl, { on := 8, ground := Go.Ground.data }, by simp, by rfl, rfl⟩ (by decide) (Or.inl ⟨by rfl, y8 _ rfl⟩) (by assumption) ?_
          try simp only [Act.put, List.setIfInBounds_toArray, List.set_cons_zero, List.set_cons_succ]
          have hT5 := HT.out.later hb5
          have zc5 := hT5.box.cell 5 rfl
          have zf5 := hT5.box.frozen 5
          refine wpX_one (i := 9) (o := { dst := none, op := Go.Op.store 3 (Go.Operand.tmp 75) (Go.Operand.tmp 74), type := 0, pos := _, after := #[{ on := 8, ground := Go.Ground.data }, { on := 7, ground := Go.Ground.data }, { on := 5, ground := Go.Ground.chain }, { on := 0, ground := Go.Ground.phase }, { on := 1, ground := Go.Ground.phase }, { on := 2, ground := Go.Ground.phase }, { on := 3, ground := Go.Ground.phase }, { on := 4, ground := Go.Ground.phase }, { on := 5, ground := Go.Ground.phase }, { on := 6, ground := Go.Ground.phase }, { on := 7, ground := Go.Ground.phase }], guard := none }) (by kernel_rfl) rfl (fun K hK => ?_)
          rw [if_pos (by rfl)]
          go_simp
          refine hK.out _ _ ⟨fun h => absurd rfl h, ?_⟩
          clear hK K
          refine wpX_done (by kernel_rfl) ?_ _
          try simp only [Act.put, List.setIfInBounds_toArray, List.set_cons_zero, List.set_cons_succ]
          have HV : Hid (TellTo w (w5.setCell ⟨w.heap.size, 5, none⟩ (.int .i64 eg)) [.int .i64 rn, .slice ua u uc, .slice la n lc, .int .i64 cap, .int .i64 shift, .int .i64 eg, .int .u32 recent, .bool stamps, .bool sacks, .int .i64 fin, .bool dn, .slice fa m fc, .int .u32 irs, .int .u32 own, .bool stamp] p own ak wn stamps ec ka L kc sk) := hT5.setEdge eg
          obtain ⟨V, hV⟩ : ∃ V, w5.setCell ⟨w.heap.size, 5, none⟩ (.int .i64 eg) = V := ⟨_, rfl⟩
          rw [hV] at HV ⊢
          clear hV hT5 zc5 zf5 hHeld5 hb5 hB5 hmx hwr1 y0 y1 y2 y3 y4 y6 y7 y8 hS HSK HT
          have hS : True := trivial
          clear hS
          go_wp2_with fail
          obtain ⟨S, hS⟩ : ∃ S : World → Prop, S = fun W => Box W w.heap.size 46 [.int .i64 rn, .slice ua u uc, .slice la n lc, .int .i64 cap, .int .i64 shift, .int .i64 eg, .int .u32 recent, .bool stamps, .bool sacks, .int .i64 fin, .bool dn, .slice fa m fc, .int .u32 irs, .int .u32 own, .bool stamp] ∧ Box W p 28 [.int .i64 0, .int .i64 0, .int .u32 own, .int .u32 ak, .int .i64 16, .int .i64 wn, .int .i64 0, .int .i64 (-1), .int .i64 (-1), .bool false, .bool stamps, .int .u32 0, .int .u32 ec, .slice ka L kc, .slice none 0 0] := ⟨_, rfl⟩
          have y0 : ∀ {ps : String} (ev : Operand → Value), ev (.tmp 2) = .pointer (some ⟨w.heap.size, 0, none⟩) → ∀ W, S W → (execOp ev { dst := some 76, op := Go.Op.load 46 (Go.Operand.tmp 2), type := 46, pos := ps, after := #[], guard := none }).run Try.prog W = .ok (.value (.agg #[.int .i64 rn, .slice ua u uc, .slice la n lc, .int .i64 cap, .int .i64 shift, .int .i64 eg, .int .u32 recent, .bool stamps, .bool sacks, .int .i64 fin, .bool dn, .slice fa m fc, .int .u32 irs, .int .u32 own, .bool stamp])) W := by
            intro ps ev h0 W hSw
            rw [hS] at hSw
            obtain ⟨c0, c1, c2, c3, c4, c5, c6, c7, c8, c9, c10, c11, c12, c13, c14⟩ := Box.c15 hSw.1
            first | (go_simp; done) | (go_simp; with_reducible rfl)
          have y1 : ∀ {ps : String} (ev : Operand → Value), ev (.tmp 6) = .pointer (some ⟨p, 0, none⟩) → ∀ W, S W → (execOp ev { dst := some 77, op := Go.Op.load 28 (Go.Operand.tmp 6), type := 28, pos := ps, after := #[{ on := 2, ground := Go.Ground.gcOnly Go.Departure.lateStores }], guard := none }).run Try.prog W = .ok (.value (.agg #[.int .i64 0, .int .i64 0, .int .u32 own, .int .u32 ak, .int .i64 16, .int .i64 wn, .int .i64 0, .int .i64 (-1), .int .i64 (-1), .bool false, .bool stamps, .int .u32 0, .int .u32 ec, .slice ka L kc, .slice none 0 0])) W := by
            intro ps ev h0 W hSw
            rw [hS] at hSw
            obtain ⟨c0, c1, c2, c3, c4, c5, c6, c7, c8, c9, c10, c11, c12, c13, c14⟩ := Box.c15 hSw.2
            first | (go_simp; done) | (go_simp; with_reducible rfl)
          have hVd := HV.out.later (Below.drew (Below.refl _ _))
          have hge := hVd.ge
          have hSd : S V.drew := by rw [hS]; exact ⟨hVd.box, hVd.seg⟩
          have b1 : Box (setAll V.drew (w.heap.size + 1) 0 [.int .i64 rn, .slice ua u uc, .slice la n lc, .int .i64 cap, .int .i64 shift, .int .i64 eg, .int .u32 recent, .bool stamps, .bool sacks, .int .i64 fin, .bool dn, .slice fa m fc, .int .u32 irs, .int .u32 own, .bool stamp]) (w.heap.size + 1) 46 [.int .i64 rn, .slice ua u uc, .slice la n lc, .int .i64 cap, .int .i64 shift, .int .i64 eg, .int .u32 recent, .bool stamps, .bool sacks, .int .i64 fin, .bool dn, .slice fa m fc, .int .u32 irs, .int .u32 own, .bool stamp] := hVd.zr.put _ rfl
          have b2 : Box (setAll V.drew (w.heap.size + 1) 0 [.int .i64 rn, .slice ua u uc, .slice la n lc, .int .i64 cap, .int .i64 shift, .int .i64 eg, .int .u32 recent, .bool stamps, .bool sacks, .int .i64 fin, .bool dn, .slice fa m fc, .int .u32 irs, .int .u32 own, .bool stamp]) (w.heap.size + 2) 28 [.int .i64 0, .int .i64 0, .int .u32 0, .int .u32 0, .int .i64 0, .int .i64 0, .int .i64 0, .int .i64 0, .int .i64 0, .bool false, .bool false, .int .u32 0, .int .u32 0, .slice none 0 0, .slice none 0 0] := hVd.zs.putAside _ _ _ (by omega)
          have hS2 : S (setAll V.drew (w.heap.size + 1) 0 [.int .i64 rn, .slice ua u uc, .slice la n lc, .int .i64 cap, .int .i64 shift, .int .i64 eg, .int .u32 recent, .bool stamps, .bool sacks, .int .i64 fin, .bool dn, .slice fa m fc, .int .u32 irs, .int .u32 own, .bool stamp]) := by rw [hS]; exact ⟨hVd.box.putAside _ _ _ (by omega), hVd.seg.putAside _ _ _ (by omega)⟩
          have hR1 : RowB (setAll V.drew (w.heap.size + 1) 0 [.int .i64 rn, .slice ua u uc, .slice la n lc, .int .i64 cap, .int .i64 shift, .int .i64 eg, .int .u32 recent, .bool stamps, .bool sacks, .int .i64 fin, .bool dn, .slice fa m fc, .int .u32 irs, .int .u32 own, .bool stamp]) (w.heap.size + 3) ka L kc sk := ownsRow_setAll hVd.row _ _ _ (by omega)
          have hB1 : Below w.heap.size w (setAll V.drew (w.heap.size + 1) 0 [.int .i64 rn, .slice ua u uc, .slice la n lc, .int .i64 cap, .int .i64 shift, .int .i64 eg, .int .u32 recent, .bool stamps, .bool sacks, .int .i64 fin, .bool dn, .slice fa m fc, .int .u32 irs, .int .u32 own, .bool stamp]) := setAll_below (Nat.le_succ _) hVd.bel
          obtain ⟨Y, hY⟩ : ∃ Y, setAll V.drew (w.heap.size + 1) 0 [.int .i64 rn, .slice ua u uc, .slice la n lc, .int .i64 cap, .int .i64 shift, .int .i64 eg, .int .u32 recent, .bool stamps, .bool sacks, .int .i64 fin, .bool dn, .slice fa m fc, .int .u32 irs, .int .u32 own, .bool stamp] = Y := ⟨_, rfl⟩
          have hY' : (((((((((((((((V.drew.setCell ⟨w.heap.size + 1, 0, none⟩ (.int .i64 rn)).setCell ⟨w.heap.size + 1, 1, none⟩ (.slice ua u uc)).setCell ⟨w.heap.size + 1, 2, none⟩ (.slice la n lc)).setCell ⟨w.heap.size + 1, 3, none⟩ (.int .i64 cap)).setCell ⟨w.heap.size + 1, 4, none⟩ (.int .i64 shift)).setCell ⟨w.heap.size + 1, 5, none⟩ (.int .i64 eg)).setCell ⟨w.heap.size + 1, 6, none⟩ (.int .u32 recent)).setCell ⟨w.heap.size + 1, 7, none⟩ (.bool stamps)).setCell ⟨w.heap.size + 1, 8, none⟩ (.bool sacks)).setCell ⟨w.heap.size + 1, 9, none⟩ (.int .i64 fin)).setCell ⟨w.heap.size + 1, 10, none⟩ (.bool dn)).setCell ⟨w.heap.size + 1, 11, none⟩ (.slice fa m fc)).setCell ⟨w.heap.size + 1, 12, none⟩ (.int .u32 irs)).setCell ⟨w.heap.size + 1, 13, none⟩ (.int .u32 own)).setCell ⟨w.heap.size + 1, 14, none⟩ (.bool stamp)) = Y := hY
          rw [hY] at b1 b2 hS2 hR1 hB1
          have b3 : Box (setAll Y (w.heap.size + 2) 0 [.int .i64 0, .int .i64 0, .int .u32 own, .int .u32 ak, .int .i64 16, .int .i64 wn, .int .i64 0, .int .i64 (-1), .int .i64 (-1), .bool false, .bool stamps, .int .u32 0, .int .u32 ec, .slice ka L kc, .slice none 0 0]) (w.heap.size + 1) 46 [.int .i64 rn, .slice ua u uc, .slice la n lc, .int .i64 cap, .int .i64 shift, .int .i64 eg, .int .u32 recent, .bool stamps, .bool sacks, .int .i64 fin, .bool dn, .slice fa m fc, .int .u32 irs, .int .u32 own, .bool stamp] := b1.putAside _ _ _ (by omega)
          have b4 : Box (setAll Y (w.heap.size + 2) 0 [.int .i64 0, .int .i64 0, .int .u32 own, .int .u32 ak, .int .i64 16, .int .i64 wn, .int .i64 0, .int .i64 (-1), .int .i64 (-1), .bool false, .bool stamps, .int .u32 0, .int .u32 ec, .slice ka L kc, .slice none 0 0]) (w.heap.size + 2) 28 [.int .i64 0, .int .i64 0, .int .u32 own, .int .u32 ak, .int .i64 16, .int .i64 wn, .int .i64 0, .int .i64 (-1), .int .i64 (-1), .bool false, .bool stamps, .int .u32 0, .int .u32 ec, .slice ka L kc, .slice none 0 0] := b2.put _ rfl
          have hR2 : RowB (setAll Y (w.heap.size + 2) 0 [.int .i64 0, .int .i64 0, .int .u32 own, .int .u32 ak, .int .i64 16, .int .i64 wn, .int .i64 0, .int .i64 (-1), .int .i64 (-1), .bool false, .bool stamps, .int .u32 0, .int .u32 ec, .slice ka L kc, .slice none 0 0]) (w.heap.size + 3) ka L kc sk ∧ sk.length ≤ 4 := ⟨ownsRow_setAll hR1 _ _ _ (by omega), by
            have h1 := HE.out.1
            rw [← h1]; unfold sackL
            split
            · rw [List.length_map, List.length_take]
              split <;> omega
            · simp⟩
          have hB2 : Below w.heap.size w (setAll Y (w.heap.size + 2) 0 [.int .i64 0, .int .i64 0, .int .u32 own, .int .u32 ak, .int .i64 16, .int .i64 wn, .int .i64 0, .int .i64 (-1), .int .i64 (-1), .bool false, .bool stamps, .int .u32 0, .int .u32 ec, .slice ka L kc, .slice none 0 0]) := setAll_below (by omega) hB1
          have HF : Hid (Box (setAll Y (w.heap.size + 2) 0 [.int .i64 0, .int .i64 0, .int .u32 own, .int .u32 ak, .int .i64 16, .int .i64 wn, .int .i64 0, .int .i64 (-1), .int .i64 (-1), .bool false, .bool stamps, .int .u32 0, .int .u32 ec, .slice ka L kc, .slice none 0 0]) (w.heap.size + 1) 46 [.int .i64 rn, .slice ua u uc, .slice la n lc, .int .i64 cap, .int .i64 shift, .int .i64 eg, .int .u32 recent, .bool stamps, .bool sacks, .int .i64 fin, .bool dn, .slice fa m fc, .int .u32 irs, .int .u32 own, .bool stamp] ∧ Box (setAll Y (w.heap.size + 2) 0 [.int .i64 0, .int .i64 0, .int .u32 own, .int .u32 ak, .int .i64 16, .int .i64 wn, .int .i64 0, .int .i64 (-1), .int .i64 (-1), .bool false, .bool stamps, .int .u32 0, .int .u32 ec, .slice ka L kc, .slice none 0 0]) (w.heap.size + 2) 28 [.int .i64 0, .int .i64 0, .int .u32 own, .int .u32 ak, .int .i64 16, .int .i64 wn, .int .i64 0, .int .i64 (-1), .int .i64 (-1), .bool false, .bool stamps, .int .u32 0, .int .u32 ec, .slice ka L kc, .slice none 0 0] ∧ (RowB (setAll Y (w.heap.size + 2) 0 [.int .i64 0, .int .i64 0, .int .u32 own, .int .u32 ak, .int .i64 16, .int .i64 wn, .int .i64 0, .int .i64 (-1), .int .i64 (-1), .bool false, .bool stamps, .int .u32 0, .int .u32 ec, .slice ka L kc, .slice none 0 0]) (w.heap.size + 3) ka L kc sk ∧ sk.length ≤ 4) ∧ Below w.heap.size w (setAll Y (w.heap.size + 2) 0 [.int .i64 0, .int .i64 0, .int .u32 own, .int .u32 ak, .int .i64 16, .int .i64 wn, .int .i64 0, .int .i64 (-1), .int .i64 (-1), .bool false, .bool stamps, .int .u32 0, .int .u32 ec, .slice ka L kc, .slice none 0 0])) := ⟨b3, b4, hR2, hB2⟩
          have HY : Hid ((((((((((((((((V.drew.setCell ⟨w.heap.size + 1, 0, none⟩ (.int .i64 rn)).setCell ⟨w.heap.size + 1, 1, none⟩ (.slice ua u uc)).setCell ⟨w.heap.size + 1, 2, none⟩ (.slice la n lc)).setCell ⟨w.heap.size + 1, 3, none⟩ (.int .i64 cap)).setCell ⟨w.heap.size + 1, 4, none⟩ (.int .i64 shift)).setCell ⟨w.heap.size + 1, 5, none⟩ (.int .i64 eg)).setCell ⟨w.heap.size + 1, 6, none⟩ (.int .u32 recent)).setCell ⟨w.heap.size + 1, 7, none⟩ (.bool stamps)).setCell ⟨w.heap.size + 1, 8, none⟩ (.bool sacks)).setCell ⟨w.heap.size + 1, 9, none⟩ (.int .i64 fin)).setCell ⟨w.heap.size + 1, 10, none⟩ (.bool dn)).setCell ⟨w.heap.size + 1, 11, none⟩ (.slice fa m fc)).setCell ⟨w.heap.size + 1, 12, none⟩ (.int .u32 irs)).setCell ⟨w.heap.size + 1, 13, none⟩ (.int .u32 own)).setCell ⟨w.heap.size + 1, 14, none⟩ (.bool stamp)) = Y) := hY'
          have HZ : Hid (Box V.drew (w.heap.size + 1) 46 [.int .i64 0, .slice none 0 0, .slice none 0 0, .int .i64 0, .int .i64 0, .int .i64 0, .int .u32 0, .bool false, .bool false, .int .i64 0, .bool false, .slice none 0 0, .int .u32 0, .int .u32 0, .bool false] ∧ Box Y (w.heap.size + 2) 28 [.int .i64 0, .int .i64 0, .int .u32 0, .int .u32 0, .int .i64 0, .int .i64 0, .int .i64 0, .int .i64 0, .int .i64 0, .bool false, .bool false, .int .u32 0, .int .u32 0, .slice none 0 0, .slice none 0 0]) := ⟨hVd.zr, b2⟩
          clear b1 b2 b3 b4 hR1 hR2 hB1 hB2 hY hY' hVd
          refine wp_region_X S 3 (by kernel_rfl) hSd (fun hHeld => ?_)
          obtain ⟨U, hU⟩ : ∃ U, V.drew = U := ⟨_, rfl⟩
          rw [hU] at HZ HY hHeld ⊢
          clear hU hSd
          refine wpX_take (i := 0) (oi := { dst := some 76, op := Go.Op.load 46 (Go.Operand.tmp 2), type := 46, pos := _, after := #[], guard := none }) (v := .agg #[.int .i64 rn, .slice ua u uc, .slice la n lc, .int .i64 cap, .int .i64 shift, .int .i64 eg, .int .u32 recent, .bool stamps, .bool sacks, .int .i64 fin, .bool dn, .slice fa m fc, .int .u32 irs, .int .u32 own, .bool stamp]) rfl (by kernel_rfl) (by kernel_rfl) (by kernel_rfl) (fun _ _ _ h => h) ⟨_, rfl, { on := 0, ground := Go.Ground.phase }, by simp, by rfl, rfl⟩ (by decide) (Or.inl ⟨by rfl, y0 _ rfl⟩) (by assumption) ?_
          try simp only [Act.put, List.setIfInBounds_toArray, List.set_cons_zero, List.set_cons_succ]
          refine wpX_take (i := 1) (oi := { dst := some 77, op := Go.Op.load 28 (Go.Operand.tmp 6), type := 28, pos := _, after := #[{ on := 2, ground := Go.Ground.gcOnly Go.Departure.lateStores }], guard := none }) (v := .agg #[.int .i64 0, .int .i64 0, .int .u32 own, .int .u32 ak, .int .i64 16, .int .i64 wn, .int .i64 0, .int .i64 (-1), .int .i64 (-1), .bool false, .bool stamps, .int .u32 0, .int .u32 ec, .slice ka L kc, .slice none 0 0]) rfl (by kernel_rfl) (by kernel_rfl) (by kernel_rfl) (fun _ _ _ h => h) ⟨_, rfl, { on := 1, ground := Go.Ground.data }, by simp, by rfl, rfl⟩ (by decide) (Or.inl ⟨by rfl, y1 _ rfl⟩) (by assumption) ?_
          try simp only [Act.put, List.setIfInBounds_toArray, List.set_cons_zero, List.set_cons_succ]
          refine wpX_one (i := 2) (o := { dst := none, op := Go.Op.store 46 (Go.Operand.tmp 4) (Go.Operand.tmp 76), type := 0, pos := _, after := #[{ on := 0, ground := Go.Ground.data }, { on := 0, ground := Go.Ground.phase }, { on := 1, ground := Go.Ground.textOnly Go.Departure.lateStores }], guard := none }) (by kernel_rfl) rfl (fun K hK => ?_)
          rw [if_pos (by rfl)]
          obtain ⟨c0, c1, c2, c3, c4, c5, c6, c7, c8, c9, c10, c11, c12, c13, c14⟩ := Box.c15 HZ.out.1
          obtain ⟨f0, f1, f2, f3, f4, f5, f6, f7, f8, f9, f10, f11, f12, f13, f14⟩ := Box.f15 HZ.out.1
          go_simp
          rw [HY.out]
          refine hK.out _ _ ⟨fun _ => hS2, ?_⟩
          clear hK K c0 c1 c2 c3 c4 c5 c6 c7 c8 c9 c10 c11 c12 c13 c14 f0 f1 f2 f3 f4 f5 f6 f7 f8 f9 f10 f11 f12 f13 f14 hHeld
          try simp only [Act.put, List.setIfInBounds_toArray, List.set_cons_zero, List.set_cons_succ]
          refine wpX_one (i := 3) (o := { dst := none, op := Go.Op.store 28 (Go.Operand.tmp 5) (Go.Operand.tmp 77), type := 0, pos := _, after := #[{ on := 1, ground := Go.Ground.data }, { on := 2, ground := Go.Ground.chain }, { on := 0, ground := Go.Ground.phase }, { on := 1, ground := Go.Ground.phase }, { on := 2, ground := Go.Ground.phase }], guard := none }) (by kernel_rfl) rfl (fun K hK => ?_)
          rw [if_pos (by rfl)]
          obtain ⟨c0, c1, c2, c3, c4, c5, c6, c7, c8, c9, c10, c11, c12, c13, c14⟩ := Box.c15 HZ.out.2
          obtain ⟨f0, f1, f2, f3, f4, f5, f6, f7, f8, f9, f10, f11, f12, f13, f14⟩ := Box.f15 HZ.out.2
          go_simp
          refine hK.out _ _ ⟨fun h => absurd rfl h, ?_⟩
          clear hK K c0 c1 c2 c3 c4 c5 c6 c7 c8 c9 c10 c11 c12 c13 c14 f0 f1 f2 f3 f4 f5 f6 f7 f8 f9 f10 f11 f12 f13 f14
          refine wpX_done (by kernel_rfl) ?_ _
          try simp only [Act.put, List.setIfInBounds_toArray, List.set_cons_zero, List.set_cons_succ]
          clear y0 y1 hS hS2
          go_wp2_with fail
          refine bodyPost_ret (res_rs rfl _ _ (w.heap.size + 1) (w.heap.size + 2) _ _ rfl rfl rfl rfl HF.out.1 HF.out.2.1) rfl ?_
          exact ⟨ka, kc, rfl, HF.out.2.2.1, HF.out.2.2.2⟩
end Go.Proofs.Ytdodagpkkjpdiaa
