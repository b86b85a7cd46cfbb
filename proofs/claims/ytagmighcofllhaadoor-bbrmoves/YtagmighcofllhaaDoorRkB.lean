/- The document's Acked: the rate, the round trip. -/
import Derived.Test.YtagmighcofllhaaDoorRkE
namespace Go.Proofs.YtagmighcofllhaaDoor
open Go.ChangeShapes Go.WideShapes Go.ChangeAt Go.RowKit
set_option linter.unusedVariables false
set_option linter.unusedSimpArgs false

open Fil
variable {ua ub uf ug uh ui uj uk ul um un uo up uq ur us ut uu uv uw ux uy uz uA uB uD uE uF uG uH uI uJ uK uL uM uN uO uP uQ uR uS uT uU uV uW uX uY uZ xa xb xc xd xe xf xg xh xi xj xk xl xm xn xo xp xq xr xs xt xu xv xw xx xy xz xA xB xD xE xF xG xH xI xJ xK xL xM xN xO xP xQ xR xS xT xU xV xW xX xY xZ za zb zc zd ze zf zg zh zi zj zk zl zm zn zo zp zq zr zs zt zu zv zw zx zy zz zA zB zD zE zF zG zH zI zJ zK zL zM zN zO zP zQ zR zS zT : Value}

set_option maxRecDepth 100000 in
set_option maxHeartbeats 4000000 in
theorem rkB_az (c : Cc) (s : Sm) (fs : List Tm) (A : Option Addr) (n k : Nat) (fresh : Bool) (w wc : World) (p q r : Nat) (fs2 : List Tm) (L : Nat) (b : Int) (h3 : Ok8 c) (hs : SmOk s) (hbv : bestV fs2 = b) (hb : 0 ≤ b ∧ b ≤ 1099511627776) (m1 : decide (0 < c.mr) = false) (m2 : (c.mr == 0) = true) (r1 : decide (0 < s.rt) = false)   {Post : Ending → World → Prop} (HX0 : Hid (Below w.heap.size w wc ∧ Box wc p 26 (ccL c) ∧ Box wc q 28 (smL s) ∧ Box wc r 26 (ccL zC) ∧ w.heap.size ≤ p ∧ p < q ∧ q < r ∧ Fil.RowT wc 0 A n k fs ∧ True)) (c1 : ∀ W, Fil.RowT W 0 A n k fs → Calls Tryd.prog 35 #[ccv c, agv (smL s)] W fun e w' => ∃ vb vj, e = .returned (ccv (rowed c vb L vj)) ∧ Fil.RowT w' 0 vb L vj fs2 ∧ Below W.heap.size W w') (HP : Hid (∀ W' vb vj, Below w.heap.size w W' → Fil.RowT W' 0 vb L vj fs2 → Post (.returned (.tuple #[ccv (rowed (tailD (jdgE c s fresh b) s false b) vb L vj), .int .i64 0])) W'))  :
    Code.wp Tryd.prog ((Tryd.f9.body.bind (fromA 10)).getD .skip) (bodyPost Tryd.prog Tryd.f9 Post) ⟨#[ua, ub, .pointer (some ⟨p, 0, none⟩), .pointer (some ⟨q, 0, none⟩), .pointer (some ⟨r, 0, none⟩), uf, .bool fresh, uh, ui, uj, uk, ul, um, un, uo, up, uq, ur, us, ut, uu, uv, uw, ux, uy, uz, uA, uB, uD, uE, uF, uG, uH, uI, uJ, uK, uL, uM, uN, uO, uP, uQ, uR, uS, uT, uU, uV, uW, uX, uY, uZ, xa, xb, xc, xd, xe, xf, xg, xh, xi, xj, xk, xl, xm, xn, xo, xp, xq, xr, xs, xt, xu, xv, xw, xx, xy, xz, xA, xB, xD, xE, xF, xG, xH, xI, xJ, xK, xL, xM, xN, xO, xP, xQ, xR, xS, xT, xU, xV, xW, xX, xY, xZ, za, zb, zc, zd, ze, zf, zg, zh, zi, zj, zk, zl, zm, zn, zo, zp, zq, zr, zs, zt, zu, zv, zw, zx, zy, zz, zA, zB, zD, zE, zF, zG, zH, zI, zJ, zK, zL, zM, zN, zO, zP, zQ, zR, zS, zT], []⟩ wc := by
  conv => arg 2; whnf
  go_wp2_with (first | (refine wpC_load rfl isC26 rfl rfl (HX0.out.2.1) ?_) | (refine wpS_load rfl rfl rfl (HX0.out.2.2.1) isS28 ?_) | fail)
  refine (c1 _ (HX0.out.2.2.2.2.2.2.2.1)).mono ?_
  rintro e w1 ⟨vb, vj, rfl, hR, hB⟩
  have HX1 : Hid (Below w.heap.size w w1 ∧ Box w1 p 26 (ccL c) ∧ Box w1 q 28 (smL s) ∧ Box w1 r 26 (ccL zC) ∧ w.heap.size ≤ p ∧ p < q ∧ q < r ∧ Fil.RowT w1 0 A n k fs ∧ Fil.RowT w1 0 vb L vj fs2 ∧ True) := by
    obtain ⟨hb, b0, b1, b2, l0, l1, l2, r0, _⟩ := HX0.out
    exact ⟨Below.on hb hB, b0.later hB, b1.later hB, b2.later hB, l0, l1, l2, r0.later hB, hR, trivial⟩
  clear hB hR HX0
  go_wp2_with (first | (refine wpC_store rfl isC26 rfl rfl rfl rfl (HX1.out.2.1) rfl ?_))
  intro X2 HN
  have HX2 : Hid (Below w.heap.size w X2 ∧ Box X2 p 26 (ccL (rowed c vb L vj)) ∧ Box X2 q 28 (smL s) ∧ Box X2 r 26 (ccL zC) ∧ w.heap.size ≤ p ∧ p < q ∧ q < r ∧ Fil.RowT X2 0 A n k fs ∧ Fil.RowT X2 0 vb L vj fs2 ∧ True) := by
    obtain ⟨hb, b0, b1, b2, l0, l1, l2, r0, r1, _⟩ := HX1.out
    obtain ⟨st, bn⟩ := HN.out
    exact ⟨st.below _ _ (by omega) hb, bn, b1.sto st (by omega), b2.sto st (by omega), l0, l1, l2, r0.sto b0 (by decide) st, r1.sto b0 (by decide) st, trivial⟩
  clear HN HX1
  clear c1
  have k12 : X2.cell? ⟨p, 12, none⟩ = some (.int .i64 c.mr) := Box.cell (HX2.out.2.1) 12 rfl
  have k13 : X2.cell? ⟨p, 13, none⟩ = some (.int .i64 c.ma) := Box.cell (HX2.out.2.1) 13 rfl
  have j0 := Box.cell (HX2.out.2.2.1) 0 rfl
  have j2 := Box.cell (HX2.out.2.2.1) 2 rfl
  have fz := fun i => Box.frozen (HX2.out.2.1) i
  go_upto_region 12 with fail
  rename_i K1 hgo K2 hin
  have HGO : Hid _ := hgo
  clear hgo
  go_wp2_with fail
  clear k12 k13 j0 j2 fz
  have HY : Hid (Below w.heap.size w X2 ∧ Box X2 p 26 (ccL (rowed c vb L vj)) ∧ Box X2 q 28 (smL s) ∧ Box X2 r 26 (ccL zC) ∧ w.heap.size ≤ p ∧ p < q ∧ q < r ∧ Fil.RowT X2 0 vb L vj fs2 ∧ True) := ⟨HX2.out.1, (HX2.out.2.1), (HX2.out.2.2.1), (HX2.out.2.2.2.1), HX2.out.2.2.2.2.1, HX2.out.2.2.2.2.2.1, HX2.out.2.2.2.2.2.2.1, (HX2.out.2.2.2.2.2.2.2.2.1), trivial⟩
  have HQ : Hid (∀ W', Below w.heap.size w W' → Fil.RowT W' 0 vb L vj fs2 → Post (.returned (.tuple #[ccv (tailD (jdgE (rowed c vb L vj) s fresh b) s false b), .int .i64 0])) W') := fun W' h1 h2 => by
    rw [jdg_rowed, tail_rowed]
    exact HP.out W' vb vj h1 h2
  clear HX2 HP
  refine HGO.out _ _ ?_
  exact rkE (rowed c vb L vj) s fs2 vb L vj fresh false w _ p q r b (ok_rowed h3 vb L vj) hs hbv hb rfl rfl HY HQ

set_option maxRecDepth 100000 in
set_option maxHeartbeats 4000000 in
theorem rkB_ag (c : Cc) (s : Sm) (fs : List Tm) (A : Option Addr) (n k : Nat) (fresh : Bool) (w wc : World) (p q r : Nat) (fs2 : List Tm) (L : Nat) (b : Int) (h3 : Ok8 c) (hs : SmOk s) (hbv : bestV fs2 = b) (hb : 0 ≤ b ∧ b ≤ 1099511627776) (m1 : decide (0 < c.mr) = false) (m2 : (c.mr == 0) = true) (r1 : decide (0 < s.rt) = true)   {Post : Ending → World → Prop} (HX0 : Hid (Below w.heap.size w wc ∧ Box wc p 26 (ccL c) ∧ Box wc q 28 (smL s) ∧ Box wc r 26 (ccL zC) ∧ w.heap.size ≤ p ∧ p < q ∧ q < r ∧ Fil.RowT wc 0 A n k fs ∧ True)) (c1 : ∀ W, Fil.RowT W 0 A n k fs → Calls Tryd.prog 35 #[ccv c, agv (smL s)] W fun e w' => ∃ vb vj, e = .returned (ccv (rowed c vb L vj)) ∧ Fil.RowT w' 0 vb L vj fs2 ∧ Below W.heap.size W w') (HP : Hid (∀ W' vb vj, Below w.heap.size w W' → Fil.RowT W' 0 vb L vj fs2 → Post (.returned (.tuple #[ccv (rowed (tailD (jdgE { c with mr := s.rt, ma := s.nw } s fresh b) s false b) vb L vj), .int .i64 0])) W'))  :
    Code.wp Tryd.prog ((Tryd.f9.body.bind (fromA 10)).getD .skip) (bodyPost Tryd.prog Tryd.f9 Post) ⟨#[ua, ub, .pointer (some ⟨p, 0, none⟩), .pointer (some ⟨q, 0, none⟩), .pointer (some ⟨r, 0, none⟩), uf, .bool fresh, uh, ui, uj, uk, ul, um, un, uo, up, uq, ur, us, ut, uu, uv, uw, ux, uy, uz, uA, uB, uD, uE, uF, uG, uH, uI, uJ, uK, uL, uM, uN, uO, uP, uQ, uR, uS, uT, uU, uV, uW, uX, uY, uZ, xa, xb, xc, xd, xe, xf, xg, xh, xi, xj, xk, xl, xm, xn, xo, xp, xq, xr, xs, xt, xu, xv, xw, xx, xy, xz, xA, xB, xD, xE, xF, xG, xH, xI, xJ, xK, xL, xM, xN, xO, xP, xQ, xR, xS, xT, xU, xV, xW, xX, xY, xZ, za, zb, zc, zd, ze, zf, zg, zh, zi, zj, zk, zl, zm, zn, zo, zp, zq, zr, zs, zt, zu, zv, zw, zx, zy, zz, zA, zB, zD, zE, zF, zG, zH, zI, zJ, zK, zL, zM, zN, zO, zP, zQ, zR, zS, zT], []⟩ wc := by
  conv => arg 2; whnf
  go_wp2_with (first | (refine wpC_load rfl isC26 rfl rfl (HX0.out.2.1) ?_) | (refine wpS_load rfl rfl rfl (HX0.out.2.2.1) isS28 ?_) | fail)
  refine (c1 _ (HX0.out.2.2.2.2.2.2.2.1)).mono ?_
  rintro e w1 ⟨vb, vj, rfl, hR, hB⟩
  have HX1 : Hid (Below w.heap.size w w1 ∧ Box w1 p 26 (ccL c) ∧ Box w1 q 28 (smL s) ∧ Box w1 r 26 (ccL zC) ∧ w.heap.size ≤ p ∧ p < q ∧ q < r ∧ Fil.RowT w1 0 A n k fs ∧ Fil.RowT w1 0 vb L vj fs2 ∧ True) := by
    obtain ⟨hb, b0, b1, b2, l0, l1, l2, r0, _⟩ := HX0.out
    exact ⟨Below.on hb hB, b0.later hB, b1.later hB, b2.later hB, l0, l1, l2, r0.later hB, hR, trivial⟩
  clear hB hR HX0
  go_wp2_with (first | (refine wpC_store rfl isC26 rfl rfl rfl rfl (HX1.out.2.1) rfl ?_))
  intro X2 HN
  have HX2 : Hid (Below w.heap.size w X2 ∧ Box X2 p 26 (ccL (rowed c vb L vj)) ∧ Box X2 q 28 (smL s) ∧ Box X2 r 26 (ccL zC) ∧ w.heap.size ≤ p ∧ p < q ∧ q < r ∧ Fil.RowT X2 0 A n k fs ∧ Fil.RowT X2 0 vb L vj fs2 ∧ True) := by
    obtain ⟨hb, b0, b1, b2, l0, l1, l2, r0, r1, _⟩ := HX1.out
    obtain ⟨st, bn⟩ := HN.out
    exact ⟨st.below _ _ (by omega) hb, bn, b1.sto st (by omega), b2.sto st (by omega), l0, l1, l2, r0.sto b0 (by decide) st, r1.sto b0 (by decide) st, trivial⟩
  clear HN HX1
  clear c1
  have k12 : X2.cell? ⟨p, 12, none⟩ = some (.int .i64 c.mr) := Box.cell (HX2.out.2.1) 12 rfl
  have k13 : X2.cell? ⟨p, 13, none⟩ = some (.int .i64 c.ma) := Box.cell (HX2.out.2.1) 13 rfl
  have j0 := Box.cell (HX2.out.2.2.1) 0 rfl
  have j2 := Box.cell (HX2.out.2.2.1) 2 rfl
  have fz := fun i => Box.frozen (HX2.out.2.1) i
  go_upto_region 12 with fail
  rename_i K1 hgo K2 hin
  have HGO : Hid _ := hgo
  clear hgo
  go_wp2_with fail
  obtain ⟨X3, hX⟩ : ∃ X, ((X2.setCell ⟨p, 12, none⟩ (.int .i64 s.rt)).setCell ⟨p, 13, none⟩ (.int .i64 s.nw)) = X := ⟨_, rfl⟩
  try rw [hX]
  have HX3 : Hid (Below w.heap.size w X3 ∧ Box X3 p 26 (ccL (rowed { c with mr := s.rt, ma := s.nw } vb L vj)) ∧ Box X3 q 28 (smL s) ∧ Box X3 r 26 (ccL zC) ∧ w.heap.size ≤ p ∧ p < q ∧ q < r ∧ Fil.RowT X3 0 A n k fs ∧ Fil.RowT X3 0 vb L vj fs2 ∧ True) := by
    obtain ⟨hb, b0, b1, b2, l0, l1, l2, r0, r1, _⟩ := HX2.out
    have st : Sto X2 p X3 := by rw [← hX]; exact (((Sto.refl X2 p).set 12 _).set 13 _)
    have bn : Box X3 p 26 (ccL (rowed { c with mr := s.rt, ma := s.nw } vb L vj)) := by rw [← hX]; exact box_to ((b0.set 12 _).set 13 _) rfl
    exact ⟨st.below _ _ (by omega) hb, bn, b1.sto st (by omega), b2.sto st (by omega), l0, l1, l2, r0.sto b0 (by decide) st, r1.sto b0 (by decide) st, trivial⟩
  clear hX HX2
  clear k12 k13 j0 j2 fz
  have HY : Hid (Below w.heap.size w X3 ∧ Box X3 p 26 (ccL (rowed { c with mr := s.rt, ma := s.nw } vb L vj)) ∧ Box X3 q 28 (smL s) ∧ Box X3 r 26 (ccL zC) ∧ w.heap.size ≤ p ∧ p < q ∧ q < r ∧ Fil.RowT X3 0 vb L vj fs2 ∧ True) := ⟨HX3.out.1, (HX3.out.2.1), (HX3.out.2.2.1), (HX3.out.2.2.2.1), HX3.out.2.2.2.2.1, HX3.out.2.2.2.2.2.1, HX3.out.2.2.2.2.2.2.1, (HX3.out.2.2.2.2.2.2.2.2.1), trivial⟩
  have HQ : Hid (∀ W', Below w.heap.size w W' → Fil.RowT W' 0 vb L vj fs2 → Post (.returned (.tuple #[ccv (tailD (jdgE (rowed { c with mr := s.rt, ma := s.nw } vb L vj) s fresh b) s false b), .int .i64 0])) W') := fun W' h1 h2 => by
    rw [jdg_rowed, tail_rowed]
    exact HP.out W' vb vj h1 h2
  clear HX3 HP
  refine HGO.out _ _ ?_
  exact rkE (rowed { c with mr := s.rt, ma := s.nw } vb L vj) s fs2 vb L vj fresh false w _ p q r b (ok_rowed (c := { c with mr := s.rt, ma := s.nw }) { h3 with mr := hs.rt, ma := hs.nw } vb L vj) hs hbv hb rfl rfl HY HQ

set_option maxRecDepth 100000 in
set_option maxHeartbeats 4000000 in
theorem rkB_oz (c : Cc) (s : Sm) (fs : List Tm) (A : Option Addr) (n k : Nat) (fresh : Bool) (w wc : World) (p q r : Nat) (fs2 : List Tm) (L : Nat) (b : Int) (h3 : Ok8 c) (hs : SmOk s) (hbv : bestV fs2 = b) (hb : 0 ≤ b ∧ b ≤ 1099511627776) (m1 : decide (0 < c.mr) = true) (m2 : (c.mr == 0) = false) (wr : IntKind.i64.wrap (s.nw - c.ma) = s.nw - c.ma) (o1 : decide (10000000 < s.nw - c.ma) = true) (r1 : decide (0 < s.rt) = false)   {Post : Ending → World → Prop} (HX0 : Hid (Below w.heap.size w wc ∧ Box wc p 26 (ccL c) ∧ Box wc q 28 (smL s) ∧ Box wc r 26 (ccL zC) ∧ w.heap.size ≤ p ∧ p < q ∧ q < r ∧ Fil.RowT wc 0 A n k fs ∧ True)) (c1 : ∀ W, Fil.RowT W 0 A n k fs → Calls Tryd.prog 35 #[ccv c, agv (smL s)] W fun e w' => ∃ vb vj, e = .returned (ccv (rowed c vb L vj)) ∧ Fil.RowT w' 0 vb L vj fs2 ∧ Below W.heap.size W w') (HP : Hid (∀ W' vb vj, Below w.heap.size w W' → Fil.RowT W' 0 vb L vj fs2 → Post (.returned (.tuple #[ccv (rowed (tailD (jdgE c s fresh b) s true b) vb L vj), .int .i64 0])) W'))  :
    Code.wp Tryd.prog ((Tryd.f9.body.bind (fromA 10)).getD .skip) (bodyPost Tryd.prog Tryd.f9 Post) ⟨#[ua, ub, .pointer (some ⟨p, 0, none⟩), .pointer (some ⟨q, 0, none⟩), .pointer (some ⟨r, 0, none⟩), uf, .bool fresh, uh, ui, uj, uk, ul, um, un, uo, up, uq, ur, us, ut, uu, uv, uw, ux, uy, uz, uA, uB, uD, uE, uF, uG, uH, uI, uJ, uK, uL, uM, uN, uO, uP, uQ, uR, uS, uT, uU, uV, uW, uX, uY, uZ, xa, xb, xc, xd, xe, xf, xg, xh, xi, xj, xk, xl, xm, xn, xo, xp, xq, xr, xs, xt, xu, xv, xw, xx, xy, xz, xA, xB, xD, xE, xF, xG, xH, xI, xJ, xK, xL, xM, xN, xO, xP, xQ, xR, xS, xT, xU, xV, xW, xX, xY, xZ, za, zb, zc, zd, ze, zf, zg, zh, zi, zj, zk, zl, zm, zn, zo, zp, zq, zr, zs, zt, zu, zv, zw, zx, zy, zz, zA, zB, zD, zE, zF, zG, zH, zI, zJ, zK, zL, zM, zN, zO, zP, zQ, zR, zS, zT], []⟩ wc := by
  conv => arg 2; whnf
  go_wp2_with (first | (refine wpC_load rfl isC26 rfl rfl (HX0.out.2.1) ?_) | (refine wpS_load rfl rfl rfl (HX0.out.2.2.1) isS28 ?_) | fail)
  refine (c1 _ (HX0.out.2.2.2.2.2.2.2.1)).mono ?_
  rintro e w1 ⟨vb, vj, rfl, hR, hB⟩
  have HX1 : Hid (Below w.heap.size w w1 ∧ Box w1 p 26 (ccL c) ∧ Box w1 q 28 (smL s) ∧ Box w1 r 26 (ccL zC) ∧ w.heap.size ≤ p ∧ p < q ∧ q < r ∧ Fil.RowT w1 0 A n k fs ∧ Fil.RowT w1 0 vb L vj fs2 ∧ True) := by
    obtain ⟨hb, b0, b1, b2, l0, l1, l2, r0, _⟩ := HX0.out
    exact ⟨Below.on hb hB, b0.later hB, b1.later hB, b2.later hB, l0, l1, l2, r0.later hB, hR, trivial⟩
  clear hB hR HX0
  go_wp2_with (first | (refine wpC_store rfl isC26 rfl rfl rfl rfl (HX1.out.2.1) rfl ?_))
  intro X2 HN
  have HX2 : Hid (Below w.heap.size w X2 ∧ Box X2 p 26 (ccL (rowed c vb L vj)) ∧ Box X2 q 28 (smL s) ∧ Box X2 r 26 (ccL zC) ∧ w.heap.size ≤ p ∧ p < q ∧ q < r ∧ Fil.RowT X2 0 A n k fs ∧ Fil.RowT X2 0 vb L vj fs2 ∧ True) := by
    obtain ⟨hb, b0, b1, b2, l0, l1, l2, r0, r1, _⟩ := HX1.out
    obtain ⟨st, bn⟩ := HN.out
    exact ⟨st.below _ _ (by omega) hb, bn, b1.sto st (by omega), b2.sto st (by omega), l0, l1, l2, r0.sto b0 (by decide) st, r1.sto b0 (by decide) st, trivial⟩
  clear HN HX1
  clear c1
  have k12 : X2.cell? ⟨p, 12, none⟩ = some (.int .i64 c.mr) := Box.cell (HX2.out.2.1) 12 rfl
  have k13 : X2.cell? ⟨p, 13, none⟩ = some (.int .i64 c.ma) := Box.cell (HX2.out.2.1) 13 rfl
  have j0 := Box.cell (HX2.out.2.2.1) 0 rfl
  have j2 := Box.cell (HX2.out.2.2.1) 2 rfl
  have fz := fun i => Box.frozen (HX2.out.2.1) i
  go_upto_region 12 with fail
  rename_i K1 hgo K2 hin
  have HGO : Hid _ := hgo
  clear hgo
  go_wp2_with fail
  clear k12 k13 j0 j2 fz
  have HY : Hid (Below w.heap.size w X2 ∧ Box X2 p 26 (ccL (rowed c vb L vj)) ∧ Box X2 q 28 (smL s) ∧ Box X2 r 26 (ccL zC) ∧ w.heap.size ≤ p ∧ p < q ∧ q < r ∧ Fil.RowT X2 0 vb L vj fs2 ∧ True) := ⟨HX2.out.1, (HX2.out.2.1), (HX2.out.2.2.1), (HX2.out.2.2.2.1), HX2.out.2.2.2.2.1, HX2.out.2.2.2.2.2.1, HX2.out.2.2.2.2.2.2.1, (HX2.out.2.2.2.2.2.2.2.2.1), trivial⟩
  have HQ : Hid (∀ W', Below w.heap.size w W' → Fil.RowT W' 0 vb L vj fs2 → Post (.returned (.tuple #[ccv (tailD (jdgE (rowed c vb L vj) s fresh b) s true b), .int .i64 0])) W') := fun W' h1 h2 => by
    rw [jdg_rowed, tail_rowed]
    exact HP.out W' vb vj h1 h2
  clear HX2 HP
  refine HGO.out _ _ ?_
  exact rkE (rowed c vb L vj) s fs2 vb L vj fresh true w _ p q r b (ok_rowed h3 vb L vj) hs hbv hb rfl rfl HY HQ

set_option maxRecDepth 100000 in
set_option maxHeartbeats 4000000 in
theorem rkB_ol (c : Cc) (s : Sm) (fs : List Tm) (A : Option Addr) (n k : Nat) (fresh : Bool) (w wc : World) (p q r : Nat) (fs2 : List Tm) (L : Nat) (b : Int) (h3 : Ok8 c) (hs : SmOk s) (hbv : bestV fs2 = b) (hb : 0 ≤ b ∧ b ≤ 1099511627776) (m1 : decide (0 < c.mr) = true) (m2 : (c.mr == 0) = false) (wr : IntKind.i64.wrap (s.nw - c.ma) = s.nw - c.ma) (o1 : decide (10000000 < s.nw - c.ma) = true) (r1 : decide (0 < s.rt) = true) (r2 : decide (s.rt ≤ c.mr) = true)   {Post : Ending → World → Prop} (HX0 : Hid (Below w.heap.size w wc ∧ Box wc p 26 (ccL c) ∧ Box wc q 28 (smL s) ∧ Box wc r 26 (ccL zC) ∧ w.heap.size ≤ p ∧ p < q ∧ q < r ∧ Fil.RowT wc 0 A n k fs ∧ True)) (c1 : ∀ W, Fil.RowT W 0 A n k fs → Calls Tryd.prog 35 #[ccv c, agv (smL s)] W fun e w' => ∃ vb vj, e = .returned (ccv (rowed c vb L vj)) ∧ Fil.RowT w' 0 vb L vj fs2 ∧ Below W.heap.size W w') (HP : Hid (∀ W' vb vj, Below w.heap.size w W' → Fil.RowT W' 0 vb L vj fs2 → Post (.returned (.tuple #[ccv (rowed (tailD (jdgE { c with mr := s.rt, ma := s.nw } s fresh b) s true b) vb L vj), .int .i64 0])) W'))  :
    Code.wp Tryd.prog ((Tryd.f9.body.bind (fromA 10)).getD .skip) (bodyPost Tryd.prog Tryd.f9 Post) ⟨#[ua, ub, .pointer (some ⟨p, 0, none⟩), .pointer (some ⟨q, 0, none⟩), .pointer (some ⟨r, 0, none⟩), uf, .bool fresh, uh, ui, uj, uk, ul, um, un, uo, up, uq, ur, us, ut, uu, uv, uw, ux, uy, uz, uA, uB, uD, uE, uF, uG, uH, uI, uJ, uK, uL, uM, uN, uO, uP, uQ, uR, uS, uT, uU, uV, uW, uX, uY, uZ, xa, xb, xc, xd, xe, xf, xg, xh, xi, xj, xk, xl, xm, xn, xo, xp, xq, xr, xs, xt, xu, xv, xw, xx, xy, xz, xA, xB, xD, xE, xF, xG, xH, xI, xJ, xK, xL, xM, xN, xO, xP, xQ, xR, xS, xT, xU, xV, xW, xX, xY, xZ, za, zb, zc, zd, ze, zf, zg, zh, zi, zj, zk, zl, zm, zn, zo, zp, zq, zr, zs, zt, zu, zv, zw, zx, zy, zz, zA, zB, zD, zE, zF, zG, zH, zI, zJ, zK, zL, zM, zN, zO, zP, zQ, zR, zS, zT], []⟩ wc := by
  conv => arg 2; whnf
  go_wp2_with (first | (refine wpC_load rfl isC26 rfl rfl (HX0.out.2.1) ?_) | (refine wpS_load rfl rfl rfl (HX0.out.2.2.1) isS28 ?_) | fail)
  refine (c1 _ (HX0.out.2.2.2.2.2.2.2.1)).mono ?_
  rintro e w1 ⟨vb, vj, rfl, hR, hB⟩
  have HX1 : Hid (Below w.heap.size w w1 ∧ Box w1 p 26 (ccL c) ∧ Box w1 q 28 (smL s) ∧ Box w1 r 26 (ccL zC) ∧ w.heap.size ≤ p ∧ p < q ∧ q < r ∧ Fil.RowT w1 0 A n k fs ∧ Fil.RowT w1 0 vb L vj fs2 ∧ True) := by
    obtain ⟨hb, b0, b1, b2, l0, l1, l2, r0, _⟩ := HX0.out
    exact ⟨Below.on hb hB, b0.later hB, b1.later hB, b2.later hB, l0, l1, l2, r0.later hB, hR, trivial⟩
  clear hB hR HX0
  go_wp2_with (first | (refine wpC_store rfl isC26 rfl rfl rfl rfl (HX1.out.2.1) rfl ?_))
  intro X2 HN
  have HX2 : Hid (Below w.heap.size w X2 ∧ Box X2 p 26 (ccL (rowed c vb L vj)) ∧ Box X2 q 28 (smL s) ∧ Box X2 r 26 (ccL zC) ∧ w.heap.size ≤ p ∧ p < q ∧ q < r ∧ Fil.RowT X2 0 A n k fs ∧ Fil.RowT X2 0 vb L vj fs2 ∧ True) := by
    obtain ⟨hb, b0, b1, b2, l0, l1, l2, r0, r1, _⟩ := HX1.out
    obtain ⟨st, bn⟩ := HN.out
    exact ⟨st.below _ _ (by omega) hb, bn, b1.sto st (by omega), b2.sto st (by omega), l0, l1, l2, r0.sto b0 (by decide) st, r1.sto b0 (by decide) st, trivial⟩
  clear HN HX1
  clear c1
  have k12 : X2.cell? ⟨p, 12, none⟩ = some (.int .i64 c.mr) := Box.cell (HX2.out.2.1) 12 rfl
  have k13 : X2.cell? ⟨p, 13, none⟩ = some (.int .i64 c.ma) := Box.cell (HX2.out.2.1) 13 rfl
  have j0 := Box.cell (HX2.out.2.2.1) 0 rfl
  have j2 := Box.cell (HX2.out.2.2.1) 2 rfl
  have fz := fun i => Box.frozen (HX2.out.2.1) i
  go_upto_region 12 with fail
  rename_i K1 hgo K2 hin
  have HGO : Hid _ := hgo
  clear hgo
  go_wp2_with fail
  obtain ⟨X3, hX⟩ : ∃ X, ((X2.setCell ⟨p, 12, none⟩ (.int .i64 s.rt)).setCell ⟨p, 13, none⟩ (.int .i64 s.nw)) = X := ⟨_, rfl⟩
  try rw [hX]
  have HX3 : Hid (Below w.heap.size w X3 ∧ Box X3 p 26 (ccL (rowed { c with mr := s.rt, ma := s.nw } vb L vj)) ∧ Box X3 q 28 (smL s) ∧ Box X3 r 26 (ccL zC) ∧ w.heap.size ≤ p ∧ p < q ∧ q < r ∧ Fil.RowT X3 0 A n k fs ∧ Fil.RowT X3 0 vb L vj fs2 ∧ True) := by
    obtain ⟨hb, b0, b1, b2, l0, l1, l2, r0, r1, _⟩ := HX2.out
    have st : Sto X2 p X3 := by rw [← hX]; exact (((Sto.refl X2 p).set 12 _).set 13 _)
    have bn : Box X3 p 26 (ccL (rowed { c with mr := s.rt, ma := s.nw } vb L vj)) := by rw [← hX]; exact box_to ((b0.set 12 _).set 13 _) rfl
    exact ⟨st.below _ _ (by omega) hb, bn, b1.sto st (by omega), b2.sto st (by omega), l0, l1, l2, r0.sto b0 (by decide) st, r1.sto b0 (by decide) st, trivial⟩
  clear hX HX2
  clear k12 k13 j0 j2 fz
  have HY : Hid (Below w.heap.size w X3 ∧ Box X3 p 26 (ccL (rowed { c with mr := s.rt, ma := s.nw } vb L vj)) ∧ Box X3 q 28 (smL s) ∧ Box X3 r 26 (ccL zC) ∧ w.heap.size ≤ p ∧ p < q ∧ q < r ∧ Fil.RowT X3 0 vb L vj fs2 ∧ True) := ⟨HX3.out.1, (HX3.out.2.1), (HX3.out.2.2.1), (HX3.out.2.2.2.1), HX3.out.2.2.2.2.1, HX3.out.2.2.2.2.2.1, HX3.out.2.2.2.2.2.2.1, (HX3.out.2.2.2.2.2.2.2.2.1), trivial⟩
  have HQ : Hid (∀ W', Below w.heap.size w W' → Fil.RowT W' 0 vb L vj fs2 → Post (.returned (.tuple #[ccv (tailD (jdgE (rowed { c with mr := s.rt, ma := s.nw } vb L vj) s fresh b) s true b), .int .i64 0])) W') := fun W' h1 h2 => by
    rw [jdg_rowed, tail_rowed]
    exact HP.out W' vb vj h1 h2
  clear HX3 HP
  refine HGO.out _ _ ?_
  exact rkE (rowed { c with mr := s.rt, ma := s.nw } vb L vj) s fs2 vb L vj fresh true w _ p q r b (ok_rowed (c := { c with mr := s.rt, ma := s.nw }) { h3 with mr := hs.rt, ma := hs.nw } vb L vj) hs hbv hb rfl rfl HY HQ

set_option maxRecDepth 100000 in
set_option maxHeartbeats 4000000 in
theorem rkB_og (c : Cc) (s : Sm) (fs : List Tm) (A : Option Addr) (n k : Nat) (fresh : Bool) (w wc : World) (p q r : Nat) (fs2 : List Tm) (L : Nat) (b : Int) (h3 : Ok8 c) (hs : SmOk s) (hbv : bestV fs2 = b) (hb : 0 ≤ b ∧ b ≤ 1099511627776) (m1 : decide (0 < c.mr) = true) (m2 : (c.mr == 0) = false) (wr : IntKind.i64.wrap (s.nw - c.ma) = s.nw - c.ma) (o1 : decide (10000000 < s.nw - c.ma) = true) (r1 : decide (0 < s.rt) = true) (r2 : decide (s.rt ≤ c.mr) = false)   {Post : Ending → World → Prop} (HX0 : Hid (Below w.heap.size w wc ∧ Box wc p 26 (ccL c) ∧ Box wc q 28 (smL s) ∧ Box wc r 26 (ccL zC) ∧ w.heap.size ≤ p ∧ p < q ∧ q < r ∧ Fil.RowT wc 0 A n k fs ∧ True)) (c1 : ∀ W, Fil.RowT W 0 A n k fs → Calls Tryd.prog 35 #[ccv c, agv (smL s)] W fun e w' => ∃ vb vj, e = .returned (ccv (rowed c vb L vj)) ∧ Fil.RowT w' 0 vb L vj fs2 ∧ Below W.heap.size W w') (HP : Hid (∀ W' vb vj, Below w.heap.size w W' → Fil.RowT W' 0 vb L vj fs2 → Post (.returned (.tuple #[ccv (rowed (tailD (jdgE { c with mr := s.rt, ma := s.nw } s fresh b) s true b) vb L vj), .int .i64 0])) W'))  :
    Code.wp Tryd.prog ((Tryd.f9.body.bind (fromA 10)).getD .skip) (bodyPost Tryd.prog Tryd.f9 Post) ⟨#[ua, ub, .pointer (some ⟨p, 0, none⟩), .pointer (some ⟨q, 0, none⟩), .pointer (some ⟨r, 0, none⟩), uf, .bool fresh, uh, ui, uj, uk, ul, um, un, uo, up, uq, ur, us, ut, uu, uv, uw, ux, uy, uz, uA, uB, uD, uE, uF, uG, uH, uI, uJ, uK, uL, uM, uN, uO, uP, uQ, uR, uS, uT, uU, uV, uW, uX, uY, uZ, xa, xb, xc, xd, xe, xf, xg, xh, xi, xj, xk, xl, xm, xn, xo, xp, xq, xr, xs, xt, xu, xv, xw, xx, xy, xz, xA, xB, xD, xE, xF, xG, xH, xI, xJ, xK, xL, xM, xN, xO, xP, xQ, xR, xS, xT, xU, xV, xW, xX, xY, xZ, za, zb, zc, zd, ze, zf, zg, zh, zi, zj, zk, zl, zm, zn, zo, zp, zq, zr, zs, zt, zu, zv, zw, zx, zy, zz, zA, zB, zD, zE, zF, zG, zH, zI, zJ, zK, zL, zM, zN, zO, zP, zQ, zR, zS, zT], []⟩ wc := by
  conv => arg 2; whnf
  go_wp2_with (first | (refine wpC_load rfl isC26 rfl rfl (HX0.out.2.1) ?_) | (refine wpS_load rfl rfl rfl (HX0.out.2.2.1) isS28 ?_) | fail)
  refine (c1 _ (HX0.out.2.2.2.2.2.2.2.1)).mono ?_
  rintro e w1 ⟨vb, vj, rfl, hR, hB⟩
  have HX1 : Hid (Below w.heap.size w w1 ∧ Box w1 p 26 (ccL c) ∧ Box w1 q 28 (smL s) ∧ Box w1 r 26 (ccL zC) ∧ w.heap.size ≤ p ∧ p < q ∧ q < r ∧ Fil.RowT w1 0 A n k fs ∧ Fil.RowT w1 0 vb L vj fs2 ∧ True) := by
    obtain ⟨hb, b0, b1, b2, l0, l1, l2, r0, _⟩ := HX0.out
    exact ⟨Below.on hb hB, b0.later hB, b1.later hB, b2.later hB, l0, l1, l2, r0.later hB, hR, trivial⟩
  clear hB hR HX0
  go_wp2_with (first | (refine wpC_store rfl isC26 rfl rfl rfl rfl (HX1.out.2.1) rfl ?_))
  intro X2 HN
  have HX2 : Hid (Below w.heap.size w X2 ∧ Box X2 p 26 (ccL (rowed c vb L vj)) ∧ Box X2 q 28 (smL s) ∧ Box X2 r 26 (ccL zC) ∧ w.heap.size ≤ p ∧ p < q ∧ q < r ∧ Fil.RowT X2 0 A n k fs ∧ Fil.RowT X2 0 vb L vj fs2 ∧ True) := by
    obtain ⟨hb, b0, b1, b2, l0, l1, l2, r0, r1, _⟩ := HX1.out
    obtain ⟨st, bn⟩ := HN.out
    exact ⟨st.below _ _ (by omega) hb, bn, b1.sto st (by omega), b2.sto st (by omega), l0, l1, l2, r0.sto b0 (by decide) st, r1.sto b0 (by decide) st, trivial⟩
  clear HN HX1
  clear c1
  have k12 : X2.cell? ⟨p, 12, none⟩ = some (.int .i64 c.mr) := Box.cell (HX2.out.2.1) 12 rfl
  have k13 : X2.cell? ⟨p, 13, none⟩ = some (.int .i64 c.ma) := Box.cell (HX2.out.2.1) 13 rfl
  have j0 := Box.cell (HX2.out.2.2.1) 0 rfl
  have j2 := Box.cell (HX2.out.2.2.1) 2 rfl
  have fz := fun i => Box.frozen (HX2.out.2.1) i
  go_upto_region 12 with fail
  rename_i K1 hgo K2 hin
  have HGO : Hid _ := hgo
  clear hgo
  go_wp2_with fail
  obtain ⟨X3, hX⟩ : ∃ X, ((X2.setCell ⟨p, 12, none⟩ (.int .i64 s.rt)).setCell ⟨p, 13, none⟩ (.int .i64 s.nw)) = X := ⟨_, rfl⟩
  try rw [hX]
  have HX3 : Hid (Below w.heap.size w X3 ∧ Box X3 p 26 (ccL (rowed { c with mr := s.rt, ma := s.nw } vb L vj)) ∧ Box X3 q 28 (smL s) ∧ Box X3 r 26 (ccL zC) ∧ w.heap.size ≤ p ∧ p < q ∧ q < r ∧ Fil.RowT X3 0 A n k fs ∧ Fil.RowT X3 0 vb L vj fs2 ∧ True) := by
    obtain ⟨hb, b0, b1, b2, l0, l1, l2, r0, r1, _⟩ := HX2.out
    have st : Sto X2 p X3 := by rw [← hX]; exact (((Sto.refl X2 p).set 12 _).set 13 _)
    have bn : Box X3 p 26 (ccL (rowed { c with mr := s.rt, ma := s.nw } vb L vj)) := by rw [← hX]; exact box_to ((b0.set 12 _).set 13 _) rfl
    exact ⟨st.below _ _ (by omega) hb, bn, b1.sto st (by omega), b2.sto st (by omega), l0, l1, l2, r0.sto b0 (by decide) st, r1.sto b0 (by decide) st, trivial⟩
  clear hX HX2
  clear k12 k13 j0 j2 fz
  have HY : Hid (Below w.heap.size w X3 ∧ Box X3 p 26 (ccL (rowed { c with mr := s.rt, ma := s.nw } vb L vj)) ∧ Box X3 q 28 (smL s) ∧ Box X3 r 26 (ccL zC) ∧ w.heap.size ≤ p ∧ p < q ∧ q < r ∧ Fil.RowT X3 0 vb L vj fs2 ∧ True) := ⟨HX3.out.1, (HX3.out.2.1), (HX3.out.2.2.1), (HX3.out.2.2.2.1), HX3.out.2.2.2.2.1, HX3.out.2.2.2.2.2.1, HX3.out.2.2.2.2.2.2.1, (HX3.out.2.2.2.2.2.2.2.2.1), trivial⟩
  have HQ : Hid (∀ W', Below w.heap.size w W' → Fil.RowT W' 0 vb L vj fs2 → Post (.returned (.tuple #[ccv (tailD (jdgE (rowed { c with mr := s.rt, ma := s.nw } vb L vj) s fresh b) s true b), .int .i64 0])) W') := fun W' h1 h2 => by
    rw [jdg_rowed, tail_rowed]
    exact HP.out W' vb vj h1 h2
  clear HX3 HP
  refine HGO.out _ _ ?_
  exact rkE (rowed { c with mr := s.rt, ma := s.nw } vb L vj) s fs2 vb L vj fresh true w _ p q r b (ok_rowed (c := { c with mr := s.rt, ma := s.nw }) { h3 with mr := hs.rt, ma := hs.nw } vb L vj) hs hbv hb rfl rfl HY HQ

set_option maxRecDepth 100000 in
set_option maxHeartbeats 4000000 in
theorem rkB_nz (c : Cc) (s : Sm) (fs : List Tm) (A : Option Addr) (n k : Nat) (fresh : Bool) (w wc : World) (p q r : Nat) (fs2 : List Tm) (L : Nat) (b : Int) (h3 : Ok8 c) (hs : SmOk s) (hbv : bestV fs2 = b) (hb : 0 ≤ b ∧ b ≤ 1099511627776) (m1 : decide (0 < c.mr) = true) (m2 : (c.mr == 0) = false) (wr : IntKind.i64.wrap (s.nw - c.ma) = s.nw - c.ma) (o1 : decide (10000000 < s.nw - c.ma) = false) (r1 : decide (0 < s.rt) = false)   {Post : Ending → World → Prop} (HX0 : Hid (Below w.heap.size w wc ∧ Box wc p 26 (ccL c) ∧ Box wc q 28 (smL s) ∧ Box wc r 26 (ccL zC) ∧ w.heap.size ≤ p ∧ p < q ∧ q < r ∧ Fil.RowT wc 0 A n k fs ∧ True)) (c1 : ∀ W, Fil.RowT W 0 A n k fs → Calls Tryd.prog 35 #[ccv c, agv (smL s)] W fun e w' => ∃ vb vj, e = .returned (ccv (rowed c vb L vj)) ∧ Fil.RowT w' 0 vb L vj fs2 ∧ Below W.heap.size W w') (HP : Hid (∀ W' vb vj, Below w.heap.size w W' → Fil.RowT W' 0 vb L vj fs2 → Post (.returned (.tuple #[ccv (rowed (tailD (jdgE c s fresh b) s false b) vb L vj), .int .i64 0])) W'))  :
    Code.wp Tryd.prog ((Tryd.f9.body.bind (fromA 10)).getD .skip) (bodyPost Tryd.prog Tryd.f9 Post) ⟨#[ua, ub, .pointer (some ⟨p, 0, none⟩), .pointer (some ⟨q, 0, none⟩), .pointer (some ⟨r, 0, none⟩), uf, .bool fresh, uh, ui, uj, uk, ul, um, un, uo, up, uq, ur, us, ut, uu, uv, uw, ux, uy, uz, uA, uB, uD, uE, uF, uG, uH, uI, uJ, uK, uL, uM, uN, uO, uP, uQ, uR, uS, uT, uU, uV, uW, uX, uY, uZ, xa, xb, xc, xd, xe, xf, xg, xh, xi, xj, xk, xl, xm, xn, xo, xp, xq, xr, xs, xt, xu, xv, xw, xx, xy, xz, xA, xB, xD, xE, xF, xG, xH, xI, xJ, xK, xL, xM, xN, xO, xP, xQ, xR, xS, xT, xU, xV, xW, xX, xY, xZ, za, zb, zc, zd, ze, zf, zg, zh, zi, zj, zk, zl, zm, zn, zo, zp, zq, zr, zs, zt, zu, zv, zw, zx, zy, zz, zA, zB, zD, zE, zF, zG, zH, zI, zJ, zK, zL, zM, zN, zO, zP, zQ, zR, zS, zT], []⟩ wc := by
  conv => arg 2; whnf
  go_wp2_with (first | (refine wpC_load rfl isC26 rfl rfl (HX0.out.2.1) ?_) | (refine wpS_load rfl rfl rfl (HX0.out.2.2.1) isS28 ?_) | fail)
  refine (c1 _ (HX0.out.2.2.2.2.2.2.2.1)).mono ?_
  rintro e w1 ⟨vb, vj, rfl, hR, hB⟩
  have HX1 : Hid (Below w.heap.size w w1 ∧ Box w1 p 26 (ccL c) ∧ Box w1 q 28 (smL s) ∧ Box w1 r 26 (ccL zC) ∧ w.heap.size ≤ p ∧ p < q ∧ q < r ∧ Fil.RowT w1 0 A n k fs ∧ Fil.RowT w1 0 vb L vj fs2 ∧ True) := by
    obtain ⟨hb, b0, b1, b2, l0, l1, l2, r0, _⟩ := HX0.out
    exact ⟨Below.on hb hB, b0.later hB, b1.later hB, b2.later hB, l0, l1, l2, r0.later hB, hR, trivial⟩
  clear hB hR HX0
  go_wp2_with (first | (refine wpC_store rfl isC26 rfl rfl rfl rfl (HX1.out.2.1) rfl ?_))
  intro X2 HN
  have HX2 : Hid (Below w.heap.size w X2 ∧ Box X2 p 26 (ccL (rowed c vb L vj)) ∧ Box X2 q 28 (smL s) ∧ Box X2 r 26 (ccL zC) ∧ w.heap.size ≤ p ∧ p < q ∧ q < r ∧ Fil.RowT X2 0 A n k fs ∧ Fil.RowT X2 0 vb L vj fs2 ∧ True) := by
    obtain ⟨hb, b0, b1, b2, l0, l1, l2, r0, r1, _⟩ := HX1.out
    obtain ⟨st, bn⟩ := HN.out
    exact ⟨st.below _ _ (by omega) hb, bn, b1.sto st (by omega), b2.sto st (by omega), l0, l1, l2, r0.sto b0 (by decide) st, r1.sto b0 (by decide) st, trivial⟩
  clear HN HX1
  clear c1
  have k12 : X2.cell? ⟨p, 12, none⟩ = some (.int .i64 c.mr) := Box.cell (HX2.out.2.1) 12 rfl
  have k13 : X2.cell? ⟨p, 13, none⟩ = some (.int .i64 c.ma) := Box.cell (HX2.out.2.1) 13 rfl
  have j0 := Box.cell (HX2.out.2.2.1) 0 rfl
  have j2 := Box.cell (HX2.out.2.2.1) 2 rfl
  have fz := fun i => Box.frozen (HX2.out.2.1) i
  go_upto_region 12 with fail
  rename_i K1 hgo K2 hin
  have HGO : Hid _ := hgo
  clear hgo
  go_wp2_with fail
  clear k12 k13 j0 j2 fz
  have HY : Hid (Below w.heap.size w X2 ∧ Box X2 p 26 (ccL (rowed c vb L vj)) ∧ Box X2 q 28 (smL s) ∧ Box X2 r 26 (ccL zC) ∧ w.heap.size ≤ p ∧ p < q ∧ q < r ∧ Fil.RowT X2 0 vb L vj fs2 ∧ True) := ⟨HX2.out.1, (HX2.out.2.1), (HX2.out.2.2.1), (HX2.out.2.2.2.1), HX2.out.2.2.2.2.1, HX2.out.2.2.2.2.2.1, HX2.out.2.2.2.2.2.2.1, (HX2.out.2.2.2.2.2.2.2.2.1), trivial⟩
  have HQ : Hid (∀ W', Below w.heap.size w W' → Fil.RowT W' 0 vb L vj fs2 → Post (.returned (.tuple #[ccv (tailD (jdgE (rowed c vb L vj) s fresh b) s false b), .int .i64 0])) W') := fun W' h1 h2 => by
    rw [jdg_rowed, tail_rowed]
    exact HP.out W' vb vj h1 h2
  clear HX2 HP
  refine HGO.out _ _ ?_
  exact rkE (rowed c vb L vj) s fs2 vb L vj fresh false w _ p q r b (ok_rowed h3 vb L vj) hs hbv hb rfl rfl HY HQ

set_option maxRecDepth 100000 in
set_option maxHeartbeats 4000000 in
theorem rkB_nl (c : Cc) (s : Sm) (fs : List Tm) (A : Option Addr) (n k : Nat) (fresh : Bool) (w wc : World) (p q r : Nat) (fs2 : List Tm) (L : Nat) (b : Int) (h3 : Ok8 c) (hs : SmOk s) (hbv : bestV fs2 = b) (hb : 0 ≤ b ∧ b ≤ 1099511627776) (m1 : decide (0 < c.mr) = true) (m2 : (c.mr == 0) = false) (wr : IntKind.i64.wrap (s.nw - c.ma) = s.nw - c.ma) (o1 : decide (10000000 < s.nw - c.ma) = false) (r1 : decide (0 < s.rt) = true) (r2 : decide (s.rt ≤ c.mr) = true)   {Post : Ending → World → Prop} (HX0 : Hid (Below w.heap.size w wc ∧ Box wc p 26 (ccL c) ∧ Box wc q 28 (smL s) ∧ Box wc r 26 (ccL zC) ∧ w.heap.size ≤ p ∧ p < q ∧ q < r ∧ Fil.RowT wc 0 A n k fs ∧ True)) (c1 : ∀ W, Fil.RowT W 0 A n k fs → Calls Tryd.prog 35 #[ccv c, agv (smL s)] W fun e w' => ∃ vb vj, e = .returned (ccv (rowed c vb L vj)) ∧ Fil.RowT w' 0 vb L vj fs2 ∧ Below W.heap.size W w') (HP : Hid (∀ W' vb vj, Below w.heap.size w W' → Fil.RowT W' 0 vb L vj fs2 → Post (.returned (.tuple #[ccv (rowed (tailD (jdgE { c with mr := s.rt, ma := s.nw } s fresh b) s false b) vb L vj), .int .i64 0])) W'))  :
    Code.wp Tryd.prog ((Tryd.f9.body.bind (fromA 10)).getD .skip) (bodyPost Tryd.prog Tryd.f9 Post) ⟨#[ua, ub, .pointer (some ⟨p, 0, none⟩), .pointer (some ⟨q, 0, none⟩), .pointer (some ⟨r, 0, none⟩), uf, .bool fresh, uh, ui, uj, uk, ul, um, un, uo, up, uq, ur, us, ut, uu, uv, uw, ux, uy, uz, uA, uB, uD, uE, uF, uG, uH, uI, uJ, uK, uL, uM, uN, uO, uP, uQ, uR, uS, uT, uU, uV, uW, uX, uY, uZ, xa, xb, xc, xd, xe, xf, xg, xh, xi, xj, xk, xl, xm, xn, xo, xp, xq, xr, xs, xt, xu, xv, xw, xx, xy, xz, xA, xB, xD, xE, xF, xG, xH, xI, xJ, xK, xL, xM, xN, xO, xP, xQ, xR, xS, xT, xU, xV, xW, xX, xY, xZ, za, zb, zc, zd, ze, zf, zg, zh, zi, zj, zk, zl, zm, zn, zo, zp, zq, zr, zs, zt, zu, zv, zw, zx, zy, zz, zA, zB, zD, zE, zF, zG, zH, zI, zJ, zK, zL, zM, zN, zO, zP, zQ, zR, zS, zT], []⟩ wc := by
  conv => arg 2; whnf
  go_wp2_with (first | (refine wpC_load rfl isC26 rfl rfl (HX0.out.2.1) ?_) | (refine wpS_load rfl rfl rfl (HX0.out.2.2.1) isS28 ?_) | fail)
  refine (c1 _ (HX0.out.2.2.2.2.2.2.2.1)).mono ?_
  rintro e w1 ⟨vb, vj, rfl, hR, hB⟩
  have HX1 : Hid (Below w.heap.size w w1 ∧ Box w1 p 26 (ccL c) ∧ Box w1 q 28 (smL s) ∧ Box w1 r 26 (ccL zC) ∧ w.heap.size ≤ p ∧ p < q ∧ q < r ∧ Fil.RowT w1 0 A n k fs ∧ Fil.RowT w1 0 vb L vj fs2 ∧ True) := by
    obtain ⟨hb, b0, b1, b2, l0, l1, l2, r0, _⟩ := HX0.out
    exact ⟨Below.on hb hB, b0.later hB, b1.later hB, b2.later hB, l0, l1, l2, r0.later hB, hR, trivial⟩
  clear hB hR HX0
  go_wp2_with (first | (refine wpC_store rfl isC26 rfl rfl rfl rfl (HX1.out.2.1) rfl ?_))
  intro X2 HN
  have HX2 : Hid (Below w.heap.size w X2 ∧ Box X2 p 26 (ccL (rowed c vb L vj)) ∧ Box X2 q 28 (smL s) ∧ Box X2 r 26 (ccL zC) ∧ w.heap.size ≤ p ∧ p < q ∧ q < r ∧ Fil.RowT X2 0 A n k fs ∧ Fil.RowT X2 0 vb L vj fs2 ∧ True) := by
    obtain ⟨hb, b0, b1, b2, l0, l1, l2, r0, r1, _⟩ := HX1.out
    obtain ⟨st, bn⟩ := HN.out
    exact ⟨st.below _ _ (by omega) hb, bn, b1.sto st (by omega), b2.sto st (by omega), l0, l1, l2, r0.sto b0 (by decide) st, r1.sto b0 (by decide) st, trivial⟩
  clear HN HX1
  clear c1
  have k12 : X2.cell? ⟨p, 12, none⟩ = some (.int .i64 c.mr) := Box.cell (HX2.out.2.1) 12 rfl
  have k13 : X2.cell? ⟨p, 13, none⟩ = some (.int .i64 c.ma) := Box.cell (HX2.out.2.1) 13 rfl
  have j0 := Box.cell (HX2.out.2.2.1) 0 rfl
  have j2 := Box.cell (HX2.out.2.2.1) 2 rfl
  have fz := fun i => Box.frozen (HX2.out.2.1) i
  go_upto_region 12 with fail
  rename_i K1 hgo K2 hin
  have HGO : Hid _ := hgo
  clear hgo
  go_wp2_with fail
  obtain ⟨X3, hX⟩ : ∃ X, ((X2.setCell ⟨p, 12, none⟩ (.int .i64 s.rt)).setCell ⟨p, 13, none⟩ (.int .i64 s.nw)) = X := ⟨_, rfl⟩
  try rw [hX]
  have HX3 : Hid (Below w.heap.size w X3 ∧ Box X3 p 26 (ccL (rowed { c with mr := s.rt, ma := s.nw } vb L vj)) ∧ Box X3 q 28 (smL s) ∧ Box X3 r 26 (ccL zC) ∧ w.heap.size ≤ p ∧ p < q ∧ q < r ∧ Fil.RowT X3 0 A n k fs ∧ Fil.RowT X3 0 vb L vj fs2 ∧ True) := by
    obtain ⟨hb, b0, b1, b2, l0, l1, l2, r0, r1, _⟩ := HX2.out
    have st : Sto X2 p X3 := by rw [← hX]; exact (((Sto.refl X2 p).set 12 _).set 13 _)
    have bn : Box X3 p 26 (ccL (rowed { c with mr := s.rt, ma := s.nw } vb L vj)) := by rw [← hX]; exact box_to ((b0.set 12 _).set 13 _) rfl
    exact ⟨st.below _ _ (by omega) hb, bn, b1.sto st (by omega), b2.sto st (by omega), l0, l1, l2, r0.sto b0 (by decide) st, r1.sto b0 (by decide) st, trivial⟩
  clear hX HX2
  clear k12 k13 j0 j2 fz
  have HY : Hid (Below w.heap.size w X3 ∧ Box X3 p 26 (ccL (rowed { c with mr := s.rt, ma := s.nw } vb L vj)) ∧ Box X3 q 28 (smL s) ∧ Box X3 r 26 (ccL zC) ∧ w.heap.size ≤ p ∧ p < q ∧ q < r ∧ Fil.RowT X3 0 vb L vj fs2 ∧ True) := ⟨HX3.out.1, (HX3.out.2.1), (HX3.out.2.2.1), (HX3.out.2.2.2.1), HX3.out.2.2.2.2.1, HX3.out.2.2.2.2.2.1, HX3.out.2.2.2.2.2.2.1, (HX3.out.2.2.2.2.2.2.2.2.1), trivial⟩
  have HQ : Hid (∀ W', Below w.heap.size w W' → Fil.RowT W' 0 vb L vj fs2 → Post (.returned (.tuple #[ccv (tailD (jdgE (rowed { c with mr := s.rt, ma := s.nw } vb L vj) s fresh b) s false b), .int .i64 0])) W') := fun W' h1 h2 => by
    rw [jdg_rowed, tail_rowed]
    exact HP.out W' vb vj h1 h2
  clear HX3 HP
  refine HGO.out _ _ ?_
  exact rkE (rowed { c with mr := s.rt, ma := s.nw } vb L vj) s fs2 vb L vj fresh false w _ p q r b (ok_rowed (c := { c with mr := s.rt, ma := s.nw }) { h3 with mr := hs.rt, ma := hs.nw } vb L vj) hs hbv hb rfl rfl HY HQ

set_option maxRecDepth 100000 in
set_option maxHeartbeats 4000000 in
theorem rkB_ng (c : Cc) (s : Sm) (fs : List Tm) (A : Option Addr) (n k : Nat) (fresh : Bool) (w wc : World) (p q r : Nat) (fs2 : List Tm) (L : Nat) (b : Int) (h3 : Ok8 c) (hs : SmOk s) (hbv : bestV fs2 = b) (hb : 0 ≤ b ∧ b ≤ 1099511627776) (m1 : decide (0 < c.mr) = true) (m2 : (c.mr == 0) = false) (wr : IntKind.i64.wrap (s.nw - c.ma) = s.nw - c.ma) (o1 : decide (10000000 < s.nw - c.ma) = false) (r1 : decide (0 < s.rt) = true) (r2 : decide (s.rt ≤ c.mr) = false)   {Post : Ending → World → Prop} (HX0 : Hid (Below w.heap.size w wc ∧ Box wc p 26 (ccL c) ∧ Box wc q 28 (smL s) ∧ Box wc r 26 (ccL zC) ∧ w.heap.size ≤ p ∧ p < q ∧ q < r ∧ Fil.RowT wc 0 A n k fs ∧ True)) (c1 : ∀ W, Fil.RowT W 0 A n k fs → Calls Tryd.prog 35 #[ccv c, agv (smL s)] W fun e w' => ∃ vb vj, e = .returned (ccv (rowed c vb L vj)) ∧ Fil.RowT w' 0 vb L vj fs2 ∧ Below W.heap.size W w') (HP : Hid (∀ W' vb vj, Below w.heap.size w W' → Fil.RowT W' 0 vb L vj fs2 → Post (.returned (.tuple #[ccv (rowed (tailD (jdgE c s fresh b) s false b) vb L vj), .int .i64 0])) W'))  :
    Code.wp Tryd.prog ((Tryd.f9.body.bind (fromA 10)).getD .skip) (bodyPost Tryd.prog Tryd.f9 Post) ⟨#[ua, ub, .pointer (some ⟨p, 0, none⟩), .pointer (some ⟨q, 0, none⟩), .pointer (some ⟨r, 0, none⟩), uf, .bool fresh, uh, ui, uj, uk, ul, um, un, uo, up, uq, ur, us, ut, uu, uv, uw, ux, uy, uz, uA, uB, uD, uE, uF, uG, uH, uI, uJ, uK, uL, uM, uN, uO, uP, uQ, uR, uS, uT, uU, uV, uW, uX, uY, uZ, xa, xb, xc, xd, xe, xf, xg, xh, xi, xj, xk, xl, xm, xn, xo, xp, xq, xr, xs, xt, xu, xv, xw, xx, xy, xz, xA, xB, xD, xE, xF, xG, xH, xI, xJ, xK, xL, xM, xN, xO, xP, xQ, xR, xS, xT, xU, xV, xW, xX, xY, xZ, za, zb, zc, zd, ze, zf, zg, zh, zi, zj, zk, zl, zm, zn, zo, zp, zq, zr, zs, zt, zu, zv, zw, zx, zy, zz, zA, zB, zD, zE, zF, zG, zH, zI, zJ, zK, zL, zM, zN, zO, zP, zQ, zR, zS, zT], []⟩ wc := by
  conv => arg 2; whnf
  go_wp2_with (first | (refine wpC_load rfl isC26 rfl rfl (HX0.out.2.1) ?_) | (refine wpS_load rfl rfl rfl (HX0.out.2.2.1) isS28 ?_) | fail)
  refine (c1 _ (HX0.out.2.2.2.2.2.2.2.1)).mono ?_
  rintro e w1 ⟨vb, vj, rfl, hR, hB⟩
  have HX1 : Hid (Below w.heap.size w w1 ∧ Box w1 p 26 (ccL c) ∧ Box w1 q 28 (smL s) ∧ Box w1 r 26 (ccL zC) ∧ w.heap.size ≤ p ∧ p < q ∧ q < r ∧ Fil.RowT w1 0 A n k fs ∧ Fil.RowT w1 0 vb L vj fs2 ∧ True) := by
    obtain ⟨hb, b0, b1, b2, l0, l1, l2, r0, _⟩ := HX0.out
    exact ⟨Below.on hb hB, b0.later hB, b1.later hB, b2.later hB, l0, l1, l2, r0.later hB, hR, trivial⟩
  clear hB hR HX0
  go_wp2_with (first | (refine wpC_store rfl isC26 rfl rfl rfl rfl (HX1.out.2.1) rfl ?_))
  intro X2 HN
  have HX2 : Hid (Below w.heap.size w X2 ∧ Box X2 p 26 (ccL (rowed c vb L vj)) ∧ Box X2 q 28 (smL s) ∧ Box X2 r 26 (ccL zC) ∧ w.heap.size ≤ p ∧ p < q ∧ q < r ∧ Fil.RowT X2 0 A n k fs ∧ Fil.RowT X2 0 vb L vj fs2 ∧ True) := by
    obtain ⟨hb, b0, b1, b2, l0, l1, l2, r0, r1, _⟩ := HX1.out
    obtain ⟨st, bn⟩ := HN.out
    exact ⟨st.below _ _ (by omega) hb, bn, b1.sto st (by omega), b2.sto st (by omega), l0, l1, l2, r0.sto b0 (by decide) st, r1.sto b0 (by decide) st, trivial⟩
  clear HN HX1
  clear c1
  have k12 : X2.cell? ⟨p, 12, none⟩ = some (.int .i64 c.mr) := Box.cell (HX2.out.2.1) 12 rfl
  have k13 : X2.cell? ⟨p, 13, none⟩ = some (.int .i64 c.ma) := Box.cell (HX2.out.2.1) 13 rfl
  have j0 := Box.cell (HX2.out.2.2.1) 0 rfl
  have j2 := Box.cell (HX2.out.2.2.1) 2 rfl
  have fz := fun i => Box.frozen (HX2.out.2.1) i
  go_upto_region 12 with fail
  rename_i K1 hgo K2 hin
  have HGO : Hid _ := hgo
  clear hgo
  go_wp2_with fail
  clear k12 k13 j0 j2 fz
  have HY : Hid (Below w.heap.size w X2 ∧ Box X2 p 26 (ccL (rowed c vb L vj)) ∧ Box X2 q 28 (smL s) ∧ Box X2 r 26 (ccL zC) ∧ w.heap.size ≤ p ∧ p < q ∧ q < r ∧ Fil.RowT X2 0 vb L vj fs2 ∧ True) := ⟨HX2.out.1, (HX2.out.2.1), (HX2.out.2.2.1), (HX2.out.2.2.2.1), HX2.out.2.2.2.2.1, HX2.out.2.2.2.2.2.1, HX2.out.2.2.2.2.2.2.1, (HX2.out.2.2.2.2.2.2.2.2.1), trivial⟩
  have HQ : Hid (∀ W', Below w.heap.size w W' → Fil.RowT W' 0 vb L vj fs2 → Post (.returned (.tuple #[ccv (tailD (jdgE (rowed c vb L vj) s fresh b) s false b), .int .i64 0])) W') := fun W' h1 h2 => by
    rw [jdg_rowed, tail_rowed]
    exact HP.out W' vb vj h1 h2
  clear HX2 HP
  refine HGO.out _ _ ?_
  exact rkE (rowed c vb L vj) s fs2 vb L vj fresh false w _ p q r b (ok_rowed h3 vb L vj) hs hbv hb rfl rfl HY HQ

set_option maxRecDepth 100000 in
set_option maxHeartbeats 4000000 in
theorem rkB (c : Cc) (s : Sm) (fs : List Tm) (A : Option Addr) (n k : Nat) (fresh : Bool) (w wc : World) (p q r : Nat) (fs2 : List Tm) (L : Nat) (b : Int) (h3 : Ok8 c) (hs : SmOk s) (hbv : bestV fs2 = b) (hb : 0 ≤ b ∧ b ≤ 1099511627776)   {Post : Ending → World → Prop} (HX0 : Hid (Below w.heap.size w wc ∧ Box wc p 26 (ccL c) ∧ Box wc q 28 (smL s) ∧ Box wc r 26 (ccL zC) ∧ w.heap.size ≤ p ∧ p < q ∧ q < r ∧ Fil.RowT wc 0 A n k fs ∧ True)) (c1 : ∀ W, Fil.RowT W 0 A n k fs → Calls Tryd.prog 35 #[ccv c, agv (smL s)] W fun e w' => ∃ vb vj, e = .returned (ccv (rowed c vb L vj)) ∧ Fil.RowT w' 0 vb L vj fs2 ∧ Below W.heap.size W w') (HP : Hid (∀ W' vb vj, Below w.heap.size w W' → Fil.RowT W' 0 vb L vj fs2 → Post (.returned (.tuple #[ccv (rowed (tailD (jdgE (rttE c s) s fresh b) s (oldB c s) b) vb L vj), .int .i64 0])) W'))  :
    Code.wp Tryd.prog ((Tryd.f9.body.bind (fromA 10)).getD .skip) (bodyPost Tryd.prog Tryd.f9 Post) ⟨#[ua, ub, .pointer (some ⟨p, 0, none⟩), .pointer (some ⟨q, 0, none⟩), .pointer (some ⟨r, 0, none⟩), uf, .bool fresh, uh, ui, uj, uk, ul, um, un, uo, up, uq, ur, us, ut, uu, uv, uw, ux, uy, uz, uA, uB, uD, uE, uF, uG, uH, uI, uJ, uK, uL, uM, uN, uO, uP, uQ, uR, uS, uT, uU, uV, uW, uX, uY, uZ, xa, xb, xc, xd, xe, xf, xg, xh, xi, xj, xk, xl, xm, xn, xo, xp, xq, xr, xs, xt, xu, xv, xw, xx, xy, xz, xA, xB, xD, xE, xF, xG, xH, xI, xJ, xK, xL, xM, xN, xO, xP, xQ, xR, xS, xT, xU, xV, xW, xX, xY, xZ, za, zb, zc, zd, ze, zf, zg, zh, zi, zj, zk, zl, zm, zn, zo, zp, zq, zr, zs, zt, zu, zv, zw, zx, zy, zz, zA, zB, zD, zE, zF, zG, zH, zI, zJ, zK, zL, zM, zN, zO, zP, zQ, zR, zS, zT], []⟩ wc := by
  have hm := h3.mr
  have ha := h3.ma
  have hn := hs.nw
  have wr : IntKind.i64.wrap (s.nw - c.ma) = s.nw - c.ma := by rw [IntKind.wrap_i64]; omega
  unfold rttE rttB at HP
  by_cases h0 : c.mr = 0
  · have ho : oldB c s = false := decide_eq_false (by omega)
    have m1 : decide (0 < c.mr) = false := decide_eq_false (by omega)
    have m2 : (c.mr == 0) = true := by simpa using h0
    rw [ho] at HP
    by_cases hr : 0 < s.rt
    · rw [if_pos (by simp [hr, h0])] at HP; exact rkB_ag c s fs A n k fresh w wc p q r fs2 L b h3 hs hbv hb m1 m2 (decide_eq_true hr) HX0 c1 HP
    · rw [if_neg (by simp [hr])] at HP; exact rkB_az c s fs A n k fresh w wc p q r fs2 L b h3 hs hbv hb m1 m2 (decide_eq_false hr) HX0 c1 HP
  · have m1 : decide (0 < c.mr) = true := decide_eq_true (by omega)
    have m2 : (c.mr == 0) = false := by simpa using h0
    by_cases h1 : c.ma + 10000000 < s.nw
    · have ho : oldB c s = true := decide_eq_true (by omega)
      have o1 : decide (10000000 < s.nw - c.ma) = true := decide_eq_true (by omega)
      rw [ho] at HP
      by_cases hr : 0 < s.rt
      · rw [if_pos (by simp [hr])] at HP
        by_cases hl : s.rt ≤ c.mr
        · exact rkB_ol c s fs A n k fresh w wc p q r fs2 L b h3 hs hbv hb m1 m2 wr o1 (decide_eq_true hr) (decide_eq_true hl) HX0 c1 HP
        · exact rkB_og c s fs A n k fresh w wc p q r fs2 L b h3 hs hbv hb m1 m2 wr o1 (decide_eq_true hr) (decide_eq_false hl) HX0 c1 HP
      · rw [if_neg (by simp [hr])] at HP; exact rkB_oz c s fs A n k fresh w wc p q r fs2 L b h3 hs hbv hb m1 m2 wr o1 (decide_eq_false hr) HX0 c1 HP
    · have ho : oldB c s = false := decide_eq_false (by omega)
      have o1 : decide (10000000 < s.nw - c.ma) = false := decide_eq_false (by omega)
      rw [ho] at HP
      by_cases hr : 0 < s.rt
      · by_cases hl : s.rt ≤ c.mr
        · rw [if_pos (by simp [hr, hl])] at HP; exact rkB_nl c s fs A n k fresh w wc p q r fs2 L b h3 hs hbv hb m1 m2 wr o1 (decide_eq_true hr) (decide_eq_true hl) HX0 c1 HP
        · rw [if_neg (by simp [h0, hl])] at HP; exact rkB_ng c s fs A n k fresh w wc p q r fs2 L b h3 hs hbv hb m1 m2 wr o1 (decide_eq_true hr) (decide_eq_false hl) HX0 c1 HP
      · rw [if_neg (by simp [hr])] at HP; exact rkB_nz c s fs A n k fresh w wc p q r fs2 L b h3 hs hbv hb m1 m2 wr o1 (decide_eq_false hr) HX0 c1 HP
end Go.Proofs.YtagmighcofllhaaDoor
