/- The document's Acked: growth. -/
import Derived.Test.YtagmighcofllhaaDoorRkG
import Derived.Test.YtagmighcofllhaaDoorRFul
namespace Go.Proofs.YtagmighcofllhaaDoor
open Go.ChangeShapes Go.WideShapes Go.ChangeAt Go.RowKit
set_option linter.unusedVariables false
set_option linter.unusedSimpArgs false

open Fil
variable {ua ub uf ug uh ui uj uk ul um un uo up uq ur us ut uu uv uw ux uy uz uA uB uD uE uF uG uH uI uJ uK uL uM uN uO uP uQ uR uS uT uU uV uW uX uY uZ xa xb xc xd xe xf xg xh xi xj xk xl xm xn xo xp xq xr xs xt xu xv xw xx xy xz xA xB xD xE xF xG xH xI xJ xK xL xM xN xO xP xQ xR xS xT xU xV xW xX xY xZ za zb zc zd ze zf zg zh zi zj zk zl zm zn zo zp zq zr zs zt zu zv zw zx zy zz zA zB zD zE zF zG zH zI zJ zK zL zM zN zO zP zQ zR zS zT : Value}

set_option maxRecDepth 100000 in
set_option maxHeartbeats 4000000 in
theorem rkE_j (c : Cc) (s : Sm) (fs : List Tm) (A : Option Addr) (n k : Nat) (fresh old : Bool) (w wc : World) (p q r : Nat) (b : Int) (h3 : Ok8 c) (hs : SmOk s) (hbv : bestV fs = b) (hb : 0 ≤ b ∧ b ≤ 1099511627776) (hA : c.ba = A) (hn : c.bn = n) (HM : Hid (c.md = 1)) (HI : Hid (s.idl = false)) (c1 : ∀ W, Fil.RowT W 0 A n k fs → Calls Tryd.prog 36 #[ccv c] W fun e w' => e = .returned (ccv (groE c b)) ∧ Below W.heap.size W w')   {Post : Ending → World → Prop} (HX0 : Hid (Below w.heap.size w wc ∧ Box wc p 26 (ccL c) ∧ Box wc q 28 (smL s) ∧ Box wc r 26 (ccL zC) ∧ w.heap.size ≤ p ∧ p < q ∧ q < r ∧ Fil.RowT wc 0 A n k fs ∧ True)) (HP : Hid (∀ W', Below w.heap.size w W' → Fil.RowT W' 0 A n k fs → Post (.returned (.tuple #[ccv (tailD (groE c b) s old b), .int .i64 0])) W'))  :
    Code.wp Tryd.prog ((Tryd.f9.body.bind (fromA 15)).getD .skip) (bodyPost Tryd.prog Tryd.f9 Post) ⟨#[ua, ub, .pointer (some ⟨p, 0, none⟩), .pointer (some ⟨q, 0, none⟩), .pointer (some ⟨r, 0, none⟩), uf, .bool true, .bool old, ui, uj, uk, ul, um, un, uo, up, uq, ur, us, ut, uu, uv, uw, ux, uy, uz, uA, uB, uD, uE, uF, uG, uH, uI, uJ, uK, uL, uM, uN, uO, uP, uQ, uR, uS, uT, uU, uV, uW, uX, uY, uZ, xa, xb, xc, xd, xe, xf, xg, xh, xi, xj, xk, xl, xm, xn, xo, xp, xq, xr, xs, xt, xu, xv, xw, xx, xy, xz, xA, xB, xD, xE, xF, xG, xH, xI, xJ, xK, xL, xM, xN, xO, xP, xQ, xR, xS, xT, xU, xV, xW, xX, xY, xZ, za, zb, zc, zd, ze, zf, zg, zh, zi, zj, zk, zl, zm, zn, zo, zp, zq, zr, zs, zt, zu, zv, zw, zx, zy, zz, zA, zB, zD, zE, zF, zG, zH, zI, zJ, zK, zL, zM, zN, zO, zP, zQ, zR, zS, zT], []⟩ wc := by
  conv => arg 2; whnf
  go_upto_region 15 with fail
  rename_i K1 hgo K2 hin
  have HGO : Hid _ := hgo
  clear hgo
  have k10 : wc.cell? ⟨p, 10, none⟩ = some (.int .i64 1) := by
    have := Box.cell (HX0.out.2.1) 10 rfl
    rw [HM.out] at this
    exact this
  have j4 : wc.cell? ⟨q, 4, none⟩ = some (.bool false) := by
    have := Box.cell (HX0.out.2.2.1) 4 rfl
    rw [HI.out] at this
    exact this
  go_wp2_with (first | (refine wpC_load rfl isC26 rfl rfl (HX0.out.2.1) ?_) | fail)
  refine (c1 _ (HX0.out.2.2.2.2.2.2.2.1)).mono ?_
  rintro e w1 ⟨rfl, hB⟩
  have HX1 : Hid (Below w.heap.size w w1 ∧ Box w1 p 26 (ccL c) ∧ Box w1 q 28 (smL s) ∧ Box w1 r 26 (ccL zC) ∧ w.heap.size ≤ p ∧ p < q ∧ q < r ∧ Fil.RowT w1 0 A n k fs ∧ True) := by
    obtain ⟨hb, b0, b1, b2, l0, l1, l2, r0, _⟩ := HX0.out
    exact ⟨Below.on hb hB, b0.later hB, b1.later hB, b2.later hB, l0, l1, l2, r0.later hB, trivial⟩
  clear hB HX0
  go_wp2_with (first | (refine wpC_store rfl isC26 rfl rfl rfl rfl (HX1.out.2.1) rfl ?_))
  intro X2 HN
  have HX2 : Hid (Below w.heap.size w X2 ∧ Box X2 p 26 (ccL (groE c b)) ∧ Box X2 q 28 (smL s) ∧ Box X2 r 26 (ccL zC) ∧ w.heap.size ≤ p ∧ p < q ∧ q < r ∧ Fil.RowT X2 0 A n k fs ∧ True) := by
    obtain ⟨hb, b0, b1, b2, l0, l1, l2, r0, _⟩ := HX1.out
    obtain ⟨st, bn⟩ := HN.out
    exact ⟨st.below _ _ (by omega) hb, bn, b1.sto st (by omega), b2.sto st (by omega), l0, l1, l2, r0.sto b0 (by decide) st, trivial⟩
  clear HN HX1
  clear c1 k10 j4
  go_wp2_with fail
  refine HGO.out _ _ ?_
  exact rkF (groE c b) s fs A n k true old w _ p q r b (ok_gro h3 hb) hs hbv hb ((gro_row c b).1.trans hA) ((gro_row c b).2.1.trans hn) HX2 HP

set_option maxRecDepth 100000 in
set_option maxHeartbeats 4000000 in
theorem rkE_m (c : Cc) (s : Sm) (fs : List Tm) (A : Option Addr) (n k : Nat) (fresh old : Bool) (w wc : World) (p q r : Nat) (b : Int) (h3 : Ok8 c) (hs : SmOk s) (hbv : bestV fs = b) (hb : 0 ≤ b ∧ b ≤ 1099511627776) (hA : c.ba = A) (hn : c.bn = n) (hm : (c.md == 1) = false)   {Post : Ending → World → Prop} (HX0 : Hid (Below w.heap.size w wc ∧ Box wc p 26 (ccL c) ∧ Box wc q 28 (smL s) ∧ Box wc r 26 (ccL zC) ∧ w.heap.size ≤ p ∧ p < q ∧ q < r ∧ Fil.RowT wc 0 A n k fs ∧ True)) (HP : Hid (∀ W', Below w.heap.size w W' → Fil.RowT W' 0 A n k fs → Post (.returned (.tuple #[ccv (tailD c s old b), .int .i64 0])) W'))  :
    Code.wp Tryd.prog ((Tryd.f9.body.bind (fromA 15)).getD .skip) (bodyPost Tryd.prog Tryd.f9 Post) ⟨#[ua, ub, .pointer (some ⟨p, 0, none⟩), .pointer (some ⟨q, 0, none⟩), .pointer (some ⟨r, 0, none⟩), uf, .bool fresh, .bool old, ui, uj, uk, ul, um, un, uo, up, uq, ur, us, ut, uu, uv, uw, ux, uy, uz, uA, uB, uD, uE, uF, uG, uH, uI, uJ, uK, uL, uM, uN, uO, uP, uQ, uR, uS, uT, uU, uV, uW, uX, uY, uZ, xa, xb, xc, xd, xe, xf, xg, xh, xi, xj, xk, xl, xm, xn, xo, xp, xq, xr, xs, xt, xu, xv, xw, xx, xy, xz, xA, xB, xD, xE, xF, xG, xH, xI, xJ, xK, xL, xM, xN, xO, xP, xQ, xR, xS, xT, xU, xV, xW, xX, xY, xZ, za, zb, zc, zd, ze, zf, zg, zh, zi, zj, zk, zl, zm, zn, zo, zp, zq, zr, zs, zt, zu, zv, zw, zx, zy, zz, zA, zB, zD, zE, zF, zG, zH, zI, zJ, zK, zL, zM, zN, zO, zP, zQ, zR, zS, zT], []⟩ wc := by
  conv => arg 2; whnf
  go_upto_region 15 with fail
  rename_i K1 hgo K2 hin
  have HGO : Hid _ := hgo
  clear hgo
  have k10 := Box.cell (HX0.out.2.1) 10 rfl
  go_wp2_with fail
  clear k10
  refine HGO.out _ _ ?_
  exact rkF c s fs A n k fresh old w _ p q r b h3 hs hbv hb hA hn HX0 HP

set_option maxRecDepth 100000 in
set_option maxHeartbeats 4000000 in
theorem rkE_f (c : Cc) (s : Sm) (fs : List Tm) (A : Option Addr) (n k : Nat) (fresh old : Bool) (w wc : World) (p q r : Nat) (b : Int) (h3 : Ok8 c) (hs : SmOk s) (hbv : bestV fs = b) (hb : 0 ≤ b ∧ b ≤ 1099511627776) (hA : c.ba = A) (hn : c.bn = n) (HM : Hid (c.md = 1))   {Post : Ending → World → Prop} (HX0 : Hid (Below w.heap.size w wc ∧ Box wc p 26 (ccL c) ∧ Box wc q 28 (smL s) ∧ Box wc r 26 (ccL zC) ∧ w.heap.size ≤ p ∧ p < q ∧ q < r ∧ Fil.RowT wc 0 A n k fs ∧ True)) (HP : Hid (∀ W', Below w.heap.size w W' → Fil.RowT W' 0 A n k fs → Post (.returned (.tuple #[ccv (tailD c s old b), .int .i64 0])) W'))  :
    Code.wp Tryd.prog ((Tryd.f9.body.bind (fromA 15)).getD .skip) (bodyPost Tryd.prog Tryd.f9 Post) ⟨#[ua, ub, .pointer (some ⟨p, 0, none⟩), .pointer (some ⟨q, 0, none⟩), .pointer (some ⟨r, 0, none⟩), uf, .bool false, .bool old, ui, uj, uk, ul, um, un, uo, up, uq, ur, us, ut, uu, uv, uw, ux, uy, uz, uA, uB, uD, uE, uF, uG, uH, uI, uJ, uK, uL, uM, uN, uO, uP, uQ, uR, uS, uT, uU, uV, uW, uX, uY, uZ, xa, xb, xc, xd, xe, xf, xg, xh, xi, xj, xk, xl, xm, xn, xo, xp, xq, xr, xs, xt, xu, xv, xw, xx, xy, xz, xA, xB, xD, xE, xF, xG, xH, xI, xJ, xK, xL, xM, xN, xO, xP, xQ, xR, xS, xT, xU, xV, xW, xX, xY, xZ, za, zb, zc, zd, ze, zf, zg, zh, zi, zj, zk, zl, zm, zn, zo, zp, zq, zr, zs, zt, zu, zv, zw, zx, zy, zz, zA, zB, zD, zE, zF, zG, zH, zI, zJ, zK, zL, zM, zN, zO, zP, zQ, zR, zS, zT], []⟩ wc := by
  conv => arg 2; whnf
  go_upto_region 15 with fail
  rename_i K1 hgo K2 hin
  have HGO : Hid _ := hgo
  clear hgo
  have k10 : wc.cell? ⟨p, 10, none⟩ = some (.int .i64 1) := by
    have := Box.cell (HX0.out.2.1) 10 rfl
    rw [HM.out] at this
    exact this
  go_wp2_with fail
  clear k10
  refine HGO.out _ _ ?_
  exact rkF c s fs A n k false old w _ p q r b h3 hs hbv hb hA hn HX0 HP

set_option maxRecDepth 100000 in
set_option maxHeartbeats 4000000 in
theorem rkE_i (c : Cc) (s : Sm) (fs : List Tm) (A : Option Addr) (n k : Nat) (fresh old : Bool) (w wc : World) (p q r : Nat) (b : Int) (h3 : Ok8 c) (hs : SmOk s) (hbv : bestV fs = b) (hb : 0 ≤ b ∧ b ≤ 1099511627776) (hA : c.ba = A) (hn : c.bn = n) (HM : Hid (c.md = 1)) (HI : Hid (s.idl = true))   {Post : Ending → World → Prop} (HX0 : Hid (Below w.heap.size w wc ∧ Box wc p 26 (ccL c) ∧ Box wc q 28 (smL s) ∧ Box wc r 26 (ccL zC) ∧ w.heap.size ≤ p ∧ p < q ∧ q < r ∧ Fil.RowT wc 0 A n k fs ∧ True)) (HP : Hid (∀ W', Below w.heap.size w W' → Fil.RowT W' 0 A n k fs → Post (.returned (.tuple #[ccv (tailD c s old b), .int .i64 0])) W'))  :
    Code.wp Tryd.prog ((Tryd.f9.body.bind (fromA 15)).getD .skip) (bodyPost Tryd.prog Tryd.f9 Post) ⟨#[ua, ub, .pointer (some ⟨p, 0, none⟩), .pointer (some ⟨q, 0, none⟩), .pointer (some ⟨r, 0, none⟩), uf, .bool true, .bool old, ui, uj, uk, ul, um, un, uo, up, uq, ur, us, ut, uu, uv, uw, ux, uy, uz, uA, uB, uD, uE, uF, uG, uH, uI, uJ, uK, uL, uM, uN, uO, uP, uQ, uR, uS, uT, uU, uV, uW, uX, uY, uZ, xa, xb, xc, xd, xe, xf, xg, xh, xi, xj, xk, xl, xm, xn, xo, xp, xq, xr, xs, xt, xu, xv, xw, xx, xy, xz, xA, xB, xD, xE, xF, xG, xH, xI, xJ, xK, xL, xM, xN, xO, xP, xQ, xR, xS, xT, xU, xV, xW, xX, xY, xZ, za, zb, zc, zd, ze, zf, zg, zh, zi, zj, zk, zl, zm, zn, zo, zp, zq, zr, zs, zt, zu, zv, zw, zx, zy, zz, zA, zB, zD, zE, zF, zG, zH, zI, zJ, zK, zL, zM, zN, zO, zP, zQ, zR, zS, zT], []⟩ wc := by
  conv => arg 2; whnf
  go_upto_region 15 with fail
  rename_i K1 hgo K2 hin
  have HGO : Hid _ := hgo
  clear hgo
  have k10 : wc.cell? ⟨p, 10, none⟩ = some (.int .i64 1) := by
    have := Box.cell (HX0.out.2.1) 10 rfl
    rw [HM.out] at this
    exact this
  have j4 : wc.cell? ⟨q, 4, none⟩ = some (.bool true) := by
    have := Box.cell (HX0.out.2.2.1) 4 rfl
    rw [HI.out] at this
    exact this
  go_wp2_with fail
  clear k10 j4
  refine HGO.out _ _ ?_
  exact rkF c s fs A n k true old w _ p q r b h3 hs hbv hb hA hn HX0 HP

set_option maxRecDepth 100000 in
set_option maxHeartbeats 4000000 in
theorem rkE (c : Cc) (s : Sm) (fs : List Tm) (A : Option Addr) (n k : Nat) (fresh old : Bool) (w wc : World) (p q r : Nat) (b : Int) (h3 : Ok8 c) (hs : SmOk s) (hbv : bestV fs = b) (hb : 0 ≤ b ∧ b ≤ 1099511627776) (hA : c.ba = A) (hn : c.bn = n)   {Post : Ending → World → Prop} (HX0 : Hid (Below w.heap.size w wc ∧ Box wc p 26 (ccL c) ∧ Box wc q 28 (smL s) ∧ Box wc r 26 (ccL zC) ∧ w.heap.size ≤ p ∧ p < q ∧ q < r ∧ Fil.RowT wc 0 A n k fs ∧ True)) (HP : Hid (∀ W', Below w.heap.size w W' → Fil.RowT W' 0 A n k fs → Post (.returned (.tuple #[ccv (tailD (jdgE c s fresh b) s old b), .int .i64 0])) W'))  :
    Code.wp Tryd.prog ((Tryd.f9.body.bind (fromA 15)).getD .skip) (bodyPost Tryd.prog Tryd.f9 Post) ⟨#[ua, ub, .pointer (some ⟨p, 0, none⟩), .pointer (some ⟨q, 0, none⟩), .pointer (some ⟨r, 0, none⟩), uf, .bool fresh, .bool old, ui, uj, uk, ul, um, un, uo, up, uq, ur, us, ut, uu, uv, uw, ux, uy, uz, uA, uB, uD, uE, uF, uG, uH, uI, uJ, uK, uL, uM, uN, uO, uP, uQ, uR, uS, uT, uU, uV, uW, uX, uY, uZ, xa, xb, xc, xd, xe, xf, xg, xh, xi, xj, xk, xl, xm, xn, xo, xp, xq, xr, xs, xt, xu, xv, xw, xx, xy, xz, xA, xB, xD, xE, xF, xG, xH, xI, xJ, xK, xL, xM, xN, xO, xP, xQ, xR, xS, xT, xU, xV, xW, xX, xY, xZ, za, zb, zc, zd, ze, zf, zg, zh, zi, zj, zk, zl, zm, zn, zo, zp, zq, zr, zs, zt, zu, zv, zw, zx, zy, zz, zA, zB, zD, zE, zF, zG, zH, zI, zJ, zK, zL, zM, zN, zO, zP, zQ, zR, zS, zT], []⟩ wc := by
  by_cases hm : c.md = 1
  · cases fresh with
    | true =>
      cases hi : s.idl with
      | false =>
        have e6 : jdgE c s true b = groE c b := by unfold jdgE; rw [if_pos ⟨hm, rfl, hi⟩]
        rw [e6] at HP
        exact rkE_j c s fs A n k true old w wc p q r b h3 hs hbv hb hA hn hm hi (fun W hW => rful_is c b hb h3.fu h3.fc W (fun U hU => rbw_is c fs b hbv ((Fil.RowT.len hW).trans hn.symm) U (by rw [hA]; exact Fil.RowT.tims (Fil.RowT.later hW hU)))) HX0 HP
      | true =>
        have e6 : jdgE c s true b = c := by unfold jdgE; rw [if_neg (by rintro ⟨_, _, h⟩; rw [hi] at h; cases h)]
        rw [e6] at HP
        exact rkE_i c s fs A n k true old w wc p q r b h3 hs hbv hb hA hn hm hi HX0 HP
    | false =>
      have e6 : jdgE c s false b = c := by unfold jdgE; rw [if_neg (by rintro ⟨_, h, _⟩; cases h)]
      rw [e6] at HP
      exact rkE_f c s fs A n k false old w wc p q r b h3 hs hbv hb hA hn hm HX0 HP
  · have e6 : jdgE c s fresh b = c := by unfold jdgE; rw [if_neg (by rintro ⟨h, _⟩; exact hm h)]
    rw [e6] at HP
    exact rkE_m c s fs A n k fresh old w wc p q r b h3 hs hbv hb hA hn (by simpa using hm) HX0 HP
end Go.Proofs.YtagmighcofllhaaDoor
