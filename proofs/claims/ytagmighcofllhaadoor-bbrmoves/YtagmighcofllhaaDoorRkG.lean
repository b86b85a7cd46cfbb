/- The document's Acked: what stands behind growth. -/
import Derived.Test.YtagmighcofllhaaDoorRkF
import Derived.Test.YtagmighcofllhaaDoorRPh
import Derived.Test.YtagmighcofllhaaDoorRSh
import Derived.Test.YtagmighcofllhaaDoorRAsk
import Derived.Test.YtagmighcofllhaaDoorKAck
namespace Go.Proofs.YtagmighcofllhaaDoor
open Go.ChangeShapes Go.WideShapes Go.ChangeAt Go.RowKit
set_option linter.unusedVariables false
set_option linter.unusedSimpArgs false

open Fil
/-- Phases, probing, the window. -/
def tailD (c : Cc) (s : Sm) (old : Bool) (b : Int) : Cc := rszE (prbE (cycE c s (prodI b c.mr)) s old) s.ak (prodI b (prbE (cycE c s (prodI b c.mr)) s old).mr) b
theorem fin_tail (c : Cc) (s : Sm) (f : Bool) (b : Int) : finE c s f b = tailD (jdgE (rttE c s) s f b) s (oldB c s) b := rfl
theorem tail_rowed (c : Cc) (s : Sm) (old : Bool) (b : Int) (A : Option Addr) (n k : Nat) : tailD (rowed c A n k) s old b = rowed (tailD c s old b) A n k := by
  unfold tailD
  rw [show (rowed c A n k).mr = c.mr from rfl, rowed_cyc, rowed_prb]
  rfl
theorem rtt_rowed (c : Cc) (s : Sm) (A : Option Addr) (n k : Nat) : rttE (rowed c A n k) s = rowed (rttE c s) A n k := rowed_rtt c s A n k
theorem jdg_rowed (c : Cc) (s : Sm) (f : Bool) (b : Int) (A : Option Addr) (n k : Nat) : jdgE (rowed c A n k) s f b = rowed (jdgE c s f b) A n k := by
  unfold jdgE
  rw [rowed_gro]
  show (if c.md = 1 ∧ f = true ∧ s.idl = false then _ else _) = _
  split <;> rfl
theorem cyc_row (c : Cc) (s : Sm) (P : Int) : (cycE c s P).ba = c.ba ∧ (cycE c s P).bn = c.bn ∧ (cycE c s P).bc = c.bc := by
  unfold cycE cruE
  (repeat' split) <;> exact ⟨rfl, rfl, rfl⟩
theorem prb_row (c : Cc) (s : Sm) (o : Bool) : (prbE c s o).ba = c.ba ∧ (prbE c s o).bn = c.bn ∧ (prbE c s o).bc = c.bc := by
  unfold prbE levE
  (repeat' split) <;> exact ⟨rfl, rfl, rfl⟩
theorem gro_row (c : Cc) (b : Int) : (groE c b).ba = c.ba ∧ (groE c b).bn = c.bn ∧ (groE c b).bc = c.bc := by
  unfold groE
  (repeat' split) <;> exact ⟨rfl, rfl, rfl⟩
variable {ua ub uf ug uh ui uj uk ul um un uo up uq ur us ut uu uv uw ux uy uz uA uB uD uE uF uG uH uI uJ uK uL uM uN uO uP uQ uR uS uT uU uV uW uX uY uZ xa xb xc xd xe xf xg xh xi xj xk xl xm xn xo xp xq xr xs xt xu xv xw xx xy xz xA xB xD xE xF xG xH xI xJ xK xL xM xN xO xP xQ xR xS xT xU xV xW xX xY xZ za zb zc zd ze zf zg zh zi zj zk zl zm zn zo zp zq zr zs zt zu zv zw zx zy zz zA zB zD zE zF zG zH zI zJ zK zL zM zN zO zP zQ zR zS zT : Value}

set_option maxRecDepth 100000 in
set_option maxHeartbeats 4000000 in
theorem rkF (c : Cc) (s : Sm) (fs : List Tm) (A : Option Addr) (n k : Nat) (fresh old : Bool) (w wc : World) (p q r : Nat) (b : Int) (h3 : Ok8 c) (hs : SmOk s) (hbv : bestV fs = b) (hb : 0 ≤ b ∧ b ≤ 1099511627776) (hA : c.ba = A) (hn : c.bn = n)  {Post : Ending → World → Prop} (HX0 : Hid (Below w.heap.size w wc ∧ Box wc p 26 (ccL c) ∧ Box wc q 28 (smL s) ∧ Box wc r 26 (ccL zC) ∧ w.heap.size ≤ p ∧ p < q ∧ q < r ∧ Fil.RowT wc 0 A n k fs ∧ True)) (HP : Hid (∀ W', Below w.heap.size w W' → Fil.RowT W' 0 A n k fs → Post (.returned (.tuple #[ccv (tailD c s old b), .int .i64 0])) W'))  :
    Code.wp Tryd.prog ((Tryd.f9.body.bind (fromA 17)).getD .skip) (bodyPost Tryd.prog Tryd.f9 Post) ⟨#[ua, ub, .pointer (some ⟨p, 0, none⟩), .pointer (some ⟨q, 0, none⟩), .pointer (some ⟨r, 0, none⟩), uf, .bool fresh, .bool old, ui, uj, uk, ul, um, un, uo, up, uq, ur, us, ut, uu, uv, uw, ux, uy, uz, uA, uB, uD, uE, uF, uG, uH, uI, uJ, uK, uL, uM, uN, uO, uP, uQ, uR, uS, uT, uU, uV, uW, uX, uY, uZ, xa, xb, xc, xd, xe, xf, xg, xh, xi, xj, xk, xl, xm, xn, xo, xp, xq, xr, xs, xt, xu, xv, xw, xx, xy, xz, xA, xB, xD, xE, xF, xG, xH, xI, xJ, xK, xL, xM, xN, xO, xP, xQ, xR, xS, xT, xU, xV, xW, xX, xY, xZ, za, zb, zc, zd, ze, zf, zg, zh, zi, zj, zk, zl, zm, zn, zo, zp, zq, zr, zs, zt, zu, zv, zw, zx, zy, zz, zA, zB, zD, zE, zF, zG, zH, zI, zJ, zK, zL, zM, zN, zO, zP, zQ, zR, zS, zT], []⟩ wc := by
  obtain ⟨P3, ep3⟩ : ∃ P, prodI b c.mr = P := ⟨_, rfl⟩
  have h4 : Ok8 (cycE c s P3) := ok_cyc h3 hs
  obtain ⟨y1, y2, _⟩ := cyc_row c s P3
  unfold tailD at HP
  rw [ep3] at HP
  obtain ⟨c4, e4⟩ : ∃ D, cycE c s P3 = D := ⟨_, rfl⟩
  rw [e4] at h4 HP y1 y2
  have h5 : Ok8 (prbE c4 s old) := ok_prb h4 hs
  obtain ⟨z1, z2, _⟩ := prb_row c4 s old
  obtain ⟨c5, e5⟩ : ∃ D, prbE c4 s old = D := ⟨_, rfl⟩
  rw [e5] at h5 HP z1 z2
  obtain ⟨P5, ep5⟩ : ∃ P, prodI b c5.mr = P := ⟨_, rfl⟩
  rw [ep5] at HP
  have hp5 := prod_bd (b := b) (m := c5.mr) hb.1 h5.mr.1
  rw [ep5] at hp5
  have hbI : I64 b := by unfold I64; omega
  have a5 : c5.ba = A := (z1.trans y1).trans hA
  have n5 : c5.bn = n := (z2.trans y2).trans hn
  have I : ∀ {d : Cc}, Ok8 d → I64 d.mr := fun h => by have := h.mr; unfold I64; omega
  have PR : ∀ (d : Cc) (P : Int), Ok8 d → prodI b d.mr = P → d.ba = A → d.bn = n → ∀ U, Fil.RowT U 0 A n k fs → Calls Tryd.prog 39 #[ccv d] U fun e w' => e = .returned (.int .i64 P) ∧ Below U.heap.size U w' :=
    fun d P hd hP hda hdn U hU => rprd_is d fs b P hbv hP hbI (I hd) ((Fil.RowT.len hU).trans hdn.symm) U (by rw [hda]; exact Fil.RowT.tims hU)
  have q1 : ∀ W, Fil.RowT W 0 A n k fs → Calls Tryd.prog 37 #[ccv c, agv (smL s)] W fun e w' => e = .returned (ccv c4) ∧ Below W.heap.size W w' := fun W hW => by
    have := rcyc_is c s P3 h3.md h3.ph h3.pa h3.mr hs.nw W (fun U hU => PR c P3 h3 ep3 hA hn U (Fil.RowT.later hW hU))
    rw [e4] at this
    exact this
  have q2 : ∀ W, Fil.RowT W 0 A n k fs → Calls Tryd.prog 38 #[ccv c4, agv (smL s), .bool old] W fun e w' => e = .returned (ccv c5) ∧ Below W.heap.size W w' := fun W _ => by
    have := rprb_is c4 s old h4.ms hs.nw W
    rw [e5] at this
    exact this
  have q3 := PR c5 P5 h5 ep5 a5 n5
  have q7 : ∀ W, Fil.RowT W 0 A n k fs → Calls Tryd.prog 40 #[ccv c5] W fun e w' => e = .returned (.int .i64 b) ∧ Below W.heap.size W w' := fun W hW => rbw_is c5 fs b hbv ((Fil.RowT.len hW).trans n5.symm) W (by rw [a5]; exact Fil.RowT.tims hW)
  have hm := h5.ms
  have hw := h5.cw
  have ha := hs.ak
  have m4 : IntKind.i64.wrap (4 * c5.ms) = 4 * c5.ms := by rw [IntKind.wrap_i64]; omega
  have p2 : IntKind.i64.wrap (2 * P5) = 2 * P5 := by rw [IntKind.wrap_i64]; omega
  have w1 : IntKind.i64.wrap (c5.cw + s.ak) = c5.cw + s.ak := by rw [IntKind.wrap_i64]; omega
  have hmx : (if 4 * c5.ms < 2 * P5 then 2 * P5 else 4 * c5.ms) = tgtI c5 P5 := by unfold tgtI; split <;> omega
  unfold rszE at HP
  obtain ⟨tg, ht⟩ : ∃ t, tgtI c5 P5 = t := ⟨_, rfl⟩
  rw [ht] at hmx
  by_cases k4 : c5.md = 4
  · have e : rawW c5 s.ak P5 b = min c5.cw (4 * c5.ms) := by unfold rawW; rw [if_pos k4]
    rw [e] at HP
    exact rkF_a c s fs A n k fresh old w wc p q r c4 c5 P5 tg _ _ m4 p2 hmx w1 (by simpa using k4) (by split <;> omega) HX0 q1 q2 q3 (fun W => rclamp_walk _ _ _ W) HP
  have d4 : (c5.md == 4) = false := by simpa using k4
  by_cases k3 : c5.fc = 3
  · have e : rawW c5 s.ak P5 b = min (c5.cw + s.ak) tg := by unfold rawW; rw [if_neg k4, if_pos k3, ht]
    rw [e] at HP
    exact rkF_b c s fs A n k fresh old w wc p q r c4 c5 P5 tg _ _ m4 p2 hmx w1 d4 (by simpa using k3) (by split <;> omega) HX0 q1 q2 q3 (fun W => rclamp_walk _ _ _ W) HP
  have d3 : (c5.fc == 3) = false := by simpa using k3
  by_cases k5 : c5.cw < tg
  · have e : rawW c5 s.ak P5 b = c5.cw + s.ak := by unfold rawW; rw [if_neg k4, if_neg k3, ht, if_pos (Or.inl k5)]
    rw [e] at HP
    exact rkF_c c s fs A n k fresh old w wc p q r c4 c5 P5 tg _ m4 p2 hmx w1 d4 d3 (decide_eq_true k5) HX0 q1 q2 q3 (fun W => rclamp_walk _ _ _ W) HP
  by_cases k6 : b = 0
  · have e : rawW c5 s.ak P5 b = c5.cw + s.ak := by unfold rawW; rw [if_neg k4, if_neg k3, ht, if_pos (Or.inr k6)]
    rw [e] at HP
    exact rkF_d c s fs A n k fresh old w wc p q r c4 c5 P5 tg _ b m4 p2 hmx w1 d4 d3 (decide_eq_false k5) (by simpa using k6) HX0 q1 q2 q3 q7 (fun W => rclamp_walk _ _ _ W) HP
  · have e : rawW c5 s.ak P5 b = c5.cw := by unfold rawW; rw [if_neg k4, if_neg k3, ht, if_neg (by omega)]
    rw [e] at HP
    exact rkF_e c s fs A n k fresh old w wc p q r c4 c5 P5 tg _ b m4 p2 hmx w1 d4 d3 (decide_eq_false k5) (by simpa using k6) HX0 q1 q2 q3 q7 (fun W => rclamp_walk _ _ _ W) HP
end Go.Proofs.YtagmighcofllhaaDoor
