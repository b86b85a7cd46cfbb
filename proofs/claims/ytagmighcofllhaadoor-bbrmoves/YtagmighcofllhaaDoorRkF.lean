/- The document's Acked: phases, probing, the window. -/
import Derived.Test.YtagmighcofllhaaDoorGA
import Derived.Test.YtagmighcofllhaaDoorGD
import Derived.Test.YtagmighcofllhaaDoorGS
namespace Go.Proofs.YtagmighcofllhaaDoor
open Go.ChangeShapes Go.WideShapes Go.ChangeAt Go.RowKit
set_option linter.unusedVariables false
set_option linter.unusedSimpArgs false

open Fil

/-- Begins with a region. -/
def opensR (n : Nat) : Code → Bool
  | .region m _ _ => m == n
  | .seq a _ => opensR n a
  | _ => false
/-- The code from a statement on, by its first region. -/
def fromA (n : Nat) : Code → Option Code
  | .seq a b => if opensR n a then some (.seq a b) else match fromA n a with
    | some c => some c
    | none => fromA n b
  | _ => none
variable {ua ub uf ug uh ui uj uk ul um un uo up uq ur us ut uu uv uw ux uy uz uA uB uD uE uF uG uH uI uJ uK uL uM uN uO uP uQ uR uS uT uU uV uW uX uY uZ xa xb xc xd xe xf xg xh xi xj xk xl xm xn xo xp xq xr xs xt xu xv xw xx xy xz xA xB xD xE xF xG xH xI xJ xK xL xM xN xO xP xQ xR xS xT xU xV xW xX xY xZ za zb zc zd ze zf zg zh zi zj zk zl zm zn zo zp zq zr zs zt zu zv zw zx zy zz zA zB zD zE zF zG zH zI zJ zK zL zM zN zO zP zQ zR zS zT : Value}
theorem enter39 (args : Array Value) (w : World) : (callFunc 39 args).run Tryd.prog w = .ok (.enter 39 args) w := by kernel_rfl
def rk19O0 (ps : String) : Oper := { dst := some 94, op := .fieldAddr 26 (.tmp 2) 1, type := 0, pos := ps, after := #[], guard := none }
def rk19O1 (ps : String) : Oper := { dst := some 95, op := .load 3 (.tmp 94), type := 3, pos := ps, after := #[{ on := 0, ground := .data }], guard := none }
def rk19O2 (ps : String) : Oper := { dst := some 96, op := .binOp .mul 3 (.const (.int .i64 4)) (.tmp 95) 3, type := 3, pos := ps, after := #[{ on := 1, ground := .data }], guard := none }
def rk19O3 (ps : String) : Oper := { dst := some 97, op := .load 26 (.tmp 2), type := 26, pos := ps, after := #[], guard := none }
def rk19O4 (ps : String) : Oper := { dst := some 98, op := .call { callee := .value (.func 39), args := #[.tmp 97], argTypes := #[26] }, type := 3, pos := ps, after := #[{ on := 3, ground := .data }], guard := none }
def rk19O5 (ps : String) : Oper := { dst := some 99, op := .binOp .mul 3 (.const (.int .i64 2)) (.tmp 98) 3, type := 3, pos := ps, after := #[{ on := 4, ground := .data }], guard := none }
def rk19O6 (ps : String) : Oper := { dst := some 100, op := .call { callee := .builtin .max, args := #[.tmp 96, .tmp 99], argTypes := #[3, 3] }, type := 3, pos := ps, after := #[{ on := 2, ground := .data }, { on := 5, ground := .data }], guard := none }
def rk19O7 (ps : String) : Oper := { dst := some 8, op := .assign (.tmp 100), type := 3, pos := ps, after := #[{ on := 6, ground := .data }, { on := 4, ground := .chain }, { on := 0, ground := .phase }, { on := 1, ground := .phase }, { on := 2, ground := .phase }, { on := 3, ground := .phase }, { on := 4, ground := .phase }, { on := 5, ground := .phase }, { on := 6, ground := .phase }], guard := none }
def rk19 (ps : String) : Array Oper := #[rk19O0 ps, rk19O1 ps, rk19O2 ps, rk19O3 ps, rk19O4 ps, rk19O5 ps, rk19O6 ps, rk19O7 ps]
theorem rk19_0 (ps : String) : (rk19 ps)[0]? = some (rk19O0 ps) := rfl
theorem rk19_1 (ps : String) : (rk19 ps)[1]? = some (rk19O1 ps) := rfl
theorem rk19_2 (ps : String) : (rk19 ps)[2]? = some (rk19O2 ps) := rfl
theorem rk19_3 (ps : String) : (rk19 ps)[3]? = some (rk19O3 ps) := rfl
theorem rk19_4 (ps : String) : (rk19 ps)[4]? = some (rk19O4 ps) := rfl
theorem rk19_5 (ps : String) : (rk19 ps)[5]? = some (rk19O5 ps) := rfl
theorem rk19_6 (ps : String) : (rk19 ps)[6]? = some (rk19O6 ps) := rfl
theorem rk19_7 (ps : String) : (rk19 ps)[7]? = some (rk19O7 ps) := rfl
def rk19D : Nat → Option Tmp
  | 0 => some 94
  | 1 => some 95
  | 2 => some 96
  | 3 => some 97
  | 4 => some 98
  | 5 => some 99
  | 6 => some 100
  | 7 => some 8
  | _ => none
def rk19T (c : Cc) (fs : List Tm) (A : Option Addr) (n k p : Nat) (P tg : Int) : Nat → Value
  | 0 => .pointer (some ⟨p, 1, none⟩)
  | 1 => .int .i64 c.ms
  | 2 => .int .i64 (4 * c.ms)
  | 3 => ccv c
  | 4 => .int .i64 P
  | 5 => .int .i64 (2 * P)
  | 6 => .int .i64 tg
  | 7 => .int .i64 tg
  | _ => undef
set_option maxRecDepth 100000 in
set_option maxHeartbeats 4000000 in
theorem rk19_reg {ps : String} {Q : Exit → Act → World → Prop} {a0 : Act} {W0 W1 : World} (sz : a0.tmps.size = 147) (c : Cc) (fs : List Tm) (A : Option Addr) (n k p : Nat) (P tg : Int)
    (e2 : a0.eval (.tmp 2) = .pointer (some ⟨p, 0, none⟩))
    (hb : Box W1 p 26 (ccL c)) (hR : Fil.RowT W1 0 A n k fs) (hW : W0 = W1) (hm4 : IntKind.i64.wrap (4 * c.ms) = 4 * c.ms) (hp2 : IntKind.i64.wrap (2 * P) = 2 * P) (hmx : (if 4 * c.ms < 2 * P then 2 * P else 4 * c.ms) = tg) (c1 : ∀ W, Fil.RowT W 0 A n k fs → Calls Tryd.prog 39 #[ccv c] W fun e w' => e = .returned (.int .i64 P) ∧ Below W.heap.size W w')
    (hfin : ∀ (T : Nat → Value) w, T 7 = .int .i64 tg → Below W1.heap.size W1 w ∧ Box w p 26 (ccL c) ∧ Fil.RowT w 0 A n k fs → Q .normal ((((((((a0.put (some 94) (T 0)).put (some 95) (T 1)).put (some 96) (T 2)).put (some 97) (T 3)).put (some 98) (T 4)).put (some 99) (T 5)).put (some 100) (T 6)).put (some 8) (T 7)) w) :
    (Code.region 19 (rk19 ps) true).wp Tryd.prog Q a0 W0 := by
  refine wp_region_dets (by kernel_rfl) 8 rfl rk19D ?_ (by decide) (rk19T c fs A n k p P tg) (fun D w => Below W1.heap.size W1 w ∧ Box w p 26 (ccL c) ∧ Fil.RowT w 0 A n k fs) (fun D _ => (by subst hW; exact ⟨(Below.refl _ _).drew, hb.drew, hR.drew⟩)) ?_ (by rfl) (fun w D _ hSw => hfin (rk19T c fs A n k p P tg) w rfl hSw)
  · intro jq t hj ht
    have : ∀ j, j < 8 → (rk19D j).all (· < 147) = true := by decide
    have := this jq hj
    rw [ht] at this
    rw [sz]
    simpa using this
  · intro iq o ho D a w hSw hDi hcl hs hel K hK
    have hin : iq < 8 := (Array.getElem?_eq_some_iff.1 ho).1
    match iq, hin, ho with
    | 0, _, ho =>
      obtain rfl := Option.some.inj (ho.symm.trans (rk19_0 ps))
      have u2 : a.eval (.tmp 2) = .pointer (some ⟨p, 0, none⟩) := (hel 2 (by decide)).trans e2
      exact op_valW (rk19_0 ps) rfl (v := .pointer (some ⟨p, 1, none⟩)) (by unfold rk19O0 execOp; simp only [u2]; first | (go_simp; done) | (go_simp; with_reducible rfl)) (hK w (fun D' _ _ => hSw))
    | 1, _, ho =>
      obtain rfl := Option.some.inj (ho.symm.trans (rk19_1 ps))
      have s0 : a.eval (.tmp 94) = .pointer (some ⟨p, 1, none⟩) := hs 0 94 (by rfl) rfl
      have hcl : w.cell? ⟨p, 1, none⟩ = some (.int .i64 c.ms) := Box.cell hSw.2.1 1 rfl
      exact op_valW (rk19_1 ps) rfl (v := .int .i64 c.ms) (by unfold rk19O1 execOp; simp only [s0]; first | (go_simp; done) | (go_simp; with_reducible rfl)) (hK w (fun D' _ _ => hSw))
    | 2, _, ho =>
      obtain rfl := Option.some.inj (ho.symm.trans (rk19_2 ps))
      have s1 : a.eval (.tmp 95) = .int .i64 c.ms := hs 1 95 (by rfl) rfl
      have hcl : IntKind.i64.wrap (4 * c.ms) = 4 * c.ms := hm4
      exact op_valW (rk19_2 ps) rfl (v := .int .i64 (4 * c.ms)) (by unfold rk19O2 execOp; simp only [s1]; first | (go_simp; done) | (go_simp; with_reducible rfl)) (hK w (fun D' _ _ => hSw))
    | 3, _, ho =>
      obtain rfl := Option.some.inj (ho.symm.trans (rk19_3 ps))
      have u2 : a.eval (.tmp 2) = .pointer (some ⟨p, 0, none⟩) := (hel 2 (by decide)).trans e2
      exact op_valW (rk19_3 ps) rfl (v := ccv c) (run_loadC isC26 rfl u2 hSw.2.1) (hK w (fun D' _ _ => hSw))
    | 4, _, ho =>
      obtain rfl := Option.some.inj (ho.symm.trans (rk19_4 ps))
      have s3 : a.eval (.tmp 97) = ccv c := hs 3 97 (by rfl) rfl
      exact op_enterW (rk19_4 ps) rfl (f := 39) (args := #[ccv c]) (by rw [run_call rfl enter39]; simp only [List.map_toArray, List.map_cons, List.map_nil, s3]; try rfl) ((c1 w hSw.2.2).mono (fun e w' hh => ⟨_, hh.1, hK w' (fun D' _ _ => ⟨Below.on hSw.1 hh.2, hSw.2.1.later hh.2, hSw.2.2.later hh.2⟩)⟩))
    | 5, _, ho =>
      obtain rfl := Option.some.inj (ho.symm.trans (rk19_5 ps))
      have s4 : a.eval (.tmp 98) = .int .i64 P := hs 4 98 (by rfl) rfl
      have hcl : IntKind.i64.wrap (2 * P) = 2 * P := hp2
      exact op_valW (rk19_5 ps) rfl (v := .int .i64 (2 * P)) (by unfold rk19O5 execOp; simp only [s4]; first | (go_simp; done) | (go_simp; with_reducible rfl)) (hK w (fun D' _ _ => hSw))
    | 6, _, ho =>
      obtain rfl := Option.some.inj (ho.symm.trans (rk19_6 ps))
      have s2 : a.eval (.tmp 96) = .int .i64 (4 * c.ms) := hs 2 96 (by rfl) rfl
      have s5 : a.eval (.tmp 99) = .int .i64 (2 * P) := hs 5 99 (by rfl) rfl
      have t96 : a.tmps[96]?.getD undef = .int .i64 (4 * c.ms) := by simpa [Act.eval] using s2
      have t99 : a.tmps[99]?.getD undef = .int .i64 (2 * P) := by simpa [Act.eval] using s5
      have hcl : (if 4 * c.ms < 2 * P then 2 * P else 4 * c.ms) = tg := hmx
      exact op_valW (rk19_6 ps) rfl (v := .int .i64 tg) (by unfold rk19O6 execOp; skip; first | (go_simp; done) | (go_simp; with_reducible rfl)) (hK w (fun D' _ _ => hSw))
    | 7, _, ho =>
      obtain rfl := Option.some.inj (ho.symm.trans (rk19_7 ps))
      have s6 : a.eval (.tmp 100) = .int .i64 tg := hs 6 100 (by rfl) rfl
      exact op_valW (rk19_7 ps) rfl (v := .int .i64 tg) (by unfold rk19O7 execOp; simp only [s6]; first | (go_simp; done) | (go_simp; with_reducible rfl)) (hK w (fun D' _ _ => hSw))
    | iq + 8, hin, _ => exact absurd hin (by omega)

set_option maxRecDepth 100000 in
set_option maxHeartbeats 4000000 in
theorem rkF_a (c : Cc) (s : Sm) (fs : List Tm) (A : Option Addr) (n k : Nat) (fresh old : Bool) (w wc : World) (p q r : Nat) (c4 c5 : Cc) (P tg x z : Int) (hm4 : IntKind.i64.wrap (4 * c5.ms) = 4 * c5.ms) (hp2 : IntKind.i64.wrap (2 * P) = 2 * P) (hmx : (if 4 * c5.ms < 2 * P then 2 * P else 4 * c5.ms) = tg) (w1 : IntKind.i64.wrap (c5.cw + s.ak) = c5.cw + s.ak) (d4 : (c5.md == 4) = true) (hz : (if 4 * c5.ms < c5.cw then 4 * c5.ms else c5.cw) = z)   {Post : Ending → World → Prop} (HX0 : Hid (Below w.heap.size w wc ∧ Box wc p 26 (ccL c) ∧ Box wc q 28 (smL s) ∧ Box wc r 26 (ccL zC) ∧ w.heap.size ≤ p ∧ p < q ∧ q < r ∧ Fil.RowT wc 0 A n k fs ∧ True)) (c1 : ∀ W, Fil.RowT W 0 A n k fs → Calls Tryd.prog 37 #[ccv c, agv (smL s)] W fun e w' => e = .returned (ccv c4) ∧ Below W.heap.size W w') (c2 : ∀ W, Fil.RowT W 0 A n k fs → Calls Tryd.prog 38 #[ccv c4, agv (smL s), .bool old] W fun e w' => e = .returned (ccv c5) ∧ Below W.heap.size W w') (c3 : ∀ W, Fil.RowT W 0 A n k fs → Calls Tryd.prog 39 #[ccv c5] W fun e w' => e = .returned (.int .i64 P) ∧ Below W.heap.size W w') (c8 : ∀ W, Calls Tryd.prog 41 #[.int .i64 z, .int .i64 c5.ms, .int .i64 1073741824] W fun e w' => e = .returned (.int .i64 x) ∧ w' = W) (HP : Hid (∀ W', Below w.heap.size w W' → Fil.RowT W' 0 A n k fs → Post (.returned (.tuple #[ccv { c5 with cw := x }, .int .i64 0])) W'))  :
    Code.wp Tryd.prog ((Tryd.f9.body.bind (fromA 17)).getD .skip) (bodyPost Tryd.prog Tryd.f9 Post) ⟨#[ua, ub, .pointer (some ⟨p, 0, none⟩), .pointer (some ⟨q, 0, none⟩), .pointer (some ⟨r, 0, none⟩), uf, .bool fresh, .bool old, ui, uj, uk, ul, um, un, uo, up, uq, ur, us, ut, uu, uv, uw, ux, uy, uz, uA, uB, uD, uE, uF, uG, uH, uI, uJ, uK, uL, uM, uN, uO, uP, uQ, uR, uS, uT, uU, uV, uW, uX, uY, uZ, xa, xb, xc, xd, xe, xf, xg, xh, xi, xj, xk, xl, xm, xn, xo, xp, xq, xr, xs, xt, xu, xv, xw, xx, xy, xz, xA, xB, xD, xE, xF, xG, xH, xI, xJ, xK, xL, xM, xN, xO, xP, xQ, xR, xS, xT, xU, xV, xW, xX, xY, xZ, za, zb, zc, zd, ze, zf, zg, zh, zi, zj, zk, zl, zm, zn, zo, zp, zq, zr, zs, zt, zu, zv, zw, zx, zy, zz, zA, zB, zD, zE, zF, zG, zH, zI, zJ, zK, zL, zM, zN, zO, zP, zQ, zR, zS, zT], []⟩ wc := by
  conv => arg 2; whnf
  go_wp2_with (first | (refine wpC_load rfl isC26 rfl rfl (HX0.out.2.1) ?_) | (refine wpS_load rfl rfl rfl (HX0.out.2.2.1) isS28 ?_) | fail)
  refine (c1 _ (HX0.out.2.2.2.2.2.2.2.1)).mono ?_
  rintro e w1 ⟨rfl, hB⟩
  have HX1 : Hid (Below w.heap.size w w1 ∧ Box w1 p 26 (ccL c) ∧ Box w1 q 28 (smL s) ∧ Box w1 r 26 (ccL zC) ∧ w.heap.size ≤ p ∧ p < q ∧ q < r ∧ Fil.RowT w1 0 A n k fs ∧ True) := by
    obtain ⟨hb, b0, b1, b2, l0, l1, l2, r0, _⟩ := HX0.out
    exact ⟨Below.on hb hB, b0.later hB, b1.later hB, b2.later hB, l0, l1, l2, r0.later hB, trivial⟩
  clear hB HX0
  go_wp2_with (first | (refine wpC_store rfl isC26 rfl rfl rfl rfl (HX1.out.2.1) rfl ?_))
  intro X2 HN
  have HX2 : Hid (Below w.heap.size w X2 ∧ Box X2 p 26 (ccL c4) ∧ Box X2 q 28 (smL s) ∧ Box X2 r 26 (ccL zC) ∧ w.heap.size ≤ p ∧ p < q ∧ q < r ∧ Fil.RowT X2 0 A n k fs ∧ True) := by
    obtain ⟨hb, b0, b1, b2, l0, l1, l2, r0, _⟩ := HX1.out
    obtain ⟨st, bn⟩ := HN.out
    exact ⟨st.below _ _ (by omega) hb, bn, b1.sto st (by omega), b2.sto st (by omega), l0, l1, l2, r0.sto b0 (by decide) st, trivial⟩
  clear HN HX1
  clear c1
  go_wp2_with (first | (refine wpC_load rfl isC26 rfl rfl (HX2.out.2.1) ?_) | (refine wpS_load rfl rfl rfl (HX2.out.2.2.1) isS28 ?_) | fail)
  refine (c2 _ (HX2.out.2.2.2.2.2.2.2.1)).mono ?_
  rintro e w3 ⟨rfl, hB⟩
  have HX3 : Hid (Below w.heap.size w w3 ∧ Box w3 p 26 (ccL c4) ∧ Box w3 q 28 (smL s) ∧ Box w3 r 26 (ccL zC) ∧ w.heap.size ≤ p ∧ p < q ∧ q < r ∧ Fil.RowT w3 0 A n k fs ∧ True) := by
    obtain ⟨hb, b0, b1, b2, l0, l1, l2, r0, _⟩ := HX2.out
    exact ⟨Below.on hb hB, b0.later hB, b1.later hB, b2.later hB, l0, l1, l2, r0.later hB, trivial⟩
  clear hB HX2
  go_wp2_with (first | (refine wpC_store rfl isC26 rfl rfl rfl rfl (HX3.out.2.1) rfl ?_))
  intro X4 HN
  have HX4 : Hid (Below w.heap.size w X4 ∧ Box X4 p 26 (ccL c5) ∧ Box X4 q 28 (smL s) ∧ Box X4 r 26 (ccL zC) ∧ w.heap.size ≤ p ∧ p < q ∧ q < r ∧ Fil.RowT X4 0 A n k fs ∧ True) := by
    obtain ⟨hb, b0, b1, b2, l0, l1, l2, r0, _⟩ := HX3.out
    obtain ⟨st, bn⟩ := HN.out
    exact ⟨st.below _ _ (by omega) hb, bn, b1.sto st (by omega), b2.sto st (by omega), l0, l1, l2, r0.sto b0 (by decide) st, trivial⟩
  clear HN HX3
  clear c2
  go_upto_region 19 with fail
  refine rk19_reg (by rfl) c5 fs A n k p P tg rfl (HX4.out.2.1) (HX4.out.2.2.2.2.2.2.2.1) rfl hm4 hp2 hmx c3 ?_
  intro T X5 hT hS
  simp only [Act.put, List.setIfInBounds_toArray, List.set_cons_zero, List.set_cons_succ]
  simp only [hT]
  have hbl := hS.1
  clear hS
  have HX5 : Hid (Below w.heap.size w X5 ∧ Box X5 p 26 (ccL c5) ∧ Box X5 q 28 (smL s) ∧ Box X5 r 26 (ccL zC) ∧ w.heap.size ≤ p ∧ p < q ∧ q < r ∧ Fil.RowT X5 0 A n k fs ∧ True) := by
    obtain ⟨hb, b0, b1, b2, l0, l1, l2, r0, _⟩ := HX4.out
    exact ⟨Below.on hb hbl, b0.later hbl, b1.later hbl, b2.later hbl, l0, l1, l2, r0.later hbl, trivial⟩
  clear hbl hT c3 HX4
  have k10 := Box.cell (HX5.out.2.1) 10 rfl
  have k2 := Box.cell (HX5.out.2.1) 2 rfl
  have k1 := Box.cell (HX5.out.2.1) 1 rfl
  have k17 := Box.cell (HX5.out.2.1) 17 rfl
  have j1 := Box.cell (HX5.out.2.2.1) 1 rfl
  have fz := fun i => Box.frozen (HX5.out.2.1) i
  go_upto_region 26 with fail
  obtain ⟨X6, hX⟩ : ∃ X, (X5.setCell ⟨p, 2, none⟩ (.int .i64 z)) = X := ⟨_, rfl⟩
  try rw [hX]
  have HX6 : Hid (Below w.heap.size w X6 ∧ Box X6 p 26 (ccL { c5 with cw := z }) ∧ Box X6 q 28 (smL s) ∧ Box X6 r 26 (ccL zC) ∧ w.heap.size ≤ p ∧ p < q ∧ q < r ∧ Fil.RowT X6 0 A n k fs ∧ True) := by
    obtain ⟨hb, b0, b1, b2, l0, l1, l2, r0, _⟩ := HX5.out
    have st : Sto X5 p X6 := by rw [← hX]; exact ((Sto.refl X5 p).set 2 _)
    have bn : Box X6 p 26 (ccL { c5 with cw := z }) := by rw [← hX]; exact box_to (b0.set 2 _) rfl
    exact ⟨st.below _ _ (by omega) hb, bn, b1.sto st (by omega), b2.sto st (by omega), l0, l1, l2, r0.sto b0 (by decide) st, trivial⟩
  clear hX HX5
  clear k10 k2 k1 k17 j1 fz
  have k2 : X6.cell? ⟨p, 2, none⟩ = some (.int .i64 z) := Box.cell (HX6.out.2.1) 2 rfl
  have k1 : X6.cell? ⟨p, 1, none⟩ = some (.int .i64 c5.ms) := Box.cell (HX6.out.2.1) 1 rfl
  have fz := fun i => Box.frozen (HX6.out.2.1) i
  go_wp2_with fail
  refine (c8 _).mono ?_
  rintro e w' ⟨rfl, hq⟩
  obtain rfl := hq.symm
  clear hq
  go_upto_region 27 with fail
  obtain ⟨X7, hX⟩ : ∃ X, (X6.setCell ⟨p, 2, none⟩ (.int .i64 x)) = X := ⟨_, rfl⟩
  try rw [hX]
  have HX7 : Hid (Below w.heap.size w X7 ∧ Box X7 p 26 (ccL { c5 with cw := x }) ∧ Box X7 q 28 (smL s) ∧ Box X7 r 26 (ccL zC) ∧ w.heap.size ≤ p ∧ p < q ∧ q < r ∧ Fil.RowT X7 0 A n k fs ∧ True) := by
    obtain ⟨hb, b0, b1, b2, l0, l1, l2, r0, _⟩ := HX6.out
    have st : Sto X6 p X7 := by rw [← hX]; exact ((Sto.refl X6 p).set 2 _)
    have bn : Box X7 p 26 (ccL { c5 with cw := x }) := by rw [← hX]; exact box_to (b0.set 2 _) rfl
    exact ⟨st.below _ _ (by omega) hb, bn, b1.sto st (by omega), b2.sto st (by omega), l0, l1, l2, r0.sto b0 (by decide) st, trivial⟩
  clear hX HX6
  clear k1 k2 fz c8
  go_wp2_with (first | (refine wpC_load rfl isC26 rfl rfl (HX7.out.2.1) ?_) | (refine wpC_store rfl isC26 rfl rfl rfl rfl (HX7.out.2.2.2.1) rfl ?_))
  intro X8 HN
  have HX8 : Hid (Below w.heap.size w X8 ∧ Box X8 p 26 (ccL { c5 with cw := x }) ∧ Box X8 q 28 (smL s) ∧ Box X8 r 26 (ccL { c5 with cw := x }) ∧ w.heap.size ≤ p ∧ p < q ∧ q < r ∧ Fil.RowT X8 0 A n k fs ∧ True) := by
    obtain ⟨hb, b0, b1, b2, l0, l1, l2, r0, _⟩ := HX7.out
    obtain ⟨st, bn⟩ := HN.out
    exact ⟨st.below _ _ (by omega) hb, b0.sto st (by omega), b1.sto st (by omega), bn, l0, l1, l2, r0.sto b2 (by decide) st, trivial⟩
  clear HN HX7
  go_wp2_with fail
  refine bodyPost_ret (resC2 isC26 rfl _ _ rfl (HX8.out.2.2.2.1)) rfl ?_
  exact HP.out _ (HX8.out.1) (HX8.out.2.2.2.2.2.2.2.1)

set_option maxRecDepth 100000 in
set_option maxHeartbeats 4000000 in
theorem rkF_b (c : Cc) (s : Sm) (fs : List Tm) (A : Option Addr) (n k : Nat) (fresh old : Bool) (w wc : World) (p q r : Nat) (c4 c5 : Cc) (P tg x z : Int) (hm4 : IntKind.i64.wrap (4 * c5.ms) = 4 * c5.ms) (hp2 : IntKind.i64.wrap (2 * P) = 2 * P) (hmx : (if 4 * c5.ms < 2 * P then 2 * P else 4 * c5.ms) = tg) (w1 : IntKind.i64.wrap (c5.cw + s.ak) = c5.cw + s.ak) (d4 : (c5.md == 4) = false) (d3 : (c5.fc == 3) = true) (hz : (if tg < c5.cw + s.ak then tg else c5.cw + s.ak) = z)   {Post : Ending → World → Prop} (HX0 : Hid (Below w.heap.size w wc ∧ Box wc p 26 (ccL c) ∧ Box wc q 28 (smL s) ∧ Box wc r 26 (ccL zC) ∧ w.heap.size ≤ p ∧ p < q ∧ q < r ∧ Fil.RowT wc 0 A n k fs ∧ True)) (c1 : ∀ W, Fil.RowT W 0 A n k fs → Calls Tryd.prog 37 #[ccv c, agv (smL s)] W fun e w' => e = .returned (ccv c4) ∧ Below W.heap.size W w') (c2 : ∀ W, Fil.RowT W 0 A n k fs → Calls Tryd.prog 38 #[ccv c4, agv (smL s), .bool old] W fun e w' => e = .returned (ccv c5) ∧ Below W.heap.size W w') (c3 : ∀ W, Fil.RowT W 0 A n k fs → Calls Tryd.prog 39 #[ccv c5] W fun e w' => e = .returned (.int .i64 P) ∧ Below W.heap.size W w') (c8 : ∀ W, Calls Tryd.prog 41 #[.int .i64 z, .int .i64 c5.ms, .int .i64 1073741824] W fun e w' => e = .returned (.int .i64 x) ∧ w' = W) (HP : Hid (∀ W', Below w.heap.size w W' → Fil.RowT W' 0 A n k fs → Post (.returned (.tuple #[ccv { c5 with cw := x }, .int .i64 0])) W'))  :
    Code.wp Tryd.prog ((Tryd.f9.body.bind (fromA 17)).getD .skip) (bodyPost Tryd.prog Tryd.f9 Post) ⟨#[ua, ub, .pointer (some ⟨p, 0, none⟩), .pointer (some ⟨q, 0, none⟩), .pointer (some ⟨r, 0, none⟩), uf, .bool fresh, .bool old, ui, uj, uk, ul, um, un, uo, up, uq, ur, us, ut, uu, uv, uw, ux, uy, uz, uA, uB, uD, uE, uF, uG, uH, uI, uJ, uK, uL, uM, uN, uO, uP, uQ, uR, uS, uT, uU, uV, uW, uX, uY, uZ, xa, xb, xc, xd, xe, xf, xg, xh, xi, xj, xk, xl, xm, xn, xo, xp, xq, xr, xs, xt, xu, xv, xw, xx, xy, xz, xA, xB, xD, xE, xF, xG, xH, xI, xJ, xK, xL, xM, xN, xO, xP, xQ, xR, xS, xT, xU, xV, xW, xX, xY, xZ, za, zb, zc, zd, ze, zf, zg, zh, zi, zj, zk, zl, zm, zn, zo, zp, zq, zr, zs, zt, zu, zv, zw, zx, zy, zz, zA, zB, zD, zE, zF, zG, zH, zI, zJ, zK, zL, zM, zN, zO, zP, zQ, zR, zS, zT], []⟩ wc := by
  conv => arg 2; whnf
  go_wp2_with (first | (refine wpC_load rfl isC26 rfl rfl (HX0.out.2.1) ?_) | (refine wpS_load rfl rfl rfl (HX0.out.2.2.1) isS28 ?_) | fail)
  refine (c1 _ (HX0.out.2.2.2.2.2.2.2.1)).mono ?_
  rintro e w1 ⟨rfl, hB⟩
  have HX1 : Hid (Below w.heap.size w w1 ∧ Box w1 p 26 (ccL c) ∧ Box w1 q 28 (smL s) ∧ Box w1 r 26 (ccL zC) ∧ w.heap.size ≤ p ∧ p < q ∧ q < r ∧ Fil.RowT w1 0 A n k fs ∧ True) := by
    obtain ⟨hb, b0, b1, b2, l0, l1, l2, r0, _⟩ := HX0.out
    exact ⟨Below.on hb hB, b0.later hB, b1.later hB, b2.later hB, l0, l1, l2, r0.later hB, trivial⟩
  clear hB HX0
  go_wp2_with (first | (refine wpC_store rfl isC26 rfl rfl rfl rfl (HX1.out.2.1) rfl ?_))
  intro X2 HN
  have HX2 : Hid (Below w.heap.size w X2 ∧ Box X2 p 26 (ccL c4) ∧ Box X2 q 28 (smL s) ∧ Box X2 r 26 (ccL zC) ∧ w.heap.size ≤ p ∧ p < q ∧ q < r ∧ Fil.RowT X2 0 A n k fs ∧ True) := by
    obtain ⟨hb, b0, b1, b2, l0, l1, l2, r0, _⟩ := HX1.out
    obtain ⟨st, bn⟩ := HN.out
    exact ⟨st.below _ _ (by omega) hb, bn, b1.sto st (by omega), b2.sto st (by omega), l0, l1, l2, r0.sto b0 (by decide) st, trivial⟩
  clear HN HX1
  clear c1
  go_wp2_with (first | (refine wpC_load rfl isC26 rfl rfl (HX2.out.2.1) ?_) | (refine wpS_load rfl rfl rfl (HX2.out.2.2.1) isS28 ?_) | fail)
  refine (c2 _ (HX2.out.2.2.2.2.2.2.2.1)).mono ?_
  rintro e w3 ⟨rfl, hB⟩
  have HX3 : Hid (Below w.heap.size w w3 ∧ Box w3 p 26 (ccL c4) ∧ Box w3 q 28 (smL s) ∧ Box w3 r 26 (ccL zC) ∧ w.heap.size ≤ p ∧ p < q ∧ q < r ∧ Fil.RowT w3 0 A n k fs ∧ True) := by
    obtain ⟨hb, b0, b1, b2, l0, l1, l2, r0, _⟩ := HX2.out
    exact ⟨Below.on hb hB, b0.later hB, b1.later hB, b2.later hB, l0, l1, l2, r0.later hB, trivial⟩
  clear hB HX2
  go_wp2_with (first | (refine wpC_store rfl isC26 rfl rfl rfl rfl (HX3.out.2.1) rfl ?_))
  intro X4 HN
  have HX4 : Hid (Below w.heap.size w X4 ∧ Box X4 p 26 (ccL c5) ∧ Box X4 q 28 (smL s) ∧ Box X4 r 26 (ccL zC) ∧ w.heap.size ≤ p ∧ p < q ∧ q < r ∧ Fil.RowT X4 0 A n k fs ∧ True) := by
    obtain ⟨hb, b0, b1, b2, l0, l1, l2, r0, _⟩ := HX3.out
    obtain ⟨st, bn⟩ := HN.out
    exact ⟨st.below _ _ (by omega) hb, bn, b1.sto st (by omega), b2.sto st (by omega), l0, l1, l2, r0.sto b0 (by decide) st, trivial⟩
  clear HN HX3
  clear c2
  go_upto_region 19 with fail
  refine rk19_reg (by rfl) c5 fs A n k p P tg rfl (HX4.out.2.1) (HX4.out.2.2.2.2.2.2.2.1) rfl hm4 hp2 hmx c3 ?_
  intro T X5 hT hS
  simp only [Act.put, List.setIfInBounds_toArray, List.set_cons_zero, List.set_cons_succ]
  simp only [hT]
  have hbl := hS.1
  clear hS
  have HX5 : Hid (Below w.heap.size w X5 ∧ Box X5 p 26 (ccL c5) ∧ Box X5 q 28 (smL s) ∧ Box X5 r 26 (ccL zC) ∧ w.heap.size ≤ p ∧ p < q ∧ q < r ∧ Fil.RowT X5 0 A n k fs ∧ True) := by
    obtain ⟨hb, b0, b1, b2, l0, l1, l2, r0, _⟩ := HX4.out
    exact ⟨Below.on hb hbl, b0.later hbl, b1.later hbl, b2.later hbl, l0, l1, l2, r0.later hbl, trivial⟩
  clear hbl hT c3 HX4
  have k10 := Box.cell (HX5.out.2.1) 10 rfl
  have k2 := Box.cell (HX5.out.2.1) 2 rfl
  have k1 := Box.cell (HX5.out.2.1) 1 rfl
  have k17 := Box.cell (HX5.out.2.1) 17 rfl
  have j1 := Box.cell (HX5.out.2.2.1) 1 rfl
  have fz := fun i => Box.frozen (HX5.out.2.1) i
  go_upto_region 26 with fail
  obtain ⟨X6, hX⟩ : ∃ X, (X5.setCell ⟨p, 2, none⟩ (.int .i64 z)) = X := ⟨_, rfl⟩
  try rw [hX]
  have HX6 : Hid (Below w.heap.size w X6 ∧ Box X6 p 26 (ccL { c5 with cw := z }) ∧ Box X6 q 28 (smL s) ∧ Box X6 r 26 (ccL zC) ∧ w.heap.size ≤ p ∧ p < q ∧ q < r ∧ Fil.RowT X6 0 A n k fs ∧ True) := by
    obtain ⟨hb, b0, b1, b2, l0, l1, l2, r0, _⟩ := HX5.out
    have st : Sto X5 p X6 := by rw [← hX]; exact ((Sto.refl X5 p).set 2 _)
    have bn : Box X6 p 26 (ccL { c5 with cw := z }) := by rw [← hX]; exact box_to (b0.set 2 _) rfl
    exact ⟨st.below _ _ (by omega) hb, bn, b1.sto st (by omega), b2.sto st (by omega), l0, l1, l2, r0.sto b0 (by decide) st, trivial⟩
  clear hX HX5
  clear k10 k2 k1 k17 j1 fz
  have k2 : X6.cell? ⟨p, 2, none⟩ = some (.int .i64 z) := Box.cell (HX6.out.2.1) 2 rfl
  have k1 : X6.cell? ⟨p, 1, none⟩ = some (.int .i64 c5.ms) := Box.cell (HX6.out.2.1) 1 rfl
  have fz := fun i => Box.frozen (HX6.out.2.1) i
  go_wp2_with fail
  refine (c8 _).mono ?_
  rintro e w' ⟨rfl, hq⟩
  obtain rfl := hq.symm
  clear hq
  go_upto_region 27 with fail
  obtain ⟨X7, hX⟩ : ∃ X, (X6.setCell ⟨p, 2, none⟩ (.int .i64 x)) = X := ⟨_, rfl⟩
  try rw [hX]
  have HX7 : Hid (Below w.heap.size w X7 ∧ Box X7 p 26 (ccL { c5 with cw := x }) ∧ Box X7 q 28 (smL s) ∧ Box X7 r 26 (ccL zC) ∧ w.heap.size ≤ p ∧ p < q ∧ q < r ∧ Fil.RowT X7 0 A n k fs ∧ True) := by
    obtain ⟨hb, b0, b1, b2, l0, l1, l2, r0, _⟩ := HX6.out
    have st : Sto X6 p X7 := by rw [← hX]; exact ((Sto.refl X6 p).set 2 _)
    have bn : Box X7 p 26 (ccL { c5 with cw := x }) := by rw [← hX]; exact box_to (b0.set 2 _) rfl
    exact ⟨st.below _ _ (by omega) hb, bn, b1.sto st (by omega), b2.sto st (by omega), l0, l1, l2, r0.sto b0 (by decide) st, trivial⟩
  clear hX HX6
  clear k1 k2 fz c8
  go_wp2_with (first | (refine wpC_load rfl isC26 rfl rfl (HX7.out.2.1) ?_) | (refine wpC_store rfl isC26 rfl rfl rfl rfl (HX7.out.2.2.2.1) rfl ?_))
  intro X8 HN
  have HX8 : Hid (Below w.heap.size w X8 ∧ Box X8 p 26 (ccL { c5 with cw := x }) ∧ Box X8 q 28 (smL s) ∧ Box X8 r 26 (ccL { c5 with cw := x }) ∧ w.heap.size ≤ p ∧ p < q ∧ q < r ∧ Fil.RowT X8 0 A n k fs ∧ True) := by
    obtain ⟨hb, b0, b1, b2, l0, l1, l2, r0, _⟩ := HX7.out
    obtain ⟨st, bn⟩ := HN.out
    exact ⟨st.below _ _ (by omega) hb, b0.sto st (by omega), b1.sto st (by omega), bn, l0, l1, l2, r0.sto b2 (by decide) st, trivial⟩
  clear HN HX7
  go_wp2_with fail
  refine bodyPost_ret (resC2 isC26 rfl _ _ rfl (HX8.out.2.2.2.1)) rfl ?_
  exact HP.out _ (HX8.out.1) (HX8.out.2.2.2.2.2.2.2.1)

set_option maxRecDepth 100000 in
set_option maxHeartbeats 4000000 in
theorem rkF_c (c : Cc) (s : Sm) (fs : List Tm) (A : Option Addr) (n k : Nat) (fresh old : Bool) (w wc : World) (p q r : Nat) (c4 c5 : Cc) (P tg x : Int) (hm4 : IntKind.i64.wrap (4 * c5.ms) = 4 * c5.ms) (hp2 : IntKind.i64.wrap (2 * P) = 2 * P) (hmx : (if 4 * c5.ms < 2 * P then 2 * P else 4 * c5.ms) = tg) (w1 : IntKind.i64.wrap (c5.cw + s.ak) = c5.cw + s.ak) (d4 : (c5.md == 4) = false) (d3 : (c5.fc == 3) = false) (d5 : decide (c5.cw < tg) = true)   {Post : Ending → World → Prop} (HX0 : Hid (Below w.heap.size w wc ∧ Box wc p 26 (ccL c) ∧ Box wc q 28 (smL s) ∧ Box wc r 26 (ccL zC) ∧ w.heap.size ≤ p ∧ p < q ∧ q < r ∧ Fil.RowT wc 0 A n k fs ∧ True)) (c1 : ∀ W, Fil.RowT W 0 A n k fs → Calls Tryd.prog 37 #[ccv c, agv (smL s)] W fun e w' => e = .returned (ccv c4) ∧ Below W.heap.size W w') (c2 : ∀ W, Fil.RowT W 0 A n k fs → Calls Tryd.prog 38 #[ccv c4, agv (smL s), .bool old] W fun e w' => e = .returned (ccv c5) ∧ Below W.heap.size W w') (c3 : ∀ W, Fil.RowT W 0 A n k fs → Calls Tryd.prog 39 #[ccv c5] W fun e w' => e = .returned (.int .i64 P) ∧ Below W.heap.size W w') (c8 : ∀ W, Calls Tryd.prog 41 #[.int .i64 (c5.cw + s.ak), .int .i64 c5.ms, .int .i64 1073741824] W fun e w' => e = .returned (.int .i64 x) ∧ w' = W) (HP : Hid (∀ W', Below w.heap.size w W' → Fil.RowT W' 0 A n k fs → Post (.returned (.tuple #[ccv { c5 with cw := x }, .int .i64 0])) W'))  :
    Code.wp Tryd.prog ((Tryd.f9.body.bind (fromA 17)).getD .skip) (bodyPost Tryd.prog Tryd.f9 Post) ⟨#[ua, ub, .pointer (some ⟨p, 0, none⟩), .pointer (some ⟨q, 0, none⟩), .pointer (some ⟨r, 0, none⟩), uf, .bool fresh, .bool old, ui, uj, uk, ul, um, un, uo, up, uq, ur, us, ut, uu, uv, uw, ux, uy, uz, uA, uB, uD, uE, uF, uG, uH, uI, uJ, uK, uL, uM, uN, uO, uP, uQ, uR, uS, uT, uU, uV, uW, uX, uY, uZ, xa, xb, xc, xd, xe, xf, xg, xh, xi, xj, xk, xl, xm, xn, xo, xp, xq, xr, xs, xt, xu, xv, xw, xx, xy, xz, xA, xB, xD, xE, xF, xG, xH, xI, xJ, xK, xL, xM, xN, xO, xP, xQ, xR, xS, xT, xU, xV, xW, xX, xY, xZ, za, zb, zc, zd, ze, zf, zg, zh, zi, zj, zk, zl, zm, zn, zo, zp, zq, zr, zs, zt, zu, zv, zw, zx, zy, zz, zA, zB, zD, zE, zF, zG, zH, zI, zJ, zK, zL, zM, zN, zO, zP, zQ, zR, zS, zT], []⟩ wc := by
  conv => arg 2; whnf
  go_wp2_with (first | (refine wpC_load rfl isC26 rfl rfl (HX0.out.2.1) ?_) | (refine wpS_load rfl rfl rfl (HX0.out.2.2.1) isS28 ?_) | fail)
  refine (c1 _ (HX0.out.2.2.2.2.2.2.2.1)).mono ?_
  rintro e w1 ⟨rfl, hB⟩
  have HX1 : Hid (Below w.heap.size w w1 ∧ Box w1 p 26 (ccL c) ∧ Box w1 q 28 (smL s) ∧ Box w1 r 26 (ccL zC) ∧ w.heap.size ≤ p ∧ p < q ∧ q < r ∧ Fil.RowT w1 0 A n k fs ∧ True) := by
    obtain ⟨hb, b0, b1, b2, l0, l1, l2, r0, _⟩ := HX0.out
    exact ⟨Below.on hb hB, b0.later hB, b1.later hB, b2.later hB, l0, l1, l2, r0.later hB, trivial⟩
  clear hB HX0
  go_wp2_with (first | (refine wpC_store rfl isC26 rfl rfl rfl rfl (HX1.out.2.1) rfl ?_))
  intro X2 HN
  have HX2 : Hid (Below w.heap.size w X2 ∧ Box X2 p 26 (ccL c4) ∧ Box X2 q 28 (smL s) ∧ Box X2 r 26 (ccL zC) ∧ w.heap.size ≤ p ∧ p < q ∧ q < r ∧ Fil.RowT X2 0 A n k fs ∧ True) := by
    obtain ⟨hb, b0, b1, b2, l0, l1, l2, r0, _⟩ := HX1.out
    obtain ⟨st, bn⟩ := HN.out
    exact ⟨st.below _ _ (by omega) hb, bn, b1.sto st (by omega), b2.sto st (by omega), l0, l1, l2, r0.sto b0 (by decide) st, trivial⟩
  clear HN HX1
  clear c1
  go_wp2_with (first | (refine wpC_load rfl isC26 rfl rfl (HX2.out.2.1) ?_) | (refine wpS_load rfl rfl rfl (HX2.out.2.2.1) isS28 ?_) | fail)
  refine (c2 _ (HX2.out.2.2.2.2.2.2.2.1)).mono ?_
  rintro e w3 ⟨rfl, hB⟩
  have HX3 : Hid (Below w.heap.size w w3 ∧ Box w3 p 26 (ccL c4) ∧ Box w3 q 28 (smL s) ∧ Box w3 r 26 (ccL zC) ∧ w.heap.size ≤ p ∧ p < q ∧ q < r ∧ Fil.RowT w3 0 A n k fs ∧ True) := by
    obtain ⟨hb, b0, b1, b2, l0, l1, l2, r0, _⟩ := HX2.out
    exact ⟨Below.on hb hB, b0.later hB, b1.later hB, b2.later hB, l0, l1, l2, r0.later hB, trivial⟩
  clear hB HX2
  go_wp2_with (first | (refine wpC_store rfl isC26 rfl rfl rfl rfl (HX3.out.2.1) rfl ?_))
  intro X4 HN
  have HX4 : Hid (Below w.heap.size w X4 ∧ Box X4 p 26 (ccL c5) ∧ Box X4 q 28 (smL s) ∧ Box X4 r 26 (ccL zC) ∧ w.heap.size ≤ p ∧ p < q ∧ q < r ∧ Fil.RowT X4 0 A n k fs ∧ True) := by
    obtain ⟨hb, b0, b1, b2, l0, l1, l2, r0, _⟩ := HX3.out
    obtain ⟨st, bn⟩ := HN.out
    exact ⟨st.below _ _ (by omega) hb, bn, b1.sto st (by omega), b2.sto st (by omega), l0, l1, l2, r0.sto b0 (by decide) st, trivial⟩
  clear HN HX3
  clear c2
  go_upto_region 19 with fail
  refine rk19_reg (by rfl) c5 fs A n k p P tg rfl (HX4.out.2.1) (HX4.out.2.2.2.2.2.2.2.1) rfl hm4 hp2 hmx c3 ?_
  intro T X5 hT hS
  simp only [Act.put, List.setIfInBounds_toArray, List.set_cons_zero, List.set_cons_succ]
  simp only [hT]
  have hbl := hS.1
  clear hS
  have HX5 : Hid (Below w.heap.size w X5 ∧ Box X5 p 26 (ccL c5) ∧ Box X5 q 28 (smL s) ∧ Box X5 r 26 (ccL zC) ∧ w.heap.size ≤ p ∧ p < q ∧ q < r ∧ Fil.RowT X5 0 A n k fs ∧ True) := by
    obtain ⟨hb, b0, b1, b2, l0, l1, l2, r0, _⟩ := HX4.out
    exact ⟨Below.on hb hbl, b0.later hbl, b1.later hbl, b2.later hbl, l0, l1, l2, r0.later hbl, trivial⟩
  clear hbl hT c3 HX4
  have k10 := Box.cell (HX5.out.2.1) 10 rfl
  have k2 := Box.cell (HX5.out.2.1) 2 rfl
  have k1 := Box.cell (HX5.out.2.1) 1 rfl
  have k17 := Box.cell (HX5.out.2.1) 17 rfl
  have j1 := Box.cell (HX5.out.2.2.1) 1 rfl
  have fz := fun i => Box.frozen (HX5.out.2.1) i
  go_upto_region 26 with fail
  obtain ⟨X6, hX⟩ : ∃ X, (X5.setCell ⟨p, 2, none⟩ (.int .i64 (c5.cw + s.ak))) = X := ⟨_, rfl⟩
  try rw [hX]
  have HX6 : Hid (Below w.heap.size w X6 ∧ Box X6 p 26 (ccL { c5 with cw := (c5.cw + s.ak) }) ∧ Box X6 q 28 (smL s) ∧ Box X6 r 26 (ccL zC) ∧ w.heap.size ≤ p ∧ p < q ∧ q < r ∧ Fil.RowT X6 0 A n k fs ∧ True) := by
    obtain ⟨hb, b0, b1, b2, l0, l1, l2, r0, _⟩ := HX5.out
    have st : Sto X5 p X6 := by rw [← hX]; exact ((Sto.refl X5 p).set 2 _)
    have bn : Box X6 p 26 (ccL { c5 with cw := (c5.cw + s.ak) }) := by rw [← hX]; exact box_to (b0.set 2 _) rfl
    exact ⟨st.below _ _ (by omega) hb, bn, b1.sto st (by omega), b2.sto st (by omega), l0, l1, l2, r0.sto b0 (by decide) st, trivial⟩
  clear hX HX5
  clear k10 k2 k1 k17 j1 fz
  have k2 : X6.cell? ⟨p, 2, none⟩ = some (.int .i64 (c5.cw + s.ak)) := Box.cell (HX6.out.2.1) 2 rfl
  have k1 : X6.cell? ⟨p, 1, none⟩ = some (.int .i64 c5.ms) := Box.cell (HX6.out.2.1) 1 rfl
  have fz := fun i => Box.frozen (HX6.out.2.1) i
  go_wp2_with fail
  refine (c8 _).mono ?_
  rintro e w' ⟨rfl, hq⟩
  obtain rfl := hq.symm
  clear hq
  go_upto_region 27 with fail
  obtain ⟨X7, hX⟩ : ∃ X, (X6.setCell ⟨p, 2, none⟩ (.int .i64 x)) = X := ⟨_, rfl⟩
  try rw [hX]
  have HX7 : Hid (Below w.heap.size w X7 ∧ Box X7 p 26 (ccL { c5 with cw := x }) ∧ Box X7 q 28 (smL s) ∧ Box X7 r 26 (ccL zC) ∧ w.heap.size ≤ p ∧ p < q ∧ q < r ∧ Fil.RowT X7 0 A n k fs ∧ True) := by
    obtain ⟨hb, b0, b1, b2, l0, l1, l2, r0, _⟩ := HX6.out
    have st : Sto X6 p X7 := by rw [← hX]; exact ((Sto.refl X6 p).set 2 _)
    have bn : Box X7 p 26 (ccL { c5 with cw := x }) := by rw [← hX]; exact box_to (b0.set 2 _) rfl
    exact ⟨st.below _ _ (by omega) hb, bn, b1.sto st (by omega), b2.sto st (by omega), l0, l1, l2, r0.sto b0 (by decide) st, trivial⟩
  clear hX HX6
  clear k1 k2 fz c8
  go_wp2_with (first | (refine wpC_load rfl isC26 rfl rfl (HX7.out.2.1) ?_) | (refine wpC_store rfl isC26 rfl rfl rfl rfl (HX7.out.2.2.2.1) rfl ?_))
  intro X8 HN
  have HX8 : Hid (Below w.heap.size w X8 ∧ Box X8 p 26 (ccL { c5 with cw := x }) ∧ Box X8 q 28 (smL s) ∧ Box X8 r 26 (ccL { c5 with cw := x }) ∧ w.heap.size ≤ p ∧ p < q ∧ q < r ∧ Fil.RowT X8 0 A n k fs ∧ True) := by
    obtain ⟨hb, b0, b1, b2, l0, l1, l2, r0, _⟩ := HX7.out
    obtain ⟨st, bn⟩ := HN.out
    exact ⟨st.below _ _ (by omega) hb, b0.sto st (by omega), b1.sto st (by omega), bn, l0, l1, l2, r0.sto b2 (by decide) st, trivial⟩
  clear HN HX7
  go_wp2_with fail
  refine bodyPost_ret (resC2 isC26 rfl _ _ rfl (HX8.out.2.2.2.1)) rfl ?_
  exact HP.out _ (HX8.out.1) (HX8.out.2.2.2.2.2.2.2.1)

set_option maxRecDepth 100000 in
set_option maxHeartbeats 4000000 in
theorem rkF_d (c : Cc) (s : Sm) (fs : List Tm) (A : Option Addr) (n k : Nat) (fresh old : Bool) (w wc : World) (p q r : Nat) (c4 c5 : Cc) (P tg x b : Int) (hm4 : IntKind.i64.wrap (4 * c5.ms) = 4 * c5.ms) (hp2 : IntKind.i64.wrap (2 * P) = 2 * P) (hmx : (if 4 * c5.ms < 2 * P then 2 * P else 4 * c5.ms) = tg) (w1 : IntKind.i64.wrap (c5.cw + s.ak) = c5.cw + s.ak) (d4 : (c5.md == 4) = false) (d3 : (c5.fc == 3) = false) (d5 : decide (c5.cw < tg) = false) (b0 : (b == 0) = true)   {Post : Ending → World → Prop} (HX0 : Hid (Below w.heap.size w wc ∧ Box wc p 26 (ccL c) ∧ Box wc q 28 (smL s) ∧ Box wc r 26 (ccL zC) ∧ w.heap.size ≤ p ∧ p < q ∧ q < r ∧ Fil.RowT wc 0 A n k fs ∧ True)) (c1 : ∀ W, Fil.RowT W 0 A n k fs → Calls Tryd.prog 37 #[ccv c, agv (smL s)] W fun e w' => e = .returned (ccv c4) ∧ Below W.heap.size W w') (c2 : ∀ W, Fil.RowT W 0 A n k fs → Calls Tryd.prog 38 #[ccv c4, agv (smL s), .bool old] W fun e w' => e = .returned (ccv c5) ∧ Below W.heap.size W w') (c3 : ∀ W, Fil.RowT W 0 A n k fs → Calls Tryd.prog 39 #[ccv c5] W fun e w' => e = .returned (.int .i64 P) ∧ Below W.heap.size W w') (c7 : ∀ W, Fil.RowT W 0 A n k fs → Calls Tryd.prog 40 #[ccv c5] W fun e w' => e = .returned (.int .i64 b) ∧ Below W.heap.size W w') (c8 : ∀ W, Calls Tryd.prog 41 #[.int .i64 (c5.cw + s.ak), .int .i64 c5.ms, .int .i64 1073741824] W fun e w' => e = .returned (.int .i64 x) ∧ w' = W) (HP : Hid (∀ W', Below w.heap.size w W' → Fil.RowT W' 0 A n k fs → Post (.returned (.tuple #[ccv { c5 with cw := x }, .int .i64 0])) W'))  :
    Code.wp Tryd.prog ((Tryd.f9.body.bind (fromA 17)).getD .skip) (bodyPost Tryd.prog Tryd.f9 Post) ⟨#[ua, ub, .pointer (some ⟨p, 0, none⟩), .pointer (some ⟨q, 0, none⟩), .pointer (some ⟨r, 0, none⟩), uf, .bool fresh, .bool old, ui, uj, uk, ul, um, un, uo, up, uq, ur, us, ut, uu, uv, uw, ux, uy, uz, uA, uB, uD, uE, uF, uG, uH, uI, uJ, uK, uL, uM, uN, uO, uP, uQ, uR, uS, uT, uU, uV, uW, uX, uY, uZ, xa, xb, xc, xd, xe, xf, xg, xh, xi, xj, xk, xl, xm, xn, xo, xp, xq, xr, xs, xt, xu, xv, xw, xx, xy, xz, xA, xB, xD, xE, xF, xG, xH, xI, xJ, xK, xL, xM, xN, xO, xP, xQ, xR, xS, xT, xU, xV, xW, xX, xY, xZ, za, zb, zc, zd, ze, zf, zg, zh, zi, zj, zk, zl, zm, zn, zo, zp, zq, zr, zs, zt, zu, zv, zw, zx, zy, zz, zA, zB, zD, zE, zF, zG, zH, zI, zJ, zK, zL, zM, zN, zO, zP, zQ, zR, zS, zT], []⟩ wc := by
  conv => arg 2; whnf
  go_wp2_with (first | (refine wpC_load rfl isC26 rfl rfl (HX0.out.2.1) ?_) | (refine wpS_load rfl rfl rfl (HX0.out.2.2.1) isS28 ?_) | fail)
  refine (c1 _ (HX0.out.2.2.2.2.2.2.2.1)).mono ?_
  rintro e w1 ⟨rfl, hB⟩
  have HX1 : Hid (Below w.heap.size w w1 ∧ Box w1 p 26 (ccL c) ∧ Box w1 q 28 (smL s) ∧ Box w1 r 26 (ccL zC) ∧ w.heap.size ≤ p ∧ p < q ∧ q < r ∧ Fil.RowT w1 0 A n k fs ∧ True) := by
    obtain ⟨hb, b0, b1, b2, l0, l1, l2, r0, _⟩ := HX0.out
    exact ⟨Below.on hb hB, b0.later hB, b1.later hB, b2.later hB, l0, l1, l2, r0.later hB, trivial⟩
  clear hB HX0
  go_wp2_with (first | (refine wpC_store rfl isC26 rfl rfl rfl rfl (HX1.out.2.1) rfl ?_))
  intro X2 HN
  have HX2 : Hid (Below w.heap.size w X2 ∧ Box X2 p 26 (ccL c4) ∧ Box X2 q 28 (smL s) ∧ Box X2 r 26 (ccL zC) ∧ w.heap.size ≤ p ∧ p < q ∧ q < r ∧ Fil.RowT X2 0 A n k fs ∧ True) := by
    obtain ⟨hb, b0, b1, b2, l0, l1, l2, r0, _⟩ := HX1.out
    obtain ⟨st, bn⟩ := HN.out
    exact ⟨st.below _ _ (by omega) hb, bn, b1.sto st (by omega), b2.sto st (by omega), l0, l1, l2, r0.sto b0 (by decide) st, trivial⟩
  clear HN HX1
  clear c1
  go_wp2_with (first | (refine wpC_load rfl isC26 rfl rfl (HX2.out.2.1) ?_) | (refine wpS_load rfl rfl rfl (HX2.out.2.2.1) isS28 ?_) | fail)
  refine (c2 _ (HX2.out.2.2.2.2.2.2.2.1)).mono ?_
  rintro e w3 ⟨rfl, hB⟩
  have HX3 : Hid (Below w.heap.size w w3 ∧ Box w3 p 26 (ccL c4) ∧ Box w3 q 28 (smL s) ∧ Box w3 r 26 (ccL zC) ∧ w.heap.size ≤ p ∧ p < q ∧ q < r ∧ Fil.RowT w3 0 A n k fs ∧ True) := by
    obtain ⟨hb, b0, b1, b2, l0, l1, l2, r0, _⟩ := HX2.out
    exact ⟨Below.on hb hB, b0.later hB, b1.later hB, b2.later hB, l0, l1, l2, r0.later hB, trivial⟩
  clear hB HX2
  go_wp2_with (first | (refine wpC_store rfl isC26 rfl rfl rfl rfl (HX3.out.2.1) rfl ?_))
  intro X4 HN
  have HX4 : Hid (Below w.heap.size w X4 ∧ Box X4 p 26 (ccL c5) ∧ Box X4 q 28 (smL s) ∧ Box X4 r 26 (ccL zC) ∧ w.heap.size ≤ p ∧ p < q ∧ q < r ∧ Fil.RowT X4 0 A n k fs ∧ True) := by
    obtain ⟨hb, b0, b1, b2, l0, l1, l2, r0, _⟩ := HX3.out
    obtain ⟨st, bn⟩ := HN.out
    exact ⟨st.below _ _ (by omega) hb, bn, b1.sto st (by omega), b2.sto st (by omega), l0, l1, l2, r0.sto b0 (by decide) st, trivial⟩
  clear HN HX3
  clear c2
  go_upto_region 19 with fail
  refine rk19_reg (by rfl) c5 fs A n k p P tg rfl (HX4.out.2.1) (HX4.out.2.2.2.2.2.2.2.1) rfl hm4 hp2 hmx c3 ?_
  intro T X5 hT hS
  simp only [Act.put, List.setIfInBounds_toArray, List.set_cons_zero, List.set_cons_succ]
  simp only [hT]
  have hbl := hS.1
  clear hS
  have HX5 : Hid (Below w.heap.size w X5 ∧ Box X5 p 26 (ccL c5) ∧ Box X5 q 28 (smL s) ∧ Box X5 r 26 (ccL zC) ∧ w.heap.size ≤ p ∧ p < q ∧ q < r ∧ Fil.RowT X5 0 A n k fs ∧ True) := by
    obtain ⟨hb, b0, b1, b2, l0, l1, l2, r0, _⟩ := HX4.out
    exact ⟨Below.on hb hbl, b0.later hbl, b1.later hbl, b2.later hbl, l0, l1, l2, r0.later hbl, trivial⟩
  clear hbl hT c3 HX4
  have k10 := Box.cell (HX5.out.2.1) 10 rfl
  have k2 := Box.cell (HX5.out.2.1) 2 rfl
  have k1 := Box.cell (HX5.out.2.1) 1 rfl
  have k17 := Box.cell (HX5.out.2.1) 17 rfl
  go_wp2_with (first | (refine wpC_loadG (by rfl) isC26 rfl rfl (HX5.out.2.1) ?_) | fail)
  refine (c7 _ (HX5.out.2.2.2.2.2.2.2.1)).mono ?_
  rintro e w6 ⟨rfl, hB⟩
  have HX6 : Hid (Below w.heap.size w w6 ∧ Box w6 p 26 (ccL c5) ∧ Box w6 q 28 (smL s) ∧ Box w6 r 26 (ccL zC) ∧ w.heap.size ≤ p ∧ p < q ∧ q < r ∧ Fil.RowT w6 0 A n k fs ∧ True) := by
    obtain ⟨hb, b0, b1, b2, l0, l1, l2, r0, _⟩ := HX5.out
    exact ⟨Below.on hb hB, b0.later hB, b1.later hB, b2.later hB, l0, l1, l2, r0.later hB, trivial⟩
  clear hB HX5
  clear c7 k10 k2 k1 k17
  have k10 := Box.cell (HX6.out.2.1) 10 rfl
  have k2 := Box.cell (HX6.out.2.1) 2 rfl
  have k1 := Box.cell (HX6.out.2.1) 1 rfl
  have k17 := Box.cell (HX6.out.2.1) 17 rfl
  have j1 := Box.cell (HX6.out.2.2.1) 1 rfl
  have fz := fun i => Box.frozen (HX6.out.2.1) i
  go_upto_region 26 with fail
  obtain ⟨X7, hX⟩ : ∃ X, (w6.setCell ⟨p, 2, none⟩ (.int .i64 (c5.cw + s.ak))) = X := ⟨_, rfl⟩
  try rw [hX]
  have HX7 : Hid (Below w.heap.size w X7 ∧ Box X7 p 26 (ccL { c5 with cw := (c5.cw + s.ak) }) ∧ Box X7 q 28 (smL s) ∧ Box X7 r 26 (ccL zC) ∧ w.heap.size ≤ p ∧ p < q ∧ q < r ∧ Fil.RowT X7 0 A n k fs ∧ True) := by
    obtain ⟨hb, b0, b1, b2, l0, l1, l2, r0, _⟩ := HX6.out
    have st : Sto w6 p X7 := by rw [← hX]; exact ((Sto.refl w6 p).set 2 _)
    have bn : Box X7 p 26 (ccL { c5 with cw := (c5.cw + s.ak) }) := by rw [← hX]; exact box_to (b0.set 2 _) rfl
    exact ⟨st.below _ _ (by omega) hb, bn, b1.sto st (by omega), b2.sto st (by omega), l0, l1, l2, r0.sto b0 (by decide) st, trivial⟩
  clear hX HX6
  clear k10 k2 k1 k17 j1 fz
  have k2 : X7.cell? ⟨p, 2, none⟩ = some (.int .i64 (c5.cw + s.ak)) := Box.cell (HX7.out.2.1) 2 rfl
  have k1 : X7.cell? ⟨p, 1, none⟩ = some (.int .i64 c5.ms) := Box.cell (HX7.out.2.1) 1 rfl
  have fz := fun i => Box.frozen (HX7.out.2.1) i
  go_wp2_with fail
  refine (c8 _).mono ?_
  rintro e w' ⟨rfl, hq⟩
  obtain rfl := hq.symm
  clear hq
  go_upto_region 27 with fail
  obtain ⟨X8, hX⟩ : ∃ X, (X7.setCell ⟨p, 2, none⟩ (.int .i64 x)) = X := ⟨_, rfl⟩
  try rw [hX]
  have HX8 : Hid (Below w.heap.size w X8 ∧ Box X8 p 26 (ccL { c5 with cw := x }) ∧ Box X8 q 28 (smL s) ∧ Box X8 r 26 (ccL zC) ∧ w.heap.size ≤ p ∧ p < q ∧ q < r ∧ Fil.RowT X8 0 A n k fs ∧ True) := by
    obtain ⟨hb, b0, b1, b2, l0, l1, l2, r0, _⟩ := HX7.out
    have st : Sto X7 p X8 := by rw [← hX]; exact ((Sto.refl X7 p).set 2 _)
    have bn : Box X8 p 26 (ccL { c5 with cw := x }) := by rw [← hX]; exact box_to (b0.set 2 _) rfl
    exact ⟨st.below _ _ (by omega) hb, bn, b1.sto st (by omega), b2.sto st (by omega), l0, l1, l2, r0.sto b0 (by decide) st, trivial⟩
  clear hX HX7
  clear k1 k2 fz c8
  go_wp2_with (first | (refine wpC_load rfl isC26 rfl rfl (HX8.out.2.1) ?_) | (refine wpC_store rfl isC26 rfl rfl rfl rfl (HX8.out.2.2.2.1) rfl ?_))
  intro X9 HN
  have HX9 : Hid (Below w.heap.size w X9 ∧ Box X9 p 26 (ccL { c5 with cw := x }) ∧ Box X9 q 28 (smL s) ∧ Box X9 r 26 (ccL { c5 with cw := x }) ∧ w.heap.size ≤ p ∧ p < q ∧ q < r ∧ Fil.RowT X9 0 A n k fs ∧ True) := by
    obtain ⟨hb, b0, b1, b2, l0, l1, l2, r0, _⟩ := HX8.out
    obtain ⟨st, bn⟩ := HN.out
    exact ⟨st.below _ _ (by omega) hb, b0.sto st (by omega), b1.sto st (by omega), bn, l0, l1, l2, r0.sto b2 (by decide) st, trivial⟩
  clear HN HX8
  go_wp2_with fail
  refine bodyPost_ret (resC2 isC26 rfl _ _ rfl (HX9.out.2.2.2.1)) rfl ?_
  exact HP.out _ (HX9.out.1) (HX9.out.2.2.2.2.2.2.2.1)

set_option maxRecDepth 100000 in
set_option maxHeartbeats 4000000 in
theorem rkF_e (c : Cc) (s : Sm) (fs : List Tm) (A : Option Addr) (n k : Nat) (fresh old : Bool) (w wc : World) (p q r : Nat) (c4 c5 : Cc) (P tg x b : Int) (hm4 : IntKind.i64.wrap (4 * c5.ms) = 4 * c5.ms) (hp2 : IntKind.i64.wrap (2 * P) = 2 * P) (hmx : (if 4 * c5.ms < 2 * P then 2 * P else 4 * c5.ms) = tg) (w1 : IntKind.i64.wrap (c5.cw + s.ak) = c5.cw + s.ak) (d4 : (c5.md == 4) = false) (d3 : (c5.fc == 3) = false) (d5 : decide (c5.cw < tg) = false) (b0 : (b == 0) = false)   {Post : Ending → World → Prop} (HX0 : Hid (Below w.heap.size w wc ∧ Box wc p 26 (ccL c) ∧ Box wc q 28 (smL s) ∧ Box wc r 26 (ccL zC) ∧ w.heap.size ≤ p ∧ p < q ∧ q < r ∧ Fil.RowT wc 0 A n k fs ∧ True)) (c1 : ∀ W, Fil.RowT W 0 A n k fs → Calls Tryd.prog 37 #[ccv c, agv (smL s)] W fun e w' => e = .returned (ccv c4) ∧ Below W.heap.size W w') (c2 : ∀ W, Fil.RowT W 0 A n k fs → Calls Tryd.prog 38 #[ccv c4, agv (smL s), .bool old] W fun e w' => e = .returned (ccv c5) ∧ Below W.heap.size W w') (c3 : ∀ W, Fil.RowT W 0 A n k fs → Calls Tryd.prog 39 #[ccv c5] W fun e w' => e = .returned (.int .i64 P) ∧ Below W.heap.size W w') (c7 : ∀ W, Fil.RowT W 0 A n k fs → Calls Tryd.prog 40 #[ccv c5] W fun e w' => e = .returned (.int .i64 b) ∧ Below W.heap.size W w') (c8 : ∀ W, Calls Tryd.prog 41 #[.int .i64 c5.cw, .int .i64 c5.ms, .int .i64 1073741824] W fun e w' => e = .returned (.int .i64 x) ∧ w' = W) (HP : Hid (∀ W', Below w.heap.size w W' → Fil.RowT W' 0 A n k fs → Post (.returned (.tuple #[ccv { c5 with cw := x }, .int .i64 0])) W'))  :
    Code.wp Tryd.prog ((Tryd.f9.body.bind (fromA 17)).getD .skip) (bodyPost Tryd.prog Tryd.f9 Post) ⟨#[ua, ub, .pointer (some ⟨p, 0, none⟩), .pointer (some ⟨q, 0, none⟩), .pointer (some ⟨r, 0, none⟩), uf, .bool fresh, .bool old, ui, uj, uk, ul, um, un, uo, up, uq, ur, us, ut, uu, uv, uw, ux, uy, uz, uA, uB, uD, uE, uF, uG, uH, uI, uJ, uK, uL, uM, uN, uO, uP, uQ, uR, uS, uT, uU, uV, uW, uX, uY, uZ, xa, xb, xc, xd, xe, xf, xg, xh, xi, xj, xk, xl, xm, xn, xo, xp, xq, xr, xs, xt, xu, xv, xw, xx, xy, xz, xA, xB, xD, xE, xF, xG, xH, xI, xJ, xK, xL, xM, xN, xO, xP, xQ, xR, xS, xT, xU, xV, xW, xX, xY, xZ, za, zb, zc, zd, ze, zf, zg, zh, zi, zj, zk, zl, zm, zn, zo, zp, zq, zr, zs, zt, zu, zv, zw, zx, zy, zz, zA, zB, zD, zE, zF, zG, zH, zI, zJ, zK, zL, zM, zN, zO, zP, zQ, zR, zS, zT], []⟩ wc := by
  conv => arg 2; whnf
  go_wp2_with (first | (refine wpC_load rfl isC26 rfl rfl (HX0.out.2.1) ?_) | (refine wpS_load rfl rfl rfl (HX0.out.2.2.1) isS28 ?_) | fail)
  refine (c1 _ (HX0.out.2.2.2.2.2.2.2.1)).mono ?_
  rintro e w1 ⟨rfl, hB⟩
  have HX1 : Hid (Below w.heap.size w w1 ∧ Box w1 p 26 (ccL c) ∧ Box w1 q 28 (smL s) ∧ Box w1 r 26 (ccL zC) ∧ w.heap.size ≤ p ∧ p < q ∧ q < r ∧ Fil.RowT w1 0 A n k fs ∧ True) := by
    obtain ⟨hb, b0, b1, b2, l0, l1, l2, r0, _⟩ := HX0.out
    exact ⟨Below.on hb hB, b0.later hB, b1.later hB, b2.later hB, l0, l1, l2, r0.later hB, trivial⟩
  clear hB HX0
  go_wp2_with (first | (refine wpC_store rfl isC26 rfl rfl rfl rfl (HX1.out.2.1) rfl ?_))
  intro X2 HN
  have HX2 : Hid (Below w.heap.size w X2 ∧ Box X2 p 26 (ccL c4) ∧ Box X2 q 28 (smL s) ∧ Box X2 r 26 (ccL zC) ∧ w.heap.size ≤ p ∧ p < q ∧ q < r ∧ Fil.RowT X2 0 A n k fs ∧ True) := by
    obtain ⟨hb, b0, b1, b2, l0, l1, l2, r0, _⟩ := HX1.out
    obtain ⟨st, bn⟩ := HN.out
    exact ⟨st.below _ _ (by omega) hb, bn, b1.sto st (by omega), b2.sto st (by omega), l0, l1, l2, r0.sto b0 (by decide) st, trivial⟩
  clear HN HX1
  clear c1
  go_wp2_with (first | (refine wpC_load rfl isC26 rfl rfl (HX2.out.2.1) ?_) | (refine wpS_load rfl rfl rfl (HX2.out.2.2.1) isS28 ?_) | fail)
  refine (c2 _ (HX2.out.2.2.2.2.2.2.2.1)).mono ?_
  rintro e w3 ⟨rfl, hB⟩
  have HX3 : Hid (Below w.heap.size w w3 ∧ Box w3 p 26 (ccL c4) ∧ Box w3 q 28 (smL s) ∧ Box w3 r 26 (ccL zC) ∧ w.heap.size ≤ p ∧ p < q ∧ q < r ∧ Fil.RowT w3 0 A n k fs ∧ True) := by
    obtain ⟨hb, b0, b1, b2, l0, l1, l2, r0, _⟩ := HX2.out
    exact ⟨Below.on hb hB, b0.later hB, b1.later hB, b2.later hB, l0, l1, l2, r0.later hB, trivial⟩
  clear hB HX2
  go_wp2_with (first | (refine wpC_store rfl isC26 rfl rfl rfl rfl (HX3.out.2.1) rfl ?_))
  intro X4 HN
  have HX4 : Hid (Below w.heap.size w X4 ∧ Box X4 p 26 (ccL c5) ∧ Box X4 q 28 (smL s) ∧ Box X4 r 26 (ccL zC) ∧ w.heap.size ≤ p ∧ p < q ∧ q < r ∧ Fil.RowT X4 0 A n k fs ∧ True) := by
    obtain ⟨hb, b0, b1, b2, l0, l1, l2, r0, _⟩ := HX3.out
    obtain ⟨st, bn⟩ := HN.out
    exact ⟨st.below _ _ (by omega) hb, bn, b1.sto st (by omega), b2.sto st (by omega), l0, l1, l2, r0.sto b0 (by decide) st, trivial⟩
  clear HN HX3
  clear c2
  go_upto_region 19 with fail
  refine rk19_reg (by rfl) c5 fs A n k p P tg rfl (HX4.out.2.1) (HX4.out.2.2.2.2.2.2.2.1) rfl hm4 hp2 hmx c3 ?_
  intro T X5 hT hS
  simp only [Act.put, List.setIfInBounds_toArray, List.set_cons_zero, List.set_cons_succ]
  simp only [hT]
  have hbl := hS.1
  clear hS
  have HX5 : Hid (Below w.heap.size w X5 ∧ Box X5 p 26 (ccL c5) ∧ Box X5 q 28 (smL s) ∧ Box X5 r 26 (ccL zC) ∧ w.heap.size ≤ p ∧ p < q ∧ q < r ∧ Fil.RowT X5 0 A n k fs ∧ True) := by
    obtain ⟨hb, b0, b1, b2, l0, l1, l2, r0, _⟩ := HX4.out
    exact ⟨Below.on hb hbl, b0.later hbl, b1.later hbl, b2.later hbl, l0, l1, l2, r0.later hbl, trivial⟩
  clear hbl hT c3 HX4
  have k10 := Box.cell (HX5.out.2.1) 10 rfl
  have k2 := Box.cell (HX5.out.2.1) 2 rfl
  have k1 := Box.cell (HX5.out.2.1) 1 rfl
  have k17 := Box.cell (HX5.out.2.1) 17 rfl
  go_wp2_with (first | (refine wpC_loadG (by rfl) isC26 rfl rfl (HX5.out.2.1) ?_) | fail)
  refine (c7 _ (HX5.out.2.2.2.2.2.2.2.1)).mono ?_
  rintro e w6 ⟨rfl, hB⟩
  have HX6 : Hid (Below w.heap.size w w6 ∧ Box w6 p 26 (ccL c5) ∧ Box w6 q 28 (smL s) ∧ Box w6 r 26 (ccL zC) ∧ w.heap.size ≤ p ∧ p < q ∧ q < r ∧ Fil.RowT w6 0 A n k fs ∧ True) := by
    obtain ⟨hb, b0, b1, b2, l0, l1, l2, r0, _⟩ := HX5.out
    exact ⟨Below.on hb hB, b0.later hB, b1.later hB, b2.later hB, l0, l1, l2, r0.later hB, trivial⟩
  clear hB HX5
  clear c7 k10 k2 k1 k17
  have k10 := Box.cell (HX6.out.2.1) 10 rfl
  have k2 := Box.cell (HX6.out.2.1) 2 rfl
  have k1 := Box.cell (HX6.out.2.1) 1 rfl
  have k17 := Box.cell (HX6.out.2.1) 17 rfl
  have j1 := Box.cell (HX6.out.2.2.1) 1 rfl
  have fz := fun i => Box.frozen (HX6.out.2.1) i
  go_upto_region 26 with fail
  clear k10 k2 k1 k17 j1 fz
  have k2 : w6.cell? ⟨p, 2, none⟩ = some (.int .i64 c5.cw) := Box.cell (HX6.out.2.1) 2 rfl
  have k1 : w6.cell? ⟨p, 1, none⟩ = some (.int .i64 c5.ms) := Box.cell (HX6.out.2.1) 1 rfl
  have fz := fun i => Box.frozen (HX6.out.2.1) i
  go_wp2_with fail
  refine (c8 _).mono ?_
  rintro e w' ⟨rfl, hq⟩
  obtain rfl := hq.symm
  clear hq
  go_upto_region 27 with fail
  obtain ⟨X7, hX⟩ : ∃ X, (w6.setCell ⟨p, 2, none⟩ (.int .i64 x)) = X := ⟨_, rfl⟩
  try rw [hX]
  have HX7 : Hid (Below w.heap.size w X7 ∧ Box X7 p 26 (ccL { c5 with cw := x }) ∧ Box X7 q 28 (smL s) ∧ Box X7 r 26 (ccL zC) ∧ w.heap.size ≤ p ∧ p < q ∧ q < r ∧ Fil.RowT X7 0 A n k fs ∧ True) := by
    obtain ⟨hb, b0, b1, b2, l0, l1, l2, r0, _⟩ := HX6.out
    have st : Sto w6 p X7 := by rw [← hX]; exact ((Sto.refl w6 p).set 2 _)
    have bn : Box X7 p 26 (ccL { c5 with cw := x }) := by rw [← hX]; exact box_to (b0.set 2 _) rfl
    exact ⟨st.below _ _ (by omega) hb, bn, b1.sto st (by omega), b2.sto st (by omega), l0, l1, l2, r0.sto b0 (by decide) st, trivial⟩
  clear hX HX6
  clear k1 k2 fz c8
  go_wp2_with (first | (refine wpC_load rfl isC26 rfl rfl (HX7.out.2.1) ?_) | (refine wpC_store rfl isC26 rfl rfl rfl rfl (HX7.out.2.2.2.1) rfl ?_))
  intro X8 HN
  have HX8 : Hid (Below w.heap.size w X8 ∧ Box X8 p 26 (ccL { c5 with cw := x }) ∧ Box X8 q 28 (smL s) ∧ Box X8 r 26 (ccL { c5 with cw := x }) ∧ w.heap.size ≤ p ∧ p < q ∧ q < r ∧ Fil.RowT X8 0 A n k fs ∧ True) := by
    obtain ⟨hb, b0, b1, b2, l0, l1, l2, r0, _⟩ := HX7.out
    obtain ⟨st, bn⟩ := HN.out
    exact ⟨st.below _ _ (by omega) hb, b0.sto st (by omega), b1.sto st (by omega), bn, l0, l1, l2, r0.sto b2 (by decide) st, trivial⟩
  clear HN HX7
  go_wp2_with fail
  refine bodyPost_ret (resC2 isC26 rfl _ _ rfl (HX8.out.2.2.2.1)) rfl ?_
  exact HP.out _ (HX8.out.1) (HX8.out.2.2.2.2.2.2.2.1)
end Go.Proofs.YtagmighcofllhaaDoor
