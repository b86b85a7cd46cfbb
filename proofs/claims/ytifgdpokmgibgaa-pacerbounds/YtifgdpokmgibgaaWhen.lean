/- The contracts of When. -/
import Derived.Test.YtifgdpokmgibgaaCheck
import Derived.Test.YtifgdpokmgibgaaRCheck
namespace Go.Proofs.Ytifgdpokmgibgaa
open Go.ChangeShapes Go.WideShapes Go.ChangeAt Go.RowKit Go.Shelf
set_option linter.unusedVariables false
set_option linter.unusedSimpArgs false
attribute [local go_sem] Oper.semAt_some


set_option maxRecDepth 100000 in
set_option maxHeartbeats 4000000 in
theorem whn_no (p : Pc) (n : Int) (c1 : ∀ W, Calls Try.prog 17 #[agv (pcL p)] W fun e w' => e = .returned (.int .i64 230) ∧ Below W.heap.size W w')  (w : World) : Calls Try.prog 13 #[agv (pcL p), .int .i64 n] w fun e w' => e = .returned (.tuple #[.int .i64 0, .int .i64 230]) ∧ Below w.heap.size w w' := by
  go_enter Try.func13, Try.ntmps13
  go_wp2_with (first | (refine wpS_box rfl rfl rfl ?_))
  intro X1 g HN
  have HX1 : Hid (Below w.heap.size w X1 ∧ Box X1 g 23 (pcL p) ∧ w.heap.size ≤ g ∧ True) := by
    have hb := Below.refl w.heap.size w
    obtain ⟨hg, hb2, bn⟩ := HN.out
    have hz := hb.size
    exact ⟨Below.on hb hb2, bn, by omega, trivial⟩
  clear HN 
  go_wp2_with (first | (refine wpS_load rfl rfl rfl (HX1.out.2.1) isS23 ?_) | fail)
  refine (c1 _).mono ?_
  rintro e w2 ⟨rfl, hB⟩
  have HX2 : Hid (Below w.heap.size w w2 ∧ Box w2 g 23 (pcL p) ∧ w.heap.size ≤ g ∧ True) := by
    obtain ⟨hb, b0, l0, _⟩ := HX1.out
    exact ⟨Below.on hb hB, b0.later hB, l0, trivial⟩
  clear hB HX1
  go_wp2_with fail
  go_ret2
  exact ⟨rfl, HX2.out.1⟩

set_option maxRecDepth 100000 in
set_option maxHeartbeats 4000000 in
theorem whn_sz (p : Pc) (n : Int) (c1 : ∀ W, Calls Try.prog 17 #[agv (pcL p)] W fun e w' => e = .returned (.int .i64 0) ∧ Below W.heap.size W w') (c2 : ∀ W, Calls Try.prog 27 #[.int .i64 n] W fun e w' => e = .returned (.bool false) ∧ w' = W)  (w : World) : Calls Try.prog 13 #[agv (pcL p), .int .i64 n] w fun e w' => e = .returned (.tuple #[.int .i64 0, .int .i64 2]) ∧ Below w.heap.size w w' := by
  go_enter Try.func13, Try.ntmps13
  go_wp2_with (first | (refine wpS_box rfl rfl rfl ?_))
  intro X1 g HN
  have HX1 : Hid (Below w.heap.size w X1 ∧ Box X1 g 23 (pcL p) ∧ w.heap.size ≤ g ∧ True) := by
    have hb := Below.refl w.heap.size w
    obtain ⟨hg, hb2, bn⟩ := HN.out
    have hz := hb.size
    exact ⟨Below.on hb hb2, bn, by omega, trivial⟩
  clear HN 
  go_wp2_with (first | (refine wpS_load rfl rfl rfl (HX1.out.2.1) isS23 ?_) | fail)
  refine (c1 _).mono ?_
  rintro e w2 ⟨rfl, hB⟩
  have HX2 : Hid (Below w.heap.size w w2 ∧ Box w2 g 23 (pcL p) ∧ w.heap.size ≤ g ∧ True) := by
    obtain ⟨hb, b0, l0, _⟩ := HX1.out
    exact ⟨Below.on hb hB, b0.later hB, l0, trivial⟩
  clear hB HX1
  go_wp2_with fail
  refine (c2 _).mono ?_
  rintro e w' ⟨rfl, hq⟩
  obtain rfl := hq.symm
  clear hq
  go_wp2_with fail
  go_ret2
  exact ⟨rfl, HX2.out.1⟩

set_option maxRecDepth 100000 in
set_option maxHeartbeats 4000000 in
theorem rwhn_no (p : Pc) (n : Int) (c1 : ∀ W, Calls Try.prog 18 #[agv (pcL p)] W fun e w' => e = .returned (.int .i64 230) ∧ Below W.heap.size W w')  (w : World) : Calls Try.prog 14 #[agv (pcL p), .int .i64 n] w fun e w' => e = .returned (.tuple #[.int .i64 0, .int .i64 230]) ∧ Below w.heap.size w w' := by
  go_enter Try.func14, Try.ntmps14
  go_wp2_with (first | (refine wpS_box rfl rfl rfl ?_))
  intro X1 g HN
  have HX1 : Hid (Below w.heap.size w X1 ∧ Box X1 g 23 (pcL p) ∧ w.heap.size ≤ g ∧ True) := by
    have hb := Below.refl w.heap.size w
    obtain ⟨hg, hb2, bn⟩ := HN.out
    have hz := hb.size
    exact ⟨Below.on hb hb2, bn, by omega, trivial⟩
  clear HN 
  go_wp2_with (first | (refine wpS_load rfl rfl rfl (HX1.out.2.1) isS23 ?_) | fail)
  refine (c1 _).mono ?_
  rintro e w2 ⟨rfl, hB⟩
  have HX2 : Hid (Below w.heap.size w w2 ∧ Box w2 g 23 (pcL p) ∧ w.heap.size ≤ g ∧ True) := by
    obtain ⟨hb, b0, l0, _⟩ := HX1.out
    exact ⟨Below.on hb hB, b0.later hB, l0, trivial⟩
  clear hB HX1
  go_wp2_with fail
  go_ret2
  exact ⟨rfl, HX2.out.1⟩

set_option maxRecDepth 100000 in
set_option maxHeartbeats 4000000 in
theorem rwhn_sz (p : Pc) (n : Int) (c1 : ∀ W, Calls Try.prog 18 #[agv (pcL p)] W fun e w' => e = .returned (.int .i64 0) ∧ Below W.heap.size W w') (c2 : ∀ W, Calls Try.prog 28 #[.int .i64 n] W fun e w' => e = .returned (.bool false) ∧ w' = W)  (w : World) : Calls Try.prog 14 #[agv (pcL p), .int .i64 n] w fun e w' => e = .returned (.tuple #[.int .i64 0, .int .i64 2]) ∧ Below w.heap.size w w' := by
  go_enter Try.func14, Try.ntmps14
  go_wp2_with (first | (refine wpS_box rfl rfl rfl ?_))
  intro X1 g HN
  have HX1 : Hid (Below w.heap.size w X1 ∧ Box X1 g 23 (pcL p) ∧ w.heap.size ≤ g ∧ True) := by
    have hb := Below.refl w.heap.size w
    obtain ⟨hg, hb2, bn⟩ := HN.out
    have hz := hb.size
    exact ⟨Below.on hb hb2, bn, by omega, trivial⟩
  clear HN 
  go_wp2_with (first | (refine wpS_load rfl rfl rfl (HX1.out.2.1) isS23 ?_) | fail)
  refine (c1 _).mono ?_
  rintro e w2 ⟨rfl, hB⟩
  have HX2 : Hid (Below w.heap.size w w2 ∧ Box w2 g 23 (pcL p) ∧ w.heap.size ≤ g ∧ True) := by
    obtain ⟨hb, b0, l0, _⟩ := HX1.out
    exact ⟨Below.on hb hB, b0.later hB, l0, trivial⟩
  clear hB HX1
  go_wp2_with fail
  refine (c2 _).mono ?_
  rintro e w' ⟨rfl, hq⟩
  obtain rfl := hq.symm
  clear hq
  go_wp2_with fail
  go_ret2
  exact ⟨rfl, HX2.out.1⟩

set_option maxRecDepth 100000 in
set_option maxHeartbeats 4000000 in
theorem whn_y (p : Pc) (n z m k u : Int) (hn : 0 ≤ n ∧ n ≤ 1073741824) (h1 : 1 ≤ p.r ∧ p.r ≤ 1099511627776) (h3 : -1073741824000000 ≤ p.t ∧ p.t ≤ 1073741824000000) (h4 : 0 ≤ p.l ∧ p.l ≤ 1125899906842624) (hz : min n p.b = z) (hzb : 0 ≤ z ∧ z ≤ 1073741824) (hm : max (z * 1000000 - p.t) 0 = m) (hmb : 0 ≤ m ∧ m ≤ 2147483648000000) (hk : (m + p.r - 1).tdiv p.r = k) (hkb : 0 ≤ k ∧ k ≤ 2147483648000000) (hu : min (p.l + k) 1125899906842624 = u) (c1 : ∀ W, Calls Try.prog 17 #[agv (pcL p)] W fun e w' => e = .returned (.int .i64 0) ∧ Below W.heap.size W w') (c2 : ∀ W, Calls Try.prog 27 #[.int .i64 n] W fun e w' => e = .returned (.bool true) ∧ w' = W)  (w : World) : Calls Try.prog 13 #[agv (pcL p), .int .i64 n] w fun e w' => e = .returned (.tuple #[.int .i64 u, .int .i64 0]) ∧ Below w.heap.size w w' := by
  go_enter Try.func13, Try.ntmps13
  go_wp2_with (first | (refine wpS_box rfl rfl rfl ?_))
  intro X1 g HN
  have HX1 : Hid (Below w.heap.size w X1 ∧ Box X1 g 23 (pcL p) ∧ w.heap.size ≤ g ∧ True) := by
    have hb := Below.refl w.heap.size w
    obtain ⟨hg, hb2, bn⟩ := HN.out
    have hz := hb.size
    exact ⟨Below.on hb hb2, bn, by omega, trivial⟩
  clear HN 
  go_wp2_with (first | (refine wpS_load rfl rfl rfl (HX1.out.2.1) isS23 ?_) | fail)
  refine (c1 _).mono ?_
  rintro e w2 ⟨rfl, hB⟩
  have HX2 : Hid (Below w.heap.size w w2 ∧ Box w2 g 23 (pcL p) ∧ w.heap.size ≤ g ∧ True) := by
    obtain ⟨hb, b0, l0, _⟩ := HX1.out
    exact ⟨Below.on hb hB, b0.later hB, l0, trivial⟩
  clear hB HX1
  have k0 := Box.cell (HX2.out.2.1) 0 rfl
  have k1 := Box.cell (HX2.out.2.1) 1 rfl
  have k2 := Box.cell (HX2.out.2.1) 2 rfl
  have k3 := Box.cell (HX2.out.2.1) 3 rfl
  have hm1 := fun W => min2 hz W
  have hm2 := fun W => max2 hm W
  have hm3 := fun W => min2 hu W
  clear hz hm hu
  go_wp2_with fail
  refine (c2 _).mono ?_
  rintro e w' ⟨rfl, hq⟩
  obtain rfl := hq.symm
  clear hq
  go_wp2_with fail
  go_ret2
  exact ⟨rfl, HX2.out.1⟩

set_option maxRecDepth 100000 in
set_option maxHeartbeats 4000000 in
theorem rwhn_z (p : Pc) (n z : Int) (hn : 0 ≤ n ∧ n ≤ 1073741824) (h1 : 1 ≤ p.r ∧ p.r ≤ 1099511627776) (h3 : -1073741824000000 ≤ p.t ∧ p.t ≤ 1073741824000000) (h4 : 0 ≤ p.l ∧ p.l ≤ 1125899906842624) (hz : min n p.b = z) (hzb : 0 ≤ z ∧ z ≤ 1073741824) (hm : z * 1000000 - p.t ≤ 0) (c1 : ∀ W, Calls Try.prog 18 #[agv (pcL p)] W fun e w' => e = .returned (.int .i64 0) ∧ Below W.heap.size W w') (c2 : ∀ W, Calls Try.prog 28 #[.int .i64 n] W fun e w' => e = .returned (.bool true) ∧ w' = W)  (w : World) : Calls Try.prog 14 #[agv (pcL p), .int .i64 n] w fun e w' => e = .returned (.tuple #[.int .i64 p.l, .int .i64 0]) ∧ Below w.heap.size w w' := by
  go_enter Try.func14, Try.ntmps14
  go_wp2_with (first | (refine wpS_box rfl rfl rfl ?_))
  intro X1 g HN
  have HX1 : Hid (Below w.heap.size w X1 ∧ Box X1 g 23 (pcL p) ∧ w.heap.size ≤ g ∧ True) := by
    have hb := Below.refl w.heap.size w
    obtain ⟨hg, hb2, bn⟩ := HN.out
    have hz := hb.size
    exact ⟨Below.on hb hb2, bn, by omega, trivial⟩
  clear HN 
  go_wp2_with (first | (refine wpS_load rfl rfl rfl (HX1.out.2.1) isS23 ?_) | fail)
  refine (c1 _).mono ?_
  rintro e w2 ⟨rfl, hB⟩
  have HX2 : Hid (Below w.heap.size w w2 ∧ Box w2 g 23 (pcL p) ∧ w.heap.size ≤ g ∧ True) := by
    obtain ⟨hb, b0, l0, _⟩ := HX1.out
    exact ⟨Below.on hb hB, b0.later hB, l0, trivial⟩
  clear hB HX1
  have k0 := Box.cell (HX2.out.2.1) 0 rfl
  have k1 := Box.cell (HX2.out.2.1) 1 rfl
  have k2 := Box.cell (HX2.out.2.1) 2 rfl
  have k3 := Box.cell (HX2.out.2.1) 3 rfl
  have hm1 := fun W => min2 hz W
  clear hz
  go_wp2_with fail
  refine (c2 _).mono ?_
  rintro e w' ⟨rfl, hq⟩
  obtain rfl := hq.symm
  clear hq
  go_wp2_with fail
  go_ret2
  exact ⟨rfl, HX2.out.1⟩
def rw8O0 (ps : String) : Oper := { dst := some 25, op := .fieldAddr 23 (.tmp 2) 3, type := 0, pos := ps, after := #[], guard := none }
def rw8O1 (ps : String) : Oper := { dst := some 26, op := .load 3 (.tmp 25), type := 3, pos := ps, after := #[{ on := 0, ground := .data }], guard := none }
def rw8O2 (ps : String) : Oper := { dst := some 27, op := .move (.tmp 6), type := 3, pos := ps, after := #[], guard := none }
def rw8O3 (ps : String) : Oper := { dst := some 28, op := .fieldAddr 23 (.tmp 2) 0, type := 0, pos := ps, after := #[], guard := none }
def rw8O4 (ps : String) : Oper := { dst := some 29, op := .load 3 (.tmp 28), type := 3, pos := ps, after := #[{ on := 3, ground := .data }], guard := none }
def rw8O5 (ps : String) : Oper := { dst := some 30, op := .binOp .add 3 (.tmp 27) (.tmp 29) 3, type := 3, pos := ps, after := #[{ on := 2, ground := .data }, { on := 4, ground := .data }], guard := none }
def rw8O6 (ps : String) : Oper := { dst := some 31, op := .binOp .sub 3 (.tmp 30) (.const (.int .i64 1)) 3, type := 3, pos := ps, after := #[{ on := 5, ground := .data }], guard := none }
def rw8O7 (ps : String) : Oper := { dst := some 32, op := .fieldAddr 23 (.tmp 2) 0, type := 0, pos := ps, after := #[], guard := none }
def rw8O8 (ps : String) : Oper := { dst := some 33, op := .load 3 (.tmp 32), type := 3, pos := ps, after := #[{ on := 7, ground := .data }], guard := none }
def rw8O9 (ps : String) : Oper := { dst := some 34, op := .binOp .quo 3 (.tmp 31) (.tmp 33) 3, type := 3, pos := ps, after := #[{ on := 6, ground := .data }, { on := 8, ground := .data }], guard := none }
def rw8O10 (ps : String) : Oper := { dst := some 35, op := .binOp .add 3 (.tmp 26) (.tmp 34) 3, type := 3, pos := ps, after := #[{ on := 1, ground := .data }, { on := 9, ground := .data }], guard := none }
def rw8O11 (ps : String) : Oper := { dst := some 36, op := .call { callee := .builtin .min, args := #[.tmp 35, .const (.int .i64 1125899906842624)], argTypes := #[3, 3] }, type := 3, pos := ps, after := #[{ on := 10, ground := .data }], guard := none }
def rw8O12 (ps : String) : Oper := { dst := some 4, op := .assign (.tmp 36), type := 3, pos := ps, after := #[{ on := 11, ground := .data }, { on := 0, ground := .phase }, { on := 1, ground := .phase }, { on := 2, ground := .phase }, { on := 3, ground := .phase }, { on := 4, ground := .phase }, { on := 5, ground := .phase }, { on := 6, ground := .phase }, { on := 7, ground := .phase }, { on := 8, ground := .phase }, { on := 9, ground := .phase }, { on := 10, ground := .phase }, { on := 11, ground := .phase }], guard := none }
def rw8O13 (ps : String) : Oper := { dst := some 5, op := .assign (.const (.int .i64 0)), type := 3, pos := ps, after := #[{ on := 12, ground := .chain }, { on := 0, ground := .phase }, { on := 1, ground := .phase }, { on := 2, ground := .phase }, { on := 3, ground := .phase }, { on := 4, ground := .phase }, { on := 5, ground := .phase }, { on := 6, ground := .phase }, { on := 7, ground := .phase }, { on := 8, ground := .phase }, { on := 9, ground := .phase }, { on := 10, ground := .phase }, { on := 11, ground := .phase }, { on := 12, ground := .phase }], guard := none }
def rw8 (ps : String) : Array Oper := #[rw8O0 ps, rw8O1 ps, rw8O2 ps, rw8O3 ps, rw8O4 ps, rw8O5 ps, rw8O6 ps, rw8O7 ps, rw8O8 ps, rw8O9 ps, rw8O10 ps, rw8O11 ps, rw8O12 ps, rw8O13 ps]
theorem rw8_0 (ps : String) : (rw8 ps)[0]? = some (rw8O0 ps) := rfl
theorem rw8_1 (ps : String) : (rw8 ps)[1]? = some (rw8O1 ps) := rfl
theorem rw8_2 (ps : String) : (rw8 ps)[2]? = some (rw8O2 ps) := rfl
theorem rw8_3 (ps : String) : (rw8 ps)[3]? = some (rw8O3 ps) := rfl
theorem rw8_4 (ps : String) : (rw8 ps)[4]? = some (rw8O4 ps) := rfl
theorem rw8_5 (ps : String) : (rw8 ps)[5]? = some (rw8O5 ps) := rfl
theorem rw8_6 (ps : String) : (rw8 ps)[6]? = some (rw8O6 ps) := rfl
theorem rw8_7 (ps : String) : (rw8 ps)[7]? = some (rw8O7 ps) := rfl
theorem rw8_8 (ps : String) : (rw8 ps)[8]? = some (rw8O8 ps) := rfl
theorem rw8_9 (ps : String) : (rw8 ps)[9]? = some (rw8O9 ps) := rfl
theorem rw8_10 (ps : String) : (rw8 ps)[10]? = some (rw8O10 ps) := rfl
theorem rw8_11 (ps : String) : (rw8 ps)[11]? = some (rw8O11 ps) := rfl
theorem rw8_12 (ps : String) : (rw8 ps)[12]? = some (rw8O12 ps) := rfl
theorem rw8_13 (ps : String) : (rw8 ps)[13]? = some (rw8O13 ps) := rfl
def rw8D : Nat → Option Tmp
  | 0 => some 25
  | 1 => some 26
  | 2 => some 27
  | 3 => some 28
  | 4 => some 29
  | 5 => some 30
  | 6 => some 31
  | 7 => some 32
  | 8 => some 33
  | 9 => some 34
  | 10 => some 35
  | 11 => some 36
  | 12 => some 4
  | 13 => some 5
  | _ => none
def rw8T (p : Pc) (m k u : Int) (g B0 : Nat) (WW : World) : Nat → Value
  | 0 => .pointer (some ⟨g, 3, none⟩)
  | 1 => .int .i64 p.l
  | 2 => .int .i64 m
  | 3 => .pointer (some ⟨g, 0, none⟩)
  | 4 => .int .i64 p.r
  | 5 => .int .i64 (m + p.r)
  | 6 => .int .i64 (m + p.r - 1)
  | 7 => .pointer (some ⟨g, 0, none⟩)
  | 8 => .int .i64 p.r
  | 9 => .int .i64 k
  | 10 => .int .i64 (p.l + k)
  | 11 => .int .i64 u
  | 12 => .int .i64 u
  | 13 => .int .i64 0
  | _ => undef
set_option maxRecDepth 100000 in
set_option maxHeartbeats 4000000 in
theorem rw8_reg {ps : String} {Q : Exit → Act → World → Prop} {a0 : Act} {W0 : World} (sz : a0.tmps.size = 37) (p : Pc) (m k u : Int) (g B0 : Nat) (WW : World)
    (e2 : a0.eval (.tmp 2) = .pointer (some ⟨g, 0, none⟩)) (e6 : a0.eval (.tmp 6) = .int .i64 m)
    (l0 : B0 ≤ g) (hS0 : Below B0 WW W0 ∧ Box W0 g 23 (pcL p) ∧ True) (hw1 : IntKind.i64.wrap (m + p.r) = m + p.r) (hw2 : IntKind.i64.wrap (m + p.r - 1) = m + p.r - 1) (hk : (m + p.r - 1).tdiv p.r = k) (hw3 : IntKind.i64.wrap k = k) (hr0 : ¬ p.r = 0) (hw4 : IntKind.i64.wrap (p.l + k) = p.l + k) (hu : min (p.l + k) 1125899906842624 = u) 
    (hfin : ∀ (T : Nat → Value) w, T 12 = .int .i64 u → T 13 = .int .i64 0 → Below B0 WW w ∧ Box w g 23 (pcL p) ∧ True → Q .normal ((((((((((((((a0.put (some 25) (T 0)).put (some 26) (T 1)).put (some 27) (T 2)).put (some 28) (T 3)).put (some 29) (T 4)).put (some 30) (T 5)).put (some 31) (T 6)).put (some 32) (T 7)).put (some 33) (T 8)).put (some 34) (T 9)).put (some 35) (T 10)).put (some 36) (T 11)).put (some 4) (T 12)).put (some 5) (T 13)) w) :
    (Code.region 8 (rw8 ps) true).wp Try.prog Q a0 W0 := by
  refine wp_region_dets (by kernel_rfl) 14 rfl rw8D ?_ (by decide) (rw8T p m k u g B0 WW) (fun D w => Below B0 WW w ∧ Box w g 23 (pcL p) ∧ True) (fun D _ => ⟨hS0.1.drew, hS0.2.1, trivial⟩) ?_ (by rfl) (fun w D _ hSw => hfin (rw8T p m k u g B0 WW) w rfl rfl hSw)
  · intro jq t hj ht
    have : ∀ j, j < 14 → (rw8D j).all (· < 37) = true := by decide
    have := this jq hj
    rw [ht] at this
    rw [sz]
    simpa using this
  · intro iq o ho D a w hSw hDi hcl hs hel K hK
    have hin : iq < 14 := (Array.getElem?_eq_some_iff.1 ho).1
    match iq, hin, ho with
    | 0, _, ho =>
      obtain rfl := Option.some.inj (ho.symm.trans (rw8_0 ps))
      have u2 : a.eval (.tmp 2) = .pointer (some ⟨g, 0, none⟩) := (hel 2 (by decide)).trans e2
      exact op_valW (rw8_0 ps) rfl (v := .pointer (some ⟨g, 3, none⟩)) (by unfold rw8O0 execOp; simp only [u2]; first | (go_simp; done) | (go_simp; with_reducible rfl)) (hK w (fun D' _ _ => hSw))
    | 1, _, ho =>
      obtain rfl := Option.some.inj (ho.symm.trans (rw8_1 ps))
      have s0 : a.eval (.tmp 25) = .pointer (some ⟨g, 3, none⟩) := hs 0 25 (by rfl) rfl
      have hcl := Box.cell hSw.2.1 3 rfl
      exact op_valW (rw8_1 ps) rfl (v := .int .i64 p.l) (by unfold rw8O1 execOp; simp only [s0]; first | (go_simp; done) | (go_simp; with_reducible rfl)) (hK w (fun D' _ _ => hSw))
    | 2, _, ho =>
      obtain rfl := Option.some.inj (ho.symm.trans (rw8_2 ps))
      have u6 : a.eval (.tmp 6) = .int .i64 m := (hel 6 (by decide)).trans e6
      exact op_valW (rw8_2 ps) rfl (v := .int .i64 m) (by unfold rw8O2 execOp; simp only [u6]; first | (go_simp; done) | (go_simp; with_reducible rfl)) (hK w (fun D' _ _ => hSw))
    | 3, _, ho =>
      obtain rfl := Option.some.inj (ho.symm.trans (rw8_3 ps))
      have u2 : a.eval (.tmp 2) = .pointer (some ⟨g, 0, none⟩) := (hel 2 (by decide)).trans e2
      exact op_valW (rw8_3 ps) rfl (v := .pointer (some ⟨g, 0, none⟩)) (by unfold rw8O3 execOp; simp only [u2]; first | (go_simp; done) | (go_simp; with_reducible rfl)) (hK w (fun D' _ _ => hSw))
    | 4, _, ho =>
      obtain rfl := Option.some.inj (ho.symm.trans (rw8_4 ps))
      have s3 : a.eval (.tmp 28) = .pointer (some ⟨g, 0, none⟩) := hs 3 28 (by rfl) rfl
      have hcl := Box.cell hSw.2.1 0 rfl
      exact op_valW (rw8_4 ps) rfl (v := .int .i64 p.r) (by unfold rw8O4 execOp; simp only [s3]; first | (go_simp; done) | (go_simp; with_reducible rfl)) (hK w (fun D' _ _ => hSw))
    | 5, _, ho =>
      obtain rfl := Option.some.inj (ho.symm.trans (rw8_5 ps))
      have s2 : a.eval (.tmp 27) = .int .i64 m := hs 2 27 (by rfl) rfl
      have s4 : a.eval (.tmp 29) = .int .i64 p.r := hs 4 29 (by rfl) rfl
      have hcl := hw1
      exact op_valW (rw8_5 ps) rfl (v := .int .i64 (m + p.r)) (by unfold rw8O5 execOp; simp only [s2, s4]; first | (go_simp; done) | (go_simp; with_reducible rfl)) (hK w (fun D' _ _ => hSw))
    | 6, _, ho =>
      obtain rfl := Option.some.inj (ho.symm.trans (rw8_6 ps))
      have s5 : a.eval (.tmp 30) = .int .i64 (m + p.r) := hs 5 30 (by rfl) rfl
      have hcl := hw2
      exact op_valW (rw8_6 ps) rfl (v := .int .i64 (m + p.r - 1)) (by unfold rw8O6 execOp; simp only [s5]; first | (go_simp; done) | (go_simp; with_reducible rfl)) (hK w (fun D' _ _ => hSw))
    | 7, _, ho =>
      obtain rfl := Option.some.inj (ho.symm.trans (rw8_7 ps))
      have u2 : a.eval (.tmp 2) = .pointer (some ⟨g, 0, none⟩) := (hel 2 (by decide)).trans e2
      exact op_valW (rw8_7 ps) rfl (v := .pointer (some ⟨g, 0, none⟩)) (by unfold rw8O7 execOp; simp only [u2]; first | (go_simp; done) | (go_simp; with_reducible rfl)) (hK w (fun D' _ _ => hSw))
    | 8, _, ho =>
      obtain rfl := Option.some.inj (ho.symm.trans (rw8_8 ps))
      have s7 : a.eval (.tmp 32) = .pointer (some ⟨g, 0, none⟩) := hs 7 32 (by rfl) rfl
      have hcl := Box.cell hSw.2.1 0 rfl
      exact op_valW (rw8_8 ps) rfl (v := .int .i64 p.r) (by unfold rw8O8 execOp; simp only [s7]; first | (go_simp; done) | (go_simp; with_reducible rfl)) (hK w (fun D' _ _ => hSw))
    | 9, _, ho =>
      obtain rfl := Option.some.inj (ho.symm.trans (rw8_9 ps))
      have s6 : a.eval (.tmp 31) = .int .i64 (m + p.r - 1) := hs 6 31 (by rfl) rfl
      have s8 : a.eval (.tmp 33) = .int .i64 p.r := hs 8 33 (by rfl) rfl
      have hcl := hk
      have hcl2 := hw3
      have hcl3 := hr0
      exact op_valW (rw8_9 ps) rfl (v := .int .i64 k) (by unfold rw8O9 execOp; simp only [s6, s8]; first | (go_simp; done) | (go_simp; with_reducible rfl)) (hK w (fun D' _ _ => hSw))
    | 10, _, ho =>
      obtain rfl := Option.some.inj (ho.symm.trans (rw8_10 ps))
      have s1 : a.eval (.tmp 26) = .int .i64 p.l := hs 1 26 (by rfl) rfl
      have s9 : a.eval (.tmp 34) = .int .i64 k := hs 9 34 (by rfl) rfl
      have hcl := hw4
      exact op_valW (rw8_10 ps) rfl (v := .int .i64 (p.l + k)) (by unfold rw8O10 execOp; simp only [s1, s9]; first | (go_simp; done) | (go_simp; with_reducible rfl)) (hK w (fun D' _ _ => hSw))
    | 11, _, ho =>
      obtain rfl := Option.some.inj (ho.symm.trans (rw8_11 ps))
      have s10 : a.eval (.tmp 35) = .int .i64 (p.l + k) := hs 10 35 (by rfl) rfl
      have t35 : a.tmps[35]?.getD undef = .int .i64 (p.l + k) := by simpa [Act.eval] using s10
      have hmn := fun W => min2 hu W
      exact op_valW (rw8_11 ps) rfl (v := .int .i64 u) (by unfold rw8O11 execOp; skip; first | (go_simp; done) | (go_simp; with_reducible rfl)) (hK w (fun D' _ _ => hSw))
    | 12, _, ho =>
      obtain rfl := Option.some.inj (ho.symm.trans (rw8_12 ps))
      have s11 : a.eval (.tmp 36) = .int .i64 u := hs 11 36 (by rfl) rfl
      exact op_valW (rw8_12 ps) rfl (v := .int .i64 u) (by unfold rw8O12 execOp; simp only [s11]; first | (go_simp; done) | (go_simp; with_reducible rfl)) (hK w (fun D' _ _ => hSw))
    | 13, _, ho =>
      obtain rfl := Option.some.inj (ho.symm.trans (rw8_13 ps))
      exact op_valW (rw8_13 ps) rfl (v := .int .i64 0) (by unfold rw8O13 execOp; skip; first | (go_simp; done) | (go_simp; with_reducible rfl)) (hK w (fun D' _ _ => hSw))
    | iq + 14, hin, _ => exact absurd hin (by omega)

set_option maxRecDepth 100000 in
set_option maxHeartbeats 4000000 in
theorem rwhn_y (p : Pc) (n z m k u : Int) (hn : 0 ≤ n ∧ n ≤ 1073741824) (h1 : 1 ≤ p.r ∧ p.r ≤ 1099511627776) (h3 : -1073741824000000 ≤ p.t ∧ p.t ≤ 1073741824000000) (h4 : 0 ≤ p.l ∧ p.l ≤ 1125899906842624) (hz : min n p.b = z) (hzb : 0 ≤ z ∧ z ≤ 1073741824) (hm : z * 1000000 - p.t = m) (hmb : 1 ≤ m ∧ m ≤ 2147483648000000) (hw1 : IntKind.i64.wrap (m + p.r) = m + p.r) (hw2 : IntKind.i64.wrap (m + p.r - 1) = m + p.r - 1) (hk : (m + p.r - 1).tdiv p.r = k) (hw3 : IntKind.i64.wrap k = k) (hr0 : ¬ p.r = 0) (hw4 : IntKind.i64.wrap (p.l + k) = p.l + k) (hu : min (p.l + k) 1125899906842624 = u) (c1 : ∀ W, Calls Try.prog 18 #[agv (pcL p)] W fun e w' => e = .returned (.int .i64 0) ∧ Below W.heap.size W w') (c2 : ∀ W, Calls Try.prog 28 #[.int .i64 n] W fun e w' => e = .returned (.bool true) ∧ w' = W)  (w : World) : Calls Try.prog 14 #[agv (pcL p), .int .i64 n] w fun e w' => e = .returned (.tuple #[.int .i64 u, .int .i64 0]) ∧ Below w.heap.size w w' := by
  go_enter Try.func14, Try.ntmps14
  go_wp2_with (first | (refine wpS_box rfl rfl rfl ?_))
  intro X1 g HN
  have HX1 : Hid (Below w.heap.size w X1 ∧ Box X1 g 23 (pcL p) ∧ w.heap.size ≤ g ∧ True) := by
    have hb := Below.refl w.heap.size w
    obtain ⟨hg, hb2, bn⟩ := HN.out
    have hz := hb.size
    exact ⟨Below.on hb hb2, bn, by omega, trivial⟩
  clear HN 
  go_wp2_with (first | (refine wpS_load rfl rfl rfl (HX1.out.2.1) isS23 ?_) | fail)
  refine (c1 _).mono ?_
  rintro e w2 ⟨rfl, hB⟩
  have HX2 : Hid (Below w.heap.size w w2 ∧ Box w2 g 23 (pcL p) ∧ w.heap.size ≤ g ∧ True) := by
    obtain ⟨hb, b0, l0, _⟩ := HX1.out
    exact ⟨Below.on hb hB, b0.later hB, l0, trivial⟩
  clear hB HX1
  have k0 := Box.cell (HX2.out.2.1) 0 rfl
  have k1 := Box.cell (HX2.out.2.1) 1 rfl
  have k2 := Box.cell (HX2.out.2.1) 2 rfl
  have k3 := Box.cell (HX2.out.2.1) 3 rfl
  have hm1 := fun W => min2 hz W
  clear hz
  go_wp2_with fail
  refine (c2 _).mono ?_
  rintro e w' ⟨rfl, hq⟩
  obtain rfl := hq.symm
  clear hq
  go_upto_region 8 with fail
  clear k0 k1 k2 k3
  refine rw8_reg (by rfl) p m k u g _ _  rfl rfl (HX2.out.2.2.1) ⟨HX2.out.1, HX2.out.2.1, trivial⟩ hw1 hw2 hk hw3 hr0 hw4 hu ?_
  intro T X3 hT hT2 hS
  simp only [Act.put, List.setIfInBounds_toArray, List.set_cons_zero, List.set_cons_succ]
  simp only [hT, hT2]
  have HX3 : Hid (Below w.heap.size w X3 ∧ Box X3 g 23 (pcL p) ∧ w.heap.size ≤ g ∧ True) := by
    obtain ⟨hb, b0, l0, _⟩ := HX2.out
    exact ⟨hS.1, hS.2.1, l0, trivial⟩
  clear hS hT hT2 HX2
  go_wp2_with fail
  go_ret2
  exact ⟨rfl, HX3.out.1⟩

theorem whn_is (p : Pc) (n : Int) {q : Int} (hq : whnI p n = q) {r : Int} (hr : whnE p n = r) (w : World) : Calls Try.prog 13 #[agv (pcL p), .int .i64 n] w fun e w' => e = .returned (.tuple #[.int .i64 q, .int .i64 r]) ∧ Below w.heap.size w w' := by
  subst hq; subst hr
  unfold whnI whnE
  cases k : okB p with
  | false => simp only [Bool.false_eq_true, if_false]; exact whn_no p n (fun W => chk_is p (by unfold chkE; rw [if_neg (by simp [k])]) W) w
  | true =>
  have c1 := fun W => chk_is p (r := 0) (by unfold chkE; rw [if_pos k]) W
  have ho := ok_out k
  cases k2 : szB n with
  | false => simp only [Bool.false_eq_true, if_false, if_true]; exact whn_sz p n c1 (fun W => sz_is n k2 W) w
  | true =>
  simp only [if_true]
  have c2 := fun W => sz_is n k2 W
  have hn := sz_out k2
  have hm := mis_bd ho hn
  have hk := wait_is ho hn
  obtain ⟨h1, h2, h3, h4⟩ := ho
  exact whn_y p n (min n p.b) (misI p n) (waitI p n) _ hn h1 ⟨h3.1, by omega⟩ h4 rfl (by omega) rfl hm rfl ⟨hk.1, hk.2.1⟩ rfl c1 c2 w

theorem rwhn_is (p : Pc) (n : Int) {q : Int} (hq : whnI p n = q) {r : Int} (hr : whnE p n = r) (w : World) : Calls Try.prog 14 #[agv (pcL p), .int .i64 n] w fun e w' => e = .returned (.tuple #[.int .i64 q, .int .i64 r]) ∧ Below w.heap.size w w' := by
  subst hq; subst hr
  unfold whnI whnE
  cases k : okB p with
  | false => simp only [Bool.false_eq_true, if_false]; exact rwhn_no p n (fun W => rchk_is p (by unfold chkE; rw [if_neg (by simp [k])]) W) w
  | true =>
  have c1 := fun W => rchk_is p (r := 0) (by unfold chkE; rw [if_pos k]) W
  have ho := ok_out k
  cases k2 : szB n with
  | false => simp only [Bool.false_eq_true, if_false, if_true]; exact rwhn_sz p n c1 (fun W => rsz_is n k2 W) w
  | true =>
  simp only [if_true]
  have c2 := fun W => rsz_is n k2 W
  have hn := sz_out k2
  have hm := mis_bd ho hn
  have hk := wait_is ho hn
  obtain ⟨h1, h2, h3, h4⟩ := ho
  by_cases hz : min n p.b * 1000000 - p.t ≤ 0
  · have h0 : misI p n = 0 := by unfold misI; omega
    rw [hk.2.2.2.1 h0, show min (p.l + 0) 1125899906842624 = p.l by omega]
    exact rwhn_z p n (min n p.b) hn h1 ⟨h3.1, by omega⟩ h4 rfl (by omega) hz c1 c2 w
  · have h0 : misI p n = min n p.b * 1000000 - p.t := by unfold misI; omega
    have e : waitI p n = (min n p.b * 1000000 - p.t + p.r - 1).tdiv p.r := by unfold waitI; rw [h0]
    rw [h0] at hm
    exact rwhn_y p n (min n p.b) _ (waitI p n) _ hn h1 ⟨h3.1, by omega⟩ h4 rfl (by omega) rfl (by omega) (by rw [IntKind.wrap_i64]; omega) (by rw [IntKind.wrap_i64]; omega) e.symm (by rw [IntKind.wrap_i64]; omega) (by omega) (by rw [IntKind.wrap_i64]; omega) rfl c1 c2 w
end Go.Proofs.Ytifgdpokmgibgaa
