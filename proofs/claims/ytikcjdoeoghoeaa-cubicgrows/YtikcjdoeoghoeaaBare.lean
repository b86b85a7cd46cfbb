/- The contract of isBare. -/
import Derived.Test.YtikcjdoeoghoeaaLeaf
namespace Go.Proofs.Ytikcjdoeoghoeaa
open Go.ChangeShapes Go.WideShapes Go.ChangeAt Go.RowKit
set_option linter.unusedVariables false


theorem or_bd (x y : Int) : I64 (bits .or .i64 x y) := by
  unfold bits I64; simp only [IntKind.wrap_i64]; omega
theorem or_zero {x y : Int} (hx : I64 x) (hy : I64 y) : bits .or .i64 x y = 0 ↔ x = 0 ∧ y = 0 := by
  unfold I64 at hx hy
  have key : ∀ z : Int, -9223372036854775808 ≤ z ∧ z ≤ 9223372036854775807 → (BitVec.ofInt 64 z = 0#64 ↔ z = 0) := by
    intro z hz
    constructor
    · intro h
      have := congrArg BitVec.toNat h
      simp [BitVec.toNat_ofInt] at this
      omega
    · rintro rfl; rfl
  have e : bits .or .i64 x y = 0 ↔ (BitVec.ofInt 64 x ||| BitVec.ofInt 64 y) = 0#64 := by
    have hbv : bits .or .i64 x y = IntKind.i64.wrap (((BitVec.ofInt 64 x ||| BitVec.ofInt 64 y : BitVec 64).toNat : Nat) : Int) := rfl
    rw [hbv, IntKind.wrap_i64]
    have hl := (BitVec.ofInt 64 x ||| BitVec.ofInt 64 y : BitVec 64).isLt
    constructor
    · intro h
      apply BitVec.eq_of_toNat_eq
      show (BitVec.ofInt 64 x ||| BitVec.ofInt 64 y : BitVec 64).toNat = 0
      generalize (BitVec.ofInt 64 x ||| BitVec.ofInt 64 y : BitVec 64).toNat = q at h hl ⊢
      omega
    · intro h
      have h' : (BitVec.ofInt 64 x ||| BitVec.ofInt 64 y : BitVec 64).toNat = 0 := by rw [h]; simp
      rw [h']; omega
  rw [e, BitVec.or_eq_zero_iff, key x hx, key y hy]
def zerB (c : Cc) : Bool := decide (c.wm = 0 ∧ c.ep = 0 ∧ c.ck = 0 ∧ c.we = 0 ∧ c.st = 0 ∧ c.md = 0 ∧ c.mr = 0 ∧ c.ma = 0 ∧ c.rd = 0 ∧ c.na = 0 ∧ c.fu = 0 ∧ c.fc = 0 ∧ c.ph = 0 ∧ c.pa = 0 ∧ c.da = 0 ∧ c.pr = 0 ∧ c.bn = 0)
/-- The numbers of a controller are ints. -/
structure CcI (c : Cc) : Prop where
  kd : I64 c.kd
  ms : I64 c.ms
  cw : I64 c.cw
  ss : I64 c.ss
  ac : I64 c.ac
  wm : I64 c.wm
  ep : I64 c.ep
  ck : I64 c.ck
  we : I64 c.we
  st : I64 c.st
  md : I64 c.md
  mr : I64 c.mr
  ma : I64 c.ma
  rd : I64 c.rd
  na : I64 c.na
  fu : I64 c.fu
  fc : I64 c.fc
  ph : I64 c.ph
  pa : I64 c.pa
  da : I64 c.da
  pr : I64 c.pr
  bn : c.bn ≤ 9223372036854775807
set_option maxRecDepth 100000 in
set_option maxHeartbeats 4000000 in
theorem bare_is (c : Cc) (hI : CcI c) {b : Bool} (hb : zerB c = b) (w : World) : Calls Try.prog 52 #[ccv c] w fun e w' => e = .returned (.bool b) ∧ Below w.heap.size w w' := by
  obtain ⟨o1, ho1⟩ : ∃ o, bits .or .i64 c.wm c.ep = o := ⟨_, rfl⟩
  obtain ⟨o2, ho2⟩ : ∃ o, bits .or .i64 o1 c.ck = o := ⟨_, rfl⟩
  obtain ⟨o3, ho3⟩ : ∃ o, bits .or .i64 o2 c.we = o := ⟨_, rfl⟩
  obtain ⟨o4, ho4⟩ : ∃ o, bits .or .i64 o3 c.st = o := ⟨_, rfl⟩
  obtain ⟨o5, ho5⟩ : ∃ o, bits .or .i64 c.md (c.bn : Int) = o := ⟨_, rfl⟩
  obtain ⟨o6, ho6⟩ : ∃ o, bits .or .i64 o5 c.mr = o := ⟨_, rfl⟩
  obtain ⟨o7, ho7⟩ : ∃ o, bits .or .i64 o6 c.ma = o := ⟨_, rfl⟩
  obtain ⟨o8, ho8⟩ : ∃ o, bits .or .i64 o7 c.rd = o := ⟨_, rfl⟩
  obtain ⟨o9, ho9⟩ : ∃ o, bits .or .i64 o8 c.na = o := ⟨_, rfl⟩
  obtain ⟨o10, ho10⟩ : ∃ o, bits .or .i64 o9 c.fu = o := ⟨_, rfl⟩
  obtain ⟨o11, ho11⟩ : ∃ o, bits .or .i64 o10 c.fc = o := ⟨_, rfl⟩
  obtain ⟨o12, ho12⟩ : ∃ o, bits .or .i64 o11 c.ph = o := ⟨_, rfl⟩
  obtain ⟨o13, ho13⟩ : ∃ o, bits .or .i64 o12 c.pa = o := ⟨_, rfl⟩
  obtain ⟨o14, ho14⟩ : ∃ o, bits .or .i64 o13 c.da = o := ⟨_, rfl⟩
  obtain ⟨o15, ho15⟩ : ∃ o, bits .or .i64 o14 c.pr = o := ⟨_, rfl⟩
  obtain ⟨o16, ho16⟩ : ∃ o, bits .or .i64 o4 o15 = o := ⟨_, rfl⟩
  have hbn : I64 (c.bn : Int) := by have := hI.bn; unfold I64; omega
  have io1 : I64 o1 := by rw [← ho1]; exact or_bd _ _
  have io2 : I64 o2 := by rw [← ho2]; exact or_bd _ _
  have io3 : I64 o3 := by rw [← ho3]; exact or_bd _ _
  have io4 : I64 o4 := by rw [← ho4]; exact or_bd _ _
  have io5 : I64 o5 := by rw [← ho5]; exact or_bd _ _
  have io6 : I64 o6 := by rw [← ho6]; exact or_bd _ _
  have io7 : I64 o7 := by rw [← ho7]; exact or_bd _ _
  have io8 : I64 o8 := by rw [← ho8]; exact or_bd _ _
  have io9 : I64 o9 := by rw [← ho9]; exact or_bd _ _
  have io10 : I64 o10 := by rw [← ho10]; exact or_bd _ _
  have io11 : I64 o11 := by rw [← ho11]; exact or_bd _ _
  have io12 : I64 o12 := by rw [← ho12]; exact or_bd _ _
  have io13 : I64 o13 := by rw [← ho13]; exact or_bd _ _
  have io14 : I64 o14 := by rw [← ho14]; exact or_bd _ _
  have io15 : I64 o15 := by rw [← ho15]; exact or_bd _ _
  have io16 : I64 o16 := by rw [← ho16]; exact or_bd _ _
  have zo1 := or_zero (x := c.wm) (y := c.ep) hI.wm hI.ep
  rw [ho1] at zo1
  have zo2 := or_zero (x := o1) (y := c.ck) io1 hI.ck
  rw [ho2] at zo2
  have zo3 := or_zero (x := o2) (y := c.we) io2 hI.we
  rw [ho3] at zo3
  have zo4 := or_zero (x := o3) (y := c.st) io3 hI.st
  rw [ho4] at zo4
  have zo5 := or_zero (x := c.md) (y := (c.bn : Int)) hI.md hbn
  rw [ho5] at zo5
  have zo6 := or_zero (x := o5) (y := c.mr) io5 hI.mr
  rw [ho6] at zo6
  have zo7 := or_zero (x := o6) (y := c.ma) io6 hI.ma
  rw [ho7] at zo7
  have zo8 := or_zero (x := o7) (y := c.rd) io7 hI.rd
  rw [ho8] at zo8
  have zo9 := or_zero (x := o8) (y := c.na) io8 hI.na
  rw [ho9] at zo9
  have zo10 := or_zero (x := o9) (y := c.fu) io9 hI.fu
  rw [ho10] at zo10
  have zo11 := or_zero (x := o10) (y := c.fc) io10 hI.fc
  rw [ho11] at zo11
  have zo12 := or_zero (x := o11) (y := c.ph) io11 hI.ph
  rw [ho12] at zo12
  have zo13 := or_zero (x := o12) (y := c.pa) io12 hI.pa
  rw [ho13] at zo13
  have zo14 := or_zero (x := o13) (y := c.da) io13 hI.da
  rw [ho14] at zo14
  have zo15 := or_zero (x := o14) (y := c.pr) io14 hI.pr
  rw [ho15] at zo15
  have zo16 := or_zero (x := o4) (y := o15) io4 io15
  rw [ho16] at zo16
  have hz : (o16 == 0) = b := by
    rw [← hb, Bool.eq_iff_iff]; unfold zerB
    simp only [beq_iff_eq, decide_eq_true_eq]
    have hn : ((c.bn : Int) = 0) ↔ c.bn = 0 := by omega
    rw [zo16, zo15, zo14, zo13, zo12, zo11, zo10, zo9, zo8, zo7, zo6, zo5, zo4, zo3, zo2, zo1, hn]
    constructor
    · rintro ⟨⟨⟨⟨⟨h1, h2⟩, h3⟩, h4⟩, h5⟩, ⟨⟨⟨⟨⟨⟨⟨⟨⟨⟨⟨h6, h7⟩, h8⟩, h9⟩, h10⟩, h11⟩, h12⟩, h13⟩, h14⟩, h15⟩, h16⟩, h17⟩⟩
      exact ⟨h1, h2, h3, h4, h5, h6, h8, h9, h10, h11, h12, h13, h14, h15, h16, h17, h7⟩
    · rintro ⟨h1, h2, h3, h4, h5, h6, h8, h9, h10, h11, h12, h13, h14, h15, h16, h17, h7⟩
      exact ⟨⟨⟨⟨⟨h1, h2⟩, h3⟩, h4⟩, h5⟩, ⟨⟨⟨⟨⟨⟨⟨⟨⟨⟨⟨h6, h7⟩, h8⟩, h9⟩, h10⟩, h11⟩, h12⟩, h13⟩, h14⟩, h15⟩, h16⟩, h17⟩⟩
  clear zo1 io1 zo2 io2 zo3 io3 zo4 io4 zo5 io5 zo6 io6 zo7 io7 zo8 io8 zo9 io9 zo10 io10 zo11 io11 zo12 io12 zo13 io13 zo14 io14 zo15 io15 zo16 io16 hbn hI hb
  go_enter Try.func52, Try.ntmps52
  go_wp2_with (first | (refine wpC_box rfl rfl rfl ?_))
  intro X1 p HN
  have HX1 : Hid (Below w.heap.size w X1 ∧ Box X1 p 69 (ccL c) ∧ w.heap.size ≤ p ∧ True) := by
    have hb := Below.refl w.heap.size w
    obtain ⟨hg, hb2, bn⟩ := HN.out
    have hz := hb.size
    exact ⟨Below.on hb hb2, bn, by omega, trivial⟩
  clear HN 
  have k5 := Box.cell (HX1.out.2.1) 5 rfl
  have k6 := Box.cell (HX1.out.2.1) 6 rfl
  have k7 := Box.cell (HX1.out.2.1) 7 rfl
  have k8 := Box.cell (HX1.out.2.1) 8 rfl
  have k9 := Box.cell (HX1.out.2.1) 9 rfl
  have k10 := Box.cell (HX1.out.2.1) 10 rfl
  have k11 := Box.cell (HX1.out.2.1) 11 rfl
  have k12 := Box.cell (HX1.out.2.1) 12 rfl
  have k13 := Box.cell (HX1.out.2.1) 13 rfl
  have k14 := Box.cell (HX1.out.2.1) 14 rfl
  have k15 := Box.cell (HX1.out.2.1) 15 rfl
  have k16 := Box.cell (HX1.out.2.1) 16 rfl
  have k17 := Box.cell (HX1.out.2.1) 17 rfl
  have k18 := Box.cell (HX1.out.2.1) 18 rfl
  have k19 := Box.cell (HX1.out.2.1) 19 rfl
  have k20 := Box.cell (HX1.out.2.1) 20 rfl
  have k21 := Box.cell (HX1.out.2.1) 21 rfl
  go_wp2_with fail
  go_ret
  exact ⟨rfl, HX1.out.1⟩
end Go.Proofs.Ytikcjdoeoghoeaa
