/- What cubic's calls answer, in plain numbers. -/
import Derived.Test.YtikcjdoeoghoeaaAll
import Derived.Test.YtikcjdoeoghoeaaSRoot
namespace Go.Proofs.Ytikcjdoeoghoeaa
open Go.ChangeShapes Go.WideShapes Go.ChangeAt Go.RowKit
set_option linter.unusedVariables false


def tmB (n : Int) : Bool := decide (0 ≤ n ∧ n ≤ 1125899906842624)
/-- What Reno would know of it. -/
def asR (c : Cc) : Cc := { c with kd := 1, wm := 0, ep := 0, ck := 0, we := 0, st := 0 }
/-- Without a row. -/
def bare (c : Cc) : Cc := { c with ba := none, bn := 0, bc := 0 }
/-- What all controllers have. -/
def ComK (c : Cc) : Prop := (1 ≤ c.ms ∧ c.ms ≤ 65000) ∧ (c.ms ≤ c.cw ∧ c.cw ≤ 1073741824) ∧ (2 * c.ms ≤ c.ss ∧ c.ss ≤ 1073741824) ∧ 0 ≤ c.ac ∧ c.ac ≤ 1073741824
/-- CUBIC's own numbers. -/
def CubK (c : Cc) : Prop := (0 ≤ c.wm ∧ c.wm ≤ 1073741824) ∧ (0 ≤ c.we ∧ c.we ≤ 1073741824) ∧ (0 ≤ c.st ∧ c.st ≤ 1073741824) ∧ (0 ≤ c.ck ∧ c.ck ≤ 2097151) ∧ -1 ≤ c.ep ∧ c.ep ≤ 1125899906842624
def BbrK (c : Cc) : Prop := c.md = 0 ∧ c.bn = 0 ∧ c.mr = 0 ∧ c.ma = 0 ∧ c.rd = 0 ∧ c.na = 0 ∧ c.fu = 0 ∧ c.fc = 0 ∧ c.ph = 0 ∧ c.pa = 0 ∧ c.da = 0 ∧ c.pr = 0
def comB (c : Cc) : Bool := decide ((1 ≤ c.ms ∧ c.ms ≤ 65000) ∧ (c.ms ≤ c.cw ∧ c.cw ≤ 1073741824) ∧ (2 * c.ms ≤ c.ss ∧ c.ss ≤ 1073741824) ∧ 0 ≤ c.ac ∧ c.ac ≤ 1073741824)
def cubB (c : Cc) : Bool := decide ((0 ≤ c.wm ∧ c.wm ≤ 1073741824) ∧ (0 ≤ c.we ∧ c.we ≤ 1073741824) ∧ (0 ≤ c.st ∧ c.st ≤ 1073741824) ∧ (0 ≤ c.ck ∧ c.ck ≤ 2097151) ∧ -1 ≤ c.ep ∧ c.ep ≤ 1125899906842624)
def bbrB (c : Cc) : Bool := decide (c.md = 0 ∧ c.bn = 0 ∧ c.mr = 0 ∧ c.ma = 0 ∧ c.rd = 0 ∧ c.na = 0 ∧ c.fu = 0 ∧ c.fc = 0 ∧ c.ph = 0 ∧ c.pa = 0 ∧ c.da = 0 ∧ c.pr = 0)
/-- P16.1: may it be? -/
def kOk (c : Cc) : Bool := decide (c.kd = 2) && cubB c && comB c && bbrB c
theorem kok_out {c : Cc} (k : kOk c = true) : c.kd = 2 ∧ CubK c ∧ ComK c ∧ BbrK c := by
  unfold kOk at k
  simp only [Bool.and_eq_true, decide_eq_true_eq] at k
  obtain ⟨⟨⟨h1, h2⟩, h3⟩, h4⟩ := k
  unfold cubB at h2; unfold comB at h3; unfold bbrB at h4
  have h2 := of_decide_eq_true h2
  have h3 := of_decide_eq_true h3
  have h4 := of_decide_eq_true h4
  exact ⟨h1, h2, h3, h4⟩
theorem kok_in {c : Cc} (k : c.kd = 2 ∧ CubK c ∧ ComK c ∧ BbrK c) : kOk c = true := by
  unfold kOk
  simp only [Bool.and_eq_true, decide_eq_true_eq]
  exact ⟨⟨⟨k.1, by unfold cubB; exact decide_eq_true k.2.1⟩, by unfold comB; exact decide_eq_true k.2.2.1⟩, by unfold bbrB; exact decide_eq_true k.2.2.2⟩
theorem asr_ok (c : Cc) : okB (asR c) = (comB c && bbrB c) := by
  rw [Bool.eq_iff_iff]
  unfold okB fitB zerB asR comB bbrB
  simp only [Bool.and_eq_true, decide_eq_true_eq]
  constructor
  · rintro ⟨⟨_, h1⟩, h2⟩
    obtain ⟨_, _, _, _, _, a1, a2, a3, a4, a5, a6, a7, a8, a9, a10, a11, a12⟩ := h2
    exact ⟨by omega, a1, a12, a2, a3, a4, a5, a6, a7, a8, a9, a10, a11⟩
  · rintro ⟨h1, a1, a12, a2, a3, a4, a5, a6, a7, a8, a9, a10, a11⟩
    exact ⟨⟨trivial, by omega⟩, trivial, trivial, trivial, trivial, trivial, a1, a2, a3, a4, a5, a6, a7, a8, a9, a10, a11, a12⟩
theorem cci_asr {c : Cc} (h : CcI c) : CcI (asR c) := ⟨by show I64 1; unfold I64; omega, h.ms, h.cw, h.ss, h.ac, i64_0, i64_0, i64_0, i64_0, i64_0, h.md, h.mr, h.ma, h.rd, h.na, h.fu, h.fc, h.ph, h.pa, h.da, h.pr, h.bn⟩
theorem kok_cci {c : Cc} (k : kOk c = true) : CcI c := by
  obtain ⟨h1, h2, h3, h4⟩ := kok_out k
  unfold CubK at h2; unfold ComK at h3; unfold BbrK at h4
  obtain ⟨a1, a2, a3, a4, a5, a6, a7, a8, a9, a10, a11, a12⟩ := h4
  constructor <;> (try unfold I64) <;> omega
/-- P16.2. -/
def curD (k t : Int) : Int := clampI (sumI t (-k)) (-1000000) 1000000
def curA (d : Int) : Int := max d (-d)
def curV (a m : Int) : Int := mulDivI (a * a * a) (4 * m) 10000000000
def curW (d wm v : Int) : Int := clampI (if d < 0 then wm - v else wm + v) 0 1073741824
def curI (m wm k t : Int) : Int := curW (curD k t) wm (curV (curA (curD k t)) m)
def curR (c : Cc) (t : Int) : Int := if kOk c = true then curI c.ms c.wm c.ck t else 0
/-- P16.3: an epoch begins. -/
def begK (c : Cc) : Int := cbrtI (mulDivI (c.wm - c.cw) 10000000000 (4 * c.ms))
def begE (c : Cc) (now : Int) : Cc := if c.cw < c.wm then { c with ep := now, st := c.cw, we := c.cw, ck := begK c } else { c with ep := now, st := c.cw, we := c.cw, ck := 0, wm := c.cw }
def epoE (c : Cc) (now : Int) : Cc := if c.ep = -1 then begE c now else c
def timI (ep now srtt : Int) : Int := (max (now - ep) 0 + srtt) / 1000
def aimI (c : Cc) (t : Int) : Int := clampI (curI c.ms c.wm c.ck t) c.cw (c.cw + c.cw / 2)
def risI (c : Cc) (n t : Int) : Int := mulDivI (aimI c t - c.cw) n c.cw
def wesI (c : Cc) (n : Int) : Int := min (c.we + mulDivI (529 * c.ms) n (1000 * c.cw)) 1073741824
def stpE (c : Cc) (n t : Int) : Cc := { c with we := wesI c n, cw := min (max (c.cw + risI c n t) (wesI c n)) 1073741824 }
def groE (c : Cc) (n now srtt : Int) : Cc := stpE (epoE c now) n (timI (epoE c now).ep now srtt)
def ackK (c : Cc) (n now srtt : Int) (idle : Bool) : Cc := if idle = true then { c with ep := -1 } else if c.cw < c.ss then { c with cw := min (c.cw + min n c.ms) 1073741824 } else groE c n now srtt
def bgK (c : Cc) (n : Int) : Int := if kOk c = true then if szB n = true then 0 else 2 else 230
def akK (c : Cc) (n now srtt : Int) : Int := if kOk c = true then if (szB n && tmB now && tmB srtt) = true then 0 else 2 else 230
/-- P16.4. -/
def falW (c : Cc) : Int := if c.cw < c.wm then c.cw * 17 / 20 else c.cw
def falE (c : Cc) : Cc := { c with wm := falW c, ss := max (c.cw * 7 / 10) (2 * c.ms), ep := -1, ac := 0 }
def colE (c : Cc) : Cc := { falE c with cw := c.ms }
def setE (c : Cc) : Cc := { c with cw := c.ss }
end Go.Proofs.Ytikcjdoeoghoeaa
