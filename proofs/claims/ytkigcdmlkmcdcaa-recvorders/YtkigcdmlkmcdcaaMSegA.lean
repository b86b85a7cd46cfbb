/- seg in one contract: a part of a text. -/
import Derived.Test.YtkigcdmlkmcdcaaMSegW
namespace Go.Proofs.Ytkigcdmlkmcdcaa
open Go.ChangeShapes Go.WideShapes Go.ChangeAt Go.RowKit
set_option linter.unusedVariables false
set_option linter.unusedSimpArgs false

theorem fin_bit : decide (bits BinOp.and IntKind.i64 1 1 ≠ 0) = true := by decide
theorem fin_none : decide (bits BinOp.and IntKind.i64 0 1 ≠ 0) = false := by decide
/-- The segment that bears the bytes of a text from x up to t. -/
def partS (irs : Int) (ts : List Int) (x t : Nat) (f : Int) : Seg := ⟨0, 0, (irs + (x : Int)) % 4294967296, 0, f, 0, 0, -1, -1, false, true, 0, 0, [], (ts.take t).drop x⟩
theorem seg_any (irs : Int) (a : Option Addr) (c x n : Nat) (ts : List Int) (w : World) (hi : U32 irs) (ht : SlAt w a c ts) (hx : x ≤ ts.length) (hL : ts.length ≤ 200) (hn : n ≤ 200) (L : Nat) (hl : ts.length = L) :
    Calls Try.prog 25 #[.int .u32 irs, .slice a L c, .int .i64 (x : Int), .int .i64 (n : Int), .bool true] w fun e w' => ∃ (s : Seg) (ks : Hs) (t : Nat), e = .returned (.agg #[.int .i64 s.sp, .int .i64 s.dp, .int .u32 s.sq, .int .u32 s.ak, .int .i64 s.fl, .int .i64 s.wn, .int .i64 s.ur, .int .i64 s.ms, .int .i64 s.sc, .bool s.so, .bool s.st, .int .u32 s.va, .int .u32 s.ec, .slice ks.ka s.sk.length ks.kc, .slice ks.da s.da.length ks.dc]) ∧ SgAt w' s ks ∧ Pl.Part (segOf s) ts irs x t ∧ (x + n = ts.length → t = ts.length) ∧ Below w.heap.size w w' := by
  subst hl
  have hc : ts.length ≤ c := ht.2.2
  have hq : U32 ((irs + (x : Int)) % 4294967296) := by unfold U32; omega
  by_cases hlt : x + n < ts.length
  · obtain ⟨h1, h2⟩ := ht.cut2 x (x + n) (by omega) (by omega)
    refine (seg_more irs a ts.length c x n w hi hx hc hL hn hlt _ rfl).mono ?_
    rintro e w' ⟨he, hb⟩
    refine ⟨partS irs ts x (x + n) 0, ⟨none, 0, cutB a c x, c - x⟩, x + n, ?_, ?_, ?_, ?_, hb⟩
    · rw [he]
      have e1 : ((ts.take (x + n)).drop x).length = n := by rw [h2]; omega
      simp only [partS, e1]
      rfl
    · exact { blks := by simp [partS, BlksAt], data := h1.later hb, sq := hq, va := (by simp [partS, U32]), fl := (by simp [partS, I64]) }
    · have hne : ¬ x + n = ts.length := by omega
      exact { seq := rfl, xt := by omega, tl := by omega, small := hL, ds := rfl, fin := (by simp only [hne, decide_false, segOf, partS]; exact fin_none), st := rfl, val := rfl }
    · intro e; omega
  · obtain ⟨h1, h2⟩ := ht.cut2 x ts.length hx (Nat.le_refl _)
    refine (seg_last irs a ts.length c x n w hi hx hc hL hn hlt _ rfl).mono ?_
    rintro e w' ⟨he, hb⟩
    refine ⟨partS irs ts x ts.length 1, ⟨none, 0, cutB a c x, c - x⟩, ts.length, ?_, ?_, ?_, fun _ => rfl, hb⟩
    · rw [he]
      simp only [partS, h2]
      rfl
    · exact { blks := by simp [partS, BlksAt], data := h1.later hb, sq := hq, va := (by simp [partS, U32]), fl := (by simp [partS, I64]) }
    · exact { seq := rfl, xt := hx, tl := Nat.le_refl _, small := hL, ds := rfl, fin := (by simp only [decide_true, segOf, partS]; exact fin_bit), st := rfl, val := rfl }
end Go.Proofs.Ytkigcdmlkmcdcaa
