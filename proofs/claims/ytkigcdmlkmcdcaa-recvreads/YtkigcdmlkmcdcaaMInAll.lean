/- Input's contract in one, for a receiver that may be; and the document's comparison of bytes. -/
import Derived.Test.YtkigcdmlkmcdcaaZ
import Derived.Test.YtkigcdmlkmcdcaaGS
namespace Go.Proofs.Ytkigcdmlkmcdcaa
open Go.ChangeShapes Go.WideShapes Go.ChangeAt Go.RowKit
set_option linter.unusedVariables false
set_option linter.unusedSimpArgs false

theorem RvOwn.atOk {w : World} {B : Nat} {R : Pl.Rv} {k : Hd} (hO : RvOwn w B R k) (hro : R.Ok) (h1 : U32 R.recent) (h2 : U32 R.irs) (h3 : U32 R.own) : RvAt w R k := by
 refine hO.lies ?_ ?_ ?_ ?_ h1 ?_ h2 h3
 · have := hro.n0; have := hro.nf; simp only [Pl.farI] at *; unfold I64; omega
 · have := hro.c1; have := hro.cm; unfold I64; omega
 · have := hro.s0; have := hro.s14; unfold I64; omega
 · have := hro.e0; have := hro.er; have h2 : R.reach = R.s.bot + R.cap := rfl; have h3 : R.s.bot = R.s.n - (R.s.u.length : Int) := rfl; have := hro.nf; have := hro.cm; simp only [Pl.farI] at *; unfold I64; omega
 · have := hro.f1; have := hro.ff; simp only [Pl.farI] at *; unfold I64; omega
theorem zep (a b : Option Addr) (c d : Nat) (xs ys : List Int) (w : World) (ha : zak w a xs) (hb : zak w b ys) :
 Calls Try.prog 21 #[.slice a xs.length c, .slice b ys.length d] w fun e w' => e = .returned (.bool (decide (xs = ys))) ∧ w' = w := by
 have k1 := zg1 a c xs w ha
 have k2 := zg1 b d ys w hb
 have hi := str_inj ha.2.1 hb.2.1
 clear ha hb
 go_enter Try.func21, Try.ntmps21
 go_wp2
 go_ret
 exact ⟨rfl, rfl⟩
end Go.Proofs.Ytkigcdmlkmcdcaa

