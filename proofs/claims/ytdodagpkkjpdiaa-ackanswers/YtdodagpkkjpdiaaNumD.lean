/- What numbersMayBe asks. -/
import Derived.Test.YtdodagpkkjpdiaaLeaf
namespace Go.Proofs.Ytdodagpkkjpdiaa
open Go.ChangeShapes Go.WideShapes Go.ChangeAt Go.RowKit
set_option linter.unusedVariables false
set_option linter.unusedSimpArgs false

def finB (r : Pl.Rv) : Bool := decide (r.fin = -1) || (decide (r.s.n ≤ r.fin) && decide (r.fin ≤ 562949953421312))
def lowBb (r : Pl.Rv) : Bool := decide (0 ≤ r.s.n) && decide (r.s.n ≤ 562949953421312) && roomB r.cap r.shift && decide ((r.s.u.length : Int) ≤ r.cap) && decide ((r.s.u.length : Int) ≤ r.s.n)
def numB (r : Pl.Rv) : Bool := lowBb r && finB r && decide (0 ≤ r.edge) && decide (r.edge ≤ r.reach) && (r.dn == (r.fin == r.s.n))
theorem lowBb_iff {r : Pl.Rv} : lowBb r = true ↔ lowB r := by
  unfold lowBb lowB
  simp only [Bool.and_eq_true, decide_eq_true_iff, roomB_iff]
  omega

end Go.Proofs.Ytdodagpkkjpdiaa
