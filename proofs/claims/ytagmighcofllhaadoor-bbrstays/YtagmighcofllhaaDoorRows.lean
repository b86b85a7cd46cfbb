/-
  NARROWER THAN 'FOR EVERY INPUT', by the rows' own cells (each row's printed sentence says how): BbrMoves: laid · BbrFalls: laid · BbrStays: laid · BbrSteady: laid · BbrProbes: laid.
  DERIVED. THE GIVEN ROWS OF THIS SEAT. 5 by the template 'for every input the law returns true; each argument reads behind the call as it read before'; 0 by the template 'total and deterministic' (their statements: YtagmighcofllhaaDoorTotals.lean).
  GIVEN WITH THE SEED: the statements are not yours to turn. If you find one false, say at which input.
  Laid BY PROGRAM, IN A SANDBOX (cutbox-rows.mjs): the forced cells as the released guide's own fill.sh prints them over the translation ea97f1675adf1b6f… (all of the seat's roots in one cut). By AI agents, Wed Nov 11 2026. No macro, syntax, notation, axiom, sorry.
-/
import Derived.Test.YtagmighcofllhaaDoorChecked
import GoSem.Claim
import GoSem.ClaimJoined
import GoSem.ClaimMapViews
import Derived.JoinedTies
import Derived.KernelRfl
namespace Go.Proofs.YtagmighcofllhaaDoor
/- THE CELL 'sum', in the pinned program and in every row, IS THE sha256 OF THE DUMP (.gsa) THAT YtagmighcofllhaaDoorProg.lean LOADS. Nothing in Lean hashes anything: it is a label: what it is worth is what the hold of that sum in a sandbox is worth. -/
noncomputable def Tryd.pinned : Pinned := { name := "ytagmighcofllhaadoor", sum := "ea97f1675adf1b6f99610575fa2d0ffe981554252548f0914cd4079b763bae96", checked := Tryd.checked }
namespace Rows
def none {H : Type} : Left H := { results := [], args := [] }

/- WHAT THE LISTED PACKAGE-LEVEL VARIABLES READ AS WHEN THE CALL BEGINS. Each datum BY PROGRAM (the guide's laid-datum.mjs) off the statement by which the dump's own 'gosem.cut.vars' lays the variable. In a bare row this is a premise. The card (YtagmighcofllhaaDoorCards.lean) ties it to the program's text. -/
def laid_tideway_bbr_phaseGains {H : Type} : DataW H := .agg [.lit (.int .i64 125), .lit (.int .i64 75), .lit (.int .i64 100), .lit (.int .i64 100), .lit (.int .i64 100), .lit (.int .i64 100), .lit (.int .i64 100), .lit (.int .i64 100)]

/-- 'tidewaylaw18.BbrMoves': WHATEVER THE INPUT: true; the input reads as it did. -/
def bbrMovesSpec : ChangeSpec := { name := "bbrMoves", fn := fun _ => fun
  | [d1, d2] => { results := [.lit (.bool true)], args := [d1, d2] }
  | _ => none }
def bbrMovesRow : OpenClaim := { program := "ytagmighcofllhaadoor", sum := "ea97f1675adf1b6f99610575fa2d0ffe981554252548f0914cd4079b763bae96", func := "tideway/tidewaylaw18.BbrMoves", spec := "bbrMoves", unfollowed := true, recurses := true, named := ["math/bits.divideError", "math/bits.overflowError", "tideway/bbr.phaseGains"], apart := false, laid := [("tideway/bbr.phaseGains", laid_tideway_bbr_phaseGains)] }
def BbrMovesSaid : Prop := bbrMovesRow.holds Tryd.pinned (OpenSpec.ofChange bbrMovesSpec)

/-- ITS FALSE NEIGHBOUR: 'it returns false'. Refute it at one input. -/
def bbrMovesWrong : ChangeSpec := { name := "bbrMoves", fn := fun _ => fun
  | [d1, d2] => { results := [.lit (.bool false)], args := [d1, d2] }
  | _ => none }
def BbrMovesWrongFalsely : Prop := bbrMovesRow.holds Tryd.pinned (OpenSpec.ofChange bbrMovesWrong)

/-- 'tidewaylaw18.BbrFalls': WHATEVER THE INPUT: true; the input reads as it did. -/
def bbrFallsSpec : ChangeSpec := { name := "bbrFalls", fn := fun _ => fun
  | [d1, d2, d3] => { results := [.lit (.bool true)], args := [d1, d2, d3] }
  | _ => none }
def bbrFallsRow : OpenClaim := { program := "ytagmighcofllhaadoor", sum := "ea97f1675adf1b6f99610575fa2d0ffe981554252548f0914cd4079b763bae96", func := "tideway/tidewaylaw18.BbrFalls", spec := "bbrFalls", unfollowed := true, recurses := true, named := ["math/bits.divideError", "math/bits.overflowError", "tideway/bbr.phaseGains"], apart := false, laid := [("tideway/bbr.phaseGains", laid_tideway_bbr_phaseGains)] }
def BbrFallsSaid : Prop := bbrFallsRow.holds Tryd.pinned (OpenSpec.ofChange bbrFallsSpec)

/-- ITS FALSE NEIGHBOUR: 'it returns false'. Refute it at one input. -/
def bbrFallsWrong : ChangeSpec := { name := "bbrFalls", fn := fun _ => fun
  | [d1, d2, d3] => { results := [.lit (.bool false)], args := [d1, d2, d3] }
  | _ => none }
def BbrFallsWrongFalsely : Prop := bbrFallsRow.holds Tryd.pinned (OpenSpec.ofChange bbrFallsWrong)

/-- 'tidewaylaw18.BbrStays': WHATEVER THE INPUT: true; the input reads as it did. -/
def bbrStaysSpec : ChangeSpec := { name := "bbrStays", fn := fun _ => fun
  | [d1, d2, d3] => { results := [.lit (.bool true)], args := [d1, d2, d3] }
  | _ => none }
def bbrStaysRow : OpenClaim := { program := "ytagmighcofllhaadoor", sum := "ea97f1675adf1b6f99610575fa2d0ffe981554252548f0914cd4079b763bae96", func := "tideway/tidewaylaw18.BbrStays", spec := "bbrStays", unfollowed := true, recurses := true, named := ["math/bits.divideError", "math/bits.overflowError", "tideway/bbr.phaseGains"], apart := false, laid := [("tideway/bbr.phaseGains", laid_tideway_bbr_phaseGains)] }
def BbrStaysSaid : Prop := bbrStaysRow.holds Tryd.pinned (OpenSpec.ofChange bbrStaysSpec)

/-- ITS FALSE NEIGHBOUR: 'it returns false'. Refute it at one input. -/
def bbrStaysWrong : ChangeSpec := { name := "bbrStays", fn := fun _ => fun
  | [d1, d2, d3] => { results := [.lit (.bool false)], args := [d1, d2, d3] }
  | _ => none }
def BbrStaysWrongFalsely : Prop := bbrStaysRow.holds Tryd.pinned (OpenSpec.ofChange bbrStaysWrong)

/-- 'tidewaylaw18.BbrSteady': WHATEVER THE INPUT: true; the input reads as it did. -/
def bbrSteadySpec : ChangeSpec := { name := "bbrSteady", fn := fun _ => fun
  | [d1, d2, d3] => { results := [.lit (.bool true)], args := [d1, d2, d3] }
  | _ => none }
def bbrSteadyRow : OpenClaim := { program := "ytagmighcofllhaadoor", sum := "ea97f1675adf1b6f99610575fa2d0ffe981554252548f0914cd4079b763bae96", func := "tideway/tidewaylaw18.BbrSteady", spec := "bbrSteady", unfollowed := true, recurses := true, named := ["math/bits.divideError", "math/bits.overflowError", "tideway/bbr.phaseGains"], apart := false, laid := [("tideway/bbr.phaseGains", laid_tideway_bbr_phaseGains)] }
def BbrSteadySaid : Prop := bbrSteadyRow.holds Tryd.pinned (OpenSpec.ofChange bbrSteadySpec)

/-- ITS FALSE NEIGHBOUR: 'it returns false'. Refute it at one input. -/
def bbrSteadyWrong : ChangeSpec := { name := "bbrSteady", fn := fun _ => fun
  | [d1, d2, d3] => { results := [.lit (.bool false)], args := [d1, d2, d3] }
  | _ => none }
def BbrSteadyWrongFalsely : Prop := bbrSteadyRow.holds Tryd.pinned (OpenSpec.ofChange bbrSteadyWrong)

/-- 'tidewaylaw18.BbrProbes': WHATEVER THE INPUT: true; the input reads as it did. -/
def bbrProbesSpec : ChangeSpec := { name := "bbrProbes", fn := fun _ => fun
  | [d1, d2] => { results := [.lit (.bool true)], args := [d1, d2] }
  | _ => none }
def bbrProbesRow : OpenClaim := { program := "ytagmighcofllhaadoor", sum := "ea97f1675adf1b6f99610575fa2d0ffe981554252548f0914cd4079b763bae96", func := "tideway/tidewaylaw18.BbrProbes", spec := "bbrProbes", unfollowed := true, recurses := true, named := ["math/bits.divideError", "math/bits.overflowError", "tideway/bbr.phaseGains"], apart := false, laid := [("tideway/bbr.phaseGains", laid_tideway_bbr_phaseGains)] }
def BbrProbesSaid : Prop := bbrProbesRow.holds Tryd.pinned (OpenSpec.ofChange bbrProbesSpec)

/-- ITS FALSE NEIGHBOUR: 'it returns false'. Refute it at one input. -/
def bbrProbesWrong : ChangeSpec := { name := "bbrProbes", fn := fun _ => fun
  | [d1, d2] => { results := [.lit (.bool false)], args := [d1, d2] }
  | _ => none }
def BbrProbesWrongFalsely : Prop := bbrProbesRow.holds Tryd.pinned (OpenSpec.ofChange bbrProbesWrong)

/- THE SECOND FORM. 'bulk': how many values and letters a reading holds, each counted each time it is reached (what is shared counts as often as it is met; a slice's spare places count too). A statement '..UptoSaid' is the law's where the arguments, and the package variables that the reading takes, are together of bulk at most 1048576: NARROWER than '..Said'. Prove '..Said' where nothing that the law and all that it calls make is longer than what came in: it says more and counts as full. Else prove '..UptoSaid'. A law counts once. -/
mutual
def uptoBulk {H : Type} : DataW H → Nat
  | .lit (.string bytes) => bytes.length + 1
  | .lit _ => 1
  | .nil => 1
  | .ptr d => uptoBulk d + 1
  | .slice elems spare => uptoBulkAll elems + uptoBulkAll spare + 1
  | .agg parts => uptoBulkAll parts + 1
  | .iface _ d => uptoBulk d + 1
  | .map entries => uptoBulkEntries entries + 1
  | .held _ => 1
def uptoBulkAll {H : Type} : List (DataW H) → Nat
  | [] => 0
  | d :: r => uptoBulk d + uptoBulkAll r
def uptoBulkEntries {H : Type} : List (Lit × DataW H) → Nat
  | [] => 0
  | x :: r => uptoBulkEntry x + uptoBulkEntries r
def uptoBulkEntry {H : Type} : Lit × DataW H → Nat
  | (.string bytes, d) => bytes.length + uptoBulk d + 1
  | (_, d) => uptoBulk d + 1
 end
def uptoSmall : (H : Type) → List (DataW H) → Bool := fun _ ds => decide (uptoBulkAll ds ≤ 1048576)
def OpenSpec.upto (s : _root_.Go.ChangeSpec) : _root_.Go.OpenSpec := { _root_.Go.OpenSpec.ofChange s with cond := some uptoSmall }

/-- 'tidewaylaw18.BbrMoves', WHERE WHAT IT READS IS OF BULK AT MOST 1048576: true; the input reads as it did. -/
def bbrMovesUptoRow : OpenClaim := { program := "ytagmighcofllhaadoor", sum := "ea97f1675adf1b6f99610575fa2d0ffe981554252548f0914cd4079b763bae96", func := "tideway/tidewaylaw18.BbrMoves", spec := "bbrMoves", unfollowed := true, recurses := true, named := ["math/bits.divideError", "math/bits.overflowError", "tideway/bbr.phaseGains"], apart := false, laid := [("tideway/bbr.phaseGains", laid_tideway_bbr_phaseGains)], narrowed := true }
def BbrMovesUptoSaid : Prop := bbrMovesUptoRow.holds Tryd.pinned (OpenSpec.upto bbrMovesSpec)

/-- 'tidewaylaw18.BbrFalls', WHERE WHAT IT READS IS OF BULK AT MOST 1048576: true; the input reads as it did. -/
def bbrFallsUptoRow : OpenClaim := { program := "ytagmighcofllhaadoor", sum := "ea97f1675adf1b6f99610575fa2d0ffe981554252548f0914cd4079b763bae96", func := "tideway/tidewaylaw18.BbrFalls", spec := "bbrFalls", unfollowed := true, recurses := true, named := ["math/bits.divideError", "math/bits.overflowError", "tideway/bbr.phaseGains"], apart := false, laid := [("tideway/bbr.phaseGains", laid_tideway_bbr_phaseGains)], narrowed := true }
def BbrFallsUptoSaid : Prop := bbrFallsUptoRow.holds Tryd.pinned (OpenSpec.upto bbrFallsSpec)

/-- 'tidewaylaw18.BbrStays', WHERE WHAT IT READS IS OF BULK AT MOST 1048576: true; the input reads as it did. -/
def bbrStaysUptoRow : OpenClaim := { program := "ytagmighcofllhaadoor", sum := "ea97f1675adf1b6f99610575fa2d0ffe981554252548f0914cd4079b763bae96", func := "tideway/tidewaylaw18.BbrStays", spec := "bbrStays", unfollowed := true, recurses := true, named := ["math/bits.divideError", "math/bits.overflowError", "tideway/bbr.phaseGains"], apart := false, laid := [("tideway/bbr.phaseGains", laid_tideway_bbr_phaseGains)], narrowed := true }
def BbrStaysUptoSaid : Prop := bbrStaysUptoRow.holds Tryd.pinned (OpenSpec.upto bbrStaysSpec)

/-- 'tidewaylaw18.BbrSteady', WHERE WHAT IT READS IS OF BULK AT MOST 1048576: true; the input reads as it did. -/
def bbrSteadyUptoRow : OpenClaim := { program := "ytagmighcofllhaadoor", sum := "ea97f1675adf1b6f99610575fa2d0ffe981554252548f0914cd4079b763bae96", func := "tideway/tidewaylaw18.BbrSteady", spec := "bbrSteady", unfollowed := true, recurses := true, named := ["math/bits.divideError", "math/bits.overflowError", "tideway/bbr.phaseGains"], apart := false, laid := [("tideway/bbr.phaseGains", laid_tideway_bbr_phaseGains)], narrowed := true }
def BbrSteadyUptoSaid : Prop := bbrSteadyUptoRow.holds Tryd.pinned (OpenSpec.upto bbrSteadySpec)

/-- 'tidewaylaw18.BbrProbes', WHERE WHAT IT READS IS OF BULK AT MOST 1048576: true; the input reads as it did. -/
def bbrProbesUptoRow : OpenClaim := { program := "ytagmighcofllhaadoor", sum := "ea97f1675adf1b6f99610575fa2d0ffe981554252548f0914cd4079b763bae96", func := "tideway/tidewaylaw18.BbrProbes", spec := "bbrProbes", unfollowed := true, recurses := true, named := ["math/bits.divideError", "math/bits.overflowError", "tideway/bbr.phaseGains"], apart := false, laid := [("tideway/bbr.phaseGains", laid_tideway_bbr_phaseGains)], narrowed := true }
def BbrProbesUptoSaid : Prop := bbrProbesUptoRow.holds Tryd.pinned (OpenSpec.upto bbrProbesSpec)

end Rows
end Go.Proofs.YtagmighcofllhaaDoor
