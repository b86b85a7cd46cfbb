/-
  NARROWER THAN 'FOR EVERY INPUT', by the rows' own cells (each row's printed sentence says how): WirePuts: laid · WireGets: laid · WireValid: laid · WireBack: laid · WireTold: laid · WireAgain: laid.
  DERIVED. THE GIVEN ROWS OF THIS SEAT. 6 by the template 'for every input the law returns true; each argument reads behind the call as it read before'; 0 by the template 'total and deterministic' (their statements: YtllmeeebjjmanaaDoorTotals.lean).
  GIVEN WITH THE SEED: the statements are not yours to turn. If you find one false, say at which input.
  Laid BY PROGRAM, IN A SANDBOX (cutbox-rows.mjs): the forced cells as the released guide's own fill.sh prints them over the translation c1e84d1b3e5c0e83… (all of the seat's roots in one cut). By AI agents, Wed Nov 11 2026. No macro, syntax, notation, axiom, sorry.
-/
import Derived.Test.YtllmeeebjjmanaaDoorChecked
import GoSem.Claim
import GoSem.ClaimJoined
import GoSem.ClaimMapViews
import Derived.JoinedTies
import Derived.KernelRfl
namespace Go.Proofs.YtllmeeebjjmanaaDoor
/- THE CELL 'sum', in the pinned program and in every row, IS THE sha256 OF THE DUMP (.gsa) THAT YtllmeeebjjmanaaDoorProg.lean LOADS. Nothing in Lean hashes anything: it is a label: what it is worth is what the hold of that sum in a sandbox is worth. -/
noncomputable def Tryd.pinned : Pinned := { name := "ytllmeeebjjmanaadoor", sum := "c1e84d1b3e5c0e83bb928d4a97fc9ec1366076555b31ac1698eecae9700c1a1c", checked := Tryd.checked }
namespace Rows
def none {H : Type} : Left H := { results := [], args := [] }

/- WHAT THE LISTED PACKAGE-LEVEL VARIABLES READ AS WHEN THE CALL BEGINS. Each datum BY PROGRAM (the guide's laid-datum.mjs) off the statement by which the dump's own 'gosem.cut.vars' lays the variable. In a bare row this is a premise. The card (YtllmeeebjjmanaaDoorCards.lean) ties it to the program's text. -/
def laid_tideway_wire_errArg {H : Type} : DataW H := .iface "*errors.errorString" (.ptr (.agg [.lit (.string [97, 32, 115, 101, 103, 109, 101, 110, 116, 32, 116, 104, 97, 116, 32, 109, 97, 121, 32, 110, 111, 116, 32, 98, 101])]))
def laid_tideway_wire_errShort {H : Type} : DataW H := .iface "*errors.errorString" (.ptr (.agg [.lit (.string [98, 121, 116, 101, 115, 32, 116, 104, 97, 116, 32, 101, 110, 100, 32, 116, 111, 111, 32, 115, 111, 111, 110])]))
def laid_tideway_wire_errSum {H : Type} : DataW H := .iface "*errors.errorString" (.ptr (.agg [.lit (.string [97, 32, 99, 104, 101, 99, 107, 115, 117, 109, 32, 116, 104, 97, 116, 32, 105, 115, 32, 119, 114, 111, 110, 103])]))

/-- 'tidewaylaw03.WirePuts': WHATEVER THE INPUT: true; the input reads as it did. -/
def wirePutsSpec : ChangeSpec := { name := "wirePuts", fn := fun _ => fun
  | [d1, d2, d3] => { results := [.lit (.bool true)], args := [d1, d2, d3] }
  | _ => none }
def wirePutsRow : OpenClaim := { program := "ytllmeeebjjmanaadoor", sum := "c1e84d1b3e5c0e83bb928d4a97fc9ec1366076555b31ac1698eecae9700c1a1c", func := "tideway/tidewaylaw03.WirePuts", spec := "wirePuts", inPlace := ["internal/reflectlite.TypeOf"], unfollowed := true, recurses := true, named := ["tideway/wire.errArg", "tideway/wire.errShort", "tideway/wire.errSum"], apart := false, laid := [("tideway/wire.errArg", laid_tideway_wire_errArg), ("tideway/wire.errShort", laid_tideway_wire_errShort), ("tideway/wire.errSum", laid_tideway_wire_errSum)] }
def WirePutsSaid : Prop := wirePutsRow.holds Tryd.pinned (OpenSpec.ofChange wirePutsSpec)

/-- ITS FALSE NEIGHBOUR: 'it returns false'. Refute it at one input. -/
def wirePutsWrong : ChangeSpec := { name := "wirePuts", fn := fun _ => fun
  | [d1, d2, d3] => { results := [.lit (.bool false)], args := [d1, d2, d3] }
  | _ => none }
def WirePutsWrongFalsely : Prop := wirePutsRow.holds Tryd.pinned (OpenSpec.ofChange wirePutsWrong)

/-- 'tidewaylaw03.WireGets': WHATEVER THE INPUT: true; the input reads as it did. -/
def wireGetsSpec : ChangeSpec := { name := "wireGets", fn := fun _ => fun
  | [d1, d2, d3] => { results := [.lit (.bool true)], args := [d1, d2, d3] }
  | _ => none }
def wireGetsRow : OpenClaim := { program := "ytllmeeebjjmanaadoor", sum := "c1e84d1b3e5c0e83bb928d4a97fc9ec1366076555b31ac1698eecae9700c1a1c", func := "tideway/tidewaylaw03.WireGets", spec := "wireGets", inPlace := ["internal/reflectlite.TypeOf"], unfollowed := true, recurses := true, named := ["tideway/wire.errArg", "tideway/wire.errShort", "tideway/wire.errSum"], apart := false, laid := [("tideway/wire.errArg", laid_tideway_wire_errArg), ("tideway/wire.errShort", laid_tideway_wire_errShort), ("tideway/wire.errSum", laid_tideway_wire_errSum)] }
def WireGetsSaid : Prop := wireGetsRow.holds Tryd.pinned (OpenSpec.ofChange wireGetsSpec)

/-- ITS FALSE NEIGHBOUR: 'it returns false'. Refute it at one input. -/
def wireGetsWrong : ChangeSpec := { name := "wireGets", fn := fun _ => fun
  | [d1, d2, d3] => { results := [.lit (.bool false)], args := [d1, d2, d3] }
  | _ => none }
def WireGetsWrongFalsely : Prop := wireGetsRow.holds Tryd.pinned (OpenSpec.ofChange wireGetsWrong)

/-- 'tidewaylaw03.WireValid': WHATEVER THE INPUT: true; the input reads as it did. -/
def wireValidSpec : ChangeSpec := { name := "wireValid", fn := fun _ => fun
  | [d1, d2, d3] => { results := [.lit (.bool true)], args := [d1, d2, d3] }
  | _ => none }
def wireValidRow : OpenClaim := { program := "ytllmeeebjjmanaadoor", sum := "c1e84d1b3e5c0e83bb928d4a97fc9ec1366076555b31ac1698eecae9700c1a1c", func := "tideway/tidewaylaw03.WireValid", spec := "wireValid", inPlace := ["internal/reflectlite.TypeOf"], unfollowed := true, recurses := true, named := ["tideway/wire.errArg", "tideway/wire.errShort", "tideway/wire.errSum"], apart := false, laid := [("tideway/wire.errArg", laid_tideway_wire_errArg), ("tideway/wire.errShort", laid_tideway_wire_errShort), ("tideway/wire.errSum", laid_tideway_wire_errSum)] }
def WireValidSaid : Prop := wireValidRow.holds Tryd.pinned (OpenSpec.ofChange wireValidSpec)

/-- ITS FALSE NEIGHBOUR: 'it returns false'. Refute it at one input. -/
def wireValidWrong : ChangeSpec := { name := "wireValid", fn := fun _ => fun
  | [d1, d2, d3] => { results := [.lit (.bool false)], args := [d1, d2, d3] }
  | _ => none }
def WireValidWrongFalsely : Prop := wireValidRow.holds Tryd.pinned (OpenSpec.ofChange wireValidWrong)

/-- 'tidewaylaw03.WireBack': WHATEVER THE INPUT: true; the input reads as it did. -/
def wireBackSpec : ChangeSpec := { name := "wireBack", fn := fun _ => fun
  | [d1, d2, d3] => { results := [.lit (.bool true)], args := [d1, d2, d3] }
  | _ => none }
def wireBackRow : OpenClaim := { program := "ytllmeeebjjmanaadoor", sum := "c1e84d1b3e5c0e83bb928d4a97fc9ec1366076555b31ac1698eecae9700c1a1c", func := "tideway/tidewaylaw03.WireBack", spec := "wireBack", inPlace := ["internal/reflectlite.TypeOf"], unfollowed := true, recurses := true, named := ["tideway/wire.errArg", "tideway/wire.errShort", "tideway/wire.errSum"], apart := false, laid := [("tideway/wire.errArg", laid_tideway_wire_errArg), ("tideway/wire.errShort", laid_tideway_wire_errShort), ("tideway/wire.errSum", laid_tideway_wire_errSum)] }
def WireBackSaid : Prop := wireBackRow.holds Tryd.pinned (OpenSpec.ofChange wireBackSpec)

/-- ITS FALSE NEIGHBOUR: 'it returns false'. Refute it at one input. -/
def wireBackWrong : ChangeSpec := { name := "wireBack", fn := fun _ => fun
  | [d1, d2, d3] => { results := [.lit (.bool false)], args := [d1, d2, d3] }
  | _ => none }
def WireBackWrongFalsely : Prop := wireBackRow.holds Tryd.pinned (OpenSpec.ofChange wireBackWrong)

/-- 'tidewaylaw03.WireTold': WHATEVER THE INPUT: true; the input reads as it did. -/
def wireToldSpec : ChangeSpec := { name := "wireTold", fn := fun _ => fun
  | [d1, d2] => { results := [.lit (.bool true)], args := [d1, d2] }
  | _ => none }
def wireToldRow : OpenClaim := { program := "ytllmeeebjjmanaadoor", sum := "c1e84d1b3e5c0e83bb928d4a97fc9ec1366076555b31ac1698eecae9700c1a1c", func := "tideway/tidewaylaw03.WireTold", spec := "wireTold", inPlace := ["internal/reflectlite.TypeOf"], unfollowed := true, recurses := true, named := ["tideway/wire.errArg", "tideway/wire.errShort", "tideway/wire.errSum"], apart := false, laid := [("tideway/wire.errArg", laid_tideway_wire_errArg), ("tideway/wire.errShort", laid_tideway_wire_errShort), ("tideway/wire.errSum", laid_tideway_wire_errSum)] }
def WireToldSaid : Prop := wireToldRow.holds Tryd.pinned (OpenSpec.ofChange wireToldSpec)

/-- ITS FALSE NEIGHBOUR: 'it returns false'. Refute it at one input. -/
def wireToldWrong : ChangeSpec := { name := "wireTold", fn := fun _ => fun
  | [d1, d2] => { results := [.lit (.bool false)], args := [d1, d2] }
  | _ => none }
def WireToldWrongFalsely : Prop := wireToldRow.holds Tryd.pinned (OpenSpec.ofChange wireToldWrong)

/-- 'tidewaylaw03.WireAgain': WHATEVER THE INPUT: true; the input reads as it did. -/
def wireAgainSpec : ChangeSpec := { name := "wireAgain", fn := fun _ => fun
  | [d] => { results := [.lit (.bool true)], args := [d] }
  | _ => none }
def wireAgainRow : OpenClaim := { program := "ytllmeeebjjmanaadoor", sum := "c1e84d1b3e5c0e83bb928d4a97fc9ec1366076555b31ac1698eecae9700c1a1c", func := "tideway/tidewaylaw03.WireAgain", spec := "wireAgain", inPlace := ["internal/reflectlite.TypeOf"], unfollowed := true, recurses := true, named := ["tideway/wire.errArg", "tideway/wire.errShort", "tideway/wire.errSum"], apart := false, laid := [("tideway/wire.errArg", laid_tideway_wire_errArg), ("tideway/wire.errShort", laid_tideway_wire_errShort), ("tideway/wire.errSum", laid_tideway_wire_errSum)] }
def WireAgainSaid : Prop := wireAgainRow.holds Tryd.pinned (OpenSpec.ofChange wireAgainSpec)

/-- ITS FALSE NEIGHBOUR: 'it returns false'. Refute it at one input. -/
def wireAgainWrong : ChangeSpec := { name := "wireAgain", fn := fun _ => fun
  | [d] => { results := [.lit (.bool false)], args := [d] }
  | _ => none }
def WireAgainWrongFalsely : Prop := wireAgainRow.holds Tryd.pinned (OpenSpec.ofChange wireAgainWrong)

/- THE SECOND FORM. 'bulk': how many values and letters a reading holds, each counted each time it is reached (what is shared counts as often as it is met; a slice's spare places count too). A statement '..UptoSaid' is the law's where the arguments, and the package variables that the reading takes, are together of bulk at most 1048576: NARROWER than '..Said'. Prove '..Said' where nothing that the law and all that it calls make is longer than what came in: it says more and counts as full. Else prove '..UptoSaid'. A law counts once. -/
mutual
def uptoBulk {H : Type} : DataW H → Nat
  | .lit (.string bytes) => bytes.length + 1
  | .lit _ => 1
  | .nil => 1
  | .ptr d => uptoBulk d + 1
  | .slice elems spare => uptoBulkAll elems + uptoBulkAll spare + 1
  | .agg parts => uptoBulkAll parts + 1
  | .iface _ d => uptoBulk d + 1
  | .map entries => uptoBulkEntries entries + 1
  | .held _ => 1
def uptoBulkAll {H : Type} : List (DataW H) → Nat
  | [] => 0
  | d :: r => uptoBulk d + uptoBulkAll r
def uptoBulkEntries {H : Type} : List (Lit × DataW H) → Nat
  | [] => 0
  | x :: r => uptoBulkEntry x + uptoBulkEntries r
def uptoBulkEntry {H : Type} : Lit × DataW H → Nat
  | (.string bytes, d) => bytes.length + uptoBulk d + 1
  | (_, d) => uptoBulk d + 1
 end
def uptoSmall : (H : Type) → List (DataW H) → Bool := fun _ ds => decide (uptoBulkAll ds ≤ 1048576)
def OpenSpec.upto (s : _root_.Go.ChangeSpec) : _root_.Go.OpenSpec := { _root_.Go.OpenSpec.ofChange s with cond := some uptoSmall }

/-- 'tidewaylaw03.WirePuts', WHERE WHAT IT READS IS OF BULK AT MOST 1048576: true; the input reads as it did. -/
def wirePutsUptoRow : OpenClaim := { program := "ytllmeeebjjmanaadoor", sum := "c1e84d1b3e5c0e83bb928d4a97fc9ec1366076555b31ac1698eecae9700c1a1c", func := "tideway/tidewaylaw03.WirePuts", spec := "wirePuts", inPlace := ["internal/reflectlite.TypeOf"], unfollowed := true, recurses := true, named := ["tideway/wire.errArg", "tideway/wire.errShort", "tideway/wire.errSum"], apart := false, laid := [("tideway/wire.errArg", laid_tideway_wire_errArg), ("tideway/wire.errShort", laid_tideway_wire_errShort), ("tideway/wire.errSum", laid_tideway_wire_errSum)], narrowed := true }
def WirePutsUptoSaid : Prop := wirePutsUptoRow.holds Tryd.pinned (OpenSpec.upto wirePutsSpec)

/-- 'tidewaylaw03.WireGets', WHERE WHAT IT READS IS OF BULK AT MOST 1048576: true; the input reads as it did. -/
def wireGetsUptoRow : OpenClaim := { program := "ytllmeeebjjmanaadoor", sum := "c1e84d1b3e5c0e83bb928d4a97fc9ec1366076555b31ac1698eecae9700c1a1c", func := "tideway/tidewaylaw03.WireGets", spec := "wireGets", inPlace := ["internal/reflectlite.TypeOf"], unfollowed := true, recurses := true, named := ["tideway/wire.errArg", "tideway/wire.errShort", "tideway/wire.errSum"], apart := false, laid := [("tideway/wire.errArg", laid_tideway_wire_errArg), ("tideway/wire.errShort", laid_tideway_wire_errShort), ("tideway/wire.errSum", laid_tideway_wire_errSum)], narrowed := true }
def WireGetsUptoSaid : Prop := wireGetsUptoRow.holds Tryd.pinned (OpenSpec.upto wireGetsSpec)

/-- 'tidewaylaw03.WireValid', WHERE WHAT IT READS IS OF BULK AT MOST 1048576: true; the input reads as it did. -/
def wireValidUptoRow : OpenClaim := { program := "ytllmeeebjjmanaadoor", sum := "c1e84d1b3e5c0e83bb928d4a97fc9ec1366076555b31ac1698eecae9700c1a1c", func := "tideway/tidewaylaw03.WireValid", spec := "wireValid", inPlace := ["internal/reflectlite.TypeOf"], unfollowed := true, recurses := true, named := ["tideway/wire.errArg", "tideway/wire.errShort", "tideway/wire.errSum"], apart := false, laid := [("tideway/wire.errArg", laid_tideway_wire_errArg), ("tideway/wire.errShort", laid_tideway_wire_errShort), ("tideway/wire.errSum", laid_tideway_wire_errSum)], narrowed := true }
def WireValidUptoSaid : Prop := wireValidUptoRow.holds Tryd.pinned (OpenSpec.upto wireValidSpec)

/-- 'tidewaylaw03.WireBack', WHERE WHAT IT READS IS OF BULK AT MOST 1048576: true; the input reads as it did. -/
def wireBackUptoRow : OpenClaim := { program := "ytllmeeebjjmanaadoor", sum := "c1e84d1b3e5c0e83bb928d4a97fc9ec1366076555b31ac1698eecae9700c1a1c", func := "tideway/tidewaylaw03.WireBack", spec := "wireBack", inPlace := ["internal/reflectlite.TypeOf"], unfollowed := true, recurses := true, named := ["tideway/wire.errArg", "tideway/wire.errShort", "tideway/wire.errSum"], apart := false, laid := [("tideway/wire.errArg", laid_tideway_wire_errArg), ("tideway/wire.errShort", laid_tideway_wire_errShort), ("tideway/wire.errSum", laid_tideway_wire_errSum)], narrowed := true }
def WireBackUptoSaid : Prop := wireBackUptoRow.holds Tryd.pinned (OpenSpec.upto wireBackSpec)

/-- 'tidewaylaw03.WireTold', WHERE WHAT IT READS IS OF BULK AT MOST 1048576: true; the input reads as it did. -/
def wireToldUptoRow : OpenClaim := { program := "ytllmeeebjjmanaadoor", sum := "c1e84d1b3e5c0e83bb928d4a97fc9ec1366076555b31ac1698eecae9700c1a1c", func := "tideway/tidewaylaw03.WireTold", spec := "wireTold", inPlace := ["internal/reflectlite.TypeOf"], unfollowed := true, recurses := true, named := ["tideway/wire.errArg", "tideway/wire.errShort", "tideway/wire.errSum"], apart := false, laid := [("tideway/wire.errArg", laid_tideway_wire_errArg), ("tideway/wire.errShort", laid_tideway_wire_errShort), ("tideway/wire.errSum", laid_tideway_wire_errSum)], narrowed := true }
def WireToldUptoSaid : Prop := wireToldUptoRow.holds Tryd.pinned (OpenSpec.upto wireToldSpec)

/-- 'tidewaylaw03.WireAgain', WHERE WHAT IT READS IS OF BULK AT MOST 1048576: true; the input reads as it did. -/
def wireAgainUptoRow : OpenClaim := { program := "ytllmeeebjjmanaadoor", sum := "c1e84d1b3e5c0e83bb928d4a97fc9ec1366076555b31ac1698eecae9700c1a1c", func := "tideway/tidewaylaw03.WireAgain", spec := "wireAgain", inPlace := ["internal/reflectlite.TypeOf"], unfollowed := true, recurses := true, named := ["tideway/wire.errArg", "tideway/wire.errShort", "tideway/wire.errSum"], apart := false, laid := [("tideway/wire.errArg", laid_tideway_wire_errArg), ("tideway/wire.errShort", laid_tideway_wire_errShort), ("tideway/wire.errSum", laid_tideway_wire_errSum)], narrowed := true }
def WireAgainUptoSaid : Prop := wireAgainUptoRow.holds Tryd.pinned (OpenSpec.upto wireAgainSpec)

end Rows
end Go.Proofs.YtllmeeebjjmanaaDoor
