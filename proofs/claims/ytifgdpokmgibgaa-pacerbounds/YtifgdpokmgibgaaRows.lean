/-
  No cell of these rows narrows 'for every input' (looked for: loops, veiled, ifaces, maps, wideKeys, modest, calm, conditions, laid).
  DERIVED. THE GIVEN ROWS OF THIS SEAT. 5 by the template 'for every input the law returns true; each argument reads behind the call as it read before'; 0 by the template 'total and deterministic' (their statements: YtifgdpokmgibgaaTotals.lean).
  GIVEN WITH THE SEED: the statements are not yours to turn. If you find one false, say at which input.
  Laid BY PROGRAM, IN A SANDBOX (cutbox-rows.mjs): the forced cells as the released guide's own fill.sh prints them over the translation 04ef3c857a342d47… (all of the seat's roots in one cut). By AI agents, Wed Nov 11 2026. No macro, syntax, notation, axiom, sorry.
-/
import Derived.Test.YtifgdpokmgibgaaChecked
import GoSem.Claim
import GoSem.ClaimJoined
import GoSem.ClaimMapViews
import Derived.JoinedTies
import Derived.KernelRfl
namespace Go.Proofs.Ytifgdpokmgibgaa
/- THE CELL 'sum', in the pinned program and in every row, IS THE sha256 OF THE DUMP (.gsa) THAT YtifgdpokmgibgaaProg.lean LOADS. Nothing in Lean hashes anything: it is a label: what it is worth is what the hold of that sum in a sandbox is worth. -/
noncomputable def Try.pinned : Pinned := { name := "ytifgdpokmgibgaa", sum := "04ef3c857a342d470a63e3ae024d972df914dd6aff847b0330fc28ad2e692df5", checked := Try.checked }
namespace Rows
def none {H : Type} : Left H := { results := [], args := [] }

/-- 'tidewaylaw20.PacerSplit': WHATEVER THE INPUT: true; the input reads as it did. -/
def pacerSplitSpec : ChangeSpec := { name := "pacerSplit", fn := fun _ => fun
  | [d1, d2, d3] => { results := [.lit (.bool true)], args := [d1, d2, d3] }
  | _ => none }
def pacerSplitRow : OpenClaim := { program := "ytifgdpokmgibgaa", sum := "04ef3c857a342d470a63e3ae024d972df914dd6aff847b0330fc28ad2e692df5", func := "tideway/tidewaylaw20.PacerSplit", spec := "pacerSplit", named := ["math/bits.divideError", "math/bits.overflowError"], apart := false }
def PacerSplitSaid : Prop := pacerSplitRow.holds Try.pinned (OpenSpec.ofChange pacerSplitSpec)

/-- ITS FALSE NEIGHBOUR: 'it returns false'. Refute it at one input. -/
def pacerSplitWrong : ChangeSpec := { name := "pacerSplit", fn := fun _ => fun
  | [d1, d2, d3] => { results := [.lit (.bool false)], args := [d1, d2, d3] }
  | _ => none }
def PacerSplitWrongFalsely : Prop := pacerSplitRow.holds Try.pinned (OpenSpec.ofChange pacerSplitWrong)

/-- 'tidewaylaw20.PacerDoes': WHATEVER THE INPUT: true; the input reads as it did. -/
def pacerDoesSpec : ChangeSpec := { name := "pacerDoes", fn := fun _ => fun
  | [d1, d2, d3] => { results := [.lit (.bool true)], args := [d1, d2, d3] }
  | _ => none }
def pacerDoesRow : OpenClaim := { program := "ytifgdpokmgibgaa", sum := "04ef3c857a342d470a63e3ae024d972df914dd6aff847b0330fc28ad2e692df5", func := "tideway/tidewaylaw20.PacerDoes", spec := "pacerDoes", named := ["math/bits.divideError", "math/bits.overflowError"], apart := false }
def PacerDoesSaid : Prop := pacerDoesRow.holds Try.pinned (OpenSpec.ofChange pacerDoesSpec)

/-- ITS FALSE NEIGHBOUR: 'it returns false'. Refute it at one input. -/
def pacerDoesWrong : ChangeSpec := { name := "pacerDoes", fn := fun _ => fun
  | [d1, d2, d3] => { results := [.lit (.bool false)], args := [d1, d2, d3] }
  | _ => none }
def PacerDoesWrongFalsely : Prop := pacerDoesRow.holds Try.pinned (OpenSpec.ofChange pacerDoesWrong)

/-- 'tidewaylaw20.PacerBounds': WHATEVER THE INPUT: true; the input reads as it did. -/
def pacerBoundsSpec : ChangeSpec := { name := "pacerBounds", fn := fun _ => fun
  | [d1, d2, d3] => { results := [.lit (.bool true)], args := [d1, d2, d3] }
  | _ => none }
def pacerBoundsRow : OpenClaim := { program := "ytifgdpokmgibgaa", sum := "04ef3c857a342d470a63e3ae024d972df914dd6aff847b0330fc28ad2e692df5", func := "tideway/tidewaylaw20.PacerBounds", spec := "pacerBounds", named := ["math/bits.divideError", "math/bits.overflowError"], apart := false }
def PacerBoundsSaid : Prop := pacerBoundsRow.holds Try.pinned (OpenSpec.ofChange pacerBoundsSpec)

/-- ITS FALSE NEIGHBOUR: 'it returns false'. Refute it at one input. -/
def pacerBoundsWrong : ChangeSpec := { name := "pacerBounds", fn := fun _ => fun
  | [d1, d2, d3] => { results := [.lit (.bool false)], args := [d1, d2, d3] }
  | _ => none }
def PacerBoundsWrongFalsely : Prop := pacerBoundsRow.holds Try.pinned (OpenSpec.ofChange pacerBoundsWrong)

/-- 'tidewaylaw20.PacerWaits': WHATEVER THE INPUT: true; the input reads as it did. -/
def pacerWaitsSpec : ChangeSpec := { name := "pacerWaits", fn := fun _ => fun
  | [d1, d2] => { results := [.lit (.bool true)], args := [d1, d2] }
  | _ => none }
def pacerWaitsRow : OpenClaim := { program := "ytifgdpokmgibgaa", sum := "04ef3c857a342d470a63e3ae024d972df914dd6aff847b0330fc28ad2e692df5", func := "tideway/tidewaylaw20.PacerWaits", spec := "pacerWaits", named := ["math/bits.divideError", "math/bits.overflowError"], apart := false }
def PacerWaitsSaid : Prop := pacerWaitsRow.holds Try.pinned (OpenSpec.ofChange pacerWaitsSpec)

/-- ITS FALSE NEIGHBOUR: 'it returns false'. Refute it at one input. -/
def pacerWaitsWrong : ChangeSpec := { name := "pacerWaits", fn := fun _ => fun
  | [d1, d2] => { results := [.lit (.bool false)], args := [d1, d2] }
  | _ => none }
def PacerWaitsWrongFalsely : Prop := pacerWaitsRow.holds Try.pinned (OpenSpec.ofChange pacerWaitsWrong)

/-- 'tidewaylaw20.PacerFull': WHATEVER THE INPUT: true; the input reads as it did. -/
def pacerFullSpec : ChangeSpec := { name := "pacerFull", fn := fun _ => fun
  | [d1, d2] => { results := [.lit (.bool true)], args := [d1, d2] }
  | _ => none }
def pacerFullRow : OpenClaim := { program := "ytifgdpokmgibgaa", sum := "04ef3c857a342d470a63e3ae024d972df914dd6aff847b0330fc28ad2e692df5", func := "tideway/tidewaylaw20.PacerFull", spec := "pacerFull", named := ["math/bits.divideError", "math/bits.overflowError"], apart := false }
def PacerFullSaid : Prop := pacerFullRow.holds Try.pinned (OpenSpec.ofChange pacerFullSpec)

/-- ITS FALSE NEIGHBOUR: 'it returns false'. Refute it at one input. -/
def pacerFullWrong : ChangeSpec := { name := "pacerFull", fn := fun _ => fun
  | [d1, d2] => { results := [.lit (.bool false)], args := [d1, d2] }
  | _ => none }
def PacerFullWrongFalsely : Prop := pacerFullRow.holds Try.pinned (OpenSpec.ofChange pacerFullWrong)

/- THE SECOND FORM. 'bulk': how many values and letters a reading holds, each counted each time it is reached (what is shared counts as often as it is met; a slice's spare places count too). A statement '..UptoSaid' is the law's where the arguments, and the package variables that the reading takes, are together of bulk at most 1048576: NARROWER than '..Said'. Prove '..Said' where nothing that the law and all that it calls make is longer than what came in: it says more and counts as full. Else prove '..UptoSaid'. A law counts once. -/
mutual
def uptoBulk {H : Type} : DataW H → Nat
  | .lit (.string bytes) => bytes.length + 1
  | .lit _ => 1
  | .nil => 1
  | .ptr d => uptoBulk d + 1
  | .slice elems spare => uptoBulkAll elems + uptoBulkAll spare + 1
  | .agg parts => uptoBulkAll parts + 1
  | .iface _ d => uptoBulk d + 1
  | .map entries => uptoBulkEntries entries + 1
  | .held _ => 1
def uptoBulkAll {H : Type} : List (DataW H) → Nat
  | [] => 0
  | d :: r => uptoBulk d + uptoBulkAll r
def uptoBulkEntries {H : Type} : List (Lit × DataW H) → Nat
  | [] => 0
  | x :: r => uptoBulkEntry x + uptoBulkEntries r
def uptoBulkEntry {H : Type} : Lit × DataW H → Nat
  | (.string bytes, d) => bytes.length + uptoBulk d + 1
  | (_, d) => uptoBulk d + 1
 end
def uptoSmall : (H : Type) → List (DataW H) → Bool := fun _ ds => decide (uptoBulkAll ds ≤ 1048576)
def OpenSpec.upto (s : _root_.Go.ChangeSpec) : _root_.Go.OpenSpec := { _root_.Go.OpenSpec.ofChange s with cond := some uptoSmall }

/-- 'tidewaylaw20.PacerSplit', WHERE WHAT IT READS IS OF BULK AT MOST 1048576: true; the input reads as it did. -/
def pacerSplitUptoRow : OpenClaim := { program := "ytifgdpokmgibgaa", sum := "04ef3c857a342d470a63e3ae024d972df914dd6aff847b0330fc28ad2e692df5", func := "tideway/tidewaylaw20.PacerSplit", spec := "pacerSplit", named := ["math/bits.divideError", "math/bits.overflowError"], apart := false, narrowed := true }
def PacerSplitUptoSaid : Prop := pacerSplitUptoRow.holds Try.pinned (OpenSpec.upto pacerSplitSpec)

/-- 'tidewaylaw20.PacerDoes', WHERE WHAT IT READS IS OF BULK AT MOST 1048576: true; the input reads as it did. -/
def pacerDoesUptoRow : OpenClaim := { program := "ytifgdpokmgibgaa", sum := "04ef3c857a342d470a63e3ae024d972df914dd6aff847b0330fc28ad2e692df5", func := "tideway/tidewaylaw20.PacerDoes", spec := "pacerDoes", named := ["math/bits.divideError", "math/bits.overflowError"], apart := false, narrowed := true }
def PacerDoesUptoSaid : Prop := pacerDoesUptoRow.holds Try.pinned (OpenSpec.upto pacerDoesSpec)

/-- 'tidewaylaw20.PacerBounds', WHERE WHAT IT READS IS OF BULK AT MOST 1048576: true; the input reads as it did. -/
def pacerBoundsUptoRow : OpenClaim := { program := "ytifgdpokmgibgaa", sum := "04ef3c857a342d470a63e3ae024d972df914dd6aff847b0330fc28ad2e692df5", func := "tideway/tidewaylaw20.PacerBounds", spec := "pacerBounds", named := ["math/bits.divideError", "math/bits.overflowError"], apart := false, narrowed := true }
def PacerBoundsUptoSaid : Prop := pacerBoundsUptoRow.holds Try.pinned (OpenSpec.upto pacerBoundsSpec)

/-- 'tidewaylaw20.PacerWaits', WHERE WHAT IT READS IS OF BULK AT MOST 1048576: true; the input reads as it did. -/
def pacerWaitsUptoRow : OpenClaim := { program := "ytifgdpokmgibgaa", sum := "04ef3c857a342d470a63e3ae024d972df914dd6aff847b0330fc28ad2e692df5", func := "tideway/tidewaylaw20.PacerWaits", spec := "pacerWaits", named := ["math/bits.divideError", "math/bits.overflowError"], apart := false, narrowed := true }
def PacerWaitsUptoSaid : Prop := pacerWaitsUptoRow.holds Try.pinned (OpenSpec.upto pacerWaitsSpec)

/-- 'tidewaylaw20.PacerFull', WHERE WHAT IT READS IS OF BULK AT MOST 1048576: true; the input reads as it did. -/
def pacerFullUptoRow : OpenClaim := { program := "ytifgdpokmgibgaa", sum := "04ef3c857a342d470a63e3ae024d972df914dd6aff847b0330fc28ad2e692df5", func := "tideway/tidewaylaw20.PacerFull", spec := "pacerFull", named := ["math/bits.divideError", "math/bits.overflowError"], apart := false, narrowed := true }
def PacerFullUptoSaid : Prop := pacerFullUptoRow.holds Try.pinned (OpenSpec.upto pacerFullSpec)

end Rows
end Go.Proofs.Ytifgdpokmgibgaa
