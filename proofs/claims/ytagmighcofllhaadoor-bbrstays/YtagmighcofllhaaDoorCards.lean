/-
  DERIVED. GIVEN WITH THE SEED: THE CARDS: each row of YtagmighcofllhaaDoorRows.lean that lists a variable, with what it lists TIED to the program's text (the seventh form; the later family's looks); each row that meets fmt, with fmt's text TOLD by the authors' own Lean function (tested against real Go, not proved from fmt's source: count such statements apart). THE CARD IS WHAT COUNTS. Prove the row's statement (the work); the ties are given (YtagmighcofllhaaDoorTie.lean); close each card by the builder's one call (the guide's Derived/Test/ToyasCard.lean, 'card_holds'). Laid BY PROGRAM, IN A SANDBOX (cutbox-door.mjs). By AI agents, Wed Nov 11 2026. No macro, syntax, notation, axiom, sorry.
-/
import Derived.Test.YtagmighcofllhaaDoorRows
import GoSem.ClaimSeven
namespace Go.Proofs.YtagmighcofllhaaDoor
namespace Rows

/-- THE TIED CARD OF 'tidewaylaw18.BbrMoves'. -/
def bbrMovesCard : Claim7 := { stood := { row := bbrMovesRow, standIns := [], harness := (true, "b02459d8372ec45ea32ea5e86e15985e309d768729ecaad053709fb013374de3"), looks := false }, kinds := [], alts := [], laidByText := true, laidKinds := [.data], laidTests := true, laidLooks := .later }
def BbrMovesCardSaid : Prop := Claim7.holds Tryd.pinned (.plain (OpenSpec.ofChange bbrMovesSpec)) bbrMovesCard

/-- THE TIED CARD OF 'tidewaylaw18.BbrFalls'. -/
def bbrFallsCard : Claim7 := { stood := { row := bbrFallsRow, standIns := [], harness := (true, "b02459d8372ec45ea32ea5e86e15985e309d768729ecaad053709fb013374de3"), looks := false }, kinds := [], alts := [], laidByText := true, laidKinds := [.data], laidTests := true, laidLooks := .later }
def BbrFallsCardSaid : Prop := Claim7.holds Tryd.pinned (.plain (OpenSpec.ofChange bbrFallsSpec)) bbrFallsCard

/-- THE TIED CARD OF 'tidewaylaw18.BbrStays'. -/
def bbrStaysCard : Claim7 := { stood := { row := bbrStaysRow, standIns := [], harness := (true, "b02459d8372ec45ea32ea5e86e15985e309d768729ecaad053709fb013374de3"), looks := false }, kinds := [], alts := [], laidByText := true, laidKinds := [.data], laidTests := true, laidLooks := .later }
def BbrStaysCardSaid : Prop := Claim7.holds Tryd.pinned (.plain (OpenSpec.ofChange bbrStaysSpec)) bbrStaysCard

/-- THE TIED CARD OF 'tidewaylaw18.BbrSteady'. -/
def bbrSteadyCard : Claim7 := { stood := { row := bbrSteadyRow, standIns := [], harness := (true, "b02459d8372ec45ea32ea5e86e15985e309d768729ecaad053709fb013374de3"), looks := false }, kinds := [], alts := [], laidByText := true, laidKinds := [.data], laidTests := true, laidLooks := .later }
def BbrSteadyCardSaid : Prop := Claim7.holds Tryd.pinned (.plain (OpenSpec.ofChange bbrSteadySpec)) bbrSteadyCard

/-- THE TIED CARD OF 'tidewaylaw18.BbrProbes'. -/
def bbrProbesCard : Claim7 := { stood := { row := bbrProbesRow, standIns := [], harness := (true, "b02459d8372ec45ea32ea5e86e15985e309d768729ecaad053709fb013374de3"), looks := false }, kinds := [], alts := [], laidByText := true, laidKinds := [.data], laidTests := true, laidLooks := .later }
def BbrProbesCardSaid : Prop := Claim7.holds Tryd.pinned (.plain (OpenSpec.ofChange bbrProbesSpec)) bbrProbesCard

/-- THE SECOND FORM's CARD OF 'tidewaylaw18.BbrMoves'. -/
def bbrMovesUptoCard : Claim7 := { stood := { row := bbrMovesUptoRow, standIns := [], harness := (true, "b02459d8372ec45ea32ea5e86e15985e309d768729ecaad053709fb013374de3"), looks := false }, kinds := [], alts := [], laidByText := true, laidKinds := [.data], laidTests := true, laidLooks := .later }
def BbrMovesUptoCardSaid : Prop := Claim7.holds Tryd.pinned (.plain (OpenSpec.upto bbrMovesSpec)) bbrMovesUptoCard

/-- THE SECOND FORM's CARD OF 'tidewaylaw18.BbrFalls'. -/
def bbrFallsUptoCard : Claim7 := { stood := { row := bbrFallsUptoRow, standIns := [], harness := (true, "b02459d8372ec45ea32ea5e86e15985e309d768729ecaad053709fb013374de3"), looks := false }, kinds := [], alts := [], laidByText := true, laidKinds := [.data], laidTests := true, laidLooks := .later }
def BbrFallsUptoCardSaid : Prop := Claim7.holds Tryd.pinned (.plain (OpenSpec.upto bbrFallsSpec)) bbrFallsUptoCard

/-- THE SECOND FORM's CARD OF 'tidewaylaw18.BbrStays'. -/
def bbrStaysUptoCard : Claim7 := { stood := { row := bbrStaysUptoRow, standIns := [], harness := (true, "b02459d8372ec45ea32ea5e86e15985e309d768729ecaad053709fb013374de3"), looks := false }, kinds := [], alts := [], laidByText := true, laidKinds := [.data], laidTests := true, laidLooks := .later }
def BbrStaysUptoCardSaid : Prop := Claim7.holds Tryd.pinned (.plain (OpenSpec.upto bbrStaysSpec)) bbrStaysUptoCard

/-- THE SECOND FORM's CARD OF 'tidewaylaw18.BbrSteady'. -/
def bbrSteadyUptoCard : Claim7 := { stood := { row := bbrSteadyUptoRow, standIns := [], harness := (true, "b02459d8372ec45ea32ea5e86e15985e309d768729ecaad053709fb013374de3"), looks := false }, kinds := [], alts := [], laidByText := true, laidKinds := [.data], laidTests := true, laidLooks := .later }
def BbrSteadyUptoCardSaid : Prop := Claim7.holds Tryd.pinned (.plain (OpenSpec.upto bbrSteadySpec)) bbrSteadyUptoCard

/-- THE SECOND FORM's CARD OF 'tidewaylaw18.BbrProbes'. -/
def bbrProbesUptoCard : Claim7 := { stood := { row := bbrProbesUptoRow, standIns := [], harness := (true, "b02459d8372ec45ea32ea5e86e15985e309d768729ecaad053709fb013374de3"), looks := false }, kinds := [], alts := [], laidByText := true, laidKinds := [.data], laidTests := true, laidLooks := .later }
def BbrProbesUptoCardSaid : Prop := Claim7.holds Tryd.pinned (.plain (OpenSpec.upto bbrProbesSpec)) bbrProbesUptoCard
end Rows
end Go.Proofs.YtagmighcofllhaaDoor
