/- A cut's box, behind a store beside it. -/
import Derived.Test.YtmfbcdjedegofaaBase
namespace Go.Proofs.Ytmfbcdjedegofaa
open Go.ChangeShapes Go.WideShapes Go.ChangeAt Go.RowKit
set_option linter.unusedVariables false

theorem BoxR.putAside {W : World} {g : Nat} {x0 x1 x2 x3 : Value} (h : BoxR W g x0 x1 x2 x3) (p : Nat) (hp : g ≠ p) (y0 y1 y2 y3 : Value) : BoxR ((((W.setCell ⟨p, 0, none⟩ y0).setCell ⟨p, 1, none⟩ y1).setCell ⟨p, 2, none⟩ y2).setCell ⟨p, 3, none⟩ y3) g x0 x1 x2 x3 :=
  (((h.aside ⟨p, 0, none⟩ y0 hp).aside ⟨p, 1, none⟩ y1 hp).aside ⟨p, 2, none⟩ y2 hp).aside ⟨p, 3, none⟩ y3 hp
end Go.Proofs.Ytmfbcdjedegofaa
