/- Rows of spans beside boxes. -/
import Derived.Test.YtdodagpkkjpdiaaABase
import Derived.Test.YtdodagpkkjpdiaaSColl
namespace Go.Proofs.Ytdodagpkkjpdiaa
open Go.ChangeShapes Go.WideShapes Go.ChangeAt Go.RowKit Go.Shelf
set_option linter.unusedVariables false
set_option linter.unusedSimpArgs false
attribute [local go_sem] Oper.semAt_some


theorem RowT.stoB {w X : World} {B g L vc : Nat} {va : Option Addr} {l : List Tm} {t : TypeId} {cs : List Value} (h : RowT w B va L vc l) (hs : Sto w g X) (hb : Box w g t cs) (ht : t ≠ 39) : RowT X B va L vc l :=
  h.moved fun k _ hk => hs.other k (by
    rintro rfl
    rcases h.2 with ⟨e, _⟩ | ⟨g', c, cur, e, _, hh, _⟩
    · obtain ⟨o, s, e'⟩ := hk; cases e; cases e'
    · obtain ⟨o, s, e'⟩ := hk
      cases e
      cases e'
      exact Box.ne hb hh ht rfl)
end Go.Proofs.Ytdodagpkkjpdiaa
