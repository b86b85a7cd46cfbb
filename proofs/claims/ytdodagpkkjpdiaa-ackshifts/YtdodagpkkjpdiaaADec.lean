/- A row's place as numbers. -/
import Derived.Test.YtdodagpkkjpdiaaDetg
import Derived.Test.YtdodagpkkjpdiaaARow
import Derived.Test.YtdodagpkkjpdiaaAWeigh
import Derived.Test.YtdodagpkkjpdiaaAHSame
namespace Go.Proofs.Ytdodagpkkjpdiaa
open Go.ChangeShapes Go.WideShapes Go.ChangeAt Go.RowKit Go.Shelf
set_option linter.unusedVariables false
set_option linter.unusedSimpArgs false
attribute [local go_sem] Oper.semAt_some


def decA (g f : Nat) : Option Addr := if f = 0 then none else some ⟨g, 0, none⟩
theorem row_dec {w : World} {B : Nat} {va : Option Addr} {L vc : Nat} {l : List Tm} (h : RowT w B va L vc l) : ∃ g f, va = decA g f := by
  rcases h.2 with ⟨h', _⟩ | ⟨g, c, cur, e1, _⟩
  · cases h'
    exact ⟨0, 0, rfl⟩
  · cases e1
    exact ⟨g, 1, rfl⟩
theorem box_ne {w : World} {k k' : Nat} {t t' : TypeId} {cs cs' : List Value} (h : Box w k t cs) (h' : Box w k' t' cs') (ht : t ≠ t') : k ≠ k' := by
  rintro rfl
  exact Box.ne h h' ht rfl
end Go.Proofs.Ytdodagpkkjpdiaa
