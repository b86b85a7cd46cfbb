/- What seg's calls answer, in plain numbers. -/
import Derived.WalkKit
import Derived.ProofKit
import Derived.OpenShut
import Derived.ChangeOld
namespace Go.Proofs.Ytmfbcdjedegofaa
open Go.ChangeShapes Go.WideShapes Go.ChangeAt Go.RowKit
set_option linter.unusedVariables false


def I64 (x : Int) : Prop := -9223372036854775808 ≤ x ∧ x ≤ 9223372036854775807
/-- The numbers of a want are ints. -/
def Ints (nx en ed un ms rm mo : Int) : Prop := I64 nx ∧ I64 en ∧ I64 ed ∧ I64 un ∧ I64 ms ∧ I64 rm ∧ I64 mo
/-- P9.1: may a want be? -/
def okW (nx en : Int) (cl fi : Bool) (ed un ms mo : Int) : Bool :=
  decide (0 ≤ un ∧ un ≤ nx ∧ nx ≤ en ∧ en ≤ 1125899906842624 ∧ 0 ≤ ed ∧ ed ≤ 1125899906842624 ∧ 1 ≤ ms ∧ ms ≤ 65000 ∧ 0 ≤ mo ∧ mo ≤ 1073741824 ∧ (fi = true → cl = true ∧ nx = en))
theorem ok_out {nx en : Int} {cl fi : Bool} {ed un ms mo : Int} (h : okW nx en cl fi ed un ms mo = true) : 0 ≤ un ∧ un ≤ nx ∧ nx ≤ en ∧ en ≤ 1125899906842624 ∧ 0 ≤ ed ∧ ed ≤ 1125899906842624 ∧ 1 ≤ ms ∧ ms ≤ 65000 ∧ 0 ≤ mo ∧ mo ≤ 1073741824 ∧ (fi = true → cl = true ∧ nx = en) := of_decide_eq_true h
def chkI (nx en : Int) (cl fi : Bool) (ed un ms mo : Int) : Int := if okW nx en cl fi ed un ms mo = true then 0 else 2
def useI (nx en : Int) (cl fi : Bool) (ed un ms mo : Int) : Int := if okW nx en cl fi ed un ms mo = true then max 0 (ed - nx) else 0
/-- Do m bytes go? -/
def worthB (nx en : Int) (cl : Bool) (un ms mo : Int) (na : Bool) (m : Int) : Bool :=
  decide (m = ms ∨ (m = en - nx ∧ (cl = true ∨ na = false ∨ un = nx)) ∨ (mo ≤ 2 * m ∧ (na = false ∨ un = nx)))
structure Ct where
  f : Int
  t : Int
  n : Bool
  p : Bool
def zC : Ct := ⟨0, 0, false, false⟩
def leastI (nx en ed ms : Int) : Int := min (min (en - nx) ms) (max 0 (ed - nx))
/-- The end alone, or nothing. -/
def endG (nx ed : Int) (cl fo : Bool) : Bool := decide (cl = true ∧ (fo = true ∨ nx < ed))
def newG (nx en : Int) (cl : Bool) (ed un ms rm mo : Int) (na : Bool) : Bool :=
  decide (leastI nx en ed ms ≠ 0 ∧ leastI nx en ed ms ≤ rm) && worthB nx en cl un ms mo na (leastI nx en ed ms)
def newC (nx en : Int) (cl : Bool) (ed ms m : Int) : Ct := ⟨nx, nx + m, decide (cl = true ∧ m = en - nx ∧ m < max 0 (ed - nx)), decide (nx + m = en)⟩
/-- P9.2: whether a segment goes. -/
def nextG (nx en : Int) (cl fi : Bool) (ed un ms rm mo : Int) (na fo : Bool) : Bool :=
  if okW nx en cl fi ed un ms mo = true then
    if fi = true then false
    else if nx = en then endG nx ed cl fo
    else if fo = true then true
    else newG nx en cl ed un ms rm mo na
  else false
/-- .. and which. -/
def nextC (nx en : Int) (cl fi : Bool) (ed un ms rm mo : Int) (na fo : Bool) : Ct :=
  if nextG nx en cl fi ed un ms rm mo na fo = true then
    if nx = en then ⟨nx, nx, true, false⟩
    else if fo = true then ⟨nx, nx + 1, false, decide (nx + 1 = en)⟩
    else newC nx en cl ed ms (leastI nx en ed ms)
  else zC
end Go.Proofs.Ytmfbcdjedegofaa
