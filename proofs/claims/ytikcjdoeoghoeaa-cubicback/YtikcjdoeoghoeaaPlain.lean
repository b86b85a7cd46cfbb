/- What reno's calls answer, in plain numbers. -/
import Derived.WalkKit
import Derived.ProofKit
import Derived.OpenShut
import Derived.ChangeOld
namespace Go.Proofs.Ytikcjdoeoghoeaa
open Go.ChangeShapes Go.WideShapes Go.ChangeAt Go.RowKit
set_option linter.unusedVariables false


def I64 (x : Int) : Prop := -9223372036854775808 ≤ x ∧ x ≤ 9223372036854775807
/-- A controller: its numbers, and where its row of bandwidths lies. -/
structure Cc where
  kd : Int
  ms : Int
  cw : Int
  ss : Int
  ac : Int
  wm : Int
  ep : Int
  ck : Int
  we : Int
  st : Int
  md : Int
  ba : Option Addr
  bn : Nat
  bc : Nat
  mr : Int
  ma : Int
  rd : Int
  na : Int
  fu : Int
  fc : Int
  ph : Int
  pa : Int
  da : Int
  pr : Int

/-- Reno's: all else is zero. -/
def rn (m c s a : Int) : Cc := ⟨1, m, c, s, a, 0, 0, 0, 0, 0, 0, none, 0, 0, 0, 0, 0, 0, 0, 0, 0, 0, 0, 0⟩
def zC : Cc := ⟨0, 0, 0, 0, 0, 0, 0, 0, 0, 0, 0, none, 0, 0, 0, 0, 0, 0, 0, 0, 0, 0, 0, 0⟩
/-- The cells of a controller. -/
def ccL (c : Cc) : List Value := [(.int .i64 c.kd), (.int .i64 c.ms), (.int .i64 c.cw), (.int .i64 c.ss), (.int .i64 c.ac), (.int .i64 c.wm), (.int .i64 c.ep), (.int .i64 c.ck), (.int .i64 c.we), (.int .i64 c.st), (.int .i64 c.md), (.slice c.ba c.bn c.bc), (.int .i64 c.mr), (.int .i64 c.ma), (.int .i64 c.rd), (.int .i64 c.na), (.int .i64 c.fu), (.int .i64 c.fc), (.int .i64 c.ph), (.int .i64 c.pa), (.int .i64 c.da), (.int .i64 c.pr)]
def ccv (c : Cc) : Value := .agg (ccL c).toArray
end Go.Proofs.Ytikcjdoeoghoeaa
