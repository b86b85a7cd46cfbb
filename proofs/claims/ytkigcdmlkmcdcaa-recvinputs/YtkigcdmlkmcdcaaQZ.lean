/- Short names. -/
import Derived.RowKit
namespace Go.Proofs.Ytkigcdmlkmcdcaa
open Go.RowKit
abbrev zR:List Value:=[.int .i64 0,.slice none 0 0,.slice none 0 0,.int .i64 0,.int .i64 0,.int .i64 0,.int .u32 0,.bool false,.bool false,.int .i64 0,.bool false,.slice none 0 0,.int .u32 0,.int .u32 0,.bool false]
abbrev zS:List Value:=[.int .i64 0,.int .i64 0,.int .u32 0,.int .u32 0,.int .i64 0,.int .i64 0,.int .i64 0,.int .i64 0,.int .i64 0,.bool false,.bool false,.int .u32 0,.int .u32 0,.slice none 0 0,.slice none 0 0]
abbrev EV:=Operand→Value
abbrev Yl (P:Program) (S:World→Prop) (ev:EV) (o:Oper) (v:Value):Prop:=∀ W,S W→(execOp ev o).run P W=.ok (.value v) W
theorem qA {α:Type} (l:List α) (i:Nat) (a:α):l.toArray.setIfInBounds i a=(l.set i a).toArray:=List.setIfInBounds_toArray ..
theorem qZ {α:Type} (x:α) (l:List α) (a:α):(x::l).set 0 a=a::l:=rfl
theorem qS {α:Type} (x:α) (l:List α) (n:Nat) (a:α):(x::l).set (n+1) a=x::l.set n a:=rfl
end Go.Proofs.Ytkigcdmlkmcdcaa
