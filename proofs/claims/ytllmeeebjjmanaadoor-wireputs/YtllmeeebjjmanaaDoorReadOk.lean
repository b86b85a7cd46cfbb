/- The contract of wire.read: of bytes that are a segment. -/
import Derived.Test.YtllmeeebjjmanaaDoorReadZ
import Derived.Test.YtllmeeebjjmanaaDoorReadD
namespace Go.Proofs.YtllmeeebjjmanaaDoor
open Go.ChangeShapes Go.WideShapes Go.ChangeAt Go.RowKit Go.Shelf

theorem read_ok (b o n c : Nat) (bs : List Int) (src dst : Int) (S : Seg) (w : World) (hb : BytesAt w (some ⟨b, o, none⟩) bs) (hn : bs.length = n) (hc : n ≤ c) (hs : U32 src) (hd : U32 dst) (h : getI bs src dst = (0, S)) :
    Calls Tryd.prog 34 #[.slice (some ⟨b, o, none⟩) n c, .int .u32 src, .int .u32 dst] w fun e w' => (∃ ka kc da dc, e = .returned (.agg (segV S ka kc da dc)) ∧ BlksAt w' ka S.sk ∧ BytesAt w' da S.da ∧ (da = none → dc = 0) ∧ (∀ x, ka = some x → w.heap.size < x.block) ∧ (∀ x, da = some x → w.heap.size < x.block)) ∧ Below w.heap.size w w' := by
  by_cases hz : n - offI bs = 0
  · exact read_zero b o n c bs src dst S w hb hn hc hs hd h hz
  · exact read_data b o n c bs src dst S w hb hn hc hs hd h hz
end Go.Proofs.YtllmeeebjjmanaaDoor
