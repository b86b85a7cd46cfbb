/- New blocks that hold bytes, and parts. -/
import Derived.Test.YtllmeeebjjmanaaDoorRefPseudo
namespace Go.Proofs.YtllmeeebjjmanaaDoor
open Go.ChangeShapes Go.WideShapes Go.ChangeAt Go.RowKit Go.Shelf
set_option linter.unusedVariables false

theorem bytes_new (w : World) (bs : List Int) (hb : Byts bs) (hm : bs.length ≤ maxLen) : BytesAt (w.alloc (.cells (bs.map (Value.int .u8)).toArray 5)) (some ⟨w.heap.size, 0, none⟩) bs := by
  refine ⟨hm, hb, fun j hj => ⟨_, _, rfl, ?_⟩⟩
  rw [World.cell?_alloc_at (w := w) _ _ w.heap.size (0 + j) rfl]
  simp [hj]

theorem BytesAt.alloc {w : World} {a : Option Addr} {bs : List Int} (h : BytesAt w a bs) (o : Obj) : BytesAt (w.alloc o) a bs :=
  h.below ((Below.refl _ w).alloc (Nat.le_refl _) o) (Nat.le_refl _)

theorem parts_new (w : World) (vs : List (Option Addr × List Int × Nat)) (hm : vs.length ≤ maxLen) (h : ∀ v ∈ vs, BytesAt w v.1 v.2.1) :
    PartsAt (w.alloc (.cells (vs.map fun v => Value.slice v.1 v.2.1.length v.2.2).toArray 24)) (some ⟨w.heap.size, 0, none⟩) (vs.map (·.2.1)) := by
  refine ⟨by simpa using hm, fun i hi => ?_⟩
  have hi' : i < vs.length := by simpa using hi
  refine ⟨_, _, vs[i].1, vs[i].2.2, rfl, ?_, ?_⟩
  · rw [World.cell?_alloc_at (w := w) _ _ w.heap.size (0 + i) rfl]
    simp [hi']
  · have := (h vs[i] (List.getElem_mem hi')).alloc (.cells (vs.map fun v => Value.slice v.1 v.2.1.length v.2.2).toArray 24)
    simpa [hi'] using this

end Go.Proofs.YtllmeeebjjmanaaDoor
