/- What must come at any rate. -/
import Derived.Test.YtcjnpbgnjghcjaaRefPseudo
namespace Go.Proofs.Ytcjnpbgnjghcjaa
open Go.ChangeShapes Go.WideShapes Go.ChangeAt Go.RowKit Go.Shelf
set_option linter.unusedVariables false

theorem bytes_new (w : World) (bs : List Int) (hb : Byts bs) (hm : bs.length ≤ maxLen) : BytesAt (w.alloc (.cells (bs.map (Value.int .u8)).toArray 5)) (some ⟨w.heap.size, 0, none⟩) bs := by
  refine ⟨hm, hb, fun j hj => ⟨_, _, rfl, ?_⟩⟩
  rw [World.cell?_alloc_at (w := w) _ _ w.heap.size (0 + j) rfl]
  simp [hj]

theorem BytesAt.alloc {w : World} {a : Option Addr} {bs : List Int} (h : BytesAt w a bs) (o : Obj) : BytesAt (w.alloc o) a bs :=
  h.below ((Below.refl _ w).alloc (Nat.le_refl _) o) (Nat.le_refl _)

theorem parts_new (w : World) (vs : List (Option Addr × List Int × Nat)) (hm : vs.length ≤ maxLen) (h : ∀ v ∈ vs, BytesAt w v.1 v.2.1) :
    PartsAt (w.alloc (.cells (vs.map fun v => Value.slice v.1 v.2.1.length v.2.2).toArray 24)) (some ⟨w.heap.size, 0, none⟩) (vs.map (·.2.1)) := by
  refine ⟨by simpa using hm, fun i hi => ?_⟩
  have hi' : i < vs.length := by simpa using hi
  refine ⟨_, _, vs[i].1, vs[i].2.2, rfl, ?_, ?_⟩
  · rw [World.cell?_alloc_at (w := w) _ _ w.heap.size (0 + i) rfl]
    simp [hi']
  · have := (h vs[i] (List.getElem_mem hi')).alloc (.cells (vs.map fun v => Value.slice v.1 v.2.1.length v.2.2).toArray 24)
    simpa [hi'] using this

theorem head0 (w : World) : PartsAt (((w.alloc (.cells #[.int .u8 0, .int .u8 1, .int .u8 242, .int .u8 3, .int .u8 244] 5)).alloc (.cells #[.int .u8 245, .int .u8 246, .int .u8 247] 5)).alloc
    (.cells #[.slice (some ⟨w.heap.size, 0, none⟩) 5 5, .slice (some ⟨w.heap.size + 1, 0, none⟩) 3 3] 24)) (some ⟨w.heap.size + 1 + 1, 0, none⟩) [[0, 1, 242, 3, 244], [245, 246, 247]] := by
  have b1 := (bytes_new w [0, 1, 242, 3, 244] (by unfold Byts; decide) (by decide)).alloc (.cells ([245, 246, 247].map (Value.int .u8)).toArray 5)
  have b2 := bytes_new (w.alloc (.cells ([0, 1, 242, 3, 244].map (Value.int .u8)).toArray 5)) [245, 246, 247] (by unfold Byts; decide) (by decide)
  have := parts_new _ [(some ⟨w.heap.size, 0, none⟩, [0, 1, 242, 3, 244], 5), (some ⟨w.heap.size + 1, 0, none⟩, [245, 246, 247], 3)] (by simp [maxLen]) (fun v hv => by
    simp only [List.mem_cons, List.not_mem_nil, or_false] at hv
    rcases hv with rfl | rfl
    · exact b1
    · rw [World.size_alloc] at b2
      exact b2)
  rw [World.size_alloc, World.size_alloc] at this
  exact this

theorem head1 (w : World) (bs : List Int) (hb : Byts bs) (hm : bs.length ≤ maxLen) : PartsAt ((w.alloc (.cells (bs.map (Value.int .u8)).toArray 5)).alloc
    (.cells #[.slice (some ⟨w.heap.size, 0, none⟩) bs.length bs.length] 24)) (some ⟨w.heap.size + 1, 0, none⟩) [bs] := by
  have := parts_new _ [(some ⟨w.heap.size, 0, none⟩, bs, bs.length)] (by simp [maxLen]) (fun v hv => by
    simp only [List.mem_cons, List.not_mem_nil, or_false] at hv
    subst hv
    exact bytes_new w bs hb hm)
  rw [World.size_alloc] at this
  exact this

set_option maxHeartbeats 1000000 in
theorem heads_any (w : World) : Calls Try.prog 15 #[] w fun e w' => e = .returned (.bool true) ∧ Below w.heap.size w w' := by
  have s0 : sumI [[0, 1, 242, 3, 244], [245, 246, 247]].flatten = 8717 := by decide
  have s1 : (sumI [[1]].flatten == 0) = false := by decide
  have s2 : (sumI [[255, 255]].flatten == 0) = true := by decide
  have j0 : joinI 65535 1 = 1 := by decide
  have S : Hid (sumI [[0, 1, 242, 3, 244], [245, 246, 247]].flatten = 8717 ∧ (sumI [[1]].flatten == 0) = false ∧ (sumI [[255, 255]].flatten == 0) = true ∧ joinI 65535 1 = 1) := ⟨s0, s1, s2, j0⟩
  clear s0 s1 s2 j0
  go_enter Try.func15, Try.ntmps15
  go_wp2_with fail
  refine (sum_any _ _ [[0, 1, 242, 3, 244], [245, 246, 247]] _ (head0 w)).mono ?_
  rintro e w1 ⟨he, hB1⟩
  rw [S.out.1] at he
  subst he
  go_wp2_with fail
  refine (join_walk 65535 1 (by decide) (by decide) _).mono ?_
  rintro e w2 ⟨he, rfl⟩
  rw [S.out.2.2.2] at he
  subst he
  go_wp2_with fail
  refine (pseudo_any 1 2 3 _ (by decide) (by decide)).mono ?_
  rintro e w3 ⟨a3, c3, rfl, _, hB3⟩
  go_wp2_with fail
  refine (valid_any _ _ [[1]] _ (head1 w3 [1] (by unfold Byts; decide) (by decide))).mono ?_
  rintro e w4 ⟨he, hB4⟩
  rw [S.out.2.1] at he
  subst he
  go_wp2_with fail
  refine (valid_any _ _ [[255, 255]] _ (head1 w4 [255, 255] (by unfold Byts; decide) (by decide))).mono ?_
  rintro e w5 ⟨he, hB5⟩
  rw [S.out.2.2.1] at he
  subst he
  go_wp2
  go_ret
  refine ⟨rfl, ?_⟩
  have k1 : Below w.heap.size w w2 := ((((Below.refl _ w).alloc (Nat.le_refl _) _).alloc (by simp) _).alloc (by simp; omega) _).trans (hB1.mono (by simp; omega))
  have k3 : Below w.heap.size w w3 := k1.trans (hB3.mono k1.size)
  have k4 : Below w.heap.size w w4 := ((k3.alloc k3.size _).alloc (by have := k3.size; simp; omega) _).trans (hB4.mono (by have := k3.size; simp; omega))
  exact ((k4.alloc k4.size _).alloc (by have := k4.size; simp; omega) _).trans (hB5.mono (by have := k4.size; simp; omega))
end Go.Proofs.Ytcjnpbgnjghcjaa
