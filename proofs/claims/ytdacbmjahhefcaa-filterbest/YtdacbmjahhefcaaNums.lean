/- A row of ints of one's own. -/
import Derived.Test.YtdacbmjahhefcaaHeads
import Derived.Test.YtdacbmjahhefcaaTurn
namespace Go.Proofs.Ytdacbmjahhefcaa
open Go.ChangeShapes Go.WideShapes Go.ChangeAt Go.RowKit Go.Shelf
set_option linter.unusedVariables false
set_option linter.unusedSimpArgs false

theorem Try.info3 : (Try.prog.info? 3).map (fun i => (i.zero, i.size, i.bytes)) = some (some (.int .i64 0), 1, 8) := by kernel_rfl
def icells (l : List Int) : List Value := l.map (Value.int .i64)
theorem icells_one (l : List Int) : ∀ u ∈ icells l, u.oneCell' = true := by
  intro u hu
  obtain ⟨x, _, rfl⟩ := List.mem_map.1 hu
  rfl
def RowI (w : World) (B : Nat) (va : Option Addr) (L vc : Nat) (l : List Int) : Prop := w.ownsRow B 3 1 (.slice va L vc) L (icells l)
theorem RowI.nil (w : World) (B : Nat) : RowI w B none 0 0 [] := World.ownsRow_nil _ _ _ _
theorem RowI.len {w : World} {B : Nat} {va : Option Addr} {L vc : Nat} {l : List Int} (h : RowI w B va L vc l) : l.length = L := by
  have := h.1; simp [icells] at this; omega
theorem RowI.at {w : World} {B : Nat} {va : Option Addr} {L vc : Nat} {l : List Int} (h : RowI w B va L vc l) (j : Nat) (hj : j < L) : ∃ b o, va = some ⟨b, o, none⟩ ∧ w.cell? ⟨b, o + j, none⟩ = some (.int .i64 (l[j]?.getD 0)) := by
  have hL := h.len
  rcases h.2 with ⟨e, h0⟩ | ⟨g, cap, cur, e, hg, hh, hc, hm, hsz, ht⟩
  · omega
  · cases e
    refine ⟨g, 0, rfl, ?_⟩
    have h2 : (cur.toList.take (L * 1))[j]? = (icells l)[j]? := by rw [ht]
    rw [List.getElem?_take_of_lt (by omega)] at h2
    unfold World.cell?
    simp only [hh, Nat.zero_add]
    have h3 : (icells l)[j]? = some (.int .i64 (l[j]?.getD 0)) := by
      unfold icells
      rw [List.getElem?_map, List.getElem?_eq_getElem (by omega)]
      rfl
    rw [h3] at h2
    simpa using h2
theorem RowI.below {w w' : World} {B : Nat} {va : Option Addr} {L vc : Nat} {l : List Int} (h : RowI w B va L vc l) (hb : Below w.heap.size w w') : RowI w' B va L vc l := by
  refine ⟨h.1, ?_⟩
  rcases h.2 with h' | ⟨g, c, cur, e, hB, hh, r⟩
  · exact .inl h'
  · exact .inr ⟨g, c, cur, e, hB, (hb.block g (Array.getElem?_eq_some_iff.1 hh).1).trans hh, r⟩
/-- An int more; entries elsewhere stay. -/
theorem app_int (w : World) (B : Nat) (va : Option Addr) (n vc : Nat) (xs : List Int) (hO : RowI w B va n vc xs) (hB : B ≤ w.heap.size) (x : Int) (hb : n ≤ 1000) :
    ∃ va' vc' w', (Builtin.append_ #[37, 37] 37 #[.slice va n vc, .slice (some ⟨w.heap.size, 0, none⟩) 1 1]).run Try.prog (w.alloc (.cells #[.int .i64 x] 3)) = .ok (.slice va' (n + 1) vc') w' ∧ RowI w' B va' (n + 1) vc' (xs ++ [x]) ∧ Below B w w' ∧
      ∀ a L c l, RowT w B a L c l → RowT w' B a L c l := by
  obtain ⟨i0, hi, hz0, hz1, hz2⟩ := info_parts Try.info3
  have hO1 : RowI (w.alloc (.cells #[.int .i64 x] 3)) B va n vc xs := World.ownsRow.alloc hO _
  obtain ⟨v', w', hr, h1, h2, _⟩ := run_append_own (P := Try.prog) (w.alloc (.cells #[.int .i64 x] 3)) B 37 37 3 i0 (.int .i64 0) 1 8 Try.underlying37 hi hz0 hz1 hz2 rfl (by decide) _ n _ hO1 ⟨w.heap.size, 0, none⟩ 1 1 (icells [x]) rfl (cells_new w [.int .i64 x] 3) (icells_one [x]) (by unfold maxLen; omega) (by omega) (by simp; omega)
  have e : icells xs ++ icells [x] = icells (xs ++ [x]) := by simp [icells]
  rw [e] at h1
  have hBw : Below B w w' := below_append ((Below.refl _ w).alloc hB _) (by simp; omega) hO1 h2
  obtain ⟨va', vc', rfl, hR⟩ : ∃ va vc, v' = .slice va (n + 1) vc ∧ RowI w' B va (n + 1) vc (xs ++ [x]) := by
    rcases h1.2 with ⟨rfl, h0⟩ | ⟨g, c, cur, rfl, r⟩
    · omega
    · exact ⟨_, _, rfl, h1⟩
  refine ⟨va', vc', w', hr, hR, hBw, fun a L c l hR2 => ?_⟩
  have hR3 := hR2.alloc (.cells #[.int .i64 x] 3)
  refine ⟨hR3.1, ?_⟩
  rcases hR3.2 with h' | ⟨g, c2, cur, e, hg, hh, r⟩
  · exact .inl h'
  · refine .inr ⟨g, c2, cur, e, hg, (h2.block g (Array.getElem?_eq_some_iff.1 hh).1 ?_).trans hh, r⟩
    rcases hO1.2 with ⟨e1, _⟩ | ⟨g', c', cur', e1, _, hh', _⟩
    · rw [e1]; simp [Value.ownBlock]
    · rw [e1]
      simp only [Value.ownBlock, ne_eq, Option.some.injEq]
      rintro rfl
      rw [hh] at hh'
      cases hh'
theorem snd_at {H : List Tm} {l : List Tm} {k : Nat} (h : H.map (·.2) = (l.take H.length).map (·.2)) (hk : k < H.length) : (H[k]?.getD (0, 0)).2 = (l[k]?.getD (0, 0)).2 := by
  have h1 : (H.map (·.2))[k]? = ((l.take H.length).map (·.2))[k]? := by rw [h]
  rw [List.getElem?_map, List.getElem?_map, List.getElem?_take_of_lt hk] at h1
  rw [List.getElem?_eq_getElem hk] at h1 ⊢
  cases hl : l[k]? with
  | none => rw [hl] at h1; cases h1
  | some y => rw [hl] at h1; simpa using h1
theorem fst_at {H : List Tm} {k : Nat} (hk : k < H.length) : (H.map (·.1))[k]?.getD 0 = (H[k]?.getD (0, 0)).1 := by
  rw [List.getElem?_map, List.getElem?_eq_getElem hk]; rfl
theorem mem_take_snoc {H : List Tm} {k : Nat} {y z : Tm} (hk : k < H.length) (hy : H[k]?.getD (0, 0) = y) (h : z ∈ H.take (k + 1)) : z ∈ H.take k ∨ z = y := by
  rw [take_snoc hk hy] at h
  rcases List.mem_append.1 h with h | h
  · exact .inl h
  · exact .inr (by simpa using h)
end Go.Proofs.Ytdacbmjahhefcaa
