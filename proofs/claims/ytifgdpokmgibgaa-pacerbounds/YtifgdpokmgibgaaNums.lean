/- Two rows of ints of one's own. -/
import Derived.Test.YtifgdpokmgibgaaBase
namespace Go.Proofs.Ytifgdpokmgibgaa
open Go.ChangeShapes Go.WideShapes Go.ChangeAt Go.RowKit Go.Shelf
set_option linter.unusedVariables false
set_option linter.unusedSimpArgs false
attribute [local go_sem] Oper.semAt_some


theorem info_parts {P : Program} {ty : TypeId} {z : Option Value} {s b : Nat} (h : (P.info? ty).map (fun i => (i.zero, i.size, i.bytes)) = some (z, s, b)) : ∃ i, P.info? ty = some i ∧ i.zero = z ∧ i.size = s ∧ i.bytes = b := by
  cases hi : P.info? ty with
  | none => rw [hi] at h; cases h
  | some i =>
    rw [hi] at h
    simp only [Option.map_some, Option.some.injEq, Prod.mk.injEq] at h
    exact ⟨i, rfl, h.1, h.2.1, h.2.2⟩
theorem Try.info3 : (Try.prog.info? 3).map (fun i => (i.zero, i.size, i.bytes)) = some (some (.int .i64 0), 1, 8) := by kernel_rfl
def icells (l : List Int) : List Value := l.map (Value.int .i64)
theorem icells_one (l : List Int) : ∀ u ∈ icells l, u.oneCell' = true := by
  intro u hu
  obtain ⟨x, _, rfl⟩ := List.mem_map.1 hu
  rfl
def RowI (w : World) (B : Nat) (va : Option Addr) (L vc : Nat) (l : List Int) : Prop := w.ownsRow B 3 1 (.slice va L vc) L (icells l)
theorem RowI.nil (w : World) (B : Nat) : RowI w B none 0 0 [] := World.ownsRow_nil _ _ _ _
theorem RowI.len {w : World} {B : Nat} {va : Option Addr} {L vc : Nat} {l : List Int} (h : RowI w B va L vc l) : l.length = L := by
  have := h.1; simp [icells] at this; omega
theorem RowI.at {w : World} {B : Nat} {va : Option Addr} {L vc : Nat} {l : List Int} (h : RowI w B va L vc l) (j : Nat) (hj : j < L) : ∃ b o, va = some ⟨b, o, none⟩ ∧ w.cell? ⟨b, o + j, none⟩ = some (.int .i64 (l[j]?.getD 0)) := by
  have hL := h.len
  rcases h.2 with ⟨e, h0⟩ | ⟨g, cap, cur, e, hg, hh, hc, hm, hsz, ht⟩
  · omega
  · cases e
    refine ⟨g, 0, rfl, ?_⟩
    have h2 : (cur.toList.take (L * 1))[j]? = (icells l)[j]? := by rw [ht]
    rw [List.getElem?_take_of_lt (by omega)] at h2
    unfold World.cell?
    simp only [hh, Nat.zero_add]
    have h3 : (icells l)[j]? = some (.int .i64 (l[j]?.getD 0)) := by
      unfold icells
      rw [List.getElem?_map, List.getElem?_eq_getElem (by omega)]
      rfl
    rw [h3] at h2
    simpa using h2
theorem RowI.same {w w' : World} {B : Nat} {va : Option Addr} {L vc : Nat} {l : List Int} (h : RowI w B va L vc l) (hs : ∀ g cur, va = some ⟨g, 0, none⟩ → w.heap[g]? = some (.cells cur 3 (0, 0)) → w'.heap[g]? = w.heap[g]?) : RowI w' B va L vc l := by
  refine ⟨h.1, ?_⟩
  rcases h.2 with h' | ⟨g, c, cur, e, hB, hh, r⟩
  · exact .inl h'
  · cases e
    exact .inr ⟨g, vc, cur, rfl, hB, (hs g cur rfl hh).trans hh, r⟩
theorem RowI.later {w w' : World} {B : Nat} {va : Option Addr} {L vc : Nat} {l : List Int} (h : RowI w B va L vc l) (hb : Below w.heap.size w w') : RowI w' B va L vc l := h.same fun g cur _ hh => hb.block g (Array.getElem?_eq_some_iff.1 hh).1
theorem RowI.lt {w : World} {B : Nat} {va : Option Addr} {L vc : Nat} {l : List Int} (h : RowI w B va L vc l) {k : Nat} (hk : va = some ⟨k, 0, none⟩) : k < w.heap.size := by
  rcases h.2 with ⟨e, _⟩ | ⟨g, c, cur, e, hB, hh, r⟩
  · cases e; cases hk
  · cases e; cases hk; exact (Array.getElem?_eq_some_iff.1 hh).1
/-- Two rows, of as many ints each, that don't share a block. -/
structure Two (w : World) (B : Nat) (ta : Option Addr) (tc : Nat) (sa : Option Addr) (sc : Nat) (n : Nat) (ts ss : List Int) : Prop where
  t : RowI w B ta n tc ts
  s : RowI w B sa n sc ss
  ap : ∀ k, ta = some ⟨k, 0, none⟩ → sa ≠ some ⟨k, 0, none⟩
theorem Two.nil (w : World) (B : Nat) : Two w B none 0 none 0 0 [] [] := ⟨RowI.nil _ _, RowI.nil _ _, fun k h => by cases h⟩
theorem Two.later {w w' : World} {B : Nat} {ta : Option Addr} {tc : Nat} {sa : Option Addr} {sc : Nat} {n : Nat} {ts ss : List Int} (h : Two w B ta tc sa sc n ts ss) (hb : Below w.heap.size w w') : Two w' B ta tc sa sc n ts ss := ⟨h.t.later hb, h.s.later hb, h.ap⟩
theorem Two.sto {w w' : World} {B : Nat} {ta : Option Addr} {tc : Nat} {sa : Option Addr} {sc : Nat} {n : Nat} {ts ss : List Int} (h : Two w B ta tc sa sc n ts ss) {g : Nat} {cs : List Value} (hb : Box w g 23 cs) (hs : Sto w g w') : Two w' B ta tc sa sc n ts ss := by
  have hne : ∀ k (cur : Array Value), w.heap[k]? = some (.cells cur 3 (0, 0)) → k ≠ g := fun k cur hk => (hb.ne hk (by decide)).symm
  exact ⟨h.t.same fun k cur _ hh => hs.other k (hne k cur hh), h.s.same fun k cur _ hh => hs.other k (hne k cur hh), h.ap⟩
/-- An int more. -/
theorem app_int (w : World) (B : Nat) (va : Option Addr) (n vc : Nat) (xs : List Int) (hO : RowI w B va n vc xs) (hB : B ≤ w.heap.size) (x : Int) (hb : n ≤ 1000) :
    ∃ va' vc' w', (Builtin.append_ #[41, 41] 41 #[.slice va n vc, .slice (some ⟨w.heap.size, 0, none⟩) 1 1]).run Try.prog (w.alloc (.cells #[.int .i64 x] 3)) = .ok (.slice va' (n + 1) vc') w' ∧ RowI w' B va' (n + 1) vc' (xs ++ [x]) ∧ Below B w w' ∧
      (∀ k, k < w.heap.size → va ≠ some ⟨k, 0, none⟩ → w'.heap[k]? = w.heap[k]?) ∧ ∀ k, va' = some ⟨k, 0, none⟩ → va = some ⟨k, 0, none⟩ ∨ w.heap.size ≤ k := by
  obtain ⟨i0, hi, hz0, hz1, hz2⟩ := info_parts Try.info3
  have hO1 : RowI (w.alloc (.cells #[.int .i64 x] 3)) B va n vc xs := World.ownsRow.alloc hO _
  obtain ⟨v', w', hr, h1, h2, _⟩ := run_append_own (P := Try.prog) (w.alloc (.cells #[.int .i64 x] 3)) B 41 41 3 i0 (.int .i64 0) 1 8 Try.underlying41 hi hz0 hz1 hz2 rfl (by decide) _ n _ hO1 ⟨w.heap.size, 0, none⟩ 1 1 (icells [x]) rfl (cells_new w [.int .i64 x] 3) (icells_one [x]) (by unfold maxLen; omega) (by omega) (by simp; omega)
  have e : icells xs ++ icells [x] = icells (xs ++ [x]) := by simp [icells]
  rw [e] at h1
  have hBw : Below B w w' := below_append ((Below.refl _ w).alloc hB _) (by simp; omega) hO1 h2
  obtain ⟨va', vc', rfl, hR⟩ : ∃ va vc, v' = .slice va (n + 1) vc ∧ RowI w' B va (n + 1) vc (xs ++ [x]) := by
    rcases h1.2 with ⟨rfl, h0⟩ | ⟨g, c, cur, rfl, r⟩
    · omega
    · exact ⟨_, _, rfl, h1⟩
  refine ⟨va', vc', w', hr, hR, hBw, fun k hk hne => ?_, fun k hk => ?_⟩
  · rw [h2.block k (by simp; omega) ?_]
    · exact heap_alloc_old w _ hk
    · rcases hO1.2 with ⟨e1, _⟩ | ⟨g', c', cur', e1, _, hh', _⟩
      · rw [e1]; simp [Value.ownBlock]
      · rw [e1]
        simp only [Value.ownBlock, ne_eq, Option.some.injEq]
        rintro rfl
        cases e1
        exact hne rfl
  · rcases hO1.2 with ⟨e1, h0⟩ | ⟨g', c', cur', e1, _, hh', hnc, _, hcs, _⟩
    · subst h0
      cases e1
      have hx : xs = [] := List.eq_nil_of_length_eq_zero (by have := hO.len; omega)
      have hr2 := run_append_nil (P := Try.prog) (w.alloc (.cells #[.int .i64 x] 3)) 41 41 3 i0 (.int .i64 0) Try.underlying41 hi hz0 ⟨w.heap.size, 0, none⟩ 1 1 (icells [x]) (by rw [hz1]; rfl) (cells_new w [.int .i64 x] 3) (by omega) (by omega) (by rw [hz2]; omega)
      rw [hr] at hr2
      injection hr2 with e2 _
      injection e2 with e3 _ _
      rw [hk] at e3
      injection e3 with e4
      injection e4 with e5 _ _
      right; rw [e5]; simp
    · cases e1
      by_cases hroom : n + 1 ≤ vc
      · have hr2 := run_append_room (P := Try.prog) (w.alloc (.cells #[.int .i64 x] 3)) 41 41 3 i0 Try.underlying41 hi g' n vc cur' hh' ⟨w.heap.size, 0, none⟩ 1 1 (icells [x]) (by rw [hz1]; rfl) (cells_new w [.int .i64 x] 3) (icells_one [x]) hroom (by rw [hz1, hcs]; show n * 1 + 1 ≤ vc * 1; omega)
        rw [hr] at hr2
        injection hr2 with e2 _
        injection e2 with e3 _ _
        rw [hk] at e3
        exact .inl e3.symm
      · have holds : ∀ j u, (icells xs)[j]? = some u → (w.alloc (.cells #[.int .i64 x] 3)).cell? ((⟨g', 0, none⟩ : Addr).add j) = some u := World.ownsRow.cells hO1 (g := g') rfl
        have hr2 := run_append_grow (P := Try.prog) (w.alloc (.cells #[.int .i64 x] 3)) 41 41 3 i0 (.int .i64 0) Try.underlying41 hi hz0 ⟨g', 0, none⟩ n vc (icells xs) (by rw [hz1]; exact hO.1) holds ⟨w.heap.size, 0, none⟩ 1 1 (icells [x]) (by rw [hz1]; rfl) (cells_new w [.int .i64 x] 3) (by omega) (by omega) (by rw [hz2]; exact growslice_fits (by omega) (by omega))
        rw [hr] at hr2
        injection hr2 with e2 _
        injection e2 with e3 _ _
        rw [hk] at e3
        injection e3 with e4
        injection e4 with e5 _ _
        right; rw [e5]; simp
theorem RowI.row {w : World} {B : Nat} {va : Option Addr} {L vc : Nat} {l : List Int} (h : RowI w B va L vc l) (g : Nat) (cs : List Value) (hb : Box w g 23 cs) : va ≠ some ⟨g, 0, none⟩ := by
  rintro rfl
  rcases h.2 with ⟨e, _⟩ | ⟨k, c, cur, e, hB, hh, r⟩
  · cases e
  · cases e
    exact hb.ne hh (by decide) rfl
end Go.Proofs.Ytifgdpokmgibgaa
