/- A slice of records of one's own, wherever it begins in its row. -/
import Derived.Test.YtdgiapeniafklaaEq
import Derived.ArgAppend
import Derived.Laws.CopyRow
import Derived.Lib.AppendZeros
namespace Go.Proofs.Ytdgiapeniafklaa
open Go.ChangeShapes Go.WideShapes Go.ChangeAt Go.RowKit Go.Shelf
set_option linter.unusedVariables false
set_option linter.unusedSimpArgs false
attribute [local go_sem] Oper.semAt_some


/-- A slice of one's own: its block is B or beyond. -/
def RowO (w : World) (B : Nat) (va : Option Addr) (vc : Nat) (l : List Rc) : Prop :=
  l.length ≤ vc ∧ vc ≤ maxLen ∧ ((va = none ∧ vc = 0) ∨ ∃ g o, ∃ cur : List Value, va = some ⟨g, o, none⟩ ∧ B ≤ g ∧ w.heap[g]? = some (.cells cur.toArray 33 (0, 0)) ∧ o + vc * 12 ≤ cur.length ∧ ∀ j u, (tcells l)[j]? = some u → cur[o + j]? = some u)
theorem RowO.nil (w : World) (B : Nat) : RowO w B none 0 [] := ⟨Nat.le_refl _, by simp, .inl ⟨rfl, rfl⟩⟩
theorem cell_at {w : World} {g k : Nat} {cur : List Value} {u : Value} (h : w.heap[g]? = some (.cells cur.toArray 33 (0, 0))) (hu : cur[k]? = some u) : w.cell? ⟨g, k, none⟩ = some u := by
  rw [cell_of_row w g k cur.toArray 33 (0, 0) h]; simpa using hu
theorem RowO.recs {w : World} {B : Nat} {va : Option Addr} {vc : Nat} {l : List Rc} (h : RowO w B va vc l) : RecsAt w va l := by
  obtain ⟨h1, h2, h3⟩ := h
  refine ⟨by omega, fun j hj => ?_⟩
  rcases h3 with ⟨_, rfl⟩ | ⟨g, o, cur, rfl, hg, hh, hc, hu⟩
  · omega
  · refine ⟨g, o, rfl, fun k v hk => ?_⟩
    have hk12 : k < 12 := by
      rcases Nat.lt_or_ge k 12 with h | h
      · exact h
      · rw [List.getElem?_eq_none (by rw [rv_len]; exact h)] at hk; cases hk
    have h4 := hu (j * 12 + k) v (by rw [tcells_at l j k hj hk12]; exact hk)
    rw [Nat.add_assoc]
    exact cell_at hh h4
theorem recs_head {w : World} {va : Option Addr} {x : Rc} {l : List Rc} (h : RecsAt w va (x :: l)) : RecsAt w va [x] := by
  refine ⟨by simp [maxLen], fun j hj => ?_⟩
  obtain rfl : j = 0 := by simp at hj; omega
  exact h.2 0 (by simp)
/-- l[1:]. -/
def cut1 (va : Option Addr) (vc : Nat) : Option Addr := if vc = 1 then va else va.map (·.add (1 * 12))
theorem RowO.tail {w : World} {B : Nat} {va : Option Addr} {vc : Nat} {x : Rc} {l : List Rc} (h : RowO w B va vc (x :: l)) : RowO w B (cut1 va vc) (vc - 1) l := by
  obtain ⟨h1, h2, h3⟩ := h
  simp only [List.length_cons] at h1
  refine ⟨by omega, by omega, ?_⟩
  rcases h3 with ⟨_, rfl⟩ | ⟨g, o, cur, rfl, hg, hh, hc, hu⟩
  · omega
  · right
    unfold cut1
    by_cases e : vc = 1
    · rw [if_pos e]
      obtain rfl : l = [] := List.eq_nil_of_length_eq_zero (by omega)
      exact ⟨g, o, cur, rfl, hg, hh, by omega, fun j u hj => by simp [tcells] at hj⟩
    · rw [if_neg e]
      refine ⟨g, o + 12, cur, by simp [add_lit], hg, hh, by omega, fun j u hj => ?_⟩
      have := hu (12 + j) u (by rw [tcells_cons, List.getElem?_append_right (by rw [rv_len]; omega), rv_len, Nat.add_sub_cancel_left]; exact hj)
      rwa [← Nat.add_assoc] at this
theorem RowO.same {w X : World} {B : Nat} {va : Option Addr} {vc : Nat} {l : List Rc} (h : RowO w B va vc l) (hs : ∀ k o, va = some ⟨k, o, none⟩ → k < w.heap.size → X.heap[k]? = w.heap[k]?) : RowO X B va vc l := by
  obtain ⟨h1, h2, h3⟩ := h
  refine ⟨h1, h2, ?_⟩
  rcases h3 with h | ⟨g, o, cur, rfl, hg, hh, hc, hu⟩
  · exact .inl h
  · exact .inr ⟨g, o, cur, rfl, hg, (hs g o rfl (Array.getElem?_eq_some_iff.1 hh).1).trans hh, hc, hu⟩
theorem RowO.later {w X : World} {B : Nat} {va : Option Addr} {vc : Nat} {l : List Rc} (h : RowO w B va vc l) (hb : Below w.heap.size w X) : RowO X B va vc l := h.same (fun k _ _ hk => hb.block k hk)
/-- A store into a box of another type. -/
theorem RowO.sto {w X : World} {B k : Nat} {t : TypeId} {cs : List Value} {va : Option Addr} {vc : Nat} {l : List Rc} (h : RowO w B va vc l) (hb : Box w k t cs) (ht : t ≠ 33) (st : Sto w k X) : RowO X B va vc l := by
  refine h.same (fun k' o e _ => st.other k' ?_)
  rintro rfl
  rcases h.2.2 with ⟨e', _⟩ | ⟨g, o', cur, e', _, hh, _⟩
  · rw [e] at e'; cases e'
  · rw [e] at e'
    obtain ⟨rfl, rfl⟩ : k' = g ∧ o = o' := by simpa using e'
    rw [hb] at hh
    simp at hh
    exact ht hh.2
theorem box_ne {w : World} {k k' : Nat} {t t' : TypeId} {cs cs' : List Value} (h : Box w k t cs) (h' : Box w k' t' cs') (ht : t ≠ t') : k ≠ k' := by
  rintro rfl
  unfold Box at h h'
  rw [h] at h'
  simp at h'
  exact ht h'.2
theorem RowO.of_row {w : World} {B : Nat} {va : Option Addr} {L vc : Nat} {l : List Rc} (h : RowR w B va L vc l) : RowO w B va vc l := by
  have hl := h.len
  have hm := h.max
  refine ⟨by omega, hm.2, ?_⟩
  rcases h.2 with ⟨e, h0⟩ | ⟨g, cap, cur, e, hg, hh, hc, hmx, hsz, ht⟩
  · cases e; exact .inl ⟨rfl, rfl⟩
  · cases e
    refine .inr ⟨g, 0, cur.toList, rfl, hg, by simpa using hh, by simp [hsz], fun j u hj => ?_⟩
    rw [← ht, List.getElem?_take] at hj
    split at hj
    · simpa using hj
    · cases hj
theorem RowO.app {w : World} {B : Nat} {va : Option Addr} {vc g1 : Nat} {l : List Rc} {x : Rc} (h : RowO w B va vc l) (hB : B ≤ w.heap.size) (hx : Box w g1 33 (rcL x)) (hl : l.length ≤ 1000) :
    ∃ va' vc' w', (Builtin.append_ #[24, 24] 24 #[.slice va l.length vc, .slice (some ⟨g1, 0, none⟩) 1 1]).run Try.prog w = .ok (.slice va' (l.length + 1) vc') w' ∧ RowO w' B va' vc' (l ++ [x]) ∧ Below B w w' ∧ (∀ k t cs, Box w k t cs → t ≠ 33 → Box w' k t cs) := by
  obtain ⟨i0, hi, hz0, hz1, hz2⟩ := info_parts Try.info33
  have hnews : ∀ j u, (rcL x)[j]? = some u → w.cell? ((⟨g1, 0, none⟩ : Addr).add j) = some u := fun j u hj => by
    rw [add_lit, Nat.zero_add]; exact Box.cell hx j hj
  have h0 := h
  obtain ⟨h1, h2, h3⟩ := h
  have grown : ∀ {v' : Value} {w' : World}, w'.ownsRow w.heap.size 33 12 v' (l.length + 1) (tcells l ++ rcL x) → w.grownBy w' none → (Builtin.append_ #[24, 24] 24 #[.slice va l.length vc, .slice (some ⟨g1, 0, none⟩) 1 1]).run Try.prog w = .ok v' w' →
      ∃ va' vc' w', (Builtin.append_ #[24, 24] 24 #[.slice va l.length vc, .slice (some ⟨g1, 0, none⟩) 1 1]).run Try.prog w = .ok (.slice va' (l.length + 1) vc') w' ∧ RowO w' B va' vc' (l ++ [x]) ∧ Below B w w' ∧ (∀ k t cs, Box w k t cs → t ≠ 33 → Box w' k t cs) := by
    intro v' w' ho hg hr
    rw [← tcells_snoc] at ho
    obtain ⟨va', vc', rfl, hR⟩ := rowR_of ho
    refine ⟨va', vc', w', hr, RowO.of_row (hR.mono hB), ⟨hg.os, hg.tape, hg.output, hg.size, fun k hk => hg.block k (by omega) (by simp)⟩, fun k t cs hb _ => hb.kept hg (by simp)⟩
  rcases h3 with ⟨rfl, rfl⟩ | ⟨g, o, cur, rfl, hg, hh, hc, hu⟩
  · obtain rfl : l = [] := List.eq_nil_of_length_eq_zero (by omega)
    obtain ⟨v', w', hr, ho, hgr, _⟩ := run_append_own (P := Try.prog) w w.heap.size 24 24 33 i0 _ 12 80 Try.underlying24 hi hz0 hz1 hz2 rfl (by decide) (.slice none 0 0) 0 [] (World.ownsRow_nil _ _ _ _) ⟨g1, 0, none⟩ 1 1 (rcL x) rfl hnews (rv_one x) (by simp [maxLen]) (by omega) (Nat.le_refl _)
    exact grown (by simpa [tcells] using ho) (by simpa [Value.ownBlock] using hgr) hr
  · by_cases hroom : l.length + 1 ≤ vc
    · have hf := run_firstCells_some (P := Try.prog) w 12 1 ⟨g1, 0, none⟩ 1 1 (rcL x) rfl hnews
      have hst := run_storeCells_at Try.prog g (o + l.length * 12) 33 (rcL x) 0 cur.toArray w hh (by simp [rv_len]; omega) (rv_one x)
      simp only [Nat.add_zero] at hst
      refine ⟨some ⟨g, o, none⟩, vc, w.setRow g (cur.take (o + l.length * 12) ++ rcL x ++ cur.drop (o + l.length * 12 + 12)).toArray, ?_, ⟨by simp; omega, h2, .inr ⟨g, o, _, rfl, hg, setRow_heap w g cur.toArray _ 33 _ hh, ?_, ?_⟩⟩, (sto_row w g _).below _ _ hg (Below.refl _ _), fun k t cs hb ht => hb.sto (sto_row w g _) ?_⟩
      · simp [Builtin.append_, run_underlying Try.underlying24, sizeOf, typeInfo, hi, hz1, Builtin.lenOf, hroom, hf, add_lit, hst, rv_len]
      · simp only [List.length_append, List.length_take, List.length_drop, rv_len]; omega
      · intro j u hj
        rw [tcells_snoc] at hj
        rcases Nat.lt_or_ge j (l.length * 12) with hlt | hge
        · rw [List.getElem?_append_left (by rw [tcells_len]; exact hlt)] at hj
          rw [List.append_assoc, List.getElem?_append_left (by rw [List.length_take]; omega), List.getElem?_take, if_pos (by omega)]
          exact hu j u hj
        · rw [List.getElem?_append_right (by rw [tcells_len]; exact hge), tcells_len] at hj
          rw [List.append_assoc, List.getElem?_append_right (by rw [List.length_take]; omega), List.length_take]
          have hk : j - l.length * 12 < (rcL x).length := by
            rcases Nat.lt_or_ge (j - l.length * 12) (rcL x).length with h | h
            · exact h
            · rw [List.getElem?_eq_none h] at hj; cases hj
          rw [rv_len] at hk
          rw [show o + j - min (o + l.length * 12) cur.length = j - l.length * 12 by omega, List.getElem?_append_left (by rw [rv_len]; exact hk)]
          exact hj
      · rintro rfl
        rw [hb] at hh
        simp at hh
        exact ht hh.2
    · obtain ⟨v', w', hr, ho, hgr⟩ := run_append_arg_grows (P := Try.prog) w 24 24 33 i0 _ 12 80 Try.underlying24 hi hz0 hz1 hz2 rfl (by decide) ⟨g, o, none⟩ l.length vc (tcells l) (by rw [tcells_len]) (fun j u hj => by rw [add_lit]; exact cell_at hh (hu j u hj)) ⟨g1, 0, none⟩ 1 1 (rcL x) rfl hnews (by omega) (by simp [maxLen]; omega) (by omega)
      exact grown ho hgr hr
end Go.Proofs.Ytdgiapeniafklaa
