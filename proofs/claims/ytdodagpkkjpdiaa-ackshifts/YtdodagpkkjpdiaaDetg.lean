/- A region that draws its order, calls, stores and makes boxes: blocks as ghosts. -/
import Derived.Test.YtdodagpkkjpdiaaDets
namespace Go.Proofs.Ytdodagpkkjpdiaa
open Go.ChangeShapes Go.WideShapes Go.ChangeAt Go.RowKit Go.Shelf
set_option linter.unusedVariables false
set_option linter.unusedSimpArgs false
attribute [local go_sem] Oper.semAt_some


theorem selA_congrD {dst : Nat → Option Tmp} {vals vals' : Nat → Value} {done : Nat → Bool} : ∀ (L : List Nat) (a : Act), (∀ j ∈ L, done j = true → vals j = vals' j) → selA dst vals done L a = selA dst vals' done L a
  | [], a, _ => rfl
  | i :: r, a, h => by
    unfold selA
    rw [selA_congrD r _ (fun j hj => h j (List.mem_cons_of_mem _ hj))]
    congr 1
    split
    · rename_i hd
      rw [h i (List.mem_cons_self ..) hd]
    · rfl
theorem wp_region_detg {Γ : Type} {P : Program} {ops : Array Oper} {Q : Exit → Act → World → Prop} {id : Nat} {a0 : Act} {w0 : World} (hm : P.follows .mixedOrders = true)
    (n : Nat) (hn : ops.size = n) (dst : Nat → Option Tmp) (hsz : ∀ j t, j < n → dst j = some t → t < a0.tmps.size)
    (hdist : ∀ j ∈ List.range n, ∀ k ∈ List.range n, j ≠ k → dst j ≠ dst k ∨ dst j = none)
    (T : Γ → Nat → Value) (S : Γ → (Nat → Bool) → World → Prop) (c0 : Γ) (hS : ∀ D : Nat → Bool, (∀ j, D j = false) → S c0 D w0.drew)
    (hstep : ∀ i o, ops[i]? = some o → ∀ (c : Γ) (D : Nat → Bool) a w, S c D w → D i = false → (∀ j oj m, ops[j]? = some oj → waitsB oj m = true → D j = true → D m = true) → (∀ j, waitsB o j = true → D j = true) → (∀ j t, waitsB o j = true → dst j = some t → a.eval (.tmp t) = T c j) → (∀ t, (∀ j, j < n → dst j ≠ some t) → a.eval (.tmp t) = a0.eval (.tmp t)) →
      ∀ K : Act → World → Prop, (∀ c' w', (∀ j, D j = true → T c' j = T c j) → (∀ D' : Nat → Bool, D' i = true → (∀ j, j ≠ i → D' j = D j) → S c' D' w') → K (a.put (dst i) (T c' i)) w') → wpOp P ops Q i K a w)
    (hord : ops.toList.zipIdx.all (fun p => p.1.after.toList.all fun e => !(Region.binds .any e) || decide (e.on < p.2)) = true)
    (hfin : ∀ c w (D : Nat → Bool), (∀ i, i < n → D i = true) → S c D w → Q .normal (selA dst (T c) (fun _ => true) (List.range n) a0) w) :
    (Code.region id ops true).wp P Q a0 w0 := by
  have hnr : (List.range n).Nodup := List.nodup_range
  have hends := ends_of (ops := ops) hn (fun i o ho e he hb => by
    have := each_of (ops := ops) (f := fun o i => o.after.toList.all fun e => !(Region.binds .any e) || decide (e.on < i)) hord i o ho
    rw [List.all_eq_true] at this
    have := this e (by simpa using he)
    rw [hb] at this
    simpa using this)
  refine wp_region_any hm (wpAny_inv (fun done a w => done.size = n ∧ ∃ c, (∀ D : Nat → Bool, (∀ j, D j = done.getD j false) → S c D w) ∧ a = selA dst (T c) (fun i => done.getD i false) (List.range n) a0 ∧ (∀ j oj m, ops[j]? = some oj → waitsB oj m = true → done.getD j false = true → done.getD m false = true)) ?_ ?_ _ _ _ _ ?_ ?_)
  · rintro done a w ⟨hs, c, hSw, ha, hc⟩ i hi
    obtain ⟨h1, o, h2, h3⟩ := mem_ready.1 hi
    have hlt : i < n := by rw [← hn]; exact (Array.getElem?_eq_some_iff.1 h2).1
    have hidn : done.getD i false = false := by
      have hl : i < done.size := by omega
      simp [hl] at h1 ⊢
      exact h1
    have hjn : ∀ j, done.getD j false = true → j < n := fun j hj => by
      rcases Nat.lt_or_ge j done.size with h | h
      · omega
      · simp [Array.getElem?_eq_none h] at hj
    refine hstep i o h2 c (fun j => done.getD j false) a w (hSw _ (fun _ => rfl)) hidn hc (fun j hj => by
      obtain ⟨e, he, hb, rfl⟩ := of_waits hj
      exact h3 e he hb) ?_ ?_ _ ?_
    · intro j t hj ht
      obtain ⟨e, he, hb, rfl⟩ := of_waits hj
      have hd := h3 e he hb
      rw [ha]
      exact selA_at (done := fun i => done.getD i false) hd ht (List.range n) a0 (List.mem_range.2 (hjn _ hd)) hnr hdist (hsz _ t (hjn _ hd) ht)
    · intro t ht
      rw [ha]
      exact selA_else (List.range n) a0 (fun j hj _ => ht j (List.mem_range.1 hj))
    · intro c' w' hT hS'
      refine ⟨by simp [hs], c', fun D' hD' => hS' D' ?_ ?_, ?_, ?_⟩
      · rw [hD' i]
        have hl : i < done.size := by omega
        simp [hl]
      · intro j hj
        rw [hD' j]
        exact getD_set_ne false (Ne.symm hj)
      · rw [ha]
        rw [selA_congrD (vals := T c) (vals' := T c') (List.range n) a0 (fun j _ hd => (hT j hd).symm)]
        have := selA_set (vals := T c') (v := T c' i) (done := fun i => done.getD i false) (done' := fun j => (done.setIfInBounds i true).getD j false) (i := i) hidn (by
          have hl : i < done.size := by omega
          simp [hl]) (fun j hj => getD_set_ne false (Ne.symm hj)) (List.range n) a0 (List.mem_range.2 hlt) hnr hdist
        rw [this]
        exact selA_congr (List.range n) a0 (fun j _ => ⟨by
          by_cases e : j = i
          · subst e; exact upd_at ..
          · exact upd_ne (T c') _ e, rfl⟩)
      · intro j oj m hj hw hd
        by_cases e : j = i
        · subst e
          rw [h2] at hj
          cases hj
          obtain ⟨e, he, hb, rfl⟩ := of_waits hw
          exact getD_set_true (h3 e he hb)
        · rw [getD_set_ne false (Ne.symm e)] at hd
          exact getD_set_true (hc j oj m hj hw hd)
  · rintro done a w ⟨hs, c, hSw, ha, _⟩ hr
    have hall := hends done hs hr
    have hall' : ∀ i, i < n → done.getD i false = true := fun i hi => by
      have h := hall i hi
      have hl : i < done.size := by omega
      simp [hl] at h ⊢
      exact h
    rw [ha, selA_congr (done' := fun _ => true) (vals' := T c) (List.range n) a0 (fun j hj => ⟨rfl, hall' j (List.mem_range.1 hj)⟩)]
    exact hfin c w _ hall' (hSw _ (fun _ => rfl))
  · refine ⟨by simp [hn], c0, fun D hD => hS D (fun j => ?_), ?_, ?_⟩
    · rw [hD j]
      rcases Nat.lt_or_ge j ops.size with h | h
      · simp [h]
      · simp [h]
    · have : ∀ (L : List Nat) (a : Act), selA dst (T c0) (fun i => (Array.replicate ops.size false).getD i false) L a = a := by
        intro L
        induction L with
        | nil => intro a; rfl
        | cons j r ih =>
          intro a
          unfold selA
          rw [if_neg (by
            rcases Nat.lt_or_ge j ops.size with h | h
            · simp [h]
            · simp [h]), ih]
      exact (this _ _).symm
    · intro j oj m _ _ hj
      rcases Nat.lt_or_ge j ops.size with h | h
      · simp [h] at hj
      · simp [h] at hj
  · have : ∀ (L : List Nat) (d : Array Bool), undone d L ≤ L.length := by
      intro L d
      induction L with
      | nil => exact Nat.le_refl _
      | cons j r ih =>
        unfold undone
        rw [List.length_cons]
        split <;> omega
    have := this (List.range ops.size) (Array.replicate ops.size false)
    rwa [List.length_range] at this

section
variable {ops : Array Oper} {Q : Exit → Act → World → Prop} {i : Nat} {o : Oper} {K : Act → World → Prop} {a : Act} {w : World}
theorem op_allocW (ho : ops[i]? = some o) (hg : o.guard = none) {t : Tmp} (hd : o.dst = some t) {ty : TypeId} {cs : List Value} (hop : o.op = .alloc ty) (hz : ∀ w, (zeroValue ty).run Try.prog w = .ok (agv cs) w)
    (hK : K (a.put (some t) (.pointer (some ⟨w.heap.size, 0, none⟩))) (w.alloc (.cells cs.toArray ty))) : wpOp Try.prog ops Q i K a w := by
  refine wpOp_step ho (fun K' hK' => ?_)
  have hw : Region.wanted o (yielded ops a.tmps) = true := by simp [Region.wanted, hg]
  rw [if_pos hw]
  unfold Oper.wp execOp
  simp only [hop, Instr.alloc, newVar, hz, Sem.run_bind, Result.andThen_ok, agv, Value.cells]
  go_simp
  exact hK' _ _ hK
end
end Go.Proofs.Ytdodagpkkjpdiaa
