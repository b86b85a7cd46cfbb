/- A region that draws its order and whose operations each yield one value; what the memory holds hangs on which are done. -/
import Derived.Test.YtdodagpkkjpdiaaDet
import Derived.Test.YtdodagpkkjpdiaaABase
namespace Go.Proofs.Ytdodagpkkjpdiaa
open Go.ChangeShapes Go.WideShapes Go.ChangeAt Go.RowKit Go.Shelf
set_option linter.unusedVariables false
set_option linter.unusedSimpArgs false

/-- Number j waits for number m. -/
def waitsB (o : Oper) (m : Nat) : Bool := o.after.toList.any fun e => Region.binds .any e && e.on == m
theorem waits_of {o : Oper} {e : Edge} (he : e ∈ o.after) (hb : Region.binds .any e = true) : waitsB o e.on = true := by
  unfold waitsB
  rw [List.any_eq_true]
  exact ⟨e, by simpa using he, by simp [hb]⟩
theorem of_waits {o : Oper} {m : Nat} (h : waitsB o m = true) : ∃ e ∈ o.after, Region.binds .any e = true ∧ e.on = m := by
  unfold waitsB at h
  simp only [List.any_eq_true, Bool.and_eq_true, beq_iff_eq] at h
  obtain ⟨e, he, hbn, h⟩ := h
  exact ⟨e, by simpa using he, hbn, h⟩
theorem wp_region_dets {P : Program} {ops : Array Oper} {Q : Exit → Act → World → Prop} {id : Nat} {a0 : Act} {w0 : World} (hm : P.follows .mixedOrders = true)
    (n : Nat) (hn : ops.size = n) (dst : Nat → Option Tmp) (hsz : ∀ j t, j < n → dst j = some t → t < a0.tmps.size)
    (hdist : ∀ j ∈ List.range n, ∀ k ∈ List.range n, j ≠ k → dst j ≠ dst k ∨ dst j = none)
    (T : Nat → Value) (S : (Nat → Bool) → World → Prop) (hS : ∀ D : Nat → Bool, (∀ j, D j = false) → S D w0.drew)
    (hstep : ∀ i o, ops[i]? = some o → ∀ (D : Nat → Bool) a w, S D w → D i = false → (∀ j oj m, ops[j]? = some oj → waitsB oj m = true → D j = true → D m = true) → (∀ j t, waitsB o j = true → dst j = some t → a.eval (.tmp t) = T j) → (∀ t, (∀ j, j < n → dst j ≠ some t) → a.eval (.tmp t) = a0.eval (.tmp t)) →
      ∀ K : Act → World → Prop, (∀ w', (∀ D' : Nat → Bool, D' i = true → (∀ j, j ≠ i → D' j = D j) → S D' w') → K (a.put (dst i) (T i)) w') → wpOp P ops Q i K a w)
    (hord : ops.toList.zipIdx.all (fun p => p.1.after.toList.all fun e => !(Region.binds .any e) || decide (e.on < p.2)) = true)
    (hfin : ∀ w (D : Nat → Bool), (∀ i, i < n → D i = true) → S D w → Q .normal (selA dst T (fun _ => true) (List.range n) a0) w) :
    (Code.region id ops true).wp P Q a0 w0 := by
  have hnr : (List.range n).Nodup := List.nodup_range
  have hends := ends_of (ops := ops) hn (fun i o ho e he hb => by
    have := each_of (ops := ops) (f := fun o i => o.after.toList.all fun e => !(Region.binds .any e) || decide (e.on < i)) hord i o ho
    rw [List.all_eq_true] at this
    have := this e (by simpa using he)
    rw [hb] at this
    simpa using this)
  refine wp_region_any hm (wpAny_inv (fun done a w => done.size = n ∧ (∀ D : Nat → Bool, (∀ j, D j = done.getD j false) → S D w) ∧ a = selA dst T (fun i => done.getD i false) (List.range n) a0 ∧ (∀ j oj m, ops[j]? = some oj → waitsB oj m = true → done.getD j false = true → done.getD m false = true)) ?_ ?_ _ _ _ _ ?_ ?_)
  · rintro done a w ⟨hs, hSw, ha, hc⟩ i hi
    obtain ⟨h1, o, h2, h3⟩ := mem_ready.1 hi
    have hlt : i < n := by rw [← hn]; exact (Array.getElem?_eq_some_iff.1 h2).1
    have hidn : done.getD i false = false := by
      have hl : i < done.size := by omega
      simp [hl] at h1 ⊢
      exact h1
    have hjn : ∀ j, done.getD j false = true → j < n := fun j hj => by
      rcases Nat.lt_or_ge j done.size with h | h
      · omega
      · simp [Array.getElem?_eq_none h] at hj
    refine hstep i o h2 (fun j => done.getD j false) a w (hSw _ (fun _ => rfl)) hidn hc ?_ ?_ _ ?_
    · intro j t hj ht
      obtain ⟨e, he, hb, rfl⟩ := of_waits hj
      have hd := h3 e he hb
      rw [ha]
      exact selA_at (done := fun i => done.getD i false) hd ht (List.range n) a0 (List.mem_range.2 (hjn _ hd)) hnr hdist (hsz _ t (hjn _ hd) ht)
    · intro t ht
      rw [ha]
      exact selA_else (List.range n) a0 (fun j hj _ => ht j (List.mem_range.1 hj))
    · intro w' hS'
      refine ⟨by simp [hs], fun D' hD' => hS' D' ?_ ?_, ?_, ?_⟩
      · rw [hD' i]
        have hl : i < done.size := by omega
        simp [hl]
      · intro j hj
        rw [hD' j]
        exact getD_set_ne false (Ne.symm hj)
      · rw [ha]
        have := selA_set (vals := T) (v := T i) (done := fun i => done.getD i false) (done' := fun j => (done.setIfInBounds i true).getD j false) (i := i) hidn (by
          have hl : i < done.size := by omega
          simp [hl]) (fun j hj => getD_set_ne false (Ne.symm hj)) (List.range n) a0 (List.mem_range.2 hlt) hnr hdist
        rw [this]
        exact selA_congr (List.range n) a0 (fun j _ => ⟨by
          by_cases e : j = i
          · subst e; exact upd_at ..
          · exact upd_ne T _ e, rfl⟩)
      · intro j oj m hj hw hd
        by_cases e : j = i
        · subst e
          rw [h2] at hj
          cases hj
          obtain ⟨e, he, hb, rfl⟩ := of_waits hw
          exact getD_set_true (h3 e he hb)
        · rw [getD_set_ne false (Ne.symm e)] at hd
          exact getD_set_true (hc j oj m hj hw hd)
  · rintro done a w ⟨hs, hSw, ha, _⟩ hr
    have hall := hends done hs hr
    have hall' : ∀ i, i < n → done.getD i false = true := fun i hi => by
      have h := hall i hi
      have hl : i < done.size := by omega
      simp [hl] at h ⊢
      exact h
    rw [ha, selA_congr (done' := fun _ => true) (vals' := T) (List.range n) a0 (fun j hj => ⟨rfl, hall' j (List.mem_range.1 hj)⟩)]
    exact hfin w _ hall' (hSw _ (fun _ => rfl))
  · refine ⟨by simp [hn], fun D hD => hS D (fun j => ?_), ?_, ?_⟩
    · rw [hD j]
      rcases Nat.lt_or_ge j ops.size with h | h
      · simp [h]
      · simp [h]
    · have : ∀ (L : List Nat) (a : Act), selA dst T (fun i => (Array.replicate ops.size false).getD i false) L a = a := by
        intro L
        induction L with
        | nil => intro a; rfl
        | cons j r ih =>
          intro a
          unfold selA
          rw [if_neg (by
            rcases Nat.lt_or_ge j ops.size with h | h
            · simp [h]
            · simp [h]), ih]
      exact (this _ _).symm
    · intro j oj m _ _ hj
      rcases Nat.lt_or_ge j ops.size with h | h
      · simp [h] at hj
      · simp [h] at hj
  · have : ∀ (L : List Nat) (d : Array Bool), undone d L ≤ L.length := by
      intro L d
      induction L with
      | nil => exact Nat.le_refl _
      | cons j r ih =>
        unfold undone
        rw [List.length_cons]
        split <;> omega
    have := this (List.range ops.size) (Array.replicate ops.size false)
    rwa [List.length_range] at this
section
variable {ops : Array Oper} {Q : Exit → Act → World → Prop} {i : Nat} {o : Oper} {K : Act → World → Prop} {a : Act} {w : World}
theorem op_stoW {P : Program} (ho : ops[i]? = some o) (hg : o.guard = none) (hd : o.dst = none) {w' : World} (hr : (execOp a.eval o).run P w = .ok .skip w') (hK : K a w') : wpOp P ops Q i K a w := by
  refine wpOp_step ho (fun K' hK' => ?_)
  have hw : Region.wanted o (yielded ops a.tmps) = true := by simp [Region.wanted, hg]
  rw [if_pos hw]
  unfold Oper.wp
  rw [hr]
  exact hK' _ _ (by rw [hd]; exact hK)
theorem run_loadS {ev : Operand → Value} {ty : TypeId} {cs : List Value} (hC : IsS ty cs.length) {x : Operand} (ho : o.op = .load ty x) {g : Nat} (hx : ev x = .pointer (some ⟨g, 0, none⟩)) {t : TypeId} (hb : Box w g t cs) : (execOp ev o).run Try.prog w = .ok (.value (agv cs)) w := by
  obtain ⟨fs, hu, hi⟩ := hC
  have h := run_loadVar_row (P := Try.prog) w g t ty cs.toArray (0, 0) _ hb hu rfl (by simpa using hi)
  unfold execOp
  simp only [ho, hx, Instr.loadAt, Instr.sureAddr, Sem.run_bind, Sem.run_pure, Result.andThen_ok, h, agv]
theorem run_storeS {ev : Operand → Value} {ty : TypeId} {x y : Operand} (ho : o.op = .store ty x y) {g : Nat} (hx : ev x = .pointer (some ⟨g, 0, none⟩)) {cs : List Value} (hy : ev y = agv cs) {t : TypeId} {old : List Value} (hb : Box w g t old) (hl : old.length = cs.length) (hC : IsS ty cs.length) (h1 : OneS cs) : (execOp ev o).run Try.prog w = .ok .skip (w.setRow g cs.toArray) := by
  obtain ⟨fs, hu, hi⟩ := hC
  unfold execOp
  simp only [ho, hx, hy, agv, Instr.storeAt, Instr.sureAddr, Sem.run_bind, Sem.run_pure, Result.andThen_ok, run_storeVar_row w g t ty old.toArray cs.toArray hb (by simpa using hi) (by simpa using hl) h1]
theorem run_buildS {ev : Operand → Value} {ty : TypeId} {ps : List (Nat × Operand)} (ho : o.op = .build ty ps.toArray) {cs : List Value} (hb : Try.prog.built ty (ps.map fun (i, x) => (i, ev x)) = some cs.toArray) : (execOp ev o).run Try.prog w = .ok (.value (agv cs)) w := by
  have hb' : Try.prog.built ty (ps.toArray.map fun (i, x) => (i, ev x)).toList = some cs.toArray := by simpa using hb
  unfold execOp
  simp only [ho, Sem.run_bind, run_build w ty _ cs.toArray hb', Result.andThen_ok, agv, Sem.run_pure]
end
theorem stoR {w : World} {g : Nat} {t : TypeId} {old : List Value} (cs : List Value) (hb : Box w g t old) : Sto w g (w.setRow g cs.toArray) ∧ Box (w.setRow g cs.toArray) g t cs := ⟨sto_row _ _ _, by unfold Box; exact setRow_heap w g old.toArray _ t _ hb⟩
theorem enter8 (args : Array Value) (w : World) : (callFunc 8 args).run Try.prog w = .ok (.enter 8 args) w := by kernel_rfl
theorem enter9 (args : Array Value) (w : World) : (callFunc 9 args).run Try.prog w = .ok (.enter 9 args) w := by kernel_rfl
theorem enter10 (args : Array Value) (w : World) : (callFunc 10 args).run Try.prog w = .ok (.enter 10 args) w := by kernel_rfl
theorem enter14 (args : Array Value) (w : World) : (callFunc 14 args).run Try.prog w = .ok (.enter 14 args) w := by kernel_rfl
end Go.Proofs.Ytdodagpkkjpdiaa
