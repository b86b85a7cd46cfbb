/- A region that draws its order, by an invariant. -/
import Derived.Test.YtdodagpkkjpdiaaLast
namespace Go.Proofs.Ytdodagpkkjpdiaa
open Go.ChangeShapes Go.WideShapes Go.ChangeAt Go.RowKit Go.Shelf
set_option linter.unusedVariables false
set_option linter.unusedSimpArgs false

section
variable {P : Program} {ops : Array Oper} {Q : Exit → Act → World → Prop} {md : Region.Mode}
/-- How many of these are not done. -/
def undone (done : Array Bool) : List Nat → Nat
  | [] => 0
  | i :: r => (if done.getD i true = false then 1 else 0) + undone done r
theorem getD_set_same (done : Array Bool) (i : Nat) : (done.setIfInBounds i true).getD i true = true := by
  rcases Nat.lt_or_ge i done.size with h | h
  · simp [h]
  · simp [h]
theorem undone_le (done : Array Bool) (i : Nat) : ∀ L, undone (done.setIfInBounds i true) L ≤ undone done L
  | [] => Nat.le_refl _
  | j :: r => by
    have ih := undone_le done i r
    unfold undone
    by_cases h : i = j
    · subst h
      rw [getD_set_same, if_neg (by simp)]
      omega
    · rw [getD_set_ne true h]
      omega
theorem undone_lt {done : Array Bool} {i : Nat} (hi : done.getD i true = false) : ∀ {L}, i ∈ L → undone (done.setIfInBounds i true) L < undone done L
  | j :: r, hm => by
    unfold undone
    by_cases h : i = j
    · subst h
      have := undone_le done i r
      rw [getD_set_same, if_neg (by simp), if_pos hi]
      omega
    · have ih := undone_lt hi (L := r) (by simpa [h] using hm)
      rw [getD_set_ne true h]
      omega
/-- A region, by an invariant over what is done. -/
theorem wpAny_inv (J : Array Bool → Act → World → Prop)
    (hstep : ∀ done a w, J done a w → ∀ i ∈ Region.ready md ops done, wpOp P ops Q i (fun a' w' => J (done.setIfInBounds i true) a' w') a w)
    (hfin : ∀ done a w, J done a w → Region.ready md ops done = [] → Q .normal a w) :
    ∀ (k : Nat) (done : Array Bool) (a : Act) (w : World), J done a w → undone done (List.range ops.size) ≤ k → wpAny P md ops Q k done a w := by
  intro k
  induction k with
  | zero =>
    intro done a w hJ hk
    have hr : Region.ready md ops done = [] := by
      apply List.eq_nil_iff_forall_not_mem.2
      intro i hi
      obtain ⟨h1, o, h2, _⟩ := mem_ready.1 hi
      have hlt : i < ops.size := (Array.getElem?_eq_some_iff.1 h2).1
      have := undone_lt h1 (L := List.range ops.size) (List.mem_range.2 hlt)
      omega
    exact ⟨hr, hfin done a w hJ hr⟩
  | succ k ih =>
    intro done a w hJ hk
    refine ⟨fun hr => hfin done a w hJ hr, fun i hi => ?_⟩
    obtain ⟨h1, o, h2, _⟩ := mem_ready.1 hi
    have hlt : i < ops.size := (Array.getElem?_eq_some_iff.1 h2).1
    have := undone_lt h1 (L := List.range ops.size) (List.mem_range.2 hlt)
    exact wpOp_mono (fun a' w' h' => ih _ a' w' h' (by omega)) (hstep done a w hJ i hi)
end
/-! ### Slots -/
theorem put_comm (a : Act) {d d' : Option Tmp} (v v' : Value) (h : d ≠ d' ∨ d = none) : (a.put d v).put d' v' = (a.put d' v').put d v := by
  cases d with
  | none => rfl
  | some x =>
    cases d' with
    | none => rfl
    | some y =>
      have hxy : x ≠ y := fun e => by
        rcases h with h | h
        · exact h (by rw [e])
        · cases h
      simp only [Act.put]
      rw [Array.setIfInBounds_comm _ _ hxy]
def upd (f : Nat → Value) (i : Nat) (v : Value) : Nat → Value := fun j => if j = i then v else f j
theorem upd_at (f : Nat → Value) (i : Nat) (v : Value) : upd f i v i = v := if_pos rfl
theorem upd_ne (f : Nat → Value) {i j : Nat} (v : Value) (h : j ≠ i) : upd f i v j = f j := if_neg h
/-- The slots, where some are done. -/
def selA (dst : Nat → Option Tmp) (vals : Nat → Value) (done : Nat → Bool) : List Nat → Act → Act
  | [], a => a
  | i :: r, a => selA dst vals done r (if done i = true then a.put (dst i) (vals i) else a)
theorem put_size (a : Act) (d : Option Tmp) (v : Value) : (a.put d v).tmps.size = a.tmps.size := by cases d <;> simp [Act.put]
theorem selA_size (dst : Nat → Option Tmp) (vals : Nat → Value) (done : Nat → Bool) : ∀ (L : List Nat) (a : Act), (selA dst vals done L a).tmps.size = a.tmps.size
  | [], a => rfl
  | i :: r, a => by
    unfold selA
    rw [selA_size dst vals done r]
    split
    · exact put_size ..
    · rfl
theorem selA_push {dst : Nat → Option Tmp} {vals : Nat → Value} {done : Nat → Bool} {d : Option Tmp} {v : Value} : ∀ (L : List Nat) (a : Act), (∀ j ∈ L, d ≠ dst j ∨ d = none) → (selA dst vals done L a).put d v = selA dst vals done L (a.put d v)
  | [], a, _ => rfl
  | i :: r, a, h => by
    unfold selA
    rw [selA_push r _ (fun j hj => h j (List.mem_cons_of_mem _ hj))]
    congr 1
    split
    · rcases h i (List.mem_cons_self ..) with e | e
      · exact put_comm a _ _ (.inl (Ne.symm e))
      · subst e; rfl
    · rfl
theorem selA_congr {dst : Nat → Option Tmp} {vals vals' : Nat → Value} {done done' : Nat → Bool} : ∀ (L : List Nat) (a : Act), (∀ j ∈ L, vals j = vals' j ∧ done j = done' j) → selA dst vals done L a = selA dst vals' done' L a
  | [], a, _ => rfl
  | i :: r, a, h => by
    unfold selA
    rw [(h i (List.mem_cons_self ..)).1, (h i (List.mem_cons_self ..)).2]
    exact selA_congr r _ (fun j hj => h j (List.mem_cons_of_mem _ hj))
/-- Number i is done, too. -/
theorem selA_set {dst : Nat → Option Tmp} {vals : Nat → Value} {done done' : Nat → Bool} {i : Nat} {v : Value} (hd : done i = false) (hd' : done' i = true) (ho : ∀ j, j ≠ i → done' j = done j) :
    ∀ (L : List Nat) (a : Act), i ∈ L → L.Nodup → (∀ j ∈ L, ∀ k ∈ L, j ≠ k → dst j ≠ dst k ∨ dst j = none) → (selA dst vals done L a).put (dst i) v = selA dst (upd vals i v) done' L a
  | j :: r, a, hi, hn, hD => by
    obtain ⟨hj, hr⟩ := List.nodup_cons.1 hn
    by_cases h : j = i
    · subst h
      unfold selA
      rw [hd, hd', if_neg (by simp), if_pos rfl, upd_at]
      rw [selA_push r a (fun k hk => hD j (List.mem_cons_self ..) k (List.mem_cons_of_mem _ hk) (fun e => hj (e ▸ hk)))]
      exact selA_congr r _ (fun k hk => ⟨(upd_ne vals v (fun (e : k = j) => hj (e ▸ hk))).symm, (ho k (fun (e : k = j) => hj (e ▸ hk))).symm⟩)
    · unfold selA
      rw [ho j h, upd_ne vals v h]
      exact selA_set hd hd' ho r _ (by simpa [Ne.symm h] using hi) hr (fun x hx y hy => hD x (List.mem_cons_of_mem _ hx) y (List.mem_cons_of_mem _ hy))
theorem selA_else {dst : Nat → Option Tmp} {vals : Nat → Value} {done : Nat → Bool} {t : Tmp} : ∀ (L : List Nat) (a : Act), (∀ j ∈ L, done j = true → dst j ≠ some t) → (selA dst vals done L a).eval (.tmp t) = a.eval (.tmp t)
  | [], a, _ => rfl
  | i :: r, a, h => by
    unfold selA
    rw [selA_else r _ (fun j hj => h j (List.mem_cons_of_mem _ hj))]
    split
    · rename_i hd
      have := h i (List.mem_cons_self ..) hd
      cases e : dst i with
      | none => rfl
      | some x =>
        have hx : x ≠ t := fun e2 => this (by rw [e, e2])
        simp [Act.eval, Act.put, Array.getElem?_setIfInBounds_ne hx]
    · rfl
theorem selA_at {dst : Nat → Option Tmp} {vals : Nat → Value} {done : Nat → Bool} {i : Nat} {t : Tmp} (hd : done i = true) (ht : dst i = some t) :
    ∀ (L : List Nat) (a : Act), i ∈ L → L.Nodup → (∀ j ∈ L, ∀ k ∈ L, j ≠ k → dst j ≠ dst k ∨ dst j = none) → t < a.tmps.size → (selA dst vals done L a).eval (.tmp t) = vals i
  | j :: r, a, hi, hn, hD, hs => by
    obtain ⟨hj, hr⟩ := List.nodup_cons.1 hn
    unfold selA
    by_cases h : j = i
    · subst h
      rw [hd, if_pos rfl, selA_else r _ (fun k hk _ e => ?_)]
      · rw [ht]
        simp [Act.eval, Act.put, hs]
      · rcases hD j (List.mem_cons_self ..) k (List.mem_cons_of_mem _ hk) (fun e2 => hj (e2 ▸ hk)) with e3 | e3
        · exact e3 (by rw [ht, e])
        · rw [ht] at e3; cases e3
    · refine selA_at hd ht r _ (by simpa [Ne.symm h] using hi) hr (fun x hx y hy => hD x (List.mem_cons_of_mem _ hx) y (List.mem_cons_of_mem _ hy)) ?_
      split
      · rw [put_size]; exact hs
      · exact hs
/-! ### The law -/
/-- What is known where number i is to be done: D is what is done. -/
structure KnownR (dst : Nat → Option Tmp) (F : Nat → (Nat → Value) → World → Prop) (S : World → Prop) (n : Nat) (a0 : Act) (D : Nat → Prop) (vals : Nat → Value) (a : Act) (w : World) : Prop where
  fact : ∀ j, D j → F j vals w
  slot : ∀ j t, D j → dst j = some t → a.eval (.tmp t) = vals j
  els : ∀ t, (∀ j, j < n → dst j ≠ some t) → a.eval (.tmp t) = a0.eval (.tmp t)
  all : S w
  lt : ∀ j, D j → j < n
theorem wp_region_slots {P : Program} {ops : Array Oper} {Q : Exit → Act → World → Prop} {id : Nat} {a0 : Act} {w0 : World} (hm : P.follows .mixedOrders = true)
    (n : Nat) (hn : ops.size = n) (dst : Nat → Option Tmp) (hsz : ∀ j t, j < n → dst j = some t → t < a0.tmps.size)
    (hdist : ∀ j ∈ List.range n, ∀ k ∈ List.range n, j ≠ k → dst j ≠ dst k ∨ dst j = none)
    (F : Nat → (Nat → Value) → World → Prop) (S : World → Prop) (dp : Nat → List Nat)
    (hdp : ∀ i o, ops[i]? = some o → ∀ m ∈ dp i, ∃ e ∈ o.after, Region.binds .any e = true ∧ e.on = m)
    (hloc : ∀ i vals vals' w, i < n → vals i = vals' i → (∀ m ∈ dp i, vals m = vals' m) → F i vals w → F i vals' w)
    (hS : S w0.drew)
    (hstep : ∀ i o, ops[i]? = some o → ∀ (D : Nat → Prop) vals a w, KnownR dst F S n a0 D vals a w → (∀ e ∈ o.after, Region.binds .any e = true → D e.on) → ¬ D i →
      ∀ K : Act → World → Prop, (∀ v w', S w' → F i (upd vals i v) w' → (∀ j, D j → F j vals w → F j vals w') → K (a.put (dst i) v) w') → wpOp P ops Q i K a w)
    (hends : ∀ done : Array Bool, done.size = n → Region.ready .any ops done = [] → ∀ i, i < n → done.getD i true = true)
    (hfin : ∀ vals w, S w → (∀ i, i < n → F i vals w) → Q .normal (selA dst vals (fun _ => true) (List.range n) a0) w) :
    (Code.region id ops true).wp P Q a0 w0 := by
  have hnr : (List.range n).Nodup := List.nodup_range
  refine wp_region_any hm (wpAny_inv (fun done a w => done.size = n ∧ S w ∧ ∃ vals, a = selA dst vals (fun i => done.getD i false) (List.range n) a0 ∧ (∀ j, done.getD j false = true → F j vals w) ∧ (∀ j, done.getD j false = true → ∀ m ∈ dp j, done.getD m false = true)) ?_ ?_ _ _ _ _ ?_ ?_)
  · rintro done a w ⟨hs, hSw, vals, ha, hF, hc⟩ i hi
    obtain ⟨h1, o, h2, h3⟩ := mem_ready.1 hi
    have hlt : i < n := by rw [← hn]; exact (Array.getElem?_eq_some_iff.1 h2).1
    have hidn : done.getD i false = false := by
      have hl : i < done.size := by omega
      simp [hl] at h1 ⊢
      exact h1
    have hjn : ∀ j, done.getD j false = true → j < n := fun j hj => by
      rcases Nat.lt_or_ge j done.size with h | h
      · omega
      · simp [Array.getElem?_eq_none h] at hj
    refine hstep i o h2 (fun j => done.getD j false = true) vals a w ⟨hF, ?_, ?_, hSw, hjn⟩ h3 (by simp only [hidn]; simp) _ ?_
    · intro j t hj ht
      rw [ha]
      exact selA_at (done := fun i => done.getD i false) hj ht (List.range n) a0 (List.mem_range.2 (hjn j hj)) hnr hdist (hsz j t (hjn j hj) ht)
    · intro t ht
      rw [ha]
      exact selA_else (List.range n) a0 (fun j hj _ => ht j (List.mem_range.1 hj))
    · intro v w' hS' hFi hk
      refine ⟨by simp [hs], hS', upd vals i v, ?_, ?_, ?_⟩
      · rw [ha]
        refine selA_set (done := fun i => done.getD i false) hidn ?_ ?_ (List.range n) a0 (List.mem_range.2 hlt) hnr hdist
        · have hl : i < done.size := by omega
          simp [hl]
        · intro j hj
          exact getD_set_ne false (Ne.symm hj)
      · intro j hj
        by_cases h : j = i
        · subst h; exact hFi
        · rw [getD_set_ne false (Ne.symm h)] at hj
          refine hloc j vals (upd vals i v) w' (hjn j hj) (upd_ne vals v h).symm (fun m hm => ?_) (hk j hj (hF j hj))
          refine (upd_ne vals v ?_).symm
          rintro rfl
          have := hc j hj m hm
          rw [hidn] at this
          cases this
      · intro j hj m hm
        by_cases h : j = i
        · subst h
          obtain ⟨e, he, hb, rfl⟩ := hdp j o h2 m hm
          exact getD_set_true (h3 e he hb)
        · rw [getD_set_ne false (Ne.symm h)] at hj
          exact getD_set_true (hc j hj m hm)
  · rintro done a w ⟨hs, hSw, vals, ha, hF, _⟩ hr
    have hall := hends done hs hr
    have hall' : ∀ i, i < n → done.getD i false = true := fun i hi => by
      have h := hall i hi
      have hl : i < done.size := by omega
      simp [hl] at h ⊢
      exact h
    rw [ha, selA_congr (done' := fun _ => true) (vals' := vals) (List.range n) a0 (fun j hj => ⟨rfl, hall' j (List.mem_range.1 hj)⟩)]
    exact hfin vals w hSw (fun i hi => hF i (hall' i hi))
  · refine ⟨by simp [hn], hS, fun _ => undef, ?_, ?_, ?_⟩
    · have : ∀ (L : List Nat) (a : Act), selA dst (fun _ => undef) (fun i => (Array.replicate ops.size false).getD i false) L a = a := by
        intro L
        induction L with
        | nil => intro a; rfl
        | cons j r ih =>
          intro a
          unfold selA
          rw [if_neg (by
            rcases Nat.lt_or_ge j ops.size with h | h
            · simp [h]
            · simp [h]), ih]
      exact (this _ _).symm
    · intro j hj
      rcases Nat.lt_or_ge j ops.size with h | h
      · simp [h] at hj
      · simp [h] at hj
    · intro j hj
      rcases Nat.lt_or_ge j ops.size with h | h
      · simp [h] at hj
      · simp [h] at hj
  · have : ∀ (L : List Nat) (d : Array Bool), undone d L ≤ L.length := by
      intro L d
      induction L with
      | nil => exact Nat.le_refl _
      | cons j r ih =>
        unfold undone
        rw [List.length_cons]
        split <;> omega
    have := this (List.range ops.size) (Array.replicate ops.size false)
    rwa [List.length_range] at this
end Go.Proofs.Ytdodagpkkjpdiaa
