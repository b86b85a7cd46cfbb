/- A region that draws its order and ends in one operation that waits for all others: what is read may be taken first, though that last one writes where was read. -/
import Derived.Test.YtdodagpkkjpdiaaLeaf
namespace Go.Proofs.Ytdodagpkkjpdiaa
open Go.ChangeShapes Go.WideShapes Go.ChangeAt Go.RowKit
set_option linter.unusedVariables false
set_option linter.unusedSimpArgs false

section
variable {P : Program} {ops : Array Oper} {Q : Exit → Act → World → Prop} {md : Region.Mode} {S : World → Prop} {L : Nat}
/-- Whatever order is picked; behind every operation but the last one S holds. -/
def wpAnyX (P : Program) (md : Region.Mode) (ops : Array Oper) (Q : Exit → Act → World → Prop) (S : World → Prop) (L : Nat) : Nat → Array Bool → Act → World → Prop
  | 0, done, a, w => Region.ready md ops done = [] ∧ Q .normal a w
  | k + 1, done, a, w => (Region.ready md ops done = [] → Q .normal a w) ∧ ∀ i ∈ Region.ready md ops done, wpOp P ops Q i (fun a' w' => (i ≠ L → S w') ∧ wpAnyX P md ops Q S L k (done.setIfInBounds i true) a' w') a w
theorem wpAny_of_X (k : Nat) : ∀ (done : Array Bool) (a : Act) (w : World), wpAnyX P md ops Q S L k done a w → wpAny P md ops Q k done a w := by
  induction k with
  | zero => intro done a w h; exact h
  | succ k ih => intro done a w h; exact ⟨h.1, fun i hi => wpOp_mono (fun a' w' h' => ih _ a' w' h'.2) (h.2 i hi)⟩
/-- The last one waits for number i. -/
def Waits (md : Region.Mode) (ops : Array Oper) (L i : Nat) : Prop := ∃ oL, ops[L]? = some oL ∧ ∃ e ∈ oL.after, Region.binds md e = true ∧ e.on = i
theorem waits_not {done : Array Bool} {i : Nat} (hw : Waits md ops L i) (hi : i ∈ Region.ready md ops done) : L ∉ Region.ready md ops done := by
  intro hL
  obtain ⟨oL, h1, e, he, hb, rfl⟩ := hw
  obtain ⟨_, o', h2, hall⟩ := mem_ready.1 hL
  rw [h1] at h2
  cases h2
  have hyes := hall e he hb
  have hno := (mem_ready.1 hi).1
  rcases Nat.lt_or_ge e.on done.size with hlt | hge
  · simp [hlt] at hno hyes; rw [hno] at hyes; cases hyes
  · simp [Array.getElem?_eq_none hge] at hyes
theorem takeX {i : Nat} {oi : Oper} {v : Value} (hi : ops[i]? = some oi) (hsel : ∀ (j : Nat) (o : Oper) cs b, ops[j]? = some o → o.op ≠ .select cs b)
    (hQ : ∀ c a w, Q (.panic c) (a.put oi.dst v) w → Q (.panic c) a w) (hwt : Waits md ops L i) (hne : i ≠ L) (k : Nat) :
    ∀ (done : Array Bool) (a : Act) (w : World),
      (∀ j oj, ops[j]? = some oj → j ≠ i → done.getD j true = false → (∀ e ∈ oj.after, Region.binds md e = true → e.on ≠ i) → oi.apart ops oj = true) →
      i ∈ Region.ready md ops done → YieldsIf P ops S oi v a → S w →
      wpAnyX P md ops Q S L k (done.setIfInBounds i true) (a.put oi.dst v) w → wpAnyX P md ops Q S L (k + 1) done a w := by
  induction k with
  | zero =>
    intro done a w _ hr hy hS H
    constructor
    · intro h; rw [h] at hr; cases hr
    · intro j hj
      by_cases hji : j = i
      · subst hji; exact hy.wpOp hi hS ⟨fun _ => hS, H⟩
      · have h0 := ready_mono hj hji
        rw [H.1] at h0
        cases h0
  | succ k ih =>
    intro done a w hfree hr hy hS H
    constructor
    · intro h; rw [h] at hr; cases hr
    · intro j hj
      by_cases hji : j = i
      · subst hji; exact hy.wpOp hi hS ⟨fun _ => hS, H⟩
      · have hjL : j ≠ L := fun e => waits_not hwt hr (e ▸ hj)
        obtain ⟨hjun, oj, hoj, hall⟩ := mem_ready.1 hj
        have hfr : oi.apart ops oj = true := by
          refine hfree j oj hoj hji hjun (fun e he hb heq => ?_)
          have hyes := hall e he hb
          have hno := (mem_ready.1 hr).1
          rw [heq] at hyes
          rcases Nat.lt_or_ge i done.size with hlt | hge
          · simp [hlt] at hno hyes; rw [hno] at hyes; cases hyes
          · simp [Array.getElem?_eq_none hge] at hyes
        have hstep := wpOp_putIf hoj hfr (fun cs b => hsel i oi cs b hi) (fun cs b => hsel j oj cs b hoj) hQ hy (H.2 j (ready_mono hj hji))
        refine wpOp_mono (fun a' w' hk => ⟨fun _ => hk.2.1 hjL, ?_⟩) hstep
        refine ih _ a' w' (fun m om hm hmi hun hno => ?_) (ready_mono hr (Ne.symm hji)) hk.1 (hk.2.1 hjL) ?_
        · refine hfree m om hm hmi ?_ hno
          by_cases hjm : j = m
          · subst hjm; exact hjun
          · rw [getD_set_ne true hjm] at hun; exact hun
        · rw [Array.setIfInBounds_comm _ _ hji]; exact hk.2.2
/-- Take number i first. -/
theorem wpX_take {i : Nat} {oi : Oper} {v : Value} {k : Nat} {done : Array Bool} {a : Act} {w : World} (hi : ops[i]? = some oi) (hs : Region.noSelect ops = true) (hf : Region.free md ops done i = true) (hr : (Region.ready md ops done).contains i = true)
    (hQ : ∀ c a w, Q (.panic c) (a.put oi.dst v) w → Q (.panic c) a w) (hwt : Waits md ops L i) (hne : i ≠ L) (hy : YieldsIf P ops S oi v a) (hS : S w)
    (h : wpAnyX P md ops Q S L k (done.setIfInBounds i true) (a.put oi.dst v) w) : wpAnyX P md ops Q S L (k + 1) done a w :=
  takeX hi (Region.noSelect_spec hs) hQ hwt hne k done a w (Region.free_spec hi hf) (by simpa using hr) hy hS h
/-- One alone may come up. -/
theorem wpX_one {i : Nat} {o : Oper} {k : Nat} {done : Array Bool} {a : Act} {w : World} (hr : Region.ready md ops done = [i]) (ho : ops[i]? = some o)
    (h : ∀ K : Act → World → Prop, Shut (∀ a' w', ((i ≠ L → S w') ∧ wpAnyX P md ops Q S L k (done.setIfInBounds i true) a' w') → K a' w') → if Region.wanted o (yielded ops a.tmps) = true then Oper.wp P o a w K Q else K (a.put o.dst undef) w) : wpAnyX P md ops Q S L (k + 1) done a w := by
  constructor
  · intro h0; rw [hr] at h0; cases h0
  · intro j hj
    rw [hr] at hj
    obtain rfl : j = i := by simpa using hj
    exact wpOp_step ho (fun K hK => h K (fun a' w' hh => hK a' w' hh))
/-- Two may come up. -/
theorem wpX_two {i j : Nat} {o o' : Oper} {k : Nat} {done : Array Bool} {a : Act} {w : World} (hr : Region.ready md ops done = [i, j]) (ho : ops[i]? = some o) (ho' : ops[j]? = some o')
    (h : ∀ K : Act → World → Prop, Shut (∀ a' w', ((i ≠ L → S w') ∧ wpAnyX P md ops Q S L k (done.setIfInBounds i true) a' w') → K a' w') → if Region.wanted o (yielded ops a.tmps) = true then Oper.wp P o a w K Q else K (a.put o.dst undef) w)
    (h' : ∀ K : Act → World → Prop, Shut (∀ a' w', ((j ≠ L → S w') ∧ wpAnyX P md ops Q S L k (done.setIfInBounds j true) a' w') → K a' w') → if Region.wanted o' (yielded ops a.tmps) = true then Oper.wp P o' a w K Q else K (a.put o'.dst undef) w) : wpAnyX P md ops Q S L (k + 1) done a w := by
  constructor
  · intro h0; rw [hr] at h0; cases h0
  · intro m hm
    rw [hr] at hm
    rcases (by simpa using hm : m = i ∨ m = j) with rfl | rfl
    · exact wpOp_step ho (fun K hK => h K (fun a' w' hh => hK a' w' hh))
    · exact wpOp_step ho' (fun K hK => h' K (fun a' w' hh => hK a' w' hh))
theorem wpX_done {done : Array Bool} {a : Act} {w : World} (hr : Region.ready md ops done = []) (h : Q .normal a w) (k : Nat) : wpAnyX P md ops Q S L k done a w := by
  cases k with
  | zero => exact ⟨hr, h⟩
  | succ k => exact ⟨fun _ => h, by rw [hr]; simp⟩
theorem wp_region_X {id : Nat} {a : Act} {w : World} (S : World → Prop) (L : Nat) (hm : P.follows .mixedOrders = true) (hS : S w.drew)
    (h : S w.drew → wpAnyX P .any ops Q S L ops.size (Array.replicate ops.size false) a w.drew) : (Code.region id ops true).wp P Q a w :=
  wp_region_any hm (wpAny_of_X _ _ _ _ (h hS))
end
end Go.Proofs.Ytdodagpkkjpdiaa
