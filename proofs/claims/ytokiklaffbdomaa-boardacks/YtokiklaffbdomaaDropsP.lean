/- All lost, and sent again one by one: plain. -/
import Derived.Test.YtokiklaffbdomaaAgainP
namespace Go.Proofs.Ytokiklaffbdomaa
open Go.RowKit
set_option linter.unusedVariables false

def backR (now : Int) (x : Rc) : Rc := againR (dropR x) now
def backL (now : Int) (ts : List Rc) (i : Nat) : List Rc := (ts.take i).map (backR now) ++ (ts.drop i).map dropR
theorem backL_len (now : Int) (ts : List Rc) (i : Nat) : (backL now ts i).length = ts.length := by simp [backL]; omega
theorem backL_nth (now : Int) {ts : List Rc} {i k : Nat} (hk : k < ts.length) : nth (backL now ts i) k = if k < i then backR now (nth ts k) else dropR (nth ts k) := by
  have e := nth_lt hk
  unfold backL
  by_cases h : k < i
  · rw [if_pos h, nth_append_left (by simp; omega)]
    unfold nth
    rw [List.getElem?_map, List.getElem?_take_of_lt h, e]; rfl
  · rw [if_neg h, nth_append_right (by simp; omega)]
    unfold nth
    have e2 : i + (k - ((ts.take i).map (backR now)).length) = k := by simp; omega
    rw [List.getElem?_map, List.getElem?_drop, e2, e]; rfl
theorem dropR_ok {x : Rc} (h : okR x = true) : okR (dropR x) = true := by
  obtain ⟨h1, h2, h3, h4, h5, h6, h7, h8, h9, h10⟩ := okR_out h
  exact okR_in ⟨h1, h2, h3, h4⟩ h5 h6 h7 h8 (fun _ => rfl) (fun e => by cases e)
theorem back_ok {ts : List Rc} (h : okB ts = true) {now : Int} (hn : tmB now = true) (i : Nat) : okB (backL now ts i) = true := by
  obtain ⟨h1, h2⟩ := okB_iff.1 h
  refine okB_iff.2 ⟨by rw [backL_len]; exact h1, fun k hk => ?_⟩
  rw [backL_len] at hk
  have h3 := okAt_iff.1 (h2 k hk)
  have key : ∀ m, m < ts.length → (nth (backL now ts i) m).f = (nth ts m).f ∧ (nth (backL now ts i) m).t = (nth ts m).t ∧ (nth (backL now ts i) m).fin = (nth ts m).fin := fun m hm => by
    rw [backL_nth now hm]; split <;> exact ⟨rfl, rfl, rfl⟩
  refine okAt_iff.2 ⟨?_, ?_⟩
  · rw [backL_nth now hk]
    split
    · exact againR_ok (dropR_ok h3.1) hn
    · exact dropR_ok h3.1
  · rw [(key k hk).1, (key (k - 1) (by omega)).2.1, (key (k - 1) (by omega)).2.2]
    exact h3.2
theorem back_step {ts : List Rc} {now : Int} {i : Nat} (hi : i < ts.length) : (backL now ts i).set i (againR (nth (backL now ts i) i) now) = backL now ts (i + 1) := by
  apply nth_ext (by rw [List.length_set, backL_len, backL_len])
  intro k hk
  rw [List.length_set, backL_len] at hk
  by_cases e : k = i
  · subst e
    rw [nth_set_self (by rw [backL_len]; exact hi), backL_nth now hi, backL_nth now hi, if_neg (by omega), if_pos (by omega)]; rfl
  · rw [nth_set_other e, backL_nth now hk, backL_nth now hk]
    by_cases h : k < i
    · rw [if_pos h, if_pos (by omega)]
    · rw [if_neg h, if_neg (by omega)]
theorem back_again {ts : List Rc} (h : okB ts = true) {now : Int} (hn : tmB now = true) {i : Nat} (hi : i < ts.length) : againL (backL now ts i) i now = backL now ts (i + 1) ∧ againE (backL now ts i) i now = 0 := by
  have hm : mayB (backL now ts i) i now = true := by
    unfold mayB; rw [hn, Bool.and_true, decide_eq_true_eq, backL_len]; omega
  unfold againL againE
  rw [if_pos (back_ok h hn i), if_pos hm, if_pos (back_ok h hn i), if_pos hm, Int.toNat_natCast]
  exact ⟨back_step hi, rfl⟩
theorem filter_back {ts : List Rc} {now : Int} (hk : ∀ x ∈ ts, True) (i : Nat) : sizeL ((backL now ts i).filter pipeB) = sizeL (ts.take i) := by
  unfold backL
  rw [List.filter_append, sizeL_append]
  have h1 : ∀ l : List Rc, (l.map (backR now)).filter pipeB = l.map (backR now) := fun l => by
    rw [List.filter_eq_self]
    intro x hx
    obtain ⟨y, _, rfl⟩ := List.mem_map.1 hx
    rfl
  have h2 : ∀ l : List Rc, (l.map dropR).filter pipeB = [] := fun l => by
    rw [List.filter_eq_nil_iff]
    intro x hx
    obtain ⟨y, _, rfl⟩ := List.mem_map.1 hx
    simp [pipeB, dropR]
  have h3 : ∀ l : List Rc, sizeL (l.map (backR now)) = sizeL l := fun l => by
    induction l with
    | nil => rfl
    | cons a r ih => rw [List.map_cons, sizeL, sizeL, ih]; rfl
  rw [h1, h2, h3]; simp [sizeL]
theorem back_pipe {ts : List Rc} (h : okB ts = true) {now : Int} (hn : tmB now = true) (i : Nat) : cntB pipeB (backL now ts i) = sizeL (ts.take i) := by
  unfold cntB; rw [if_pos (back_ok h hn i), filter_back (fun _ _ => trivial)]
theorem back_sacked {ts : List Rc} (h : okB ts = true) {now : Int} (hn : tmB now = true) : cntN sackB (backL now ts 0) = 0 := by
  unfold cntN; rw [if_pos (back_ok h hn 0)]
  have : (backL now ts 0).filter sackB = [] := by
    rw [List.filter_eq_nil_iff]
    intro x hx
    simp only [backL, List.take_zero, List.map_nil, List.nil_append, List.drop_zero] at hx
    obtain ⟨y, _, rfl⟩ := List.mem_map.1 hx
    simp [sackB, dropR]
  rw [this]; rfl
theorem sel_none {p : Rc → Bool} : ∀ (l : List Rc) (i : Nat), (∀ x ∈ l, p x = false) → sel p i l = []
  | [], _, _ => rfl
  | x :: l, i, h => by
    rw [sel, if_neg (by rw [h x List.mem_cons_self]; decide)]
    exact sel_none l (i + 1) (fun y hy => h y (List.mem_cons_of_mem _ hy))
theorem back_lost {ts : List Rc} (h : okB ts = true) {now : Int} (hn : tmB now = true) (i : Nat) : lostI (backL now ts i) = if i < ts.length then (i : Int) else -1 := by
  unfold lostI
  rw [if_pos (back_ok h hn i)]
  have e : sel (fun x => x.lo && !x.ag) 0 (backL now ts i) = sel (fun x => x.lo && !x.ag) i ((ts.drop i).map dropR) ∨ ts.length ≤ i := by
    rcases Nat.lt_or_ge i ts.length with hi | hi
    · left
      unfold backL
      rw [sel_append, sel_none ((ts.take i).map (backR now)) 0 (fun x hx => by
        obtain ⟨y, _, rfl⟩ := List.mem_map.1 hx
        rfl)]
      simp only [List.nil_append, List.length_map, List.length_take]
      rw [show 0 + min i ts.length = i from by omega]
    · exact .inr hi
  rcases Nat.lt_or_ge i ts.length with hi | hi
  · rcases e with e | e
    · rw [e, if_pos hi]
      have e2 : ts.drop i = nth ts i :: ts.drop (i + 1) := by rw [List.drop_eq_getElem_cons hi]; simp [nth, hi]
      rw [e2, List.map_cons, sel, if_pos (by simp [dropR])]
    · omega
  · rw [if_neg (by omega)]
    have : sel (fun x => x.lo && !x.ag) 0 (backL now ts i) = [] := sel_none _ 0 (fun x hx => by
      unfold backL at hx
      rw [List.drop_eq_nil_of_le hi] at hx
      simp only [List.map_nil, List.append_nil] at hx
      obtain ⟨y, _, rfl⟩ := List.mem_map.1 hx
      rfl)
    rw [this]
theorem back_zero {ts : List Rc} (h : okB ts = true) (now : Int) : dropL ts = backL now ts 0 := by
  unfold dropL backL; rw [if_pos h]; simp
theorem size_take_bound {ts : List Rc} (h : okB ts = true) (i : Nat) : 0 ≤ sizeL (ts.take i) ∧ sizeL (ts.take i) ≤ 1125899906842625 := by
  have h1 : ∀ x ∈ ts.take i, x.f ≤ x.t := fun x hx => okB_le h x (List.mem_of_mem_take hx)
  have h2 : ∀ x ∈ ts.drop i, x.f ≤ x.t := fun x hx => okB_le h x (List.mem_of_mem_drop hx)
  have h3 := sizeL_pos h1
  have h4 := sizeL_pos h2
  have h5 := size_all h
  rw [← List.take_append_drop i ts, sizeL_append] at h5
  exact ⟨h3, by omega⟩
end Go.Proofs.Ytokiklaffbdomaa
