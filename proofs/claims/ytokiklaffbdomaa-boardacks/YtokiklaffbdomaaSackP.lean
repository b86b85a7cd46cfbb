/- What Sack makes of records: plain. -/
import Derived.Test.YtokiklaffbdomaaWithin
import Derived.Test.YtokiklaffbdomaaAck
namespace Go.Proofs.Ytokiklaffbdomaa
open Go.RowKit
set_option linter.unusedVariables false

open Sp (Tm)
def sackR (x : Rc) : Rc := ⟨x.f, x.t, x.fin, x.sent, x.tx, true, false, false, x.gv, x.ga, x.fa, x.idl⟩
def sackF (sp : List Tm) (x : Rc) : Rc := if freshB sp x = true then sackR x else x
def sackL (ts : List Rc) (sp : List Tm) : List Rc := if okB ts = true then ts.map (sackF sp) else []
def freshL (ts : List Rc) (sp : List Tm) : List Rc := if okB ts = true then ts.filter (freshB sp) else []
def mark (pre : List (Nat × Rc)) (ts : List Rc) : List Rc := pre.foldl (fun l q => l.set q.1 (sackR (nth l q.1))) ts
theorem mark_snoc (pre : List (Nat × Rc)) (q : Nat × Rc) (ts : List Rc) : mark (pre ++ [q]) ts = (mark pre ts).set q.1 (sackR (nth (mark pre ts) q.1)) := by simp [mark]
theorem mark_len (pre : List (Nat × Rc)) (ts : List Rc) : (mark pre ts).length = ts.length := by
  induction pre generalizing ts with
  | nil => rfl
  | cons q r ih => show (mark r (ts.set q.1 _)).length = _; rw [ih]; simp
theorem mark_take (sp : List Tm) (ts : List Rc) : ∀ i, i ≤ ts.length → mark (sel (freshB sp) 0 (ts.take i)) ts = (ts.take i).map (sackF sp) ++ ts.drop i
  | 0, _ => by simp [sel, mark]
  | i + 1, hi => by
    have ih := mark_take sp ts i (by omega)
    have h : i < ts.length := by omega
    have e : ts.drop i = nth ts i :: ts.drop (i + 1) := by
      rw [List.drop_eq_getElem_cons h]; simp [nth, h]
    have e2 : i - ((ts.take i).map (sackF sp)).length = 0 := by simp; omega
    have e3 : nth ((ts.take i).map (sackF sp) ++ ts.drop i) i = nth ts i := by
      rw [nth_append_right (by simp; omega), e2]; simp [nth]
    rw [sel_take h]
    by_cases hp : freshB sp (nth ts i) = true
    · rw [if_pos hp, mark_snoc, ih, e3, take_nth h, e, List.set_append_right _ _ (by simp; omega), e2, List.set_cons_zero]
      simp [sackF, hp]
    · rw [if_neg hp, List.append_nil, ih, take_nth h, e]
      simp [sackF, hp]
theorem mark_all (sp : List Tm) (ts : List Rc) : mark (sel (freshB sp) 0 ts) ts = ts.map (sackF sp) := by
  have := mark_take sp ts ts.length (Nat.le_refl _)
  simpa using this
theorem sel_mem {p : Rc → Bool} : ∀ {l : List Rc} {i : Nat} {q : Nat × Rc}, q ∈ sel p i l → i ≤ q.1 ∧ q.1 < i + l.length
  | [], i, q, h => by simp [sel] at h
  | x :: l, i, q, h => by
    rw [sel] at h
    split at h
    · rcases List.mem_cons.1 h with rfl | h
      · simp
      · have := sel_mem h; simp; omega
    · have := sel_mem h; simp; omega
def SackSays (ts : List Rc) (sp : List Tm) (w : World) (e : Ending) (W' : World) : Prop :=
  ∃ va vc vb vd, e = .returned (.tuple #[.slice va (sackL ts sp).length vc, .slice vb (freshL ts sp).length vd, .int .i64 (chkI ts)]) ∧ RowR W' w.heap.size va (sackL ts sp).length vc (sackL ts sp) ∧ RowR W' w.heap.size vb (freshL ts sp).length vd (freshL ts sp) ∧ RowKit.Below w.heap.size w W'
theorem tims_same {X Y : World} {va : Option Addr} {rs : List Tm} (h : Sp.TimsAt X va rs) (hs : ∀ b o, va = some ⟨b, o, none⟩ → 0 < rs.length → Y.heap[b]? = X.heap[b]?) : Sp.TimsAt Y va rs := by
  refine ⟨h.1, fun j hj => ?_⟩
  obtain ⟨b, o, e, h1, h2⟩ := h.2 j hj
  have hb := hs b o e (by omega)
  exact ⟨b, o, e, (World.cell?_of_block (w := X) hb).trans h1, (World.cell?_of_block (w := X) hb).trans h2⟩
theorem tims_lt {X : World} {va : Option Addr} {rs : List Tm} (h : Sp.TimsAt X va rs) {b o : Nat} (e : va = some ⟨b, o, none⟩) (h0 : 0 < rs.length) : b < X.heap.size := by
  obtain ⟨b', o', e', h1, _⟩ := h.2 0 h0
  rw [e] at e'; cases e'
  exact lt_of_cell h1
end Go.Proofs.Ytokiklaffbdomaa
