/- What rate's calls answer, in plain numbers. -/
import Derived.Test.YtdgiapeniafklaaSLeaf
namespace Go.Proofs.Ytdgiapeniafklaa
open Go.RowKit
set_option linter.unusedVariables false
set_option linter.unusedSimpArgs false
attribute [local go_sem] Oper.semAt_some


/-- A record. -/
structure Rc where
  f : Int
  t : Int
  fin : Bool
  sent : Int
  tx : Int
  sk : Bool
  lo : Bool
  ag : Bool
  gv : Int
  ga : Int
  fa : Int
  idl : Bool
def rcZ : Rc := ⟨0, 0, false, 0, 0, false, false, false, 0, 0, 0, false⟩
/-- A sampler. -/
structure Rt where
  gv : Int
  ga : Int
  fa : Int
  idt : Int
def rtZ : Rt := ⟨0, 0, 0, 0⟩
/-- A sample. -/
structure Sm where
  now : Int
  ack : Int
  rtt : Int
  rat : Int
  idl : Bool
  gvn : Int
  bef : Int
  flt : Int
def smZ : Sm := ⟨0, 0, 0, 0, false, 0, 0, 0⟩
def I64 (x : Int) : Prop := -9223372036854775808 ≤ x ∧ x ≤ 9223372036854775807
structure RtI (q : Rt) : Prop where
  gv : I64 q.gv
  ga : I64 q.ga
  fa : I64 q.fa
  idt : I64 q.idt
structure RcI (x : Rc) : Prop where
  f : I64 x.f
  t : I64 x.t
  sent : I64 x.sent
  tx : I64 x.tx
  gv : I64 x.gv
  ga : I64 x.ga
  fa : I64 x.fa
def tmB (n : Int) : Bool := decide (0 ≤ n ∧ n ≤ 1125899906842624)
def szB (n : Int) : Bool := decide (0 ≤ n ∧ n ≤ 1073741824)
theorem tm_out {n : Int} (h : tmB n = true) : 0 ≤ n ∧ n ≤ 1125899906842624 := of_decide_eq_true h
theorem tm_in {n : Int} (h : 0 ≤ n ∧ n ≤ 1125899906842624) : tmB n = true := decide_eq_true h
/-- P17.1. -/
def okQ (q : Rt) : Bool := tmB q.gv && (tmB q.ga && (tmB q.fa && tmB q.idt))
def chkE (q : Rt) : Int := if okQ q = true then 0 else 230
theorem ok_out {q : Rt} (h : okQ q = true) : (0 ≤ q.gv ∧ q.gv ≤ 1125899906842624) ∧ (0 ≤ q.ga ∧ q.ga ≤ 1125899906842624) ∧ (0 ≤ q.fa ∧ q.fa ≤ 1125899906842624) ∧ (0 ≤ q.idt ∧ q.idt ≤ 1125899906842624) := by
  simp only [okQ, Bool.and_eq_true] at h
  exact ⟨tm_out h.1, tm_out h.2.1, tm_out h.2.2.1, tm_out h.2.2.2⟩
theorem ok_in {q : Rt} (h : (0 ≤ q.gv ∧ q.gv ≤ 1125899906842624) ∧ (0 ≤ q.ga ∧ q.ga ≤ 1125899906842624) ∧ (0 ≤ q.fa ∧ q.fa ≤ 1125899906842624) ∧ (0 ≤ q.idt ∧ q.idt ≤ 1125899906842624)) : okQ q = true := by
  simp only [okQ, Bool.and_eq_true]
  exact ⟨tm_in h.1, tm_in h.2.1, tm_in h.2.2.1, tm_in h.2.2.2⟩
def lenB (x : Rc) : Bool := decide (0 ≤ x.f ∧ x.f ≤ x.t ∧ x.t - x.f ≤ 1073741824)
def recB (x : Rc) : Bool := lenB x && (tmB x.gv && (tmB x.ga && (tmB x.fa && tmB x.sent)))
theorem rec_out {x : Rc} (h : recB x = true) : (0 ≤ x.f ∧ x.f ≤ x.t ∧ x.t - x.f ≤ 1073741824) ∧ (0 ≤ x.gv ∧ x.gv ≤ 1125899906842624) ∧ (0 ≤ x.ga ∧ x.ga ≤ 1125899906842624) ∧ (0 ≤ x.fa ∧ x.fa ≤ 1125899906842624) ∧ (0 ≤ x.sent ∧ x.sent ≤ 1125899906842624) := by
  simp only [recB, Bool.and_eq_true] at h
  exact ⟨of_decide_eq_true h.1, tm_out h.2.1, tm_out h.2.2.1, tm_out h.2.2.2.1, tm_out h.2.2.2.2⟩
theorem rec_in {x : Rc} (h : (0 ≤ x.f ∧ x.f ≤ x.t ∧ x.t - x.f ≤ 1073741824) ∧ (0 ≤ x.gv ∧ x.gv ≤ 1125899906842624) ∧ (0 ≤ x.ga ∧ x.ga ≤ 1125899906842624) ∧ (0 ≤ x.fa ∧ x.fa ≤ 1125899906842624) ∧ (0 ≤ x.sent ∧ x.sent ≤ 1125899906842624)) : recB x = true := by
  simp only [recB, Bool.and_eq_true]
  exact ⟨decide_eq_true h.1, tm_in h.2.1, tm_in h.2.2.1, tm_in h.2.2.2.1, tm_in h.2.2.2.2⟩
/-- P17.2. -/
def sentQ (q : Rt) (now : Int) (none : Bool) : Rt := if none = true then ⟨q.gv, now, now, q.idt⟩ else q
def sentX (q : Rt) (x : Rc) (now : Int) (none : Bool) : Rc := ⟨x.f, x.t, x.fin, x.sent, x.tx, x.sk, x.lo, x.ag, q.gv, (sentQ q now none).ga, (sentQ q now none).fa, decide (0 < q.idt)⟩
def sntQ (q : Rt) (x : Rc) (now : Int) (none : Bool) : Rt := if okQ q = true then if (tmB now && recB x) = true then sentQ q now none else rtZ else rtZ
def sntX (q : Rt) (x : Rc) (now : Int) (none : Bool) : Rc := if okQ q = true then if (tmB now && recB x) = true then sentX q x now none else rcZ else rcZ
def sntE (q : Rt) (x : Rc) (now : Int) : Int := if okQ q = true then if (tmB now && recB x) = true then 0 else 2 else 230
/-- P17.3: Idle. -/
def idlQ (q : Rt) (pipe : Int) : Rt := if okQ q = true then if szB pipe = true then ⟨q.gv, q.ga, q.fa, max 1 (min (q.gv + pipe) 1125899906842624)⟩ else rtZ else rtZ
def idlE (q : Rt) (pipe : Int) : Int := if okQ q = true then if szB pipe = true then 0 else 2 else 230
/-- P17.3: Given. -/
def ackI (l : List Rc) : Int := l.foldl (fun a x => min (a + (x.t - x.f)) 1125899906842624) 0
def oneR (l : List Rc) : Rc := l.foldl (fun o x => if o.gv ≤ x.gv then x else o) rcZ
def recsB (l : List Rc) : Bool := l.all recB
def rttI (x : Rc) (now : Int) : Int := if x.tx = 1 then max 0 (now - x.sent) else 0
def spdT (x : Rc) (now : Int) : Int := max (x.sent - x.fa) (now - x.ga)
def spdI (x : Rc) (given now low : Int) : Int := if spdT x now ≤ 0 ∨ spdT x now < low ∨ given ≤ x.gv then 0 else mulDivI (given - x.gv) 1000000 (spdT x now)
def allG (q : Rt) (l : List Rc) : Int := min (q.gv + ackI l) 1125899906842624
def giv (q : Rt) (l : List Rc) (now : Int) : Rt := if l = [] then q else ⟨allG q l, now, (oneR l).sent, if q.idt < allG q l then 0 else q.idt⟩
def gvs (q : Rt) (l : List Rc) (now low : Int) : Sm := if l = [] then ⟨now, 0, 0, 0, false, q.gv, 0, 0⟩ else ⟨now, ackI l, rttI (oneR l) now, spdI (oneR l) (allG q l) now low, (oneR l).idl, allG q l, (oneR l).gv, 0⟩
def givB (l : List Rc) (now low : Int) : Bool := (tmB now && tmB low) && recsB l
def givQ (q : Rt) (l : List Rc) (now low : Int) : Rt := if okQ q = true then if givB l now low = true then giv q l now else rtZ else rtZ
def givS (q : Rt) (l : List Rc) (now low : Int) : Sm := if okQ q = true then if givB l now low = true then gvs q l now low else smZ else smZ
def givE (q : Rt) (l : List Rc) (now low : Int) : Int := if okQ q = true then if givB l now low = true then 0 else 2 else 230
def nth (ts : List Rc) (i : Nat) : Rc := ts[i]?.getD rcZ
theorem nth_lt {ts : List Rc} {i : Nat} (h : i < ts.length) : ts[i]? = some (nth ts i) := by simp [nth, h]
theorem nth_mem {ts : List Rc} {i : Nat} (h : i < ts.length) : nth ts i ∈ ts := by
  have : nth ts i = ts[i] := by simp [nth, h]
  rw [this]; exact List.getElem_mem h
theorem take_nth {ts : List Rc} {i : Nat} (h : i < ts.length) : ts.take (i + 1) = ts.take i ++ [nth ts i] := by
  rw [List.take_add_one]; simp [nth, h]
theorem nth_ext {l r : List Rc} (hl : l.length = r.length) (h : ∀ i, i < l.length → nth l i = nth r i) : l = r := by
  apply List.ext_getElem hl
  intro i h1 h2
  have := h i h1
  simpa [nth, h1, h2] using this
theorem recs_at {l : List Rc} (h : recsB l = true) {i : Nat} (hi : i < l.length) : recB (nth l i) = true := by
  simp only [recsB, List.all_eq_true] at h
  exact h _ (nth_mem hi)
theorem recs_no {l : List Rc} {i : Nat} (hi : i < l.length) (h : recB (nth l i) = false) : recsB l = false := by
  cases e : recsB l with
  | false => rfl
  | true => rw [recs_at e hi] at h; cases h
theorem recs_all {l : List Rc} (h : ∀ i, i < l.length → recB (nth l i) = true) : recsB l = true := by
  simp only [recsB, List.all_eq_true]
  intro x hx
  obtain ⟨i, hi, rfl⟩ := List.mem_iff_getElem.1 hx
  have := h i hi
  simpa [nth, hi] using this
def ackU (ts : List Rc) (i : Nat) : Int := ackI (ts.take i)
def oneU (ts : List Rc) (i : Nat) : Rc := oneR (ts.take i)
theorem ackU_next {ts : List Rc} {i : Nat} (h : i < ts.length) : ackU ts (i + 1) = min (ackU ts i + ((nth ts i).t - (nth ts i).f)) 1125899906842624 := by
  unfold ackU ackI; rw [take_nth h, List.foldl_append]; rfl
theorem oneU_next {ts : List Rc} {i : Nat} (h : i < ts.length) : oneU ts (i + 1) = if (oneU ts i).gv ≤ (nth ts i).gv then nth ts i else oneU ts i := by
  unfold oneU oneR; rw [take_nth h, List.foldl_append]; rfl
theorem ackU_0 (ts : List Rc) : ackU ts 0 = 0 := rfl
theorem oneU_0 (ts : List Rc) : oneU ts 0 = rcZ := rfl
theorem ackU_all (ts : List Rc) : ackU ts ts.length = ackI ts := by simp [ackU]
theorem oneU_all (ts : List Rc) : oneU ts ts.length = oneR ts := by simp [oneU]
/-- Behind i records that may be. -/
theorem ackU_in {ts : List Rc} {i : Nat} (hi : i ≤ ts.length) (h : ∀ j, j < i → recB (nth ts j) = true) : 0 ≤ ackU ts i ∧ ackU ts i ≤ 1125899906842624 := by
  induction i with
  | zero => rw [ackU_0]; omega
  | succ n ih =>
    have h1 := ih (by omega) (fun j hj => h j (by omega))
    have h2 := rec_out (h n (by omega))
    rw [ackU_next (by omega)]; omega
theorem oneU_in {ts : List Rc} {i : Nat} (hi : i ≤ ts.length) (h : ∀ j, j < i → recB (nth ts j) = true) : recB (oneU ts i) = true := by
  induction i with
  | zero => rw [oneU_0]; rfl
  | succ n ih =>
    have h1 := ih (by omega) (fun j hj => h j (by omega))
    have h2 := h n (by omega)
    rw [oneU_next (by omega)]; split <;> assumption
end Go.Proofs.Ytdgiapeniafklaa
