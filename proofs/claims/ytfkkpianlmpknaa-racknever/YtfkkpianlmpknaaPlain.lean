/- What rack's calls answer, in plain numbers. -/
import Derived.RowKit
namespace Go.Proofs.Ytfkkpianlmpknaa
open Go.RowKit
set_option linter.unusedVariables false
set_option linter.unusedSimpArgs false

/-- A record. -/
structure Rc where
  f : Int
  t : Int
  fin : Bool
  sent : Int
  tx : Int
  sk : Bool
  lo : Bool
  ag : Bool
  gv : Int
  ga : Int
  fa : Int
  idl : Bool
def rz : Rc := ⟨0, 0, false, 0, 0, false, false, false, 0, 0, 0, false⟩
/-- A state. -/
structure Rk where
  s : Int
  e : Int
  r : Int
  n : Bool
  f : Int
  m : Int
  o : Int
  l : Int
def kz : Rk := ⟨0, 0, 0, false, 0, 0, 0, 0⟩
def I64 (x : Int) : Prop := -9223372036854775808 ≤ x ∧ x ≤ 9223372036854775807
def tmB (n : Int) : Bool := decide (0 ≤ n ∧ n ≤ 1125899906842624)
def ofB (n : Int) : Bool := decide (0 ≤ n ∧ n ≤ 2251799813685248)
theorem tm_out {n : Int} (h : tmB n = true) : 0 ≤ n ∧ n ≤ 1125899906842624 := of_decide_eq_true h
theorem of_out {n : Int} (h : ofB n = true) : 0 ≤ n ∧ n ≤ 2251799813685248 := of_decide_eq_true h
def endB (k : Rk) : Bool := decide (1 ≤ k.m ∧ k.m ≤ 255 ∧ 0 ≤ k.o ∧ k.o ≤ 16)
/-- P13.1. -/
def okK (k : Rk) : Bool := ofB k.s && (ofB k.e && (ofB k.r && (ofB k.f && (ofB k.l && endB k))))
theorem ok_out {k : Rk} (h : okK k = true) : ofB k.s = true ∧ ofB k.e = true ∧ ofB k.r = true ∧ ofB k.f = true ∧ ofB k.l = true ∧ endB k = true := by
  simpa [okK] using h
theorem ok_nums {k : Rk} (h : okK k = true) : (0 ≤ k.s ∧ k.s ≤ 2251799813685248) ∧ (0 ≤ k.e ∧ k.e ≤ 2251799813685248) ∧ (0 ≤ k.r ∧ k.r ≤ 2251799813685248) ∧ (0 ≤ k.f ∧ k.f ≤ 2251799813685248) ∧ (0 ≤ k.l ∧ k.l ≤ 2251799813685248) ∧ 1 ≤ k.m ∧ k.m ≤ 255 ∧ 0 ≤ k.o ∧ k.o ≤ 16 := by
  obtain ⟨h1, h2, h3, h4, h5, h6⟩ := ok_out h
  exact ⟨of_out h1, of_out h2, of_out h3, of_out h4, of_out h5, of_decide_eq_true h6⟩
def chkE (k : Rk) : Int := if okK k = true then 0 else 230
def recB (x : Rc) (now : Int) : Bool := ofB x.f && (ofB x.t && decide (0 ≤ x.sent ∧ x.sent ≤ now ∧ 1 ≤ x.tx))
theorem rec_out {x : Rc} {now : Int} (h : recB x now = true) : (0 ≤ x.f ∧ x.f ≤ 2251799813685248) ∧ (0 ≤ x.t ∧ x.t ≤ 2251799813685248) ∧ 0 ≤ x.sent ∧ x.sent ≤ now ∧ 1 ≤ x.tx := by
  simp only [recB, Bool.and_eq_true, decide_eq_true_eq] at h
  exact ⟨of_out h.1, of_out h.2.1, h.2.2⟩
def onB (x : Rc) : Bool := !x.sk && (!x.lo || x.ag)
def ahB (k : Rk) (x : Rc) : Bool := decide (x.sent < k.s ∨ (x.sent = k.s ∧ x.t < k.e))
def seenB (k : Rk) (x : Rc) : Bool := k.n || decide (x.tx = 1 ∧ x.t < k.f)
def given (k : Rk) (x : Rc) (now low : Int) : Rk :=
  if 1 < x.tx ∧ now - x.sent < low then ⟨k.s, k.e, k.r, seenB k x, max k.f x.t, k.m, k.o, k.l⟩
  else if k.s < x.sent ∨ (x.sent = k.s ∧ k.e < x.t) then ⟨x.sent, x.t, now - x.sent, seenB k x, max k.f x.t, k.m, k.o, k.l⟩
  else ⟨k.s, k.e, k.r, seenB k x, max k.f x.t, k.m, k.o, k.l⟩
def argB (x : Rc) (now low : Int) : Bool := tmB now && (tmB low && recB x now)
/-- P13.2. -/
def givR (k : Rk) (x : Rc) (now low : Int) : Rk := if okK k = true then if argB x now low = true then given k x now low else kz else kz
def givE (k : Rk) (x : Rc) (now low : Int) : Int := if okK k = true then if argB x now low = true then 0 else 2 else 230
/-- P13.3. -/
def ordI (k : Rk) (low srtt : Int) (calm : Bool) (sacked : Int) : Int :=
  if okK k = true then if (tmB low && tmB srtt) = true then if (!k.n && (!calm || decide (3 ≤ sacked))) = true then 0 else min (k.m * low / 4) srtt else 0 else 0
def ordE (k : Rk) (low srtt : Int) : Int := if okK k = true then if (tmB low && tmB srtt) = true then 0 else 2 else 230
def again (k : Rk) (una next : Int) : Rk := if k.l ≤ una then ⟨k.s, k.e, k.r, k.n, k.f, min (k.m + 1) 255, 16, next⟩ else ⟨k.s, k.e, k.r, k.n, k.f, k.m, 16, k.l⟩
def agnR (k : Rk) (una next : Int) : Rk := if okK k = true then if (ofB una && ofB next) = true then again k una next else kz else kz
def agnE (k : Rk) (una next : Int) : Int := if okK k = true then if (ofB una && ofB next) = true then 0 else 2 else 230
def calm (k : Rk) : Rk := ⟨k.s, k.e, k.r, k.n, k.f, if max (k.o - 1) 0 = 0 then 1 else k.m, max (k.o - 1) 0, k.l⟩
def clmR (k : Rk) : Rk := if okK k = true then calm k else kz
/-- P13.5. -/
def prbI (srtt rto : Int) (one : Bool) : Int := if srtt < 1 then min 1000000 rto else if 2251799813685248 < srtt then rto else min (2 * srtt + (if one = true then 200000 else 0)) rto
/-- P13.4. -/
def sumI (k : Rk) (wait : Int) (x : Rc) : Int := x.sent + k.r + wait
def markX (k : Rk) (now wait : Int) (x : Rc) : Rc := if (onB x && ahB k x) = true then if sumI k wait x ≤ now then ⟨x.f, x.t, x.fin, x.sent, x.tx, x.sk, true, false, x.gv, x.ga, x.fa, x.idl⟩ else x else x
def moreX (k : Rk) (now wait : Int) (x : Rc) : Int := if (onB x && ahB k x) = true then if sumI k wait x ≤ now then 0 else sumI k wait x - now else 0
def leftI (k : Rk) (now wait : Int) : List Rc → Int
  | [] => 0
  | x :: l => max (leftI k now wait l) (moreX k now wait x)
def recsB (now : Int) (l : List Rc) : Bool := l.all (fun x => recB x now)
def mrkB (l : List Rc) (now wait : Int) : Bool := (tmB now && tmB wait) && recsB now l
def mrkL (k : Rk) (l : List Rc) (now wait : Int) : List Rc := if okK k = true then if mrkB l now wait = true then l.map (markX k now wait) else [] else []
def mrkI (k : Rk) (l : List Rc) (now wait : Int) : Int := if okK k = true then if mrkB l now wait = true then leftI k now wait l.reverse else 0 else 0
def mrkE (k : Rk) (l : List Rc) (now wait : Int) : Int := if okK k = true then if mrkB l now wait = true then 0 else 2 else 230
def nth (ts : List Rc) (i : Nat) : Rc := ts[i]?.getD rz
theorem nth_lt {ts : List Rc} {i : Nat} (h : i < ts.length) : ts[i]? = some (nth ts i) := by simp [nth, h]
theorem nth_mem {ts : List Rc} {i : Nat} (h : i < ts.length) : nth ts i ∈ ts := by
  have : nth ts i = ts[i] := by simp [nth, h]
  rw [this]; exact List.getElem_mem h
theorem nth_map {ts : List Rc} {g : Rc → Rc} {i : Nat} (h : i < ts.length) : nth (ts.map g) i = g (nth ts i) := by simp [nth, h]
theorem take_nth {ts : List Rc} {i : Nat} (h : i < ts.length) : ts.take (i + 1) = ts.take i ++ [nth ts i] := by
  rw [List.take_add_one]; simp [nth, h]
theorem nth_ext {l r : List Rc} (hl : l.length = r.length) (h : ∀ i, i < l.length → nth l i = nth r i) : l = r := by
  apply List.ext_getElem hl
  intro i h1 h2
  have := h i h1
  simpa [nth, h1, h2] using this
theorem recs_at {now : Int} {l : List Rc} (h : recsB now l = true) {i : Nat} (hi : i < l.length) : recB (nth l i) now = true := by
  simp only [recsB, List.all_eq_true] at h
  exact h _ (nth_mem hi)
theorem recs_no {now : Int} {l : List Rc} {i : Nat} (hi : i < l.length) (h : recB (nth l i) now = false) : recsB now l = false := by
  cases e : recsB now l with
  | false => rfl
  | true => rw [recs_at e hi] at h; cases h
theorem recs_all {now : Int} {l : List Rc} (h : ∀ i, i < l.length → recB (nth l i) now = true) : recsB now l = true := by
  simp only [recsB, List.all_eq_true]
  intro x hx
  obtain ⟨i, hi, rfl⟩ := List.mem_iff_getElem.1 hx
  have := h i hi
  simpa [nth, hi] using this
theorem left_nonneg (k : Rk) (now wait : Int) : ∀ l, 0 ≤ leftI k now wait l
  | [] => by simp [leftI]
  | x :: l => by have := left_nonneg k now wait l; unfold leftI; omega
end Go.Proofs.Ytfkkpianlmpknaa
