/- A loop over an iterator that itself loops over another one: what is whose. Blocks below b and those of Z are the loop's own, all others the iterator's; R's are read by the iterator. -/
import Derived.RangeFuncNested
import Derived.RangeFuncBound
import Derived.RangeFuncCalls
import Derived.RangeFuncLeaves
import Derived.RangeFuncBox
import Derived.Shelf.Abstract
import Derived.Shelf.RegionOpen
import Derived.WalkKit
import Derived.OwnWalkIn
import Derived.TacticsInMore
import Derived.LoopNIn
import Derived.LoopIn
import Derived.ProofKit
import Derived.OpenShut
import Derived.Scope
import Derived.WalkMore
namespace Go.Proofs.Ytdodagpkkjpdiaa
open Go.RowKit
set_option linter.unusedVariables false

variable {F : Fence} {n : Nat} {P : Program} {α : Type}

/-- A step that turns none of the loop's own blocks. -/
structure Apart (b : Nat) (Z : Nat → Prop) (X Y : World) : Prop where
  flat : Below 0 X Y
  same : ∀ k, k < X.heap.size → (k < b ∨ Z k) → Y.heap[k]? = X.heap[k]?

/-- A step of the loop: it turns none of the iterator's blocks, and what it makes anew may become its own. -/
structure Mine (b : Nat) (R Z : Nat → Prop) (X : World) (Z' : Nat → Prop) (Y : World) : Prop where
  flat : Below 0 X Y
  new : ∀ k, Z' k → Z k ∨ X.heap.size ≤ k
  lt : ∀ k, Z' k → k < Y.heap.size
  same : ∀ k, k < X.heap.size → (R k ∨ b ≤ k) → ¬ Z k → Y.heap[k]? = X.heap[k]?

theorem Apart.refl (b : Nat) (Z : Nat → Prop) (X : World) : Apart b Z X X := ⟨Below.refl _ _, fun _ _ _ => rfl⟩
theorem Apart.trans {b : Nat} {Z : Nat → Prop} {X Y V : World} (h : Apart b Z X Y) (k : Apart b Z Y V) : Apart b Z X V :=
  ⟨h.flat.trans k.flat, fun i hi hz => (k.same i (Nat.lt_of_lt_of_le hi h.flat.size) hz).trans (h.same i hi hz)⟩
theorem Apart.of_grown {b : Nat} {Z : Nat → Prop} {X Y : World} {row : Option Nat} (hg : X.grownBy Y row) (hr : ∀ k, row = some k → b ≤ k ∧ ¬ Z k) : Apart b Z X Y :=
  ⟨⟨hg.os, hg.tape, hg.output, hg.size, fun k hk => by omega⟩, fun k hk hz => hg.block k hk (fun e => by have := hr k e.symm; exact hz.elim (fun h => by omega) (fun h => this.2 h))⟩
theorem Apart.alloc (b : Nat) (Z : Nat → Prop) (X : World) (o : Obj) : Apart b Z X (X.alloc o) := Apart.of_grown (World.grownBy_alloc X o none) (fun k e => by cases e)
theorem Apart.mono {b b' : Nat} {Z Z' : Nat → Prop} {X Y : World} (h : Apart b Z X Y) (hb : b' ≤ b) (hZ : ∀ k, Z' k → k < X.heap.size → Z k ∨ k < b) : Apart b' Z' X Y :=
  ⟨h.flat, fun k hk hz => h.same k hk (hz.elim (fun hz => .inl (by omega)) (fun hz => (hZ k hz hk).symm))⟩

theorem Mine.trans {b : Nat} {R Z Z' Z'' : Nat → Prop} {X Y V : World} (h : Mine b R Z X Z' Y) (k : Mine b R Z' Y Z'' V) : Mine b R Z X Z'' V :=
  ⟨h.flat.trans k.flat, fun i hi => by
    rcases k.new i hi with h1 | h1
    · exact h.new i h1
    · exact .inr (Nat.le_trans h.flat.size h1), k.lt, fun i hi hr hz => (k.same i (Nat.lt_of_lt_of_le hi h.flat.size) hr (fun hz' => by
      rcases h.new i hz' with h1 | h1
      · exact hz h1
      · omega)).trans (h.same i hi hr hz)⟩
theorem Mine.refl {b : Nat} {R Z : Nat → Prop} {X : World} (hZ : ∀ k, Z k → k < X.heap.size) : Mine b R Z X Z X := ⟨Below.refl _ _, fun _ h => .inl h, hZ, fun _ _ _ _ => rfl⟩
theorem Mine.of_grown {b : Nat} {R Z : Nat → Prop} {X Y : World} {row : Option Nat} (hg : X.grownBy Y row) (hZ : ∀ k, Z k → k < X.heap.size) (hr : ∀ k, row = some k → Z k ∨ (k < b ∧ ¬ R k)) : Mine b R Z X Z Y :=
  ⟨⟨hg.os, hg.tape, hg.output, hg.size, fun k hk => by omega⟩, fun _ h => .inl h, fun k hk => Nat.lt_of_lt_of_le (hZ k hk) hg.size, fun k hk hR hz => hg.block k hk (fun e => by
    rcases hr k e.symm with h | ⟨h1, h2⟩
    · exact hz h
    · rcases hR with h | h
      · exact h2 h
      · omega)⟩
theorem Mine.alloc {b : Nat} {R Z : Nat → Prop} {X : World} (hZ : ∀ k, Z k → k < X.heap.size) (o : Obj) : Mine b R Z X Z (X.alloc o) := Mine.of_grown (World.grownBy_alloc X o none) hZ (fun k e => by cases e)

/-- What speaks of the loop's own blocks alone. -/
def Abides (b : Nat) (J : List α → (Nat → Prop) → World → Prop) : Prop := ∀ pre Z X Y, J pre Z X → Apart b Z X Y → J pre Z Y

/-- The contract of an iterator that may loop itself. -/
def SeqDeep (F : Fence) (n : Nat) (P : Program) (g : Nat) (lb : Array Value) (encs : α → Array Value) (R : Nat → Prop) (S Sp G : List α → Prop) (w : World) : Prop :=
  ∀ (l : Nat) (J Jx : List α → (Nat → Prop) → World → Prop) (W : World), Below w.heap.size w W → Abides W.heap.size J → Abides W.heap.size Jx →
    (∀ pre x Z W1, J pre Z W1 → W.heap.size ≤ W1.heap.size → (∀ k, Z k → W.heap.size ≤ k ∧ k < W1.heap.size) → G (pre ++ [x]) → YieldAt F (n - 1) P l (encs x) W1 fun e W' =>
      ∃ Z', Mine W.heap.size R Z W1 Z' W' ∧ ((e = .returned (.bool true) ∧ J (pre ++ [x]) Z' W') ∨ (e = .returned (.bool false) ∧ Jx (pre ++ [x]) Z' W'))) →
    J [] (fun _ => False) W →
    CallsIn F n P g (#[.func (.yield l) #[] #[]] ++ lb) W fun e W' => (∃ v, e = .returned v) ∧ ((∃ xs Z, S xs ∧ J xs Z W') ∨ (∃ pre Z, Sp pre ∧ Jx pre Z W'))

theorem SeqDeep.inRound {g : Nat} {lb : Array Value} {encs : α → Array Value} {R : Nat → Prop} {S Sp G : List α → Prop} {w : World} (l : Nat)
    (h : SeqDeep F n P g lb encs R S Sp G w) : SeqDeep (F.inRound l) n P g lb encs R S Sp G w := h

/-- How a round may be left. -/
def deepPost (b : Nat) (R : Nat → Prop) (I : List α → (Nat → Prop) → World → Prop) (Ix : Code → List α → (Nat → Prop) → World → Prop) (xs : List α) (Z : Nat → Prop) (W : World) : Exit → Act → World → Prop
  | .normal, _, W' => ∃ Z', Mine b R Z W Z' W' ∧ I xs Z' W'
  | .ret, _, W' => ∃ Z', Mine b R Z W Z' W' ∧ Ix .ret xs Z' W'
  | .exit id, _, W' => ∃ Z', Mine b R Z W Z' W' ∧ Ix (.exit id) xs Z' W'
  | .goto t, _, W' => ∃ Z', Mine b R Z W Z' W' ∧ Ix (.goto t) xs Z' W'
  | .panic _, _, _ => False
  | .outgrown, _, _ => False

/-- What a round owes. -/
def RoundOwes (F : Fence) (m : Nat) (P : Program) (b : Nat) (R : Nat → Prop) (I : List α → (Nat → Prop) → World → Prop) (Ix : Code → List α → (Nat → Prop) → World → Prop) (xs : List α) (Z : Nat → Prop) (l : Nat) (assign body : Code) (tmps : Array Value) (W : World) : Prop :=
  assign.wpIn (F.inRound l) m P (Exit.then (fun a' W' => Mine b R Z W Z W' ∧ ∀ W'', W'.grownBy W'' (some l) → (∃ r, W''.heap[l]? = some (.loop r)) → body.wpIn (F.inRound l) m P (deepPost b R I Ix xs Z W'') a' W'') (fun _ _ _ => False)) { tmps := tmps, defers := [] } W

theorem yield_deep {fn : FuncId} (hfn : F.fn fn) {m L D : Nat} {tm : Array Value} {ps : Array Tmp} {assign body : Code} {W : World} {args : Array Value}
    (hl : W.heap[L]? = some (.loop { state := .ready, pending := none, fn, tmps := tm, params := ps, assign, body, defers := D })) (hps : args.size = ps.size)
    {b : Nat} {R Z : Nat → Prop} (hb : b ≤ L) (hZ : ¬ Z L) {I : List α → (Nat → Prop) → World → Prop} {Ix : Code → List α → (Nat → Prop) → World → Prop} {xs : List α}
    (h : RoundOwes F m P b R I Ix xs Z L assign body ((ps.zip args).foldl (fun t (p, v) => t.setIfInBounds p v) tm) W) :
    YieldAt F m P L args W fun e W' => ∃ Z' W3, Below 0 W W3 ∧ (∀ k, Z' k → Z k ∨ W.heap.size ≤ k) ∧ (∀ k, Z' k → k < W3.heap.size) ∧ (∀ k, k < W.heap.size → (R k ∨ b ≤ k) → k ≠ L → ¬ Z k → W3.heap[k]? = W.heap[k]?) ∧ (∃ r, W3.heap[L]? = some (.loop r)) ∧
      ((e = .returned (.bool true) ∧ I xs Z' W3 ∧ W' = W3.putObj L (.loop { state := .ready, pending := none, fn, tmps := tm, params := ps, assign, body, defers := D })) ∨
       (∃ c, e = .returned (.bool false) ∧ Ix c xs Z' W3 ∧ W' = W3.putObj L (.loop { state := .done, pending := some c, fn, tmps := tm, params := ps, assign, body, defers := D }))) := by
  have hL : L < W.heap.size := (Array.getElem?_eq_some_iff.1 hl).1
  refine ⟨fn, _, assign, body, run_yield hl hps, roundIn_of_wpIn hfn (wpIn_mono h ?_)⟩
  rintro e a' Wa hq
  cases e with
  | normal =>
    obtain ⟨hM, hbody⟩ := hq
    have hla := (hM.same L hL (.inr hb) hZ).trans hl
    have hLa : L < Wa.heap.size := (Array.getElem?_eq_some_iff.1 hla).1
    refine ⟨_, run_beginRound hla rfl, ?_⟩
    have hlb := World.putObj_heap_same (o := .loop { state := .busy, pending := none, fn, tmps := tm, params := ps, assign, body, defers := D }) hLa
    refine wpIn_mono (hbody _ (grownBy_putObj' _ _ _) ⟨_, hlb⟩) ?_
    have fin : ∀ (Z' : Nat → Prop) (W3 : World), Mine b R Z (Wa.putObj L (.loop { state := .busy, pending := none, fn, tmps := tm, params := ps, assign, body, defers := D })) Z' W3 →
        W3.heap[L]? = some (.loop { state := .busy, pending := none, fn, tmps := tm, params := ps, assign, body, defers := D }) ∧ Below 0 W W3 ∧ (∀ k, Z' k → Z k ∨ W.heap.size ≤ k) ∧ (∀ k, Z' k → k < W3.heap.size) ∧ (∀ k, k < W.heap.size → (R k ∨ b ≤ k) → k ≠ L → ¬ Z k → W3.heap[k]? = W.heap[k]?) := by
      intro Z' W3 h3
      have hg := grownBy_putObj' Wa L (.loop { state := .busy, pending := none, fn, tmps := tm, params := ps, assign, body, defers := D })
      have hsz := hM.flat.size
      have hsz2 := hg.size
      refine ⟨(h3.same L (by omega) (.inr hb) hZ).trans hlb, hM.flat.trans (Below.trans ⟨hg.os, hg.tape, hg.output, hg.size, fun k hk => by omega⟩ h3.flat), fun k hk => ?_, h3.lt, fun k hk hR hne hz => ?_⟩
      · rcases h3.new k hk with h | h
        · exact .inl h
        · exact .inr (by omega)
      · exact ((h3.same k (by omega) hR hz).trans (World.putObj_heap_other (fun e => hne e))).trans (hM.same k hk hR hz)
    rintro e a3 W3 hp
    cases e with
    | normal =>
      obtain ⟨Z', h3, hi⟩ := hp
      obtain ⟨hl3, f1, f2, f3, f4⟩ := fin Z' W3 h3
      exact ⟨_, _, run_endRound none hl3, Z', W3, f1, f2, f3, f4, ⟨_, hl3⟩, .inl ⟨rfl, hi, rfl⟩⟩
    | ret =>
      obtain ⟨Z', h3, hi⟩ := hp
      obtain ⟨hl3, f1, f2, f3, f4⟩ := fin Z' W3 h3
      exact ⟨_, _, run_endRound (some .ret) hl3, Z', W3, f1, f2, f3, f4, ⟨_, hl3⟩, .inr ⟨_, rfl, hi, rfl⟩⟩
    | exit id =>
      obtain ⟨Z', h3, hi⟩ := hp
      obtain ⟨hl3, f1, f2, f3, f4⟩ := fin Z' W3 h3
      exact ⟨_, _, run_endRound (some (.exit id)) hl3, Z', W3, f1, f2, f3, f4, ⟨_, hl3⟩, .inr ⟨_, rfl, hi, rfl⟩⟩
    | goto t =>
      obtain ⟨Z', h3, hi⟩ := hp
      obtain ⟨hl3, f1, f2, f3, f4⟩ := fin Z' W3 h3
      exact ⟨_, _, run_endRound (some (.goto t)) hl3, Z', W3, f1, f2, f3, f4, ⟨_, hl3⟩, .inr ⟨_, rfl, hi, rfl⟩⟩
    | panic ch => exact hp.elim
    | outgrown => exact hp.elim
  | ret => exact hq.elim
  | exit id => exact hq.elim
  | goto t => exact hq.elim
  | panic ch => exact hq.elim
  | outgrown => exact hq.elim

/-- The loop, in a function's own frame. -/
theorem wpIn_deep {g : Operand} {ps : Array Tmp} {assign body : Code} {Q : Exit → Act → World → Prop} {a : Act} {w : World}
    (hro : F.round = none) (h1 : 1 ≤ n) {gf : Nat} {lb : Array Value} (hg : a.eval g = .func (.func gf) #[] lb) (hFg : F.fn gf) (eg : ∀ args w, (callFunc gf args).run P w = .ok (.enter gf args) w)
    {encs : α → Array Value} {R : Nat → Prop} {S Sp G : List α → Prop} {w0 : World} (hseq : SeqDeep F (n - 1) P gf lb encs R S Sp G w0) (hb0 : Below w0.heap.size w0 w) (hps : ∀ x, (encs x).size = ps.size)
    (hR : ∀ k, R k → k < w.heap.size)
    (I : List α → (Nat → Prop) → World → Prop) (Ix : Code → List α → (Nat → Prop) → World → Prop) (hI : Abides w.heap.size I) (hIx : ∀ c, Abides w.heap.size (Ix c)) (h0 : I [] (fun _ => False) w)
    (hround : ∀ (l : Nat) (pre : List α) (x : α) (Z : Nat → Prop) (W : World), w.heap.size ≤ l → l < W.heap.size → (∀ k, Z k → w.heap.size ≤ k ∧ k < W.heap.size ∧ k ≠ l) → I pre Z W → G (pre ++ [x]) →
      RoundOwes F (n - 1 - 1) P w.heap.size R I Ix (pre ++ [x]) Z l assign body ((ps.zip (encs x)).foldl (fun t (p, v) => t.setIfInBounds p v) a.tmps) W)
    (hdone : ∀ (D : Nat) (xs : List α) (Z : Nat → Prop) (W : World), w.heap.size ≤ D → (∀ k, Z k → w.heap.size ≤ k ∧ k < W.heap.size ∧ k ≠ D) → S xs → I xs Z W → W.heap[D]? = some (.deferred (some [])) → Q .normal { a with defers := { target := .collected D, args := #[] } :: a.defers } W)
    (hstop : ∀ (D : Nat) (c : Code) (pre : List α) (Z : Nat → Prop) (W : World), w.heap.size ≤ D → (∀ k, Z k → w.heap.size ≤ k ∧ k < W.heap.size ∧ k ≠ D) → Sp pre → Ix c pre Z W → W.heap[D]? = some (.deferred (some [])) → c.wpIn F n P Q { a with defers := { target := .collected D, args := #[] } :: a.defers } W) :
    (Code.rangeFunc g ps assign body).wpIn F n P Q a w := by
  refine wpIn_rangeFunc ?_
  intro fn hfn
  rw [hro]
  obtain ⟨W1, hW1⟩ : ∃ W1, (w.alloc (.deferred (some []))).alloc (.loop { state := .ready, pending := none, fn, tmps := a.tmps, params := ps, assign, body, defers := w.heap.size }) = W1 := ⟨_, rfl⟩
  have hL1 : W1.heap[w.heap.size + 1]? = some (.loop { state := .ready, pending := none, fn, tmps := a.tmps, params := ps, assign, body, defers := w.heap.size }) := by
    rw [← hW1]; have := World.alloc_heap_new (w.alloc (.deferred (some []))) (.loop { state := .ready, pending := none, fn, tmps := a.tmps, params := ps, assign, body, defers := w.heap.size }); rwa [World.size_alloc] at this
  have hK1 : W1.heap[w.heap.size]? = some (.deferred (some [])) := by
    rw [← hW1]; exact (Below.heap_alloc _ _ _ (by simp)).trans (World.alloc_heap_new w _)
  have hs1 : W1.heap.size = w.heap.size + 2 := by rw [← hW1]; simp
  have hI1 : I [] (fun _ => False) W1 := by rw [← hW1]; exact hI _ _ _ _ (hI _ _ _ _ h0 (Apart.alloc _ _ _ _)) (Apart.alloc _ _ _ _)
  have hb1 : Below w0.heap.size w0 W1 := by
    rw [← hW1]; exact hb0.trans ((((Below.refl _ w).alloc (Nat.le_refl _) _).alloc (by simp) _).mono hb0.size)
  refine ⟨w.heap.size + 1, [{ target := .collected w.heap.size, args := #[] }], W1, { target := .fn (.func gf) lb, args := #[.func (.yield (w.heap.size + 1)) #[] #[]] }, W1, gf,
    #[.func (.yield (w.heap.size + 1)) #[] #[]] ++ lb, W1, ?_, ?_, ?_, ?_, fun _ => h1, ?_⟩
  · rw [← hW1]; exact run_enterLoop_outer _ _ _ _ _
  · simp only [resolve, hg]
    simp [go_sem]
  · intro f' hf'; simp [Target.leads] at hf'; subst hf'; exact hFg
  · simp [invoke, go_sem, eg]
  · refine (hseq (w.heap.size + 1)
      (fun pre Z W => I pre Z W ∧ W.heap[w.heap.size + 1]? = some (.loop { state := .ready, pending := none, fn, tmps := a.tmps, params := ps, assign, body, defers := w.heap.size }) ∧ W.heap[w.heap.size]? = some (.deferred (some [])) ∧ (∀ k, Z k → w.heap.size + 2 ≤ k ∧ k < W.heap.size))
      (fun pre Z W => ∃ c, Ix c pre Z W ∧ W.heap[w.heap.size + 1]? = some (.loop { state := .done, pending := some c, fn, tmps := a.tmps, params := ps, assign, body, defers := w.heap.size }) ∧ W.heap[w.heap.size]? = some (.deferred (some [])) ∧ (∀ k, Z k → w.heap.size + 2 ≤ k ∧ k < W.heap.size))
      W1 hb1 ?_ ?_ ?_ ⟨hI1, hL1, hK1, fun k h => h.elim⟩).mono ?_
    · rintro pre Z X Y ⟨hi, hl, hk, hz⟩ hA
      refine ⟨hI _ _ _ _ hi (hA.mono (by omega) (fun k h _ => .inl h)), (hA.same _ (Array.getElem?_eq_some_iff.1 hl).1 (.inl (by omega))).trans hl, (hA.same _ (Array.getElem?_eq_some_iff.1 hk).1 (.inl (by omega))).trans hk, fun k h => ⟨(hz k h).1, Nat.lt_of_lt_of_le (hz k h).2 hA.flat.size⟩⟩
    · rintro pre Z X Y ⟨c, hi, hl, hk, hz⟩ hA
      refine ⟨c, hIx c _ _ _ _ hi (hA.mono (by omega) (fun k h _ => .inl h)), (hA.same _ (Array.getElem?_eq_some_iff.1 hl).1 (.inl (by omega))).trans hl, (hA.same _ (Array.getElem?_eq_some_iff.1 hk).1 (.inl (by omega))).trans hk, fun k h => ⟨(hz k h).1, Nat.lt_of_lt_of_le (hz k h).2 hA.flat.size⟩⟩
    · rintro pre x Z W ⟨hi, hl, hk, hz⟩ hsz hz2 hlen
      have hlt : w.heap.size + 1 < W.heap.size := (Array.getElem?_eq_some_iff.1 hl).1
      have hkt : w.heap.size < W.heap.size := (Array.getElem?_eq_some_iff.1 hk).1
      have hnz : ∀ j, Z j → w.heap.size + 2 ≤ j := fun j hj => (hz j hj).1
      refine (yield_deep (I := I) (Ix := Ix) (xs := pre ++ [x]) (Z := Z) (R := R) (b := w.heap.size) hfn hl (hps x) (by omega) (fun h => by have := hnz _ h; omega) (hround _ pre x Z W (by omega) hlt (fun k hk => ⟨by have := hnz k hk; omega, (hz k hk).2, by have := hnz k hk; omega⟩) hi hlen)).mono ?_
      rintro e W' ⟨Z', W3, f1, f2, f3, f4, ⟨r3, hl3⟩, hcase⟩
      have hk3 : W3.heap[w.heap.size]? = some (.deferred (some [])) := (f4 _ hkt (.inr (Nat.le_refl _)) (by omega) (fun h => by have := hnz _ h; omega)).trans hk
      have hl3t : w.heap.size + 1 < W3.heap.size := (Array.getElem?_eq_some_iff.1 hl3).1
      have hz3 : ∀ k, Z' k → w.heap.size + 2 ≤ k ∧ k < W3.heap.size := fun k hk => ⟨(f2 k hk).elim (fun h => hnz k h) (fun h => by omega), f3 k hk⟩
      have mine : ∀ o, Mine W1.heap.size R Z W Z' (W3.putObj (w.heap.size + 1) o) := fun o => by
        have hgp := grownBy_putObj' W3 (w.heap.size + 1) o
        refine ⟨f1.trans ⟨hgp.os, hgp.tape, hgp.output, hgp.size, fun k hk => by omega⟩, f2, fun k hk => Nat.lt_of_lt_of_le (f3 k hk) hgp.size, fun k hk hRk hzk => ?_⟩
        have hne : k ≠ w.heap.size + 1 := by
          rcases hRk with h | h
          · have := hR k h; omega
          · omega
        exact (World.putObj_heap_other (fun e => hne e)).trans (f4 k hk (hRk.imp id (fun h => by omega)) hne hzk)
      have ap : ∀ o, Apart w.heap.size Z' W3 (W3.putObj (w.heap.size + 1) o) := fun o => Apart.of_grown (grownBy_putObj' W3 (w.heap.size + 1) o) (fun k e => by cases e; exact ⟨by omega, fun h => by have := (hz3 _ h).1; omega⟩)
      have sz : ∀ o, (W3.putObj (w.heap.size + 1) o).heap.size = W3.heap.size := fun o => by simp
      rcases hcase with ⟨rfl, hi3, rfl⟩ | ⟨c, rfl, hi3, rfl⟩
      · exact ⟨Z', mine _, .inl ⟨rfl, hI _ _ _ _ hi3 (ap _), World.putObj_heap_same hl3t, (World.putObj_heap_other (by omega)).trans hk3, fun k hk => by rw [sz]; exact hz3 k hk⟩⟩
      · exact ⟨Z', mine _, .inr ⟨rfl, c, hIx c _ _ _ _ hi3 (ap _), World.putObj_heap_same hl3t, (World.putObj_heap_other (by omega)).trans hk3, fun k hk => by rw [sz]; exact hz3 k hk⟩⟩
    · rintro e W2 ⟨⟨v, rfl⟩, (⟨xs, Z, hS, hi, hl, hk, hz⟩ | ⟨pre, Z, hSp, c, hi, hl, hk, hz⟩)⟩
      · have ap : ∀ o, Apart w.heap.size Z W2 (W2.putObj (w.heap.size + 1) o) := fun o => Apart.of_grown (grownBy_putObj' W2 (w.heap.size + 1) o) (fun k e => by cases e; exact ⟨by omega, fun h => by have := (hz _ h).1; omega⟩)
        exact ⟨none, _, run_endLoop hl (by simp), hdone _ xs Z _ (Nat.le_refl _) (fun k hk => ⟨by have := (hz k hk).1; omega, by simpa using (hz k hk).2, by have := (hz k hk).1; omega⟩) hS (hI _ _ _ _ hi (ap _)) ((World.putObj_heap_other (by omega)).trans hk)⟩
      · have ap : ∀ o, Apart w.heap.size Z W2 (W2.putObj (w.heap.size + 1) o) := fun o => Apart.of_grown (grownBy_putObj' W2 (w.heap.size + 1) o) (fun k e => by cases e; exact ⟨by omega, fun h => by have := (hz _ h).1; omega⟩)
        exact ⟨some c, _, run_endLoop hl (by simp), hstop _ c pre Z _ (Nat.le_refl _) (fun k hk => ⟨by have := (hz k hk).1; omega, by simpa using (hz k hk).2, by have := (hz k hk).1; omega⟩) hSp (hIx c _ _ _ _ hi (ap _)) ((World.putObj_heap_other (by omega)).trans hk)⟩

/-- The loop, in a round of loop l₀. -/
theorem wpIn_deepN {g : Operand} {ps : Array Tmp} {assign body : Code} {Q : Exit → Act → World → Prop} {a : Act} {w : World}
    {l₀ : Nat} {r₀ : Loop} (hro : F.round = some l₀) (hl₀ : w.heap[l₀]? = some (.loop r₀)) (h1 : 1 ≤ n) {gf : Nat} {lb : Array Value} (hg : a.eval g = .func (.func gf) #[] lb) (hFg : F.fn gf) (eg : ∀ args w, (callFunc gf args).run P w = .ok (.enter gf args) w)
    {encs : α → Array Value} {R : Nat → Prop} {S Sp G : List α → Prop} {w0 : World} (hseq : SeqDeep F (n - 1) P gf lb encs R S Sp G w0) (hb0 : Below w0.heap.size w0 w) (hps : ∀ x, (encs x).size = ps.size)
    (hR : ∀ k, R k → k < w.heap.size)
    (I : List α → (Nat → Prop) → World → Prop) (Ix : Code → List α → (Nat → Prop) → World → Prop) (hI : Abides w.heap.size I) (hIx : ∀ c, Abides w.heap.size (Ix c)) (h0 : I [] (fun _ => False) w)
    (hround : ∀ (l : Nat) (pre : List α) (x : α) (Z : Nat → Prop) (W : World), w.heap.size ≤ l → l < W.heap.size → (∀ k, Z k → w.heap.size ≤ k ∧ k < W.heap.size ∧ k ≠ l) → I pre Z W → G (pre ++ [x]) →
      RoundOwes F (n - 1 - 1) P w.heap.size R I Ix (pre ++ [x]) Z l assign body ((ps.zip (encs x)).foldl (fun t (p, v) => t.setIfInBounds p v) a.tmps) W)
    (hdone : ∀ (xs : List α) (Z : Nat → Prop) (W : World), (∀ k, Z k → w.heap.size ≤ k ∧ k < W.heap.size) → S xs → I xs Z W → Q .normal a W)
    (hstop : ∀ (c : Code) (pre : List α) (Z : Nat → Prop) (W : World), (∀ k, Z k → w.heap.size ≤ k ∧ k < W.heap.size) → Sp pre → Ix c pre Z W → c.wpIn F n P Q a W) :
    (Code.rangeFunc g ps assign body).wpIn F n P Q a w := by
  refine wpIn_rangeFunc ?_
  intro fn hfn
  rw [hro]
  obtain ⟨W1, hW1⟩ : ∃ W1, w.alloc (.loop { state := .ready, pending := none, fn, tmps := a.tmps, params := ps, assign, body, defers := r₀.defers }) = W1 := ⟨_, rfl⟩
  have hL1 : W1.heap[w.heap.size]? = some (.loop { state := .ready, pending := none, fn, tmps := a.tmps, params := ps, assign, body, defers := r₀.defers }) := by rw [← hW1]; exact World.alloc_heap_new w _
  have hs1 : W1.heap.size = w.heap.size + 1 := by rw [← hW1]; simp
  have hI1 : I [] (fun _ => False) W1 := by rw [← hW1]; exact hI _ _ _ _ h0 (Apart.alloc _ _ _ _)
  have hb1 : Below w0.heap.size w0 W1 := by
    rw [← hW1]; exact hb0.trans (((Below.refl _ w).alloc (Nat.le_refl _) _).mono hb0.size)
  refine ⟨w.heap.size, [], W1, { target := .fn (.func gf) lb, args := #[.func (.yield w.heap.size) #[] #[]] }, W1, gf,
    #[.func (.yield w.heap.size) #[] #[]] ++ lb, W1, ?_, ?_, ?_, ?_, fun _ => h1, ?_⟩
  · rw [← hW1]; exact run_enterLoop_inner hl₀ _ _ _ _ _
  · simp only [resolve, hg]
    simp [go_sem]
  · intro f' hf'; simp [Target.leads] at hf'; subst hf'; exact hFg
  · simp [invoke, go_sem, eg]
  · refine (hseq w.heap.size
      (fun pre Z W => I pre Z W ∧ W.heap[w.heap.size]? = some (.loop { state := .ready, pending := none, fn, tmps := a.tmps, params := ps, assign, body, defers := r₀.defers }) ∧ (∀ k, Z k → w.heap.size + 1 ≤ k ∧ k < W.heap.size))
      (fun pre Z W => ∃ c, Ix c pre Z W ∧ W.heap[w.heap.size]? = some (.loop { state := .done, pending := some c, fn, tmps := a.tmps, params := ps, assign, body, defers := r₀.defers }) ∧ (∀ k, Z k → w.heap.size + 1 ≤ k ∧ k < W.heap.size))
      W1 hb1 ?_ ?_ ?_ ⟨hI1, hL1, fun k h => h.elim⟩).mono ?_
    · rintro pre Z X Y ⟨hi, hl, hz⟩ hA
      refine ⟨hI _ _ _ _ hi (hA.mono (by omega) (fun k h _ => .inl h)), (hA.same _ (Array.getElem?_eq_some_iff.1 hl).1 (.inl (by omega))).trans hl, fun k h => ⟨(hz k h).1, Nat.lt_of_lt_of_le (hz k h).2 hA.flat.size⟩⟩
    · rintro pre Z X Y ⟨c, hi, hl, hz⟩ hA
      refine ⟨c, hIx c _ _ _ _ hi (hA.mono (by omega) (fun k h _ => .inl h)), (hA.same _ (Array.getElem?_eq_some_iff.1 hl).1 (.inl (by omega))).trans hl, fun k h => ⟨(hz k h).1, Nat.lt_of_lt_of_le (hz k h).2 hA.flat.size⟩⟩
    · rintro pre x Z W ⟨hi, hl, hz⟩ hsz hz2 hlen
      have hlt : w.heap.size < W.heap.size := (Array.getElem?_eq_some_iff.1 hl).1
      have hnz : ∀ j, Z j → w.heap.size + 1 ≤ j := fun j hj => (hz j hj).1
      refine (yield_deep (I := I) (Ix := Ix) (xs := pre ++ [x]) (Z := Z) (R := R) (b := w.heap.size) hfn hl (hps x) (Nat.le_refl _) (fun h => by have := hnz _ h; omega) (hround _ pre x Z W (Nat.le_refl _) hlt (fun k hk => ⟨by have := hnz k hk; omega, (hz k hk).2, by have := hnz k hk; omega⟩) hi hlen)).mono ?_
      rintro e W' ⟨Z', W3, f1, f2, f3, f4, ⟨r3, hl3⟩, hcase⟩
      have hl3t : w.heap.size < W3.heap.size := (Array.getElem?_eq_some_iff.1 hl3).1
      have hz3 : ∀ k, Z' k → w.heap.size + 1 ≤ k ∧ k < W3.heap.size := fun k hk => ⟨(f2 k hk).elim (fun h => hnz k h) (fun h => by omega), f3 k hk⟩
      have mine : ∀ o, Mine W1.heap.size R Z W Z' (W3.putObj w.heap.size o) := fun o => by
        have hgp := grownBy_putObj' W3 w.heap.size o
        refine ⟨f1.trans ⟨hgp.os, hgp.tape, hgp.output, hgp.size, fun k hk => by omega⟩, f2, fun k hk => Nat.lt_of_lt_of_le (f3 k hk) hgp.size, fun k hk hRk hzk => ?_⟩
        have hne : k ≠ w.heap.size := by
          rcases hRk with h | h
          · have := hR k h; omega
          · omega
        exact (World.putObj_heap_other (fun e => hne e)).trans (f4 k hk (hRk.imp id (fun h => by omega)) hne hzk)
      have ap : ∀ o, Apart w.heap.size Z' W3 (W3.putObj w.heap.size o) := fun o => Apart.of_grown (grownBy_putObj' W3 w.heap.size o) (fun k e => by cases e; exact ⟨Nat.le_refl _, fun h => by have := (hz3 _ h).1; omega⟩)
      have sz : ∀ o, (W3.putObj w.heap.size o).heap.size = W3.heap.size := fun o => by simp
      rcases hcase with ⟨rfl, hi3, rfl⟩ | ⟨c, rfl, hi3, rfl⟩
      · exact ⟨Z', mine _, .inl ⟨rfl, hI _ _ _ _ hi3 (ap _), World.putObj_heap_same hl3t, fun k hk => by rw [sz]; exact hz3 k hk⟩⟩
      · exact ⟨Z', mine _, .inr ⟨rfl, c, hIx c _ _ _ _ hi3 (ap _), World.putObj_heap_same hl3t, fun k hk => by rw [sz]; exact hz3 k hk⟩⟩
    · rintro e W2 ⟨⟨v, rfl⟩, (⟨xs, Z, hS, hi, hl, hz⟩ | ⟨pre, Z, hSp, c, hi, hl, hz⟩)⟩
      · have ap : ∀ o, Apart w.heap.size Z W2 (W2.putObj w.heap.size o) := fun o => Apart.of_grown (grownBy_putObj' W2 w.heap.size o) (fun k e => by cases e; exact ⟨Nat.le_refl _, fun h => by have := (hz _ h).1; omega⟩)
        exact ⟨none, _, run_endLoop hl (by simp), hdone xs Z _ (fun k hk => ⟨by have := (hz k hk).1; omega, by simpa using (hz k hk).2⟩) hS (hI _ _ _ _ hi (ap _))⟩
      · have ap : ∀ o, Apart w.heap.size Z W2 (W2.putObj w.heap.size o) := fun o => Apart.of_grown (grownBy_putObj' W2 w.heap.size o) (fun k e => by cases e; exact ⟨Nat.le_refl _, fun h => by have := (hz _ h).1; omega⟩)
        exact ⟨some c, _, run_endLoop hl (by simp), hstop c pre Z _ (fun k hk => ⟨by have := (hz k hk).1; omega, by simpa using (hz k hk).2⟩) hSp (hIx c _ _ _ _ hi (ap _))⟩

/-- A scope that no goto leaves, in a fence. -/
theorem wpIn_scope {c : Code} {Q : Exit → Act → World → Prop} {a : Act} {w : World} (h : c.wpIn F n P (Exit.noGoto Q) a w) : (Code.scope c).wpIn F n P Q a w := by
  intro b k cs hro hb hr
  have h0 : (lone (b.atR a (.code (.scope c) :: k)) cs w).fenced P F := fenced_calm hb hr rfl
  have h1 : step P (lone (b.atR a (.code (.scope c) :: k)) cs w) = .next (lone (b.atR a (.code c :: .inScope c :: k)) cs w) := step_lone_go (by simp [stepG, stepG.exec, Frame.atR])
  obtain ⟨e, a₁, w₁, hq, harr⟩ := h b (.inScope c :: k) cs hro hb hr
  cases e with
  | normal =>
    have h2 : step P (lone (b.atR a₁ (.inScope c :: k)) cs w₁) = .next (lone (b.atR a₁ k) cs w₁) := step_lone_go (by simp [stepG, stepG.exec, Frame.atR])
    exact ⟨.normal, a₁, w₁, hq, .head h0 h1 (StepsIn.trans harr (.one (fenced_calm hb hr rfl) h2))⟩
  | exit id =>
    have hx : exitTo id (.inScope c :: k) = exitTo id k := by simp [exitTo]
    exact ⟨.exit id, a₁, w₁, hq, fun k' hk => .head h0 h1 (harr.1 k' (by rw [hx]; exact hk)),
      fun hr' hk => let ⟨k₁, g1, g2⟩ := harr.2 hr' (by rw [hx]; exact hk); ⟨k₁, g1, .head h0 h1 g2⟩⟩
  | goto l => exact hq.elim
  | ret => exact ⟨_, a₁, w₁, hq, .of_steps (.one h0 h1) harr⟩
  | panic ch => exact ⟨_, a₁, w₁, hq, .of_steps (.one h0 h1) harr⟩
  | outgrown => exact ⟨_, a₁, w₁, hq, .of_steps (.one h0 h1) harr⟩

theorem yieldAt_any (hd : F.depth = none) {m : Nat} (m' : Nat) {l : Nat} {args : Array Value} {W : World} {R : Ending → World → Prop} (h : YieldAt F m P l args W R) : YieldAt F m' P l args W R := by
  obtain ⟨fn, tmps, assign, body, hy, hR⟩ := h
  exact ⟨fn, tmps, assign, body, hy, hR.1, fun c cs _ => hR.2 c cs (fun d hd' => by rw [hd] at hd'; cases hd')⟩
end Go.Proofs.Ytdodagpkkjpdiaa
