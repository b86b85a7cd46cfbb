/- A region that draws its order, in a round. -/
import Derived.Test.YtfkkpianlmpknaaClass
import Derived.Test.YtfkkpianlmpknaaLast
import Derived.Test.YtfkkpianlmpknaaEach
namespace Go.Proofs.Ytfkkpianlmpknaa
open Go.ChangeShapes Go.WideShapes Go.ChangeAt Go.RowKit Go.Shelf
set_option linter.unusedVariables false
set_option linter.unusedSimpArgs false

/-- All may be called; a round or none. -/
def FW (ro : Option Nat) : Fence := { Fence.wide with round := ro }
theorem rowsIn_wide {n : Nat} {P : Program} {row : String} {args : Array Value} {w : World} {R : Value → World → Prop} (h : Rows P row args w R) : RowsIn Fence.wide n P row args w R :=
  fun c cs _ => let ⟨v, w', r, s⟩ := h c cs; ⟨v, w', r, stepsIn_wide.2 s⟩
section
variable {P : Program} {ops : Array Oper} {Q : Exit → Act → World → Prop}
def Op.isDefer : Op → Bool
  | .defer _ => true
  | _ => false
def noDefer (ops : Array Oper) : Bool := ops.toList.all fun o => !Op.isDefer o.op
theorem noDefer_at (h : noDefer ops = true) (i : Nat) (o : Oper) (ho : ops[i]? = some o) (c : Call) : o.op ≠ .defer c := by
  intro e
  have hm : o ∈ ops.toList := by
    rw [← Array.getElem?_toList] at ho
    exact List.mem_of_getElem? ho
  have := (List.all_eq_true.1 h) o hm
  rw [e] at this
  cases this
theorem opsIn_of_ops (ro : Option Nat) (n : Nat) (hd : noDefer ops = true) (hq : ¬ LetsOut Q) : ∀ (l : List Nat) (a : Act) (w : World), wpOps P ops Q l a w → wpOpsIn (FW ro) n P ops Q l a w
  | [], a, w, h => h
  | i :: rest, a, w, h => by
    unfold wpOps at h
    unfold wpOpsIn
    cases ho : ops[i]? with
    | none => simp only [ho] at h ⊢; exact opsIn_of_ops ro n hd hq rest a w h
    | some o =>
      simp only [ho] at h ⊢
      by_cases hw : Region.wanted o (yielded ops a.tmps) = true
      · rw [if_pos hw] at h ⊢
        rcases h with h | ⟨_, h⟩
        · unfold Oper.wp at h
          unfold Oper.wpIn
          rw [Oper.semAt_eq _ _ _ (noDefer_at hd i o ho)]
          refine ⟨fun _ _ => trivial, ?_⟩
          generalize (execOp a.eval o).run P w = r at h
          cases r with
          | ok x w' =>
            cases x with
            | value v => exact opsIn_of_ops ro n hd hq rest _ _ h
            | skip => exact opsIn_of_ops ro n hd hq rest _ _ h
            | defer d => exact opsIn_of_ops ro n hd hq rest _ _ h
            | enter f args =>
              refine ⟨fun h => by simp [FW, Fence.wide] at h, ?_⟩
              show CallsIn Fence.wide (n - 1) P f args w' _
              refine callsIn_wide.2 (Calls.mono h (fun e w'' he => ?_))
              cases e with
              | returned v => exact opsIn_of_ops ro n hd hq rest _ _ he
              | panicked c => exact he
              | outgrown => exact he
            | row r' args =>
              refine ⟨fun h => by simp [FW, Fence.wide] at h, ?_⟩
              show RowsIn Fence.wide (n - 1) P r' args w' _
              exact rowsIn_wide (Rows.mono h (fun v w'' he => opsIn_of_ops ro n hd hq rest _ _ he))
            | round l f tmps assign body => exact h.elim
            | _ => exact h.elim
          | halt x w' =>
            cases x with
            | panic v => exact h
            | _ => exact h.elim
        · exact absurd h hq
      · rw [if_neg hw] at h ⊢
        exact ⟨fun _ _ => trivial, opsIn_of_ops ro n hd hq rest _ _ h⟩
/-- Only the plain way on. -/
def onlyN (Q : Exit → Act → World → Prop) : Exit → Act → World → Prop
  | .normal, a, w => Q .normal a w
  | _, _, _ => False
theorem onlyN_out : ¬ LetsOut (onlyN Q) := by rintro ⟨_, _, h⟩; exact h
theorem wpIn_any_of {id n : Nat} (ro : Option Nat) {a : Act} {w : World} (hm : P.follows .mixedOrders = true) (hd : noDefer ops = true) (h : wpAny P .any ops (onlyN Q) ops.size (Array.replicate ops.size false) a w.drew) : (Code.region id ops true).wpIn (FW ro) n P Q a w :=
  wpIn_mono (Q := onlyN Q) (wpIn_region_draw fun t => by
    simp only [Region.schedule, hm, Bool.true_or, if_true]
    exact opsIn_of_ops ro n hd onlyN_out _ _ _ (wpAny_sound ops.size t _ a _ h)) (fun e a w h => by
      cases e with
      | normal => exact h
      | _ => exact h.elim)
end
/-- A walk in the order of the text, under a name that nothing unfolds. -/
structure QS (P : Program) (ops : Array Oper) (C : World → Prop) (Q : Act → Prop) (l : List Oper) (a : Act) : Prop where
  out : wpQuiet P ops C Q l a
section
variable {P : Program} {ops : Array Oper} {C : World → Prop} {Q : Act → Prop} {o : Oper} {rest : List Oper} {a : Act}
theorem qs_val {v : Value} (hw : Region.wanted o (yielded ops a.tmps) = true) (hr : ∀ w, C w → (execOp a.eval o).run P w = .ok (.value v) w) (hk : QS P ops C Q rest (a.put o.dst v)) : QS P ops C Q (o :: rest) a := ⟨class_want hw (quiet_val hr hk.out)⟩
theorem qs_enter {v : Value} {f : FuncId} {args : Array Value} (hw : Region.wanted o (yielded ops a.tmps) = true) (hr : ∀ w, C w → (execOp a.eval o).run P w = .ok (.enter f args) w) (hc : ∀ w, C w → Calls P f args w fun e w' => e = .returned v ∧ C w') (hk : QS P ops C Q rest (a.put o.dst v)) : QS P ops C Q (o :: rest) a := ⟨class_want hw (quiet_enter hr hc hk.out)⟩
theorem qs_skip (hw : Region.wanted o (yielded ops a.tmps) = false) (hk : QS P ops C Q rest (a.put o.dst undef)) : QS P ops C Q (o :: rest) a := ⟨class_skip hw hk.out⟩
theorem qs_nil (h : Q a) : QS P ops C Q [] a := ⟨wpQuiet_nil h⟩
end
/-- .. by a class of worlds, in a round. -/
theorem wpIn_round_class {P : Program} {id n L : Nat} {Q : Exit → Act → World → Prop} {a : Act} {w : World} {l : List Oper} (C : World → Prop) (hm : P.follows .mixedOrders = true) (hd : noDefer l.toArray = true) (hB : Region.lexB .any l.toArray = true) (hC : C w.drew)
    (h : QS P l.toArray C (fun a' => ∀ w', C w' → Q .normal a' w') l a) : (Code.region id l.toArray true).wpIn (Fence.wide.inRound L) n P Q a w := by
  show (Code.region id l.toArray true).wpIn (FW (some L)) n P Q a w
  refine wpIn_any_of (some L) hm hd ?_
  simp only [Region.lexB, Bool.and_eq_true] at hB
  refine wpAny_of_quiet (C := C) (Q := fun a' => ∀ w', C w' → Q .normal a' w') (fun a' w' hw' h => show onlyN Q .normal a' w' from h w' hw') _ _ _ _ hC ?_
  have := wpAnyQ_lex (P := P) (C := C) (md := .any) hB.1 l 0 (Array.replicate l.length false) a (by simp) (by simpa using hB.2) (by simpa using h.out)
  simpa using this
/-- .. in an iterator. -/
theorem wpIn_wide_class {P : Program} {id n : Nat} {Q : Exit → Act → World → Prop} {a : Act} {w : World} {l : List Oper} (C : World → Prop) (hm : P.follows .mixedOrders = true) (hd : noDefer l.toArray = true) (hB : Region.lexB .any l.toArray = true) (hC : C w.drew)
    (h : QS P l.toArray C (fun a' => ∀ w', C w' → Q .normal a' w') l a) : (Code.region id l.toArray true).wpIn Fence.wide n P Q a w := by
  show (Code.region id l.toArray true).wpIn (FW none) n P Q a w
  refine wpIn_any_of none hm hd ?_
  simp only [Region.lexB, Bool.and_eq_true] at hB
  refine wpAny_of_quiet (C := C) (Q := fun a' => ∀ w', C w' → Q .normal a' w') (fun a' w' hw' h => show onlyN Q .normal a' w' from h w' hw') _ _ _ _ hC ?_
  have := wpAnyQ_lex (P := P) (C := C) (md := .any) hB.1 l 0 (Array.replicate l.length false) a (by simp) (by simpa using hB.2) (by simpa using h.out)
  simpa using this
/-- .. in a function. -/
theorem wp_class {P : Program} {id : Nat} {Q : Exit → Act → World → Prop} {a : Act} {w : World} {l : List Oper} (C : World → Prop) (hm : P.follows .mixedOrders = true) (hB : Region.lexB .any l.toArray = true) (hC : C w.drew)
    (h : QS P l.toArray C (fun a' => ∀ w', C w' → Q .normal a' w') l a) : (Code.region id l.toArray true).wp P Q a w := wp_region_class C hm hB hC h.out
/-- .. that ends in one operation that waits for all others, in a round. -/
theorem wpIn_round_X {P : Program} {ops : Array Oper} {id n R : Nat} {Q : Exit → Act → World → Prop} {a : Act} {w : World} (S : World → Prop) (L : Nat) (hm : P.follows .mixedOrders = true) (hd : noDefer ops = true) (hS : S w.drew)
    (h : S w.drew → wpAnyX P .any ops (onlyN Q) S L ops.size (Array.replicate ops.size false) a w.drew) : (Code.region id ops true).wpIn (Fence.wide.inRound R) n P Q a w := by
  show (Code.region id ops true).wpIn (FW (some R)) n P Q a w
  exact wpIn_any_of (some R) hm hd (wpAny_of_X _ _ _ _ (h hS))
theorem wpXN_done {P : Program} {ops : Array Oper} {Q : Exit → Act → World → Prop} {md : Region.Mode} {S : World → Prop} {L : Nat} {done : Array Bool} {a : Act} {w : World} (hr : Region.ready md ops done = []) (h : Q .normal a w) (k : Nat) : wpAnyX P md ops (onlyN Q) S L k done a w := wpX_done (Q := onlyN Q) hr (show onlyN Q .normal a w from h) k
end Go.Proofs.Ytfkkpianlmpknaa
