/- Texts: Dets, KBw, KPrd, KGain -/
import Derived.Test.YtagmighcofllhaaDoorGA
import Derived.Test.YtagmighcofllhaaDoorGS
import Derived.Test.YtagmighcofllhaaDoorGB
namespace Go.Proofs.YtagmighcofllhaaDoor
open Go.ChangeShapes Go.WideShapes Go.ChangeAt Go.RowKit
set_option linter.unusedVariables false
set_option linter.unusedSimpArgs false

open Fil
/-- Number j waits for number m. -/
def waitsB (o : Oper) (m : Nat) : Bool := o.after.toList.any fun e => Region.binds .any e && e.on == m
theorem waits_of {o : Oper} {e : Edge} (he : e ∈ o.after) (hb : Region.binds .any e = true) : waitsB o e.on = true := by
  unfold waitsB
  rw [List.any_eq_true]
  exact ⟨e, by simpa using he, by simp [hb]⟩
theorem of_waits {o : Oper} {m : Nat} (h : waitsB o m = true) : ∃ e ∈ o.after, Region.binds .any e = true ∧ e.on = m := by
  unfold waitsB at h
  simp only [List.any_eq_true, Bool.and_eq_true, beq_iff_eq] at h
  obtain ⟨e, he, hbn, h⟩ := h
  exact ⟨e, by simpa using he, hbn, h⟩
theorem wp_region_dets {P : Program} {ops : Array Oper} {Q : Exit → Act → World → Prop} {id : Nat} {a0 : Act} {w0 : World} (hm : P.follows .mixedOrders = true)
    (n : Nat) (hn : ops.size = n) (dst : Nat → Option Tmp) (hsz : ∀ j t, j < n → dst j = some t → t < a0.tmps.size)
    (hdist : ∀ j ∈ List.range n, ∀ k ∈ List.range n, j ≠ k → dst j ≠ dst k ∨ dst j = none)
    (T : Nat → Value) (S : (Nat → Bool) → World → Prop) (hS : ∀ D : Nat → Bool, (∀ j, D j = false) → S D w0.drew)
    (hstep : ∀ i o, ops[i]? = some o → ∀ (D : Nat → Bool) a w, S D w → D i = false → (∀ j oj m, ops[j]? = some oj → waitsB oj m = true → D j = true → D m = true) → (∀ j t, waitsB o j = true → dst j = some t → a.eval (.tmp t) = T j) → (∀ t, (∀ j, j < n → dst j ≠ some t) → a.eval (.tmp t) = a0.eval (.tmp t)) →
      ∀ K : Act → World → Prop, (∀ w', (∀ D' : Nat → Bool, D' i = true → (∀ j, j ≠ i → D' j = D j) → S D' w') → K (a.put (dst i) (T i)) w') → wpOp P ops Q i K a w)
    (hord : ops.toList.zipIdx.all (fun p => p.1.after.toList.all fun e => !(Region.binds .any e) || decide (e.on < p.2)) = true)
    (hfin : ∀ w (D : Nat → Bool), (∀ i, i < n → D i = true) → S D w → Q .normal (selA dst T (fun _ => true) (List.range n) a0) w) :
    (Code.region id ops true).wp P Q a0 w0 := by
  have hnr : (List.range n).Nodup := List.nodup_range
  have hends := ends_of (ops := ops) hn (fun i o ho e he hb => by
    have := each_of (ops := ops) (f := fun o i => o.after.toList.all fun e => !(Region.binds .any e) || decide (e.on < i)) hord i o ho
    rw [List.all_eq_true] at this
    have := this e (by simpa using he)
    rw [hb] at this
    simpa using this)
  refine wp_region_any hm (wpAny_inv (fun done a w => done.size = n ∧ (∀ D : Nat → Bool, (∀ j, D j = done.getD j false) → S D w) ∧ a = selA dst T (fun i => done.getD i false) (List.range n) a0 ∧ (∀ j oj m, ops[j]? = some oj → waitsB oj m = true → done.getD j false = true → done.getD m false = true)) ?_ ?_ _ _ _ _ ?_ ?_)
  · rintro done a w ⟨hs, hSw, ha, hc⟩ i hi
    obtain ⟨h1, o, h2, h3⟩ := mem_ready.1 hi
    have hlt : i < n := by rw [← hn]; exact (Array.getElem?_eq_some_iff.1 h2).1
    have hidn : done.getD i false = false := by
      have hl : i < done.size := by omega
      simp [hl] at h1 ⊢
      exact h1
    have hjn : ∀ j, done.getD j false = true → j < n := fun j hj => by
      rcases Nat.lt_or_ge j done.size with h | h
      · omega
      · simp [Array.getElem?_eq_none h] at hj
    refine hstep i o h2 (fun j => done.getD j false) a w (hSw _ (fun _ => rfl)) hidn hc ?_ ?_ _ ?_
    · intro j t hj ht
      obtain ⟨e, he, hb, rfl⟩ := of_waits hj
      have hd := h3 e he hb
      rw [ha]
      exact selA_at (done := fun i => done.getD i false) hd ht (List.range n) a0 (List.mem_range.2 (hjn _ hd)) hnr hdist (hsz _ t (hjn _ hd) ht)
    · intro t ht
      rw [ha]
      exact selA_else (List.range n) a0 (fun j hj _ => ht j (List.mem_range.1 hj))
    · intro w' hS'
      refine ⟨by simp [hs], fun D' hD' => hS' D' ?_ ?_, ?_, ?_⟩
      · rw [hD' i]
        have hl : i < done.size := by omega
        simp [hl]
      · intro j hj
        rw [hD' j]
        exact getD_set_ne false (Ne.symm hj)
      · rw [ha]
        have := selA_set (vals := T) (v := T i) (done := fun i => done.getD i false) (done' := fun j => (done.setIfInBounds i true).getD j false) (i := i) hidn (by
          have hl : i < done.size := by omega
          simp [hl]) (fun j hj => getD_set_ne false (Ne.symm hj)) (List.range n) a0 (List.mem_range.2 hlt) hnr hdist
        rw [this]
        exact selA_congr (List.range n) a0 (fun j _ => ⟨by
          by_cases e : j = i
          · subst e; exact upd_at ..
          · exact upd_ne T _ e, rfl⟩)
      · intro j oj m hj hw hd
        by_cases e : j = i
        · subst e
          rw [h2] at hj
          cases hj
          obtain ⟨e, he, hb, rfl⟩ := of_waits hw
          exact getD_set_true (h3 e he hb)
        · rw [getD_set_ne false (Ne.symm e)] at hd
          exact getD_set_true (hc j oj m hj hw hd)
  · rintro done a w ⟨hs, hSw, ha, _⟩ hr
    have hall := hends done hs hr
    have hall' : ∀ i, i < n → done.getD i false = true := fun i hi => by
      have h := hall i hi
      have hl : i < done.size := by omega
      simp [hl] at h ⊢
      exact h
    rw [ha, selA_congr (done' := fun _ => true) (vals' := T) (List.range n) a0 (fun j hj => ⟨rfl, hall' j (List.mem_range.1 hj)⟩)]
    exact hfin w _ hall' (hSw _ (fun _ => rfl))
  · refine ⟨by simp [hn], fun D hD => hS D (fun j => ?_), ?_, ?_⟩
    · rw [hD j]
      rcases Nat.lt_or_ge j ops.size with h | h
      · simp [h]
      · simp [h]
    · have : ∀ (L : List Nat) (a : Act), selA dst T (fun i => (Array.replicate ops.size false).getD i false) L a = a := by
        intro L
        induction L with
        | nil => intro a; rfl
        | cons j r ih =>
          intro a
          unfold selA
          rw [if_neg (by
            rcases Nat.lt_or_ge j ops.size with h | h
            · simp [h]
            · simp [h]), ih]
      exact (this _ _).symm
    · intro j oj m _ _ hj
      rcases Nat.lt_or_ge j ops.size with h | h
      · simp [h] at hj
      · simp [h] at hj
  · have : ∀ (L : List Nat) (d : Array Bool), undone d L ≤ L.length := by
      intro L d
      induction L with
      | nil => exact Nat.le_refl _
      | cons j r ih =>
        unfold undone
        rw [List.length_cons]
        split <;> omega
    have := this (List.range ops.size) (Array.replicate ops.size false)
    rwa [List.length_range] at this
section
variable {ops : Array Oper} {Q : Exit → Act → World → Prop} {i : Nat} {o : Oper} {K : Act → World → Prop} {a : Act} {w : World}
theorem op_stoW {P : Program} (ho : ops[i]? = some o) (hg : o.guard = none) (hd : o.dst = none) {w' : World} (hr : (execOp a.eval o).run P w = .ok .skip w') (hK : K a w') : wpOp P ops Q i K a w := by
  refine wpOp_step ho (fun K' hK' => ?_)
  have hw : Region.wanted o (yielded ops a.tmps) = true := by simp [Region.wanted, hg]
  rw [if_pos hw]
  unfold Oper.wp
  rw [hr]
  exact hK' _ _ (by rw [hd]; exact hK)

theorem run_loadC {ev : Operand → Value} {ty : TypeId} (hC : IsC ty) {x : Operand} (ho : o.op = .load ty x) {g : Nat} (hx : ev x = .pointer (some ⟨g, 0, none⟩)) {t : TypeId} {c : Cc} (hb : Box w g t (ccL c)) : (execOp ev o).run Tryd.prog w = .ok (.value (ccv c)) w := by
  obtain ⟨fs, hu, hi⟩ := hC
  have h := run_loadVar_row (P := Tryd.prog) w g t ty (ccL c).toArray (0, 0) _ hb hu rfl hi
  unfold execOp
  simp only [ho, hx, Instr.loadAt, Instr.sureAddr, Sem.run_bind, Sem.run_pure, Result.andThen_ok, h, ccv]
end
end Go.Proofs.YtagmighcofllhaaDoor

/- The contracts of bandwidth, the program's and the document's. -/
namespace Go.Proofs.YtagmighcofllhaaDoor
open Go.ChangeShapes Go.WideShapes Go.ChangeAt Go.RowKit
set_option linter.unusedVariables false
set_option linter.unusedSimpArgs false

open Fil

set_option maxRecDepth 100000 in
set_option maxHeartbeats 4000000 in
theorem bw_in (c : Cc) (es : List Tm) (b : Int) (z : Bool) (c1 : ∀ W, TimsAt W c.ba es → Calls Tryd.prog 73 #[.slice c.ba c.bn c.bc] W fun e w' => e = .returned (.tuple #[.int .i64 b, .bool z]) ∧ w' = W) (w : World) (hT : TimsAt w c.ba es) : Calls Tryd.prog 51 #[ccv c] w fun e w' => e = .returned (.int .i64 b) ∧ Below w.heap.size w w' := by
  go_enter Tryd.func51, Tryd.ntmps51
  go_wp2_with (first | (refine wpC_box rfl rfl rfl ?_))
  intro X1 p HN
  have HX1 : Hid (Below w.heap.size w X1 ∧ Box X1 p 48 (ccL c) ∧ w.heap.size ≤ p ∧ True) := by
    have hb := Below.refl w.heap.size w
    obtain ⟨hg, hb2, bn⟩ := HN.out
    have hz := hb.size
    exact ⟨Below.on hb hb2, bn, by omega, trivial⟩
  clear HN 
  have k11 := Box.cell (HX1.out.2.1) 11 rfl
  go_wp2_with fail
  refine (c1 _ (hT.below (HX1.out.1) (Nat.le_refl _))).mono ?_
  rintro e w' ⟨rfl, hq⟩
  obtain rfl := hq.symm
  clear hq
  clear c1 k11
  go_wp2_with fail
  go_ret
  exact ⟨rfl, HX1.out.1⟩

theorem bw_is (c : Cc) (es : List Tm) (b : Int) (hb : bestV es = b) (hn : es.length = c.bn) (w : World) (hT : TimsAt w c.ba es) : Calls Tryd.prog 51 #[ccv c] w fun e w' => e = .returned (.int .i64 b) ∧ Below w.heap.size w w' :=
  bw_in c es b _ (fun W hW => best_is c.ba c.bc es W hW c.bn hn b hb _ rfl) w hT

set_option maxRecDepth 100000 in
set_option maxHeartbeats 4000000 in
theorem rbw_in (c : Cc) (es : List Tm) (b : Int) (z : Bool) (c1 : ∀ W, TimsAt W c.ba es → Calls Tryd.prog 66 #[.slice c.ba c.bn c.bc] W fun e w' => e = .returned (.tuple #[.int .i64 b, .bool z]) ∧ w' = W) (w : World) (hT : TimsAt w c.ba es) : Calls Tryd.prog 40 #[ccv c] w fun e w' => e = .returned (.int .i64 b) ∧ Below w.heap.size w w' := by
  go_enter Tryd.func40, Tryd.ntmps40
  go_wp2_with (first | (refine wpC_box rfl rfl rfl ?_))
  intro X1 p HN
  have HX1 : Hid (Below w.heap.size w X1 ∧ Box X1 p 26 (ccL c) ∧ w.heap.size ≤ p ∧ True) := by
    have hb := Below.refl w.heap.size w
    obtain ⟨hg, hb2, bn⟩ := HN.out
    have hz := hb.size
    exact ⟨Below.on hb hb2, bn, by omega, trivial⟩
  clear HN 
  have k11 := Box.cell (HX1.out.2.1) 11 rfl
  go_wp2_with fail
  refine (c1 _ (hT.below (HX1.out.1) (Nat.le_refl _))).mono ?_
  rintro e w' ⟨rfl, hq⟩
  obtain rfl := hq.symm
  clear hq
  clear c1 k11
  go_wp2_with fail
  go_ret
  exact ⟨rfl, HX1.out.1⟩

theorem rbw_is (c : Cc) (es : List Tm) (b : Int) (hb : bestV es = b) (hn : es.length = c.bn) (w : World) (hT : TimsAt w c.ba es) : Calls Tryd.prog 40 #[ccv c] w fun e w' => e = .returned (.int .i64 b) ∧ Below w.heap.size w w' :=
  rbw_in c es b _ (fun W hW => refBest_is c.ba c.bc es W hW c.bn hn b hb _ rfl) w hT
end Go.Proofs.YtagmighcofllhaaDoor

/- The contracts of product, the program's and the document's. -/
namespace Go.Proofs.YtagmighcofllhaaDoor
open Go.ChangeShapes Go.WideShapes Go.ChangeAt Go.RowKit
set_option linter.unusedVariables false
set_option linter.unusedSimpArgs false

open Fil
theorem enter51 (args : Array Value) (w : World) : (callFunc 51 args).run Tryd.prog w = .ok (.enter 51 args) w := by kernel_rfl
theorem enter74 (args : Array Value) (w : World) : (callFunc 74 args).run Tryd.prog w = .ok (.enter 74 args) w := by kernel_rfl
def prd1O0 (ps : String) : Oper := { dst := some 6, op := .load 48 (.tmp 1), type := 48, pos := ps, after := #[], guard := none }
def prd1O1 (ps : String) : Oper := { dst := some 7, op := .call { callee := .value (.func 51), args := #[.tmp 6], argTypes := #[48] }, type := 3, pos := ps, after := #[{ on := 0, ground := .data }], guard := none }
def prd1O2 (ps : String) : Oper := { dst := some 8, op := .fieldAddr 48 (.tmp 1) 0, type := 0, pos := ps, after := #[], guard := none }
def prd1O3 (ps : String) : Oper := { dst := some 9, op := .fieldAddr 26 (.tmp 8) 12, type := 0, pos := ps, after := #[{ on := 2, ground := .data }], guard := none }
def prd1O4 (ps : String) : Oper := { dst := some 10, op := .load 3 (.tmp 9), type := 3, pos := ps, after := #[{ on := 3, ground := .data }], guard := none }
def prd1O5 (ps : String) : Oper := { dst := some 11, op := .call { callee := .value (.func 74), args := #[.tmp 7, .tmp 10, .const (.int .i64 1000000)], argTypes := #[3, 3, 3] }, type := 83, pos := ps, after := #[{ on := 1, ground := .data }, { on := 4, ground := .data }, { on := 1, ground := .chain }], guard := none }
def prd1O6 (ps : String) : Oper := { dst := some 5, op := .move (.tmp 11), type := 83, pos := ps, after := #[{ on := 5, ground := .data }], guard := none }
def prd1O7 (ps : String) : Oper := { dst := some 12, op := .extract (.tmp 5) 0, type := 3, pos := ps, after := #[{ on := 6, ground := .data }], guard := none }
def prd1O8 (ps : String) : Oper := { dst := some 13, op := .extract (.tmp 5) 1, type := 29, pos := ps, after := #[{ on := 6, ground := .data }, { on := 9, ground := .gcOnly .lateStores }], guard := none }
def prd1O9 (ps : String) : Oper := { dst := some 3, op := .assign (.tmp 12), type := 3, pos := ps, after := #[{ on := 7, ground := .data }, { on := 5, ground := .chain }, { on := 0, ground := .phase }, { on := 1, ground := .phase }, { on := 2, ground := .phase }, { on := 3, ground := .phase }, { on := 4, ground := .phase }, { on := 5, ground := .phase }, { on := 6, ground := .phase }, { on := 7, ground := .phase }, { on := 8, ground := .textOnly .lateStores }], guard := none }
def prd1O10 (ps : String) : Oper := { dst := some 4, op := .assign (.tmp 13), type := 29, pos := ps, after := #[{ on := 8, ground := .data }, { on := 9, ground := .chain }, { on := 0, ground := .phase }, { on := 1, ground := .phase }, { on := 2, ground := .phase }, { on := 3, ground := .phase }, { on := 4, ground := .phase }, { on := 5, ground := .phase }, { on := 6, ground := .phase }, { on := 7, ground := .phase }, { on := 8, ground := .phase }, { on := 9, ground := .phase }], guard := none }
def prd1 (ps : String) : Array Oper := #[prd1O0 ps, prd1O1 ps, prd1O2 ps, prd1O3 ps, prd1O4 ps, prd1O5 ps, prd1O6 ps, prd1O7 ps, prd1O8 ps, prd1O9 ps, prd1O10 ps]
theorem prd1_0 (ps : String) : (prd1 ps)[0]? = some (prd1O0 ps) := rfl
theorem prd1_1 (ps : String) : (prd1 ps)[1]? = some (prd1O1 ps) := rfl
theorem prd1_2 (ps : String) : (prd1 ps)[2]? = some (prd1O2 ps) := rfl
theorem prd1_3 (ps : String) : (prd1 ps)[3]? = some (prd1O3 ps) := rfl
theorem prd1_4 (ps : String) : (prd1 ps)[4]? = some (prd1O4 ps) := rfl
theorem prd1_5 (ps : String) : (prd1 ps)[5]? = some (prd1O5 ps) := rfl
theorem prd1_6 (ps : String) : (prd1 ps)[6]? = some (prd1O6 ps) := rfl
theorem prd1_7 (ps : String) : (prd1 ps)[7]? = some (prd1O7 ps) := rfl
theorem prd1_8 (ps : String) : (prd1 ps)[8]? = some (prd1O8 ps) := rfl
theorem prd1_9 (ps : String) : (prd1 ps)[9]? = some (prd1O9 ps) := rfl
theorem prd1_10 (ps : String) : (prd1 ps)[10]? = some (prd1O10 ps) := rfl
def prd1D : Nat → Option Tmp
  | 0 => some 6
  | 1 => some 7
  | 2 => some 8
  | 3 => some 9
  | 4 => some 10
  | 5 => some 11
  | 6 => some 5
  | 7 => some 12
  | 8 => some 13
  | 9 => some 3
  | 10 => some 4
  | _ => none
def prd1T (c : Cc) (es : List Tm) (g : Nat) (b y ee : Int) : Nat → Value
  | 0 => ccv c
  | 1 => .int .i64 b
  | 2 => .pointer (some ⟨g, 0, none⟩)
  | 3 => .pointer (some ⟨g, 12, none⟩)
  | 4 => .int .i64 c.mr
  | 5 => .tuple #[.int .i64 y, .int .i64 ee]
  | 6 => .tuple #[.int .i64 y, .int .i64 ee]
  | 7 => .int .i64 y
  | 8 => .int .i64 ee
  | 9 => .int .i64 y
  | 10 => .int .i64 ee
  | _ => undef
set_option maxRecDepth 100000 in
set_option maxHeartbeats 4000000 in
theorem prd1_reg {ps : String} {Q : Exit → Act → World → Prop} {a0 : Act} {W0 W1 : World} (sz : a0.tmps.size = 16) (c : Cc) (es : List Tm) (g : Nat) (b y ee : Int)
    (e1 : a0.eval (.tmp 1) = .pointer (some ⟨g, 0, none⟩))
    (hb : Box W1 g 48 (ccL c)) (hT : TimsAt W1 c.ba es) (hW : W0 = W1) (c1 : ∀ W, TimsAt W c.ba es → Calls Tryd.prog 51 #[ccv c] W fun e w' => e = .returned (.int .i64 b) ∧ Below W.heap.size W w') (c2 : ∀ W, Calls Tryd.prog 74 #[.int .i64 b, .int .i64 c.mr, .int .i64 1000000] W fun e w' => e = .returned (.tuple #[.int .i64 y, .int .i64 ee]) ∧ ∃ n, w' = W.drewN n)
    (hfin : ∀ (T : Nat → Value) w, T 9 = .int .i64 y → Below W1.heap.size W1 w ∧ Box w g 48 (ccL c) ∧ TimsAt w c.ba es → Q .normal (((((((((((a0.put (some 6) (T 0)).put (some 7) (T 1)).put (some 8) (T 2)).put (some 9) (T 3)).put (some 10) (T 4)).put (some 11) (T 5)).put (some 5) (T 6)).put (some 12) (T 7)).put (some 13) (T 8)).put (some 3) (T 9)).put (some 4) (T 10)) w) :
    (Code.region 1 (prd1 ps) true).wp Tryd.prog Q a0 W0 := by
  refine wp_region_dets (by kernel_rfl) 11 rfl prd1D ?_ (by decide) (prd1T c es g b y ee) (fun D w => Below W1.heap.size W1 w ∧ Box w g 48 (ccL c) ∧ TimsAt w c.ba es) (fun D _ => (by subst hW; exact ⟨(Below.refl _ _).drew, hb.drew, hT.below (Below.refl _ _).drew (Nat.le_refl _)⟩)) ?_ (by rfl) (fun w D _ hSw => hfin (prd1T c es g b y ee) w rfl hSw)
  · intro jq t hj ht
    have : ∀ j, j < 11 → (prd1D j).all (· < 16) = true := by decide
    have := this jq hj
    rw [ht] at this
    rw [sz]
    simpa using this
  · intro iq o ho D a w hSw hDi hcl hs hel K hK
    have hin : iq < 11 := (Array.getElem?_eq_some_iff.1 ho).1
    match iq, hin, ho with
    | 0, _, ho =>
      obtain rfl := Option.some.inj (ho.symm.trans (prd1_0 ps))
      have u1 : a.eval (.tmp 1) = .pointer (some ⟨g, 0, none⟩) := (hel 1 (by decide)).trans e1
      exact op_valW (prd1_0 ps) rfl (v := ccv c) (run_loadC isC48 rfl u1 hSw.2.1) (hK w (fun D' _ _ => hSw))
    | 1, _, ho =>
      obtain rfl := Option.some.inj (ho.symm.trans (prd1_1 ps))
      have s0 : a.eval (.tmp 6) = ccv c := hs 0 6 (by rfl) rfl
      exact op_enterW (prd1_1 ps) rfl (f := 51) (args := #[ccv c]) (by rw [run_call rfl enter51]; simp only [List.map_toArray, List.map_cons, List.map_nil, s0]; try rfl) ((c1 w hSw.2.2).mono (fun e w' hh => ⟨_, hh.1, hK w' (fun D' _ _ => ⟨Below.on hSw.1 hh.2, hSw.2.1.later hh.2, hSw.2.2.below hh.2 (Nat.le_refl _)⟩)⟩))
    | 2, _, ho =>
      obtain rfl := Option.some.inj (ho.symm.trans (prd1_2 ps))
      have u1 : a.eval (.tmp 1) = .pointer (some ⟨g, 0, none⟩) := (hel 1 (by decide)).trans e1
      exact op_valW (prd1_2 ps) rfl (v := .pointer (some ⟨g, 0, none⟩)) (by unfold prd1O2 execOp; simp only [u1]; first | (go_simp; done) | (go_simp; with_reducible rfl)) (hK w (fun D' _ _ => hSw))
    | 3, _, ho =>
      obtain rfl := Option.some.inj (ho.symm.trans (prd1_3 ps))
      have s2 : a.eval (.tmp 8) = .pointer (some ⟨g, 0, none⟩) := hs 2 8 (by rfl) rfl
      exact op_valW (prd1_3 ps) rfl (v := .pointer (some ⟨g, 12, none⟩)) (by unfold prd1O3 execOp; simp only [s2]; first | (go_simp; done) | (go_simp; with_reducible rfl)) (hK w (fun D' _ _ => hSw))
    | 4, _, ho =>
      obtain rfl := Option.some.inj (ho.symm.trans (prd1_4 ps))
      have s3 : a.eval (.tmp 9) = .pointer (some ⟨g, 12, none⟩) := hs 3 9 (by rfl) rfl
      have hcl := Box.cell hSw.2.1 12 rfl
      exact op_valW (prd1_4 ps) rfl (v := .int .i64 c.mr) (by unfold prd1O4 execOp; simp only [s3]; first | (go_simp; done) | (go_simp; with_reducible rfl)) (hK w (fun D' _ _ => hSw))
    | 5, _, ho =>
      obtain rfl := Option.some.inj (ho.symm.trans (prd1_5 ps))
      have s1 : a.eval (.tmp 7) = .int .i64 b := hs 1 7 (by rfl) rfl
      have s4 : a.eval (.tmp 10) = .int .i64 c.mr := hs 4 10 (by rfl) rfl
      exact op_enterW (prd1_5 ps) rfl (f := 74) (args := #[.int .i64 b, .int .i64 c.mr, .int .i64 1000000]) (by rw [run_call rfl enter74]; simp only [List.map_toArray, List.map_cons, List.map_nil, s1, s4]; try rfl) ((c2 w).mono (fun e w' hh => ⟨_, hh.1, hK w' (fun D' _ _ => (by obtain ⟨nn, hq⟩ := hh.2; rw [hq]; exact ⟨below_drewN hSw.1 nn, hSw.2.1.drewN nn, hSw.2.2.below (below_drewN (Below.refl _ _) nn) (Nat.le_refl _)⟩))⟩))
    | 6, _, ho =>
      obtain rfl := Option.some.inj (ho.symm.trans (prd1_6 ps))
      have s5 : a.eval (.tmp 11) = .tuple #[.int .i64 y, .int .i64 ee] := hs 5 11 (by rfl) rfl
      exact op_valW (prd1_6 ps) rfl (v := .tuple #[.int .i64 y, .int .i64 ee]) (by unfold prd1O6 execOp; simp only [s5]; first | (go_simp; done) | (go_simp; with_reducible rfl)) (hK w (fun D' _ _ => hSw))
    | 7, _, ho =>
      obtain rfl := Option.some.inj (ho.symm.trans (prd1_7 ps))
      have s6 : a.eval (.tmp 5) = .tuple #[.int .i64 y, .int .i64 ee] := hs 6 5 (by rfl) rfl
      exact op_valW (prd1_7 ps) rfl (v := .int .i64 y) (by unfold prd1O7 execOp; simp only [s6]; first | (go_simp; done) | (go_simp; with_reducible rfl)) (hK w (fun D' _ _ => hSw))
    | 8, _, ho =>
      obtain rfl := Option.some.inj (ho.symm.trans (prd1_8 ps))
      have s6 : a.eval (.tmp 5) = .tuple #[.int .i64 y, .int .i64 ee] := hs 6 5 (by rfl) rfl
      exact op_valW (prd1_8 ps) rfl (v := .int .i64 ee) (by unfold prd1O8 execOp; simp only [s6]; first | (go_simp; done) | (go_simp; with_reducible rfl)) (hK w (fun D' _ _ => hSw))
    | 9, _, ho =>
      obtain rfl := Option.some.inj (ho.symm.trans (prd1_9 ps))
      have s7 : a.eval (.tmp 12) = .int .i64 y := hs 7 12 (by rfl) rfl
      exact op_valW (prd1_9 ps) rfl (v := .int .i64 y) (by unfold prd1O9 execOp; simp only [s7]; first | (go_simp; done) | (go_simp; with_reducible rfl)) (hK w (fun D' _ _ => hSw))
    | 10, _, ho =>
      obtain rfl := Option.some.inj (ho.symm.trans (prd1_10 ps))
      have s8 : a.eval (.tmp 13) = .int .i64 ee := hs 8 13 (by rfl) rfl
      exact op_valW (prd1_10 ps) rfl (v := .int .i64 ee) (by unfold prd1O10 execOp; simp only [s8]; first | (go_simp; done) | (go_simp; with_reducible rfl)) (hK w (fun D' _ _ => hSw))
    | iq + 11, hin, _ => exact absurd hin (by omega)

set_option maxRecDepth 100000 in
set_option maxHeartbeats 4000000 in
theorem prd_in (c : Cc) (es : List Tm) (b y ee z : Int) (hz : (if 1073741824 < y then 1073741824 else y) = z) (c1 : ∀ W, TimsAt W c.ba es → Calls Tryd.prog 51 #[ccv c] W fun e w' => e = .returned (.int .i64 b) ∧ Below W.heap.size W w') (c2 : ∀ W, Calls Tryd.prog 74 #[.int .i64 b, .int .i64 c.mr, .int .i64 1000000] W fun e w' => e = .returned (.tuple #[.int .i64 y, .int .i64 ee]) ∧ ∃ n, w' = W.drewN n) (w : World) (hT : TimsAt w c.ba es) : Calls Tryd.prog 52 #[ccv c] w fun e w' => e = .returned (.int .i64 z) ∧ Below w.heap.size w w' := by
  go_enter Tryd.func52, Tryd.ntmps52
  go_wp2_with (first | (refine wpC_box rfl rfl rfl ?_))
  intro X1 p HN
  have HX1 : Hid (Below w.heap.size w X1 ∧ Box X1 p 48 (ccL c) ∧ w.heap.size ≤ p ∧ True) := by
    have hb := Below.refl w.heap.size w
    obtain ⟨hg, hb2, bn⟩ := HN.out
    have hz := hb.size
    exact ⟨Below.on hb hb2, bn, by omega, trivial⟩
  clear HN 
  go_upto_region 1 with fail
  refine prd1_reg (by rfl) c es p b y ee rfl (HX1.out.2.1) (hT.below (HX1.out.1) (Nat.le_refl _)) rfl c1 c2 ?_
  intro T X2 hT4 hS
  simp only [Act.put, List.setIfInBounds_toArray, List.set_cons_zero, List.set_cons_succ]
  simp only [hT4]
  have hbl := hS.1
  clear hS
  have HX2 : Hid (Below w.heap.size w X2 ∧ Box X2 p 48 (ccL c) ∧ w.heap.size ≤ p ∧ True) := by
    obtain ⟨hb, b0, l0, _⟩ := HX1.out
    exact ⟨Below.on hb hbl, b0.later hbl, l0, trivial⟩
  clear hbl hT4 c1 c2 HX1
  go_wp2_with fail
  go_ret
  exact ⟨rfl, HX2.out.1⟩

theorem prd_is (c : Cc) (es : List Tm) (b z : Int) (hb : bestV es = b) (hz : prodI b c.mr = z) (bb : I64 b) (bm : I64 c.mr) (hn : es.length = c.bn) (w : World) (hT : TimsAt w c.ba es) : Calls Tryd.prog 52 #[ccv c] w fun e w' => e = .returned (.int .i64 z) ∧ Below w.heap.size w w' := by
  refine prd_in c es b (mulDivI b c.mr 1000000) (mulDivE b c.mr 1000000) z ?_ (fun W hW => bw_is c es b hb hn W hW) (fun W => ?_) w hT
  · rw [← hz]; unfold prodI; split <;> omega
  · exact muldiv_walk b c.mr 1000000 (by unfold I64 at bb; omega) (by unfold I64 at bm; omega) (by omega) W
theorem enter40 (args : Array Value) (w : World) : (callFunc 40 args).run Tryd.prog w = .ok (.enter 40 args) w := by kernel_rfl
theorem enter65 (args : Array Value) (w : World) : (callFunc 65 args).run Tryd.prog w = .ok (.enter 65 args) w := by kernel_rfl
def rprd1O0 (ps : String) : Oper := { dst := some 6, op := .load 26 (.tmp 1), type := 26, pos := ps, after := #[], guard := none }
def rprd1O1 (ps : String) : Oper := { dst := some 7, op := .call { callee := .value (.func 40), args := #[.tmp 6], argTypes := #[26] }, type := 3, pos := ps, after := #[{ on := 0, ground := .data }], guard := none }
def rprd1O2 (ps : String) : Oper := { dst := some 8, op := .fieldAddr 26 (.tmp 1) 12, type := 0, pos := ps, after := #[], guard := none }
def rprd1O3 (ps : String) : Oper := { dst := some 9, op := .load 3 (.tmp 8), type := 3, pos := ps, after := #[{ on := 2, ground := .data }], guard := none }
def rprd1O4 (ps : String) : Oper := { dst := some 10, op := .call { callee := .value (.func 65), args := #[.tmp 7, .tmp 9, .const (.int .i64 1000000)], argTypes := #[3, 3, 3] }, type := 76, pos := ps, after := #[{ on := 1, ground := .data }, { on := 3, ground := .data }, { on := 1, ground := .chain }], guard := none }
def rprd1O5 (ps : String) : Oper := { dst := some 5, op := .move (.tmp 10), type := 76, pos := ps, after := #[{ on := 4, ground := .data }], guard := none }
def rprd1O6 (ps : String) : Oper := { dst := some 11, op := .extract (.tmp 5) 0, type := 3, pos := ps, after := #[{ on := 5, ground := .data }], guard := none }
def rprd1O7 (ps : String) : Oper := { dst := some 12, op := .extract (.tmp 5) 1, type := 3, pos := ps, after := #[{ on := 5, ground := .data }, { on := 8, ground := .gcOnly .lateStores }], guard := none }
def rprd1O8 (ps : String) : Oper := { dst := some 3, op := .assign (.tmp 11), type := 3, pos := ps, after := #[{ on := 6, ground := .data }, { on := 4, ground := .chain }, { on := 0, ground := .phase }, { on := 1, ground := .phase }, { on := 2, ground := .phase }, { on := 3, ground := .phase }, { on := 4, ground := .phase }, { on := 5, ground := .phase }, { on := 6, ground := .phase }, { on := 7, ground := .textOnly .lateStores }], guard := none }
def rprd1O9 (ps : String) : Oper := { dst := some 4, op := .assign (.tmp 12), type := 3, pos := ps, after := #[{ on := 7, ground := .data }, { on := 8, ground := .chain }, { on := 0, ground := .phase }, { on := 1, ground := .phase }, { on := 2, ground := .phase }, { on := 3, ground := .phase }, { on := 4, ground := .phase }, { on := 5, ground := .phase }, { on := 6, ground := .phase }, { on := 7, ground := .phase }, { on := 8, ground := .phase }], guard := none }
def rprd1 (ps : String) : Array Oper := #[rprd1O0 ps, rprd1O1 ps, rprd1O2 ps, rprd1O3 ps, rprd1O4 ps, rprd1O5 ps, rprd1O6 ps, rprd1O7 ps, rprd1O8 ps, rprd1O9 ps]
theorem rprd1_0 (ps : String) : (rprd1 ps)[0]? = some (rprd1O0 ps) := rfl
theorem rprd1_1 (ps : String) : (rprd1 ps)[1]? = some (rprd1O1 ps) := rfl
theorem rprd1_2 (ps : String) : (rprd1 ps)[2]? = some (rprd1O2 ps) := rfl
theorem rprd1_3 (ps : String) : (rprd1 ps)[3]? = some (rprd1O3 ps) := rfl
theorem rprd1_4 (ps : String) : (rprd1 ps)[4]? = some (rprd1O4 ps) := rfl
theorem rprd1_5 (ps : String) : (rprd1 ps)[5]? = some (rprd1O5 ps) := rfl
theorem rprd1_6 (ps : String) : (rprd1 ps)[6]? = some (rprd1O6 ps) := rfl
theorem rprd1_7 (ps : String) : (rprd1 ps)[7]? = some (rprd1O7 ps) := rfl
theorem rprd1_8 (ps : String) : (rprd1 ps)[8]? = some (rprd1O8 ps) := rfl
theorem rprd1_9 (ps : String) : (rprd1 ps)[9]? = some (rprd1O9 ps) := rfl
def rprd1D : Nat → Option Tmp
  | 0 => some 6
  | 1 => some 7
  | 2 => some 8
  | 3 => some 9
  | 4 => some 10
  | 5 => some 5
  | 6 => some 11
  | 7 => some 12
  | 8 => some 3
  | 9 => some 4
  | _ => none
def rprd1T (c : Cc) (es : List Tm) (g : Nat) (b y ee : Int) : Nat → Value
  | 0 => ccv c
  | 1 => .int .i64 b
  | 2 => .pointer (some ⟨g, 12, none⟩)
  | 3 => .int .i64 c.mr
  | 4 => .tuple #[.int .i64 y, .int .i64 ee]
  | 5 => .tuple #[.int .i64 y, .int .i64 ee]
  | 6 => .int .i64 y
  | 7 => .int .i64 ee
  | 8 => .int .i64 y
  | 9 => .int .i64 ee
  | _ => undef
set_option maxRecDepth 100000 in
set_option maxHeartbeats 4000000 in
theorem rprd1_reg {ps : String} {Q : Exit → Act → World → Prop} {a0 : Act} {W0 W1 : World} (sz : a0.tmps.size = 15) (c : Cc) (es : List Tm) (g : Nat) (b y ee : Int)
    (e1 : a0.eval (.tmp 1) = .pointer (some ⟨g, 0, none⟩))
    (hb : Box W1 g 26 (ccL c)) (hT : TimsAt W1 c.ba es) (hW : W0 = W1) (c1 : ∀ W, TimsAt W c.ba es → Calls Tryd.prog 40 #[ccv c] W fun e w' => e = .returned (.int .i64 b) ∧ Below W.heap.size W w') (c2 : ∀ W, Calls Tryd.prog 65 #[.int .i64 b, .int .i64 c.mr, .int .i64 1000000] W fun e w' => e = .returned (.tuple #[.int .i64 y, .int .i64 ee]) ∧ ∃ n, w' = W.drewN n)
    (hfin : ∀ (T : Nat → Value) w, T 8 = .int .i64 y → Below W1.heap.size W1 w ∧ Box w g 26 (ccL c) ∧ TimsAt w c.ba es → Q .normal ((((((((((a0.put (some 6) (T 0)).put (some 7) (T 1)).put (some 8) (T 2)).put (some 9) (T 3)).put (some 10) (T 4)).put (some 5) (T 5)).put (some 11) (T 6)).put (some 12) (T 7)).put (some 3) (T 8)).put (some 4) (T 9)) w) :
    (Code.region 1 (rprd1 ps) true).wp Tryd.prog Q a0 W0 := by
  refine wp_region_dets (by kernel_rfl) 10 rfl rprd1D ?_ (by decide) (rprd1T c es g b y ee) (fun D w => Below W1.heap.size W1 w ∧ Box w g 26 (ccL c) ∧ TimsAt w c.ba es) (fun D _ => (by subst hW; exact ⟨(Below.refl _ _).drew, hb.drew, hT.below (Below.refl _ _).drew (Nat.le_refl _)⟩)) ?_ (by rfl) (fun w D _ hSw => hfin (rprd1T c es g b y ee) w rfl hSw)
  · intro jq t hj ht
    have : ∀ j, j < 10 → (rprd1D j).all (· < 15) = true := by decide
    have := this jq hj
    rw [ht] at this
    rw [sz]
    simpa using this
  · intro iq o ho D a w hSw hDi hcl hs hel K hK
    have hin : iq < 10 := (Array.getElem?_eq_some_iff.1 ho).1
    match iq, hin, ho with
    | 0, _, ho =>
      obtain rfl := Option.some.inj (ho.symm.trans (rprd1_0 ps))
      have u1 : a.eval (.tmp 1) = .pointer (some ⟨g, 0, none⟩) := (hel 1 (by decide)).trans e1
      exact op_valW (rprd1_0 ps) rfl (v := ccv c) (run_loadC isC26 rfl u1 hSw.2.1) (hK w (fun D' _ _ => hSw))
    | 1, _, ho =>
      obtain rfl := Option.some.inj (ho.symm.trans (rprd1_1 ps))
      have s0 : a.eval (.tmp 6) = ccv c := hs 0 6 (by rfl) rfl
      exact op_enterW (rprd1_1 ps) rfl (f := 40) (args := #[ccv c]) (by rw [run_call rfl enter40]; simp only [List.map_toArray, List.map_cons, List.map_nil, s0]; try rfl) ((c1 w hSw.2.2).mono (fun e w' hh => ⟨_, hh.1, hK w' (fun D' _ _ => ⟨Below.on hSw.1 hh.2, hSw.2.1.later hh.2, hSw.2.2.below hh.2 (Nat.le_refl _)⟩)⟩))
    | 2, _, ho =>
      obtain rfl := Option.some.inj (ho.symm.trans (rprd1_2 ps))
      have u1 : a.eval (.tmp 1) = .pointer (some ⟨g, 0, none⟩) := (hel 1 (by decide)).trans e1
      exact op_valW (rprd1_2 ps) rfl (v := .pointer (some ⟨g, 12, none⟩)) (by unfold rprd1O2 execOp; simp only [u1]; first | (go_simp; done) | (go_simp; with_reducible rfl)) (hK w (fun D' _ _ => hSw))
    | 3, _, ho =>
      obtain rfl := Option.some.inj (ho.symm.trans (rprd1_3 ps))
      have s2 : a.eval (.tmp 8) = .pointer (some ⟨g, 12, none⟩) := hs 2 8 (by rfl) rfl
      have hcl := Box.cell hSw.2.1 12 rfl
      exact op_valW (rprd1_3 ps) rfl (v := .int .i64 c.mr) (by unfold rprd1O3 execOp; simp only [s2]; first | (go_simp; done) | (go_simp; with_reducible rfl)) (hK w (fun D' _ _ => hSw))
    | 4, _, ho =>
      obtain rfl := Option.some.inj (ho.symm.trans (rprd1_4 ps))
      have s1 : a.eval (.tmp 7) = .int .i64 b := hs 1 7 (by rfl) rfl
      have s3 : a.eval (.tmp 9) = .int .i64 c.mr := hs 3 9 (by rfl) rfl
      exact op_enterW (rprd1_4 ps) rfl (f := 65) (args := #[.int .i64 b, .int .i64 c.mr, .int .i64 1000000]) (by rw [run_call rfl enter65]; simp only [List.map_toArray, List.map_cons, List.map_nil, s1, s3]; try rfl) ((c2 w).mono (fun e w' hh => ⟨_, hh.1, hK w' (fun D' _ _ => (by obtain ⟨nn, hq⟩ := hh.2; rw [hq]; exact ⟨below_drewN hSw.1 nn, hSw.2.1.drewN nn, hSw.2.2.below (below_drewN (Below.refl _ _) nn) (Nat.le_refl _)⟩))⟩))
    | 5, _, ho =>
      obtain rfl := Option.some.inj (ho.symm.trans (rprd1_5 ps))
      have s4 : a.eval (.tmp 10) = .tuple #[.int .i64 y, .int .i64 ee] := hs 4 10 (by rfl) rfl
      exact op_valW (rprd1_5 ps) rfl (v := .tuple #[.int .i64 y, .int .i64 ee]) (by unfold rprd1O5 execOp; simp only [s4]; first | (go_simp; done) | (go_simp; with_reducible rfl)) (hK w (fun D' _ _ => hSw))
    | 6, _, ho =>
      obtain rfl := Option.some.inj (ho.symm.trans (rprd1_6 ps))
      have s5 : a.eval (.tmp 5) = .tuple #[.int .i64 y, .int .i64 ee] := hs 5 5 (by rfl) rfl
      exact op_valW (rprd1_6 ps) rfl (v := .int .i64 y) (by unfold rprd1O6 execOp; simp only [s5]; first | (go_simp; done) | (go_simp; with_reducible rfl)) (hK w (fun D' _ _ => hSw))
    | 7, _, ho =>
      obtain rfl := Option.some.inj (ho.symm.trans (rprd1_7 ps))
      have s5 : a.eval (.tmp 5) = .tuple #[.int .i64 y, .int .i64 ee] := hs 5 5 (by rfl) rfl
      exact op_valW (rprd1_7 ps) rfl (v := .int .i64 ee) (by unfold rprd1O7 execOp; simp only [s5]; first | (go_simp; done) | (go_simp; with_reducible rfl)) (hK w (fun D' _ _ => hSw))
    | 8, _, ho =>
      obtain rfl := Option.some.inj (ho.symm.trans (rprd1_8 ps))
      have s6 : a.eval (.tmp 11) = .int .i64 y := hs 6 11 (by rfl) rfl
      exact op_valW (rprd1_8 ps) rfl (v := .int .i64 y) (by unfold rprd1O8 execOp; simp only [s6]; first | (go_simp; done) | (go_simp; with_reducible rfl)) (hK w (fun D' _ _ => hSw))
    | 9, _, ho =>
      obtain rfl := Option.some.inj (ho.symm.trans (rprd1_9 ps))
      have s7 : a.eval (.tmp 12) = .int .i64 ee := hs 7 12 (by rfl) rfl
      exact op_valW (rprd1_9 ps) rfl (v := .int .i64 ee) (by unfold rprd1O9 execOp; simp only [s7]; first | (go_simp; done) | (go_simp; with_reducible rfl)) (hK w (fun D' _ _ => hSw))
    | iq + 10, hin, _ => exact absurd hin (by omega)

set_option maxRecDepth 100000 in
set_option maxHeartbeats 4000000 in
theorem rprd_in (c : Cc) (es : List Tm) (b y ee z : Int) (hz : (if 1073741824 < y then 1073741824 else y) = z) (c1 : ∀ W, TimsAt W c.ba es → Calls Tryd.prog 40 #[ccv c] W fun e w' => e = .returned (.int .i64 b) ∧ Below W.heap.size W w') (c2 : ∀ W, Calls Tryd.prog 65 #[.int .i64 b, .int .i64 c.mr, .int .i64 1000000] W fun e w' => e = .returned (.tuple #[.int .i64 y, .int .i64 ee]) ∧ ∃ n, w' = W.drewN n) (w : World) (hT : TimsAt w c.ba es) : Calls Tryd.prog 39 #[ccv c] w fun e w' => e = .returned (.int .i64 z) ∧ Below w.heap.size w w' := by
  go_enter Tryd.func39, Tryd.ntmps39
  go_wp2_with (first | (refine wpC_box rfl rfl rfl ?_))
  intro X1 p HN
  have HX1 : Hid (Below w.heap.size w X1 ∧ Box X1 p 26 (ccL c) ∧ w.heap.size ≤ p ∧ True) := by
    have hb := Below.refl w.heap.size w
    obtain ⟨hg, hb2, bn⟩ := HN.out
    have hz := hb.size
    exact ⟨Below.on hb hb2, bn, by omega, trivial⟩
  clear HN 
  go_upto_region 1 with fail
  refine rprd1_reg (by rfl) c es p b y ee rfl (HX1.out.2.1) (hT.below (HX1.out.1) (Nat.le_refl _)) rfl c1 c2 ?_
  intro T X2 hT4 hS
  simp only [Act.put, List.setIfInBounds_toArray, List.set_cons_zero, List.set_cons_succ]
  simp only [hT4]
  have hbl := hS.1
  clear hS
  have HX2 : Hid (Below w.heap.size w X2 ∧ Box X2 p 26 (ccL c) ∧ w.heap.size ≤ p ∧ True) := by
    obtain ⟨hb, b0, l0, _⟩ := HX1.out
    exact ⟨Below.on hb hbl, b0.later hbl, l0, trivial⟩
  clear hbl hT4 c1 c2 HX1
  go_wp2_with fail
  go_ret
  exact ⟨rfl, HX2.out.1⟩

theorem rprd_is (c : Cc) (es : List Tm) (b z : Int) (hb : bestV es = b) (hz : prodI b c.mr = z) (bb : I64 b) (bm : I64 c.mr) (hn : es.length = c.bn) (w : World) (hT : TimsAt w c.ba es) : Calls Tryd.prog 39 #[ccv c] w fun e w' => e = .returned (.int .i64 z) ∧ Below w.heap.size w w' := by
  refine rprd_in c es b (mulDivI b c.mr 1000000) (mulDivE b c.mr 1000000) z ?_ (fun W hW => rbw_is c es b hb hn W hW) (fun W => ?_) w hT
  · rw [← hz]; unfold prodI; split <;> omega
  · exact rmuldiv_walk b c.mr 1000000 (by unfold I64 at bb; omega) (by unfold I64 at bm; omega) (by omega) W
end Go.Proofs.YtagmighcofllhaaDoor

/- The contracts of gain, ask, Bandwidth, Product and Gain. -/
namespace Go.Proofs.YtagmighcofllhaaDoor
open Go.ChangeShapes Go.WideShapes Go.ChangeAt Go.RowKit
set_option linter.unusedVariables false
set_option linter.unusedSimpArgs false

open Fil
/-- The table of gains, as the program lays it. -/
def G8 (w : World) : Prop := 0 < w.heap.size ∧ ∀ (j : Nat) (v : Int), gains[j]? = some v → w.cell? ⟨0, j, none⟩ = some (.int .i64 v)
theorem G8.below {w X : World} (h : G8 w) (hb : Below w.heap.size w X) : G8 X := ⟨Nat.lt_of_lt_of_le h.1 hb.size, fun j v hj => (Below.cell (p := ⟨0, j, none⟩) hb h.1).trans (h.2 j v hj)⟩

set_option maxRecDepth 100000 in
set_option maxHeartbeats 4000000 in
theorem gain_1 (w : World) (c : Cc) (hm : c.md = 1) : Calls Tryd.prog 53 #[ccv c] w fun e w' => e = .returned (.int .i64 289) ∧ Below w.heap.size w w' := by
  go_enter Tryd.func53, Tryd.ntmps53
  go_wp2_with (first | (refine wpC_box rfl rfl rfl ?_))
  intro X1 p HN
  have HX1 : Hid (Below w.heap.size w X1 ∧ Box X1 p 48 (ccL c) ∧ w.heap.size ≤ p ∧ True) := by
    have hb := Below.refl w.heap.size w
    obtain ⟨hg, hb2, bn⟩ := HN.out
    have hz := hb.size
    exact ⟨Below.on hb hb2, bn, by omega, trivial⟩
  clear HN 
  have k10 : X1.cell? ⟨p, 10, none⟩ = some (.int .i64 1) := by
    have := Box.cell (HX1.out.2.1) 10 rfl
    rw [hm] at this
    exact this
  clear hm
  go_wp2_with fail
  go_ret
  exact ⟨rfl, HX1.out.1⟩

set_option maxRecDepth 100000 in
set_option maxHeartbeats 4000000 in
theorem gain_2 (w : World) (c : Cc) (hm : c.md = 2) : Calls Tryd.prog 53 #[ccv c] w fun e w' => e = .returned (.int .i64 35) ∧ Below w.heap.size w w' := by
  go_enter Tryd.func53, Tryd.ntmps53
  go_wp2_with (first | (refine wpC_box rfl rfl rfl ?_))
  intro X1 p HN
  have HX1 : Hid (Below w.heap.size w X1 ∧ Box X1 p 48 (ccL c) ∧ w.heap.size ≤ p ∧ True) := by
    have hb := Below.refl w.heap.size w
    obtain ⟨hg, hb2, bn⟩ := HN.out
    have hz := hb.size
    exact ⟨Below.on hb hb2, bn, by omega, trivial⟩
  clear HN 
  have k10 : X1.cell? ⟨p, 10, none⟩ = some (.int .i64 2) := by
    have := Box.cell (HX1.out.2.1) 10 rfl
    rw [hm] at this
    exact this
  clear hm
  go_wp2_with fail
  go_ret
  exact ⟨rfl, HX1.out.1⟩

set_option maxRecDepth 100000 in
set_option maxHeartbeats 4000000 in
theorem gain_4 (w : World) (c : Cc) (hm : c.md = 4) : Calls Tryd.prog 53 #[ccv c] w fun e w' => e = .returned (.int .i64 100) ∧ Below w.heap.size w w' := by
  go_enter Tryd.func53, Tryd.ntmps53
  go_wp2_with (first | (refine wpC_box rfl rfl rfl ?_))
  intro X1 p HN
  have HX1 : Hid (Below w.heap.size w X1 ∧ Box X1 p 48 (ccL c) ∧ w.heap.size ≤ p ∧ True) := by
    have hb := Below.refl w.heap.size w
    obtain ⟨hg, hb2, bn⟩ := HN.out
    have hz := hb.size
    exact ⟨Below.on hb hb2, bn, by omega, trivial⟩
  clear HN 
  have k10 : X1.cell? ⟨p, 10, none⟩ = some (.int .i64 4) := by
    have := Box.cell (HX1.out.2.1) 10 rfl
    rw [hm] at this
    exact this
  clear hm
  go_wp2_with fail
  go_ret
  exact ⟨rfl, HX1.out.1⟩

set_option maxRecDepth 100000 in
set_option maxHeartbeats 4000000 in
theorem gain_30 (w : World) (c : Cc) (hm : c.md = 3) (hp : c.ph = 0) (hg : G8 w) : Calls Tryd.prog 53 #[ccv c] w fun e w' => e = .returned (.int .i64 125) ∧ Below w.heap.size w w' := by
  go_enter Tryd.func53, Tryd.ntmps53
  go_wp2_with (first | (refine wpC_box rfl rfl rfl ?_))
  intro X1 p HN
  have HX1 : Hid (Below w.heap.size w X1 ∧ Box X1 p 48 (ccL c) ∧ w.heap.size ≤ p ∧ True) := by
    have hb := Below.refl w.heap.size w
    obtain ⟨hg, hb2, bn⟩ := HN.out
    have hz := hb.size
    exact ⟨Below.on hb hb2, bn, by omega, trivial⟩
  clear HN 
  have k10 : X1.cell? ⟨p, 10, none⟩ = some (.int .i64 3) := by
    have := Box.cell (HX1.out.2.1) 10 rfl
    rw [hm] at this
    exact this
  have k18 : X1.cell? ⟨p, 18, none⟩ = some (.int .i64 0) := by
    have := Box.cell (HX1.out.2.1) 18 rfl
    rw [hp] at this
    exact this
  clear hm hp
  have f0 : X1.cell? ⟨0, 0, none⟩ = some (.int .i64 125) := (Below.cell (p := ⟨0, 0, none⟩) (HX1.out.1) hg.1).trans (hg.2 0 _ rfl)
  clear hg
  go_wp2_with fail
  go_ret
  exact ⟨rfl, HX1.out.1⟩

set_option maxRecDepth 100000 in
set_option maxHeartbeats 4000000 in
theorem gain_31 (w : World) (c : Cc) (hm : c.md = 3) (hp : c.ph = 1) (hg : G8 w) : Calls Tryd.prog 53 #[ccv c] w fun e w' => e = .returned (.int .i64 75) ∧ Below w.heap.size w w' := by
  go_enter Tryd.func53, Tryd.ntmps53
  go_wp2_with (first | (refine wpC_box rfl rfl rfl ?_))
  intro X1 p HN
  have HX1 : Hid (Below w.heap.size w X1 ∧ Box X1 p 48 (ccL c) ∧ w.heap.size ≤ p ∧ True) := by
    have hb := Below.refl w.heap.size w
    obtain ⟨hg, hb2, bn⟩ := HN.out
    have hz := hb.size
    exact ⟨Below.on hb hb2, bn, by omega, trivial⟩
  clear HN 
  have k10 : X1.cell? ⟨p, 10, none⟩ = some (.int .i64 3) := by
    have := Box.cell (HX1.out.2.1) 10 rfl
    rw [hm] at this
    exact this
  have k18 : X1.cell? ⟨p, 18, none⟩ = some (.int .i64 1) := by
    have := Box.cell (HX1.out.2.1) 18 rfl
    rw [hp] at this
    exact this
  clear hm hp
  have f0 : X1.cell? ⟨0, 1, none⟩ = some (.int .i64 75) := (Below.cell (p := ⟨0, 1, none⟩) (HX1.out.1) hg.1).trans (hg.2 1 _ rfl)
  clear hg
  go_wp2_with fail
  go_ret
  exact ⟨rfl, HX1.out.1⟩

set_option maxRecDepth 100000 in
set_option maxHeartbeats 4000000 in
theorem gain_32 (w : World) (c : Cc) (hm : c.md = 3) (hp : c.ph = 2) (hg : G8 w) : Calls Tryd.prog 53 #[ccv c] w fun e w' => e = .returned (.int .i64 100) ∧ Below w.heap.size w w' := by
  go_enter Tryd.func53, Tryd.ntmps53
  go_wp2_with (first | (refine wpC_box rfl rfl rfl ?_))
  intro X1 p HN
  have HX1 : Hid (Below w.heap.size w X1 ∧ Box X1 p 48 (ccL c) ∧ w.heap.size ≤ p ∧ True) := by
    have hb := Below.refl w.heap.size w
    obtain ⟨hg, hb2, bn⟩ := HN.out
    have hz := hb.size
    exact ⟨Below.on hb hb2, bn, by omega, trivial⟩
  clear HN 
  have k10 : X1.cell? ⟨p, 10, none⟩ = some (.int .i64 3) := by
    have := Box.cell (HX1.out.2.1) 10 rfl
    rw [hm] at this
    exact this
  have k18 : X1.cell? ⟨p, 18, none⟩ = some (.int .i64 2) := by
    have := Box.cell (HX1.out.2.1) 18 rfl
    rw [hp] at this
    exact this
  clear hm hp
  have f0 : X1.cell? ⟨0, 2, none⟩ = some (.int .i64 100) := (Below.cell (p := ⟨0, 2, none⟩) (HX1.out.1) hg.1).trans (hg.2 2 _ rfl)
  clear hg
  go_wp2_with fail
  go_ret
  exact ⟨rfl, HX1.out.1⟩

set_option maxRecDepth 100000 in
set_option maxHeartbeats 4000000 in
theorem gain_33 (w : World) (c : Cc) (hm : c.md = 3) (hp : c.ph = 3) (hg : G8 w) : Calls Tryd.prog 53 #[ccv c] w fun e w' => e = .returned (.int .i64 100) ∧ Below w.heap.size w w' := by
  go_enter Tryd.func53, Tryd.ntmps53
  go_wp2_with (first | (refine wpC_box rfl rfl rfl ?_))
  intro X1 p HN
  have HX1 : Hid (Below w.heap.size w X1 ∧ Box X1 p 48 (ccL c) ∧ w.heap.size ≤ p ∧ True) := by
    have hb := Below.refl w.heap.size w
    obtain ⟨hg, hb2, bn⟩ := HN.out
    have hz := hb.size
    exact ⟨Below.on hb hb2, bn, by omega, trivial⟩
  clear HN 
  have k10 : X1.cell? ⟨p, 10, none⟩ = some (.int .i64 3) := by
    have := Box.cell (HX1.out.2.1) 10 rfl
    rw [hm] at this
    exact this
  have k18 : X1.cell? ⟨p, 18, none⟩ = some (.int .i64 3) := by
    have := Box.cell (HX1.out.2.1) 18 rfl
    rw [hp] at this
    exact this
  clear hm hp
  have f0 : X1.cell? ⟨0, 3, none⟩ = some (.int .i64 100) := (Below.cell (p := ⟨0, 3, none⟩) (HX1.out.1) hg.1).trans (hg.2 3 _ rfl)
  clear hg
  go_wp2_with fail
  go_ret
  exact ⟨rfl, HX1.out.1⟩

set_option maxRecDepth 100000 in
set_option maxHeartbeats 4000000 in
theorem gain_34 (w : World) (c : Cc) (hm : c.md = 3) (hp : c.ph = 4) (hg : G8 w) : Calls Tryd.prog 53 #[ccv c] w fun e w' => e = .returned (.int .i64 100) ∧ Below w.heap.size w w' := by
  go_enter Tryd.func53, Tryd.ntmps53
  go_wp2_with (first | (refine wpC_box rfl rfl rfl ?_))
  intro X1 p HN
  have HX1 : Hid (Below w.heap.size w X1 ∧ Box X1 p 48 (ccL c) ∧ w.heap.size ≤ p ∧ True) := by
    have hb := Below.refl w.heap.size w
    obtain ⟨hg, hb2, bn⟩ := HN.out
    have hz := hb.size
    exact ⟨Below.on hb hb2, bn, by omega, trivial⟩
  clear HN 
  have k10 : X1.cell? ⟨p, 10, none⟩ = some (.int .i64 3) := by
    have := Box.cell (HX1.out.2.1) 10 rfl
    rw [hm] at this
    exact this
  have k18 : X1.cell? ⟨p, 18, none⟩ = some (.int .i64 4) := by
    have := Box.cell (HX1.out.2.1) 18 rfl
    rw [hp] at this
    exact this
  clear hm hp
  have f0 : X1.cell? ⟨0, 4, none⟩ = some (.int .i64 100) := (Below.cell (p := ⟨0, 4, none⟩) (HX1.out.1) hg.1).trans (hg.2 4 _ rfl)
  clear hg
  go_wp2_with fail
  go_ret
  exact ⟨rfl, HX1.out.1⟩

set_option maxRecDepth 100000 in
set_option maxHeartbeats 4000000 in
theorem gain_35 (w : World) (c : Cc) (hm : c.md = 3) (hp : c.ph = 5) (hg : G8 w) : Calls Tryd.prog 53 #[ccv c] w fun e w' => e = .returned (.int .i64 100) ∧ Below w.heap.size w w' := by
  go_enter Tryd.func53, Tryd.ntmps53
  go_wp2_with (first | (refine wpC_box rfl rfl rfl ?_))
  intro X1 p HN
  have HX1 : Hid (Below w.heap.size w X1 ∧ Box X1 p 48 (ccL c) ∧ w.heap.size ≤ p ∧ True) := by
    have hb := Below.refl w.heap.size w
    obtain ⟨hg, hb2, bn⟩ := HN.out
    have hz := hb.size
    exact ⟨Below.on hb hb2, bn, by omega, trivial⟩
  clear HN 
  have k10 : X1.cell? ⟨p, 10, none⟩ = some (.int .i64 3) := by
    have := Box.cell (HX1.out.2.1) 10 rfl
    rw [hm] at this
    exact this
  have k18 : X1.cell? ⟨p, 18, none⟩ = some (.int .i64 5) := by
    have := Box.cell (HX1.out.2.1) 18 rfl
    rw [hp] at this
    exact this
  clear hm hp
  have f0 : X1.cell? ⟨0, 5, none⟩ = some (.int .i64 100) := (Below.cell (p := ⟨0, 5, none⟩) (HX1.out.1) hg.1).trans (hg.2 5 _ rfl)
  clear hg
  go_wp2_with fail
  go_ret
  exact ⟨rfl, HX1.out.1⟩

set_option maxRecDepth 100000 in
set_option maxHeartbeats 4000000 in
theorem gain_36 (w : World) (c : Cc) (hm : c.md = 3) (hp : c.ph = 6) (hg : G8 w) : Calls Tryd.prog 53 #[ccv c] w fun e w' => e = .returned (.int .i64 100) ∧ Below w.heap.size w w' := by
  go_enter Tryd.func53, Tryd.ntmps53
  go_wp2_with (first | (refine wpC_box rfl rfl rfl ?_))
  intro X1 p HN
  have HX1 : Hid (Below w.heap.size w X1 ∧ Box X1 p 48 (ccL c) ∧ w.heap.size ≤ p ∧ True) := by
    have hb := Below.refl w.heap.size w
    obtain ⟨hg, hb2, bn⟩ := HN.out
    have hz := hb.size
    exact ⟨Below.on hb hb2, bn, by omega, trivial⟩
  clear HN 
  have k10 : X1.cell? ⟨p, 10, none⟩ = some (.int .i64 3) := by
    have := Box.cell (HX1.out.2.1) 10 rfl
    rw [hm] at this
    exact this
  have k18 : X1.cell? ⟨p, 18, none⟩ = some (.int .i64 6) := by
    have := Box.cell (HX1.out.2.1) 18 rfl
    rw [hp] at this
    exact this
  clear hm hp
  have f0 : X1.cell? ⟨0, 6, none⟩ = some (.int .i64 100) := (Below.cell (p := ⟨0, 6, none⟩) (HX1.out.1) hg.1).trans (hg.2 6 _ rfl)
  clear hg
  go_wp2_with fail
  go_ret
  exact ⟨rfl, HX1.out.1⟩

set_option maxRecDepth 100000 in
set_option maxHeartbeats 4000000 in
theorem gain_37 (w : World) (c : Cc) (hm : c.md = 3) (hp : c.ph = 7) (hg : G8 w) : Calls Tryd.prog 53 #[ccv c] w fun e w' => e = .returned (.int .i64 100) ∧ Below w.heap.size w w' := by
  go_enter Tryd.func53, Tryd.ntmps53
  go_wp2_with (first | (refine wpC_box rfl rfl rfl ?_))
  intro X1 p HN
  have HX1 : Hid (Below w.heap.size w X1 ∧ Box X1 p 48 (ccL c) ∧ w.heap.size ≤ p ∧ True) := by
    have hb := Below.refl w.heap.size w
    obtain ⟨hg, hb2, bn⟩ := HN.out
    have hz := hb.size
    exact ⟨Below.on hb hb2, bn, by omega, trivial⟩
  clear HN 
  have k10 : X1.cell? ⟨p, 10, none⟩ = some (.int .i64 3) := by
    have := Box.cell (HX1.out.2.1) 10 rfl
    rw [hm] at this
    exact this
  have k18 : X1.cell? ⟨p, 18, none⟩ = some (.int .i64 7) := by
    have := Box.cell (HX1.out.2.1) 18 rfl
    rw [hp] at this
    exact this
  clear hm hp
  have f0 : X1.cell? ⟨0, 7, none⟩ = some (.int .i64 100) := (Below.cell (p := ⟨0, 7, none⟩) (HX1.out.1) hg.1).trans (hg.2 7 _ rfl)
  clear hg
  go_wp2_with fail
  go_ret
  exact ⟨rfl, HX1.out.1⟩

theorem gain_is (c : Cc) (hm : 1 ≤ c.md ∧ c.md ≤ 4) (hp : 0 ≤ c.ph ∧ c.ph < 8) (w : World) (hg : G8 w) : Calls Tryd.prog 53 #[ccv c] w fun e w' => e = .returned (.int .i64 (gainI c)) ∧ Below w.heap.size w w' := by
  unfold gainI
  by_cases h1 : c.md = 1
  · rw [if_pos h1]; exact gain_1 w c h1
  by_cases h2 : c.md = 2
  · rw [if_neg h1, if_pos h2]; exact gain_2 w c h2
  by_cases h3 : c.md = 3
  · rw [if_neg h1, if_neg h2, if_pos h3]
    have : c.ph = 0 ∨ c.ph = 1 ∨ c.ph = 2 ∨ c.ph = 3 ∨ c.ph = 4 ∨ c.ph = 5 ∨ c.ph = 6 ∨ c.ph = 7 := by omega
    rcases this with h | h | h | h | h | h | h | h
    · rw [h]; exact gain_30 w c h3 h hg
    · rw [h]; exact gain_31 w c h3 h hg
    · rw [h]; exact gain_32 w c h3 h hg
    · rw [h]; exact gain_33 w c h3 h hg
    · rw [h]; exact gain_34 w c h3 h hg
    · rw [h]; exact gain_35 w c h3 h hg
    · rw [h]; exact gain_36 w c h3 h hg
    · rw [h]; exact gain_37 w c h3 h hg
  · rw [if_neg h1, if_neg h2, if_neg h3]; exact gain_4 w c (by omega)

set_option maxRecDepth 100000 in
set_option maxHeartbeats 4000000 in
theorem ask_no51 (w : World) (c : Cc) (c1 : ∀ W, Below w.heap.size w W → Calls Tryd.prog 11 #[ccv c] W fun e w' => e = .returned (.int .i64 230) ∧ Below W.heap.size W w')  : Calls Tryd.prog 50 #[ccv c, Value.func (.func 51) #[] #[]] w fun e w' => e = .returned (.int .i64 0) ∧ Below w.heap.size w w' := by
  go_enter Tryd.func50, Tryd.ntmps50
  go_wp2_with (first | (refine wpC_box rfl rfl rfl ?_))
  intro X1 p HN
  have HX1 : Hid (Below w.heap.size w X1 ∧ Box X1 p 26 (ccL c) ∧ w.heap.size ≤ p ∧ True) := by
    have hb := Below.refl w.heap.size w
    obtain ⟨hg, hb2, bn⟩ := HN.out
    have hz := hb.size
    exact ⟨Below.on hb hb2, bn, by omega, trivial⟩
  clear HN 
  go_wp2_with (first | (refine wpC_load rfl isC26 rfl rfl (HX1.out.2.1) ?_) | fail)
  refine (c1 _ (HX1.out.1)).mono ?_
  rintro e w2 ⟨rfl, hB⟩
  have HX2 : Hid (Below w.heap.size w w2 ∧ Box w2 p 26 (ccL c) ∧ w.heap.size ≤ p ∧ True) := by
    obtain ⟨hb, b0, l0, _⟩ := HX1.out
    exact ⟨Below.on hb hB, b0.later hB, l0, trivial⟩
  clear hB HX1
  go_wp2_with fail
  go_ret
  exact ⟨rfl, HX2.out.1⟩

set_option maxRecDepth 100000 in
set_option maxHeartbeats 4000000 in
theorem ask_yes51 (w : World) (c : Cc) (z : Int) (c1 : ∀ W, Below w.heap.size w W → Calls Tryd.prog 11 #[ccv c] W fun e w' => e = .returned (.int .i64 0) ∧ Below W.heap.size W w') (c2 : ∀ W, Below w.heap.size w W → Calls Tryd.prog 51 #[ccv c] W fun e w' => e = .returned (.int .i64 z) ∧ Below W.heap.size W w')  : Calls Tryd.prog 50 #[ccv c, Value.func (.func 51) #[] #[]] w fun e w' => e = .returned (.int .i64 z) ∧ Below w.heap.size w w' := by
  go_enter Tryd.func50, Tryd.ntmps50
  go_wp2_with (first | (refine wpC_box rfl rfl rfl ?_))
  intro X1 p HN
  have HX1 : Hid (Below w.heap.size w X1 ∧ Box X1 p 26 (ccL c) ∧ w.heap.size ≤ p ∧ True) := by
    have hb := Below.refl w.heap.size w
    obtain ⟨hg, hb2, bn⟩ := HN.out
    have hz := hb.size
    exact ⟨Below.on hb hb2, bn, by omega, trivial⟩
  clear HN 
  go_wp2_with (first | (refine wpC_load rfl isC26 rfl rfl (HX1.out.2.1) ?_) | fail)
  refine (c1 _ (HX1.out.1)).mono ?_
  rintro e w2 ⟨rfl, hB⟩
  have HX2 : Hid (Below w.heap.size w w2 ∧ Box w2 p 26 (ccL c) ∧ w.heap.size ≤ p ∧ True) := by
    obtain ⟨hb, b0, l0, _⟩ := HX1.out
    exact ⟨Below.on hb hB, b0.later hB, l0, trivial⟩
  clear hB HX1
  go_wp2_with (first | (refine wpC_load rfl isC26 rfl rfl (HX2.out.2.1) ?_) | (refine wpC_build1 rfl rfl rfl (built48C _) ?_) | fail)
  refine (c2 _ (HX2.out.1)).mono ?_
  rintro e w3 ⟨rfl, hB⟩
  have HX3 : Hid (Below w.heap.size w w3 ∧ Box w3 p 26 (ccL c) ∧ w.heap.size ≤ p ∧ True) := by
    obtain ⟨hb, b0, l0, _⟩ := HX2.out
    exact ⟨Below.on hb hB, b0.later hB, l0, trivial⟩
  clear hB HX2
  go_wp2_with fail
  go_ret
  exact ⟨rfl, HX3.out.1⟩

set_option maxRecDepth 100000 in
set_option maxHeartbeats 4000000 in
theorem ask_no52 (w : World) (c : Cc) (c1 : ∀ W, Below w.heap.size w W → Calls Tryd.prog 11 #[ccv c] W fun e w' => e = .returned (.int .i64 230) ∧ Below W.heap.size W w')  : Calls Tryd.prog 50 #[ccv c, Value.func (.func 52) #[] #[]] w fun e w' => e = .returned (.int .i64 0) ∧ Below w.heap.size w w' := by
  go_enter Tryd.func50, Tryd.ntmps50
  go_wp2_with (first | (refine wpC_box rfl rfl rfl ?_))
  intro X1 p HN
  have HX1 : Hid (Below w.heap.size w X1 ∧ Box X1 p 26 (ccL c) ∧ w.heap.size ≤ p ∧ True) := by
    have hb := Below.refl w.heap.size w
    obtain ⟨hg, hb2, bn⟩ := HN.out
    have hz := hb.size
    exact ⟨Below.on hb hb2, bn, by omega, trivial⟩
  clear HN 
  go_wp2_with (first | (refine wpC_load rfl isC26 rfl rfl (HX1.out.2.1) ?_) | fail)
  refine (c1 _ (HX1.out.1)).mono ?_
  rintro e w2 ⟨rfl, hB⟩
  have HX2 : Hid (Below w.heap.size w w2 ∧ Box w2 p 26 (ccL c) ∧ w.heap.size ≤ p ∧ True) := by
    obtain ⟨hb, b0, l0, _⟩ := HX1.out
    exact ⟨Below.on hb hB, b0.later hB, l0, trivial⟩
  clear hB HX1
  go_wp2_with fail
  go_ret
  exact ⟨rfl, HX2.out.1⟩

set_option maxRecDepth 100000 in
set_option maxHeartbeats 4000000 in
theorem ask_yes52 (w : World) (c : Cc) (z : Int) (c1 : ∀ W, Below w.heap.size w W → Calls Tryd.prog 11 #[ccv c] W fun e w' => e = .returned (.int .i64 0) ∧ Below W.heap.size W w') (c2 : ∀ W, Below w.heap.size w W → Calls Tryd.prog 52 #[ccv c] W fun e w' => e = .returned (.int .i64 z) ∧ Below W.heap.size W w')  : Calls Tryd.prog 50 #[ccv c, Value.func (.func 52) #[] #[]] w fun e w' => e = .returned (.int .i64 z) ∧ Below w.heap.size w w' := by
  go_enter Tryd.func50, Tryd.ntmps50
  go_wp2_with (first | (refine wpC_box rfl rfl rfl ?_))
  intro X1 p HN
  have HX1 : Hid (Below w.heap.size w X1 ∧ Box X1 p 26 (ccL c) ∧ w.heap.size ≤ p ∧ True) := by
    have hb := Below.refl w.heap.size w
    obtain ⟨hg, hb2, bn⟩ := HN.out
    have hz := hb.size
    exact ⟨Below.on hb hb2, bn, by omega, trivial⟩
  clear HN 
  go_wp2_with (first | (refine wpC_load rfl isC26 rfl rfl (HX1.out.2.1) ?_) | fail)
  refine (c1 _ (HX1.out.1)).mono ?_
  rintro e w2 ⟨rfl, hB⟩
  have HX2 : Hid (Below w.heap.size w w2 ∧ Box w2 p 26 (ccL c) ∧ w.heap.size ≤ p ∧ True) := by
    obtain ⟨hb, b0, l0, _⟩ := HX1.out
    exact ⟨Below.on hb hB, b0.later hB, l0, trivial⟩
  clear hB HX1
  go_wp2_with (first | (refine wpC_load rfl isC26 rfl rfl (HX2.out.2.1) ?_) | (refine wpC_build1 rfl rfl rfl (built48C _) ?_) | fail)
  refine (c2 _ (HX2.out.1)).mono ?_
  rintro e w3 ⟨rfl, hB⟩
  have HX3 : Hid (Below w.heap.size w w3 ∧ Box w3 p 26 (ccL c) ∧ w.heap.size ≤ p ∧ True) := by
    obtain ⟨hb, b0, l0, _⟩ := HX2.out
    exact ⟨Below.on hb hB, b0.later hB, l0, trivial⟩
  clear hB HX2
  go_wp2_with fail
  go_ret
  exact ⟨rfl, HX3.out.1⟩

set_option maxRecDepth 100000 in
set_option maxHeartbeats 4000000 in
theorem ask_no53 (w : World) (c : Cc) (c1 : ∀ W, Below w.heap.size w W → Calls Tryd.prog 11 #[ccv c] W fun e w' => e = .returned (.int .i64 230) ∧ Below W.heap.size W w')  : Calls Tryd.prog 50 #[ccv c, Value.func (.func 53) #[] #[]] w fun e w' => e = .returned (.int .i64 0) ∧ Below w.heap.size w w' := by
  go_enter Tryd.func50, Tryd.ntmps50
  go_wp2_with (first | (refine wpC_box rfl rfl rfl ?_))
  intro X1 p HN
  have HX1 : Hid (Below w.heap.size w X1 ∧ Box X1 p 26 (ccL c) ∧ w.heap.size ≤ p ∧ True) := by
    have hb := Below.refl w.heap.size w
    obtain ⟨hg, hb2, bn⟩ := HN.out
    have hz := hb.size
    exact ⟨Below.on hb hb2, bn, by omega, trivial⟩
  clear HN 
  go_wp2_with (first | (refine wpC_load rfl isC26 rfl rfl (HX1.out.2.1) ?_) | fail)
  refine (c1 _ (HX1.out.1)).mono ?_
  rintro e w2 ⟨rfl, hB⟩
  have HX2 : Hid (Below w.heap.size w w2 ∧ Box w2 p 26 (ccL c) ∧ w.heap.size ≤ p ∧ True) := by
    obtain ⟨hb, b0, l0, _⟩ := HX1.out
    exact ⟨Below.on hb hB, b0.later hB, l0, trivial⟩
  clear hB HX1
  go_wp2_with fail
  go_ret
  exact ⟨rfl, HX2.out.1⟩

set_option maxRecDepth 100000 in
set_option maxHeartbeats 4000000 in
theorem ask_yes53 (w : World) (c : Cc) (z : Int) (c1 : ∀ W, Below w.heap.size w W → Calls Tryd.prog 11 #[ccv c] W fun e w' => e = .returned (.int .i64 0) ∧ Below W.heap.size W w') (c2 : ∀ W, Below w.heap.size w W → Calls Tryd.prog 53 #[ccv c] W fun e w' => e = .returned (.int .i64 z) ∧ Below W.heap.size W w')  : Calls Tryd.prog 50 #[ccv c, Value.func (.func 53) #[] #[]] w fun e w' => e = .returned (.int .i64 z) ∧ Below w.heap.size w w' := by
  go_enter Tryd.func50, Tryd.ntmps50
  go_wp2_with (first | (refine wpC_box rfl rfl rfl ?_))
  intro X1 p HN
  have HX1 : Hid (Below w.heap.size w X1 ∧ Box X1 p 26 (ccL c) ∧ w.heap.size ≤ p ∧ True) := by
    have hb := Below.refl w.heap.size w
    obtain ⟨hg, hb2, bn⟩ := HN.out
    have hz := hb.size
    exact ⟨Below.on hb hb2, bn, by omega, trivial⟩
  clear HN 
  go_wp2_with (first | (refine wpC_load rfl isC26 rfl rfl (HX1.out.2.1) ?_) | fail)
  refine (c1 _ (HX1.out.1)).mono ?_
  rintro e w2 ⟨rfl, hB⟩
  have HX2 : Hid (Below w.heap.size w w2 ∧ Box w2 p 26 (ccL c) ∧ w.heap.size ≤ p ∧ True) := by
    obtain ⟨hb, b0, l0, _⟩ := HX1.out
    exact ⟨Below.on hb hB, b0.later hB, l0, trivial⟩
  clear hB HX1
  go_wp2_with (first | (refine wpC_load rfl isC26 rfl rfl (HX2.out.2.1) ?_) | (refine wpC_build1 rfl rfl rfl (built48C _) ?_) | fail)
  refine (c2 _ (HX2.out.1)).mono ?_
  rintro e w3 ⟨rfl, hB⟩
  have HX3 : Hid (Below w.heap.size w w3 ∧ Box w3 p 26 (ccL c) ∧ w.heap.size ≤ p ∧ True) := by
    obtain ⟨hb, b0, l0, _⟩ := HX2.out
    exact ⟨Below.on hb hB, b0.later hB, l0, trivial⟩
  clear hB HX2
  go_wp2_with fail
  go_ret
  exact ⟨rfl, HX3.out.1⟩

set_option maxRecDepth 100000 in
set_option maxHeartbeats 4000000 in
theorem askc_51 (w : World) (c : Cc) (z : Int) (c1 : ∀ W, Below w.heap.size w W → Calls Tryd.prog 50 #[ccv c, Value.func (.func 51) #[] #[]] W fun e w' => e = .returned (.int .i64 z) ∧ Below W.heap.size W w')  : Calls Tryd.prog 13 #[ccv c] w fun e w' => e = .returned (.int .i64 z) ∧ Below w.heap.size w w' := by
  go_enter Tryd.func13, Tryd.ntmps13
  go_wp2_with (first | (refine wpC_box rfl rfl rfl ?_))
  intro X1 p HN
  have HX1 : Hid (Below w.heap.size w X1 ∧ Box X1 p 26 (ccL c) ∧ w.heap.size ≤ p ∧ True) := by
    have hb := Below.refl w.heap.size w
    obtain ⟨hg, hb2, bn⟩ := HN.out
    have hz := hb.size
    exact ⟨Below.on hb hb2, bn, by omega, trivial⟩
  clear HN 
  go_wp2_with (first | (refine wpC_load rfl isC26 rfl rfl (HX1.out.2.1) ?_) | fail)
  refine (c1 _ (HX1.out.1)).mono ?_
  rintro e w2 ⟨rfl, hB⟩
  have HX2 : Hid (Below w.heap.size w w2 ∧ Box w2 p 26 (ccL c) ∧ w.heap.size ≤ p ∧ True) := by
    obtain ⟨hb, b0, l0, _⟩ := HX1.out
    exact ⟨Below.on hb hB, b0.later hB, l0, trivial⟩
  clear hB HX1
  go_wp2_with fail
  go_ret
  exact ⟨rfl, HX2.out.1⟩

set_option maxRecDepth 100000 in
set_option maxHeartbeats 4000000 in
theorem askc_52 (w : World) (c : Cc) (z : Int) (c1 : ∀ W, Below w.heap.size w W → Calls Tryd.prog 50 #[ccv c, Value.func (.func 52) #[] #[]] W fun e w' => e = .returned (.int .i64 z) ∧ Below W.heap.size W w')  : Calls Tryd.prog 15 #[ccv c] w fun e w' => e = .returned (.int .i64 z) ∧ Below w.heap.size w w' := by
  go_enter Tryd.func15, Tryd.ntmps15
  go_wp2_with (first | (refine wpC_box rfl rfl rfl ?_))
  intro X1 p HN
  have HX1 : Hid (Below w.heap.size w X1 ∧ Box X1 p 26 (ccL c) ∧ w.heap.size ≤ p ∧ True) := by
    have hb := Below.refl w.heap.size w
    obtain ⟨hg, hb2, bn⟩ := HN.out
    have hz := hb.size
    exact ⟨Below.on hb hb2, bn, by omega, trivial⟩
  clear HN 
  go_wp2_with (first | (refine wpC_load rfl isC26 rfl rfl (HX1.out.2.1) ?_) | fail)
  refine (c1 _ (HX1.out.1)).mono ?_
  rintro e w2 ⟨rfl, hB⟩
  have HX2 : Hid (Below w.heap.size w w2 ∧ Box w2 p 26 (ccL c) ∧ w.heap.size ≤ p ∧ True) := by
    obtain ⟨hb, b0, l0, _⟩ := HX1.out
    exact ⟨Below.on hb hB, b0.later hB, l0, trivial⟩
  clear hB HX1
  go_wp2_with fail
  go_ret
  exact ⟨rfl, HX2.out.1⟩

set_option maxRecDepth 100000 in
set_option maxHeartbeats 4000000 in
theorem askc_53 (w : World) (c : Cc) (z : Int) (c1 : ∀ W, Below w.heap.size w W → Calls Tryd.prog 50 #[ccv c, Value.func (.func 53) #[] #[]] W fun e w' => e = .returned (.int .i64 z) ∧ Below W.heap.size W w')  : Calls Tryd.prog 17 #[ccv c] w fun e w' => e = .returned (.int .i64 z) ∧ Below w.heap.size w w' := by
  go_enter Tryd.func17, Tryd.ntmps17
  go_wp2_with (first | (refine wpC_box rfl rfl rfl ?_))
  intro X1 p HN
  have HX1 : Hid (Below w.heap.size w X1 ∧ Box X1 p 26 (ccL c) ∧ w.heap.size ≤ p ∧ True) := by
    have hb := Below.refl w.heap.size w
    obtain ⟨hg, hb2, bn⟩ := HN.out
    have hz := hb.size
    exact ⟨Below.on hb hb2, bn, by omega, trivial⟩
  clear HN 
  go_wp2_with (first | (refine wpC_load rfl isC26 rfl rfl (HX1.out.2.1) ?_) | fail)
  refine (c1 _ (HX1.out.1)).mono ?_
  rintro e w2 ⟨rfl, hB⟩
  have HX2 : Hid (Below w.heap.size w w2 ∧ Box w2 p 26 (ccL c) ∧ w.heap.size ≤ p ∧ True) := by
    obtain ⟨hb, b0, l0, _⟩ := HX1.out
    exact ⟨Below.on hb hB, b0.later hB, l0, trivial⟩
  clear hB HX1
  go_wp2_with fail
  go_ret
  exact ⟨rfl, HX2.out.1⟩

def bwR (c : Cc) (es : List Tm) : Int := if okC c es = true then bestV es else 0
def prR (c : Cc) (es : List Tm) : Int := if okC c es = true then prodI (bestV es) c.mr else 0
def gnR (c : Cc) (es : List Tm) : Int := if okC c es = true then gainI c else 0
theorem best_bd {c : Cc} {es : List Tm} (h : rat8 c es = true) : 0 ≤ bestV es ∧ bestV es ≤ 1099511627776 := by
  unfold rat8 at h
  simp only [Bool.and_eq_true, List.all_eq_true, decide_eq_true_eq] at h
  obtain ⟨hc, ha⟩ := h
  obtain ⟨he, _, _⟩ := (chk_iff true es none).1 hc
  cases es with
  | nil => exact ⟨by decide, by decide⟩
  | cons x r =>
    have h1 := (ha x (by simp)).1
    have h2 := entB_iff.1 (he x (by simp))
    exact ⟨h2.2.1, h1⟩
theorem bw8_is (c : Cc) (es : List Tm) (hI : CcI c) (hn : es.length = c.bn) (w : World) (hT : TimsAt w c.ba es) : Calls Tryd.prog 13 #[ccv c] w fun e w' => e = .returned (.int .i64 (bwR c es)) ∧ Below w.heap.size w w' := by
  refine askc_51 w c _ (fun W hW => ?_)
  have hT := hT.below hW (Nat.le_refl _)
  unfold bwR
  cases k : okC c es with
  | false => rw [if_neg (by simp)]; exact ask_no51 W c (fun U hU => chk8_no c es hI hn k U (hT.below hU (Nat.le_refl _)))
  | true => rw [if_pos rfl]; exact ask_yes51 W c _ (fun U hU => chk8_ok c es hI hn k U (hT.below hU (Nat.le_refl _))) (fun U hU => bw_is c es _ rfl hn U (hT.below hU (Nat.le_refl _)))
theorem pr8_is (c : Cc) (es : List Tm) (hI : CcI c) (hn : es.length = c.bn) (w : World) (hT : TimsAt w c.ba es) : Calls Tryd.prog 15 #[ccv c] w fun e w' => e = .returned (.int .i64 (prR c es)) ∧ Below w.heap.size w w' := by
  refine askc_52 w c _ (fun W hW => ?_)
  have hT := hT.below hW (Nat.le_refl _)
  unfold prR
  cases k : okC c es with
  | false => rw [if_neg (by simp)]; exact ask_no52 W c (fun U hU => chk8_no c es hI hn k U (hT.below hU (Nat.le_refl _)))
  | true =>
    have hb := best_bd (ok8_out k).2
    have hm := (ok8_out k).1.mr
    rw [if_pos rfl]; exact ask_yes52 W c _ (fun U hU => chk8_ok c es hI hn k U (hT.below hU (Nat.le_refl _))) (fun U hU => prd_is c es _ _ rfl rfl (by unfold I64; omega) (by unfold I64; omega) hn U (hT.below hU (Nat.le_refl _)))
theorem gn8_is (c : Cc) (es : List Tm) (hI : CcI c) (hn : es.length = c.bn) (w : World) (hT : TimsAt w c.ba es) (hg : G8 w) : Calls Tryd.prog 17 #[ccv c] w fun e w' => e = .returned (.int .i64 (gnR c es)) ∧ Below w.heap.size w w' := by
  refine askc_53 w c _ (fun W hW => ?_)
  have hT := hT.below hW (Nat.le_refl _)
  have hg := hg.below hW
  unfold gnR
  cases k : okC c es with
  | false => rw [if_neg (by simp)]; exact ask_no53 W c (fun U hU => chk8_no c es hI hn k U (hT.below hU (Nat.le_refl _)))
  | true => rw [if_pos rfl]; exact ask_yes53 W c _ (fun U hU => chk8_ok c es hI hn k U (hT.below hU (Nat.le_refl _))) (fun U hU => gain_is c (ok8_out k).1.md (ok8_out k).1.ph U (hg.below hU))
end Go.Proofs.YtagmighcofllhaaDoor
