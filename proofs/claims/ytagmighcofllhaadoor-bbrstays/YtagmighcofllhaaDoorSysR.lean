/- The region of BbrStays that calls Acked. -/
import Derived.Test.YtagmighcofllhaaDoorDetg
import Derived.Test.YtagmighcofllhaaDoorKSms
import Derived.Test.YtagmighcofllhaaDoorKAck
namespace Go.Proofs.YtagmighcofllhaaDoor
open Go.ChangeShapes Go.WideShapes Go.ChangeAt Go.RowKit
set_option linter.unusedVariables false
set_option linter.unusedSimpArgs false

open Fil
def decA (g f : Nat) : Option Addr := if f = 0 then none else some ⟨g, 0, none⟩
theorem row_dec {w : World} {B : Nat} {va : Option Addr} {L vc : Nat} {l : List Tm} (h : Fil.RowT w B va L vc l) : ∃ g f, va = decA g f := by
  rcases h.2 with ⟨h', _⟩ | ⟨g, c, cur, e1, _⟩
  · cases h'
    exact ⟨0, 0, rfl⟩
  · cases e1
    exact ⟨g, 1, rfl⟩
theorem isS26 : IsS 26 22 := ⟨_, Tryd.underlying26, by kernel_rfl⟩
section
variable {o : Oper} {w : World}
theorem run_storeS {ev : Operand → Value} {ty : TypeId} {x y : Operand} (ho : o.op = .store ty x y) {g : Nat} (hx : ev x = .pointer (some ⟨g, 0, none⟩)) {cs : List Value} (hy : ev y = agv cs) {t : TypeId} {old : List Value} (hb : Box w g t old) (hl : old.length = cs.length) (hC : IsS ty cs.length) (h1 : OneS cs) : (execOp ev o).run Tryd.prog w = .ok .skip (w.setRow g cs.toArray) := by
  obtain ⟨fs, hu, hi⟩ := hC
  unfold execOp
  simp only [ho, hx, hy, agv, Instr.storeAt, Instr.sureAddr, Sem.run_bind, Sem.run_pure, Result.andThen_ok, run_storeVar_row w g t ty old.toArray cs.toArray hb (by simpa using hi) (by simpa using hl) h1]
theorem run_loadE {ev : Operand → Value} (s : Sm) {x : Operand} (ho : o.op = .load 28 x) {b i : Nat} (hx : ev x = .pointer (some ⟨b, i, none⟩)) (hc : w.rangeAt b i (smL s)) : (execOp ev o).run Tryd.prog w = .ok (.value (agv (smL s))) w := by
  unfold execOp
  simp only [ho, hx, Sem.run_bind, run_loadAt_mid (P := Tryd.prog) w b i 28 (smL s) _ hc Tryd.underlying28 rfl (by kernel_rfl), Result.andThen_ok, Sem.run_pure, agv]
end
theorem stoR {w : World} {g : Nat} {t : TypeId} {old : List Value} (cs : List Value) (hb : Box w g t old) : Sto w g (w.setRow g cs.toArray) ∧ Box (w.setRow g cs.toArray) g t cs := ⟨sto_row _ _ _, by unfold Box; exact setRow_heap w g old.toArray _ t _ hb⟩
theorem enter8 (args : Array Value) (w : World) : (callFunc 8 args).run Tryd.prog w = .ok (.enter 8 args) w := by kernel_rfl
def sygO0 (ps : String) : Oper := { dst := some 34, op := .load 26 (.tmp 7), type := 26, pos := ps, after := #[], guard := none }
def sygO1 (ps : String) : Oper := { dst := some 35, op := .move (.tmp 2), type := 44, pos := ps, after := #[], guard := none }
def sygO2 (ps : String) : Oper := { dst := some 36, op := .move (.tmp 10), type := 3, pos := ps, after := #[], guard := none }
def sygO3 (ps : String) : Oper := { dst := some 37, op := .indexAddr 44 (.tmp 35) (.tmp 36), type := 0, pos := ps, after := #[{ on := 1, ground := .data }, { on := 2, ground := .data }], guard := none }
def sygO4 (ps : String) : Oper := { dst := some 38, op := .load 28 (.tmp 37), type := 28, pos := ps, after := #[{ on := 3, ground := .data }], guard := none }
def sygO5 (ps : String) : Oper := { dst := some 39, op := .call { callee := .value (.func 8), args := #[.tmp 34, .tmp 38], argTypes := #[26, 28] }, type := 30, pos := ps, after := #[{ on := 0, ground := .data }, { on := 4, ground := .data }], guard := none }
def sygO6 (ps : String) : Oper := { dst := some 33, op := .move (.tmp 39), type := 30, pos := ps, after := #[{ on := 5, ground := .data }], guard := none }
def sygO7 (ps : String) : Oper := { dst := some 40, op := .extract (.tmp 33) 0, type := 26, pos := ps, after := #[{ on := 6, ground := .data }], guard := none }
def sygO8 (ps : String) : Oper := { dst := some 41, op := .extract (.tmp 33) 1, type := 29, pos := ps, after := #[{ on := 6, ground := .data }, { on := 10, ground := .gcOnly .lateStores }], guard := none }
def sygO9 (ps : String) : Oper := { dst := some 11, op := .alloc 26, type := 0, pos := ps, after := #[], guard := none }
def sygO10 (ps : String) : Oper := { dst := none, op := .store 26 (.tmp 11) (.tmp 40), type := 0, pos := ps, after := #[{ on := 9, ground := .data }, { on := 7, ground := .data }, { on := 5, ground := .chain }, { on := 0, ground := .phase }, { on := 1, ground := .phase }, { on := 2, ground := .phase }, { on := 3, ground := .phase }, { on := 4, ground := .phase }, { on := 5, ground := .phase }, { on := 6, ground := .phase }, { on := 7, ground := .phase }, { on := 8, ground := .textOnly .lateStores }, { on := 9, ground := .phase }], guard := none }
def sygO11 (ps : String) : Oper := { dst := some 12, op := .assign (.tmp 41), type := 29, pos := ps, after := #[{ on := 8, ground := .data }, { on := 10, ground := .chain }, { on := 0, ground := .phase }, { on := 1, ground := .phase }, { on := 2, ground := .phase }, { on := 3, ground := .phase }, { on := 4, ground := .phase }, { on := 5, ground := .phase }, { on := 6, ground := .phase }, { on := 7, ground := .phase }, { on := 8, ground := .phase }, { on := 9, ground := .phase }, { on := 10, ground := .phase }], guard := none }
def syg (ps : String) : Array Oper := #[sygO0 ps, sygO1 ps, sygO2 ps, sygO3 ps, sygO4 ps, sygO5 ps, sygO6 ps, sygO7 ps, sygO8 ps, sygO9 ps, sygO10 ps, sygO11 ps]
theorem syg_0 (ps : String) : (syg ps)[0]? = some (sygO0 ps) := rfl
theorem syg_1 (ps : String) : (syg ps)[1]? = some (sygO1 ps) := rfl
theorem syg_2 (ps : String) : (syg ps)[2]? = some (sygO2 ps) := rfl
theorem syg_3 (ps : String) : (syg ps)[3]? = some (sygO3 ps) := rfl
theorem syg_4 (ps : String) : (syg ps)[4]? = some (sygO4 ps) := rfl
theorem syg_5 (ps : String) : (syg ps)[5]? = some (sygO5 ps) := rfl
theorem syg_6 (ps : String) : (syg ps)[6]? = some (sygO6 ps) := rfl
theorem syg_7 (ps : String) : (syg ps)[7]? = some (sygO7 ps) := rfl
theorem syg_8 (ps : String) : (syg ps)[8]? = some (sygO8 ps) := rfl
theorem syg_9 (ps : String) : (syg ps)[9]? = some (sygO9 ps) := rfl
theorem syg_10 (ps : String) : (syg ps)[10]? = some (sygO10 ps) := rfl
theorem syg_11 (ps : String) : (syg ps)[11]? = some (sygO11 ps) := rfl
def sygD : Nat → Option Tmp
  | 0 => some 34
  | 1 => some 35
  | 2 => some 36
  | 3 => some 37
  | 4 => some 38
  | 5 => some 39
  | 6 => some 33
  | 7 => some 40
  | 8 => some 41
  | 9 => some 11
  | 10 => none
  | 11 => some 12
  | _ => none
def sygT (d D2 : Cc) (s : Sm) (fs2 : List Tm) (L : Nat) (i n cap gc b o : Nat) (c : Nat → Nat) : Nat → Value
  | 0 => ccv d
  | 1 => .slice (some ⟨b, o, none⟩) n cap
  | 2 => .int .i64 (i : Int)
  | 3 => .pointer (some ⟨b, o + i * 8, none⟩)
  | 4 => agv (smL s)
  | 5 => .tuple #[ccv (rowed D2 (decA (c 101) (c 102)) L (c 100)), .int .i64 0]
  | 6 => .tuple #[ccv (rowed D2 (decA (c 101) (c 102)) L (c 100)), .int .i64 0]
  | 7 => ccv (rowed D2 (decA (c 101) (c 102)) L (c 100))
  | 8 => .int .i64 0
  | 9 => .pointer (some ⟨c 9, 0, none⟩)
  | 10 => undef
  | 11 => .int .i64 0
  | _ => undef
set_option maxRecDepth 100000 in
set_option maxHeartbeats 4000000 in
theorem syg_reg {ps : String} {Q : Exit → Act → World → Prop} {a0 : Act} {W0 W1 : World} (sz : a0.tmps.size = 81) (d D2 : Cc) (s : Sm) (fs2 : List Tm) (L : Nat) (i n cap gc b o : Nat)
    (e2 : a0.eval (.tmp 2) = .slice (some ⟨b, o, none⟩) n cap) (e7 : a0.eval (.tmp 7) = .pointer (some ⟨gc, 0, none⟩)) (e10 : a0.eval (.tmp 10) = .int .i64 (i : Int))
    (hb : Box W1 gc 26 (ccL d)) (hW : W0 = W1) (hgc : gc < W1.heap.size) (hin : (i : Int) < (n : Int)) (hrng : ∀ W, Below W1.heap.size W1 W → W.rangeAt b (o + i * 8) (smL s)) (c1 : ∀ W, Below W1.heap.size W1 W → Calls Tryd.prog 8 #[ccv d, agv (smL s)] W fun e w' => ∃ va vk, e = .returned (.tuple #[ccv (rowed D2 va L vk), .int .i64 0]) ∧ Fil.RowT w' 0 va L vk fs2 ∧ Below W.heap.size W w')
    (hfin : ∀ (c : Nat → Nat) (T : Nat → Value) w, T 9 = .pointer (some ⟨c 9, 0, none⟩) → T 11 = .int .i64 0 → Below W1.heap.size W1 w ∧ Box w gc 26 (ccL d) ∧ (true = true → Fil.RowT w 0 (decA (c 101) (c 102)) L (c 100) fs2) ∧ (true = true → W1.heap.size ≤ (c 9) ∧ Box w (c 9) 26 (if true = true then ccL (rowed D2 (decA (c 101) (c 102)) L (c 100)) else ccL zC)) ∧ True → Q .normal (((((((((((a0.put (some 34) (T 0)).put (some 35) (T 1)).put (some 36) (T 2)).put (some 37) (T 3)).put (some 38) (T 4)).put (some 39) (T 5)).put (some 33) (T 6)).put (some 40) (T 7)).put (some 41) (T 8)).put (some 11) (T 9)).put (some 12) (T 11)) w) :
    (Code.region 8 (syg ps) true).wp Tryd.prog Q a0 W0 := by
  refine wp_region_detg (by kernel_rfl) 12 rfl sygD ?_ (by decide) (sygT d D2 s fs2 L i n cap gc b o) (fun c D w => Below W1.heap.size W1 w ∧ Box w gc 26 (ccL d) ∧ (D 5 = true → Fil.RowT w 0 (decA (c 101) (c 102)) L (c 100) fs2) ∧ (D 9 = true → W1.heap.size ≤ (c 9) ∧ Box w (c 9) 26 (if D 10 = true then ccL (rowed D2 (decA (c 101) (c 102)) L (c 100)) else ccL zC)) ∧ True) (fun _ => 0) (fun D hD => by
    show Below W1.heap.size W1 W0.drew ∧ Box W0.drew gc 26 (ccL d) ∧ (D 5 = true → Fil.RowT W0.drew 0 (decA 0 0) L 0 fs2) ∧ (D 9 = true → W1.heap.size ≤ 0 ∧ Box W0.drew 0 26 (if D 10 = true then ccL (rowed D2 (decA 0 0) L 0) else ccL zC)) ∧ True
    rw [hD 5, hD 9, hD 10]
    exact (by subst hW; exact ⟨(Below.refl _ _).drew, hb.drew, fun h => (by cases h), fun h => (by cases h), trivial⟩)) ?_ (by rfl) (fun c w D hD hSw => by
    have hSw' : Below W1.heap.size W1 w ∧ Box w gc 26 (ccL d) ∧ (D 5 = true → Fil.RowT w 0 (decA (c 101) (c 102)) L (c 100) fs2) ∧ (D 9 = true → W1.heap.size ≤ (c 9) ∧ Box w (c 9) 26 (if D 10 = true then ccL (rowed D2 (decA (c 101) (c 102)) L (c 100)) else ccL zC)) ∧ True := hSw
    rw [hD 5 (by decide), hD 9 (by decide), hD 10 (by decide)] at hSw'
    exact hfin c (sygT d D2 s fs2 L i n cap gc b o c) w rfl rfl hSw')
  · intro jq t hj ht
    have : ∀ j, j < 12 → (sygD j).all (· < 81) = true := by decide
    have := this jq hj
    rw [ht] at this
    rw [sz]
    simpa using this
  · intro iq o ho c D a w hSw hDi hcl hrd hs hel K hK
    have hin : iq < 12 := (Array.getElem?_eq_some_iff.1 ho).1
    match iq, hin, ho with
    | 0, _, ho =>
      obtain rfl := Option.some.inj (ho.symm.trans (syg_0 ps))
      have u7 : a.eval (.tmp 7) = .pointer (some ⟨gc, 0, none⟩) := (hel 7 (by decide)).trans e7
      exact op_valW (syg_0 ps) rfl (v := ccv d) (run_loadC isC26 rfl u7 hSw.2.1) (hK c w (fun _ _ => rfl) (fun D' hi' hj' => by
        have hd5 : D' 5 = D 5 := hj' 5 (by decide)
        have hd9 : D' 9 = D 9 := hj' 9 (by decide)
        have hd10 : D' 10 = D 10 := hj' 10 (by decide)
        show Below W1.heap.size W1 w ∧ Box w gc 26 (ccL d) ∧ (D' 5 = true → Fil.RowT w 0 (decA (c 101) (c 102)) L (c 100) fs2) ∧ (D' 9 = true → W1.heap.size ≤ (c 9) ∧ Box w (c 9) 26 (if D' 10 = true then ccL (rowed D2 (decA (c 101) (c 102)) L (c 100)) else ccL zC)) ∧ True
        rw [hd5, hd9, hd10]
        exact hSw))
    | 1, _, ho =>
      obtain rfl := Option.some.inj (ho.symm.trans (syg_1 ps))
      have u2 : a.eval (.tmp 2) = .slice (some ⟨b, o, none⟩) n cap := (hel 2 (by decide)).trans e2
      exact op_valW (syg_1 ps) rfl (v := .slice (some ⟨b, o, none⟩) n cap) (by unfold sygO1 execOp; simp only [u2]; first | (go_simp; done) | (go_simp; with_reducible rfl)) (hK c w (fun _ _ => rfl) (fun D' hi' hj' => by
        have hd5 : D' 5 = D 5 := hj' 5 (by decide)
        have hd9 : D' 9 = D 9 := hj' 9 (by decide)
        have hd10 : D' 10 = D 10 := hj' 10 (by decide)
        show Below W1.heap.size W1 w ∧ Box w gc 26 (ccL d) ∧ (D' 5 = true → Fil.RowT w 0 (decA (c 101) (c 102)) L (c 100) fs2) ∧ (D' 9 = true → W1.heap.size ≤ (c 9) ∧ Box w (c 9) 26 (if D' 10 = true then ccL (rowed D2 (decA (c 101) (c 102)) L (c 100)) else ccL zC)) ∧ True
        rw [hd5, hd9, hd10]
        exact hSw))
    | 2, _, ho =>
      obtain rfl := Option.some.inj (ho.symm.trans (syg_2 ps))
      have u10 : a.eval (.tmp 10) = .int .i64 (i : Int) := (hel 10 (by decide)).trans e10
      exact op_valW (syg_2 ps) rfl (v := .int .i64 (i : Int)) (by unfold sygO2 execOp; simp only [u10]; first | (go_simp; done) | (go_simp; with_reducible rfl)) (hK c w (fun _ _ => rfl) (fun D' hi' hj' => by
        have hd5 : D' 5 = D 5 := hj' 5 (by decide)
        have hd9 : D' 9 = D 9 := hj' 9 (by decide)
        have hd10 : D' 10 = D 10 := hj' 10 (by decide)
        show Below W1.heap.size W1 w ∧ Box w gc 26 (ccL d) ∧ (D' 5 = true → Fil.RowT w 0 (decA (c 101) (c 102)) L (c 100) fs2) ∧ (D' 9 = true → W1.heap.size ≤ (c 9) ∧ Box w (c 9) 26 (if D' 10 = true then ccL (rowed D2 (decA (c 101) (c 102)) L (c 100)) else ccL zC)) ∧ True
        rw [hd5, hd9, hd10]
        exact hSw))
    | 3, _, ho =>
      obtain rfl := Option.some.inj (ho.symm.trans (syg_3 ps))
      have s1 : a.eval (.tmp 35) = .slice (some ⟨b, o, none⟩) n cap := hs 1 35 (by rfl) rfl
      have s2 : a.eval (.tmp 36) = .int .i64 (i : Int) := hs 2 36 (by rfl) rfl
      have hin1 := hin
      exact op_valW (syg_3 ps) rfl (v := .pointer (some ⟨b, o + i * 8, none⟩)) (by unfold sygO3 execOp; simp only [s1, s2]; first | (go_simp; done) | (go_simp; with_reducible rfl)) (hK c w (fun _ _ => rfl) (fun D' hi' hj' => by
        have hd5 : D' 5 = D 5 := hj' 5 (by decide)
        have hd9 : D' 9 = D 9 := hj' 9 (by decide)
        have hd10 : D' 10 = D 10 := hj' 10 (by decide)
        show Below W1.heap.size W1 w ∧ Box w gc 26 (ccL d) ∧ (D' 5 = true → Fil.RowT w 0 (decA (c 101) (c 102)) L (c 100) fs2) ∧ (D' 9 = true → W1.heap.size ≤ (c 9) ∧ Box w (c 9) 26 (if D' 10 = true then ccL (rowed D2 (decA (c 101) (c 102)) L (c 100)) else ccL zC)) ∧ True
        rw [hd5, hd9, hd10]
        exact hSw))
    | 4, _, ho =>
      obtain rfl := Option.some.inj (ho.symm.trans (syg_4 ps))
      have s3 : a.eval (.tmp 37) = .pointer (some ⟨b, o + i * 8, none⟩) := hs 3 37 (by rfl) rfl
      exact op_valW (syg_4 ps) rfl (v := agv (smL s)) (run_loadE s rfl s3 (hrng w hSw.1)) (hK c w (fun _ _ => rfl) (fun D' hi' hj' => by
        have hd5 : D' 5 = D 5 := hj' 5 (by decide)
        have hd9 : D' 9 = D 9 := hj' 9 (by decide)
        have hd10 : D' 10 = D 10 := hj' 10 (by decide)
        show Below W1.heap.size W1 w ∧ Box w gc 26 (ccL d) ∧ (D' 5 = true → Fil.RowT w 0 (decA (c 101) (c 102)) L (c 100) fs2) ∧ (D' 9 = true → W1.heap.size ≤ (c 9) ∧ Box w (c 9) 26 (if D' 10 = true then ccL (rowed D2 (decA (c 101) (c 102)) L (c 100)) else ccL zC)) ∧ True
        rw [hd5, hd9, hd10]
        exact hSw))
    | 5, _, ho =>
      obtain rfl := Option.some.inj (ho.symm.trans (syg_5 ps))
      have s0 : a.eval (.tmp 34) = ccv d := hs 0 34 (by rfl) rfl
      have s4 : a.eval (.tmp 38) = agv (smL s) := hs 4 38 (by rfl) rfl
      exact op_enterW (syg_5 ps) rfl (f := 8) (args := #[ccv d, agv (smL s)]) (by rw [run_call rfl enter8]; simp only [List.map_toArray, List.map_cons, List.map_nil, s0, s4]; try rfl) ((c1 w hSw.1).mono (fun e w' hh => by
        obtain ⟨vb, vj, rfl, hR, hB⟩ := hh
        obtain ⟨g, f, rfl⟩ := row_dec hR
        have hn10 : D 10 = false := (show D 10 = false from (by cases h : D 10 with | false => rfl | true => exact absurd (hcl 6 _ 5 (syg_6 ps) (by rfl) (hcl 7 _ 6 (syg_7 ps) (by rfl) (hcl 10 _ 7 (syg_10 ps) (by rfl) h))) (by rw [hDi]; simp)))
        exact ⟨_, rfl, hK (fun k => if k = 100 then vj else if k = 101 then g else if k = 102 then f else c k) w' (fun j hj => by
          have h5 : j ≠ 5 := by rintro rfl; rw [hDi] at hj; cases hj
          have h6 : j ≠ 6 := by rintro rfl; exact absurd (hcl 6 _ 5 (syg_6 ps) (by rfl) hj) (by rw [hDi]; simp)
          have h7 : j ≠ 7 := by rintro rfl; exact absurd (hcl 6 _ 5 (syg_6 ps) (by rfl) (hcl 7 _ 6 (syg_7 ps) (by rfl) hj)) (by rw [hDi]; simp)
          match j, h5, h6, h7 with
          | 0, _, _, _ => rfl
          | 1, _, _, _ => rfl
          | 2, _, _, _ => rfl
          | 3, _, _, _ => rfl
          | 4, _, _, _ => rfl
          | 5, h, _, _ => exact absurd rfl h
          | 6, _, h, _ => exact absurd rfl h
          | 7, _, _, h => exact absurd rfl h
          | 8, _, _, _ => rfl
          | 9, _, _, _ => rfl
          | 10, _, _, _ => rfl
          | 11, _, _, _ => rfl
          | _ + 12, _, _, _ => rfl) (fun D' hi' hj' => by
          have hd5 : D' 5 = true := hi'
          have hd9 : D' 9 = D 9 := hj' 9 (by decide)
          have hd10 : D' 10 = D 10 := hj' 10 (by decide)
          show Below W1.heap.size W1 w' ∧ Box w' gc 26 (ccL d) ∧ (D' 5 = true → Fil.RowT w' 0 (decA g f) L vj fs2) ∧ (D' 9 = true → W1.heap.size ≤ (c 9) ∧ Box w' (c 9) 26 (if D' 10 = true then ccL (rowed D2 (decA g f) L vj) else ccL zC)) ∧ True
          rw [hd5, hd9, hd10, hn10]
          refine ⟨Below.on hSw.1 hB, hSw.2.1.later hB, fun _ => hR, fun h => ⟨(hSw.2.2.2.1 h).1, ?_⟩, trivial⟩
          have h2 := (hSw.2.2.2.1 h).2
          rw [hn10] at h2
          rw [if_neg (by simp)] at h2 ⊢
          exact h2.later hB)⟩))
    | 6, _, ho =>
      obtain rfl := Option.some.inj (ho.symm.trans (syg_6 ps))
      have s5 : a.eval (.tmp 39) = .tuple #[ccv (rowed D2 (decA (c 101) (c 102)) L (c 100)), .int .i64 0] := hs 5 39 (by rfl) rfl
      exact op_valW (syg_6 ps) rfl (v := .tuple #[ccv (rowed D2 (decA (c 101) (c 102)) L (c 100)), .int .i64 0]) (by unfold sygO6 execOp; simp only [s5]; first | (go_simp; done) | (go_simp; with_reducible rfl)) (hK c w (fun _ _ => rfl) (fun D' hi' hj' => by
        have hd5 : D' 5 = D 5 := hj' 5 (by decide)
        have hd9 : D' 9 = D 9 := hj' 9 (by decide)
        have hd10 : D' 10 = D 10 := hj' 10 (by decide)
        show Below W1.heap.size W1 w ∧ Box w gc 26 (ccL d) ∧ (D' 5 = true → Fil.RowT w 0 (decA (c 101) (c 102)) L (c 100) fs2) ∧ (D' 9 = true → W1.heap.size ≤ (c 9) ∧ Box w (c 9) 26 (if D' 10 = true then ccL (rowed D2 (decA (c 101) (c 102)) L (c 100)) else ccL zC)) ∧ True
        rw [hd5, hd9, hd10]
        exact hSw))
    | 7, _, ho =>
      obtain rfl := Option.some.inj (ho.symm.trans (syg_7 ps))
      have s6 : a.eval (.tmp 33) = .tuple #[ccv (rowed D2 (decA (c 101) (c 102)) L (c 100)), .int .i64 0] := hs 6 33 (by rfl) rfl
      exact op_valW (syg_7 ps) rfl (v := ccv (rowed D2 (decA (c 101) (c 102)) L (c 100))) (by unfold sygO7 execOp; simp only [s6]; first | (go_simp; done) | (go_simp; with_reducible rfl)) (hK c w (fun _ _ => rfl) (fun D' hi' hj' => by
        have hd5 : D' 5 = D 5 := hj' 5 (by decide)
        have hd9 : D' 9 = D 9 := hj' 9 (by decide)
        have hd10 : D' 10 = D 10 := hj' 10 (by decide)
        show Below W1.heap.size W1 w ∧ Box w gc 26 (ccL d) ∧ (D' 5 = true → Fil.RowT w 0 (decA (c 101) (c 102)) L (c 100) fs2) ∧ (D' 9 = true → W1.heap.size ≤ (c 9) ∧ Box w (c 9) 26 (if D' 10 = true then ccL (rowed D2 (decA (c 101) (c 102)) L (c 100)) else ccL zC)) ∧ True
        rw [hd5, hd9, hd10]
        exact hSw))
    | 8, _, ho =>
      obtain rfl := Option.some.inj (ho.symm.trans (syg_8 ps))
      have s6 : a.eval (.tmp 33) = .tuple #[ccv (rowed D2 (decA (c 101) (c 102)) L (c 100)), .int .i64 0] := hs 6 33 (by rfl) rfl
      exact op_valW (syg_8 ps) rfl (v := .int .i64 0) (by unfold sygO8 execOp; simp only [s6]; first | (go_simp; done) | (go_simp; with_reducible rfl)) (hK c w (fun _ _ => rfl) (fun D' hi' hj' => by
        have hd5 : D' 5 = D 5 := hj' 5 (by decide)
        have hd9 : D' 9 = D 9 := hj' 9 (by decide)
        have hd10 : D' 10 = D 10 := hj' 10 (by decide)
        show Below W1.heap.size W1 w ∧ Box w gc 26 (ccL d) ∧ (D' 5 = true → Fil.RowT w 0 (decA (c 101) (c 102)) L (c 100) fs2) ∧ (D' 9 = true → W1.heap.size ≤ (c 9) ∧ Box w (c 9) 26 (if D' 10 = true then ccL (rowed D2 (decA (c 101) (c 102)) L (c 100)) else ccL zC)) ∧ True
        rw [hd5, hd9, hd10]
        exact hSw))
    | 9, _, ho =>
      obtain rfl := Option.some.inj (ho.symm.trans (syg_9 ps))
      refine op_allocW (syg_9 ps) rfl rfl rfl zero26 (hK (fun k => if k = 9 then w.heap.size else c k) _ (fun j hj => ?_) (fun D' hi' hj' => ?_))
      · have hji : j ≠ 9 := by rintro rfl; rw [hDi] at hj; cases hj
        match j, hji with
        | 0, h9 => rfl
        | 1, h9 => rfl
        | 2, h9 => rfl
        | 3, h9 => rfl
        | 4, h9 => rfl
        | 5, h9 => rfl
        | 6, h9 => rfl
        | 7, h9 => rfl
        | 8, h9 => rfl
        | 9, h9 => exact absurd rfl h9
        | 10, h9 => rfl
        | 11, h9 => rfl
        | _ + 12, _ => rfl
      · have hd5 : D' 5 = D 5 := hj' 5 (by decide)
        have hd9 : D' 9 = true := hi'
        have hd10 : D' 10 = D 10 := hj' 10 (by decide)
        show Below W1.heap.size W1 (w.alloc (.cells (ccL zC).toArray 26)) ∧ Box (w.alloc (.cells (ccL zC).toArray 26)) gc 26 (ccL d) ∧ (D' 5 = true → Fil.RowT (w.alloc (.cells (ccL zC).toArray 26)) 0 (decA (c 101) (c 102)) L (c 100) fs2) ∧ (D' 9 = true → W1.heap.size ≤ w.heap.size ∧ Box (w.alloc (.cells (ccL zC).toArray 26)) w.heap.size 26 (if D' 10 = true then ccL (rowed D2 (decA (c 101) (c 102)) L (c 100)) else ccL zC)) ∧ True
        rw [hd5, hd9, hd10]
        exact ⟨hSw.1.alloc hSw.1.size _, hSw.2.1.alloc _, fun h => (hSw.2.2.1 h).later ((Below.refl _ w).alloc (Nat.le_refl _) _), fun _ => ⟨hSw.1.size, by rw [(show D 10 = false from (by cases h : D 10 with | false => rfl | true => exact absurd (hcl 10 _ 9 (syg_10 ps) (by rfl) h) (by rw [hDi]; simp))), if_neg (by simp)]; exact Box.new w 26 (ccL zC)⟩, trivial⟩
    | 10, _, ho =>
      obtain rfl := Option.some.inj (ho.symm.trans (syg_10 ps))
      have s9 : a.eval (.tmp 11) = .pointer (some ⟨c 9, 0, none⟩) := hs 9 11 (by rfl) rfl
      have s7 : a.eval (.tmp 40) = ccv (rowed D2 (decA (c 101) (c 102)) L (c 100)) := hs 7 40 (by rfl) rfl
      have hd9 : D 9 = true := hrd 9 (by rfl)
      have hB9 := hSw.2.2.2.1 hd9
      have hB10 : Box w (c 9) 26 (ccL zC) := by
        have h2 := hB9.2
        rw [hDi, if_neg (by simp)] at h2
        exact h2
      have hst := (stoR (ccL (rowed D2 (decA (c 101) (c 102)) L (c 100))) hB10)
      exact op_stoW (syg_10 ps) rfl rfl (w' := (w.setRow (c 9) (ccL (rowed D2 (decA (c 101) (c 102)) L (c 100))).toArray)) (run_storeS rfl s9 s7 hB10 rfl isS26 (ccL_one _)) (hK c _ (fun _ _ => rfl) (fun D' hi' hj' => by
        have hd5 : D' 5 = D 5 := hj' 5 (by decide)
        have hd9 : D' 9 = D 9 := hj' 9 (by decide)
        have hd10 : D' 10 = true := hi'
        show Below W1.heap.size W1 (w.setRow (c 9) (ccL (rowed D2 (decA (c 101) (c 102)) L (c 100))).toArray) ∧ Box (w.setRow (c 9) (ccL (rowed D2 (decA (c 101) (c 102)) L (c 100))).toArray) gc 26 (ccL d) ∧ (D' 5 = true → Fil.RowT (w.setRow (c 9) (ccL (rowed D2 (decA (c 101) (c 102)) L (c 100))).toArray) 0 (decA (c 101) (c 102)) L (c 100) fs2) ∧ (D' 9 = true → W1.heap.size ≤ (c 9) ∧ Box (w.setRow (c 9) (ccL (rowed D2 (decA (c 101) (c 102)) L (c 100))).toArray) (c 9) 26 (if D' 10 = true then ccL (rowed D2 (decA (c 101) (c 102)) L (c 100)) else ccL zC)) ∧ True
        rw [hd5, hd9, hd10]
        exact ⟨hst.1.below _ _ hB9.1 hSw.1, hSw.2.1.sto hst.1 (by omega), fun h => (hSw.2.2.1 h).sto hB10 (by decide) hst.1, fun _ => ⟨hB9.1, by rw [if_pos rfl]; exact hst.2⟩, trivial⟩))
    | 11, _, ho =>
      obtain rfl := Option.some.inj (ho.symm.trans (syg_11 ps))
      have s8 : a.eval (.tmp 41) = .int .i64 0 := hs 8 41 (by rfl) rfl
      exact op_valW (syg_11 ps) rfl (v := .int .i64 0) (by unfold sygO11 execOp; simp only [s8]; first | (go_simp; done) | (go_simp; with_reducible rfl)) (hK c w (fun _ _ => rfl) (fun D' hi' hj' => by
        have hd5 : D' 5 = D 5 := hj' 5 (by decide)
        have hd9 : D' 9 = D 9 := hj' 9 (by decide)
        have hd10 : D' 10 = D 10 := hj' 10 (by decide)
        show Below W1.heap.size W1 w ∧ Box w gc 26 (ccL d) ∧ (D' 5 = true → Fil.RowT w 0 (decA (c 101) (c 102)) L (c 100) fs2) ∧ (D' 9 = true → W1.heap.size ≤ (c 9) ∧ Box w (c 9) 26 (if D' 10 = true then ccL (rowed D2 (decA (c 101) (c 102)) L (c 100)) else ccL zC)) ∧ True
        rw [hd5, hd9, hd10]
        exact hSw))
    | iq + 12, hin, _ => exact absurd hin (by omega)
def sybO0 (ps : String) : Oper := { dst := some 34, op := .load 26 (.tmp 7), type := 26, pos := ps, after := #[], guard := none }
def sybO1 (ps : String) : Oper := { dst := some 35, op := .move (.tmp 2), type := 44, pos := ps, after := #[], guard := none }
def sybO2 (ps : String) : Oper := { dst := some 36, op := .move (.tmp 10), type := 3, pos := ps, after := #[], guard := none }
def sybO3 (ps : String) : Oper := { dst := some 37, op := .indexAddr 44 (.tmp 35) (.tmp 36), type := 0, pos := ps, after := #[{ on := 1, ground := .data }, { on := 2, ground := .data }], guard := none }
def sybO4 (ps : String) : Oper := { dst := some 38, op := .load 28 (.tmp 37), type := 28, pos := ps, after := #[{ on := 3, ground := .data }], guard := none }
def sybO5 (ps : String) : Oper := { dst := some 39, op := .call { callee := .value (.func 8), args := #[.tmp 34, .tmp 38], argTypes := #[26, 28] }, type := 30, pos := ps, after := #[{ on := 0, ground := .data }, { on := 4, ground := .data }], guard := none }
def sybO6 (ps : String) : Oper := { dst := some 33, op := .move (.tmp 39), type := 30, pos := ps, after := #[{ on := 5, ground := .data }], guard := none }
def sybO7 (ps : String) : Oper := { dst := some 40, op := .extract (.tmp 33) 0, type := 26, pos := ps, after := #[{ on := 6, ground := .data }], guard := none }
def sybO8 (ps : String) : Oper := { dst := some 41, op := .extract (.tmp 33) 1, type := 29, pos := ps, after := #[{ on := 6, ground := .data }, { on := 10, ground := .gcOnly .lateStores }], guard := none }
def sybO9 (ps : String) : Oper := { dst := some 11, op := .alloc 26, type := 0, pos := ps, after := #[], guard := none }
def sybO10 (ps : String) : Oper := { dst := none, op := .store 26 (.tmp 11) (.tmp 40), type := 0, pos := ps, after := #[{ on := 9, ground := .data }, { on := 7, ground := .data }, { on := 5, ground := .chain }, { on := 0, ground := .phase }, { on := 1, ground := .phase }, { on := 2, ground := .phase }, { on := 3, ground := .phase }, { on := 4, ground := .phase }, { on := 5, ground := .phase }, { on := 6, ground := .phase }, { on := 7, ground := .phase }, { on := 8, ground := .textOnly .lateStores }, { on := 9, ground := .phase }], guard := none }
def sybO11 (ps : String) : Oper := { dst := some 12, op := .assign (.tmp 41), type := 29, pos := ps, after := #[{ on := 8, ground := .data }, { on := 10, ground := .chain }, { on := 0, ground := .phase }, { on := 1, ground := .phase }, { on := 2, ground := .phase }, { on := 3, ground := .phase }, { on := 4, ground := .phase }, { on := 5, ground := .phase }, { on := 6, ground := .phase }, { on := 7, ground := .phase }, { on := 8, ground := .phase }, { on := 9, ground := .phase }, { on := 10, ground := .phase }], guard := none }
def syb (ps : String) : Array Oper := #[sybO0 ps, sybO1 ps, sybO2 ps, sybO3 ps, sybO4 ps, sybO5 ps, sybO6 ps, sybO7 ps, sybO8 ps, sybO9 ps, sybO10 ps, sybO11 ps]
theorem syb_0 (ps : String) : (syb ps)[0]? = some (sybO0 ps) := rfl
theorem syb_1 (ps : String) : (syb ps)[1]? = some (sybO1 ps) := rfl
theorem syb_2 (ps : String) : (syb ps)[2]? = some (sybO2 ps) := rfl
theorem syb_3 (ps : String) : (syb ps)[3]? = some (sybO3 ps) := rfl
theorem syb_4 (ps : String) : (syb ps)[4]? = some (sybO4 ps) := rfl
theorem syb_5 (ps : String) : (syb ps)[5]? = some (sybO5 ps) := rfl
theorem syb_6 (ps : String) : (syb ps)[6]? = some (sybO6 ps) := rfl
theorem syb_7 (ps : String) : (syb ps)[7]? = some (sybO7 ps) := rfl
theorem syb_8 (ps : String) : (syb ps)[8]? = some (sybO8 ps) := rfl
theorem syb_9 (ps : String) : (syb ps)[9]? = some (sybO9 ps) := rfl
theorem syb_10 (ps : String) : (syb ps)[10]? = some (sybO10 ps) := rfl
theorem syb_11 (ps : String) : (syb ps)[11]? = some (sybO11 ps) := rfl
def sybD : Nat → Option Tmp
  | 0 => some 34
  | 1 => some 35
  | 2 => some 36
  | 3 => some 37
  | 4 => some 38
  | 5 => some 39
  | 6 => some 33
  | 7 => some 40
  | 8 => some 41
  | 9 => some 11
  | 10 => none
  | 11 => some 12
  | _ => none
def sybT (d : Cc) (s : Sm) (i n cap gc b o : Nat) (c : Nat → Nat) : Nat → Value
  | 0 => ccv d
  | 1 => .slice (some ⟨b, o, none⟩) n cap
  | 2 => .int .i64 (i : Int)
  | 3 => .pointer (some ⟨b, o + i * 8, none⟩)
  | 4 => agv (smL s)
  | 5 => .tuple #[ccv zC, .int .i64 2]
  | 6 => .tuple #[ccv zC, .int .i64 2]
  | 7 => ccv zC
  | 8 => .int .i64 2
  | 9 => .pointer (some ⟨c 9, 0, none⟩)
  | 10 => undef
  | 11 => .int .i64 2
  | _ => undef
set_option maxRecDepth 100000 in
set_option maxHeartbeats 4000000 in
theorem syb_reg {ps : String} {Q : Exit → Act → World → Prop} {a0 : Act} {W0 W1 : World} (sz : a0.tmps.size = 81) (d : Cc) (s : Sm) (i n cap gc b o : Nat)
    (e2 : a0.eval (.tmp 2) = .slice (some ⟨b, o, none⟩) n cap) (e7 : a0.eval (.tmp 7) = .pointer (some ⟨gc, 0, none⟩)) (e10 : a0.eval (.tmp 10) = .int .i64 (i : Int))
    (hb : Box W1 gc 26 (ccL d)) (hW : W0 = W1) (hgc : gc < W1.heap.size) (hin : (i : Int) < (n : Int)) (hrng : ∀ W, Below W1.heap.size W1 W → W.rangeAt b (o + i * 8) (smL s)) (c1 : ∀ W, Below W1.heap.size W1 W → Calls Tryd.prog 8 #[ccv d, agv (smL s)] W fun e w' => e = .returned (.tuple #[ccv zC, .int .i64 2]) ∧ Below W.heap.size W w')
    (hfin : ∀ (c : Nat → Nat) (T : Nat → Value) w, T 9 = .pointer (some ⟨c 9, 0, none⟩) → T 11 = .int .i64 2 → Below W1.heap.size W1 w ∧ Box w gc 26 (ccL d) ∧ (true = true → True) ∧ (true = true → W1.heap.size ≤ (c 9) ∧ Box w (c 9) 26 (if true = true then ccL zC else ccL zC)) ∧ True → Q .normal (((((((((((a0.put (some 34) (T 0)).put (some 35) (T 1)).put (some 36) (T 2)).put (some 37) (T 3)).put (some 38) (T 4)).put (some 39) (T 5)).put (some 33) (T 6)).put (some 40) (T 7)).put (some 41) (T 8)).put (some 11) (T 9)).put (some 12) (T 11)) w) :
    (Code.region 8 (syb ps) true).wp Tryd.prog Q a0 W0 := by
  refine wp_region_detg (by kernel_rfl) 12 rfl sybD ?_ (by decide) (sybT d s i n cap gc b o) (fun c D w => Below W1.heap.size W1 w ∧ Box w gc 26 (ccL d) ∧ (D 5 = true → True) ∧ (D 9 = true → W1.heap.size ≤ (c 9) ∧ Box w (c 9) 26 (if D 10 = true then ccL zC else ccL zC)) ∧ True) (fun _ => 0) (fun D hD => by
    show Below W1.heap.size W1 W0.drew ∧ Box W0.drew gc 26 (ccL d) ∧ (D 5 = true → True) ∧ (D 9 = true → W1.heap.size ≤ 0 ∧ Box W0.drew 0 26 (if D 10 = true then ccL zC else ccL zC)) ∧ True
    rw [hD 5, hD 9, hD 10]
    exact (by subst hW; exact ⟨(Below.refl _ _).drew, hb.drew, fun h => (by cases h), fun h => (by cases h), trivial⟩)) ?_ (by rfl) (fun c w D hD hSw => by
    have hSw' : Below W1.heap.size W1 w ∧ Box w gc 26 (ccL d) ∧ (D 5 = true → True) ∧ (D 9 = true → W1.heap.size ≤ (c 9) ∧ Box w (c 9) 26 (if D 10 = true then ccL zC else ccL zC)) ∧ True := hSw
    rw [hD 5 (by decide), hD 9 (by decide), hD 10 (by decide)] at hSw'
    exact hfin c (sybT d s i n cap gc b o c) w rfl rfl hSw')
  · intro jq t hj ht
    have : ∀ j, j < 12 → (sybD j).all (· < 81) = true := by decide
    have := this jq hj
    rw [ht] at this
    rw [sz]
    simpa using this
  · intro iq o ho c D a w hSw hDi hcl hrd hs hel K hK
    have hin : iq < 12 := (Array.getElem?_eq_some_iff.1 ho).1
    match iq, hin, ho with
    | 0, _, ho =>
      obtain rfl := Option.some.inj (ho.symm.trans (syb_0 ps))
      have u7 : a.eval (.tmp 7) = .pointer (some ⟨gc, 0, none⟩) := (hel 7 (by decide)).trans e7
      exact op_valW (syb_0 ps) rfl (v := ccv d) (run_loadC isC26 rfl u7 hSw.2.1) (hK c w (fun _ _ => rfl) (fun D' hi' hj' => by
        have hd5 : D' 5 = D 5 := hj' 5 (by decide)
        have hd9 : D' 9 = D 9 := hj' 9 (by decide)
        have hd10 : D' 10 = D 10 := hj' 10 (by decide)
        show Below W1.heap.size W1 w ∧ Box w gc 26 (ccL d) ∧ (D' 5 = true → True) ∧ (D' 9 = true → W1.heap.size ≤ (c 9) ∧ Box w (c 9) 26 (if D' 10 = true then ccL zC else ccL zC)) ∧ True
        rw [hd5, hd9, hd10]
        exact hSw))
    | 1, _, ho =>
      obtain rfl := Option.some.inj (ho.symm.trans (syb_1 ps))
      have u2 : a.eval (.tmp 2) = .slice (some ⟨b, o, none⟩) n cap := (hel 2 (by decide)).trans e2
      exact op_valW (syb_1 ps) rfl (v := .slice (some ⟨b, o, none⟩) n cap) (by unfold sybO1 execOp; simp only [u2]; first | (go_simp; done) | (go_simp; with_reducible rfl)) (hK c w (fun _ _ => rfl) (fun D' hi' hj' => by
        have hd5 : D' 5 = D 5 := hj' 5 (by decide)
        have hd9 : D' 9 = D 9 := hj' 9 (by decide)
        have hd10 : D' 10 = D 10 := hj' 10 (by decide)
        show Below W1.heap.size W1 w ∧ Box w gc 26 (ccL d) ∧ (D' 5 = true → True) ∧ (D' 9 = true → W1.heap.size ≤ (c 9) ∧ Box w (c 9) 26 (if D' 10 = true then ccL zC else ccL zC)) ∧ True
        rw [hd5, hd9, hd10]
        exact hSw))
    | 2, _, ho =>
      obtain rfl := Option.some.inj (ho.symm.trans (syb_2 ps))
      have u10 : a.eval (.tmp 10) = .int .i64 (i : Int) := (hel 10 (by decide)).trans e10
      exact op_valW (syb_2 ps) rfl (v := .int .i64 (i : Int)) (by unfold sybO2 execOp; simp only [u10]; first | (go_simp; done) | (go_simp; with_reducible rfl)) (hK c w (fun _ _ => rfl) (fun D' hi' hj' => by
        have hd5 : D' 5 = D 5 := hj' 5 (by decide)
        have hd9 : D' 9 = D 9 := hj' 9 (by decide)
        have hd10 : D' 10 = D 10 := hj' 10 (by decide)
        show Below W1.heap.size W1 w ∧ Box w gc 26 (ccL d) ∧ (D' 5 = true → True) ∧ (D' 9 = true → W1.heap.size ≤ (c 9) ∧ Box w (c 9) 26 (if D' 10 = true then ccL zC else ccL zC)) ∧ True
        rw [hd5, hd9, hd10]
        exact hSw))
    | 3, _, ho =>
      obtain rfl := Option.some.inj (ho.symm.trans (syb_3 ps))
      have s1 : a.eval (.tmp 35) = .slice (some ⟨b, o, none⟩) n cap := hs 1 35 (by rfl) rfl
      have s2 : a.eval (.tmp 36) = .int .i64 (i : Int) := hs 2 36 (by rfl) rfl
      have hin1 := hin
      exact op_valW (syb_3 ps) rfl (v := .pointer (some ⟨b, o + i * 8, none⟩)) (by unfold sybO3 execOp; simp only [s1, s2]; first | (go_simp; done) | (go_simp; with_reducible rfl)) (hK c w (fun _ _ => rfl) (fun D' hi' hj' => by
        have hd5 : D' 5 = D 5 := hj' 5 (by decide)
        have hd9 : D' 9 = D 9 := hj' 9 (by decide)
        have hd10 : D' 10 = D 10 := hj' 10 (by decide)
        show Below W1.heap.size W1 w ∧ Box w gc 26 (ccL d) ∧ (D' 5 = true → True) ∧ (D' 9 = true → W1.heap.size ≤ (c 9) ∧ Box w (c 9) 26 (if D' 10 = true then ccL zC else ccL zC)) ∧ True
        rw [hd5, hd9, hd10]
        exact hSw))
    | 4, _, ho =>
      obtain rfl := Option.some.inj (ho.symm.trans (syb_4 ps))
      have s3 : a.eval (.tmp 37) = .pointer (some ⟨b, o + i * 8, none⟩) := hs 3 37 (by rfl) rfl
      exact op_valW (syb_4 ps) rfl (v := agv (smL s)) (run_loadE s rfl s3 (hrng w hSw.1)) (hK c w (fun _ _ => rfl) (fun D' hi' hj' => by
        have hd5 : D' 5 = D 5 := hj' 5 (by decide)
        have hd9 : D' 9 = D 9 := hj' 9 (by decide)
        have hd10 : D' 10 = D 10 := hj' 10 (by decide)
        show Below W1.heap.size W1 w ∧ Box w gc 26 (ccL d) ∧ (D' 5 = true → True) ∧ (D' 9 = true → W1.heap.size ≤ (c 9) ∧ Box w (c 9) 26 (if D' 10 = true then ccL zC else ccL zC)) ∧ True
        rw [hd5, hd9, hd10]
        exact hSw))
    | 5, _, ho =>
      obtain rfl := Option.some.inj (ho.symm.trans (syb_5 ps))
      have s0 : a.eval (.tmp 34) = ccv d := hs 0 34 (by rfl) rfl
      have s4 : a.eval (.tmp 38) = agv (smL s) := hs 4 38 (by rfl) rfl
      exact op_enterW (syb_5 ps) rfl (f := 8) (args := #[ccv d, agv (smL s)]) (by rw [run_call rfl enter8]; simp only [List.map_toArray, List.map_cons, List.map_nil, s0, s4]; try rfl) ((c1 w hSw.1).mono (fun e w' hh => ⟨_, hh.1, hK c w' (fun _ _ => rfl) (fun D' hi' hj' => by
        have hd5 : D' 5 = true := hi'
        have hd9 : D' 9 = D 9 := hj' 9 (by decide)
        have hd10 : D' 10 = D 10 := hj' 10 (by decide)
        show Below W1.heap.size W1 w' ∧ Box w' gc 26 (ccL d) ∧ (D' 5 = true → True) ∧ (D' 9 = true → W1.heap.size ≤ (c 9) ∧ Box w' (c 9) 26 (if D' 10 = true then ccL zC else ccL zC)) ∧ True
        rw [hd5, hd9, hd10]
        exact ⟨Below.on hSw.1 hh.2, hSw.2.1.later hh.2, fun _ => trivial, fun h => ⟨(hSw.2.2.2.1 h).1, by have h2 := (hSw.2.2.2.1 h).2; rw [(show D 10 = false from (by cases h : D 10 with | false => rfl | true => exact absurd (hcl 6 _ 5 (syb_6 ps) (by rfl) (hcl 7 _ 6 (syb_7 ps) (by rfl) (hcl 10 _ 7 (syb_10 ps) (by rfl) h))) (by rw [hDi]; simp))), if_neg (by simp)] at h2; rw [(show D 10 = false from (by cases h : D 10 with | false => rfl | true => exact absurd (hcl 6 _ 5 (syb_6 ps) (by rfl) (hcl 7 _ 6 (syb_7 ps) (by rfl) (hcl 10 _ 7 (syb_10 ps) (by rfl) h))) (by rw [hDi]; simp))), if_neg (by simp)]; exact h2.later hh.2⟩, trivial⟩)⟩))
    | 6, _, ho =>
      obtain rfl := Option.some.inj (ho.symm.trans (syb_6 ps))
      have s5 : a.eval (.tmp 39) = .tuple #[ccv zC, .int .i64 2] := hs 5 39 (by rfl) rfl
      exact op_valW (syb_6 ps) rfl (v := .tuple #[ccv zC, .int .i64 2]) (by unfold sybO6 execOp; simp only [s5]; first | (go_simp; done) | (go_simp; with_reducible rfl)) (hK c w (fun _ _ => rfl) (fun D' hi' hj' => by
        have hd5 : D' 5 = D 5 := hj' 5 (by decide)
        have hd9 : D' 9 = D 9 := hj' 9 (by decide)
        have hd10 : D' 10 = D 10 := hj' 10 (by decide)
        show Below W1.heap.size W1 w ∧ Box w gc 26 (ccL d) ∧ (D' 5 = true → True) ∧ (D' 9 = true → W1.heap.size ≤ (c 9) ∧ Box w (c 9) 26 (if D' 10 = true then ccL zC else ccL zC)) ∧ True
        rw [hd5, hd9, hd10]
        exact hSw))
    | 7, _, ho =>
      obtain rfl := Option.some.inj (ho.symm.trans (syb_7 ps))
      have s6 : a.eval (.tmp 33) = .tuple #[ccv zC, .int .i64 2] := hs 6 33 (by rfl) rfl
      exact op_valW (syb_7 ps) rfl (v := ccv zC) (by unfold sybO7 execOp; simp only [s6]; first | (go_simp; done) | (go_simp; with_reducible rfl)) (hK c w (fun _ _ => rfl) (fun D' hi' hj' => by
        have hd5 : D' 5 = D 5 := hj' 5 (by decide)
        have hd9 : D' 9 = D 9 := hj' 9 (by decide)
        have hd10 : D' 10 = D 10 := hj' 10 (by decide)
        show Below W1.heap.size W1 w ∧ Box w gc 26 (ccL d) ∧ (D' 5 = true → True) ∧ (D' 9 = true → W1.heap.size ≤ (c 9) ∧ Box w (c 9) 26 (if D' 10 = true then ccL zC else ccL zC)) ∧ True
        rw [hd5, hd9, hd10]
        exact hSw))
    | 8, _, ho =>
      obtain rfl := Option.some.inj (ho.symm.trans (syb_8 ps))
      have s6 : a.eval (.tmp 33) = .tuple #[ccv zC, .int .i64 2] := hs 6 33 (by rfl) rfl
      exact op_valW (syb_8 ps) rfl (v := .int .i64 2) (by unfold sybO8 execOp; simp only [s6]; first | (go_simp; done) | (go_simp; with_reducible rfl)) (hK c w (fun _ _ => rfl) (fun D' hi' hj' => by
        have hd5 : D' 5 = D 5 := hj' 5 (by decide)
        have hd9 : D' 9 = D 9 := hj' 9 (by decide)
        have hd10 : D' 10 = D 10 := hj' 10 (by decide)
        show Below W1.heap.size W1 w ∧ Box w gc 26 (ccL d) ∧ (D' 5 = true → True) ∧ (D' 9 = true → W1.heap.size ≤ (c 9) ∧ Box w (c 9) 26 (if D' 10 = true then ccL zC else ccL zC)) ∧ True
        rw [hd5, hd9, hd10]
        exact hSw))
    | 9, _, ho =>
      obtain rfl := Option.some.inj (ho.symm.trans (syb_9 ps))
      refine op_allocW (syb_9 ps) rfl rfl rfl zero26 (hK (fun k => if k = 9 then w.heap.size else c k) _ (fun j hj => ?_) (fun D' hi' hj' => ?_))
      · have hji : j ≠ 9 := by rintro rfl; rw [hDi] at hj; cases hj
        match j, hji with
        | 0, h9 => rfl
        | 1, h9 => rfl
        | 2, h9 => rfl
        | 3, h9 => rfl
        | 4, h9 => rfl
        | 5, h9 => rfl
        | 6, h9 => rfl
        | 7, h9 => rfl
        | 8, h9 => rfl
        | 9, h9 => exact absurd rfl h9
        | 10, h9 => rfl
        | 11, h9 => rfl
        | _ + 12, _ => rfl
      · have hd5 : D' 5 = D 5 := hj' 5 (by decide)
        have hd9 : D' 9 = true := hi'
        have hd10 : D' 10 = D 10 := hj' 10 (by decide)
        show Below W1.heap.size W1 (w.alloc (.cells (ccL zC).toArray 26)) ∧ Box (w.alloc (.cells (ccL zC).toArray 26)) gc 26 (ccL d) ∧ (D' 5 = true → True) ∧ (D' 9 = true → W1.heap.size ≤ w.heap.size ∧ Box (w.alloc (.cells (ccL zC).toArray 26)) w.heap.size 26 (if D' 10 = true then ccL zC else ccL zC)) ∧ True
        rw [hd5, hd9, hd10]
        exact ⟨hSw.1.alloc hSw.1.size _, hSw.2.1.alloc _, fun _ => trivial, fun _ => ⟨hSw.1.size, by rw [(show D 10 = false from (by cases h : D 10 with | false => rfl | true => exact absurd (hcl 10 _ 9 (syb_10 ps) (by rfl) h) (by rw [hDi]; simp))), if_neg (by simp)]; exact Box.new w 26 (ccL zC)⟩, trivial⟩
    | 10, _, ho =>
      obtain rfl := Option.some.inj (ho.symm.trans (syb_10 ps))
      have s9 : a.eval (.tmp 11) = .pointer (some ⟨c 9, 0, none⟩) := hs 9 11 (by rfl) rfl
      have s7 : a.eval (.tmp 40) = ccv zC := hs 7 40 (by rfl) rfl
      have hd9 : D 9 = true := hrd 9 (by rfl)
      have hB9 := hSw.2.2.2.1 hd9
      have hB10 : Box w (c 9) 26 (ccL zC) := by
        have h2 := hB9.2
        rw [hDi, if_neg (by simp)] at h2
        exact h2
      have hst := (stoR (ccL zC) hB10)
      exact op_stoW (syb_10 ps) rfl rfl (w' := (w.setRow (c 9) (ccL zC).toArray)) (run_storeS rfl s9 s7 hB10 rfl isS26 (ccL_one _)) (hK c _ (fun _ _ => rfl) (fun D' hi' hj' => by
        have hd5 : D' 5 = D 5 := hj' 5 (by decide)
        have hd9 : D' 9 = D 9 := hj' 9 (by decide)
        have hd10 : D' 10 = true := hi'
        show Below W1.heap.size W1 (w.setRow (c 9) (ccL zC).toArray) ∧ Box (w.setRow (c 9) (ccL zC).toArray) gc 26 (ccL d) ∧ (D' 5 = true → True) ∧ (D' 9 = true → W1.heap.size ≤ (c 9) ∧ Box (w.setRow (c 9) (ccL zC).toArray) (c 9) 26 (if D' 10 = true then ccL zC else ccL zC)) ∧ True
        rw [hd5, hd9, hd10]
        exact ⟨hst.1.below _ _ hB9.1 hSw.1, hSw.2.1.sto hst.1 (by omega), fun _ => trivial, fun _ => ⟨hB9.1, by rw [if_pos rfl]; exact hst.2⟩, trivial⟩))
    | 11, _, ho =>
      obtain rfl := Option.some.inj (ho.symm.trans (syb_11 ps))
      have s8 : a.eval (.tmp 41) = .int .i64 2 := hs 8 41 (by rfl) rfl
      exact op_valW (syb_11 ps) rfl (v := .int .i64 2) (by unfold sybO11 execOp; simp only [s8]; first | (go_simp; done) | (go_simp; with_reducible rfl)) (hK c w (fun _ _ => rfl) (fun D' hi' hj' => by
        have hd5 : D' 5 = D 5 := hj' 5 (by decide)
        have hd9 : D' 9 = D 9 := hj' 9 (by decide)
        have hd10 : D' 10 = D 10 := hj' 10 (by decide)
        show Below W1.heap.size W1 w ∧ Box w gc 26 (ccL d) ∧ (D' 5 = true → True) ∧ (D' 9 = true → W1.heap.size ≤ (c 9) ∧ Box w (c 9) 26 (if D' 10 = true then ccL zC else ccL zC)) ∧ True
        rw [hd5, hd9, hd10]
        exact hSw))
    | iq + 12, hin, _ => exact absurd hin (by omega)
end Go.Proofs.YtagmighcofllhaaDoor
