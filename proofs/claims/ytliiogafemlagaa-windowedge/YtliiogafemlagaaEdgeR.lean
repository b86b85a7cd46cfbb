/- WindowEdge: its regions that draw their order. -/
import Derived.Test.YtliiogafemlagaaDetg
namespace Go.Proofs.Ytliiogafemlagaa
open Go.ChangeShapes Go.WideShapes Go.ChangeAt Go.RowKit Go.Shelf
set_option linter.unusedVariables false
set_option linter.unusedSimpArgs false
attribute [local go_sem] Oper.semAt_some

def ed8O0 (ps : String) : Oper := { dst := some 41, op := .load 23 (.tmp 7), type := 23, pos := ps, after := #[], guard := none }
def ed8O1 (ps : String) : Oper := { dst := some 42, op := .move (.tmp 1), type := 40, pos := ps, after := #[], guard := none }
def ed8O2 (ps : String) : Oper := { dst := some 43, op := .move (.tmp 10), type := 3, pos := ps, after := #[], guard := none }
def ed8O3 (ps : String) : Oper := { dst := some 44, op := .indexAddr 40 (.tmp 42) (.tmp 43), type := 0, pos := ps, after := #[{ on := 1, ground := .data }, { on := 2, ground := .data }], guard := none }
def ed8O4 (ps : String) : Oper := { dst := some 45, op := .fieldAddr 43 (.tmp 44) 0, type := 0, pos := ps, after := #[{ on := 3, ground := .data }], guard := none }
def ed8O5 (ps : String) : Oper := { dst := some 46, op := .load 3 (.tmp 45), type := 3, pos := ps, after := #[{ on := 4, ground := .data }], guard := none }
def ed8O6 (ps : String) : Oper := { dst := some 47, op := .move (.tmp 1), type := 40, pos := ps, after := #[], guard := none }
def ed8O7 (ps : String) : Oper := { dst := some 48, op := .move (.tmp 10), type := 3, pos := ps, after := #[], guard := none }
def ed8O8 (ps : String) : Oper := { dst := some 49, op := .indexAddr 40 (.tmp 47) (.tmp 48), type := 0, pos := ps, after := #[{ on := 6, ground := .data }, { on := 7, ground := .data }], guard := none }
def ed8O9 (ps : String) : Oper := { dst := some 50, op := .fieldAddr 43 (.tmp 49) 1, type := 0, pos := ps, after := #[{ on := 8, ground := .data }], guard := none }
def ed8O10 (ps : String) : Oper := { dst := some 51, op := .load 3 (.tmp 50), type := 3, pos := ps, after := #[{ on := 9, ground := .data }], guard := none }
def ed8O11 (ps : String) : Oper := { dst := some 52, op := .move (.tmp 2), type := 41, pos := ps, after := #[], guard := none }
def ed8O12 (ps : String) : Oper := { dst := some 53, op := .move (.tmp 10), type := 3, pos := ps, after := #[], guard := none }
def ed8O13 (ps : String) : Oper := { dst := some 54, op := .indexAddr 41 (.tmp 52) (.tmp 53), type := 0, pos := ps, after := #[{ on := 11, ground := .data }, { on := 12, ground := .data }], guard := none }
def ed8O14 (ps : String) : Oper := { dst := some 55, op := .load 3 (.tmp 54), type := 3, pos := ps, after := #[{ on := 13, ground := .data }], guard := none }
def ed8O15 (ps : String) : Oper := { dst := some 56, op := .call { callee := .value (.func 11), args := #[.tmp 41, .tmp 46, .tmp 51, .tmp 55], argTypes := #[23, 3, 3, 3] }, type := 28, pos := ps, after := #[{ on := 0, ground := .data }, { on := 5, ground := .data }, { on := 10, ground := .data }, { on := 14, ground := .data }], guard := none }
def ed8O16 (ps : String) : Oper := { dst := some 40, op := .move (.tmp 56), type := 28, pos := ps, after := #[{ on := 15, ground := .data }], guard := none }
def ed8O17 (ps : String) : Oper := { dst := some 57, op := .extract (.tmp 40) 0, type := 23, pos := ps, after := #[{ on := 16, ground := .data }], guard := none }
def ed8O18 (ps : String) : Oper := { dst := some 58, op := .extract (.tmp 40) 1, type := 24, pos := ps, after := #[{ on := 16, ground := .data }, { on := 20, ground := .gcOnly .lateStores }], guard := none }
def ed8O19 (ps : String) : Oper := { dst := some 11, op := .alloc 23, type := 0, pos := ps, after := #[], guard := none }
def ed8O20 (ps : String) : Oper := { dst := none, op := .store 23 (.tmp 11) (.tmp 57), type := 0, pos := ps, after := #[{ on := 19, ground := .data }, { on := 17, ground := .data }, { on := 15, ground := .chain }, { on := 0, ground := .phase }, { on := 1, ground := .phase }, { on := 2, ground := .phase }, { on := 3, ground := .phase }, { on := 4, ground := .phase }, { on := 5, ground := .phase }, { on := 6, ground := .phase }, { on := 7, ground := .phase }, { on := 8, ground := .phase }, { on := 9, ground := .phase }, { on := 10, ground := .phase }, { on := 11, ground := .phase }, { on := 12, ground := .phase }, { on := 13, ground := .phase }, { on := 14, ground := .phase }, { on := 15, ground := .phase }, { on := 16, ground := .phase }, { on := 17, ground := .phase }, { on := 18, ground := .textOnly .lateStores }, { on := 19, ground := .phase }], guard := none }
def ed8O21 (ps : String) : Oper := { dst := some 12, op := .assign (.tmp 58), type := 24, pos := ps, after := #[{ on := 18, ground := .data }, { on := 20, ground := .chain }, { on := 0, ground := .phase }, { on := 1, ground := .phase }, { on := 2, ground := .phase }, { on := 3, ground := .phase }, { on := 4, ground := .phase }, { on := 5, ground := .phase }, { on := 6, ground := .phase }, { on := 7, ground := .phase }, { on := 8, ground := .phase }, { on := 9, ground := .phase }, { on := 10, ground := .phase }, { on := 11, ground := .phase }, { on := 12, ground := .phase }, { on := 13, ground := .phase }, { on := 14, ground := .phase }, { on := 15, ground := .phase }, { on := 16, ground := .phase }, { on := 17, ground := .phase }, { on := 18, ground := .phase }, { on := 19, ground := .phase }, { on := 20, ground := .phase }], guard := none }
def ed8 (ps : String) : Array Oper := #[ed8O0 ps, ed8O1 ps, ed8O2 ps, ed8O3 ps, ed8O4 ps, ed8O5 ps, ed8O6 ps, ed8O7 ps, ed8O8 ps, ed8O9 ps, ed8O10 ps, ed8O11 ps, ed8O12 ps, ed8O13 ps, ed8O14 ps, ed8O15 ps, ed8O16 ps, ed8O17 ps, ed8O18 ps, ed8O19 ps, ed8O20 ps, ed8O21 ps]
theorem ed8_0 (ps : String) : (ed8 ps)[0]? = some (ed8O0 ps) := rfl
theorem ed8_1 (ps : String) : (ed8 ps)[1]? = some (ed8O1 ps) := rfl
theorem ed8_2 (ps : String) : (ed8 ps)[2]? = some (ed8O2 ps) := rfl
theorem ed8_3 (ps : String) : (ed8 ps)[3]? = some (ed8O3 ps) := rfl
theorem ed8_4 (ps : String) : (ed8 ps)[4]? = some (ed8O4 ps) := rfl
theorem ed8_5 (ps : String) : (ed8 ps)[5]? = some (ed8O5 ps) := rfl
theorem ed8_6 (ps : String) : (ed8 ps)[6]? = some (ed8O6 ps) := rfl
theorem ed8_7 (ps : String) : (ed8 ps)[7]? = some (ed8O7 ps) := rfl
theorem ed8_8 (ps : String) : (ed8 ps)[8]? = some (ed8O8 ps) := rfl
theorem ed8_9 (ps : String) : (ed8 ps)[9]? = some (ed8O9 ps) := rfl
theorem ed8_10 (ps : String) : (ed8 ps)[10]? = some (ed8O10 ps) := rfl
theorem ed8_11 (ps : String) : (ed8 ps)[11]? = some (ed8O11 ps) := rfl
theorem ed8_12 (ps : String) : (ed8 ps)[12]? = some (ed8O12 ps) := rfl
theorem ed8_13 (ps : String) : (ed8 ps)[13]? = some (ed8O13 ps) := rfl
theorem ed8_14 (ps : String) : (ed8 ps)[14]? = some (ed8O14 ps) := rfl
theorem ed8_15 (ps : String) : (ed8 ps)[15]? = some (ed8O15 ps) := rfl
theorem ed8_16 (ps : String) : (ed8 ps)[16]? = some (ed8O16 ps) := rfl
theorem ed8_17 (ps : String) : (ed8 ps)[17]? = some (ed8O17 ps) := rfl
theorem ed8_18 (ps : String) : (ed8 ps)[18]? = some (ed8O18 ps) := rfl
theorem ed8_19 (ps : String) : (ed8 ps)[19]? = some (ed8O19 ps) := rfl
theorem ed8_20 (ps : String) : (ed8 ps)[20]? = some (ed8O20 ps) := rfl
theorem ed8_21 (ps : String) : (ed8 ps)[21]? = some (ed8O21 ps) := rfl
def ed8D : Nat → Option Tmp
  | 0 => some 41
  | 1 => some 42
  | 2 => some 43
  | 3 => some 44
  | 4 => some 45
  | 5 => some 46
  | 6 => some 47
  | 7 => some 48
  | 8 => some 49
  | 9 => some 50
  | 10 => some 51
  | 11 => some 52
  | 12 => some 53
  | 13 => some 54
  | 14 => some 55
  | 15 => some 56
  | 16 => some 40
  | 17 => some 57
  | 18 => some 58
  | 19 => some 11
  | 20 => none
  | 21 => some 12
  | _ => none
def ed8T (p q : Wn) (xb xo i n cap yb yo nx capx : Nat) (x y z : Int) (r : Int) (gp WS B0 : Nat) (WW : World) (c : Nat → Nat) : Nat → Value
  | 0 => agv (wnL p)
  | 1 => .slice (some ⟨xb, xo, none⟩) n cap
  | 2 => .int .i64 (i : Int)
  | 3 => .pointer (some ⟨xb, xo + i * 2, none⟩)
  | 4 => .pointer (some ⟨xb, xo + i * 2, none⟩)
  | 5 => .int .i64 x
  | 6 => .slice (some ⟨xb, xo, none⟩) n cap
  | 7 => .int .i64 (i : Int)
  | 8 => .pointer (some ⟨xb, xo + i * 2, none⟩)
  | 9 => .pointer (some ⟨xb, xo + i * 2 + 1, none⟩)
  | 10 => .int .i64 y
  | 11 => .slice (some ⟨yb, yo, none⟩) nx capx
  | 12 => .int .i64 (i : Int)
  | 13 => .pointer (some ⟨yb, yo + i, none⟩)
  | 14 => .int .i64 z
  | 15 => .tuple #[agv (wnL q), .int .i64 r]
  | 16 => .tuple #[agv (wnL q), .int .i64 r]
  | 17 => agv (wnL q)
  | 18 => .int .i64 r
  | 19 => .pointer (some ⟨c 19, 0, none⟩)
  | 20 => undef
  | 21 => .int .i64 r
  | _ => undef
set_option maxRecDepth 100000 in
set_option maxHeartbeats 4000000 in
theorem ed8T_congr (p q : Wn) (xb xo i n cap yb yo nx capx : Nat) (x y z : Int) (r : Int) (gp WS B0 : Nat) (WW : World) (c c' : Nat → Nat) : ∀ j, c' j = c j → ed8T p q xb xo i n cap yb yo nx capx x y z r gp WS B0 WW c' j = ed8T p q xb xo i n cap yb yo nx capx x y z r gp WS B0 WW c j
  | 0, h => rfl
  | 1, h => rfl
  | 2, h => rfl
  | 3, h => rfl
  | 4, h => rfl
  | 5, h => rfl
  | 6, h => rfl
  | 7, h => rfl
  | 8, h => rfl
  | 9, h => rfl
  | 10, h => rfl
  | 11, h => rfl
  | 12, h => rfl
  | 13, h => rfl
  | 14, h => rfl
  | 15, h => rfl
  | 16, h => rfl
  | 17, h => rfl
  | 18, h => rfl
  | 19, h => by simp only [ed8T]; rw [h]
  | 20, h => rfl
  | 21, h => rfl
  | _ + 22, _ => rfl
theorem ed8_reg {ps : String} {Q : Exit → Act → World → Prop} {a0 : Act} {W0 : World} (sz : a0.tmps.size = 110) (p q : Wn) (xb xo i n cap yb yo nx capx : Nat) (x y z : Int) (r : Int) (gp WS B0 : Nat) (WW : World)
    (e1 : a0.eval (.tmp 1) = .slice (some ⟨xb, xo, none⟩) n cap) (e2 : a0.eval (.tmp 2) = .slice (some ⟨yb, yo, none⟩) nx capx) (e10 : a0.eval (.tmp 10) = .int .i64 (i : Int)) (e7 : a0.eval (.tmp 7) = .pointer (some ⟨gp, 0, none⟩))
    (l0 : B0 ≤ gp) (hgp : gp < WS) (hS0 : Below B0 WW W0 ∧ WS ≤ W0.heap.size ∧ Box W0 gp 23 (wnL p)) (hlt : (i : Int) < (n : Int)) (hltx : (i : Int) < (nx : Int)) (hx : ∀ W, Below B0 WW W → W.cell? ⟨xb, xo + i * 2, none⟩ = some (.int .i64 x) ∧ W.cell? ⟨xb, xo + i * 2 + 1, none⟩ = some (.int .i64 y) ∧ W.cell? ⟨yb, yo + i, none⟩ = some (.int .i64 z)) (c1 : ∀ W, Calls Try.prog 11 #[agv (wnL p), .int .i64 x, .int .i64 y, .int .i64 z] W fun e w' => e = .returned (.tuple #[agv (wnL q), .int .i64 r]) ∧ Below W.heap.size W w') 
    (hfin : ∀ (c : Nat → Nat) (T : Nat → Value) w, T 19 = .pointer (some ⟨c 19, 0, none⟩) → T 21 = .int .i64 r → Below B0 WW w ∧ WS ≤ w.heap.size ∧ Box w gp 23 (wnL p) ∧ (true = true → WS ≤ (c 19) ∧ Box w (c 19) 23 (wnL (if true = true then q else wnZ))) ∧ True → Q .normal (((((((((((((((((((((a0.put (some 41) (T 0)).put (some 42) (T 1)).put (some 43) (T 2)).put (some 44) (T 3)).put (some 45) (T 4)).put (some 46) (T 5)).put (some 47) (T 6)).put (some 48) (T 7)).put (some 49) (T 8)).put (some 50) (T 9)).put (some 51) (T 10)).put (some 52) (T 11)).put (some 53) (T 12)).put (some 54) (T 13)).put (some 55) (T 14)).put (some 56) (T 15)).put (some 40) (T 16)).put (some 57) (T 17)).put (some 58) (T 18)).put (some 11) (T 19)).put (some 12) (T 21)) w) :
    (Code.region 8 (ed8 ps) true).wp Try.prog Q a0 W0 := by
  refine wp_region_detg (by kernel_rfl) 22 rfl ed8D ?_ (by decide) (ed8T p q xb xo i n cap yb yo nx capx x y z r gp WS B0 WW) (fun c D w => Below B0 WW w ∧ WS ≤ w.heap.size ∧ Box w gp 23 (wnL p) ∧ (D 19 = true → WS ≤ (c 19) ∧ Box w (c 19) 23 (wnL (if D 20 = true then q else wnZ))) ∧ True) (fun _ => 0) (fun D hD => by
    show Below B0 WW W0.drew ∧ WS ≤ W0.drew.heap.size ∧ Box W0.drew gp 23 (wnL p) ∧ (D 19 = true → WS ≤ 0 ∧ Box W0.drew 0 23 (wnL (if D 20 = true then q else wnZ))) ∧ True
    rw [hD 19, hD 20]
    exact ⟨hS0.1.drew, hS0.2.1, hS0.2.2, fun h => (by cases h), trivial⟩) ?_ (by rfl) (fun c w D hD hSw => by
    have hSw' : Below B0 WW w ∧ WS ≤ w.heap.size ∧ Box w gp 23 (wnL p) ∧ (D 19 = true → WS ≤ (c 19) ∧ Box w (c 19) 23 (wnL (if D 20 = true then q else wnZ))) ∧ True := hSw
    rw [hD 19 (by decide), hD 20 (by decide)] at hSw'
    exact hfin c (ed8T p q xb xo i n cap yb yo nx capx x y z r gp WS B0 WW c) w rfl rfl hSw')
  · intro jq t hj ht
    have : ∀ j, j < 22 → (ed8D j).all (· < 110) = true := by decide
    have := this jq hj
    rw [ht] at this
    rw [sz]
    simpa using this
  · intro iq o ho c D a w hSw hDi hcl hrd hs hel K hK
    have hin : iq < 22 := (Array.getElem?_eq_some_iff.1 ho).1
    match iq, hin, ho with
    | 0, _, ho =>
      obtain rfl := Option.some.inj (ho.symm.trans (ed8_0 ps))
      have u7 : a.eval (.tmp 7) = .pointer (some ⟨gp, 0, none⟩) := (hel 7 (by decide)).trans e7
      exact op_valW (ed8_0 ps) rfl (v := agv (wnL p)) (run_loadS isS23 rfl u7 hSw.2.2.1) (hK c w (fun _ _ => rfl) (fun D' hi' hj' => by
        have hd19 : D' 19 = D 19 := hj' 19 (by decide)
        have hd20 : D' 20 = D 20 := hj' 20 (by decide)
        show Below B0 WW w ∧ WS ≤ w.heap.size ∧ Box w gp 23 (wnL p) ∧ (D' 19 = true → WS ≤ (c 19) ∧ Box w (c 19) 23 (wnL (if D' 20 = true then q else wnZ))) ∧ True
        rw [hd19, hd20]
        exact hSw))
    | 1, _, ho =>
      obtain rfl := Option.some.inj (ho.symm.trans (ed8_1 ps))
      have u1 : a.eval (.tmp 1) = .slice (some ⟨xb, xo, none⟩) n cap := (hel 1 (by decide)).trans e1
      exact op_valW (ed8_1 ps) rfl (v := .slice (some ⟨xb, xo, none⟩) n cap) (by unfold ed8O1 execOp; simp only [u1]; first | (go_simp; done) | (go_simp; with_reducible rfl)) (hK c w (fun _ _ => rfl) (fun D' hi' hj' => by
        have hd19 : D' 19 = D 19 := hj' 19 (by decide)
        have hd20 : D' 20 = D 20 := hj' 20 (by decide)
        show Below B0 WW w ∧ WS ≤ w.heap.size ∧ Box w gp 23 (wnL p) ∧ (D' 19 = true → WS ≤ (c 19) ∧ Box w (c 19) 23 (wnL (if D' 20 = true then q else wnZ))) ∧ True
        rw [hd19, hd20]
        exact hSw))
    | 2, _, ho =>
      obtain rfl := Option.some.inj (ho.symm.trans (ed8_2 ps))
      have u10 : a.eval (.tmp 10) = .int .i64 (i : Int) := (hel 10 (by decide)).trans e10
      exact op_valW (ed8_2 ps) rfl (v := .int .i64 (i : Int)) (by unfold ed8O2 execOp; simp only [u10]; first | (go_simp; done) | (go_simp; with_reducible rfl)) (hK c w (fun _ _ => rfl) (fun D' hi' hj' => by
        have hd19 : D' 19 = D 19 := hj' 19 (by decide)
        have hd20 : D' 20 = D 20 := hj' 20 (by decide)
        show Below B0 WW w ∧ WS ≤ w.heap.size ∧ Box w gp 23 (wnL p) ∧ (D' 19 = true → WS ≤ (c 19) ∧ Box w (c 19) 23 (wnL (if D' 20 = true then q else wnZ))) ∧ True
        rw [hd19, hd20]
        exact hSw))
    | 3, _, ho =>
      obtain rfl := Option.some.inj (ho.symm.trans (ed8_3 ps))
      have s1 : a.eval (.tmp 42) = .slice (some ⟨xb, xo, none⟩) n cap := hs 1 42 (by rfl) rfl
      have s2 : a.eval (.tmp 43) = .int .i64 (i : Int) := hs 2 43 (by rfl) rfl
      have hl2 := hlt
      exact op_valW (ed8_3 ps) rfl (v := .pointer (some ⟨xb, xo + i * 2, none⟩)) (by unfold ed8O3 execOp; simp only [s1, s2]; first | (go_simp; done) | (go_simp; with_reducible rfl)) (hK c w (fun _ _ => rfl) (fun D' hi' hj' => by
        have hd19 : D' 19 = D 19 := hj' 19 (by decide)
        have hd20 : D' 20 = D 20 := hj' 20 (by decide)
        show Below B0 WW w ∧ WS ≤ w.heap.size ∧ Box w gp 23 (wnL p) ∧ (D' 19 = true → WS ≤ (c 19) ∧ Box w (c 19) 23 (wnL (if D' 20 = true then q else wnZ))) ∧ True
        rw [hd19, hd20]
        exact hSw))
    | 4, _, ho =>
      obtain rfl := Option.some.inj (ho.symm.trans (ed8_4 ps))
      have s3 : a.eval (.tmp 44) = .pointer (some ⟨xb, xo + i * 2, none⟩) := hs 3 44 (by rfl) rfl
      exact op_valW (ed8_4 ps) rfl (v := .pointer (some ⟨xb, xo + i * 2, none⟩)) (by unfold ed8O4 execOp; simp only [s3]; first | (go_simp; done) | (go_simp; with_reducible rfl)) (hK c w (fun _ _ => rfl) (fun D' hi' hj' => by
        have hd19 : D' 19 = D 19 := hj' 19 (by decide)
        have hd20 : D' 20 = D 20 := hj' 20 (by decide)
        show Below B0 WW w ∧ WS ≤ w.heap.size ∧ Box w gp 23 (wnL p) ∧ (D' 19 = true → WS ≤ (c 19) ∧ Box w (c 19) 23 (wnL (if D' 20 = true then q else wnZ))) ∧ True
        rw [hd19, hd20]
        exact hSw))
    | 5, _, ho =>
      obtain rfl := Option.some.inj (ho.symm.trans (ed8_5 ps))
      have s4 : a.eval (.tmp 45) = .pointer (some ⟨xb, xo + i * 2, none⟩) := hs 4 45 (by rfl) rfl
      have hcl := (hx w hSw.1).1
      exact op_valW (ed8_5 ps) rfl (v := .int .i64 x) (by unfold ed8O5 execOp; simp only [s4]; first | (go_simp; done) | (go_simp; with_reducible rfl)) (hK c w (fun _ _ => rfl) (fun D' hi' hj' => by
        have hd19 : D' 19 = D 19 := hj' 19 (by decide)
        have hd20 : D' 20 = D 20 := hj' 20 (by decide)
        show Below B0 WW w ∧ WS ≤ w.heap.size ∧ Box w gp 23 (wnL p) ∧ (D' 19 = true → WS ≤ (c 19) ∧ Box w (c 19) 23 (wnL (if D' 20 = true then q else wnZ))) ∧ True
        rw [hd19, hd20]
        exact hSw))
    | 6, _, ho =>
      obtain rfl := Option.some.inj (ho.symm.trans (ed8_6 ps))
      have u1 : a.eval (.tmp 1) = .slice (some ⟨xb, xo, none⟩) n cap := (hel 1 (by decide)).trans e1
      exact op_valW (ed8_6 ps) rfl (v := .slice (some ⟨xb, xo, none⟩) n cap) (by unfold ed8O6 execOp; simp only [u1]; first | (go_simp; done) | (go_simp; with_reducible rfl)) (hK c w (fun _ _ => rfl) (fun D' hi' hj' => by
        have hd19 : D' 19 = D 19 := hj' 19 (by decide)
        have hd20 : D' 20 = D 20 := hj' 20 (by decide)
        show Below B0 WW w ∧ WS ≤ w.heap.size ∧ Box w gp 23 (wnL p) ∧ (D' 19 = true → WS ≤ (c 19) ∧ Box w (c 19) 23 (wnL (if D' 20 = true then q else wnZ))) ∧ True
        rw [hd19, hd20]
        exact hSw))
    | 7, _, ho =>
      obtain rfl := Option.some.inj (ho.symm.trans (ed8_7 ps))
      have u10 : a.eval (.tmp 10) = .int .i64 (i : Int) := (hel 10 (by decide)).trans e10
      exact op_valW (ed8_7 ps) rfl (v := .int .i64 (i : Int)) (by unfold ed8O7 execOp; simp only [u10]; first | (go_simp; done) | (go_simp; with_reducible rfl)) (hK c w (fun _ _ => rfl) (fun D' hi' hj' => by
        have hd19 : D' 19 = D 19 := hj' 19 (by decide)
        have hd20 : D' 20 = D 20 := hj' 20 (by decide)
        show Below B0 WW w ∧ WS ≤ w.heap.size ∧ Box w gp 23 (wnL p) ∧ (D' 19 = true → WS ≤ (c 19) ∧ Box w (c 19) 23 (wnL (if D' 20 = true then q else wnZ))) ∧ True
        rw [hd19, hd20]
        exact hSw))
    | 8, _, ho =>
      obtain rfl := Option.some.inj (ho.symm.trans (ed8_8 ps))
      have s6 : a.eval (.tmp 47) = .slice (some ⟨xb, xo, none⟩) n cap := hs 6 47 (by rfl) rfl
      have s7 : a.eval (.tmp 48) = .int .i64 (i : Int) := hs 7 48 (by rfl) rfl
      have hl2 := hlt
      exact op_valW (ed8_8 ps) rfl (v := .pointer (some ⟨xb, xo + i * 2, none⟩)) (by unfold ed8O8 execOp; simp only [s6, s7]; first | (go_simp; done) | (go_simp; with_reducible rfl)) (hK c w (fun _ _ => rfl) (fun D' hi' hj' => by
        have hd19 : D' 19 = D 19 := hj' 19 (by decide)
        have hd20 : D' 20 = D 20 := hj' 20 (by decide)
        show Below B0 WW w ∧ WS ≤ w.heap.size ∧ Box w gp 23 (wnL p) ∧ (D' 19 = true → WS ≤ (c 19) ∧ Box w (c 19) 23 (wnL (if D' 20 = true then q else wnZ))) ∧ True
        rw [hd19, hd20]
        exact hSw))
    | 9, _, ho =>
      obtain rfl := Option.some.inj (ho.symm.trans (ed8_9 ps))
      have s8 : a.eval (.tmp 49) = .pointer (some ⟨xb, xo + i * 2, none⟩) := hs 8 49 (by rfl) rfl
      exact op_valW (ed8_9 ps) rfl (v := .pointer (some ⟨xb, xo + i * 2 + 1, none⟩)) (by unfold ed8O9 execOp; simp only [s8]; first | (go_simp; done) | (go_simp; with_reducible rfl)) (hK c w (fun _ _ => rfl) (fun D' hi' hj' => by
        have hd19 : D' 19 = D 19 := hj' 19 (by decide)
        have hd20 : D' 20 = D 20 := hj' 20 (by decide)
        show Below B0 WW w ∧ WS ≤ w.heap.size ∧ Box w gp 23 (wnL p) ∧ (D' 19 = true → WS ≤ (c 19) ∧ Box w (c 19) 23 (wnL (if D' 20 = true then q else wnZ))) ∧ True
        rw [hd19, hd20]
        exact hSw))
    | 10, _, ho =>
      obtain rfl := Option.some.inj (ho.symm.trans (ed8_10 ps))
      have s9 : a.eval (.tmp 50) = .pointer (some ⟨xb, xo + i * 2 + 1, none⟩) := hs 9 50 (by rfl) rfl
      have hcl := (hx w hSw.1).2.1
      exact op_valW (ed8_10 ps) rfl (v := .int .i64 y) (by unfold ed8O10 execOp; simp only [s9]; first | (go_simp; done) | (go_simp; with_reducible rfl)) (hK c w (fun _ _ => rfl) (fun D' hi' hj' => by
        have hd19 : D' 19 = D 19 := hj' 19 (by decide)
        have hd20 : D' 20 = D 20 := hj' 20 (by decide)
        show Below B0 WW w ∧ WS ≤ w.heap.size ∧ Box w gp 23 (wnL p) ∧ (D' 19 = true → WS ≤ (c 19) ∧ Box w (c 19) 23 (wnL (if D' 20 = true then q else wnZ))) ∧ True
        rw [hd19, hd20]
        exact hSw))
    | 11, _, ho =>
      obtain rfl := Option.some.inj (ho.symm.trans (ed8_11 ps))
      have u2 : a.eval (.tmp 2) = .slice (some ⟨yb, yo, none⟩) nx capx := (hel 2 (by decide)).trans e2
      exact op_valW (ed8_11 ps) rfl (v := .slice (some ⟨yb, yo, none⟩) nx capx) (by unfold ed8O11 execOp; simp only [u2]; first | (go_simp; done) | (go_simp; with_reducible rfl)) (hK c w (fun _ _ => rfl) (fun D' hi' hj' => by
        have hd19 : D' 19 = D 19 := hj' 19 (by decide)
        have hd20 : D' 20 = D 20 := hj' 20 (by decide)
        show Below B0 WW w ∧ WS ≤ w.heap.size ∧ Box w gp 23 (wnL p) ∧ (D' 19 = true → WS ≤ (c 19) ∧ Box w (c 19) 23 (wnL (if D' 20 = true then q else wnZ))) ∧ True
        rw [hd19, hd20]
        exact hSw))
    | 12, _, ho =>
      obtain rfl := Option.some.inj (ho.symm.trans (ed8_12 ps))
      have u10 : a.eval (.tmp 10) = .int .i64 (i : Int) := (hel 10 (by decide)).trans e10
      exact op_valW (ed8_12 ps) rfl (v := .int .i64 (i : Int)) (by unfold ed8O12 execOp; simp only [u10]; first | (go_simp; done) | (go_simp; with_reducible rfl)) (hK c w (fun _ _ => rfl) (fun D' hi' hj' => by
        have hd19 : D' 19 = D 19 := hj' 19 (by decide)
        have hd20 : D' 20 = D 20 := hj' 20 (by decide)
        show Below B0 WW w ∧ WS ≤ w.heap.size ∧ Box w gp 23 (wnL p) ∧ (D' 19 = true → WS ≤ (c 19) ∧ Box w (c 19) 23 (wnL (if D' 20 = true then q else wnZ))) ∧ True
        rw [hd19, hd20]
        exact hSw))
    | 13, _, ho =>
      obtain rfl := Option.some.inj (ho.symm.trans (ed8_13 ps))
      have s11 : a.eval (.tmp 52) = .slice (some ⟨yb, yo, none⟩) nx capx := hs 11 52 (by rfl) rfl
      have s12 : a.eval (.tmp 53) = .int .i64 (i : Int) := hs 12 53 (by rfl) rfl
      have hl2 := hltx
      exact op_valW (ed8_13 ps) rfl (v := .pointer (some ⟨yb, yo + i, none⟩)) (by unfold ed8O13 execOp; simp only [s11, s12]; first | (go_simp; done) | (go_simp; with_reducible rfl)) (hK c w (fun _ _ => rfl) (fun D' hi' hj' => by
        have hd19 : D' 19 = D 19 := hj' 19 (by decide)
        have hd20 : D' 20 = D 20 := hj' 20 (by decide)
        show Below B0 WW w ∧ WS ≤ w.heap.size ∧ Box w gp 23 (wnL p) ∧ (D' 19 = true → WS ≤ (c 19) ∧ Box w (c 19) 23 (wnL (if D' 20 = true then q else wnZ))) ∧ True
        rw [hd19, hd20]
        exact hSw))
    | 14, _, ho =>
      obtain rfl := Option.some.inj (ho.symm.trans (ed8_14 ps))
      have s13 : a.eval (.tmp 54) = .pointer (some ⟨yb, yo + i, none⟩) := hs 13 54 (by rfl) rfl
      have hcl := (hx w hSw.1).2.2
      exact op_valW (ed8_14 ps) rfl (v := .int .i64 z) (by unfold ed8O14 execOp; simp only [s13]; first | (go_simp; done) | (go_simp; with_reducible rfl)) (hK c w (fun _ _ => rfl) (fun D' hi' hj' => by
        have hd19 : D' 19 = D 19 := hj' 19 (by decide)
        have hd20 : D' 20 = D 20 := hj' 20 (by decide)
        show Below B0 WW w ∧ WS ≤ w.heap.size ∧ Box w gp 23 (wnL p) ∧ (D' 19 = true → WS ≤ (c 19) ∧ Box w (c 19) 23 (wnL (if D' 20 = true then q else wnZ))) ∧ True
        rw [hd19, hd20]
        exact hSw))
    | 15, _, ho =>
      obtain rfl := Option.some.inj (ho.symm.trans (ed8_15 ps))
      have s0 : a.eval (.tmp 41) = agv (wnL p) := hs 0 41 (by rfl) rfl
      have s5 : a.eval (.tmp 46) = .int .i64 x := hs 5 46 (by rfl) rfl
      have s10 : a.eval (.tmp 51) = .int .i64 y := hs 10 51 (by rfl) rfl
      have s14 : a.eval (.tmp 55) = .int .i64 z := hs 14 55 (by rfl) rfl
      exact op_enterW (ed8_15 ps) rfl (f := 11) (args := #[agv (wnL p), .int .i64 x, .int .i64 y, .int .i64 z]) (by rw [run_call rfl enter11]; simp only [List.map_toArray, List.map_cons, List.map_nil, s0, s5, s10, s14]; try rfl) ((c1 w).mono (fun e w' hh => ⟨_, hh.1, hK c w' (fun _ _ => rfl) (fun D' hi' hj' => by
        have hd19 : D' 19 = D 19 := hj' 19 (by decide)
        have hd20 : D' 20 = D 20 := hj' 20 (by decide)
        show Below B0 WW w' ∧ WS ≤ w'.heap.size ∧ Box w' gp 23 (wnL p) ∧ (D' 19 = true → WS ≤ (c 19) ∧ Box w' (c 19) 23 (wnL (if D' 20 = true then q else wnZ))) ∧ True
        rw [hd19, hd20]
        exact ⟨hSw.1.trans (hh.2.mono (Nat.le_trans l0 (Nat.le_of_lt hSw.2.2.1.lt))), Nat.le_trans hSw.2.1 hh.2.size, hSw.2.2.1.later hh.2, fun h => ⟨(hSw.2.2.2.1 h).1, (hSw.2.2.2.1 h).2.later hh.2⟩, trivial⟩)⟩))
    | 16, _, ho =>
      obtain rfl := Option.some.inj (ho.symm.trans (ed8_16 ps))
      have s15 : a.eval (.tmp 56) = .tuple #[agv (wnL q), .int .i64 r] := hs 15 56 (by rfl) rfl
      exact op_valW (ed8_16 ps) rfl (v := .tuple #[agv (wnL q), .int .i64 r]) (by unfold ed8O16 execOp; simp only [s15]; first | (go_simp; done) | (go_simp; with_reducible rfl)) (hK c w (fun _ _ => rfl) (fun D' hi' hj' => by
        have hd19 : D' 19 = D 19 := hj' 19 (by decide)
        have hd20 : D' 20 = D 20 := hj' 20 (by decide)
        show Below B0 WW w ∧ WS ≤ w.heap.size ∧ Box w gp 23 (wnL p) ∧ (D' 19 = true → WS ≤ (c 19) ∧ Box w (c 19) 23 (wnL (if D' 20 = true then q else wnZ))) ∧ True
        rw [hd19, hd20]
        exact hSw))
    | 17, _, ho =>
      obtain rfl := Option.some.inj (ho.symm.trans (ed8_17 ps))
      have s16 : a.eval (.tmp 40) = .tuple #[agv (wnL q), .int .i64 r] := hs 16 40 (by rfl) rfl
      exact op_valW (ed8_17 ps) rfl (v := agv (wnL q)) (by unfold ed8O17 execOp; simp only [s16]; first | (go_simp; done) | (go_simp; with_reducible rfl)) (hK c w (fun _ _ => rfl) (fun D' hi' hj' => by
        have hd19 : D' 19 = D 19 := hj' 19 (by decide)
        have hd20 : D' 20 = D 20 := hj' 20 (by decide)
        show Below B0 WW w ∧ WS ≤ w.heap.size ∧ Box w gp 23 (wnL p) ∧ (D' 19 = true → WS ≤ (c 19) ∧ Box w (c 19) 23 (wnL (if D' 20 = true then q else wnZ))) ∧ True
        rw [hd19, hd20]
        exact hSw))
    | 18, _, ho =>
      obtain rfl := Option.some.inj (ho.symm.trans (ed8_18 ps))
      have s16 : a.eval (.tmp 40) = .tuple #[agv (wnL q), .int .i64 r] := hs 16 40 (by rfl) rfl
      exact op_valW (ed8_18 ps) rfl (v := .int .i64 r) (by unfold ed8O18 execOp; simp only [s16]; first | (go_simp; done) | (go_simp; with_reducible rfl)) (hK c w (fun _ _ => rfl) (fun D' hi' hj' => by
        have hd19 : D' 19 = D 19 := hj' 19 (by decide)
        have hd20 : D' 20 = D 20 := hj' 20 (by decide)
        show Below B0 WW w ∧ WS ≤ w.heap.size ∧ Box w gp 23 (wnL p) ∧ (D' 19 = true → WS ≤ (c 19) ∧ Box w (c 19) 23 (wnL (if D' 20 = true then q else wnZ))) ∧ True
        rw [hd19, hd20]
        exact hSw))
    | 19, _, ho =>
      obtain rfl := Option.some.inj (ho.symm.trans (ed8_19 ps))
      refine op_allocW (ed8_19 ps) rfl rfl rfl zero23 (hK (fun k => if k = 19 then w.heap.size else c k) _ (fun j hj => ?_) (fun D' hi' hj' => ?_))
      · have hji : j ≠ 19 := by rintro rfl; rw [hDi] at hj; cases hj
        exact ed8T_congr _ _ _ _ _ _ _ _ _ _ _ _ _ _ _ _ _ _ _ _ _ j (if_neg hji)
      · have hd19 : D' 19 = true := hi'
        have hd20 : D' 20 = D 20 := hj' 20 (by decide)
        show Below B0 WW (w.alloc (.cells (wnL wnZ).toArray 23)) ∧ WS ≤ (w.alloc (.cells (wnL wnZ).toArray 23)).heap.size ∧ Box (w.alloc (.cells (wnL wnZ).toArray 23)) gp 23 (wnL p) ∧ (D' 19 = true → WS ≤ w.heap.size ∧ Box (w.alloc (.cells (wnL wnZ).toArray 23)) w.heap.size 23 (wnL (if D' 20 = true then q else wnZ))) ∧ True
        rw [hd19, hd20]
        exact ⟨hSw.1.alloc (Nat.le_trans l0 (Nat.le_of_lt hSw.2.2.1.lt)) _, Nat.le_trans hSw.2.1 (by simp), hSw.2.2.1.alloc _, fun _ => ⟨hSw.2.1, by rw [(show D 20 = false from (by cases h : D 20 with | false => rfl | true => exact absurd (hcl 20 _ 19 (ed8_20 ps) (by rfl) h) (by rw [hDi]; simp))), if_neg (by simp)]; exact Box.new w 23 (wnL wnZ)⟩, trivial⟩
    | 20, _, ho =>
      obtain rfl := Option.some.inj (ho.symm.trans (ed8_20 ps))
      have s19 : a.eval (.tmp 11) = .pointer (some ⟨c 19, 0, none⟩) := hs 19 11 (by rfl) rfl
      have s17 : a.eval (.tmp 57) = agv (wnL q) := hs 17 57 (by rfl) rfl
      have hd19 : D 19 = true := hrd 19 (by rfl)
      have hB19 := hSw.2.2.2.1 hd19
      have hst := (stoR (wnL q) hB19.2)
      exact op_stoW (ed8_20 ps) rfl rfl (w' := (w.setRow (c 19) (wnL q).toArray)) (run_storeS rfl s19 s17 hB19.2 rfl isS23 (wnL_one _)) (hK c _ (fun _ _ => rfl) (fun D' hi' hj' => by
        have hd19 : D' 19 = D 19 := hj' 19 (by decide)
        have hd20 : D' 20 = true := hi'
        show Below B0 WW (w.setRow (c 19) (wnL q).toArray) ∧ WS ≤ (w.setRow (c 19) (wnL q).toArray).heap.size ∧ Box (w.setRow (c 19) (wnL q).toArray) gp 23 (wnL p) ∧ (D' 19 = true → WS ≤ (c 19) ∧ Box (w.setRow (c 19) (wnL q).toArray) (c 19) 23 (wnL (if D' 20 = true then q else wnZ))) ∧ True
        rw [hd19, hd20]
        exact ⟨hst.1.below _ _ (by omega) hSw.1, (by rw [hst.1.size]; exact hSw.2.1), hSw.2.2.1.sto hst.1 (by omega), fun _ => ⟨hB19.1, by rw [if_pos rfl]; exact hst.2⟩, trivial⟩))
    | 21, _, ho =>
      obtain rfl := Option.some.inj (ho.symm.trans (ed8_21 ps))
      have s18 : a.eval (.tmp 58) = .int .i64 r := hs 18 58 (by rfl) rfl
      exact op_valW (ed8_21 ps) rfl (v := .int .i64 r) (by unfold ed8O21 execOp; simp only [s18]; first | (go_simp; done) | (go_simp; with_reducible rfl)) (hK c w (fun _ _ => rfl) (fun D' hi' hj' => by
        have hd19 : D' 19 = D 19 := hj' 19 (by decide)
        have hd20 : D' 20 = D 20 := hj' 20 (by decide)
        show Below B0 WW w ∧ WS ≤ w.heap.size ∧ Box w gp 23 (wnL p) ∧ (D' 19 = true → WS ≤ (c 19) ∧ Box w (c 19) 23 (wnL (if D' 20 = true then q else wnZ))) ∧ True
        rw [hd19, hd20]
        exact hSw))
    | iq + 22, hin, _ => exact absurd hin (by omega)
def ed12O0 (ps : String) : Oper := { dst := some 78, op := .load 23 (.tmp 11), type := 23, pos := ps, after := #[], guard := none }
def ed12O1 (ps : String) : Oper := { dst := some 79, op := .call { callee := .value (.func 8), args := #[.tmp 78], argTypes := #[23] }, type := 24, pos := ps, after := #[{ on := 0, ground := .data }], guard := none }
def ed12O2 (ps : String) : Oper := { dst := some 80, op := .binOp .neq 24 (.tmp 79) (.const (.int .i64 0)) 24, type := 4, pos := ps, after := #[{ on := 1, ground := .data }], guard := none }
def ed12O3 (ps : String) : Oper := { dst := some 81, op := .move (.tmp 80), type := 4, pos := ps, after := #[{ on := 2, ground := .data }, { on := 1, ground := .chain }], guard := none }
def ed12O4 (ps : String) : Oper := { dst := some 82, op := .fieldAddr 23 (.tmp 11) 2, type := 0, pos := ps, after := #[{ on := 3, ground := .guard }], guard := some (3, false) }
def ed12O5 (ps : String) : Oper := { dst := some 83, op := .load 3 (.tmp 82), type := 3, pos := ps, after := #[{ on := 4, ground := .data }, { on := 3, ground := .guard }], guard := some (3, false) }
def ed12O6 (ps : String) : Oper := { dst := some 84, op := .fieldAddr 23 (.tmp 7) 2, type := 0, pos := ps, after := #[{ on := 3, ground := .guard }], guard := some (3, false) }
def ed12O7 (ps : String) : Oper := { dst := some 85, op := .load 3 (.tmp 84), type := 3, pos := ps, after := #[{ on := 6, ground := .data }, { on := 3, ground := .guard }], guard := some (3, false) }
def ed12O8 (ps : String) : Oper := { dst := some 86, op := .binOp .lss 3 (.tmp 83) (.tmp 85) 3, type := 4, pos := ps, after := #[{ on := 5, ground := .data }, { on := 7, ground := .data }, { on := 3, ground := .guard }], guard := some (3, false) }
def ed12O9 (ps : String) : Oper := { dst := some 87, op := .pick (.tmp 81) (.const (.bool true)) (.tmp 86), type := 4, pos := ps, after := #[{ on := 3, ground := .data }, { on := 8, ground := .data }], guard := none }
def ed12O10 (ps : String) : Oper := { dst := some 88, op := .move (.tmp 87), type := 4, pos := ps, after := #[{ on := 9, ground := .data }, { on := 3, ground := .chain }], guard := none }
def ed12O11 (ps : String) : Oper := { dst := some 89, op := .load 23 (.tmp 11), type := 23, pos := ps, after := #[{ on := 10, ground := .guard }], guard := some (10, false) }
def ed12O12 (ps : String) : Oper := { dst := some 90, op := .call { callee := .value (.func 18), args := #[.tmp 89], argTypes := #[23] }, type := 3, pos := ps, after := #[{ on := 11, ground := .data }, { on := 10, ground := .chain }, { on := 10, ground := .guard }], guard := some (10, false) }
def ed12O13 (ps : String) : Oper := { dst := some 91, op := .fieldAddr 23 (.tmp 11) 2, type := 0, pos := ps, after := #[{ on := 10, ground := .guard }], guard := some (10, false) }
def ed12O14 (ps : String) : Oper := { dst := some 92, op := .load 3 (.tmp 91), type := 3, pos := ps, after := #[{ on := 13, ground := .data }, { on := 10, ground := .guard }], guard := some (10, false) }
def ed12O15 (ps : String) : Oper := { dst := some 93, op := .binOp .gtr 3 (.tmp 90) (.tmp 92) 3, type := 4, pos := ps, after := #[{ on := 12, ground := .data }, { on := 14, ground := .data }, { on := 10, ground := .guard }], guard := some (10, false) }
def ed12O16 (ps : String) : Oper := { dst := some 94, op := .pick (.tmp 88) (.const (.bool true)) (.tmp 93), type := 4, pos := ps, after := #[{ on := 10, ground := .data }, { on := 15, ground := .data }], guard := none }
def ed12O17 (ps : String) : Oper := { dst := some 95, op := .move (.tmp 94), type := 4, pos := ps, after := #[{ on := 16, ground := .data }, { on := 12, ground := .chain }], guard := none }
def ed12O18 (ps : String) : Oper := { dst := some 96, op := .fieldAddr 23 (.tmp 11) 2, type := 0, pos := ps, after := #[{ on := 17, ground := .guard }], guard := some (17, false) }
def ed12O19 (ps : String) : Oper := { dst := some 97, op := .load 3 (.tmp 96), type := 3, pos := ps, after := #[{ on := 18, ground := .data }, { on := 17, ground := .guard }], guard := some (17, false) }
def ed12O20 (ps : String) : Oper := { dst := some 98, op := .move (.tmp 9), type := 3, pos := ps, after := #[{ on := 17, ground := .guard }], guard := some (17, false) }
def ed12O21 (ps : String) : Oper := { dst := some 99, op := .binOp .gtr 3 (.tmp 97) (.tmp 98) 3, type := 4, pos := ps, after := #[{ on := 19, ground := .data }, { on := 20, ground := .data }, { on := 17, ground := .guard }], guard := some (17, false) }
def ed12O22 (ps : String) : Oper := { dst := some 100, op := .pick (.tmp 95) (.const (.bool true)) (.tmp 99), type := 4, pos := ps, after := #[{ on := 17, ground := .data }, { on := 21, ground := .data }], guard := none }
def ed12O23 (ps : String) : Oper := { dst := some 101, op := .move (.tmp 100), type := 4, pos := ps, after := #[{ on := 22, ground := .data }, { on := 17, ground := .chain }], guard := none }
def ed12O24 (ps : String) : Oper := { dst := some 102, op := .fieldAddr 23 (.tmp 11) 0, type := 0, pos := ps, after := #[{ on := 23, ground := .guard }], guard := some (23, false) }
def ed12O25 (ps : String) : Oper := { dst := some 103, op := .load 3 (.tmp 102), type := 3, pos := ps, after := #[{ on := 24, ground := .data }, { on := 23, ground := .guard }], guard := some (23, false) }
def ed12O26 (ps : String) : Oper := { dst := some 104, op := .fieldAddr 23 (.tmp 7) 0, type := 0, pos := ps, after := #[{ on := 23, ground := .guard }], guard := some (23, false) }
def ed12O27 (ps : String) : Oper := { dst := some 105, op := .load 3 (.tmp 104), type := 3, pos := ps, after := #[{ on := 26, ground := .data }, { on := 23, ground := .guard }], guard := some (23, false) }
def ed12O28 (ps : String) : Oper := { dst := some 106, op := .binOp .lss 3 (.tmp 103) (.tmp 105) 3, type := 4, pos := ps, after := #[{ on := 25, ground := .data }, { on := 27, ground := .data }, { on := 23, ground := .guard }], guard := some (23, false) }
def ed12O29 (ps : String) : Oper := { dst := some 107, op := .pick (.tmp 101) (.const (.bool true)) (.tmp 106), type := 4, pos := ps, after := #[{ on := 23, ground := .data }, { on := 28, ground := .data }], guard := none }
def ed12 (ps : String) : Array Oper := #[ed12O0 ps, ed12O1 ps, ed12O2 ps, ed12O3 ps, ed12O4 ps, ed12O5 ps, ed12O6 ps, ed12O7 ps, ed12O8 ps, ed12O9 ps, ed12O10 ps, ed12O11 ps, ed12O12 ps, ed12O13 ps, ed12O14 ps, ed12O15 ps, ed12O16 ps, ed12O17 ps, ed12O18 ps, ed12O19 ps, ed12O20 ps, ed12O21 ps, ed12O22 ps, ed12O23 ps, ed12O24 ps, ed12O25 ps, ed12O26 ps, ed12O27 ps, ed12O28 ps, ed12O29 ps]
theorem ed12_0 (ps : String) : (ed12 ps)[0]? = some (ed12O0 ps) := rfl
theorem ed12_1 (ps : String) : (ed12 ps)[1]? = some (ed12O1 ps) := rfl
theorem ed12_2 (ps : String) : (ed12 ps)[2]? = some (ed12O2 ps) := rfl
theorem ed12_3 (ps : String) : (ed12 ps)[3]? = some (ed12O3 ps) := rfl
theorem ed12_4 (ps : String) : (ed12 ps)[4]? = some (ed12O4 ps) := rfl
theorem ed12_5 (ps : String) : (ed12 ps)[5]? = some (ed12O5 ps) := rfl
theorem ed12_6 (ps : String) : (ed12 ps)[6]? = some (ed12O6 ps) := rfl
theorem ed12_7 (ps : String) : (ed12 ps)[7]? = some (ed12O7 ps) := rfl
theorem ed12_8 (ps : String) : (ed12 ps)[8]? = some (ed12O8 ps) := rfl
theorem ed12_9 (ps : String) : (ed12 ps)[9]? = some (ed12O9 ps) := rfl
theorem ed12_10 (ps : String) : (ed12 ps)[10]? = some (ed12O10 ps) := rfl
theorem ed12_11 (ps : String) : (ed12 ps)[11]? = some (ed12O11 ps) := rfl
theorem ed12_12 (ps : String) : (ed12 ps)[12]? = some (ed12O12 ps) := rfl
theorem ed12_13 (ps : String) : (ed12 ps)[13]? = some (ed12O13 ps) := rfl
theorem ed12_14 (ps : String) : (ed12 ps)[14]? = some (ed12O14 ps) := rfl
theorem ed12_15 (ps : String) : (ed12 ps)[15]? = some (ed12O15 ps) := rfl
theorem ed12_16 (ps : String) : (ed12 ps)[16]? = some (ed12O16 ps) := rfl
theorem ed12_17 (ps : String) : (ed12 ps)[17]? = some (ed12O17 ps) := rfl
theorem ed12_18 (ps : String) : (ed12 ps)[18]? = some (ed12O18 ps) := rfl
theorem ed12_19 (ps : String) : (ed12 ps)[19]? = some (ed12O19 ps) := rfl
theorem ed12_20 (ps : String) : (ed12 ps)[20]? = some (ed12O20 ps) := rfl
theorem ed12_21 (ps : String) : (ed12 ps)[21]? = some (ed12O21 ps) := rfl
theorem ed12_22 (ps : String) : (ed12 ps)[22]? = some (ed12O22 ps) := rfl
theorem ed12_23 (ps : String) : (ed12 ps)[23]? = some (ed12O23 ps) := rfl
theorem ed12_24 (ps : String) : (ed12 ps)[24]? = some (ed12O24 ps) := rfl
theorem ed12_25 (ps : String) : (ed12 ps)[25]? = some (ed12O25 ps) := rfl
theorem ed12_26 (ps : String) : (ed12 ps)[26]? = some (ed12O26 ps) := rfl
theorem ed12_27 (ps : String) : (ed12 ps)[27]? = some (ed12O27 ps) := rfl
theorem ed12_28 (ps : String) : (ed12 ps)[28]? = some (ed12O28 ps) := rfl
theorem ed12_29 (ps : String) : (ed12 ps)[29]? = some (ed12O29 ps) := rfl
def ed12D : Nat → Option Tmp
  | 0 => some 78
  | 1 => some 79
  | 2 => some 80
  | 3 => some 81
  | 4 => some 82
  | 5 => some 83
  | 6 => some 84
  | 7 => some 85
  | 8 => some 86
  | 9 => some 87
  | 10 => some 88
  | 11 => some 89
  | 12 => some 90
  | 13 => some 91
  | 14 => some 92
  | 15 => some 93
  | 16 => some 94
  | 17 => some 95
  | 18 => some 96
  | 19 => some 97
  | 20 => some 98
  | 21 => some 99
  | 22 => some 100
  | 23 => some 101
  | 24 => some 102
  | 25 => some 103
  | 26 => some 104
  | 27 => some 105
  | 28 => some 106
  | 29 => some 107
  | _ => none
def ed12T (p q : Wn) (rt m2 : Int) (gp gt B0 : Nat) (WW : World) : Nat → Value
  | 0 => agv (wnL q)
  | 1 => .int .i64 0
  | 2 => .bool false
  | 3 => .bool false
  | 4 => .pointer (some ⟨gt, 2, none⟩)
  | 5 => .int .i64 q.ed
  | 6 => .pointer (some ⟨gp, 2, none⟩)
  | 7 => .int .i64 p.ed
  | 8 => .bool false
  | 9 => .bool false
  | 10 => .bool false
  | 11 => agv (wnL q)
  | 12 => .int .i64 rt
  | 13 => .pointer (some ⟨gt, 2, none⟩)
  | 14 => .int .i64 q.ed
  | 15 => .bool false
  | 16 => .bool false
  | 17 => .bool false
  | 18 => .pointer (some ⟨gt, 2, none⟩)
  | 19 => .int .i64 q.ed
  | 20 => .int .i64 m2
  | 21 => .bool false
  | 22 => .bool false
  | 23 => .bool false
  | 24 => .pointer (some ⟨gt, 0, none⟩)
  | 25 => .int .i64 q.un
  | 26 => .pointer (some ⟨gp, 0, none⟩)
  | 27 => .int .i64 p.un
  | 28 => .bool false
  | 29 => .bool false
  | _ => undef
set_option maxRecDepth 100000 in
set_option maxHeartbeats 4000000 in
theorem ed12_reg {ps : String} {Q : Exit → Act → World → Prop} {a0 : Act} {W0 : World} (sz : a0.tmps.size = 110) (p q : Wn) (rt m2 : Int) (gp gt B0 : Nat) (WW : World)
    (e7 : a0.eval (.tmp 7) = .pointer (some ⟨gp, 0, none⟩)) (e11 : a0.eval (.tmp 11) = .pointer (some ⟨gt, 0, none⟩)) (e9 : a0.eval (.tmp 9) = .int .i64 m2)
    (l0 : B0 ≤ gp) (l1 : gp < gt) (hS0 : Below B0 WW W0 ∧ Box W0 gp 23 (wnL p) ∧ Box W0 gt 23 (wnL q) ∧ True) (d1 : decide (q.ed < p.ed) = false) (d2 : decide (q.ed < rt) = false) (d3 : decide (m2 < q.ed) = false) (d4 : decide (q.un < p.un) = false) (c1 : ∀ W, Calls Try.prog 8 #[agv (wnL q)] W fun e w' => e = .returned (.int .i64 0) ∧ Below W.heap.size W w') (c2 : ∀ W, Calls Try.prog 18 #[agv (wnL q)] W fun e w' => e = .returned (.int .i64 rt) ∧ Below W.heap.size W w') 
    (hfin : ∀ (T : Nat → Value) w, T 29 = .bool false → Below B0 WW w ∧ Box w gp 23 (wnL p) ∧ Box w gt 23 (wnL q) ∧ True → Q .normal ((((((((((((((((((((((((((((((a0.put (some 78) (T 0)).put (some 79) (T 1)).put (some 80) (T 2)).put (some 81) (T 3)).put (some 82) (T 4)).put (some 83) (T 5)).put (some 84) (T 6)).put (some 85) (T 7)).put (some 86) (T 8)).put (some 87) (T 9)).put (some 88) (T 10)).put (some 89) (T 11)).put (some 90) (T 12)).put (some 91) (T 13)).put (some 92) (T 14)).put (some 93) (T 15)).put (some 94) (T 16)).put (some 95) (T 17)).put (some 96) (T 18)).put (some 97) (T 19)).put (some 98) (T 20)).put (some 99) (T 21)).put (some 100) (T 22)).put (some 101) (T 23)).put (some 102) (T 24)).put (some 103) (T 25)).put (some 104) (T 26)).put (some 105) (T 27)).put (some 106) (T 28)).put (some 107) (T 29)) w) :
    (Code.region 12 (ed12 ps) true).wp Try.prog Q a0 W0 := by
  refine wp_region_dets (by kernel_rfl) 30 rfl ed12D ?_ (by decide) (ed12T p q rt m2 gp gt B0 WW) (fun D w => Below B0 WW w ∧ Box w gp 23 (wnL p) ∧ Box w gt 23 (wnL q) ∧ True) (fun D _ => ⟨hS0.1.drew, hS0.2.1, hS0.2.2.1, trivial⟩) ?_ (by rfl) (fun w D _ hSw => hfin (ed12T p q rt m2 gp gt B0 WW) w rfl hSw)
  · intro jq t hj ht
    have : ∀ j, j < 30 → (ed12D j).all (· < 110) = true := by decide
    have := this jq hj
    rw [ht] at this
    rw [sz]
    simpa using this
  · intro iq o ho D a w hSw hDi hcl hs hel K hK
    have hin : iq < 30 := (Array.getElem?_eq_some_iff.1 ho).1
    match iq, hin, ho with
    | 0, _, ho =>
      obtain rfl := Option.some.inj (ho.symm.trans (ed12_0 ps))
      have u11 : a.eval (.tmp 11) = .pointer (some ⟨gt, 0, none⟩) := (hel 11 (by decide)).trans e11
      exact op_valW (ed12_0 ps) rfl (v := agv (wnL q)) (run_loadS isS23 rfl u11 hSw.2.2.1) (hK w (fun D' _ _ => hSw))
    | 1, _, ho =>
      obtain rfl := Option.some.inj (ho.symm.trans (ed12_1 ps))
      have s0 : a.eval (.tmp 78) = agv (wnL q) := hs 0 78 (by rfl) rfl
      exact op_enterW (ed12_1 ps) rfl (f := 8) (args := #[agv (wnL q)]) (by rw [run_call rfl enter8]; simp only [List.map_toArray, List.map_cons, List.map_nil, s0]; try rfl) ((c1 w).mono (fun e w' hh => ⟨_, hh.1, hK w' (fun D' _ _ => ⟨hSw.1.trans (hh.2.mono (Nat.le_trans l0 (Nat.le_of_lt hSw.2.1.lt))), hSw.2.1.later hh.2, hSw.2.2.1.later hh.2, trivial⟩)⟩))
    | 2, _, ho =>
      obtain rfl := Option.some.inj (ho.symm.trans (ed12_2 ps))
      have s1 : a.eval (.tmp 79) = .int .i64 0 := hs 1 79 (by rfl) rfl
      exact op_valW (ed12_2 ps) rfl (v := .bool false) (by unfold ed12O2 execOp; simp only [s1]; first | (go_simp; done) | (go_simp; with_reducible rfl)) (hK w (fun D' _ _ => hSw))
    | 3, _, ho =>
      obtain rfl := Option.some.inj (ho.symm.trans (ed12_3 ps))
      have s2 : a.eval (.tmp 80) = .bool false := hs 2 80 (by rfl) rfl
      exact op_valW (ed12_3 ps) rfl (v := .bool false) (by unfold ed12O3 execOp; simp only [s2]; first | (go_simp; done) | (go_simp; with_reducible rfl)) (hK w (fun D' _ _ => hSw))
    | 4, _, ho =>
      obtain rfl := Option.some.inj (ho.symm.trans (ed12_4 ps))
      have s3 : a.eval (.tmp 81) = .bool false := hs 3 81 (by rfl) rfl
      have u11 : a.eval (.tmp 11) = .pointer (some ⟨gt, 0, none⟩) := (hel 11 (by decide)).trans e11
      exact op_valW (ed12_4 ps) (by rw [wanted_of rfl (ed12_3 ps) rfl s3]; rfl) (v := .pointer (some ⟨gt, 2, none⟩)) (by unfold ed12O4 execOp; simp only [u11]; first | (go_simp; done) | (go_simp; with_reducible rfl)) (hK w (fun D' _ _ => hSw))
    | 5, _, ho =>
      obtain rfl := Option.some.inj (ho.symm.trans (ed12_5 ps))
      have s4 : a.eval (.tmp 82) = .pointer (some ⟨gt, 2, none⟩) := hs 4 82 (by rfl) rfl
      have s3 : a.eval (.tmp 81) = .bool false := hs 3 81 (by rfl) rfl
      have hcl := Box.cell hSw.2.2.1 2 rfl
      exact op_valW (ed12_5 ps) (by rw [wanted_of rfl (ed12_3 ps) rfl s3]; rfl) (v := .int .i64 q.ed) (by unfold ed12O5 execOp; simp only [s4]; first | (go_simp; done) | (go_simp; with_reducible rfl)) (hK w (fun D' _ _ => hSw))
    | 6, _, ho =>
      obtain rfl := Option.some.inj (ho.symm.trans (ed12_6 ps))
      have s3 : a.eval (.tmp 81) = .bool false := hs 3 81 (by rfl) rfl
      have u7 : a.eval (.tmp 7) = .pointer (some ⟨gp, 0, none⟩) := (hel 7 (by decide)).trans e7
      exact op_valW (ed12_6 ps) (by rw [wanted_of rfl (ed12_3 ps) rfl s3]; rfl) (v := .pointer (some ⟨gp, 2, none⟩)) (by unfold ed12O6 execOp; simp only [u7]; first | (go_simp; done) | (go_simp; with_reducible rfl)) (hK w (fun D' _ _ => hSw))
    | 7, _, ho =>
      obtain rfl := Option.some.inj (ho.symm.trans (ed12_7 ps))
      have s6 : a.eval (.tmp 84) = .pointer (some ⟨gp, 2, none⟩) := hs 6 84 (by rfl) rfl
      have s3 : a.eval (.tmp 81) = .bool false := hs 3 81 (by rfl) rfl
      have hcl := Box.cell hSw.2.1 2 rfl
      exact op_valW (ed12_7 ps) (by rw [wanted_of rfl (ed12_3 ps) rfl s3]; rfl) (v := .int .i64 p.ed) (by unfold ed12O7 execOp; simp only [s6]; first | (go_simp; done) | (go_simp; with_reducible rfl)) (hK w (fun D' _ _ => hSw))
    | 8, _, ho =>
      obtain rfl := Option.some.inj (ho.symm.trans (ed12_8 ps))
      have s5 : a.eval (.tmp 83) = .int .i64 q.ed := hs 5 83 (by rfl) rfl
      have s7 : a.eval (.tmp 85) = .int .i64 p.ed := hs 7 85 (by rfl) rfl
      have s3 : a.eval (.tmp 81) = .bool false := hs 3 81 (by rfl) rfl
      have hd := d1
      exact op_valW (ed12_8 ps) (by rw [wanted_of rfl (ed12_3 ps) rfl s3]; rfl) (v := .bool false) (by unfold ed12O8 execOp; simp only [s5, s7]; first | (go_simp; done) | (go_simp; with_reducible rfl)) (hK w (fun D' _ _ => hSw))
    | 9, _, ho =>
      obtain rfl := Option.some.inj (ho.symm.trans (ed12_9 ps))
      have s3 : a.eval (.tmp 81) = .bool false := hs 3 81 (by rfl) rfl
      have s8 : a.eval (.tmp 86) = .bool false := hs 8 86 (by rfl) rfl
      exact op_valW (ed12_9 ps) rfl (v := .bool false) (by unfold ed12O9 execOp; simp only [s3, s8]; first | (go_simp; done) | (go_simp; with_reducible rfl)) (hK w (fun D' _ _ => hSw))
    | 10, _, ho =>
      obtain rfl := Option.some.inj (ho.symm.trans (ed12_10 ps))
      have s9 : a.eval (.tmp 87) = .bool false := hs 9 87 (by rfl) rfl
      exact op_valW (ed12_10 ps) rfl (v := .bool false) (by unfold ed12O10 execOp; simp only [s9]; first | (go_simp; done) | (go_simp; with_reducible rfl)) (hK w (fun D' _ _ => hSw))
    | 11, _, ho =>
      obtain rfl := Option.some.inj (ho.symm.trans (ed12_11 ps))
      have s10 : a.eval (.tmp 88) = .bool false := hs 10 88 (by rfl) rfl
      have u11 : a.eval (.tmp 11) = .pointer (some ⟨gt, 0, none⟩) := (hel 11 (by decide)).trans e11
      exact op_valW (ed12_11 ps) (by rw [wanted_of rfl (ed12_10 ps) rfl s10]; rfl) (v := agv (wnL q)) (run_loadS isS23 rfl u11 hSw.2.2.1) (hK w (fun D' _ _ => hSw))
    | 12, _, ho =>
      obtain rfl := Option.some.inj (ho.symm.trans (ed12_12 ps))
      have s11 : a.eval (.tmp 89) = agv (wnL q) := hs 11 89 (by rfl) rfl
      have s10 : a.eval (.tmp 88) = .bool false := hs 10 88 (by rfl) rfl
      exact op_enterW (ed12_12 ps) (by rw [wanted_of rfl (ed12_10 ps) rfl s10]; rfl) (f := 18) (args := #[agv (wnL q)]) (by rw [run_call rfl enter18]; simp only [List.map_toArray, List.map_cons, List.map_nil, s11]; try rfl) ((c2 w).mono (fun e w' hh => ⟨_, hh.1, hK w' (fun D' _ _ => ⟨hSw.1.trans (hh.2.mono (Nat.le_trans l0 (Nat.le_of_lt hSw.2.1.lt))), hSw.2.1.later hh.2, hSw.2.2.1.later hh.2, trivial⟩)⟩))
    | 13, _, ho =>
      obtain rfl := Option.some.inj (ho.symm.trans (ed12_13 ps))
      have s10 : a.eval (.tmp 88) = .bool false := hs 10 88 (by rfl) rfl
      have u11 : a.eval (.tmp 11) = .pointer (some ⟨gt, 0, none⟩) := (hel 11 (by decide)).trans e11
      exact op_valW (ed12_13 ps) (by rw [wanted_of rfl (ed12_10 ps) rfl s10]; rfl) (v := .pointer (some ⟨gt, 2, none⟩)) (by unfold ed12O13 execOp; simp only [u11]; first | (go_simp; done) | (go_simp; with_reducible rfl)) (hK w (fun D' _ _ => hSw))
    | 14, _, ho =>
      obtain rfl := Option.some.inj (ho.symm.trans (ed12_14 ps))
      have s13 : a.eval (.tmp 91) = .pointer (some ⟨gt, 2, none⟩) := hs 13 91 (by rfl) rfl
      have s10 : a.eval (.tmp 88) = .bool false := hs 10 88 (by rfl) rfl
      have hcl := Box.cell hSw.2.2.1 2 rfl
      exact op_valW (ed12_14 ps) (by rw [wanted_of rfl (ed12_10 ps) rfl s10]; rfl) (v := .int .i64 q.ed) (by unfold ed12O14 execOp; simp only [s13]; first | (go_simp; done) | (go_simp; with_reducible rfl)) (hK w (fun D' _ _ => hSw))
    | 15, _, ho =>
      obtain rfl := Option.some.inj (ho.symm.trans (ed12_15 ps))
      have s12 : a.eval (.tmp 90) = .int .i64 rt := hs 12 90 (by rfl) rfl
      have s14 : a.eval (.tmp 92) = .int .i64 q.ed := hs 14 92 (by rfl) rfl
      have s10 : a.eval (.tmp 88) = .bool false := hs 10 88 (by rfl) rfl
      have hd := d2
      exact op_valW (ed12_15 ps) (by rw [wanted_of rfl (ed12_10 ps) rfl s10]; rfl) (v := .bool false) (by unfold ed12O15 execOp; simp only [s12, s14]; first | (go_simp; done) | (go_simp; with_reducible rfl)) (hK w (fun D' _ _ => hSw))
    | 16, _, ho =>
      obtain rfl := Option.some.inj (ho.symm.trans (ed12_16 ps))
      have s10 : a.eval (.tmp 88) = .bool false := hs 10 88 (by rfl) rfl
      have s15 : a.eval (.tmp 93) = .bool false := hs 15 93 (by rfl) rfl
      exact op_valW (ed12_16 ps) rfl (v := .bool false) (by unfold ed12O16 execOp; simp only [s10, s15]; first | (go_simp; done) | (go_simp; with_reducible rfl)) (hK w (fun D' _ _ => hSw))
    | 17, _, ho =>
      obtain rfl := Option.some.inj (ho.symm.trans (ed12_17 ps))
      have s16 : a.eval (.tmp 94) = .bool false := hs 16 94 (by rfl) rfl
      exact op_valW (ed12_17 ps) rfl (v := .bool false) (by unfold ed12O17 execOp; simp only [s16]; first | (go_simp; done) | (go_simp; with_reducible rfl)) (hK w (fun D' _ _ => hSw))
    | 18, _, ho =>
      obtain rfl := Option.some.inj (ho.symm.trans (ed12_18 ps))
      have s17 : a.eval (.tmp 95) = .bool false := hs 17 95 (by rfl) rfl
      have u11 : a.eval (.tmp 11) = .pointer (some ⟨gt, 0, none⟩) := (hel 11 (by decide)).trans e11
      exact op_valW (ed12_18 ps) (by rw [wanted_of rfl (ed12_17 ps) rfl s17]; rfl) (v := .pointer (some ⟨gt, 2, none⟩)) (by unfold ed12O18 execOp; simp only [u11]; first | (go_simp; done) | (go_simp; with_reducible rfl)) (hK w (fun D' _ _ => hSw))
    | 19, _, ho =>
      obtain rfl := Option.some.inj (ho.symm.trans (ed12_19 ps))
      have s18 : a.eval (.tmp 96) = .pointer (some ⟨gt, 2, none⟩) := hs 18 96 (by rfl) rfl
      have s17 : a.eval (.tmp 95) = .bool false := hs 17 95 (by rfl) rfl
      have hcl := Box.cell hSw.2.2.1 2 rfl
      exact op_valW (ed12_19 ps) (by rw [wanted_of rfl (ed12_17 ps) rfl s17]; rfl) (v := .int .i64 q.ed) (by unfold ed12O19 execOp; simp only [s18]; first | (go_simp; done) | (go_simp; with_reducible rfl)) (hK w (fun D' _ _ => hSw))
    | 20, _, ho =>
      obtain rfl := Option.some.inj (ho.symm.trans (ed12_20 ps))
      have s17 : a.eval (.tmp 95) = .bool false := hs 17 95 (by rfl) rfl
      have u9 : a.eval (.tmp 9) = .int .i64 m2 := (hel 9 (by decide)).trans e9
      exact op_valW (ed12_20 ps) (by rw [wanted_of rfl (ed12_17 ps) rfl s17]; rfl) (v := .int .i64 m2) (by unfold ed12O20 execOp; simp only [u9]; first | (go_simp; done) | (go_simp; with_reducible rfl)) (hK w (fun D' _ _ => hSw))
    | 21, _, ho =>
      obtain rfl := Option.some.inj (ho.symm.trans (ed12_21 ps))
      have s19 : a.eval (.tmp 97) = .int .i64 q.ed := hs 19 97 (by rfl) rfl
      have s20 : a.eval (.tmp 98) = .int .i64 m2 := hs 20 98 (by rfl) rfl
      have s17 : a.eval (.tmp 95) = .bool false := hs 17 95 (by rfl) rfl
      have hd := d3
      exact op_valW (ed12_21 ps) (by rw [wanted_of rfl (ed12_17 ps) rfl s17]; rfl) (v := .bool false) (by unfold ed12O21 execOp; simp only [s19, s20]; first | (go_simp; done) | (go_simp; with_reducible rfl)) (hK w (fun D' _ _ => hSw))
    | 22, _, ho =>
      obtain rfl := Option.some.inj (ho.symm.trans (ed12_22 ps))
      have s17 : a.eval (.tmp 95) = .bool false := hs 17 95 (by rfl) rfl
      have s21 : a.eval (.tmp 99) = .bool false := hs 21 99 (by rfl) rfl
      exact op_valW (ed12_22 ps) rfl (v := .bool false) (by unfold ed12O22 execOp; simp only [s17, s21]; first | (go_simp; done) | (go_simp; with_reducible rfl)) (hK w (fun D' _ _ => hSw))
    | 23, _, ho =>
      obtain rfl := Option.some.inj (ho.symm.trans (ed12_23 ps))
      have s22 : a.eval (.tmp 100) = .bool false := hs 22 100 (by rfl) rfl
      exact op_valW (ed12_23 ps) rfl (v := .bool false) (by unfold ed12O23 execOp; simp only [s22]; first | (go_simp; done) | (go_simp; with_reducible rfl)) (hK w (fun D' _ _ => hSw))
    | 24, _, ho =>
      obtain rfl := Option.some.inj (ho.symm.trans (ed12_24 ps))
      have s23 : a.eval (.tmp 101) = .bool false := hs 23 101 (by rfl) rfl
      have u11 : a.eval (.tmp 11) = .pointer (some ⟨gt, 0, none⟩) := (hel 11 (by decide)).trans e11
      exact op_valW (ed12_24 ps) (by rw [wanted_of rfl (ed12_23 ps) rfl s23]; rfl) (v := .pointer (some ⟨gt, 0, none⟩)) (by unfold ed12O24 execOp; simp only [u11]; first | (go_simp; done) | (go_simp; with_reducible rfl)) (hK w (fun D' _ _ => hSw))
    | 25, _, ho =>
      obtain rfl := Option.some.inj (ho.symm.trans (ed12_25 ps))
      have s24 : a.eval (.tmp 102) = .pointer (some ⟨gt, 0, none⟩) := hs 24 102 (by rfl) rfl
      have s23 : a.eval (.tmp 101) = .bool false := hs 23 101 (by rfl) rfl
      have hcl := Box.cell hSw.2.2.1 0 rfl
      exact op_valW (ed12_25 ps) (by rw [wanted_of rfl (ed12_23 ps) rfl s23]; rfl) (v := .int .i64 q.un) (by unfold ed12O25 execOp; simp only [s24]; first | (go_simp; done) | (go_simp; with_reducible rfl)) (hK w (fun D' _ _ => hSw))
    | 26, _, ho =>
      obtain rfl := Option.some.inj (ho.symm.trans (ed12_26 ps))
      have s23 : a.eval (.tmp 101) = .bool false := hs 23 101 (by rfl) rfl
      have u7 : a.eval (.tmp 7) = .pointer (some ⟨gp, 0, none⟩) := (hel 7 (by decide)).trans e7
      exact op_valW (ed12_26 ps) (by rw [wanted_of rfl (ed12_23 ps) rfl s23]; rfl) (v := .pointer (some ⟨gp, 0, none⟩)) (by unfold ed12O26 execOp; simp only [u7]; first | (go_simp; done) | (go_simp; with_reducible rfl)) (hK w (fun D' _ _ => hSw))
    | 27, _, ho =>
      obtain rfl := Option.some.inj (ho.symm.trans (ed12_27 ps))
      have s26 : a.eval (.tmp 104) = .pointer (some ⟨gp, 0, none⟩) := hs 26 104 (by rfl) rfl
      have s23 : a.eval (.tmp 101) = .bool false := hs 23 101 (by rfl) rfl
      have hcl := Box.cell hSw.2.1 0 rfl
      exact op_valW (ed12_27 ps) (by rw [wanted_of rfl (ed12_23 ps) rfl s23]; rfl) (v := .int .i64 p.un) (by unfold ed12O27 execOp; simp only [s26]; first | (go_simp; done) | (go_simp; with_reducible rfl)) (hK w (fun D' _ _ => hSw))
    | 28, _, ho =>
      obtain rfl := Option.some.inj (ho.symm.trans (ed12_28 ps))
      have s25 : a.eval (.tmp 103) = .int .i64 q.un := hs 25 103 (by rfl) rfl
      have s27 : a.eval (.tmp 105) = .int .i64 p.un := hs 27 105 (by rfl) rfl
      have s23 : a.eval (.tmp 101) = .bool false := hs 23 101 (by rfl) rfl
      have hd := d4
      exact op_valW (ed12_28 ps) (by rw [wanted_of rfl (ed12_23 ps) rfl s23]; rfl) (v := .bool false) (by unfold ed12O28 execOp; simp only [s25, s27]; first | (go_simp; done) | (go_simp; with_reducible rfl)) (hK w (fun D' _ _ => hSw))
    | 29, _, ho =>
      obtain rfl := Option.some.inj (ho.symm.trans (ed12_29 ps))
      have s23 : a.eval (.tmp 101) = .bool false := hs 23 101 (by rfl) rfl
      have s28 : a.eval (.tmp 106) = .bool false := hs 28 106 (by rfl) rfl
      exact op_valW (ed12_29 ps) rfl (v := .bool false) (by unfold ed12O29 execOp; simp only [s23, s28]; first | (go_simp; done) | (go_simp; with_reducible rfl)) (hK w (fun D' _ _ => hSw))
    | iq + 30, hin, _ => exact absurd hin (by omega)
end Go.Proofs.Ytliiogafemlagaa
