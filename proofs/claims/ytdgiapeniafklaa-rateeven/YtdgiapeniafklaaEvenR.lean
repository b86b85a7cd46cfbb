/- RateEven: its region that draws its order and makes boxes. -/
import Derived.Test.YtdgiapeniafklaaFly2
namespace Go.Proofs.Ytdgiapeniafklaa
open Go.ChangeShapes Go.WideShapes Go.ChangeAt Go.RowKit Go.Shelf
set_option linter.unusedVariables false
set_option linter.unusedSimpArgs false
attribute [local go_sem] Oper.semAt_some

theorem enter8 (args : Array Value) (w : World) : (callFunc 8 args).run Try.prog w = .ok (.enter 8 args) w := by kernel_rfl
def ev10O0 (ps : String) : Oper := { dst := some 65, op := .load 23 (.tmp 9), type := 23, pos := ps, after := #[], guard := none }
def ev10O1 (ps : String) : Oper := { dst := some 66, op := .move (.tmp 10), type := 24, pos := ps, after := #[], guard := none }
def ev10O2 (ps : String) : Oper := { dst := some 67, op := .slice 24 (.tmp 66) none (some (.const (.int .i64 1))) none, type := 24, pos := ps, after := #[{ on := 1, ground := .data }], guard := none }
def ev10O3 (ps : String) : Oper := { dst := some 68, op := .move (.tmp 12), type := 3, pos := ps, after := #[], guard := none }
def ev10O4 (ps : String) : Oper := { dst := some 69, op := .call { callee := .value (.func 8), args := #[.tmp 65, .tmp 67, .tmp 68, .const (.int .i64 0)], argTypes := #[23, 24, 3, 3] }, type := 28, pos := ps, after := #[{ on := 0, ground := .data }, { on := 2, ground := .data }, { on := 3, ground := .data }], guard := none }
def ev10O5 (ps : String) : Oper := { dst := some 64, op := .move (.tmp 69), type := 28, pos := ps, after := #[{ on := 4, ground := .data }], guard := none }
def ev10O6 (ps : String) : Oper := { dst := some 70, op := .extract (.tmp 64) 0, type := 23, pos := ps, after := #[{ on := 5, ground := .data }], guard := none }
def ev10O7 (ps : String) : Oper := { dst := some 71, op := .extract (.tmp 64) 1, type := 26, pos := ps, after := #[{ on := 5, ground := .data }, { on := 11, ground := .gcOnly .lateStores }], guard := none }
def ev10O8 (ps : String) : Oper := { dst := some 72, op := .extract (.tmp 64) 2, type := 27, pos := ps, after := #[{ on := 5, ground := .data }, { on := 12, ground := .gcOnly .lateStores }], guard := none }
def ev10O9 (ps : String) : Oper := { dst := some 13, op := .alloc 23, type := 0, pos := ps, after := #[], guard := none }
def ev10O10 (ps : String) : Oper := { dst := some 14, op := .alloc 26, type := 0, pos := ps, after := #[], guard := none }
def ev10O11 (ps : String) : Oper := { dst := none, op := .store 23 (.tmp 13) (.tmp 70), type := 0, pos := ps, after := #[{ on := 9, ground := .data }, { on := 6, ground := .data }, { on := 4, ground := .chain }, { on := 0, ground := .phase }, { on := 1, ground := .phase }, { on := 2, ground := .phase }, { on := 3, ground := .phase }, { on := 4, ground := .phase }, { on := 5, ground := .phase }, { on := 6, ground := .phase }, { on := 7, ground := .textOnly .lateStores }, { on := 8, ground := .textOnly .lateStores }, { on := 9, ground := .phase }, { on := 10, ground := .phase }], guard := none }
def ev10O12 (ps : String) : Oper := { dst := none, op := .store 26 (.tmp 14) (.tmp 71), type := 0, pos := ps, after := #[{ on := 10, ground := .data }, { on := 7, ground := .data }, { on := 11, ground := .chain }, { on := 0, ground := .phase }, { on := 1, ground := .phase }, { on := 2, ground := .phase }, { on := 3, ground := .phase }, { on := 4, ground := .phase }, { on := 5, ground := .phase }, { on := 6, ground := .phase }, { on := 7, ground := .phase }, { on := 8, ground := .textOnly .lateStores }, { on := 9, ground := .phase }, { on := 10, ground := .phase }, { on := 11, ground := .phase }], guard := none }
def ev10O13 (ps : String) : Oper := { dst := some 15, op := .assign (.tmp 72), type := 27, pos := ps, after := #[{ on := 8, ground := .data }, { on := 12, ground := .chain }, { on := 0, ground := .phase }, { on := 1, ground := .phase }, { on := 2, ground := .phase }, { on := 3, ground := .phase }, { on := 4, ground := .phase }, { on := 5, ground := .phase }, { on := 6, ground := .phase }, { on := 7, ground := .phase }, { on := 8, ground := .phase }, { on := 9, ground := .phase }, { on := 10, ground := .phase }, { on := 11, ground := .phase }, { on := 12, ground := .phase }], guard := none }
def ev10 (ps : String) : Array Oper := #[ev10O0 ps, ev10O1 ps, ev10O2 ps, ev10O3 ps, ev10O4 ps, ev10O5 ps, ev10O6 ps, ev10O7 ps, ev10O8 ps, ev10O9 ps, ev10O10 ps, ev10O11 ps, ev10O12 ps, ev10O13 ps]
theorem ev10_0 (ps : String) : (ev10 ps)[0]? = some (ev10O0 ps) := rfl
theorem ev10_1 (ps : String) : (ev10 ps)[1]? = some (ev10O1 ps) := rfl
theorem ev10_2 (ps : String) : (ev10 ps)[2]? = some (ev10O2 ps) := rfl
theorem ev10_3 (ps : String) : (ev10 ps)[3]? = some (ev10O3 ps) := rfl
theorem ev10_4 (ps : String) : (ev10 ps)[4]? = some (ev10O4 ps) := rfl
theorem ev10_5 (ps : String) : (ev10 ps)[5]? = some (ev10O5 ps) := rfl
theorem ev10_6 (ps : String) : (ev10 ps)[6]? = some (ev10O6 ps) := rfl
theorem ev10_7 (ps : String) : (ev10 ps)[7]? = some (ev10O7 ps) := rfl
theorem ev10_8 (ps : String) : (ev10 ps)[8]? = some (ev10O8 ps) := rfl
theorem ev10_9 (ps : String) : (ev10 ps)[9]? = some (ev10O9 ps) := rfl
theorem ev10_10 (ps : String) : (ev10 ps)[10]? = some (ev10O10 ps) := rfl
theorem ev10_11 (ps : String) : (ev10 ps)[11]? = some (ev10O11 ps) := rfl
theorem ev10_12 (ps : String) : (ev10 ps)[12]? = some (ev10O12 ps) := rfl
theorem ev10_13 (ps : String) : (ev10 ps)[13]? = some (ev10O13 ps) := rfl
def ev10D : Nat → Option Tmp
  | 0 => some 65
  | 1 => some 66
  | 2 => some 67
  | 3 => some 68
  | 4 => some 69
  | 5 => some 64
  | 6 => some 70
  | 7 => some 71
  | 8 => some 72
  | 9 => some 13
  | 10 => some 14
  | 11 => none
  | 12 => none
  | 13 => some 15
  | _ => none
def ev10T (q Q1 : Rt) (S1 : Sm) (x : Rc) (l : List Rc) (va : Option Addr) (vc : Nat) (nw : Int) (gp RB WS B0 : Nat) (WW : World) (c : Nat → Nat) : Nat → Value
  | 0 => agv (rtL q)
  | 1 => .slice va (l.length + 1) vc
  | 2 => .slice va 1 vc
  | 3 => .int .i64 nw
  | 4 => .tuple #[agv (rtL Q1), agv (smL S1), .int .i64 0]
  | 5 => .tuple #[agv (rtL Q1), agv (smL S1), .int .i64 0]
  | 6 => agv (rtL Q1)
  | 7 => agv (smL S1)
  | 8 => .int .i64 0
  | 9 => .pointer (some ⟨c 9, 0, none⟩)
  | 10 => .pointer (some ⟨c 10, 0, none⟩)
  | 11 => undef
  | 12 => undef
  | 13 => .int .i64 0
  | _ => undef
set_option maxRecDepth 100000 in
set_option maxHeartbeats 4000000 in
theorem ev10T_congr (q Q1 : Rt) (S1 : Sm) (x : Rc) (l : List Rc) (va : Option Addr) (vc : Nat) (nw : Int) (gp RB WS B0 : Nat) (WW : World) (c c' : Nat → Nat) : ∀ j, c' j = c j → ev10T q Q1 S1 x l va vc nw gp RB WS B0 WW c' j = ev10T q Q1 S1 x l va vc nw gp RB WS B0 WW c j
  | 0, h => rfl
  | 1, h => rfl
  | 2, h => rfl
  | 3, h => rfl
  | 4, h => rfl
  | 5, h => rfl
  | 6, h => rfl
  | 7, h => rfl
  | 8, h => rfl
  | 9, h => by simp only [ev10T]; rw [h]
  | 10, h => by simp only [ev10T]; rw [h]
  | 11, h => rfl
  | 12, h => rfl
  | 13, h => rfl
  | _ + 14, _ => rfl
theorem ev10_reg {ps : String} {Q : Exit → Act → World → Prop} {a0 : Act} {W0 : World} (sz : a0.tmps.size = 132) (q Q1 : Rt) (S1 : Sm) (x : Rc) (l : List Rc) (va : Option Addr) (vc : Nat) (nw : Int) (gp RB WS B0 : Nat) (WW : World)
    (e9 : a0.eval (.tmp 9) = .pointer (some ⟨gp, 0, none⟩)) (e10 : a0.eval (.tmp 10) = .slice va (l.length + 1) vc) (e12 : a0.eval (.tmp 12) = .int .i64 nw)
    (l0 : B0 ≤ gp) (hgp : gp < WS) (hsl : ∀ W, (Instr.slice 24 (.slice va (l.length + 1) vc) none (some (.int .i64 1)) none).run Try.prog W = .ok (.slice va 1 vc) W) (c1 : ∀ W, RecsAt W va [x] → Calls Try.prog 8 #[agv (rtL q), .slice va 1 vc, .int .i64 nw, .int .i64 0] W fun e w' => e = .returned (.tuple #[agv (rtL Q1), agv (smL S1), .int .i64 0]) ∧ Below W.heap.size W w') (hS0 : Below B0 WW W0 ∧ WS ≤ W0.heap.size ∧ Box W0 gp 23 (rtL q) ∧ RowO W0 RB va vc (x :: l))
    (hfin : ∀ (c : Nat → Nat) (T : Nat → Value) w, T 9 = .pointer (some ⟨c 9, 0, none⟩) → T 10 = .pointer (some ⟨c 10, 0, none⟩) → T 13 = .int .i64 0 → Below B0 WW w ∧ WS ≤ w.heap.size ∧ Box w gp 23 (rtL q) ∧ RowO w RB va vc (x :: l) ∧ (true = true → WS ≤ (c 9) ∧ Box w (c 9) 23 (rtL (if true = true then Q1 else rtZ))) ∧ (true = true → WS ≤ (c 10) ∧ Box w (c 10) 26 (smL (if true = true then S1 else smZ))) ∧ True → Q .normal ((((((((((((a0.put (some 65) (T 0)).put (some 66) (T 1)).put (some 67) (T 2)).put (some 68) (T 3)).put (some 69) (T 4)).put (some 64) (T 5)).put (some 70) (T 6)).put (some 71) (T 7)).put (some 72) (T 8)).put (some 13) (T 9)).put (some 14) (T 10)).put (some 15) (T 13)) w) :
    (Code.region 10 (ev10 ps) true).wp Try.prog Q a0 W0 := by
  refine wp_region_detg (by kernel_rfl) 14 rfl ev10D ?_ (by decide) (ev10T q Q1 S1 x l va vc nw gp RB WS B0 WW) (fun c D w => Below B0 WW w ∧ WS ≤ w.heap.size ∧ Box w gp 23 (rtL q) ∧ RowO w RB va vc (x :: l) ∧ (D 9 = true → WS ≤ (c 9) ∧ Box w (c 9) 23 (rtL (if D 11 = true then Q1 else rtZ))) ∧ (D 10 = true → WS ≤ (c 10) ∧ Box w (c 10) 26 (smL (if D 12 = true then S1 else smZ))) ∧ True) (fun _ => 0) (fun D hD => by
    show Below B0 WW W0.drew ∧ WS ≤ W0.drew.heap.size ∧ Box W0.drew gp 23 (rtL q) ∧ RowO W0.drew RB va vc (x :: l) ∧ (D 9 = true → WS ≤ 0 ∧ Box W0.drew 0 23 (rtL (if D 11 = true then Q1 else rtZ))) ∧ (D 10 = true → WS ≤ 0 ∧ Box W0.drew 0 26 (smL (if D 12 = true then S1 else smZ))) ∧ True
    rw [hD 9, hD 10, hD 11, hD 12]
    exact ⟨hS0.1.drew, hS0.2.1, hS0.2.2.1, hS0.2.2.2, fun h => (by cases h), fun h => (by cases h), trivial⟩) ?_ (by rfl) (fun c w D hD hSw => by
    have hSw' : Below B0 WW w ∧ WS ≤ w.heap.size ∧ Box w gp 23 (rtL q) ∧ RowO w RB va vc (x :: l) ∧ (D 9 = true → WS ≤ (c 9) ∧ Box w (c 9) 23 (rtL (if D 11 = true then Q1 else rtZ))) ∧ (D 10 = true → WS ≤ (c 10) ∧ Box w (c 10) 26 (smL (if D 12 = true then S1 else smZ))) ∧ True := hSw
    rw [hD 9 (by decide), hD 10 (by decide), hD 11 (by decide), hD 12 (by decide)] at hSw'
    exact hfin c (ev10T q Q1 S1 x l va vc nw gp RB WS B0 WW c) w rfl rfl rfl hSw')
  · intro jq t hj ht
    have : ∀ j, j < 14 → (ev10D j).all (· < 132) = true := by decide
    have := this jq hj
    rw [ht] at this
    rw [sz]
    simpa using this
  · intro iq o ho c D a w hSw hDi hcl hrd hs hel K hK
    have hin : iq < 14 := (Array.getElem?_eq_some_iff.1 ho).1
    match iq, hin, ho with
    | 0, _, ho =>
      obtain rfl := Option.some.inj (ho.symm.trans (ev10_0 ps))
      have u9 : a.eval (.tmp 9) = .pointer (some ⟨gp, 0, none⟩) := (hel 9 (by decide)).trans e9
      exact op_valW (ev10_0 ps) rfl (v := agv (rtL q)) (run_loadS isS23 rfl u9 hSw.2.2.1) (hK c w (fun _ _ => rfl) (fun D' hi' hj' => by
        have hd9 : D' 9 = D 9 := hj' 9 (by decide)
        have hd10 : D' 10 = D 10 := hj' 10 (by decide)
        have hd11 : D' 11 = D 11 := hj' 11 (by decide)
        have hd12 : D' 12 = D 12 := hj' 12 (by decide)
        show Below B0 WW w ∧ WS ≤ w.heap.size ∧ Box w gp 23 (rtL q) ∧ RowO w RB va vc (x :: l) ∧ (D' 9 = true → WS ≤ (c 9) ∧ Box w (c 9) 23 (rtL (if D' 11 = true then Q1 else rtZ))) ∧ (D' 10 = true → WS ≤ (c 10) ∧ Box w (c 10) 26 (smL (if D' 12 = true then S1 else smZ))) ∧ True
        rw [hd9, hd10, hd11, hd12]
        exact hSw))
    | 1, _, ho =>
      obtain rfl := Option.some.inj (ho.symm.trans (ev10_1 ps))
      have u10 : a.eval (.tmp 10) = .slice va (l.length + 1) vc := (hel 10 (by decide)).trans e10
      exact op_valW (ev10_1 ps) rfl (v := .slice va (l.length + 1) vc) (by unfold ev10O1 execOp; simp only [u10]; first | (go_simp; done) | (go_simp; with_reducible rfl)) (hK c w (fun _ _ => rfl) (fun D' hi' hj' => by
        have hd9 : D' 9 = D 9 := hj' 9 (by decide)
        have hd10 : D' 10 = D 10 := hj' 10 (by decide)
        have hd11 : D' 11 = D 11 := hj' 11 (by decide)
        have hd12 : D' 12 = D 12 := hj' 12 (by decide)
        show Below B0 WW w ∧ WS ≤ w.heap.size ∧ Box w gp 23 (rtL q) ∧ RowO w RB va vc (x :: l) ∧ (D' 9 = true → WS ≤ (c 9) ∧ Box w (c 9) 23 (rtL (if D' 11 = true then Q1 else rtZ))) ∧ (D' 10 = true → WS ≤ (c 10) ∧ Box w (c 10) 26 (smL (if D' 12 = true then S1 else smZ))) ∧ True
        rw [hd9, hd10, hd11, hd12]
        exact hSw))
    | 2, _, ho =>
      obtain rfl := Option.some.inj (ho.symm.trans (ev10_2 ps))
      have s1 : a.eval (.tmp 66) = .slice va (l.length + 1) vc := hs 1 66 (by rfl) rfl
      exact op_valW (ev10_2 ps) rfl (v := .slice va 1 vc) (run_sliceH (u := .int .i64 1) Try.underlying24 rfl s1 rfl hsl w) (hK c w (fun _ _ => rfl) (fun D' hi' hj' => by
        have hd9 : D' 9 = D 9 := hj' 9 (by decide)
        have hd10 : D' 10 = D 10 := hj' 10 (by decide)
        have hd11 : D' 11 = D 11 := hj' 11 (by decide)
        have hd12 : D' 12 = D 12 := hj' 12 (by decide)
        show Below B0 WW w ∧ WS ≤ w.heap.size ∧ Box w gp 23 (rtL q) ∧ RowO w RB va vc (x :: l) ∧ (D' 9 = true → WS ≤ (c 9) ∧ Box w (c 9) 23 (rtL (if D' 11 = true then Q1 else rtZ))) ∧ (D' 10 = true → WS ≤ (c 10) ∧ Box w (c 10) 26 (smL (if D' 12 = true then S1 else smZ))) ∧ True
        rw [hd9, hd10, hd11, hd12]
        exact hSw))
    | 3, _, ho =>
      obtain rfl := Option.some.inj (ho.symm.trans (ev10_3 ps))
      have u12 : a.eval (.tmp 12) = .int .i64 nw := (hel 12 (by decide)).trans e12
      exact op_valW (ev10_3 ps) rfl (v := .int .i64 nw) (by unfold ev10O3 execOp; simp only [u12]; first | (go_simp; done) | (go_simp; with_reducible rfl)) (hK c w (fun _ _ => rfl) (fun D' hi' hj' => by
        have hd9 : D' 9 = D 9 := hj' 9 (by decide)
        have hd10 : D' 10 = D 10 := hj' 10 (by decide)
        have hd11 : D' 11 = D 11 := hj' 11 (by decide)
        have hd12 : D' 12 = D 12 := hj' 12 (by decide)
        show Below B0 WW w ∧ WS ≤ w.heap.size ∧ Box w gp 23 (rtL q) ∧ RowO w RB va vc (x :: l) ∧ (D' 9 = true → WS ≤ (c 9) ∧ Box w (c 9) 23 (rtL (if D' 11 = true then Q1 else rtZ))) ∧ (D' 10 = true → WS ≤ (c 10) ∧ Box w (c 10) 26 (smL (if D' 12 = true then S1 else smZ))) ∧ True
        rw [hd9, hd10, hd11, hd12]
        exact hSw))
    | 4, _, ho =>
      obtain rfl := Option.some.inj (ho.symm.trans (ev10_4 ps))
      have s0 : a.eval (.tmp 65) = agv (rtL q) := hs 0 65 (by rfl) rfl
      have s2 : a.eval (.tmp 67) = .slice va 1 vc := hs 2 67 (by rfl) rfl
      have s3 : a.eval (.tmp 68) = .int .i64 nw := hs 3 68 (by rfl) rfl
      exact op_enterW (ev10_4 ps) rfl (f := 8) (args := #[agv (rtL q), .slice va 1 vc, .int .i64 nw, .int .i64 0]) (by rw [run_call rfl enter8]; simp only [List.map_toArray, List.map_cons, List.map_nil, s0, s2, s3]; try rfl) ((c1 w (recs_head hSw.2.2.2.1.recs)).mono (fun e w' hh => ⟨_, hh.1, hK c w' (fun _ _ => rfl) (fun D' hi' hj' => by
        have hd9 : D' 9 = D 9 := hj' 9 (by decide)
        have hd10 : D' 10 = D 10 := hj' 10 (by decide)
        have hd11 : D' 11 = D 11 := hj' 11 (by decide)
        have hd12 : D' 12 = D 12 := hj' 12 (by decide)
        show Below B0 WW w' ∧ WS ≤ w'.heap.size ∧ Box w' gp 23 (rtL q) ∧ RowO w' RB va vc (x :: l) ∧ (D' 9 = true → WS ≤ (c 9) ∧ Box w' (c 9) 23 (rtL (if D' 11 = true then Q1 else rtZ))) ∧ (D' 10 = true → WS ≤ (c 10) ∧ Box w' (c 10) 26 (smL (if D' 12 = true then S1 else smZ))) ∧ True
        rw [hd9, hd10, hd11, hd12]
        exact ⟨hSw.1.trans (hh.2.mono (Nat.le_trans l0 (Nat.le_of_lt hSw.2.2.1.lt))), Nat.le_trans hSw.2.1 hh.2.size, hSw.2.2.1.later hh.2, hSw.2.2.2.1.later hh.2, fun h => ⟨(hSw.2.2.2.2.1 h).1, (hSw.2.2.2.2.1 h).2.later hh.2⟩, fun h => ⟨(hSw.2.2.2.2.2.1 h).1, (hSw.2.2.2.2.2.1 h).2.later hh.2⟩, trivial⟩)⟩))
    | 5, _, ho =>
      obtain rfl := Option.some.inj (ho.symm.trans (ev10_5 ps))
      have s4 : a.eval (.tmp 69) = .tuple #[agv (rtL Q1), agv (smL S1), .int .i64 0] := hs 4 69 (by rfl) rfl
      exact op_valW (ev10_5 ps) rfl (v := .tuple #[agv (rtL Q1), agv (smL S1), .int .i64 0]) (by unfold ev10O5 execOp; simp only [s4]; first | (go_simp; done) | (go_simp; with_reducible rfl)) (hK c w (fun _ _ => rfl) (fun D' hi' hj' => by
        have hd9 : D' 9 = D 9 := hj' 9 (by decide)
        have hd10 : D' 10 = D 10 := hj' 10 (by decide)
        have hd11 : D' 11 = D 11 := hj' 11 (by decide)
        have hd12 : D' 12 = D 12 := hj' 12 (by decide)
        show Below B0 WW w ∧ WS ≤ w.heap.size ∧ Box w gp 23 (rtL q) ∧ RowO w RB va vc (x :: l) ∧ (D' 9 = true → WS ≤ (c 9) ∧ Box w (c 9) 23 (rtL (if D' 11 = true then Q1 else rtZ))) ∧ (D' 10 = true → WS ≤ (c 10) ∧ Box w (c 10) 26 (smL (if D' 12 = true then S1 else smZ))) ∧ True
        rw [hd9, hd10, hd11, hd12]
        exact hSw))
    | 6, _, ho =>
      obtain rfl := Option.some.inj (ho.symm.trans (ev10_6 ps))
      have s5 : a.eval (.tmp 64) = .tuple #[agv (rtL Q1), agv (smL S1), .int .i64 0] := hs 5 64 (by rfl) rfl
      exact op_valW (ev10_6 ps) rfl (v := agv (rtL Q1)) (by unfold ev10O6 execOp; simp only [s5]; first | (go_simp; done) | (go_simp; with_reducible rfl)) (hK c w (fun _ _ => rfl) (fun D' hi' hj' => by
        have hd9 : D' 9 = D 9 := hj' 9 (by decide)
        have hd10 : D' 10 = D 10 := hj' 10 (by decide)
        have hd11 : D' 11 = D 11 := hj' 11 (by decide)
        have hd12 : D' 12 = D 12 := hj' 12 (by decide)
        show Below B0 WW w ∧ WS ≤ w.heap.size ∧ Box w gp 23 (rtL q) ∧ RowO w RB va vc (x :: l) ∧ (D' 9 = true → WS ≤ (c 9) ∧ Box w (c 9) 23 (rtL (if D' 11 = true then Q1 else rtZ))) ∧ (D' 10 = true → WS ≤ (c 10) ∧ Box w (c 10) 26 (smL (if D' 12 = true then S1 else smZ))) ∧ True
        rw [hd9, hd10, hd11, hd12]
        exact hSw))
    | 7, _, ho =>
      obtain rfl := Option.some.inj (ho.symm.trans (ev10_7 ps))
      have s5 : a.eval (.tmp 64) = .tuple #[agv (rtL Q1), agv (smL S1), .int .i64 0] := hs 5 64 (by rfl) rfl
      exact op_valW (ev10_7 ps) rfl (v := agv (smL S1)) (by unfold ev10O7 execOp; simp only [s5]; first | (go_simp; done) | (go_simp; with_reducible rfl)) (hK c w (fun _ _ => rfl) (fun D' hi' hj' => by
        have hd9 : D' 9 = D 9 := hj' 9 (by decide)
        have hd10 : D' 10 = D 10 := hj' 10 (by decide)
        have hd11 : D' 11 = D 11 := hj' 11 (by decide)
        have hd12 : D' 12 = D 12 := hj' 12 (by decide)
        show Below B0 WW w ∧ WS ≤ w.heap.size ∧ Box w gp 23 (rtL q) ∧ RowO w RB va vc (x :: l) ∧ (D' 9 = true → WS ≤ (c 9) ∧ Box w (c 9) 23 (rtL (if D' 11 = true then Q1 else rtZ))) ∧ (D' 10 = true → WS ≤ (c 10) ∧ Box w (c 10) 26 (smL (if D' 12 = true then S1 else smZ))) ∧ True
        rw [hd9, hd10, hd11, hd12]
        exact hSw))
    | 8, _, ho =>
      obtain rfl := Option.some.inj (ho.symm.trans (ev10_8 ps))
      have s5 : a.eval (.tmp 64) = .tuple #[agv (rtL Q1), agv (smL S1), .int .i64 0] := hs 5 64 (by rfl) rfl
      exact op_valW (ev10_8 ps) rfl (v := .int .i64 0) (by unfold ev10O8 execOp; simp only [s5]; first | (go_simp; done) | (go_simp; with_reducible rfl)) (hK c w (fun _ _ => rfl) (fun D' hi' hj' => by
        have hd9 : D' 9 = D 9 := hj' 9 (by decide)
        have hd10 : D' 10 = D 10 := hj' 10 (by decide)
        have hd11 : D' 11 = D 11 := hj' 11 (by decide)
        have hd12 : D' 12 = D 12 := hj' 12 (by decide)
        show Below B0 WW w ∧ WS ≤ w.heap.size ∧ Box w gp 23 (rtL q) ∧ RowO w RB va vc (x :: l) ∧ (D' 9 = true → WS ≤ (c 9) ∧ Box w (c 9) 23 (rtL (if D' 11 = true then Q1 else rtZ))) ∧ (D' 10 = true → WS ≤ (c 10) ∧ Box w (c 10) 26 (smL (if D' 12 = true then S1 else smZ))) ∧ True
        rw [hd9, hd10, hd11, hd12]
        exact hSw))
    | 9, _, ho =>
      obtain rfl := Option.some.inj (ho.symm.trans (ev10_9 ps))
      refine op_allocW (ev10_9 ps) rfl rfl rfl zero23 (hK (fun k => if k = 9 then w.heap.size else c k) _ (fun j hj => ?_) (fun D' hi' hj' => ?_))
      · have hji : j ≠ 9 := by rintro rfl; rw [hDi] at hj; cases hj
        exact ev10T_congr _ _ _ _ _ _ _ _ _ _ _ _ _ _ _ j (if_neg hji)
      · have hd9 : D' 9 = true := hi'
        have hd10 : D' 10 = D 10 := hj' 10 (by decide)
        have hd11 : D' 11 = D 11 := hj' 11 (by decide)
        have hd12 : D' 12 = D 12 := hj' 12 (by decide)
        show Below B0 WW (w.alloc (.cells (rtL rtZ).toArray 23)) ∧ WS ≤ (w.alloc (.cells (rtL rtZ).toArray 23)).heap.size ∧ Box (w.alloc (.cells (rtL rtZ).toArray 23)) gp 23 (rtL q) ∧ RowO (w.alloc (.cells (rtL rtZ).toArray 23)) RB va vc (x :: l) ∧ (D' 9 = true → WS ≤ w.heap.size ∧ Box (w.alloc (.cells (rtL rtZ).toArray 23)) w.heap.size 23 (rtL (if D' 11 = true then Q1 else rtZ))) ∧ (D' 10 = true → WS ≤ (c 10) ∧ Box (w.alloc (.cells (rtL rtZ).toArray 23)) (c 10) 26 (smL (if D' 12 = true then S1 else smZ))) ∧ True
        rw [hd9, hd10, hd11, hd12]
        exact ⟨hSw.1.alloc (Nat.le_trans l0 (Nat.le_of_lt hSw.2.2.1.lt)) _, Nat.le_trans hSw.2.1 (by simp), hSw.2.2.1.alloc _, hSw.2.2.2.1.later (below_new w _), fun _ => ⟨hSw.2.1, by rw [(show D 11 = false from (by cases h : D 11 with | false => rfl | true => exact absurd (hcl 11 _ 9 (ev10_11 ps) (by rfl) h) (by rw [hDi]; simp))), if_neg (by simp)]; exact Box.new w 23 (rtL rtZ)⟩, fun h => ⟨(hSw.2.2.2.2.2.1 h).1, (hSw.2.2.2.2.2.1 h).2.alloc _⟩, trivial⟩
    | 10, _, ho =>
      obtain rfl := Option.some.inj (ho.symm.trans (ev10_10 ps))
      refine op_allocW (ev10_10 ps) rfl rfl rfl zero26 (hK (fun k => if k = 10 then w.heap.size else c k) _ (fun j hj => ?_) (fun D' hi' hj' => ?_))
      · have hji : j ≠ 10 := by rintro rfl; rw [hDi] at hj; cases hj
        exact ev10T_congr _ _ _ _ _ _ _ _ _ _ _ _ _ _ _ j (if_neg hji)
      · have hd9 : D' 9 = D 9 := hj' 9 (by decide)
        have hd10 : D' 10 = true := hi'
        have hd11 : D' 11 = D 11 := hj' 11 (by decide)
        have hd12 : D' 12 = D 12 := hj' 12 (by decide)
        show Below B0 WW (w.alloc (.cells (smL smZ).toArray 26)) ∧ WS ≤ (w.alloc (.cells (smL smZ).toArray 26)).heap.size ∧ Box (w.alloc (.cells (smL smZ).toArray 26)) gp 23 (rtL q) ∧ RowO (w.alloc (.cells (smL smZ).toArray 26)) RB va vc (x :: l) ∧ (D' 9 = true → WS ≤ (c 9) ∧ Box (w.alloc (.cells (smL smZ).toArray 26)) (c 9) 23 (rtL (if D' 11 = true then Q1 else rtZ))) ∧ (D' 10 = true → WS ≤ w.heap.size ∧ Box (w.alloc (.cells (smL smZ).toArray 26)) w.heap.size 26 (smL (if D' 12 = true then S1 else smZ))) ∧ True
        rw [hd9, hd10, hd11, hd12]
        exact ⟨hSw.1.alloc (Nat.le_trans l0 (Nat.le_of_lt hSw.2.2.1.lt)) _, Nat.le_trans hSw.2.1 (by simp), hSw.2.2.1.alloc _, hSw.2.2.2.1.later (below_new w _), fun h => ⟨(hSw.2.2.2.2.1 h).1, (hSw.2.2.2.2.1 h).2.alloc _⟩, fun _ => ⟨hSw.2.1, by rw [(show D 12 = false from (by cases h : D 12 with | false => rfl | true => exact absurd (hcl 12 _ 10 (ev10_12 ps) (by rfl) h) (by rw [hDi]; simp))), if_neg (by simp)]; exact Box.new w 26 (smL smZ)⟩, trivial⟩
    | 11, _, ho =>
      obtain rfl := Option.some.inj (ho.symm.trans (ev10_11 ps))
      have s9 : a.eval (.tmp 13) = .pointer (some ⟨c 9, 0, none⟩) := hs 9 13 (by rfl) rfl
      have s6 : a.eval (.tmp 70) = agv (rtL Q1) := hs 6 70 (by rfl) rfl
      have hd9 : D 9 = true := hrd 9 (by rfl)
      have hB9 := hSw.2.2.2.2.1 hd9
      have hst := (stoR (rtL Q1) hB9.2)
      exact op_stoW (ev10_11 ps) rfl rfl (w' := (w.setRow (c 9) (rtL Q1).toArray)) (run_storeS rfl s9 s6 hB9.2 rfl isS23 (rtL_one _)) (hK c _ (fun _ _ => rfl) (fun D' hi' hj' => by
        have hd9 : D' 9 = D 9 := hj' 9 (by decide)
        have hd10 : D' 10 = D 10 := hj' 10 (by decide)
        have hd11 : D' 11 = true := hi'
        have hd12 : D' 12 = D 12 := hj' 12 (by decide)
        show Below B0 WW (w.setRow (c 9) (rtL Q1).toArray) ∧ WS ≤ (w.setRow (c 9) (rtL Q1).toArray).heap.size ∧ Box (w.setRow (c 9) (rtL Q1).toArray) gp 23 (rtL q) ∧ RowO (w.setRow (c 9) (rtL Q1).toArray) RB va vc (x :: l) ∧ (D' 9 = true → WS ≤ (c 9) ∧ Box (w.setRow (c 9) (rtL Q1).toArray) (c 9) 23 (rtL (if D' 11 = true then Q1 else rtZ))) ∧ (D' 10 = true → WS ≤ (c 10) ∧ Box (w.setRow (c 9) (rtL Q1).toArray) (c 10) 26 (smL (if D' 12 = true then S1 else smZ))) ∧ True
        rw [hd9, hd10, hd11, hd12]
        exact ⟨hst.1.below _ _ (by omega) hSw.1, (by rw [hst.1.size]; exact hSw.2.1), hSw.2.2.1.sto hst.1 (by omega), hSw.2.2.2.1.sto hB9.2 (by decide) hst.1, fun _ => ⟨hB9.1, by rw [if_pos rfl]; exact hst.2⟩, fun h => ⟨(hSw.2.2.2.2.2.1 h).1, (hSw.2.2.2.2.2.1 h).2.sto hst.1 (box_ne (hSw.2.2.2.2.2.1 h).2 hB9.2 (by decide))⟩, trivial⟩))
    | 12, _, ho =>
      obtain rfl := Option.some.inj (ho.symm.trans (ev10_12 ps))
      have s10 : a.eval (.tmp 14) = .pointer (some ⟨c 10, 0, none⟩) := hs 10 14 (by rfl) rfl
      have s7 : a.eval (.tmp 71) = agv (smL S1) := hs 7 71 (by rfl) rfl
      have hd10 : D 10 = true := hrd 10 (by rfl)
      have hB10 := hSw.2.2.2.2.2.1 hd10
      have hst := (stoR (smL S1) hB10.2)
      exact op_stoW (ev10_12 ps) rfl rfl (w' := (w.setRow (c 10) (smL S1).toArray)) (run_storeS rfl s10 s7 hB10.2 rfl isS26 (smL_one _)) (hK c _ (fun _ _ => rfl) (fun D' hi' hj' => by
        have hd9 : D' 9 = D 9 := hj' 9 (by decide)
        have hd10 : D' 10 = D 10 := hj' 10 (by decide)
        have hd11 : D' 11 = D 11 := hj' 11 (by decide)
        have hd12 : D' 12 = true := hi'
        show Below B0 WW (w.setRow (c 10) (smL S1).toArray) ∧ WS ≤ (w.setRow (c 10) (smL S1).toArray).heap.size ∧ Box (w.setRow (c 10) (smL S1).toArray) gp 23 (rtL q) ∧ RowO (w.setRow (c 10) (smL S1).toArray) RB va vc (x :: l) ∧ (D' 9 = true → WS ≤ (c 9) ∧ Box (w.setRow (c 10) (smL S1).toArray) (c 9) 23 (rtL (if D' 11 = true then Q1 else rtZ))) ∧ (D' 10 = true → WS ≤ (c 10) ∧ Box (w.setRow (c 10) (smL S1).toArray) (c 10) 26 (smL (if D' 12 = true then S1 else smZ))) ∧ True
        rw [hd9, hd10, hd11, hd12]
        exact ⟨hst.1.below _ _ (by omega) hSw.1, (by rw [hst.1.size]; exact hSw.2.1), hSw.2.2.1.sto hst.1 (by omega), hSw.2.2.2.1.sto hB10.2 (by decide) hst.1, fun h => ⟨(hSw.2.2.2.2.1 h).1, (hSw.2.2.2.2.1 h).2.sto hst.1 (box_ne (hSw.2.2.2.2.1 h).2 hB10.2 (by decide))⟩, fun _ => ⟨hB10.1, by rw [if_pos rfl]; exact hst.2⟩, trivial⟩))
    | 13, _, ho =>
      obtain rfl := Option.some.inj (ho.symm.trans (ev10_13 ps))
      have s8 : a.eval (.tmp 72) = .int .i64 0 := hs 8 72 (by rfl) rfl
      exact op_valW (ev10_13 ps) rfl (v := .int .i64 0) (by unfold ev10O13 execOp; simp only [s8]; first | (go_simp; done) | (go_simp; with_reducible rfl)) (hK c w (fun _ _ => rfl) (fun D' hi' hj' => by
        have hd9 : D' 9 = D 9 := hj' 9 (by decide)
        have hd10 : D' 10 = D 10 := hj' 10 (by decide)
        have hd11 : D' 11 = D 11 := hj' 11 (by decide)
        have hd12 : D' 12 = D 12 := hj' 12 (by decide)
        show Below B0 WW w ∧ WS ≤ w.heap.size ∧ Box w gp 23 (rtL q) ∧ RowO w RB va vc (x :: l) ∧ (D' 9 = true → WS ≤ (c 9) ∧ Box w (c 9) 23 (rtL (if D' 11 = true then Q1 else rtZ))) ∧ (D' 10 = true → WS ≤ (c 10) ∧ Box w (c 10) 26 (smL (if D' 12 = true then S1 else smZ))) ∧ True
        rw [hd9, hd10, hd11, hd12]
        exact hSw))
    | iq + 14, hin, _ => exact absurd hin (by omega)
end Go.Proofs.Ytdgiapeniafklaa
