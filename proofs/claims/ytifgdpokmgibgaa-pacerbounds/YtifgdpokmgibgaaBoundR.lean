/- PacerBounds: its regions that draw their order. -/
import Derived.Test.YtifgdpokmgibgaaDetg
import Derived.Test.YtifgdpokmgibgaaNums
namespace Go.Proofs.Ytifgdpokmgibgaa
open Go.ChangeShapes Go.WideShapes Go.ChangeAt Go.RowKit Go.Shelf
set_option linter.unusedVariables false
set_option linter.unusedSimpArgs false
attribute [local go_sem] Oper.semAt_some

theorem Two.drew {w : World} {B : Nat} {ta : Option Addr} {tc : Nat} {sa : Option Addr} {sc : Nat} {n : Nat} {ts ss : List Int} (h : Two w B ta tc sa sc n ts ss) : Two w.drew B ta tc sa sc n ts ss := ⟨h.t, h.s, h.ap⟩
def bd19O0 (ps : String) : Oper := { dst := some 101, op := .load 23 (.tmp 7), type := 23, pos := ps, after := #[], guard := none }
def bd19O1 (ps : String) : Oper := { dst := some 102, op := .move (.tmp 2), type := 40, pos := ps, after := #[], guard := none }
def bd19O2 (ps : String) : Oper := { dst := some 103, op := .move (.tmp 12), type := 3, pos := ps, after := #[], guard := none }
def bd19O3 (ps : String) : Oper := { dst := some 104, op := .indexAddr 40 (.tmp 102) (.tmp 103), type := 0, pos := ps, after := #[{ on := 1, ground := .data }, { on := 2, ground := .data }], guard := none }
def bd19O4 (ps : String) : Oper := { dst := some 105, op := .fieldAddr 43 (.tmp 104) 1, type := 0, pos := ps, after := #[{ on := 3, ground := .data }], guard := none }
def bd19O5 (ps : String) : Oper := { dst := some 106, op := .load 3 (.tmp 105), type := 3, pos := ps, after := #[{ on := 4, ground := .data }], guard := none }
def bd19O6 (ps : String) : Oper := { dst := some 107, op := .call { callee := .value (.func 15), args := #[.tmp 101, .tmp 106], argTypes := #[23, 3] }, type := 4, pos := ps, after := #[{ on := 0, ground := .data }, { on := 5, ground := .data }], guard := none }
def bd19O7 (ps : String) : Oper := { dst := some 108, op := .unOp .not 4 (.tmp 107), type := 4, pos := ps, after := #[{ on := 6, ground := .data }], guard := none }
def bd19 (ps : String) : Array Oper := #[bd19O0 ps, bd19O1 ps, bd19O2 ps, bd19O3 ps, bd19O4 ps, bd19O5 ps, bd19O6 ps, bd19O7 ps]
theorem bd19_0 (ps : String) : (bd19 ps)[0]? = some (bd19O0 ps) := rfl
theorem bd19_1 (ps : String) : (bd19 ps)[1]? = some (bd19O1 ps) := rfl
theorem bd19_2 (ps : String) : (bd19 ps)[2]? = some (bd19O2 ps) := rfl
theorem bd19_3 (ps : String) : (bd19 ps)[3]? = some (bd19O3 ps) := rfl
theorem bd19_4 (ps : String) : (bd19 ps)[4]? = some (bd19O4 ps) := rfl
theorem bd19_5 (ps : String) : (bd19 ps)[5]? = some (bd19O5 ps) := rfl
theorem bd19_6 (ps : String) : (bd19 ps)[6]? = some (bd19O6 ps) := rfl
theorem bd19_7 (ps : String) : (bd19 ps)[7]? = some (bd19O7 ps) := rfl
def bd19D : Nat → Option Tmp
  | 0 => some 101
  | 1 => some 102
  | 2 => some 103
  | 3 => some 104
  | 4 => some 105
  | 5 => some 106
  | 6 => some 107
  | 7 => some 108
  | _ => none
def bd19T (p : Pc) (xb xo i n cap q tc sc : Nat) (ta sa : Option Addr) (Tl Sl : List Int) (v : Int) (mb : Bool) (gp B0 : Nat) (WW : World) : Nat → Value
  | 0 => agv (pcL p)
  | 1 => .slice (some ⟨xb, xo, none⟩) n cap
  | 2 => .int .i64 (i : Int)
  | 3 => .pointer (some ⟨xb, xo + i * 2, none⟩)
  | 4 => .pointer (some ⟨xb, xo + i * 2 + 1, none⟩)
  | 5 => .int .i64 v
  | 6 => .bool mb
  | 7 => .bool (!mb)
  | _ => undef
set_option maxRecDepth 100000 in
set_option maxHeartbeats 4000000 in
theorem bd19_reg {ps : String} {Q : Exit → Act → World → Prop} {a0 : Act} {W0 : World} (sz : a0.tmps.size = 172) (p : Pc) (xb xo i n cap q tc sc : Nat) (ta sa : Option Addr) (Tl Sl : List Int) (v : Int) (mb : Bool) (gp B0 : Nat) (WW : World)
    (e2 : a0.eval (.tmp 2) = .slice (some ⟨xb, xo, none⟩) n cap) (e7 : a0.eval (.tmp 7) = .pointer (some ⟨gp, 0, none⟩)) (e12 : a0.eval (.tmp 12) = .int .i64 (i : Int))
    (l0 : B0 ≤ gp) (hS0 : Below B0 WW W0 ∧ Box W0 gp 23 (pcL p) ∧ Two W0 B0 ta tc sa sc q Tl Sl ∧ True) (hlt : (i : Int) < (n : Int)) (hx : ∀ W, Below B0 WW W → W.cell? ⟨xb, xo + i * 2 + 1, none⟩ = some (.int .i64 v)) (c1 : ∀ W, Calls Try.prog 15 #[agv (pcL p), .int .i64 v] W fun e w' => e = .returned (.bool mb) ∧ Below W.heap.size W w') 
    (hfin : ∀ (T : Nat → Value) w, T 7 = .bool (!mb) → Below B0 WW w ∧ Box w gp 23 (pcL p) ∧ Two w B0 ta tc sa sc q Tl Sl ∧ True → Q .normal ((((((((a0.put (some 101) (T 0)).put (some 102) (T 1)).put (some 103) (T 2)).put (some 104) (T 3)).put (some 105) (T 4)).put (some 106) (T 5)).put (some 107) (T 6)).put (some 108) (T 7)) w) :
    (Code.region 19 (bd19 ps) true).wp Try.prog Q a0 W0 := by
  refine wp_region_dets (by kernel_rfl) 8 rfl bd19D ?_ (by decide) (bd19T p xb xo i n cap q tc sc ta sa Tl Sl v mb gp B0 WW) (fun D w => Below B0 WW w ∧ Box w gp 23 (pcL p) ∧ Two w B0 ta tc sa sc q Tl Sl ∧ True) (fun D _ => ⟨hS0.1.drew, hS0.2.1, hS0.2.2.1.drew, trivial⟩) ?_ (by rfl) (fun w D _ hSw => hfin (bd19T p xb xo i n cap q tc sc ta sa Tl Sl v mb gp B0 WW) w rfl hSw)
  · intro jq t hj ht
    have : ∀ j, j < 8 → (bd19D j).all (· < 172) = true := by decide
    have := this jq hj
    rw [ht] at this
    rw [sz]
    simpa using this
  · intro iq o ho D a w hSw hDi hcl hs hel K hK
    have hin : iq < 8 := (Array.getElem?_eq_some_iff.1 ho).1
    match iq, hin, ho with
    | 0, _, ho =>
      obtain rfl := Option.some.inj (ho.symm.trans (bd19_0 ps))
      have u7 : a.eval (.tmp 7) = .pointer (some ⟨gp, 0, none⟩) := (hel 7 (by decide)).trans e7
      exact op_valW (bd19_0 ps) rfl (v := agv (pcL p)) (run_loadS isS23 rfl u7 hSw.2.1) (hK w (fun D' _ _ => hSw))
    | 1, _, ho =>
      obtain rfl := Option.some.inj (ho.symm.trans (bd19_1 ps))
      have u2 : a.eval (.tmp 2) = .slice (some ⟨xb, xo, none⟩) n cap := (hel 2 (by decide)).trans e2
      exact op_valW (bd19_1 ps) rfl (v := .slice (some ⟨xb, xo, none⟩) n cap) (by unfold bd19O1 execOp; simp only [u2]; first | (go_simp; done) | (go_simp; with_reducible rfl)) (hK w (fun D' _ _ => hSw))
    | 2, _, ho =>
      obtain rfl := Option.some.inj (ho.symm.trans (bd19_2 ps))
      have u12 : a.eval (.tmp 12) = .int .i64 (i : Int) := (hel 12 (by decide)).trans e12
      exact op_valW (bd19_2 ps) rfl (v := .int .i64 (i : Int)) (by unfold bd19O2 execOp; simp only [u12]; first | (go_simp; done) | (go_simp; with_reducible rfl)) (hK w (fun D' _ _ => hSw))
    | 3, _, ho =>
      obtain rfl := Option.some.inj (ho.symm.trans (bd19_3 ps))
      have s1 : a.eval (.tmp 102) = .slice (some ⟨xb, xo, none⟩) n cap := hs 1 102 (by rfl) rfl
      have s2 : a.eval (.tmp 103) = .int .i64 (i : Int) := hs 2 103 (by rfl) rfl
      have hl2 := hlt
      exact op_valW (bd19_3 ps) rfl (v := .pointer (some ⟨xb, xo + i * 2, none⟩)) (by unfold bd19O3 execOp; simp only [s1, s2]; first | (go_simp; done) | (go_simp; with_reducible rfl)) (hK w (fun D' _ _ => hSw))
    | 4, _, ho =>
      obtain rfl := Option.some.inj (ho.symm.trans (bd19_4 ps))
      have s3 : a.eval (.tmp 104) = .pointer (some ⟨xb, xo + i * 2, none⟩) := hs 3 104 (by rfl) rfl
      exact op_valW (bd19_4 ps) rfl (v := .pointer (some ⟨xb, xo + i * 2 + 1, none⟩)) (by unfold bd19O4 execOp; simp only [s3]; first | (go_simp; done) | (go_simp; with_reducible rfl)) (hK w (fun D' _ _ => hSw))
    | 5, _, ho =>
      obtain rfl := Option.some.inj (ho.symm.trans (bd19_5 ps))
      have s4 : a.eval (.tmp 105) = .pointer (some ⟨xb, xo + i * 2 + 1, none⟩) := hs 4 105 (by rfl) rfl
      have hcl := hx w hSw.1
      exact op_valW (bd19_5 ps) rfl (v := .int .i64 v) (by unfold bd19O5 execOp; simp only [s4]; first | (go_simp; done) | (go_simp; with_reducible rfl)) (hK w (fun D' _ _ => hSw))
    | 6, _, ho =>
      obtain rfl := Option.some.inj (ho.symm.trans (bd19_6 ps))
      have s0 : a.eval (.tmp 101) = agv (pcL p) := hs 0 101 (by rfl) rfl
      have s5 : a.eval (.tmp 106) = .int .i64 v := hs 5 106 (by rfl) rfl
      exact op_enterW (bd19_6 ps) rfl (f := 15) (args := #[agv (pcL p), .int .i64 v]) (by rw [run_call rfl enter15]; simp only [List.map_toArray, List.map_cons, List.map_nil, s0, s5]; try rfl) ((c1 w).mono (fun e w' hh => ⟨_, hh.1, hK w' (fun D' _ _ => ⟨hSw.1.trans (hh.2.mono (Nat.le_trans l0 (Nat.le_of_lt hSw.2.1.lt))), hSw.2.1.later hh.2, hSw.2.2.1.later hh.2, trivial⟩)⟩))
    | 7, _, ho =>
      obtain rfl := Option.some.inj (ho.symm.trans (bd19_7 ps))
      have s6 : a.eval (.tmp 107) = .bool mb := hs 6 107 (by rfl) rfl
      exact op_valW (bd19_7 ps) rfl (v := .bool (!mb)) (by unfold bd19O7 execOp; simp only [s6]; first | (go_simp; done) | (go_simp; with_reducible rfl)) (hK w (fun D' _ _ => hSw))
    | iq + 8, hin, _ => exact absurd hin (by omega)
def bd20O0 (ps : String) : Oper := { dst := some 110, op := .load 23 (.tmp 7), type := 23, pos := ps, after := #[], guard := none }
def bd20O1 (ps : String) : Oper := { dst := some 111, op := .move (.tmp 2), type := 40, pos := ps, after := #[], guard := none }
def bd20O2 (ps : String) : Oper := { dst := some 112, op := .move (.tmp 12), type := 3, pos := ps, after := #[], guard := none }
def bd20O3 (ps : String) : Oper := { dst := some 113, op := .indexAddr 40 (.tmp 111) (.tmp 112), type := 0, pos := ps, after := #[{ on := 1, ground := .data }, { on := 2, ground := .data }], guard := none }
def bd20O4 (ps : String) : Oper := { dst := some 114, op := .fieldAddr 43 (.tmp 113) 1, type := 0, pos := ps, after := #[{ on := 3, ground := .data }], guard := none }
def bd20O5 (ps : String) : Oper := { dst := some 115, op := .load 3 (.tmp 114), type := 3, pos := ps, after := #[{ on := 4, ground := .data }], guard := none }
def bd20O6 (ps : String) : Oper := { dst := some 116, op := .call { callee := .value (.func 11), args := #[.tmp 110, .tmp 115], argTypes := #[23, 3] }, type := 25, pos := ps, after := #[{ on := 0, ground := .data }, { on := 5, ground := .data }], guard := none }
def bd20O7 (ps : String) : Oper := { dst := some 109, op := .move (.tmp 116), type := 25, pos := ps, after := #[{ on := 6, ground := .data }], guard := none }
def bd20O8 (ps : String) : Oper := { dst := some 117, op := .extract (.tmp 109) 0, type := 23, pos := ps, after := #[{ on := 7, ground := .data }], guard := none }
def bd20O9 (ps : String) : Oper := { dst := some 118, op := .extract (.tmp 109) 1, type := 24, pos := ps, after := #[{ on := 7, ground := .data }, { on := 11, ground := .gcOnly .lateStores }], guard := none }
def bd20O10 (ps : String) : Oper := { dst := some 15, op := .alloc 23, type := 0, pos := ps, after := #[], guard := none }
def bd20O11 (ps : String) : Oper := { dst := none, op := .store 23 (.tmp 15) (.tmp 117), type := 0, pos := ps, after := #[{ on := 10, ground := .data }, { on := 8, ground := .data }, { on := 6, ground := .chain }, { on := 0, ground := .phase }, { on := 1, ground := .phase }, { on := 2, ground := .phase }, { on := 3, ground := .phase }, { on := 4, ground := .phase }, { on := 5, ground := .phase }, { on := 6, ground := .phase }, { on := 7, ground := .phase }, { on := 8, ground := .phase }, { on := 9, ground := .textOnly .lateStores }, { on := 10, ground := .phase }], guard := none }
def bd20O12 (ps : String) : Oper := { dst := some 16, op := .assign (.tmp 118), type := 24, pos := ps, after := #[{ on := 9, ground := .data }, { on := 11, ground := .chain }, { on := 0, ground := .phase }, { on := 1, ground := .phase }, { on := 2, ground := .phase }, { on := 3, ground := .phase }, { on := 4, ground := .phase }, { on := 5, ground := .phase }, { on := 6, ground := .phase }, { on := 7, ground := .phase }, { on := 8, ground := .phase }, { on := 9, ground := .phase }, { on := 10, ground := .phase }, { on := 11, ground := .phase }], guard := none }
def bd20 (ps : String) : Array Oper := #[bd20O0 ps, bd20O1 ps, bd20O2 ps, bd20O3 ps, bd20O4 ps, bd20O5 ps, bd20O6 ps, bd20O7 ps, bd20O8 ps, bd20O9 ps, bd20O10 ps, bd20O11 ps, bd20O12 ps]
theorem bd20_0 (ps : String) : (bd20 ps)[0]? = some (bd20O0 ps) := rfl
theorem bd20_1 (ps : String) : (bd20 ps)[1]? = some (bd20O1 ps) := rfl
theorem bd20_2 (ps : String) : (bd20 ps)[2]? = some (bd20O2 ps) := rfl
theorem bd20_3 (ps : String) : (bd20 ps)[3]? = some (bd20O3 ps) := rfl
theorem bd20_4 (ps : String) : (bd20 ps)[4]? = some (bd20O4 ps) := rfl
theorem bd20_5 (ps : String) : (bd20 ps)[5]? = some (bd20O5 ps) := rfl
theorem bd20_6 (ps : String) : (bd20 ps)[6]? = some (bd20O6 ps) := rfl
theorem bd20_7 (ps : String) : (bd20 ps)[7]? = some (bd20O7 ps) := rfl
theorem bd20_8 (ps : String) : (bd20 ps)[8]? = some (bd20O8 ps) := rfl
theorem bd20_9 (ps : String) : (bd20 ps)[9]? = some (bd20O9 ps) := rfl
theorem bd20_10 (ps : String) : (bd20 ps)[10]? = some (bd20O10 ps) := rfl
theorem bd20_11 (ps : String) : (bd20 ps)[11]? = some (bd20O11 ps) := rfl
theorem bd20_12 (ps : String) : (bd20 ps)[12]? = some (bd20O12 ps) := rfl
def bd20D : Nat → Option Tmp
  | 0 => some 110
  | 1 => some 111
  | 2 => some 112
  | 3 => some 113
  | 4 => some 114
  | 5 => some 115
  | 6 => some 116
  | 7 => some 109
  | 8 => some 117
  | 9 => some 118
  | 10 => some 15
  | 11 => none
  | 12 => some 16
  | _ => none
def bd20T (p Q1 : Pc) (xb xo i n cap q tc sc : Nat) (ta sa : Option Addr) (Tl Sl : List Int) (v : Int) (gp WS B0 : Nat) (WW : World) (c : Nat → Nat) : Nat → Value
  | 0 => agv (pcL p)
  | 1 => .slice (some ⟨xb, xo, none⟩) n cap
  | 2 => .int .i64 (i : Int)
  | 3 => .pointer (some ⟨xb, xo + i * 2, none⟩)
  | 4 => .pointer (some ⟨xb, xo + i * 2 + 1, none⟩)
  | 5 => .int .i64 v
  | 6 => .tuple #[agv (pcL Q1), .int .i64 0]
  | 7 => .tuple #[agv (pcL Q1), .int .i64 0]
  | 8 => agv (pcL Q1)
  | 9 => .int .i64 0
  | 10 => .pointer (some ⟨c 10, 0, none⟩)
  | 11 => undef
  | 12 => .int .i64 0
  | _ => undef
set_option maxRecDepth 100000 in
set_option maxHeartbeats 4000000 in
theorem bd20T_congr (p Q1 : Pc) (xb xo i n cap q tc sc : Nat) (ta sa : Option Addr) (Tl Sl : List Int) (v : Int) (gp WS B0 : Nat) (WW : World) (c c' : Nat → Nat) : ∀ j, c' j = c j → bd20T p Q1 xb xo i n cap q tc sc ta sa Tl Sl v gp WS B0 WW c' j = bd20T p Q1 xb xo i n cap q tc sc ta sa Tl Sl v gp WS B0 WW c j
  | 0, h => rfl
  | 1, h => rfl
  | 2, h => rfl
  | 3, h => rfl
  | 4, h => rfl
  | 5, h => rfl
  | 6, h => rfl
  | 7, h => rfl
  | 8, h => rfl
  | 9, h => rfl
  | 10, h => by simp only [bd20T]; rw [h]
  | 11, h => rfl
  | 12, h => rfl
  | _ + 13, _ => rfl
theorem bd20_reg {ps : String} {Q : Exit → Act → World → Prop} {a0 : Act} {W0 : World} (sz : a0.tmps.size = 172) (p Q1 : Pc) (xb xo i n cap q tc sc : Nat) (ta sa : Option Addr) (Tl Sl : List Int) (v : Int) (gp WS B0 : Nat) (WW : World)
    (e2 : a0.eval (.tmp 2) = .slice (some ⟨xb, xo, none⟩) n cap) (e7 : a0.eval (.tmp 7) = .pointer (some ⟨gp, 0, none⟩)) (e12 : a0.eval (.tmp 12) = .int .i64 (i : Int))
    (l0 : B0 ≤ gp) (hgp : gp < WS) (hS0 : Below B0 WW W0 ∧ WS ≤ W0.heap.size ∧ Box W0 gp 23 (pcL p) ∧ Two W0 B0 ta tc sa sc q Tl Sl) (hlt : (i : Int) < (n : Int)) (hx : ∀ W, Below B0 WW W → W.cell? ⟨xb, xo + i * 2 + 1, none⟩ = some (.int .i64 v)) (c1 : ∀ W, Calls Try.prog 11 #[agv (pcL p), .int .i64 v] W fun e w' => e = .returned (.tuple #[agv (pcL Q1), .int .i64 0]) ∧ Below W.heap.size W w') 
    (hfin : ∀ (c : Nat → Nat) (T : Nat → Value) w, T 10 = .pointer (some ⟨c 10, 0, none⟩) → T 12 = .int .i64 0 → Below B0 WW w ∧ WS ≤ w.heap.size ∧ Box w gp 23 (pcL p) ∧ Two w B0 ta tc sa sc q Tl Sl ∧ (true = true → WS ≤ (c 10) ∧ Box w (c 10) 23 (pcL (if true = true then Q1 else pcZ))) ∧ True → Q .normal ((((((((((((a0.put (some 110) (T 0)).put (some 111) (T 1)).put (some 112) (T 2)).put (some 113) (T 3)).put (some 114) (T 4)).put (some 115) (T 5)).put (some 116) (T 6)).put (some 109) (T 7)).put (some 117) (T 8)).put (some 118) (T 9)).put (some 15) (T 10)).put (some 16) (T 12)) w) :
    (Code.region 20 (bd20 ps) true).wp Try.prog Q a0 W0 := by
  refine wp_region_detg (by kernel_rfl) 13 rfl bd20D ?_ (by decide) (bd20T p Q1 xb xo i n cap q tc sc ta sa Tl Sl v gp WS B0 WW) (fun c D w => Below B0 WW w ∧ WS ≤ w.heap.size ∧ Box w gp 23 (pcL p) ∧ Two w B0 ta tc sa sc q Tl Sl ∧ (D 10 = true → WS ≤ (c 10) ∧ Box w (c 10) 23 (pcL (if D 11 = true then Q1 else pcZ))) ∧ True) (fun _ => 0) (fun D hD => by
    show Below B0 WW W0.drew ∧ WS ≤ W0.drew.heap.size ∧ Box W0.drew gp 23 (pcL p) ∧ Two W0.drew B0 ta tc sa sc q Tl Sl ∧ (D 10 = true → WS ≤ 0 ∧ Box W0.drew 0 23 (pcL (if D 11 = true then Q1 else pcZ))) ∧ True
    rw [hD 10, hD 11]
    exact ⟨hS0.1.drew, hS0.2.1, hS0.2.2.1, hS0.2.2.2.drew, fun h => (by cases h), trivial⟩) ?_ (by rfl) (fun c w D hD hSw => by
    have hSw' : Below B0 WW w ∧ WS ≤ w.heap.size ∧ Box w gp 23 (pcL p) ∧ Two w B0 ta tc sa sc q Tl Sl ∧ (D 10 = true → WS ≤ (c 10) ∧ Box w (c 10) 23 (pcL (if D 11 = true then Q1 else pcZ))) ∧ True := hSw
    rw [hD 10 (by decide), hD 11 (by decide)] at hSw'
    exact hfin c (bd20T p Q1 xb xo i n cap q tc sc ta sa Tl Sl v gp WS B0 WW c) w rfl rfl hSw')
  · intro jq t hj ht
    have : ∀ j, j < 13 → (bd20D j).all (· < 172) = true := by decide
    have := this jq hj
    rw [ht] at this
    rw [sz]
    simpa using this
  · intro iq o ho c D a w hSw hDi hcl hrd hs hel K hK
    have hin : iq < 13 := (Array.getElem?_eq_some_iff.1 ho).1
    match iq, hin, ho with
    | 0, _, ho =>
      obtain rfl := Option.some.inj (ho.symm.trans (bd20_0 ps))
      have u7 : a.eval (.tmp 7) = .pointer (some ⟨gp, 0, none⟩) := (hel 7 (by decide)).trans e7
      exact op_valW (bd20_0 ps) rfl (v := agv (pcL p)) (run_loadS isS23 rfl u7 hSw.2.2.1) (hK c w (fun _ _ => rfl) (fun D' hi' hj' => by
        have hd10 : D' 10 = D 10 := hj' 10 (by decide)
        have hd11 : D' 11 = D 11 := hj' 11 (by decide)
        show Below B0 WW w ∧ WS ≤ w.heap.size ∧ Box w gp 23 (pcL p) ∧ Two w B0 ta tc sa sc q Tl Sl ∧ (D' 10 = true → WS ≤ (c 10) ∧ Box w (c 10) 23 (pcL (if D' 11 = true then Q1 else pcZ))) ∧ True
        rw [hd10, hd11]
        exact hSw))
    | 1, _, ho =>
      obtain rfl := Option.some.inj (ho.symm.trans (bd20_1 ps))
      have u2 : a.eval (.tmp 2) = .slice (some ⟨xb, xo, none⟩) n cap := (hel 2 (by decide)).trans e2
      exact op_valW (bd20_1 ps) rfl (v := .slice (some ⟨xb, xo, none⟩) n cap) (by unfold bd20O1 execOp; simp only [u2]; first | (go_simp; done) | (go_simp; with_reducible rfl)) (hK c w (fun _ _ => rfl) (fun D' hi' hj' => by
        have hd10 : D' 10 = D 10 := hj' 10 (by decide)
        have hd11 : D' 11 = D 11 := hj' 11 (by decide)
        show Below B0 WW w ∧ WS ≤ w.heap.size ∧ Box w gp 23 (pcL p) ∧ Two w B0 ta tc sa sc q Tl Sl ∧ (D' 10 = true → WS ≤ (c 10) ∧ Box w (c 10) 23 (pcL (if D' 11 = true then Q1 else pcZ))) ∧ True
        rw [hd10, hd11]
        exact hSw))
    | 2, _, ho =>
      obtain rfl := Option.some.inj (ho.symm.trans (bd20_2 ps))
      have u12 : a.eval (.tmp 12) = .int .i64 (i : Int) := (hel 12 (by decide)).trans e12
      exact op_valW (bd20_2 ps) rfl (v := .int .i64 (i : Int)) (by unfold bd20O2 execOp; simp only [u12]; first | (go_simp; done) | (go_simp; with_reducible rfl)) (hK c w (fun _ _ => rfl) (fun D' hi' hj' => by
        have hd10 : D' 10 = D 10 := hj' 10 (by decide)
        have hd11 : D' 11 = D 11 := hj' 11 (by decide)
        show Below B0 WW w ∧ WS ≤ w.heap.size ∧ Box w gp 23 (pcL p) ∧ Two w B0 ta tc sa sc q Tl Sl ∧ (D' 10 = true → WS ≤ (c 10) ∧ Box w (c 10) 23 (pcL (if D' 11 = true then Q1 else pcZ))) ∧ True
        rw [hd10, hd11]
        exact hSw))
    | 3, _, ho =>
      obtain rfl := Option.some.inj (ho.symm.trans (bd20_3 ps))
      have s1 : a.eval (.tmp 111) = .slice (some ⟨xb, xo, none⟩) n cap := hs 1 111 (by rfl) rfl
      have s2 : a.eval (.tmp 112) = .int .i64 (i : Int) := hs 2 112 (by rfl) rfl
      have hl2 := hlt
      exact op_valW (bd20_3 ps) rfl (v := .pointer (some ⟨xb, xo + i * 2, none⟩)) (by unfold bd20O3 execOp; simp only [s1, s2]; first | (go_simp; done) | (go_simp; with_reducible rfl)) (hK c w (fun _ _ => rfl) (fun D' hi' hj' => by
        have hd10 : D' 10 = D 10 := hj' 10 (by decide)
        have hd11 : D' 11 = D 11 := hj' 11 (by decide)
        show Below B0 WW w ∧ WS ≤ w.heap.size ∧ Box w gp 23 (pcL p) ∧ Two w B0 ta tc sa sc q Tl Sl ∧ (D' 10 = true → WS ≤ (c 10) ∧ Box w (c 10) 23 (pcL (if D' 11 = true then Q1 else pcZ))) ∧ True
        rw [hd10, hd11]
        exact hSw))
    | 4, _, ho =>
      obtain rfl := Option.some.inj (ho.symm.trans (bd20_4 ps))
      have s3 : a.eval (.tmp 113) = .pointer (some ⟨xb, xo + i * 2, none⟩) := hs 3 113 (by rfl) rfl
      exact op_valW (bd20_4 ps) rfl (v := .pointer (some ⟨xb, xo + i * 2 + 1, none⟩)) (by unfold bd20O4 execOp; simp only [s3]; first | (go_simp; done) | (go_simp; with_reducible rfl)) (hK c w (fun _ _ => rfl) (fun D' hi' hj' => by
        have hd10 : D' 10 = D 10 := hj' 10 (by decide)
        have hd11 : D' 11 = D 11 := hj' 11 (by decide)
        show Below B0 WW w ∧ WS ≤ w.heap.size ∧ Box w gp 23 (pcL p) ∧ Two w B0 ta tc sa sc q Tl Sl ∧ (D' 10 = true → WS ≤ (c 10) ∧ Box w (c 10) 23 (pcL (if D' 11 = true then Q1 else pcZ))) ∧ True
        rw [hd10, hd11]
        exact hSw))
    | 5, _, ho =>
      obtain rfl := Option.some.inj (ho.symm.trans (bd20_5 ps))
      have s4 : a.eval (.tmp 114) = .pointer (some ⟨xb, xo + i * 2 + 1, none⟩) := hs 4 114 (by rfl) rfl
      have hcl := hx w hSw.1
      exact op_valW (bd20_5 ps) rfl (v := .int .i64 v) (by unfold bd20O5 execOp; simp only [s4]; first | (go_simp; done) | (go_simp; with_reducible rfl)) (hK c w (fun _ _ => rfl) (fun D' hi' hj' => by
        have hd10 : D' 10 = D 10 := hj' 10 (by decide)
        have hd11 : D' 11 = D 11 := hj' 11 (by decide)
        show Below B0 WW w ∧ WS ≤ w.heap.size ∧ Box w gp 23 (pcL p) ∧ Two w B0 ta tc sa sc q Tl Sl ∧ (D' 10 = true → WS ≤ (c 10) ∧ Box w (c 10) 23 (pcL (if D' 11 = true then Q1 else pcZ))) ∧ True
        rw [hd10, hd11]
        exact hSw))
    | 6, _, ho =>
      obtain rfl := Option.some.inj (ho.symm.trans (bd20_6 ps))
      have s0 : a.eval (.tmp 110) = agv (pcL p) := hs 0 110 (by rfl) rfl
      have s5 : a.eval (.tmp 115) = .int .i64 v := hs 5 115 (by rfl) rfl
      exact op_enterW (bd20_6 ps) rfl (f := 11) (args := #[agv (pcL p), .int .i64 v]) (by rw [run_call rfl enter11]; simp only [List.map_toArray, List.map_cons, List.map_nil, s0, s5]; try rfl) ((c1 w).mono (fun e w' hh => ⟨_, hh.1, hK c w' (fun _ _ => rfl) (fun D' hi' hj' => by
        have hd10 : D' 10 = D 10 := hj' 10 (by decide)
        have hd11 : D' 11 = D 11 := hj' 11 (by decide)
        show Below B0 WW w' ∧ WS ≤ w'.heap.size ∧ Box w' gp 23 (pcL p) ∧ Two w' B0 ta tc sa sc q Tl Sl ∧ (D' 10 = true → WS ≤ (c 10) ∧ Box w' (c 10) 23 (pcL (if D' 11 = true then Q1 else pcZ))) ∧ True
        rw [hd10, hd11]
        exact ⟨hSw.1.trans (hh.2.mono (Nat.le_trans l0 (Nat.le_of_lt hSw.2.2.1.lt))), Nat.le_trans hSw.2.1 hh.2.size, hSw.2.2.1.later hh.2, hSw.2.2.2.1.later hh.2, fun h => ⟨(hSw.2.2.2.2.1 h).1, (hSw.2.2.2.2.1 h).2.later hh.2⟩, trivial⟩)⟩))
    | 7, _, ho =>
      obtain rfl := Option.some.inj (ho.symm.trans (bd20_7 ps))
      have s6 : a.eval (.tmp 116) = .tuple #[agv (pcL Q1), .int .i64 0] := hs 6 116 (by rfl) rfl
      exact op_valW (bd20_7 ps) rfl (v := .tuple #[agv (pcL Q1), .int .i64 0]) (by unfold bd20O7 execOp; simp only [s6]; first | (go_simp; done) | (go_simp; with_reducible rfl)) (hK c w (fun _ _ => rfl) (fun D' hi' hj' => by
        have hd10 : D' 10 = D 10 := hj' 10 (by decide)
        have hd11 : D' 11 = D 11 := hj' 11 (by decide)
        show Below B0 WW w ∧ WS ≤ w.heap.size ∧ Box w gp 23 (pcL p) ∧ Two w B0 ta tc sa sc q Tl Sl ∧ (D' 10 = true → WS ≤ (c 10) ∧ Box w (c 10) 23 (pcL (if D' 11 = true then Q1 else pcZ))) ∧ True
        rw [hd10, hd11]
        exact hSw))
    | 8, _, ho =>
      obtain rfl := Option.some.inj (ho.symm.trans (bd20_8 ps))
      have s7 : a.eval (.tmp 109) = .tuple #[agv (pcL Q1), .int .i64 0] := hs 7 109 (by rfl) rfl
      exact op_valW (bd20_8 ps) rfl (v := agv (pcL Q1)) (by unfold bd20O8 execOp; simp only [s7]; first | (go_simp; done) | (go_simp; with_reducible rfl)) (hK c w (fun _ _ => rfl) (fun D' hi' hj' => by
        have hd10 : D' 10 = D 10 := hj' 10 (by decide)
        have hd11 : D' 11 = D 11 := hj' 11 (by decide)
        show Below B0 WW w ∧ WS ≤ w.heap.size ∧ Box w gp 23 (pcL p) ∧ Two w B0 ta tc sa sc q Tl Sl ∧ (D' 10 = true → WS ≤ (c 10) ∧ Box w (c 10) 23 (pcL (if D' 11 = true then Q1 else pcZ))) ∧ True
        rw [hd10, hd11]
        exact hSw))
    | 9, _, ho =>
      obtain rfl := Option.some.inj (ho.symm.trans (bd20_9 ps))
      have s7 : a.eval (.tmp 109) = .tuple #[agv (pcL Q1), .int .i64 0] := hs 7 109 (by rfl) rfl
      exact op_valW (bd20_9 ps) rfl (v := .int .i64 0) (by unfold bd20O9 execOp; simp only [s7]; first | (go_simp; done) | (go_simp; with_reducible rfl)) (hK c w (fun _ _ => rfl) (fun D' hi' hj' => by
        have hd10 : D' 10 = D 10 := hj' 10 (by decide)
        have hd11 : D' 11 = D 11 := hj' 11 (by decide)
        show Below B0 WW w ∧ WS ≤ w.heap.size ∧ Box w gp 23 (pcL p) ∧ Two w B0 ta tc sa sc q Tl Sl ∧ (D' 10 = true → WS ≤ (c 10) ∧ Box w (c 10) 23 (pcL (if D' 11 = true then Q1 else pcZ))) ∧ True
        rw [hd10, hd11]
        exact hSw))
    | 10, _, ho =>
      obtain rfl := Option.some.inj (ho.symm.trans (bd20_10 ps))
      refine op_allocW (bd20_10 ps) rfl rfl rfl zero23 (hK (fun k => if k = 10 then w.heap.size else c k) _ (fun j hj => ?_) (fun D' hi' hj' => ?_))
      · have hji : j ≠ 10 := by rintro rfl; rw [hDi] at hj; cases hj
        exact bd20T_congr _ _ _ _ _ _ _ _ _ _ _ _ _ _ _ _ _ _ _ _ _ j (if_neg hji)
      · have hd10 : D' 10 = true := hi'
        have hd11 : D' 11 = D 11 := hj' 11 (by decide)
        show Below B0 WW (w.alloc (.cells (pcL pcZ).toArray 23)) ∧ WS ≤ (w.alloc (.cells (pcL pcZ).toArray 23)).heap.size ∧ Box (w.alloc (.cells (pcL pcZ).toArray 23)) gp 23 (pcL p) ∧ Two (w.alloc (.cells (pcL pcZ).toArray 23)) B0 ta tc sa sc q Tl Sl ∧ (D' 10 = true → WS ≤ w.heap.size ∧ Box (w.alloc (.cells (pcL pcZ).toArray 23)) w.heap.size 23 (pcL (if D' 11 = true then Q1 else pcZ))) ∧ True
        rw [hd10, hd11]
        exact ⟨hSw.1.alloc (Nat.le_trans l0 (Nat.le_of_lt hSw.2.2.1.lt)) _, Nat.le_trans hSw.2.1 (by simp), hSw.2.2.1.alloc _, hSw.2.2.2.1.later (below_new w _), fun _ => ⟨hSw.2.1, by rw [(show D 11 = false from (by cases h : D 11 with | false => rfl | true => exact absurd (hcl 11 _ 10 (bd20_11 ps) (by rfl) h) (by rw [hDi]; simp))), if_neg (by simp)]; exact Box.new w 23 (pcL pcZ)⟩, trivial⟩
    | 11, _, ho =>
      obtain rfl := Option.some.inj (ho.symm.trans (bd20_11 ps))
      have s10 : a.eval (.tmp 15) = .pointer (some ⟨c 10, 0, none⟩) := hs 10 15 (by rfl) rfl
      have s8 : a.eval (.tmp 117) = agv (pcL Q1) := hs 8 117 (by rfl) rfl
      have hd10 : D 10 = true := hrd 10 (by rfl)
      have hB10 := hSw.2.2.2.2.1 hd10
      have hst := (stoR (pcL Q1) hB10.2)
      exact op_stoW (bd20_11 ps) rfl rfl (w' := (w.setRow (c 10) (pcL Q1).toArray)) (run_storeS rfl s10 s8 hB10.2 rfl isS23 (pcL_one _)) (hK c _ (fun _ _ => rfl) (fun D' hi' hj' => by
        have hd10 : D' 10 = D 10 := hj' 10 (by decide)
        have hd11 : D' 11 = true := hi'
        show Below B0 WW (w.setRow (c 10) (pcL Q1).toArray) ∧ WS ≤ (w.setRow (c 10) (pcL Q1).toArray).heap.size ∧ Box (w.setRow (c 10) (pcL Q1).toArray) gp 23 (pcL p) ∧ Two (w.setRow (c 10) (pcL Q1).toArray) B0 ta tc sa sc q Tl Sl ∧ (D' 10 = true → WS ≤ (c 10) ∧ Box (w.setRow (c 10) (pcL Q1).toArray) (c 10) 23 (pcL (if D' 11 = true then Q1 else pcZ))) ∧ True
        rw [hd10, hd11]
        exact ⟨hst.1.below _ _ (by omega) hSw.1, (by rw [hst.1.size]; exact hSw.2.1), hSw.2.2.1.sto hst.1 (by omega), hSw.2.2.2.1.sto hB10.2 hst.1, fun _ => ⟨hB10.1, by rw [if_pos rfl]; exact hst.2⟩, trivial⟩))
    | 12, _, ho =>
      obtain rfl := Option.some.inj (ho.symm.trans (bd20_12 ps))
      have s9 : a.eval (.tmp 118) = .int .i64 0 := hs 9 118 (by rfl) rfl
      exact op_valW (bd20_12 ps) rfl (v := .int .i64 0) (by unfold bd20O12 execOp; simp only [s9]; first | (go_simp; done) | (go_simp; with_reducible rfl)) (hK c w (fun _ _ => rfl) (fun D' hi' hj' => by
        have hd10 : D' 10 = D 10 := hj' 10 (by decide)
        have hd11 : D' 11 = D 11 := hj' 11 (by decide)
        show Below B0 WW w ∧ WS ≤ w.heap.size ∧ Box w gp 23 (pcL p) ∧ Two w B0 ta tc sa sc q Tl Sl ∧ (D' 10 = true → WS ≤ (c 10) ∧ Box w (c 10) 23 (pcL (if D' 11 = true then Q1 else pcZ))) ∧ True
        rw [hd10, hd11]
        exact hSw))
    | iq + 13, hin, _ => exact absurd hin (by omega)
end Go.Proofs.Ytifgdpokmgibgaa
