/- AckPlain: its region that draws its order. -/
import Derived.Test.YtdodagpkkjpdiaaADec
namespace Go.Proofs.Ytdodagpkkjpdiaa
open Go.ChangeShapes Go.WideShapes Go.ChangeAt Go.RowKit Go.Shelf
set_option linter.unusedVariables false
set_option linter.unusedSimpArgs false
attribute [local go_sem] Oper.semAt_some

def pl5O0 (ps : String) : Oper := { dst := some 14, op := .load 24 (.tmp 5), type := 24, pos := ps, after := #[], guard := none }
def pl5O1 (ps : String) : Oper := { dst := some 15, op := .load 28 (.tmp 3), type := 28, pos := ps, after := #[], guard := none }
def pl5O2 (ps : String) : Oper := { dst := some 16, op := .call { callee := .value (.func 8), args := #[.tmp 14, .tmp 15], argTypes := #[24, 28] }, type := 31, pos := ps, after := #[{ on := 0, ground := .data }, { on := 1, ground := .data }], guard := none }
def pl5O3 (ps : String) : Oper := { dst := some 17, op := .load 24 (.tmp 2), type := 24, pos := ps, after := #[], guard := none }
def pl5O4 (ps : String) : Oper := { dst := some 18, op := .load 28 (.tmp 6), type := 28, pos := ps, after := #[], guard := none }
def pl5O5 (ps : String) : Oper := { dst := some 19, op := .call { callee := .value (.func 8), args := #[.tmp 17, .tmp 18], argTypes := #[24, 28] }, type := 31, pos := ps, after := #[{ on := 3, ground := .data }, { on := 4, ground := .data }, { on := 2, ground := .chain }], guard := none }
def pl5O6 (ps : String) : Oper := { dst := some 20, op := .load 24 (.tmp 2), type := 24, pos := ps, after := #[], guard := none }
def pl5O7 (ps : String) : Oper := { dst := some 21, op := .load 28 (.tmp 3), type := 28, pos := ps, after := #[], guard := none }
def pl5O8 (ps : String) : Oper := { dst := some 22, op := .call { callee := .value (.func 8), args := #[.tmp 20, .tmp 21], argTypes := #[24, 28] }, type := 31, pos := ps, after := #[{ on := 6, ground := .data }, { on := 7, ground := .data }, { on := 5, ground := .chain }], guard := none }
def pl5O9 (ps : String) : Oper := { dst := some 7, op := .alloc 31, type := 0, pos := ps, after := #[], guard := none }
def pl5O10 (ps : String) : Oper := { dst := some 8, op := .alloc 31, type := 0, pos := ps, after := #[], guard := none }
def pl5O11 (ps : String) : Oper := { dst := some 9, op := .alloc 31, type := 0, pos := ps, after := #[], guard := none }
def pl5O12 (ps : String) : Oper := { dst := none, op := .store 31 (.tmp 7) (.tmp 16), type := 0, pos := ps, after := #[{ on := 9, ground := .data }, { on := 2, ground := .data }, { on := 8, ground := .chain }, { on := 0, ground := .phase }, { on := 1, ground := .phase }, { on := 2, ground := .phase }, { on := 3, ground := .textOnly .lateStores }, { on := 4, ground := .textOnly .lateStores }, { on := 5, ground := .textOnly .lateStoresUnsure }, { on := 6, ground := .textOnly .lateStores }, { on := 7, ground := .textOnly .lateStores }, { on := 8, ground := .textOnly .lateStoresUnsure }, { on := 9, ground := .phase }, { on := 10, ground := .phase }, { on := 11, ground := .phase }], guard := none }
def pl5O13 (ps : String) : Oper := { dst := none, op := .store 31 (.tmp 8) (.tmp 19), type := 0, pos := ps, after := #[{ on := 10, ground := .data }, { on := 5, ground := .data }, { on := 12, ground := .chain }, { on := 0, ground := .phase }, { on := 1, ground := .phase }, { on := 2, ground := .phase }, { on := 3, ground := .phase }, { on := 4, ground := .phase }, { on := 5, ground := .phase }, { on := 6, ground := .textOnly .lateStores }, { on := 7, ground := .textOnly .lateStores }, { on := 8, ground := .textOnly .lateStoresUnsure }, { on := 9, ground := .phase }, { on := 10, ground := .phase }, { on := 11, ground := .phase }, { on := 12, ground := .phase }], guard := none }
def pl5O14 (ps : String) : Oper := { dst := none, op := .store 31 (.tmp 9) (.tmp 22), type := 0, pos := ps, after := #[{ on := 11, ground := .data }, { on := 8, ground := .data }, { on := 13, ground := .chain }, { on := 0, ground := .phase }, { on := 1, ground := .phase }, { on := 2, ground := .phase }, { on := 3, ground := .phase }, { on := 4, ground := .phase }, { on := 5, ground := .phase }, { on := 6, ground := .phase }, { on := 7, ground := .phase }, { on := 8, ground := .phase }, { on := 9, ground := .phase }, { on := 10, ground := .phase }, { on := 11, ground := .phase }, { on := 12, ground := .phase }, { on := 13, ground := .phase }], guard := none }
def pl5 (ps : String) : Array Oper := #[pl5O0 ps, pl5O1 ps, pl5O2 ps, pl5O3 ps, pl5O4 ps, pl5O5 ps, pl5O6 ps, pl5O7 ps, pl5O8 ps, pl5O9 ps, pl5O10 ps, pl5O11 ps, pl5O12 ps, pl5O13 ps, pl5O14 ps]
theorem pl5_0 (ps : String) : (pl5 ps)[0]? = some (pl5O0 ps) := rfl
theorem pl5_1 (ps : String) : (pl5 ps)[1]? = some (pl5O1 ps) := rfl
theorem pl5_2 (ps : String) : (pl5 ps)[2]? = some (pl5O2 ps) := rfl
theorem pl5_3 (ps : String) : (pl5 ps)[3]? = some (pl5O3 ps) := rfl
theorem pl5_4 (ps : String) : (pl5 ps)[4]? = some (pl5O4 ps) := rfl
theorem pl5_5 (ps : String) : (pl5 ps)[5]? = some (pl5O5 ps) := rfl
theorem pl5_6 (ps : String) : (pl5 ps)[6]? = some (pl5O6 ps) := rfl
theorem pl5_7 (ps : String) : (pl5 ps)[7]? = some (pl5O7 ps) := rfl
theorem pl5_8 (ps : String) : (pl5 ps)[8]? = some (pl5O8 ps) := rfl
theorem pl5_9 (ps : String) : (pl5 ps)[9]? = some (pl5O9 ps) := rfl
theorem pl5_10 (ps : String) : (pl5 ps)[10]? = some (pl5O10 ps) := rfl
theorem pl5_11 (ps : String) : (pl5 ps)[11]? = some (pl5O11 ps) := rfl
theorem pl5_12 (ps : String) : (pl5 ps)[12]? = some (pl5O12 ps) := rfl
theorem pl5_13 (ps : String) : (pl5 ps)[13]? = some (pl5O13 ps) := rfl
theorem pl5_14 (ps : String) : (pl5 ps)[14]? = some (pl5O14 ps) := rfl
def pl5D : Nat → Option Tmp
  | 0 => some 14
  | 1 => some 15
  | 2 => some 16
  | 3 => some 17
  | 4 => some 18
  | 5 => some 19
  | 6 => some 20
  | 7 => some 21
  | 8 => some 22
  | 9 => some 7
  | 10 => some 8
  | 11 => some 9
  | 12 => none
  | 13 => none
  | 14 => none
  | _ => none
def pl5T (x0 x1 : Ak.As) (s t : Seg) (k kt : Hs) (H1 H2 H3 : Ak.Hr) (g bb p q WS B0 : Nat) (WW : World) (c : Nat → Nat) : Nat → Value
  | 0 => agv (asL x1)
  | 1 => agv (sgL s k)
  | 2 => agv (hcL (hcOf H1 (decA (c 202) (c 302)) (c 102)))
  | 3 => agv (asL x0)
  | 4 => agv (sgL t kt)
  | 5 => agv (hcL (hcOf H2 (decA (c 205) (c 305)) (c 105)))
  | 6 => agv (asL x0)
  | 7 => agv (sgL s k)
  | 8 => agv (hcL (hcOf H3 (decA (c 208) (c 308)) (c 108)))
  | 9 => .pointer (some ⟨c 9, 0, none⟩)
  | 10 => .pointer (some ⟨c 10, 0, none⟩)
  | 11 => .pointer (some ⟨c 11, 0, none⟩)
  | 12 => undef
  | 13 => undef
  | 14 => undef
  | _ => undef
set_option maxRecDepth 100000 in
set_option maxHeartbeats 4000000 in
theorem pl5T_congr (x0 x1 : Ak.As) (s t : Seg) (k kt : Hs) (H1 H2 H3 : Ak.Hr) (g bb p q WS B0 : Nat) (WW : World) (c c' : Nat → Nat) : ∀ j, (j < 15 → c' j = c j) → (j < 15 → c' (100 + j) = c (100 + j)) → (j < 15 → c' (200 + j) = c (200 + j)) → (j < 15 → c' (300 + j) = c (300 + j)) → pl5T x0 x1 s t k kt H1 H2 H3 g bb p q WS B0 WW c' j = pl5T x0 x1 s t k kt H1 H2 H3 g bb p q WS B0 WW c j
  | 0, _, _, _, _ => rfl
  | 1, _, _, _, _ => rfl
  | 2, _, h1, h2, h3 => by
    have e1 : c' 102 = c 102 := h1 (by omega)
    have e2 : c' 202 = c 202 := h2 (by omega)
    have e3 : c' 302 = c 302 := h3 (by omega)
    simp only [pl5T]; rw [e1, e2, e3]
  | 3, _, _, _, _ => rfl
  | 4, _, _, _, _ => rfl
  | 5, _, h1, h2, h3 => by
    have e1 : c' 105 = c 105 := h1 (by omega)
    have e2 : c' 205 = c 205 := h2 (by omega)
    have e3 : c' 305 = c 305 := h3 (by omega)
    simp only [pl5T]; rw [e1, e2, e3]
  | 6, _, _, _, _ => rfl
  | 7, _, _, _, _ => rfl
  | 8, _, h1, h2, h3 => by
    have e1 : c' 108 = c 108 := h1 (by omega)
    have e2 : c' 208 = c 208 := h2 (by omega)
    have e3 : c' 308 = c 308 := h3 (by omega)
    simp only [pl5T]; rw [e1, e2, e3]
  | 9, h, _, _, _ => by simp only [pl5T]; rw [h (by omega)]
  | 10, h, _, _, _ => by simp only [pl5T]; rw [h (by omega)]
  | 11, h, _, _, _ => by simp only [pl5T]; rw [h (by omega)]
  | 12, _, _, _, _ => rfl
  | 13, _, _, _, _ => rfl
  | 14, _, _, _, _ => rfl
  | _ + 15, _, _, _, _ => rfl
theorem pl5_reg {ps : String} {Q : Exit → Act → World → Prop} {a0 : Act} {W0 : World} (sz : a0.tmps.size = 47) (x0 x1 : Ak.As) (s t : Seg) (k kt : Hs) (H1 H2 H3 : Ak.Hr) (g bb p q WS B0 : Nat) (WW : World)
    (e5 : a0.eval (.tmp 5) = .pointer (some ⟨p, 0, none⟩)) (e3 : a0.eval (.tmp 3) = .pointer (some ⟨bb, 0, none⟩)) (e2 : a0.eval (.tmp 2) = .pointer (some ⟨g, 0, none⟩)) (e6 : a0.eval (.tmp 6) = .pointer (some ⟨q, 0, none⟩))
    (l0 : B0 ≤ WS) (lg : g < WS) (lb : bb < WS) (lp : p < WS) (lq : q < WS) (c2 : ∀ W, Below B0 WW W → Calls Try.prog 8 #[agv (asL x1), agv (sgL s k)] W (WgE W H1)) (c5 : ∀ W, Below B0 WW W → Calls Try.prog 8 #[agv (asL x0), agv (sgL t kt)] W (WgE W H2)) (c8 : ∀ W, Below B0 WW W → Calls Try.prog 8 #[agv (asL x0), agv (sgL s k)] W (WgE W H3)) (hS0 : Below B0 WW W0 ∧ WS ≤ W0.heap.size ∧ Box W0 g 24 (asL x0) ∧ Box W0 bb 28 (sgL s k) ∧ Box W0 p 24 (asL x1) ∧ Box W0 q 28 (sgL t kt))
    (hfin : ∀ (c : Nat → Nat) (T : Nat → Value) w, T 9 = .pointer (some ⟨c 9, 0, none⟩) → T 10 = .pointer (some ⟨c 10, 0, none⟩) → T 11 = .pointer (some ⟨c 11, 0, none⟩) → Below B0 WW w ∧ WS ≤ w.heap.size ∧ Box w g 24 (asL x0) ∧ Box w bb 28 (sgL s k) ∧ Box w p 24 (asL x1) ∧ Box w q 28 (sgL t kt) ∧ (true = true → RowT w 0 (decA (c 202) (c 302)) H1.sp.length (c 102) H1.sp) ∧ (true = true → RowT w 0 (decA (c 205) (c 305)) H2.sp.length (c 105) H2.sp) ∧ (true = true → RowT w 0 (decA (c 208) (c 308)) H3.sp.length (c 108) H3.sp) ∧ (true = true → WS ≤ (c 9) ∧ Box w (c 9) 31 (hcL (if true = true then (hcOf H1 (decA (c 202) (c 302)) (c 102)) else hcZ))) ∧ (true = true → WS ≤ (c 10) ∧ Box w (c 10) 31 (hcL (if true = true then (hcOf H2 (decA (c 205) (c 305)) (c 105)) else hcZ))) ∧ (true = true → WS ≤ (c 11) ∧ Box w (c 11) 31 (hcL (if true = true then (hcOf H3 (decA (c 208) (c 308)) (c 108)) else hcZ))) ∧ (true = true → true = true → (c 9) ≠ (c 10)) ∧ (true = true → true = true → (c 9) ≠ (c 11)) ∧ (true = true → true = true → (c 10) ≠ (c 11)) ∧ True → Q .normal ((((((((((((a0.put (some 14) (T 0)).put (some 15) (T 1)).put (some 16) (T 2)).put (some 17) (T 3)).put (some 18) (T 4)).put (some 19) (T 5)).put (some 20) (T 6)).put (some 21) (T 7)).put (some 22) (T 8)).put (some 7) (T 9)).put (some 8) (T 10)).put (some 9) (T 11)) w) :
    (Code.region 5 (pl5 ps) true).wp Try.prog Q a0 W0 := by
  refine wp_region_detg (by kernel_rfl) 15 rfl pl5D ?_ (by decide) (pl5T x0 x1 s t k kt H1 H2 H3 g bb p q WS B0 WW) (fun c D w => Below B0 WW w ∧ WS ≤ w.heap.size ∧ Box w g 24 (asL x0) ∧ Box w bb 28 (sgL s k) ∧ Box w p 24 (asL x1) ∧ Box w q 28 (sgL t kt) ∧ (D 2 = true → RowT w 0 (decA (c 202) (c 302)) H1.sp.length (c 102) H1.sp) ∧ (D 5 = true → RowT w 0 (decA (c 205) (c 305)) H2.sp.length (c 105) H2.sp) ∧ (D 8 = true → RowT w 0 (decA (c 208) (c 308)) H3.sp.length (c 108) H3.sp) ∧ (D 9 = true → WS ≤ (c 9) ∧ Box w (c 9) 31 (hcL (if D 12 = true then (hcOf H1 (decA (c 202) (c 302)) (c 102)) else hcZ))) ∧ (D 10 = true → WS ≤ (c 10) ∧ Box w (c 10) 31 (hcL (if D 13 = true then (hcOf H2 (decA (c 205) (c 305)) (c 105)) else hcZ))) ∧ (D 11 = true → WS ≤ (c 11) ∧ Box w (c 11) 31 (hcL (if D 14 = true then (hcOf H3 (decA (c 208) (c 308)) (c 108)) else hcZ))) ∧ (D 9 = true → D 10 = true → (c 9) ≠ (c 10)) ∧ (D 9 = true → D 11 = true → (c 9) ≠ (c 11)) ∧ (D 10 = true → D 11 = true → (c 10) ≠ (c 11)) ∧ True) (fun _ => 0) (fun D hD => by
    show Below B0 WW W0.drew ∧ WS ≤ W0.drew.heap.size ∧ Box W0.drew g 24 (asL x0) ∧ Box W0.drew bb 28 (sgL s k) ∧ Box W0.drew p 24 (asL x1) ∧ Box W0.drew q 28 (sgL t kt) ∧ (D 2 = true → RowT W0.drew 0 (decA 0 0) H1.sp.length 0 H1.sp) ∧ (D 5 = true → RowT W0.drew 0 (decA 0 0) H2.sp.length 0 H2.sp) ∧ (D 8 = true → RowT W0.drew 0 (decA 0 0) H3.sp.length 0 H3.sp) ∧ (D 9 = true → WS ≤ 0 ∧ Box W0.drew 0 31 (hcL (if D 12 = true then (hcOf H1 (decA 0 0) 0) else hcZ))) ∧ (D 10 = true → WS ≤ 0 ∧ Box W0.drew 0 31 (hcL (if D 13 = true then (hcOf H2 (decA 0 0) 0) else hcZ))) ∧ (D 11 = true → WS ≤ 0 ∧ Box W0.drew 0 31 (hcL (if D 14 = true then (hcOf H3 (decA 0 0) 0) else hcZ))) ∧ (D 9 = true → D 10 = true → 0 ≠ 0) ∧ (D 9 = true → D 11 = true → 0 ≠ 0) ∧ (D 10 = true → D 11 = true → 0 ≠ 0) ∧ True
    rw [hD 2, hD 5, hD 8, hD 9, hD 10, hD 11, hD 12, hD 13, hD 14]
    exact ⟨hS0.1.drew, hS0.2.1, hS0.2.2.1, hS0.2.2.2.1, hS0.2.2.2.2.1, hS0.2.2.2.2.2, fun h => (by cases h), fun h => (by cases h), fun h => (by cases h), fun h => (by cases h), fun h => (by cases h), fun h => (by cases h), fun h => (by cases h), fun h => (by cases h), fun h => (by cases h), trivial⟩) ?_ (by rfl) (fun c w D hD hSw => by
    have hSw' : Below B0 WW w ∧ WS ≤ w.heap.size ∧ Box w g 24 (asL x0) ∧ Box w bb 28 (sgL s k) ∧ Box w p 24 (asL x1) ∧ Box w q 28 (sgL t kt) ∧ (D 2 = true → RowT w 0 (decA (c 202) (c 302)) H1.sp.length (c 102) H1.sp) ∧ (D 5 = true → RowT w 0 (decA (c 205) (c 305)) H2.sp.length (c 105) H2.sp) ∧ (D 8 = true → RowT w 0 (decA (c 208) (c 308)) H3.sp.length (c 108) H3.sp) ∧ (D 9 = true → WS ≤ (c 9) ∧ Box w (c 9) 31 (hcL (if D 12 = true then (hcOf H1 (decA (c 202) (c 302)) (c 102)) else hcZ))) ∧ (D 10 = true → WS ≤ (c 10) ∧ Box w (c 10) 31 (hcL (if D 13 = true then (hcOf H2 (decA (c 205) (c 305)) (c 105)) else hcZ))) ∧ (D 11 = true → WS ≤ (c 11) ∧ Box w (c 11) 31 (hcL (if D 14 = true then (hcOf H3 (decA (c 208) (c 308)) (c 108)) else hcZ))) ∧ (D 9 = true → D 10 = true → (c 9) ≠ (c 10)) ∧ (D 9 = true → D 11 = true → (c 9) ≠ (c 11)) ∧ (D 10 = true → D 11 = true → (c 10) ≠ (c 11)) ∧ True := hSw
    rw [hD 2 (by decide), hD 5 (by decide), hD 8 (by decide), hD 9 (by decide), hD 10 (by decide), hD 11 (by decide), hD 12 (by decide), hD 13 (by decide), hD 14 (by decide)] at hSw'
    exact hfin c (pl5T x0 x1 s t k kt H1 H2 H3 g bb p q WS B0 WW c) w rfl rfl rfl hSw')
  · intro jq t hj ht
    have : ∀ j, j < 15 → (pl5D j).all (· < 47) = true := by decide
    have := this jq hj
    rw [ht] at this
    rw [sz]
    simpa using this
  · intro iq o ho c D a w hSw hDi hcl hrd hs hel K hK
    have hin : iq < 15 := (Array.getElem?_eq_some_iff.1 ho).1
    match iq, hin, ho with
    | 0, _, ho =>
      obtain rfl := Option.some.inj (ho.symm.trans (pl5_0 ps))
      have u5 : a.eval (.tmp 5) = .pointer (some ⟨p, 0, none⟩) := (hel 5 (by decide)).trans e5
      exact op_valW (pl5_0 ps) rfl (v := agv (asL x1)) (run_loadS isS24 rfl u5 (hSw.2.2.2.2.1)) (hK c w (fun _ _ => rfl) (fun D' hi' hj' => by
        have hd2 : D' 2 = D 2 := hj' 2 (by decide)
        have hd5 : D' 5 = D 5 := hj' 5 (by decide)
        have hd8 : D' 8 = D 8 := hj' 8 (by decide)
        have hd9 : D' 9 = D 9 := hj' 9 (by decide)
        have hd10 : D' 10 = D 10 := hj' 10 (by decide)
        have hd11 : D' 11 = D 11 := hj' 11 (by decide)
        have hd12 : D' 12 = D 12 := hj' 12 (by decide)
        have hd13 : D' 13 = D 13 := hj' 13 (by decide)
        have hd14 : D' 14 = D 14 := hj' 14 (by decide)
        show Below B0 WW w ∧ WS ≤ w.heap.size ∧ Box w g 24 (asL x0) ∧ Box w bb 28 (sgL s k) ∧ Box w p 24 (asL x1) ∧ Box w q 28 (sgL t kt) ∧ (D' 2 = true → RowT w 0 (decA (c 202) (c 302)) H1.sp.length (c 102) H1.sp) ∧ (D' 5 = true → RowT w 0 (decA (c 205) (c 305)) H2.sp.length (c 105) H2.sp) ∧ (D' 8 = true → RowT w 0 (decA (c 208) (c 308)) H3.sp.length (c 108) H3.sp) ∧ (D' 9 = true → WS ≤ (c 9) ∧ Box w (c 9) 31 (hcL (if D' 12 = true then (hcOf H1 (decA (c 202) (c 302)) (c 102)) else hcZ))) ∧ (D' 10 = true → WS ≤ (c 10) ∧ Box w (c 10) 31 (hcL (if D' 13 = true then (hcOf H2 (decA (c 205) (c 305)) (c 105)) else hcZ))) ∧ (D' 11 = true → WS ≤ (c 11) ∧ Box w (c 11) 31 (hcL (if D' 14 = true then (hcOf H3 (decA (c 208) (c 308)) (c 108)) else hcZ))) ∧ (D' 9 = true → D' 10 = true → (c 9) ≠ (c 10)) ∧ (D' 9 = true → D' 11 = true → (c 9) ≠ (c 11)) ∧ (D' 10 = true → D' 11 = true → (c 10) ≠ (c 11)) ∧ True
        rw [hd2, hd5, hd8, hd9, hd10, hd11, hd12, hd13, hd14]
        exact hSw))
    | 1, _, ho =>
      obtain rfl := Option.some.inj (ho.symm.trans (pl5_1 ps))
      have u3 : a.eval (.tmp 3) = .pointer (some ⟨bb, 0, none⟩) := (hel 3 (by decide)).trans e3
      exact op_valW (pl5_1 ps) rfl (v := agv (sgL s k)) (run_loadS isS28 rfl u3 (hSw.2.2.2.1)) (hK c w (fun _ _ => rfl) (fun D' hi' hj' => by
        have hd2 : D' 2 = D 2 := hj' 2 (by decide)
        have hd5 : D' 5 = D 5 := hj' 5 (by decide)
        have hd8 : D' 8 = D 8 := hj' 8 (by decide)
        have hd9 : D' 9 = D 9 := hj' 9 (by decide)
        have hd10 : D' 10 = D 10 := hj' 10 (by decide)
        have hd11 : D' 11 = D 11 := hj' 11 (by decide)
        have hd12 : D' 12 = D 12 := hj' 12 (by decide)
        have hd13 : D' 13 = D 13 := hj' 13 (by decide)
        have hd14 : D' 14 = D 14 := hj' 14 (by decide)
        show Below B0 WW w ∧ WS ≤ w.heap.size ∧ Box w g 24 (asL x0) ∧ Box w bb 28 (sgL s k) ∧ Box w p 24 (asL x1) ∧ Box w q 28 (sgL t kt) ∧ (D' 2 = true → RowT w 0 (decA (c 202) (c 302)) H1.sp.length (c 102) H1.sp) ∧ (D' 5 = true → RowT w 0 (decA (c 205) (c 305)) H2.sp.length (c 105) H2.sp) ∧ (D' 8 = true → RowT w 0 (decA (c 208) (c 308)) H3.sp.length (c 108) H3.sp) ∧ (D' 9 = true → WS ≤ (c 9) ∧ Box w (c 9) 31 (hcL (if D' 12 = true then (hcOf H1 (decA (c 202) (c 302)) (c 102)) else hcZ))) ∧ (D' 10 = true → WS ≤ (c 10) ∧ Box w (c 10) 31 (hcL (if D' 13 = true then (hcOf H2 (decA (c 205) (c 305)) (c 105)) else hcZ))) ∧ (D' 11 = true → WS ≤ (c 11) ∧ Box w (c 11) 31 (hcL (if D' 14 = true then (hcOf H3 (decA (c 208) (c 308)) (c 108)) else hcZ))) ∧ (D' 9 = true → D' 10 = true → (c 9) ≠ (c 10)) ∧ (D' 9 = true → D' 11 = true → (c 9) ≠ (c 11)) ∧ (D' 10 = true → D' 11 = true → (c 10) ≠ (c 11)) ∧ True
        rw [hd2, hd5, hd8, hd9, hd10, hd11, hd12, hd13, hd14]
        exact hSw))
    | 2, _, ho =>
      obtain rfl := Option.some.inj (ho.symm.trans (pl5_2 ps))
      have s0 : a.eval (.tmp 14) = agv (asL x1) := hs 0 14 (by rfl) rfl
      have s1 : a.eval (.tmp 15) = agv (sgL s k) := hs 1 15 (by rfl) rfl
      exact op_enterW (pl5_2 ps) rfl (f := 8) (args := #[agv (asL x1), agv (sgL s k)]) (by rw [run_call rfl enter8]; simp only [List.map_toArray, List.map_cons, List.map_nil, s0, s1]; try rfl) ((c2 w hSw.1).mono (fun e w' hh => by
        obtain ⟨va, vc, rfl, hR, hB⟩ := hh
        obtain ⟨g', f', rfl⟩ := row_dec hR
        exact ⟨_, rfl, hK (fun z => if z = 102 then vc else if z = 202 then g' else if z = 302 then f' else c z) w' (fun j hj => by
          have hji : j ≠ 2 := by rintro rfl; rw [hDi] at hj; cases hj
          refine pl5T_congr _ _ _ _ _ _ _ _ _ _ _ _ _ _ _ _ _ _ j (fun h => ?_) (fun h => ?_) (fun h => ?_) (fun h => ?_)
          all_goals (rw [if_neg (by omega), if_neg (by omega), if_neg (by omega)])) (fun D' hi' hj' => by
          have hd2 : D' 2 = true := hi'
          have hd5 : D' 5 = D 5 := hj' 5 (by decide)
          have hd8 : D' 8 = D 8 := hj' 8 (by decide)
          have hd9 : D' 9 = D 9 := hj' 9 (by decide)
          have hd10 : D' 10 = D 10 := hj' 10 (by decide)
          have hd11 : D' 11 = D 11 := hj' 11 (by decide)
          have hd12 : D' 12 = D 12 := hj' 12 (by decide)
          have hd13 : D' 13 = D 13 := hj' 13 (by decide)
          have hd14 : D' 14 = D 14 := hj' 14 (by decide)
          show Below B0 WW w' ∧ WS ≤ w'.heap.size ∧ Box w' g 24 (asL x0) ∧ Box w' bb 28 (sgL s k) ∧ Box w' p 24 (asL x1) ∧ Box w' q 28 (sgL t kt) ∧ (D' 2 = true → RowT w' 0 (decA g' f') H1.sp.length vc H1.sp) ∧ (D' 5 = true → RowT w' 0 (decA (c 205) (c 305)) H2.sp.length (c 105) H2.sp) ∧ (D' 8 = true → RowT w' 0 (decA (c 208) (c 308)) H3.sp.length (c 108) H3.sp) ∧ (D' 9 = true → WS ≤ (c 9) ∧ Box w' (c 9) 31 (hcL (if D' 12 = true then (hcOf H1 (decA g' f') vc) else hcZ))) ∧ (D' 10 = true → WS ≤ (c 10) ∧ Box w' (c 10) 31 (hcL (if D' 13 = true then (hcOf H2 (decA (c 205) (c 305)) (c 105)) else hcZ))) ∧ (D' 11 = true → WS ≤ (c 11) ∧ Box w' (c 11) 31 (hcL (if D' 14 = true then (hcOf H3 (decA (c 208) (c 308)) (c 108)) else hcZ))) ∧ (D' 9 = true → D' 10 = true → (c 9) ≠ (c 10)) ∧ (D' 9 = true → D' 11 = true → (c 9) ≠ (c 11)) ∧ (D' 10 = true → D' 11 = true → (c 10) ≠ (c 11)) ∧ True
          rw [hd2, hd5, hd8, hd9, hd10, hd11, hd12, hd13, hd14]
          exact ⟨hSw.1.trans (hB.mono (Nat.le_trans l0 (hSw.2.1))), Nat.le_trans (hSw.2.1) hB.size, (hSw.2.2.1).later hB, (hSw.2.2.2.1).later hB, (hSw.2.2.2.2.1).later hB, (hSw.2.2.2.2.2.1).later hB, fun _ => hR.mono (Nat.zero_le _), fun h => ((hSw.2.2.2.2.2.2.2.1) h).below hB (Nat.le_refl _), fun h => ((hSw.2.2.2.2.2.2.2.2.1) h).below hB (Nat.le_refl _), fun h => ⟨((hSw.2.2.2.2.2.2.2.2.2.1) h).1, by rw [(show D 12 = false from (by cases h : D 12 with | false => rfl | true => exact absurd (hcl 12 _ 2 (pl5_12 ps) (by rfl) h) (by rw [hDi]; simp))), if_neg (by simp)]; have hb9 := ((hSw.2.2.2.2.2.2.2.2.2.1) h).2; rw [(show D 12 = false from (by cases h : D 12 with | false => rfl | true => exact absurd (hcl 12 _ 2 (pl5_12 ps) (by rfl) h) (by rw [hDi]; simp))), if_neg (by simp)] at hb9; exact hb9.later hB⟩, fun h => ⟨((hSw.2.2.2.2.2.2.2.2.2.2.1) h).1, ((hSw.2.2.2.2.2.2.2.2.2.2.1) h).2.later hB⟩, fun h => ⟨((hSw.2.2.2.2.2.2.2.2.2.2.2.1) h).1, ((hSw.2.2.2.2.2.2.2.2.2.2.2.1) h).2.later hB⟩, (hSw.2.2.2.2.2.2.2.2.2.2.2.2.1), (hSw.2.2.2.2.2.2.2.2.2.2.2.2.2.1), (hSw.2.2.2.2.2.2.2.2.2.2.2.2.2.2.1), trivial⟩)⟩))
    | 3, _, ho =>
      obtain rfl := Option.some.inj (ho.symm.trans (pl5_3 ps))
      have u2 : a.eval (.tmp 2) = .pointer (some ⟨g, 0, none⟩) := (hel 2 (by decide)).trans e2
      exact op_valW (pl5_3 ps) rfl (v := agv (asL x0)) (run_loadS isS24 rfl u2 (hSw.2.2.1)) (hK c w (fun _ _ => rfl) (fun D' hi' hj' => by
        have hd2 : D' 2 = D 2 := hj' 2 (by decide)
        have hd5 : D' 5 = D 5 := hj' 5 (by decide)
        have hd8 : D' 8 = D 8 := hj' 8 (by decide)
        have hd9 : D' 9 = D 9 := hj' 9 (by decide)
        have hd10 : D' 10 = D 10 := hj' 10 (by decide)
        have hd11 : D' 11 = D 11 := hj' 11 (by decide)
        have hd12 : D' 12 = D 12 := hj' 12 (by decide)
        have hd13 : D' 13 = D 13 := hj' 13 (by decide)
        have hd14 : D' 14 = D 14 := hj' 14 (by decide)
        show Below B0 WW w ∧ WS ≤ w.heap.size ∧ Box w g 24 (asL x0) ∧ Box w bb 28 (sgL s k) ∧ Box w p 24 (asL x1) ∧ Box w q 28 (sgL t kt) ∧ (D' 2 = true → RowT w 0 (decA (c 202) (c 302)) H1.sp.length (c 102) H1.sp) ∧ (D' 5 = true → RowT w 0 (decA (c 205) (c 305)) H2.sp.length (c 105) H2.sp) ∧ (D' 8 = true → RowT w 0 (decA (c 208) (c 308)) H3.sp.length (c 108) H3.sp) ∧ (D' 9 = true → WS ≤ (c 9) ∧ Box w (c 9) 31 (hcL (if D' 12 = true then (hcOf H1 (decA (c 202) (c 302)) (c 102)) else hcZ))) ∧ (D' 10 = true → WS ≤ (c 10) ∧ Box w (c 10) 31 (hcL (if D' 13 = true then (hcOf H2 (decA (c 205) (c 305)) (c 105)) else hcZ))) ∧ (D' 11 = true → WS ≤ (c 11) ∧ Box w (c 11) 31 (hcL (if D' 14 = true then (hcOf H3 (decA (c 208) (c 308)) (c 108)) else hcZ))) ∧ (D' 9 = true → D' 10 = true → (c 9) ≠ (c 10)) ∧ (D' 9 = true → D' 11 = true → (c 9) ≠ (c 11)) ∧ (D' 10 = true → D' 11 = true → (c 10) ≠ (c 11)) ∧ True
        rw [hd2, hd5, hd8, hd9, hd10, hd11, hd12, hd13, hd14]
        exact hSw))
    | 4, _, ho =>
      obtain rfl := Option.some.inj (ho.symm.trans (pl5_4 ps))
      have u6 : a.eval (.tmp 6) = .pointer (some ⟨q, 0, none⟩) := (hel 6 (by decide)).trans e6
      exact op_valW (pl5_4 ps) rfl (v := agv (sgL t kt)) (run_loadS isS28 rfl u6 (hSw.2.2.2.2.2.1)) (hK c w (fun _ _ => rfl) (fun D' hi' hj' => by
        have hd2 : D' 2 = D 2 := hj' 2 (by decide)
        have hd5 : D' 5 = D 5 := hj' 5 (by decide)
        have hd8 : D' 8 = D 8 := hj' 8 (by decide)
        have hd9 : D' 9 = D 9 := hj' 9 (by decide)
        have hd10 : D' 10 = D 10 := hj' 10 (by decide)
        have hd11 : D' 11 = D 11 := hj' 11 (by decide)
        have hd12 : D' 12 = D 12 := hj' 12 (by decide)
        have hd13 : D' 13 = D 13 := hj' 13 (by decide)
        have hd14 : D' 14 = D 14 := hj' 14 (by decide)
        show Below B0 WW w ∧ WS ≤ w.heap.size ∧ Box w g 24 (asL x0) ∧ Box w bb 28 (sgL s k) ∧ Box w p 24 (asL x1) ∧ Box w q 28 (sgL t kt) ∧ (D' 2 = true → RowT w 0 (decA (c 202) (c 302)) H1.sp.length (c 102) H1.sp) ∧ (D' 5 = true → RowT w 0 (decA (c 205) (c 305)) H2.sp.length (c 105) H2.sp) ∧ (D' 8 = true → RowT w 0 (decA (c 208) (c 308)) H3.sp.length (c 108) H3.sp) ∧ (D' 9 = true → WS ≤ (c 9) ∧ Box w (c 9) 31 (hcL (if D' 12 = true then (hcOf H1 (decA (c 202) (c 302)) (c 102)) else hcZ))) ∧ (D' 10 = true → WS ≤ (c 10) ∧ Box w (c 10) 31 (hcL (if D' 13 = true then (hcOf H2 (decA (c 205) (c 305)) (c 105)) else hcZ))) ∧ (D' 11 = true → WS ≤ (c 11) ∧ Box w (c 11) 31 (hcL (if D' 14 = true then (hcOf H3 (decA (c 208) (c 308)) (c 108)) else hcZ))) ∧ (D' 9 = true → D' 10 = true → (c 9) ≠ (c 10)) ∧ (D' 9 = true → D' 11 = true → (c 9) ≠ (c 11)) ∧ (D' 10 = true → D' 11 = true → (c 10) ≠ (c 11)) ∧ True
        rw [hd2, hd5, hd8, hd9, hd10, hd11, hd12, hd13, hd14]
        exact hSw))
    | 5, _, ho =>
      obtain rfl := Option.some.inj (ho.symm.trans (pl5_5 ps))
      have s3 : a.eval (.tmp 17) = agv (asL x0) := hs 3 17 (by rfl) rfl
      have s4 : a.eval (.tmp 18) = agv (sgL t kt) := hs 4 18 (by rfl) rfl
      exact op_enterW (pl5_5 ps) rfl (f := 8) (args := #[agv (asL x0), agv (sgL t kt)]) (by rw [run_call rfl enter8]; simp only [List.map_toArray, List.map_cons, List.map_nil, s3, s4]; try rfl) ((c5 w hSw.1).mono (fun e w' hh => by
        obtain ⟨va, vc, rfl, hR, hB⟩ := hh
        obtain ⟨g', f', rfl⟩ := row_dec hR
        exact ⟨_, rfl, hK (fun z => if z = 105 then vc else if z = 205 then g' else if z = 305 then f' else c z) w' (fun j hj => by
          have hji : j ≠ 5 := by rintro rfl; rw [hDi] at hj; cases hj
          refine pl5T_congr _ _ _ _ _ _ _ _ _ _ _ _ _ _ _ _ _ _ j (fun h => ?_) (fun h => ?_) (fun h => ?_) (fun h => ?_)
          all_goals (rw [if_neg (by omega), if_neg (by omega), if_neg (by omega)])) (fun D' hi' hj' => by
          have hd2 : D' 2 = D 2 := hj' 2 (by decide)
          have hd5 : D' 5 = true := hi'
          have hd8 : D' 8 = D 8 := hj' 8 (by decide)
          have hd9 : D' 9 = D 9 := hj' 9 (by decide)
          have hd10 : D' 10 = D 10 := hj' 10 (by decide)
          have hd11 : D' 11 = D 11 := hj' 11 (by decide)
          have hd12 : D' 12 = D 12 := hj' 12 (by decide)
          have hd13 : D' 13 = D 13 := hj' 13 (by decide)
          have hd14 : D' 14 = D 14 := hj' 14 (by decide)
          show Below B0 WW w' ∧ WS ≤ w'.heap.size ∧ Box w' g 24 (asL x0) ∧ Box w' bb 28 (sgL s k) ∧ Box w' p 24 (asL x1) ∧ Box w' q 28 (sgL t kt) ∧ (D' 2 = true → RowT w' 0 (decA (c 202) (c 302)) H1.sp.length (c 102) H1.sp) ∧ (D' 5 = true → RowT w' 0 (decA g' f') H2.sp.length vc H2.sp) ∧ (D' 8 = true → RowT w' 0 (decA (c 208) (c 308)) H3.sp.length (c 108) H3.sp) ∧ (D' 9 = true → WS ≤ (c 9) ∧ Box w' (c 9) 31 (hcL (if D' 12 = true then (hcOf H1 (decA (c 202) (c 302)) (c 102)) else hcZ))) ∧ (D' 10 = true → WS ≤ (c 10) ∧ Box w' (c 10) 31 (hcL (if D' 13 = true then (hcOf H2 (decA g' f') vc) else hcZ))) ∧ (D' 11 = true → WS ≤ (c 11) ∧ Box w' (c 11) 31 (hcL (if D' 14 = true then (hcOf H3 (decA (c 208) (c 308)) (c 108)) else hcZ))) ∧ (D' 9 = true → D' 10 = true → (c 9) ≠ (c 10)) ∧ (D' 9 = true → D' 11 = true → (c 9) ≠ (c 11)) ∧ (D' 10 = true → D' 11 = true → (c 10) ≠ (c 11)) ∧ True
          rw [hd2, hd5, hd8, hd9, hd10, hd11, hd12, hd13, hd14]
          exact ⟨hSw.1.trans (hB.mono (Nat.le_trans l0 (hSw.2.1))), Nat.le_trans (hSw.2.1) hB.size, (hSw.2.2.1).later hB, (hSw.2.2.2.1).later hB, (hSw.2.2.2.2.1).later hB, (hSw.2.2.2.2.2.1).later hB, fun h => ((hSw.2.2.2.2.2.2.1) h).below hB (Nat.le_refl _), fun _ => hR.mono (Nat.zero_le _), fun h => ((hSw.2.2.2.2.2.2.2.2.1) h).below hB (Nat.le_refl _), fun h => ⟨((hSw.2.2.2.2.2.2.2.2.2.1) h).1, ((hSw.2.2.2.2.2.2.2.2.2.1) h).2.later hB⟩, fun h => ⟨((hSw.2.2.2.2.2.2.2.2.2.2.1) h).1, by rw [(show D 13 = false from (by cases h : D 13 with | false => rfl | true => exact absurd (hcl 13 _ 5 (pl5_13 ps) (by rfl) h) (by rw [hDi]; simp))), if_neg (by simp)]; have hb9 := ((hSw.2.2.2.2.2.2.2.2.2.2.1) h).2; rw [(show D 13 = false from (by cases h : D 13 with | false => rfl | true => exact absurd (hcl 13 _ 5 (pl5_13 ps) (by rfl) h) (by rw [hDi]; simp))), if_neg (by simp)] at hb9; exact hb9.later hB⟩, fun h => ⟨((hSw.2.2.2.2.2.2.2.2.2.2.2.1) h).1, ((hSw.2.2.2.2.2.2.2.2.2.2.2.1) h).2.later hB⟩, (hSw.2.2.2.2.2.2.2.2.2.2.2.2.1), (hSw.2.2.2.2.2.2.2.2.2.2.2.2.2.1), (hSw.2.2.2.2.2.2.2.2.2.2.2.2.2.2.1), trivial⟩)⟩))
    | 6, _, ho =>
      obtain rfl := Option.some.inj (ho.symm.trans (pl5_6 ps))
      have u2 : a.eval (.tmp 2) = .pointer (some ⟨g, 0, none⟩) := (hel 2 (by decide)).trans e2
      exact op_valW (pl5_6 ps) rfl (v := agv (asL x0)) (run_loadS isS24 rfl u2 (hSw.2.2.1)) (hK c w (fun _ _ => rfl) (fun D' hi' hj' => by
        have hd2 : D' 2 = D 2 := hj' 2 (by decide)
        have hd5 : D' 5 = D 5 := hj' 5 (by decide)
        have hd8 : D' 8 = D 8 := hj' 8 (by decide)
        have hd9 : D' 9 = D 9 := hj' 9 (by decide)
        have hd10 : D' 10 = D 10 := hj' 10 (by decide)
        have hd11 : D' 11 = D 11 := hj' 11 (by decide)
        have hd12 : D' 12 = D 12 := hj' 12 (by decide)
        have hd13 : D' 13 = D 13 := hj' 13 (by decide)
        have hd14 : D' 14 = D 14 := hj' 14 (by decide)
        show Below B0 WW w ∧ WS ≤ w.heap.size ∧ Box w g 24 (asL x0) ∧ Box w bb 28 (sgL s k) ∧ Box w p 24 (asL x1) ∧ Box w q 28 (sgL t kt) ∧ (D' 2 = true → RowT w 0 (decA (c 202) (c 302)) H1.sp.length (c 102) H1.sp) ∧ (D' 5 = true → RowT w 0 (decA (c 205) (c 305)) H2.sp.length (c 105) H2.sp) ∧ (D' 8 = true → RowT w 0 (decA (c 208) (c 308)) H3.sp.length (c 108) H3.sp) ∧ (D' 9 = true → WS ≤ (c 9) ∧ Box w (c 9) 31 (hcL (if D' 12 = true then (hcOf H1 (decA (c 202) (c 302)) (c 102)) else hcZ))) ∧ (D' 10 = true → WS ≤ (c 10) ∧ Box w (c 10) 31 (hcL (if D' 13 = true then (hcOf H2 (decA (c 205) (c 305)) (c 105)) else hcZ))) ∧ (D' 11 = true → WS ≤ (c 11) ∧ Box w (c 11) 31 (hcL (if D' 14 = true then (hcOf H3 (decA (c 208) (c 308)) (c 108)) else hcZ))) ∧ (D' 9 = true → D' 10 = true → (c 9) ≠ (c 10)) ∧ (D' 9 = true → D' 11 = true → (c 9) ≠ (c 11)) ∧ (D' 10 = true → D' 11 = true → (c 10) ≠ (c 11)) ∧ True
        rw [hd2, hd5, hd8, hd9, hd10, hd11, hd12, hd13, hd14]
        exact hSw))
    | 7, _, ho =>
      obtain rfl := Option.some.inj (ho.symm.trans (pl5_7 ps))
      have u3 : a.eval (.tmp 3) = .pointer (some ⟨bb, 0, none⟩) := (hel 3 (by decide)).trans e3
      exact op_valW (pl5_7 ps) rfl (v := agv (sgL s k)) (run_loadS isS28 rfl u3 (hSw.2.2.2.1)) (hK c w (fun _ _ => rfl) (fun D' hi' hj' => by
        have hd2 : D' 2 = D 2 := hj' 2 (by decide)
        have hd5 : D' 5 = D 5 := hj' 5 (by decide)
        have hd8 : D' 8 = D 8 := hj' 8 (by decide)
        have hd9 : D' 9 = D 9 := hj' 9 (by decide)
        have hd10 : D' 10 = D 10 := hj' 10 (by decide)
        have hd11 : D' 11 = D 11 := hj' 11 (by decide)
        have hd12 : D' 12 = D 12 := hj' 12 (by decide)
        have hd13 : D' 13 = D 13 := hj' 13 (by decide)
        have hd14 : D' 14 = D 14 := hj' 14 (by decide)
        show Below B0 WW w ∧ WS ≤ w.heap.size ∧ Box w g 24 (asL x0) ∧ Box w bb 28 (sgL s k) ∧ Box w p 24 (asL x1) ∧ Box w q 28 (sgL t kt) ∧ (D' 2 = true → RowT w 0 (decA (c 202) (c 302)) H1.sp.length (c 102) H1.sp) ∧ (D' 5 = true → RowT w 0 (decA (c 205) (c 305)) H2.sp.length (c 105) H2.sp) ∧ (D' 8 = true → RowT w 0 (decA (c 208) (c 308)) H3.sp.length (c 108) H3.sp) ∧ (D' 9 = true → WS ≤ (c 9) ∧ Box w (c 9) 31 (hcL (if D' 12 = true then (hcOf H1 (decA (c 202) (c 302)) (c 102)) else hcZ))) ∧ (D' 10 = true → WS ≤ (c 10) ∧ Box w (c 10) 31 (hcL (if D' 13 = true then (hcOf H2 (decA (c 205) (c 305)) (c 105)) else hcZ))) ∧ (D' 11 = true → WS ≤ (c 11) ∧ Box w (c 11) 31 (hcL (if D' 14 = true then (hcOf H3 (decA (c 208) (c 308)) (c 108)) else hcZ))) ∧ (D' 9 = true → D' 10 = true → (c 9) ≠ (c 10)) ∧ (D' 9 = true → D' 11 = true → (c 9) ≠ (c 11)) ∧ (D' 10 = true → D' 11 = true → (c 10) ≠ (c 11)) ∧ True
        rw [hd2, hd5, hd8, hd9, hd10, hd11, hd12, hd13, hd14]
        exact hSw))
    | 8, _, ho =>
      obtain rfl := Option.some.inj (ho.symm.trans (pl5_8 ps))
      have s6 : a.eval (.tmp 20) = agv (asL x0) := hs 6 20 (by rfl) rfl
      have s7 : a.eval (.tmp 21) = agv (sgL s k) := hs 7 21 (by rfl) rfl
      exact op_enterW (pl5_8 ps) rfl (f := 8) (args := #[agv (asL x0), agv (sgL s k)]) (by rw [run_call rfl enter8]; simp only [List.map_toArray, List.map_cons, List.map_nil, s6, s7]; try rfl) ((c8 w hSw.1).mono (fun e w' hh => by
        obtain ⟨va, vc, rfl, hR, hB⟩ := hh
        obtain ⟨g', f', rfl⟩ := row_dec hR
        exact ⟨_, rfl, hK (fun z => if z = 108 then vc else if z = 208 then g' else if z = 308 then f' else c z) w' (fun j hj => by
          have hji : j ≠ 8 := by rintro rfl; rw [hDi] at hj; cases hj
          refine pl5T_congr _ _ _ _ _ _ _ _ _ _ _ _ _ _ _ _ _ _ j (fun h => ?_) (fun h => ?_) (fun h => ?_) (fun h => ?_)
          all_goals (rw [if_neg (by omega), if_neg (by omega), if_neg (by omega)])) (fun D' hi' hj' => by
          have hd2 : D' 2 = D 2 := hj' 2 (by decide)
          have hd5 : D' 5 = D 5 := hj' 5 (by decide)
          have hd8 : D' 8 = true := hi'
          have hd9 : D' 9 = D 9 := hj' 9 (by decide)
          have hd10 : D' 10 = D 10 := hj' 10 (by decide)
          have hd11 : D' 11 = D 11 := hj' 11 (by decide)
          have hd12 : D' 12 = D 12 := hj' 12 (by decide)
          have hd13 : D' 13 = D 13 := hj' 13 (by decide)
          have hd14 : D' 14 = D 14 := hj' 14 (by decide)
          show Below B0 WW w' ∧ WS ≤ w'.heap.size ∧ Box w' g 24 (asL x0) ∧ Box w' bb 28 (sgL s k) ∧ Box w' p 24 (asL x1) ∧ Box w' q 28 (sgL t kt) ∧ (D' 2 = true → RowT w' 0 (decA (c 202) (c 302)) H1.sp.length (c 102) H1.sp) ∧ (D' 5 = true → RowT w' 0 (decA (c 205) (c 305)) H2.sp.length (c 105) H2.sp) ∧ (D' 8 = true → RowT w' 0 (decA g' f') H3.sp.length vc H3.sp) ∧ (D' 9 = true → WS ≤ (c 9) ∧ Box w' (c 9) 31 (hcL (if D' 12 = true then (hcOf H1 (decA (c 202) (c 302)) (c 102)) else hcZ))) ∧ (D' 10 = true → WS ≤ (c 10) ∧ Box w' (c 10) 31 (hcL (if D' 13 = true then (hcOf H2 (decA (c 205) (c 305)) (c 105)) else hcZ))) ∧ (D' 11 = true → WS ≤ (c 11) ∧ Box w' (c 11) 31 (hcL (if D' 14 = true then (hcOf H3 (decA g' f') vc) else hcZ))) ∧ (D' 9 = true → D' 10 = true → (c 9) ≠ (c 10)) ∧ (D' 9 = true → D' 11 = true → (c 9) ≠ (c 11)) ∧ (D' 10 = true → D' 11 = true → (c 10) ≠ (c 11)) ∧ True
          rw [hd2, hd5, hd8, hd9, hd10, hd11, hd12, hd13, hd14]
          exact ⟨hSw.1.trans (hB.mono (Nat.le_trans l0 (hSw.2.1))), Nat.le_trans (hSw.2.1) hB.size, (hSw.2.2.1).later hB, (hSw.2.2.2.1).later hB, (hSw.2.2.2.2.1).later hB, (hSw.2.2.2.2.2.1).later hB, fun h => ((hSw.2.2.2.2.2.2.1) h).below hB (Nat.le_refl _), fun h => ((hSw.2.2.2.2.2.2.2.1) h).below hB (Nat.le_refl _), fun _ => hR.mono (Nat.zero_le _), fun h => ⟨((hSw.2.2.2.2.2.2.2.2.2.1) h).1, ((hSw.2.2.2.2.2.2.2.2.2.1) h).2.later hB⟩, fun h => ⟨((hSw.2.2.2.2.2.2.2.2.2.2.1) h).1, ((hSw.2.2.2.2.2.2.2.2.2.2.1) h).2.later hB⟩, fun h => ⟨((hSw.2.2.2.2.2.2.2.2.2.2.2.1) h).1, by rw [(show D 14 = false from (by cases h : D 14 with | false => rfl | true => exact absurd (hcl 14 _ 8 (pl5_14 ps) (by rfl) h) (by rw [hDi]; simp))), if_neg (by simp)]; have hb9 := ((hSw.2.2.2.2.2.2.2.2.2.2.2.1) h).2; rw [(show D 14 = false from (by cases h : D 14 with | false => rfl | true => exact absurd (hcl 14 _ 8 (pl5_14 ps) (by rfl) h) (by rw [hDi]; simp))), if_neg (by simp)] at hb9; exact hb9.later hB⟩, (hSw.2.2.2.2.2.2.2.2.2.2.2.2.1), (hSw.2.2.2.2.2.2.2.2.2.2.2.2.2.1), (hSw.2.2.2.2.2.2.2.2.2.2.2.2.2.2.1), trivial⟩)⟩))
    | 9, _, ho =>
      obtain rfl := Option.some.inj (ho.symm.trans (pl5_9 ps))
      refine op_allocW (pl5_9 ps) rfl rfl rfl zero31 (hK (fun k => if k = 9 then w.heap.size else c k) _ (fun j hj => ?_) (fun D' hi' hj' => ?_))
      · have hji : j ≠ 9 := by rintro rfl; rw [hDi] at hj; cases hj
        exact pl5T_congr _ _ _ _ _ _ _ _ _ _ _ _ _ _ _ _ _ _ j (fun _ => if_neg hji) (fun h => if_neg (by omega)) (fun h => if_neg (by omega)) (fun h => if_neg (by omega))
      · have hd2 : D' 2 = D 2 := hj' 2 (by decide)
        have hd5 : D' 5 = D 5 := hj' 5 (by decide)
        have hd8 : D' 8 = D 8 := hj' 8 (by decide)
        have hd9 : D' 9 = true := hi'
        have hd10 : D' 10 = D 10 := hj' 10 (by decide)
        have hd11 : D' 11 = D 11 := hj' 11 (by decide)
        have hd12 : D' 12 = D 12 := hj' 12 (by decide)
        have hd13 : D' 13 = D 13 := hj' 13 (by decide)
        have hd14 : D' 14 = D 14 := hj' 14 (by decide)
        show Below B0 WW (w.alloc (.cells (hcL hcZ).toArray 31)) ∧ WS ≤ (w.alloc (.cells (hcL hcZ).toArray 31)).heap.size ∧ Box (w.alloc (.cells (hcL hcZ).toArray 31)) g 24 (asL x0) ∧ Box (w.alloc (.cells (hcL hcZ).toArray 31)) bb 28 (sgL s k) ∧ Box (w.alloc (.cells (hcL hcZ).toArray 31)) p 24 (asL x1) ∧ Box (w.alloc (.cells (hcL hcZ).toArray 31)) q 28 (sgL t kt) ∧ (D' 2 = true → RowT (w.alloc (.cells (hcL hcZ).toArray 31)) 0 (decA (c 202) (c 302)) H1.sp.length (c 102) H1.sp) ∧ (D' 5 = true → RowT (w.alloc (.cells (hcL hcZ).toArray 31)) 0 (decA (c 205) (c 305)) H2.sp.length (c 105) H2.sp) ∧ (D' 8 = true → RowT (w.alloc (.cells (hcL hcZ).toArray 31)) 0 (decA (c 208) (c 308)) H3.sp.length (c 108) H3.sp) ∧ (D' 9 = true → WS ≤ w.heap.size ∧ Box (w.alloc (.cells (hcL hcZ).toArray 31)) w.heap.size 31 (hcL (if D' 12 = true then (hcOf H1 (decA (c 202) (c 302)) (c 102)) else hcZ))) ∧ (D' 10 = true → WS ≤ (c 10) ∧ Box (w.alloc (.cells (hcL hcZ).toArray 31)) (c 10) 31 (hcL (if D' 13 = true then (hcOf H2 (decA (c 205) (c 305)) (c 105)) else hcZ))) ∧ (D' 11 = true → WS ≤ (c 11) ∧ Box (w.alloc (.cells (hcL hcZ).toArray 31)) (c 11) 31 (hcL (if D' 14 = true then (hcOf H3 (decA (c 208) (c 308)) (c 108)) else hcZ))) ∧ (D' 9 = true → D' 10 = true → w.heap.size ≠ (c 10)) ∧ (D' 9 = true → D' 11 = true → w.heap.size ≠ (c 11)) ∧ (D' 10 = true → D' 11 = true → (c 10) ≠ (c 11)) ∧ True
        rw [hd2, hd5, hd8, hd9, hd10, hd11, hd12, hd13, hd14]
        exact ⟨hSw.1.alloc (Nat.le_trans l0 (hSw.2.1)) _, Nat.le_trans (hSw.2.1) (by simp), (hSw.2.2.1).alloc _, (hSw.2.2.2.1).alloc _, (hSw.2.2.2.2.1).alloc _, (hSw.2.2.2.2.2.1).alloc _, fun h => ((hSw.2.2.2.2.2.2.1) h).alloc _, fun h => ((hSw.2.2.2.2.2.2.2.1) h).alloc _, fun h => ((hSw.2.2.2.2.2.2.2.2.1) h).alloc _, fun _ => ⟨(hSw.2.1), by rw [(show D 12 = false from (by cases h : D 12 with | false => rfl | true => exact absurd (hcl 12 _ 9 (pl5_12 ps) (by rfl) h) (by rw [hDi]; simp))), if_neg (by simp)]; exact Box.new w 31 (hcL hcZ)⟩, fun h => ⟨((hSw.2.2.2.2.2.2.2.2.2.2.1) h).1, ((hSw.2.2.2.2.2.2.2.2.2.2.1) h).2.alloc _⟩, fun h => ⟨((hSw.2.2.2.2.2.2.2.2.2.2.2.1) h).1, ((hSw.2.2.2.2.2.2.2.2.2.2.2.1) h).2.alloc _⟩, fun _ h => by have := ((hSw.2.2.2.2.2.2.2.2.2.2.1) h).2.lt; omega, fun _ h => by have := ((hSw.2.2.2.2.2.2.2.2.2.2.2.1) h).2.lt; omega, (hSw.2.2.2.2.2.2.2.2.2.2.2.2.2.2.1), trivial⟩
    | 10, _, ho =>
      obtain rfl := Option.some.inj (ho.symm.trans (pl5_10 ps))
      refine op_allocW (pl5_10 ps) rfl rfl rfl zero31 (hK (fun k => if k = 10 then w.heap.size else c k) _ (fun j hj => ?_) (fun D' hi' hj' => ?_))
      · have hji : j ≠ 10 := by rintro rfl; rw [hDi] at hj; cases hj
        exact pl5T_congr _ _ _ _ _ _ _ _ _ _ _ _ _ _ _ _ _ _ j (fun _ => if_neg hji) (fun h => if_neg (by omega)) (fun h => if_neg (by omega)) (fun h => if_neg (by omega))
      · have hd2 : D' 2 = D 2 := hj' 2 (by decide)
        have hd5 : D' 5 = D 5 := hj' 5 (by decide)
        have hd8 : D' 8 = D 8 := hj' 8 (by decide)
        have hd9 : D' 9 = D 9 := hj' 9 (by decide)
        have hd10 : D' 10 = true := hi'
        have hd11 : D' 11 = D 11 := hj' 11 (by decide)
        have hd12 : D' 12 = D 12 := hj' 12 (by decide)
        have hd13 : D' 13 = D 13 := hj' 13 (by decide)
        have hd14 : D' 14 = D 14 := hj' 14 (by decide)
        show Below B0 WW (w.alloc (.cells (hcL hcZ).toArray 31)) ∧ WS ≤ (w.alloc (.cells (hcL hcZ).toArray 31)).heap.size ∧ Box (w.alloc (.cells (hcL hcZ).toArray 31)) g 24 (asL x0) ∧ Box (w.alloc (.cells (hcL hcZ).toArray 31)) bb 28 (sgL s k) ∧ Box (w.alloc (.cells (hcL hcZ).toArray 31)) p 24 (asL x1) ∧ Box (w.alloc (.cells (hcL hcZ).toArray 31)) q 28 (sgL t kt) ∧ (D' 2 = true → RowT (w.alloc (.cells (hcL hcZ).toArray 31)) 0 (decA (c 202) (c 302)) H1.sp.length (c 102) H1.sp) ∧ (D' 5 = true → RowT (w.alloc (.cells (hcL hcZ).toArray 31)) 0 (decA (c 205) (c 305)) H2.sp.length (c 105) H2.sp) ∧ (D' 8 = true → RowT (w.alloc (.cells (hcL hcZ).toArray 31)) 0 (decA (c 208) (c 308)) H3.sp.length (c 108) H3.sp) ∧ (D' 9 = true → WS ≤ (c 9) ∧ Box (w.alloc (.cells (hcL hcZ).toArray 31)) (c 9) 31 (hcL (if D' 12 = true then (hcOf H1 (decA (c 202) (c 302)) (c 102)) else hcZ))) ∧ (D' 10 = true → WS ≤ w.heap.size ∧ Box (w.alloc (.cells (hcL hcZ).toArray 31)) w.heap.size 31 (hcL (if D' 13 = true then (hcOf H2 (decA (c 205) (c 305)) (c 105)) else hcZ))) ∧ (D' 11 = true → WS ≤ (c 11) ∧ Box (w.alloc (.cells (hcL hcZ).toArray 31)) (c 11) 31 (hcL (if D' 14 = true then (hcOf H3 (decA (c 208) (c 308)) (c 108)) else hcZ))) ∧ (D' 9 = true → D' 10 = true → (c 9) ≠ w.heap.size) ∧ (D' 9 = true → D' 11 = true → (c 9) ≠ (c 11)) ∧ (D' 10 = true → D' 11 = true → w.heap.size ≠ (c 11)) ∧ True
        rw [hd2, hd5, hd8, hd9, hd10, hd11, hd12, hd13, hd14]
        exact ⟨hSw.1.alloc (Nat.le_trans l0 (hSw.2.1)) _, Nat.le_trans (hSw.2.1) (by simp), (hSw.2.2.1).alloc _, (hSw.2.2.2.1).alloc _, (hSw.2.2.2.2.1).alloc _, (hSw.2.2.2.2.2.1).alloc _, fun h => ((hSw.2.2.2.2.2.2.1) h).alloc _, fun h => ((hSw.2.2.2.2.2.2.2.1) h).alloc _, fun h => ((hSw.2.2.2.2.2.2.2.2.1) h).alloc _, fun h => ⟨((hSw.2.2.2.2.2.2.2.2.2.1) h).1, ((hSw.2.2.2.2.2.2.2.2.2.1) h).2.alloc _⟩, fun _ => ⟨(hSw.2.1), by rw [(show D 13 = false from (by cases h : D 13 with | false => rfl | true => exact absurd (hcl 13 _ 10 (pl5_13 ps) (by rfl) h) (by rw [hDi]; simp))), if_neg (by simp)]; exact Box.new w 31 (hcL hcZ)⟩, fun h => ⟨((hSw.2.2.2.2.2.2.2.2.2.2.2.1) h).1, ((hSw.2.2.2.2.2.2.2.2.2.2.2.1) h).2.alloc _⟩, fun h _ => by have := ((hSw.2.2.2.2.2.2.2.2.2.1) h).2.lt; omega, (hSw.2.2.2.2.2.2.2.2.2.2.2.2.2.1), fun _ h => by have := ((hSw.2.2.2.2.2.2.2.2.2.2.2.1) h).2.lt; omega, trivial⟩
    | 11, _, ho =>
      obtain rfl := Option.some.inj (ho.symm.trans (pl5_11 ps))
      refine op_allocW (pl5_11 ps) rfl rfl rfl zero31 (hK (fun k => if k = 11 then w.heap.size else c k) _ (fun j hj => ?_) (fun D' hi' hj' => ?_))
      · have hji : j ≠ 11 := by rintro rfl; rw [hDi] at hj; cases hj
        exact pl5T_congr _ _ _ _ _ _ _ _ _ _ _ _ _ _ _ _ _ _ j (fun _ => if_neg hji) (fun h => if_neg (by omega)) (fun h => if_neg (by omega)) (fun h => if_neg (by omega))
      · have hd2 : D' 2 = D 2 := hj' 2 (by decide)
        have hd5 : D' 5 = D 5 := hj' 5 (by decide)
        have hd8 : D' 8 = D 8 := hj' 8 (by decide)
        have hd9 : D' 9 = D 9 := hj' 9 (by decide)
        have hd10 : D' 10 = D 10 := hj' 10 (by decide)
        have hd11 : D' 11 = true := hi'
        have hd12 : D' 12 = D 12 := hj' 12 (by decide)
        have hd13 : D' 13 = D 13 := hj' 13 (by decide)
        have hd14 : D' 14 = D 14 := hj' 14 (by decide)
        show Below B0 WW (w.alloc (.cells (hcL hcZ).toArray 31)) ∧ WS ≤ (w.alloc (.cells (hcL hcZ).toArray 31)).heap.size ∧ Box (w.alloc (.cells (hcL hcZ).toArray 31)) g 24 (asL x0) ∧ Box (w.alloc (.cells (hcL hcZ).toArray 31)) bb 28 (sgL s k) ∧ Box (w.alloc (.cells (hcL hcZ).toArray 31)) p 24 (asL x1) ∧ Box (w.alloc (.cells (hcL hcZ).toArray 31)) q 28 (sgL t kt) ∧ (D' 2 = true → RowT (w.alloc (.cells (hcL hcZ).toArray 31)) 0 (decA (c 202) (c 302)) H1.sp.length (c 102) H1.sp) ∧ (D' 5 = true → RowT (w.alloc (.cells (hcL hcZ).toArray 31)) 0 (decA (c 205) (c 305)) H2.sp.length (c 105) H2.sp) ∧ (D' 8 = true → RowT (w.alloc (.cells (hcL hcZ).toArray 31)) 0 (decA (c 208) (c 308)) H3.sp.length (c 108) H3.sp) ∧ (D' 9 = true → WS ≤ (c 9) ∧ Box (w.alloc (.cells (hcL hcZ).toArray 31)) (c 9) 31 (hcL (if D' 12 = true then (hcOf H1 (decA (c 202) (c 302)) (c 102)) else hcZ))) ∧ (D' 10 = true → WS ≤ (c 10) ∧ Box (w.alloc (.cells (hcL hcZ).toArray 31)) (c 10) 31 (hcL (if D' 13 = true then (hcOf H2 (decA (c 205) (c 305)) (c 105)) else hcZ))) ∧ (D' 11 = true → WS ≤ w.heap.size ∧ Box (w.alloc (.cells (hcL hcZ).toArray 31)) w.heap.size 31 (hcL (if D' 14 = true then (hcOf H3 (decA (c 208) (c 308)) (c 108)) else hcZ))) ∧ (D' 9 = true → D' 10 = true → (c 9) ≠ (c 10)) ∧ (D' 9 = true → D' 11 = true → (c 9) ≠ w.heap.size) ∧ (D' 10 = true → D' 11 = true → (c 10) ≠ w.heap.size) ∧ True
        rw [hd2, hd5, hd8, hd9, hd10, hd11, hd12, hd13, hd14]
        exact ⟨hSw.1.alloc (Nat.le_trans l0 (hSw.2.1)) _, Nat.le_trans (hSw.2.1) (by simp), (hSw.2.2.1).alloc _, (hSw.2.2.2.1).alloc _, (hSw.2.2.2.2.1).alloc _, (hSw.2.2.2.2.2.1).alloc _, fun h => ((hSw.2.2.2.2.2.2.1) h).alloc _, fun h => ((hSw.2.2.2.2.2.2.2.1) h).alloc _, fun h => ((hSw.2.2.2.2.2.2.2.2.1) h).alloc _, fun h => ⟨((hSw.2.2.2.2.2.2.2.2.2.1) h).1, ((hSw.2.2.2.2.2.2.2.2.2.1) h).2.alloc _⟩, fun h => ⟨((hSw.2.2.2.2.2.2.2.2.2.2.1) h).1, ((hSw.2.2.2.2.2.2.2.2.2.2.1) h).2.alloc _⟩, fun _ => ⟨(hSw.2.1), by rw [(show D 14 = false from (by cases h : D 14 with | false => rfl | true => exact absurd (hcl 14 _ 11 (pl5_14 ps) (by rfl) h) (by rw [hDi]; simp))), if_neg (by simp)]; exact Box.new w 31 (hcL hcZ)⟩, (hSw.2.2.2.2.2.2.2.2.2.2.2.2.1), fun h _ => by have := ((hSw.2.2.2.2.2.2.2.2.2.1) h).2.lt; omega, fun h _ => by have := ((hSw.2.2.2.2.2.2.2.2.2.2.1) h).2.lt; omega, trivial⟩
    | 12, _, ho =>
      obtain rfl := Option.some.inj (ho.symm.trans (pl5_12 ps))
      have s9 : a.eval (.tmp 7) = .pointer (some ⟨c 9, 0, none⟩) := hs 9 7 (by rfl) rfl
      have s2 : a.eval (.tmp 16) = agv (hcL (hcOf H1 (decA (c 202) (c 302)) (c 102))) := hs 2 16 (by rfl) rfl
      have hda : D 9 = true := hrd 9 (by rfl)
      have hB := (hSw.2.2.2.2.2.2.2.2.2.1) hda
      have hst := (stoR (hcL (hcOf H1 (decA (c 202) (c 302)) (c 102))) hB.2)
      exact op_stoW (pl5_12 ps) rfl rfl (w' := (w.setRow (c 9) (hcL (hcOf H1 (decA (c 202) (c 302)) (c 102))).toArray)) (run_storeS rfl s9 s2 hB.2 rfl isS31 (hcL_one _)) (hK c _ (fun _ _ => rfl) (fun D' hi' hj' => by
        have hd2 : D' 2 = D 2 := hj' 2 (by decide)
        have hd5 : D' 5 = D 5 := hj' 5 (by decide)
        have hd8 : D' 8 = D 8 := hj' 8 (by decide)
        have hd9 : D' 9 = D 9 := hj' 9 (by decide)
        have hd10 : D' 10 = D 10 := hj' 10 (by decide)
        have hd11 : D' 11 = D 11 := hj' 11 (by decide)
        have hd12 : D' 12 = true := hi'
        have hd13 : D' 13 = D 13 := hj' 13 (by decide)
        have hd14 : D' 14 = D 14 := hj' 14 (by decide)
        show Below B0 WW (w.setRow (c 9) (hcL (hcOf H1 (decA (c 202) (c 302)) (c 102))).toArray) ∧ WS ≤ (w.setRow (c 9) (hcL (hcOf H1 (decA (c 202) (c 302)) (c 102))).toArray).heap.size ∧ Box (w.setRow (c 9) (hcL (hcOf H1 (decA (c 202) (c 302)) (c 102))).toArray) g 24 (asL x0) ∧ Box (w.setRow (c 9) (hcL (hcOf H1 (decA (c 202) (c 302)) (c 102))).toArray) bb 28 (sgL s k) ∧ Box (w.setRow (c 9) (hcL (hcOf H1 (decA (c 202) (c 302)) (c 102))).toArray) p 24 (asL x1) ∧ Box (w.setRow (c 9) (hcL (hcOf H1 (decA (c 202) (c 302)) (c 102))).toArray) q 28 (sgL t kt) ∧ (D' 2 = true → RowT (w.setRow (c 9) (hcL (hcOf H1 (decA (c 202) (c 302)) (c 102))).toArray) 0 (decA (c 202) (c 302)) H1.sp.length (c 102) H1.sp) ∧ (D' 5 = true → RowT (w.setRow (c 9) (hcL (hcOf H1 (decA (c 202) (c 302)) (c 102))).toArray) 0 (decA (c 205) (c 305)) H2.sp.length (c 105) H2.sp) ∧ (D' 8 = true → RowT (w.setRow (c 9) (hcL (hcOf H1 (decA (c 202) (c 302)) (c 102))).toArray) 0 (decA (c 208) (c 308)) H3.sp.length (c 108) H3.sp) ∧ (D' 9 = true → WS ≤ (c 9) ∧ Box (w.setRow (c 9) (hcL (hcOf H1 (decA (c 202) (c 302)) (c 102))).toArray) (c 9) 31 (hcL (if D' 12 = true then (hcOf H1 (decA (c 202) (c 302)) (c 102)) else hcZ))) ∧ (D' 10 = true → WS ≤ (c 10) ∧ Box (w.setRow (c 9) (hcL (hcOf H1 (decA (c 202) (c 302)) (c 102))).toArray) (c 10) 31 (hcL (if D' 13 = true then (hcOf H2 (decA (c 205) (c 305)) (c 105)) else hcZ))) ∧ (D' 11 = true → WS ≤ (c 11) ∧ Box (w.setRow (c 9) (hcL (hcOf H1 (decA (c 202) (c 302)) (c 102))).toArray) (c 11) 31 (hcL (if D' 14 = true then (hcOf H3 (decA (c 208) (c 308)) (c 108)) else hcZ))) ∧ (D' 9 = true → D' 10 = true → (c 9) ≠ (c 10)) ∧ (D' 9 = true → D' 11 = true → (c 9) ≠ (c 11)) ∧ (D' 10 = true → D' 11 = true → (c 10) ≠ (c 11)) ∧ True
        rw [hd2, hd5, hd8, hd9, hd10, hd11, hd12, hd13, hd14]
        exact ⟨hst.1.below _ _ (Nat.le_trans l0 hB.1) hSw.1, (by rw [hst.1.size]; exact (hSw.2.1)), (hSw.2.2.1).sto hst.1 (by have := hB.1; omega), (hSw.2.2.2.1).sto hst.1 (by have := hB.1; omega), (hSw.2.2.2.2.1).sto hst.1 (by have := hB.1; omega), (hSw.2.2.2.2.2.1).sto hst.1 (by have := hB.1; omega), fun h => ((hSw.2.2.2.2.2.2.1) h).stoB hst.1 hB.2 (by decide), fun h => ((hSw.2.2.2.2.2.2.2.1) h).stoB hst.1 hB.2 (by decide), fun h => ((hSw.2.2.2.2.2.2.2.2.1) h).stoB hst.1 hB.2 (by decide), fun _ => ⟨hB.1, by rw [if_pos rfl]; exact hst.2⟩, fun h => ⟨((hSw.2.2.2.2.2.2.2.2.2.2.1) h).1, ((hSw.2.2.2.2.2.2.2.2.2.2.1) h).2.sto hst.1 (fun e => (hSw.2.2.2.2.2.2.2.2.2.2.2.2.1) hda h e.symm)⟩, fun h => ⟨((hSw.2.2.2.2.2.2.2.2.2.2.2.1) h).1, ((hSw.2.2.2.2.2.2.2.2.2.2.2.1) h).2.sto hst.1 (fun e => (hSw.2.2.2.2.2.2.2.2.2.2.2.2.2.1) hda h e.symm)⟩, (hSw.2.2.2.2.2.2.2.2.2.2.2.2.1), (hSw.2.2.2.2.2.2.2.2.2.2.2.2.2.1), (hSw.2.2.2.2.2.2.2.2.2.2.2.2.2.2.1), trivial⟩))
    | 13, _, ho =>
      obtain rfl := Option.some.inj (ho.symm.trans (pl5_13 ps))
      have s10 : a.eval (.tmp 8) = .pointer (some ⟨c 10, 0, none⟩) := hs 10 8 (by rfl) rfl
      have s5 : a.eval (.tmp 19) = agv (hcL (hcOf H2 (decA (c 205) (c 305)) (c 105))) := hs 5 19 (by rfl) rfl
      have hda : D 10 = true := hrd 10 (by rfl)
      have hB := (hSw.2.2.2.2.2.2.2.2.2.2.1) hda
      have hst := (stoR (hcL (hcOf H2 (decA (c 205) (c 305)) (c 105))) hB.2)
      exact op_stoW (pl5_13 ps) rfl rfl (w' := (w.setRow (c 10) (hcL (hcOf H2 (decA (c 205) (c 305)) (c 105))).toArray)) (run_storeS rfl s10 s5 hB.2 rfl isS31 (hcL_one _)) (hK c _ (fun _ _ => rfl) (fun D' hi' hj' => by
        have hd2 : D' 2 = D 2 := hj' 2 (by decide)
        have hd5 : D' 5 = D 5 := hj' 5 (by decide)
        have hd8 : D' 8 = D 8 := hj' 8 (by decide)
        have hd9 : D' 9 = D 9 := hj' 9 (by decide)
        have hd10 : D' 10 = D 10 := hj' 10 (by decide)
        have hd11 : D' 11 = D 11 := hj' 11 (by decide)
        have hd12 : D' 12 = D 12 := hj' 12 (by decide)
        have hd13 : D' 13 = true := hi'
        have hd14 : D' 14 = D 14 := hj' 14 (by decide)
        show Below B0 WW (w.setRow (c 10) (hcL (hcOf H2 (decA (c 205) (c 305)) (c 105))).toArray) ∧ WS ≤ (w.setRow (c 10) (hcL (hcOf H2 (decA (c 205) (c 305)) (c 105))).toArray).heap.size ∧ Box (w.setRow (c 10) (hcL (hcOf H2 (decA (c 205) (c 305)) (c 105))).toArray) g 24 (asL x0) ∧ Box (w.setRow (c 10) (hcL (hcOf H2 (decA (c 205) (c 305)) (c 105))).toArray) bb 28 (sgL s k) ∧ Box (w.setRow (c 10) (hcL (hcOf H2 (decA (c 205) (c 305)) (c 105))).toArray) p 24 (asL x1) ∧ Box (w.setRow (c 10) (hcL (hcOf H2 (decA (c 205) (c 305)) (c 105))).toArray) q 28 (sgL t kt) ∧ (D' 2 = true → RowT (w.setRow (c 10) (hcL (hcOf H2 (decA (c 205) (c 305)) (c 105))).toArray) 0 (decA (c 202) (c 302)) H1.sp.length (c 102) H1.sp) ∧ (D' 5 = true → RowT (w.setRow (c 10) (hcL (hcOf H2 (decA (c 205) (c 305)) (c 105))).toArray) 0 (decA (c 205) (c 305)) H2.sp.length (c 105) H2.sp) ∧ (D' 8 = true → RowT (w.setRow (c 10) (hcL (hcOf H2 (decA (c 205) (c 305)) (c 105))).toArray) 0 (decA (c 208) (c 308)) H3.sp.length (c 108) H3.sp) ∧ (D' 9 = true → WS ≤ (c 9) ∧ Box (w.setRow (c 10) (hcL (hcOf H2 (decA (c 205) (c 305)) (c 105))).toArray) (c 9) 31 (hcL (if D' 12 = true then (hcOf H1 (decA (c 202) (c 302)) (c 102)) else hcZ))) ∧ (D' 10 = true → WS ≤ (c 10) ∧ Box (w.setRow (c 10) (hcL (hcOf H2 (decA (c 205) (c 305)) (c 105))).toArray) (c 10) 31 (hcL (if D' 13 = true then (hcOf H2 (decA (c 205) (c 305)) (c 105)) else hcZ))) ∧ (D' 11 = true → WS ≤ (c 11) ∧ Box (w.setRow (c 10) (hcL (hcOf H2 (decA (c 205) (c 305)) (c 105))).toArray) (c 11) 31 (hcL (if D' 14 = true then (hcOf H3 (decA (c 208) (c 308)) (c 108)) else hcZ))) ∧ (D' 9 = true → D' 10 = true → (c 9) ≠ (c 10)) ∧ (D' 9 = true → D' 11 = true → (c 9) ≠ (c 11)) ∧ (D' 10 = true → D' 11 = true → (c 10) ≠ (c 11)) ∧ True
        rw [hd2, hd5, hd8, hd9, hd10, hd11, hd12, hd13, hd14]
        exact ⟨hst.1.below _ _ (Nat.le_trans l0 hB.1) hSw.1, (by rw [hst.1.size]; exact (hSw.2.1)), (hSw.2.2.1).sto hst.1 (by have := hB.1; omega), (hSw.2.2.2.1).sto hst.1 (by have := hB.1; omega), (hSw.2.2.2.2.1).sto hst.1 (by have := hB.1; omega), (hSw.2.2.2.2.2.1).sto hst.1 (by have := hB.1; omega), fun h => ((hSw.2.2.2.2.2.2.1) h).stoB hst.1 hB.2 (by decide), fun h => ((hSw.2.2.2.2.2.2.2.1) h).stoB hst.1 hB.2 (by decide), fun h => ((hSw.2.2.2.2.2.2.2.2.1) h).stoB hst.1 hB.2 (by decide), fun h => ⟨((hSw.2.2.2.2.2.2.2.2.2.1) h).1, ((hSw.2.2.2.2.2.2.2.2.2.1) h).2.sto hst.1 ((hSw.2.2.2.2.2.2.2.2.2.2.2.2.1) h hda)⟩, fun _ => ⟨hB.1, by rw [if_pos rfl]; exact hst.2⟩, fun h => ⟨((hSw.2.2.2.2.2.2.2.2.2.2.2.1) h).1, ((hSw.2.2.2.2.2.2.2.2.2.2.2.1) h).2.sto hst.1 (fun e => (hSw.2.2.2.2.2.2.2.2.2.2.2.2.2.2.1) hda h e.symm)⟩, (hSw.2.2.2.2.2.2.2.2.2.2.2.2.1), (hSw.2.2.2.2.2.2.2.2.2.2.2.2.2.1), (hSw.2.2.2.2.2.2.2.2.2.2.2.2.2.2.1), trivial⟩))
    | 14, _, ho =>
      obtain rfl := Option.some.inj (ho.symm.trans (pl5_14 ps))
      have s11 : a.eval (.tmp 9) = .pointer (some ⟨c 11, 0, none⟩) := hs 11 9 (by rfl) rfl
      have s8 : a.eval (.tmp 22) = agv (hcL (hcOf H3 (decA (c 208) (c 308)) (c 108))) := hs 8 22 (by rfl) rfl
      have hda : D 11 = true := hrd 11 (by rfl)
      have hB := (hSw.2.2.2.2.2.2.2.2.2.2.2.1) hda
      have hst := (stoR (hcL (hcOf H3 (decA (c 208) (c 308)) (c 108))) hB.2)
      exact op_stoW (pl5_14 ps) rfl rfl (w' := (w.setRow (c 11) (hcL (hcOf H3 (decA (c 208) (c 308)) (c 108))).toArray)) (run_storeS rfl s11 s8 hB.2 rfl isS31 (hcL_one _)) (hK c _ (fun _ _ => rfl) (fun D' hi' hj' => by
        have hd2 : D' 2 = D 2 := hj' 2 (by decide)
        have hd5 : D' 5 = D 5 := hj' 5 (by decide)
        have hd8 : D' 8 = D 8 := hj' 8 (by decide)
        have hd9 : D' 9 = D 9 := hj' 9 (by decide)
        have hd10 : D' 10 = D 10 := hj' 10 (by decide)
        have hd11 : D' 11 = D 11 := hj' 11 (by decide)
        have hd12 : D' 12 = D 12 := hj' 12 (by decide)
        have hd13 : D' 13 = D 13 := hj' 13 (by decide)
        have hd14 : D' 14 = true := hi'
        show Below B0 WW (w.setRow (c 11) (hcL (hcOf H3 (decA (c 208) (c 308)) (c 108))).toArray) ∧ WS ≤ (w.setRow (c 11) (hcL (hcOf H3 (decA (c 208) (c 308)) (c 108))).toArray).heap.size ∧ Box (w.setRow (c 11) (hcL (hcOf H3 (decA (c 208) (c 308)) (c 108))).toArray) g 24 (asL x0) ∧ Box (w.setRow (c 11) (hcL (hcOf H3 (decA (c 208) (c 308)) (c 108))).toArray) bb 28 (sgL s k) ∧ Box (w.setRow (c 11) (hcL (hcOf H3 (decA (c 208) (c 308)) (c 108))).toArray) p 24 (asL x1) ∧ Box (w.setRow (c 11) (hcL (hcOf H3 (decA (c 208) (c 308)) (c 108))).toArray) q 28 (sgL t kt) ∧ (D' 2 = true → RowT (w.setRow (c 11) (hcL (hcOf H3 (decA (c 208) (c 308)) (c 108))).toArray) 0 (decA (c 202) (c 302)) H1.sp.length (c 102) H1.sp) ∧ (D' 5 = true → RowT (w.setRow (c 11) (hcL (hcOf H3 (decA (c 208) (c 308)) (c 108))).toArray) 0 (decA (c 205) (c 305)) H2.sp.length (c 105) H2.sp) ∧ (D' 8 = true → RowT (w.setRow (c 11) (hcL (hcOf H3 (decA (c 208) (c 308)) (c 108))).toArray) 0 (decA (c 208) (c 308)) H3.sp.length (c 108) H3.sp) ∧ (D' 9 = true → WS ≤ (c 9) ∧ Box (w.setRow (c 11) (hcL (hcOf H3 (decA (c 208) (c 308)) (c 108))).toArray) (c 9) 31 (hcL (if D' 12 = true then (hcOf H1 (decA (c 202) (c 302)) (c 102)) else hcZ))) ∧ (D' 10 = true → WS ≤ (c 10) ∧ Box (w.setRow (c 11) (hcL (hcOf H3 (decA (c 208) (c 308)) (c 108))).toArray) (c 10) 31 (hcL (if D' 13 = true then (hcOf H2 (decA (c 205) (c 305)) (c 105)) else hcZ))) ∧ (D' 11 = true → WS ≤ (c 11) ∧ Box (w.setRow (c 11) (hcL (hcOf H3 (decA (c 208) (c 308)) (c 108))).toArray) (c 11) 31 (hcL (if D' 14 = true then (hcOf H3 (decA (c 208) (c 308)) (c 108)) else hcZ))) ∧ (D' 9 = true → D' 10 = true → (c 9) ≠ (c 10)) ∧ (D' 9 = true → D' 11 = true → (c 9) ≠ (c 11)) ∧ (D' 10 = true → D' 11 = true → (c 10) ≠ (c 11)) ∧ True
        rw [hd2, hd5, hd8, hd9, hd10, hd11, hd12, hd13, hd14]
        exact ⟨hst.1.below _ _ (Nat.le_trans l0 hB.1) hSw.1, (by rw [hst.1.size]; exact (hSw.2.1)), (hSw.2.2.1).sto hst.1 (by have := hB.1; omega), (hSw.2.2.2.1).sto hst.1 (by have := hB.1; omega), (hSw.2.2.2.2.1).sto hst.1 (by have := hB.1; omega), (hSw.2.2.2.2.2.1).sto hst.1 (by have := hB.1; omega), fun h => ((hSw.2.2.2.2.2.2.1) h).stoB hst.1 hB.2 (by decide), fun h => ((hSw.2.2.2.2.2.2.2.1) h).stoB hst.1 hB.2 (by decide), fun h => ((hSw.2.2.2.2.2.2.2.2.1) h).stoB hst.1 hB.2 (by decide), fun h => ⟨((hSw.2.2.2.2.2.2.2.2.2.1) h).1, ((hSw.2.2.2.2.2.2.2.2.2.1) h).2.sto hst.1 ((hSw.2.2.2.2.2.2.2.2.2.2.2.2.2.1) h hda)⟩, fun h => ⟨((hSw.2.2.2.2.2.2.2.2.2.2.1) h).1, ((hSw.2.2.2.2.2.2.2.2.2.2.1) h).2.sto hst.1 ((hSw.2.2.2.2.2.2.2.2.2.2.2.2.2.2.1) h hda)⟩, fun _ => ⟨hB.1, by rw [if_pos rfl]; exact hst.2⟩, (hSw.2.2.2.2.2.2.2.2.2.2.2.2.1), (hSw.2.2.2.2.2.2.2.2.2.2.2.2.2.1), (hSw.2.2.2.2.2.2.2.2.2.2.2.2.2.2.1), trivial⟩))
    | iq + 15, hin, _ => exact absurd hin (by omega)
end Go.Proofs.Ytdodagpkkjpdiaa
