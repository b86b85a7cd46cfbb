/- AckShifts: its regions that draw their order. -/
import Derived.Test.YtdodagpkkjpdiaaADec
import Derived.Test.YtdodagpkkjpdiaaAHeads
namespace Go.Proofs.Ytdodagpkkjpdiaa
open Go.ChangeShapes Go.WideShapes Go.ChangeAt Go.RowKit Go.Shelf
set_option linter.unusedVariables false
set_option linter.unusedSimpArgs false
attribute [local go_sem] Oper.semAt_some

theorem wrapU (x : Int) : IntKind.u32.wrap x = x % 4294967296 := by simp [IntKind.wrap, IntKind.signed, IntKind.bits]
def sh3O0 (ps : String) : Oper := { dst := some 17, op := .load 24 (.tmp 4), type := 24, pos := ps, after := #[], guard := none }
def sh3O1 (ps : String) : Oper := { dst := some 18, op := .load 28 (.tmp 5), type := 28, pos := ps, after := #[{ on := 4, ground := .gcOnly .lateStores }], guard := none }
def sh3O2 (ps : String) : Oper := { dst := some 9, op := .alloc 24, type := 0, pos := ps, after := #[], guard := none }
def sh3O3 (ps : String) : Oper := { dst := some 10, op := .alloc 28, type := 0, pos := ps, after := #[], guard := none }
def sh3O4 (ps : String) : Oper := { dst := none, op := .store 24 (.tmp 9) (.tmp 17), type := 0, pos := ps, after := #[{ on := 2, ground := .data }, { on := 0, ground := .data }, { on := 0, ground := .phase }, { on := 1, ground := .textOnly .lateStores }, { on := 2, ground := .phase }, { on := 3, ground := .phase }], guard := none }
def sh3O5 (ps : String) : Oper := { dst := none, op := .store 28 (.tmp 10) (.tmp 18), type := 0, pos := ps, after := #[{ on := 3, ground := .data }, { on := 1, ground := .data }, { on := 4, ground := .chain }, { on := 0, ground := .phase }, { on := 1, ground := .phase }, { on := 2, ground := .phase }, { on := 3, ground := .phase }, { on := 4, ground := .phase }], guard := none }
def sh3 (ps : String) : Array Oper := #[sh3O0 ps, sh3O1 ps, sh3O2 ps, sh3O3 ps, sh3O4 ps, sh3O5 ps]
theorem sh3_0 (ps : String) : (sh3 ps)[0]? = some (sh3O0 ps) := rfl
theorem sh3_1 (ps : String) : (sh3 ps)[1]? = some (sh3O1 ps) := rfl
theorem sh3_2 (ps : String) : (sh3 ps)[2]? = some (sh3O2 ps) := rfl
theorem sh3_3 (ps : String) : (sh3 ps)[3]? = some (sh3O3 ps) := rfl
theorem sh3_4 (ps : String) : (sh3 ps)[4]? = some (sh3O4 ps) := rfl
theorem sh3_5 (ps : String) : (sh3 ps)[5]? = some (sh3O5 ps) := rfl
def sh3D : Nat → Option Tmp
  | 0 => some 17
  | 1 => some 18
  | 2 => some 9
  | 3 => some 10
  | 4 => none
  | 5 => none
  | _ => none
def sh3T (x0 : Ak.As) (s : Seg) (k : Hs) (g bb WS B0 : Nat) (WW : World) (c : Nat → Nat) : Nat → Value
  | 0 => agv (asL x0)
  | 1 => agv (sgL s k)
  | 2 => .pointer (some ⟨c 2, 0, none⟩)
  | 3 => .pointer (some ⟨c 3, 0, none⟩)
  | 4 => undef
  | 5 => undef
  | _ => undef
set_option maxRecDepth 100000 in
set_option maxHeartbeats 4000000 in
theorem sh3T_congr (x0 : Ak.As) (s : Seg) (k : Hs) (g bb WS B0 : Nat) (WW : World) (c c' : Nat → Nat) : ∀ j, c' j = c j → sh3T x0 s k g bb WS B0 WW c' j = sh3T x0 s k g bb WS B0 WW c j
  | 0, h => rfl
  | 1, h => rfl
  | 2, h => by simp only [sh3T]; rw [h]
  | 3, h => by simp only [sh3T]; rw [h]
  | 4, h => rfl
  | 5, h => rfl
  | _ + 6, _ => rfl
theorem sh3_reg {ps : String} {Q : Exit → Act → World → Prop} {a0 : Act} {W0 : World} (sz : a0.tmps.size = 79) (x0 : Ak.As) (s : Seg) (k : Hs) (g bb WS B0 : Nat) (WW : World)
    (e4 : a0.eval (.tmp 4) = .pointer (some ⟨g, 0, none⟩)) (e5 : a0.eval (.tmp 5) = .pointer (some ⟨bb, 0, none⟩))
    (l0 : B0 ≤ WS) (lg : g < WS) (lb : bb < WS) (hS0 : Below B0 WW W0 ∧ WS ≤ W0.heap.size ∧ Box W0 g 24 (asL x0) ∧ Box W0 bb 28 (sgL s k))
    (hfin : ∀ (c : Nat → Nat) (T : Nat → Value) w, T 2 = .pointer (some ⟨c 2, 0, none⟩) → T 3 = .pointer (some ⟨c 3, 0, none⟩) → Below B0 WW w ∧ WS ≤ w.heap.size ∧ Box w g 24 (asL x0) ∧ Box w bb 28 (sgL s k) ∧ (true = true → WS ≤ (c 2) ∧ Box w (c 2) 24 (asL (if true = true then x0 else asZ))) ∧ (true = true → WS ≤ (c 3) ∧ Box w (c 3) 28 (sgL (if true = true then s else zeroS) (if true = true then k else hsZ))) ∧ True → Q .normal ((((a0.put (some 17) (T 0)).put (some 18) (T 1)).put (some 9) (T 2)).put (some 10) (T 3)) w) :
    (Code.region 3 (sh3 ps) true).wp Try.prog Q a0 W0 := by
  refine wp_region_detg (by kernel_rfl) 6 rfl sh3D ?_ (by decide) (sh3T x0 s k g bb WS B0 WW) (fun c D w => Below B0 WW w ∧ WS ≤ w.heap.size ∧ Box w g 24 (asL x0) ∧ Box w bb 28 (sgL s k) ∧ (D 2 = true → WS ≤ (c 2) ∧ Box w (c 2) 24 (asL (if D 4 = true then x0 else asZ))) ∧ (D 3 = true → WS ≤ (c 3) ∧ Box w (c 3) 28 (sgL (if D 5 = true then s else zeroS) (if D 5 = true then k else hsZ))) ∧ True) (fun _ => 0) (fun D hD => by
    show Below B0 WW W0.drew ∧ WS ≤ W0.drew.heap.size ∧ Box W0.drew g 24 (asL x0) ∧ Box W0.drew bb 28 (sgL s k) ∧ (D 2 = true → WS ≤ 0 ∧ Box W0.drew 0 24 (asL (if D 4 = true then x0 else asZ))) ∧ (D 3 = true → WS ≤ 0 ∧ Box W0.drew 0 28 (sgL (if D 5 = true then s else zeroS) (if D 5 = true then k else hsZ))) ∧ True
    rw [hD 2, hD 3, hD 4, hD 5]
    exact ⟨hS0.1.drew, hS0.2.1, hS0.2.2.1, hS0.2.2.2, fun h => (by cases h), fun h => (by cases h), trivial⟩) ?_ (by rfl) (fun c w D hD hSw => by
    have hSw' : Below B0 WW w ∧ WS ≤ w.heap.size ∧ Box w g 24 (asL x0) ∧ Box w bb 28 (sgL s k) ∧ (D 2 = true → WS ≤ (c 2) ∧ Box w (c 2) 24 (asL (if D 4 = true then x0 else asZ))) ∧ (D 3 = true → WS ≤ (c 3) ∧ Box w (c 3) 28 (sgL (if D 5 = true then s else zeroS) (if D 5 = true then k else hsZ))) ∧ True := hSw
    rw [hD 2 (by decide), hD 3 (by decide), hD 4 (by decide), hD 5 (by decide)] at hSw'
    exact hfin c (sh3T x0 s k g bb WS B0 WW c) w rfl rfl hSw')
  · intro jq t hj ht
    have : ∀ j, j < 6 → (sh3D j).all (· < 79) = true := by decide
    have := this jq hj
    rw [ht] at this
    rw [sz]
    simpa using this
  · intro iq o ho c D a w hSw hDi hcl hrd hs hel K hK
    have hin : iq < 6 := (Array.getElem?_eq_some_iff.1 ho).1
    match iq, hin, ho with
    | 0, _, ho =>
      obtain rfl := Option.some.inj (ho.symm.trans (sh3_0 ps))
      have u4 : a.eval (.tmp 4) = .pointer (some ⟨g, 0, none⟩) := (hel 4 (by decide)).trans e4
      exact op_valW (sh3_0 ps) rfl (v := agv (asL x0)) (run_loadS isS24 rfl u4 (hSw.2.2.1)) (hK c w (fun _ _ => rfl) (fun D' hi' hj' => by
        have hd2 : D' 2 = D 2 := hj' 2 (by decide)
        have hd3 : D' 3 = D 3 := hj' 3 (by decide)
        have hd4 : D' 4 = D 4 := hj' 4 (by decide)
        have hd5 : D' 5 = D 5 := hj' 5 (by decide)
        show Below B0 WW w ∧ WS ≤ w.heap.size ∧ Box w g 24 (asL x0) ∧ Box w bb 28 (sgL s k) ∧ (D' 2 = true → WS ≤ (c 2) ∧ Box w (c 2) 24 (asL (if D' 4 = true then x0 else asZ))) ∧ (D' 3 = true → WS ≤ (c 3) ∧ Box w (c 3) 28 (sgL (if D' 5 = true then s else zeroS) (if D' 5 = true then k else hsZ))) ∧ True
        rw [hd2, hd3, hd4, hd5]
        exact hSw))
    | 1, _, ho =>
      obtain rfl := Option.some.inj (ho.symm.trans (sh3_1 ps))
      have u5 : a.eval (.tmp 5) = .pointer (some ⟨bb, 0, none⟩) := (hel 5 (by decide)).trans e5
      exact op_valW (sh3_1 ps) rfl (v := agv (sgL s k)) (run_loadS isS28 rfl u5 (hSw.2.2.2.1)) (hK c w (fun _ _ => rfl) (fun D' hi' hj' => by
        have hd2 : D' 2 = D 2 := hj' 2 (by decide)
        have hd3 : D' 3 = D 3 := hj' 3 (by decide)
        have hd4 : D' 4 = D 4 := hj' 4 (by decide)
        have hd5 : D' 5 = D 5 := hj' 5 (by decide)
        show Below B0 WW w ∧ WS ≤ w.heap.size ∧ Box w g 24 (asL x0) ∧ Box w bb 28 (sgL s k) ∧ (D' 2 = true → WS ≤ (c 2) ∧ Box w (c 2) 24 (asL (if D' 4 = true then x0 else asZ))) ∧ (D' 3 = true → WS ≤ (c 3) ∧ Box w (c 3) 28 (sgL (if D' 5 = true then s else zeroS) (if D' 5 = true then k else hsZ))) ∧ True
        rw [hd2, hd3, hd4, hd5]
        exact hSw))
    | 2, _, ho =>
      obtain rfl := Option.some.inj (ho.symm.trans (sh3_2 ps))
      refine op_allocW (sh3_2 ps) rfl rfl rfl zero24 (hK (fun k => if k = 2 then w.heap.size else c k) _ (fun j hj => ?_) (fun D' hi' hj' => ?_))
      · have hji : j ≠ 2 := by rintro rfl; rw [hDi] at hj; cases hj
        exact sh3T_congr _ _ _ _ _ _ _ _ _ _ j (if_neg hji)
      · have hd2 : D' 2 = true := hi'
        have hd3 : D' 3 = D 3 := hj' 3 (by decide)
        have hd4 : D' 4 = D 4 := hj' 4 (by decide)
        have hd5 : D' 5 = D 5 := hj' 5 (by decide)
        show Below B0 WW (w.alloc (.cells (asL asZ).toArray 24)) ∧ WS ≤ (w.alloc (.cells (asL asZ).toArray 24)).heap.size ∧ Box (w.alloc (.cells (asL asZ).toArray 24)) g 24 (asL x0) ∧ Box (w.alloc (.cells (asL asZ).toArray 24)) bb 28 (sgL s k) ∧ (D' 2 = true → WS ≤ w.heap.size ∧ Box (w.alloc (.cells (asL asZ).toArray 24)) w.heap.size 24 (asL (if D' 4 = true then x0 else asZ))) ∧ (D' 3 = true → WS ≤ (c 3) ∧ Box (w.alloc (.cells (asL asZ).toArray 24)) (c 3) 28 (sgL (if D' 5 = true then s else zeroS) (if D' 5 = true then k else hsZ))) ∧ True
        rw [hd2, hd3, hd4, hd5]
        exact ⟨hSw.1.alloc (Nat.le_trans l0 (hSw.2.1)) _, Nat.le_trans (hSw.2.1) (by simp), (hSw.2.2.1).alloc _, (hSw.2.2.2.1).alloc _, fun _ => ⟨(hSw.2.1), by rw [(show D 4 = false from (by cases h : D 4 with | false => rfl | true => exact absurd (hcl 4 _ 2 (sh3_4 ps) (by rfl) h) (by rw [hDi]; simp))), if_neg (by simp)]; exact Box.new w 24 (asL asZ)⟩, fun h => ⟨((hSw.2.2.2.2.2.1) h).1, ((hSw.2.2.2.2.2.1) h).2.alloc _⟩, trivial⟩
    | 3, _, ho =>
      obtain rfl := Option.some.inj (ho.symm.trans (sh3_3 ps))
      refine op_allocW (sh3_3 ps) rfl rfl rfl zero28 (hK (fun k => if k = 3 then w.heap.size else c k) _ (fun j hj => ?_) (fun D' hi' hj' => ?_))
      · have hji : j ≠ 3 := by rintro rfl; rw [hDi] at hj; cases hj
        exact sh3T_congr _ _ _ _ _ _ _ _ _ _ j (if_neg hji)
      · have hd2 : D' 2 = D 2 := hj' 2 (by decide)
        have hd3 : D' 3 = true := hi'
        have hd4 : D' 4 = D 4 := hj' 4 (by decide)
        have hd5 : D' 5 = D 5 := hj' 5 (by decide)
        show Below B0 WW (w.alloc (.cells (sgZ).toArray 28)) ∧ WS ≤ (w.alloc (.cells (sgZ).toArray 28)).heap.size ∧ Box (w.alloc (.cells (sgZ).toArray 28)) g 24 (asL x0) ∧ Box (w.alloc (.cells (sgZ).toArray 28)) bb 28 (sgL s k) ∧ (D' 2 = true → WS ≤ (c 2) ∧ Box (w.alloc (.cells (sgZ).toArray 28)) (c 2) 24 (asL (if D' 4 = true then x0 else asZ))) ∧ (D' 3 = true → WS ≤ w.heap.size ∧ Box (w.alloc (.cells (sgZ).toArray 28)) w.heap.size 28 (sgL (if D' 5 = true then s else zeroS) (if D' 5 = true then k else hsZ))) ∧ True
        rw [hd2, hd3, hd4, hd5]
        exact ⟨hSw.1.alloc (Nat.le_trans l0 (hSw.2.1)) _, Nat.le_trans (hSw.2.1) (by simp), (hSw.2.2.1).alloc _, (hSw.2.2.2.1).alloc _, fun h => ⟨((hSw.2.2.2.2.1) h).1, ((hSw.2.2.2.2.1) h).2.alloc _⟩, fun _ => ⟨(hSw.2.1), by rw [(show D 5 = false from (by cases h : D 5 with | false => rfl | true => exact absurd (hcl 5 _ 3 (sh3_5 ps) (by rfl) h) (by rw [hDi]; simp))), if_neg (by simp), if_neg (by simp)]; exact Box.new w 28 sgZ⟩, trivial⟩
    | 4, _, ho =>
      obtain rfl := Option.some.inj (ho.symm.trans (sh3_4 ps))
      have s2 : a.eval (.tmp 9) = .pointer (some ⟨c 2, 0, none⟩) := hs 2 9 (by rfl) rfl
      have s0 : a.eval (.tmp 17) = agv (asL x0) := hs 0 17 (by rfl) rfl
      have hda : D 2 = true := hrd 2 (by rfl)
      have hB := (hSw.2.2.2.2.1) hda
      have hst := (stoR (asL x0) hB.2)
      exact op_stoW (sh3_4 ps) rfl rfl (w' := (w.setRow (c 2) (asL x0).toArray)) (run_storeS rfl s2 s0 hB.2 rfl isS24 (asL_one _)) (hK c _ (fun _ _ => rfl) (fun D' hi' hj' => by
        have hd2 : D' 2 = D 2 := hj' 2 (by decide)
        have hd3 : D' 3 = D 3 := hj' 3 (by decide)
        have hd4 : D' 4 = true := hi'
        have hd5 : D' 5 = D 5 := hj' 5 (by decide)
        show Below B0 WW (w.setRow (c 2) (asL x0).toArray) ∧ WS ≤ (w.setRow (c 2) (asL x0).toArray).heap.size ∧ Box (w.setRow (c 2) (asL x0).toArray) g 24 (asL x0) ∧ Box (w.setRow (c 2) (asL x0).toArray) bb 28 (sgL s k) ∧ (D' 2 = true → WS ≤ (c 2) ∧ Box (w.setRow (c 2) (asL x0).toArray) (c 2) 24 (asL (if D' 4 = true then x0 else asZ))) ∧ (D' 3 = true → WS ≤ (c 3) ∧ Box (w.setRow (c 2) (asL x0).toArray) (c 3) 28 (sgL (if D' 5 = true then s else zeroS) (if D' 5 = true then k else hsZ))) ∧ True
        rw [hd2, hd3, hd4, hd5]
        exact ⟨hst.1.below _ _ (Nat.le_trans l0 hB.1) hSw.1, (by rw [hst.1.size]; exact (hSw.2.1)), (hSw.2.2.1).sto hst.1 (by have := hB.1; omega), (hSw.2.2.2.1).sto hst.1 (by have := hB.1; omega), fun _ => ⟨hB.1, by rw [if_pos rfl]; exact hst.2⟩, fun h => ⟨((hSw.2.2.2.2.2.1) h).1, ((hSw.2.2.2.2.2.1) h).2.sto hst.1 (box_ne ((hSw.2.2.2.2.2.1) h).2 hB.2 (by decide))⟩, trivial⟩))
    | 5, _, ho =>
      obtain rfl := Option.some.inj (ho.symm.trans (sh3_5 ps))
      have s3 : a.eval (.tmp 10) = .pointer (some ⟨c 3, 0, none⟩) := hs 3 10 (by rfl) rfl
      have s1 : a.eval (.tmp 18) = agv (sgL s k) := hs 1 18 (by rfl) rfl
      have hda : D 3 = true := hrd 3 (by rfl)
      have hB := (hSw.2.2.2.2.2.1) hda
      have hst := (stoR (sgL s k) hB.2)
      exact op_stoW (sh3_5 ps) rfl rfl (w' := (w.setRow (c 3) (sgL s k).toArray)) (run_storeS rfl s3 s1 hB.2 rfl isS28 (sgL_one _)) (hK c _ (fun _ _ => rfl) (fun D' hi' hj' => by
        have hd2 : D' 2 = D 2 := hj' 2 (by decide)
        have hd3 : D' 3 = D 3 := hj' 3 (by decide)
        have hd4 : D' 4 = D 4 := hj' 4 (by decide)
        have hd5 : D' 5 = true := hi'
        show Below B0 WW (w.setRow (c 3) (sgL s k).toArray) ∧ WS ≤ (w.setRow (c 3) (sgL s k).toArray).heap.size ∧ Box (w.setRow (c 3) (sgL s k).toArray) g 24 (asL x0) ∧ Box (w.setRow (c 3) (sgL s k).toArray) bb 28 (sgL s k) ∧ (D' 2 = true → WS ≤ (c 2) ∧ Box (w.setRow (c 3) (sgL s k).toArray) (c 2) 24 (asL (if D' 4 = true then x0 else asZ))) ∧ (D' 3 = true → WS ≤ (c 3) ∧ Box (w.setRow (c 3) (sgL s k).toArray) (c 3) 28 (sgL (if D' 5 = true then s else zeroS) (if D' 5 = true then k else hsZ))) ∧ True
        rw [hd2, hd3, hd4, hd5]
        exact ⟨hst.1.below _ _ (Nat.le_trans l0 hB.1) hSw.1, (by rw [hst.1.size]; exact (hSw.2.1)), (hSw.2.2.1).sto hst.1 (by have := hB.1; omega), (hSw.2.2.2.1).sto hst.1 (by have := hB.1; omega), fun h => ⟨((hSw.2.2.2.2.1) h).1, ((hSw.2.2.2.2.1) h).2.sto hst.1 (box_ne ((hSw.2.2.2.2.1) h).2 hB.2 (by decide))⟩, fun _ => ⟨hB.1, by rw [if_pos rfl, if_pos rfl]; exact hst.2⟩, trivial⟩))
    | iq + 6, hin, _ => exact absurd hin (by omega)
def sh4O0 (ps : String) : Oper := { dst := some 19, op := .fieldAddr 24 (.tmp 4) 2, type := 0, pos := ps, after := #[], guard := none }
def sh4O1 (ps : String) : Oper := { dst := some 20, op := .load 22 (.tmp 19), type := 22, pos := ps, after := #[{ on := 0, ground := .data }], guard := none }
def sh4O2 (ps : String) : Oper := { dst := some 21, op := .move (.tmp 2), type := 22, pos := ps, after := #[], guard := none }
def sh4O3 (ps : String) : Oper := { dst := some 22, op := .binOp .add 22 (.tmp 20) (.tmp 21) 22, type := 22, pos := ps, after := #[{ on := 1, ground := .data }, { on := 2, ground := .data }], guard := none }
def sh4O4 (ps : String) : Oper := { dst := some 23, op := .fieldAddr 24 (.tmp 4) 4, type := 0, pos := ps, after := #[{ on := 9, ground := .gcOnly .lateStores }], guard := none }
def sh4O5 (ps : String) : Oper := { dst := some 24, op := .load 22 (.tmp 23), type := 22, pos := ps, after := #[{ on := 4, ground := .data }, { on := 9, ground := .gcOnly .lateStores }], guard := none }
def sh4O6 (ps : String) : Oper := { dst := some 25, op := .move (.tmp 3), type := 22, pos := ps, after := #[{ on := 9, ground := .gcOnly .lateStores }], guard := none }
def sh4O7 (ps : String) : Oper := { dst := some 26, op := .binOp .add 22 (.tmp 24) (.tmp 25) 22, type := 22, pos := ps, after := #[{ on := 5, ground := .data }, { on := 6, ground := .data }, { on := 9, ground := .gcOnly .lateStores }], guard := none }
def sh4O8 (ps : String) : Oper := { dst := some 27, op := .fieldAddr 24 (.tmp 9) 2, type := 0, pos := ps, after := #[{ on := 0, ground := .phase }, { on := 1, ground := .phase }, { on := 2, ground := .phase }, { on := 3, ground := .phase }, { on := 4, ground := .textOnly .lateStores }, { on := 5, ground := .textOnly .lateStores }, { on := 6, ground := .textOnly .lateStores }, { on := 7, ground := .textOnly .lateStores }], guard := none }
def sh4O9 (ps : String) : Oper := { dst := none, op := .store 22 (.tmp 27) (.tmp 22), type := 0, pos := ps, after := #[{ on := 8, ground := .data }, { on := 3, ground := .data }, { on := 0, ground := .phase }, { on := 1, ground := .phase }, { on := 2, ground := .phase }, { on := 3, ground := .phase }, { on := 4, ground := .textOnly .lateStores }, { on := 5, ground := .textOnly .lateStores }, { on := 6, ground := .textOnly .lateStores }, { on := 7, ground := .textOnly .lateStores }], guard := none }
def sh4O10 (ps : String) : Oper := { dst := some 28, op := .fieldAddr 24 (.tmp 9) 4, type := 0, pos := ps, after := #[{ on := 0, ground := .phase }, { on := 1, ground := .phase }, { on := 2, ground := .phase }, { on := 3, ground := .phase }, { on := 4, ground := .phase }, { on := 5, ground := .phase }, { on := 6, ground := .phase }, { on := 7, ground := .phase }, { on := 8, ground := .phase }, { on := 9, ground := .phase }], guard := none }
def sh4O11 (ps : String) : Oper := { dst := none, op := .store 22 (.tmp 28) (.tmp 26), type := 0, pos := ps, after := #[{ on := 10, ground := .data }, { on := 7, ground := .data }, { on := 9, ground := .chain }, { on := 0, ground := .phase }, { on := 1, ground := .phase }, { on := 2, ground := .phase }, { on := 3, ground := .phase }, { on := 4, ground := .phase }, { on := 5, ground := .phase }, { on := 6, ground := .phase }, { on := 7, ground := .phase }, { on := 8, ground := .phase }, { on := 9, ground := .phase }], guard := none }
def sh4 (ps : String) : Array Oper := #[sh4O0 ps, sh4O1 ps, sh4O2 ps, sh4O3 ps, sh4O4 ps, sh4O5 ps, sh4O6 ps, sh4O7 ps, sh4O8 ps, sh4O9 ps, sh4O10 ps, sh4O11 ps]
theorem sh4_0 (ps : String) : (sh4 ps)[0]? = some (sh4O0 ps) := rfl
theorem sh4_1 (ps : String) : (sh4 ps)[1]? = some (sh4O1 ps) := rfl
theorem sh4_2 (ps : String) : (sh4 ps)[2]? = some (sh4O2 ps) := rfl
theorem sh4_3 (ps : String) : (sh4 ps)[3]? = some (sh4O3 ps) := rfl
theorem sh4_4 (ps : String) : (sh4 ps)[4]? = some (sh4O4 ps) := rfl
theorem sh4_5 (ps : String) : (sh4 ps)[5]? = some (sh4O5 ps) := rfl
theorem sh4_6 (ps : String) : (sh4 ps)[6]? = some (sh4O6 ps) := rfl
theorem sh4_7 (ps : String) : (sh4 ps)[7]? = some (sh4O7 ps) := rfl
theorem sh4_8 (ps : String) : (sh4 ps)[8]? = some (sh4O8 ps) := rfl
theorem sh4_9 (ps : String) : (sh4 ps)[9]? = some (sh4O9 ps) := rfl
theorem sh4_10 (ps : String) : (sh4 ps)[10]? = some (sh4O10 ps) := rfl
theorem sh4_11 (ps : String) : (sh4 ps)[11]? = some (sh4O11 ps) := rfl
def sh4D : Nat → Option Tmp
  | 0 => some 19
  | 1 => some 20
  | 2 => some 21
  | 3 => some 22
  | 4 => some 23
  | 5 => some 24
  | 6 => some 25
  | 7 => some 26
  | 8 => some 27
  | 9 => none
  | 10 => some 28
  | 11 => none
  | _ => none
def sh4T (x0 : Ak.As) (s : Seg) (k : Hs) (u v : Int) (g bb p q B0 : Nat) (WW : World) : Nat → Value
  | 0 => .pointer (some ⟨g, 2, none⟩)
  | 1 => .int .u32 x0.iss
  | 2 => .int .u32 u
  | 3 => .int .u32 ((x0.iss + u) % 4294967296)
  | 4 => .pointer (some ⟨g, 4, none⟩)
  | 5 => .int .u32 x0.irs
  | 6 => .int .u32 v
  | 7 => .int .u32 ((x0.irs + v) % 4294967296)
  | 8 => .pointer (some ⟨p, 2, none⟩)
  | 9 => undef
  | 10 => .pointer (some ⟨p, 4, none⟩)
  | 11 => undef
  | _ => undef
set_option maxRecDepth 100000 in
set_option maxHeartbeats 4000000 in
theorem sh4_reg {ps : String} {Q : Exit → Act → World → Prop} {a0 : Act} {W0 : World} (sz : a0.tmps.size = 79) (x0 : Ak.As) (s : Seg) (k : Hs) (u v : Int) (g bb p q B0 : Nat) (WW : World)
    (e4 : a0.eval (.tmp 4) = .pointer (some ⟨g, 0, none⟩)) (e2 : a0.eval (.tmp 2) = .int .u32 u) (e3 : a0.eval (.tmp 3) = .int .u32 v) (e9 : a0.eval (.tmp 9) = .pointer (some ⟨p, 0, none⟩))
    (hq : B0 ≤ p) (hn0 : g ≠ p) (hn1 : bb ≠ p) (hn3 : q ≠ p) (hS0 : Below B0 WW W0 ∧ Box W0 g 24 (asL x0) ∧ Box W0 bb 28 (sgL s k) ∧ Box W0 p 24 (asL { x0 with iss := x0.iss, irs := x0.irs }) ∧ Box W0 q 28 (sgL s k) ∧ True)
    (hfin : ∀ (T : Nat → Value) w, Below B0 WW w ∧ Box w g 24 (asL x0) ∧ Box w bb 28 (sgL s k) ∧ Box w p 24 (asL { x0 with iss := (x0.iss + u) % 4294967296, irs := (x0.irs + v) % 4294967296 }) ∧ Box w q 28 (sgL s k) ∧ True → Q .normal ((((((((((a0.put (some 19) (T 0)).put (some 20) (T 1)).put (some 21) (T 2)).put (some 22) (T 3)).put (some 23) (T 4)).put (some 24) (T 5)).put (some 25) (T 6)).put (some 26) (T 7)).put (some 27) (T 8)).put (some 28) (T 10)) w) :
    (Code.region 4 (sh4 ps) true).wp Try.prog Q a0 W0 := by
  refine wp_region_dets (by kernel_rfl) 12 rfl sh4D ?_ (by decide) (sh4T x0 s k u v g bb p q B0 WW) (fun D w => Below B0 WW w ∧ Box w g 24 (asL x0) ∧ Box w bb 28 (sgL s k) ∧ Box w p 24 (asL { x0 with iss := (if D 9 = true then (x0.iss + u) % 4294967296 else x0.iss), irs := (if D 11 = true then (x0.irs + v) % 4294967296 else x0.irs) }) ∧ Box w q 28 (sgL s k) ∧ True) (fun D hD => by
    show Below B0 WW W0.drew ∧ Box W0.drew g 24 (asL x0) ∧ Box W0.drew bb 28 (sgL s k) ∧ Box W0.drew p 24 (asL { x0 with iss := (if D 9 = true then (x0.iss + u) % 4294967296 else x0.iss), irs := (if D 11 = true then (x0.irs + v) % 4294967296 else x0.irs) }) ∧ Box W0.drew q 28 (sgL s k) ∧ True
    rw [hD 9, hD 11]
    exact ⟨hS0.1.drew, hS0.2.1, hS0.2.2.1, hS0.2.2.2.1, hS0.2.2.2.2.1, trivial⟩) ?_ (by rfl) (fun w D hD hSw => by
    have hSw' : Below B0 WW w ∧ Box w g 24 (asL x0) ∧ Box w bb 28 (sgL s k) ∧ Box w p 24 (asL { x0 with iss := (if D 9 = true then (x0.iss + u) % 4294967296 else x0.iss), irs := (if D 11 = true then (x0.irs + v) % 4294967296 else x0.irs) }) ∧ Box w q 28 (sgL s k) ∧ True := hSw
    rw [hD 9 (by decide), hD 11 (by decide)] at hSw'
    exact hfin (sh4T x0 s k u v g bb p q B0 WW) w  hSw')
  · intro jq t hj ht
    have : ∀ j, j < 12 → (sh4D j).all (· < 79) = true := by decide
    have := this jq hj
    rw [ht] at this
    rw [sz]
    simpa using this
  · intro iq o ho D a w hSw hDi hcl hs hel K hK
    have hin : iq < 12 := (Array.getElem?_eq_some_iff.1 ho).1
    match iq, hin, ho with
    | 0, _, ho =>
      obtain rfl := Option.some.inj (ho.symm.trans (sh4_0 ps))
      have u4 : a.eval (.tmp 4) = .pointer (some ⟨g, 0, none⟩) := (hel 4 (by decide)).trans e4
      exact op_valW (sh4_0 ps) rfl (v := .pointer (some ⟨g, 2, none⟩)) (by unfold sh4O0 execOp; simp only [u4]; first | (go_simp; done) | (go_simp; with_reducible rfl)) (hK w (fun D' hi' hj' => by
        have hd9 : D' 9 = D 9 := hj' 9 (by decide)
        have hd11 : D' 11 = D 11 := hj' 11 (by decide)
        show Below B0 WW w ∧ Box w g 24 (asL x0) ∧ Box w bb 28 (sgL s k) ∧ Box w p 24 (asL { x0 with iss := (if D' 9 = true then (x0.iss + u) % 4294967296 else x0.iss), irs := (if D' 11 = true then (x0.irs + v) % 4294967296 else x0.irs) }) ∧ Box w q 28 (sgL s k) ∧ True
        rw [hd9, hd11]
        exact hSw))
    | 1, _, ho =>
      obtain rfl := Option.some.inj (ho.symm.trans (sh4_1 ps))
      have s0 : a.eval (.tmp 19) = .pointer (some ⟨g, 2, none⟩) := hs 0 19 (by rfl) rfl
      have hcl := Box.cell (hSw.2.1) 2 rfl
      exact op_valW (sh4_1 ps) rfl (v := .int .u32 x0.iss) (by unfold sh4O1 execOp; simp only [s0]; first | (go_simp; done) | (go_simp; with_reducible rfl)) (hK w (fun D' hi' hj' => by
        have hd9 : D' 9 = D 9 := hj' 9 (by decide)
        have hd11 : D' 11 = D 11 := hj' 11 (by decide)
        show Below B0 WW w ∧ Box w g 24 (asL x0) ∧ Box w bb 28 (sgL s k) ∧ Box w p 24 (asL { x0 with iss := (if D' 9 = true then (x0.iss + u) % 4294967296 else x0.iss), irs := (if D' 11 = true then (x0.irs + v) % 4294967296 else x0.irs) }) ∧ Box w q 28 (sgL s k) ∧ True
        rw [hd9, hd11]
        exact hSw))
    | 2, _, ho =>
      obtain rfl := Option.some.inj (ho.symm.trans (sh4_2 ps))
      have u2 : a.eval (.tmp 2) = .int .u32 u := (hel 2 (by decide)).trans e2
      exact op_valW (sh4_2 ps) rfl (v := .int .u32 u) (by unfold sh4O2 execOp; simp only [u2]; first | (go_simp; done) | (go_simp; with_reducible rfl)) (hK w (fun D' hi' hj' => by
        have hd9 : D' 9 = D 9 := hj' 9 (by decide)
        have hd11 : D' 11 = D 11 := hj' 11 (by decide)
        show Below B0 WW w ∧ Box w g 24 (asL x0) ∧ Box w bb 28 (sgL s k) ∧ Box w p 24 (asL { x0 with iss := (if D' 9 = true then (x0.iss + u) % 4294967296 else x0.iss), irs := (if D' 11 = true then (x0.irs + v) % 4294967296 else x0.irs) }) ∧ Box w q 28 (sgL s k) ∧ True
        rw [hd9, hd11]
        exact hSw))
    | 3, _, ho =>
      obtain rfl := Option.some.inj (ho.symm.trans (sh4_3 ps))
      have s1 : a.eval (.tmp 20) = .int .u32 x0.iss := hs 1 20 (by rfl) rfl
      have s2 : a.eval (.tmp 21) = .int .u32 u := hs 2 21 (by rfl) rfl
      have hwr : IntKind.u32.wrap (x0.iss + u) = (x0.iss + u) % 4294967296 := wrapU _
      exact op_valW (sh4_3 ps) rfl (v := .int .u32 ((x0.iss + u) % 4294967296)) (by unfold sh4O3 execOp; simp only [s1, s2]; first | (go_simp; done) | (go_simp; with_reducible rfl)) (hK w (fun D' hi' hj' => by
        have hd9 : D' 9 = D 9 := hj' 9 (by decide)
        have hd11 : D' 11 = D 11 := hj' 11 (by decide)
        show Below B0 WW w ∧ Box w g 24 (asL x0) ∧ Box w bb 28 (sgL s k) ∧ Box w p 24 (asL { x0 with iss := (if D' 9 = true then (x0.iss + u) % 4294967296 else x0.iss), irs := (if D' 11 = true then (x0.irs + v) % 4294967296 else x0.irs) }) ∧ Box w q 28 (sgL s k) ∧ True
        rw [hd9, hd11]
        exact hSw))
    | 4, _, ho =>
      obtain rfl := Option.some.inj (ho.symm.trans (sh4_4 ps))
      have u4 : a.eval (.tmp 4) = .pointer (some ⟨g, 0, none⟩) := (hel 4 (by decide)).trans e4
      exact op_valW (sh4_4 ps) rfl (v := .pointer (some ⟨g, 4, none⟩)) (by unfold sh4O4 execOp; simp only [u4]; first | (go_simp; done) | (go_simp; with_reducible rfl)) (hK w (fun D' hi' hj' => by
        have hd9 : D' 9 = D 9 := hj' 9 (by decide)
        have hd11 : D' 11 = D 11 := hj' 11 (by decide)
        show Below B0 WW w ∧ Box w g 24 (asL x0) ∧ Box w bb 28 (sgL s k) ∧ Box w p 24 (asL { x0 with iss := (if D' 9 = true then (x0.iss + u) % 4294967296 else x0.iss), irs := (if D' 11 = true then (x0.irs + v) % 4294967296 else x0.irs) }) ∧ Box w q 28 (sgL s k) ∧ True
        rw [hd9, hd11]
        exact hSw))
    | 5, _, ho =>
      obtain rfl := Option.some.inj (ho.symm.trans (sh4_5 ps))
      have s4 : a.eval (.tmp 23) = .pointer (some ⟨g, 4, none⟩) := hs 4 23 (by rfl) rfl
      have hcl := Box.cell (hSw.2.1) 4 rfl
      exact op_valW (sh4_5 ps) rfl (v := .int .u32 x0.irs) (by unfold sh4O5 execOp; simp only [s4]; first | (go_simp; done) | (go_simp; with_reducible rfl)) (hK w (fun D' hi' hj' => by
        have hd9 : D' 9 = D 9 := hj' 9 (by decide)
        have hd11 : D' 11 = D 11 := hj' 11 (by decide)
        show Below B0 WW w ∧ Box w g 24 (asL x0) ∧ Box w bb 28 (sgL s k) ∧ Box w p 24 (asL { x0 with iss := (if D' 9 = true then (x0.iss + u) % 4294967296 else x0.iss), irs := (if D' 11 = true then (x0.irs + v) % 4294967296 else x0.irs) }) ∧ Box w q 28 (sgL s k) ∧ True
        rw [hd9, hd11]
        exact hSw))
    | 6, _, ho =>
      obtain rfl := Option.some.inj (ho.symm.trans (sh4_6 ps))
      have u3 : a.eval (.tmp 3) = .int .u32 v := (hel 3 (by decide)).trans e3
      exact op_valW (sh4_6 ps) rfl (v := .int .u32 v) (by unfold sh4O6 execOp; simp only [u3]; first | (go_simp; done) | (go_simp; with_reducible rfl)) (hK w (fun D' hi' hj' => by
        have hd9 : D' 9 = D 9 := hj' 9 (by decide)
        have hd11 : D' 11 = D 11 := hj' 11 (by decide)
        show Below B0 WW w ∧ Box w g 24 (asL x0) ∧ Box w bb 28 (sgL s k) ∧ Box w p 24 (asL { x0 with iss := (if D' 9 = true then (x0.iss + u) % 4294967296 else x0.iss), irs := (if D' 11 = true then (x0.irs + v) % 4294967296 else x0.irs) }) ∧ Box w q 28 (sgL s k) ∧ True
        rw [hd9, hd11]
        exact hSw))
    | 7, _, ho =>
      obtain rfl := Option.some.inj (ho.symm.trans (sh4_7 ps))
      have s5 : a.eval (.tmp 24) = .int .u32 x0.irs := hs 5 24 (by rfl) rfl
      have s6 : a.eval (.tmp 25) = .int .u32 v := hs 6 25 (by rfl) rfl
      have hwr : IntKind.u32.wrap (x0.irs + v) = (x0.irs + v) % 4294967296 := wrapU _
      exact op_valW (sh4_7 ps) rfl (v := .int .u32 ((x0.irs + v) % 4294967296)) (by unfold sh4O7 execOp; simp only [s5, s6]; first | (go_simp; done) | (go_simp; with_reducible rfl)) (hK w (fun D' hi' hj' => by
        have hd9 : D' 9 = D 9 := hj' 9 (by decide)
        have hd11 : D' 11 = D 11 := hj' 11 (by decide)
        show Below B0 WW w ∧ Box w g 24 (asL x0) ∧ Box w bb 28 (sgL s k) ∧ Box w p 24 (asL { x0 with iss := (if D' 9 = true then (x0.iss + u) % 4294967296 else x0.iss), irs := (if D' 11 = true then (x0.irs + v) % 4294967296 else x0.irs) }) ∧ Box w q 28 (sgL s k) ∧ True
        rw [hd9, hd11]
        exact hSw))
    | 8, _, ho =>
      obtain rfl := Option.some.inj (ho.symm.trans (sh4_8 ps))
      have u9 : a.eval (.tmp 9) = .pointer (some ⟨p, 0, none⟩) := (hel 9 (by decide)).trans e9
      exact op_valW (sh4_8 ps) rfl (v := .pointer (some ⟨p, 2, none⟩)) (by unfold sh4O8 execOp; simp only [u9]; first | (go_simp; done) | (go_simp; with_reducible rfl)) (hK w (fun D' hi' hj' => by
        have hd9 : D' 9 = D 9 := hj' 9 (by decide)
        have hd11 : D' 11 = D 11 := hj' 11 (by decide)
        show Below B0 WW w ∧ Box w g 24 (asL x0) ∧ Box w bb 28 (sgL s k) ∧ Box w p 24 (asL { x0 with iss := (if D' 9 = true then (x0.iss + u) % 4294967296 else x0.iss), irs := (if D' 11 = true then (x0.irs + v) % 4294967296 else x0.irs) }) ∧ Box w q 28 (sgL s k) ∧ True
        rw [hd9, hd11]
        exact hSw))
    | 9, _, ho =>
      obtain rfl := Option.some.inj (ho.symm.trans (sh4_9 ps))
      have s8 : a.eval (.tmp 27) = .pointer (some ⟨p, 2, none⟩) := hs 8 27 (by rfl) rfl
      have s3 : a.eval (.tmp 22) = .int .u32 ((x0.iss + u) % 4294967296) := hs 3 22 (by rfl) rfl
      have hfz := Box.frozen (hSw.2.2.2.1) 2
      have hcx := Box.cell (hSw.2.2.2.1) 2 rfl
      exact op_stoW (sh4_9 ps) rfl rfl (w' := (w.setCell ⟨p, 2, none⟩ (.int .u32 ((x0.iss + u) % 4294967296)))) (by unfold sh4O9 execOp; simp only [s8, s3]; first | (go_simp; done) | (go_simp; with_reducible rfl)) (hK _ (fun D' hi' hj' => by
        have hd9 : D' 9 = true := hi'
        have hd11 : D' 11 = D 11 := hj' 11 (by decide)
        show Below B0 WW (w.setCell ⟨p, 2, none⟩ (.int .u32 ((x0.iss + u) % 4294967296))) ∧ Box (w.setCell ⟨p, 2, none⟩ (.int .u32 ((x0.iss + u) % 4294967296))) g 24 (asL x0) ∧ Box (w.setCell ⟨p, 2, none⟩ (.int .u32 ((x0.iss + u) % 4294967296))) bb 28 (sgL s k) ∧ Box (w.setCell ⟨p, 2, none⟩ (.int .u32 ((x0.iss + u) % 4294967296))) p 24 (asL { x0 with iss := (if D' 9 = true then (x0.iss + u) % 4294967296 else x0.iss), irs := (if D' 11 = true then (x0.irs + v) % 4294967296 else x0.irs) }) ∧ Box (w.setCell ⟨p, 2, none⟩ (.int .u32 ((x0.iss + u) % 4294967296))) q 28 (sgL s k) ∧ True
        rw [hd9, hd11]
        exact ⟨((Sto.refl w p).set 2 (.int .u32 ((x0.iss + u) % 4294967296))).below _ _ hq hSw.1, (hSw.2.1).sto ((Sto.refl w p).set 2 (.int .u32 ((x0.iss + u) % 4294967296))) hn0, (hSw.2.2.1).sto ((Sto.refl w p).set 2 (.int .u32 ((x0.iss + u) % 4294967296))) hn1, (hSw.2.2.2.1).set 2 (.int .u32 ((x0.iss + u) % 4294967296)), (hSw.2.2.2.2.1).sto ((Sto.refl w p).set 2 (.int .u32 ((x0.iss + u) % 4294967296))) hn3, trivial⟩))
    | 10, _, ho =>
      obtain rfl := Option.some.inj (ho.symm.trans (sh4_10 ps))
      have u9 : a.eval (.tmp 9) = .pointer (some ⟨p, 0, none⟩) := (hel 9 (by decide)).trans e9
      exact op_valW (sh4_10 ps) rfl (v := .pointer (some ⟨p, 4, none⟩)) (by unfold sh4O10 execOp; simp only [u9]; first | (go_simp; done) | (go_simp; with_reducible rfl)) (hK w (fun D' hi' hj' => by
        have hd9 : D' 9 = D 9 := hj' 9 (by decide)
        have hd11 : D' 11 = D 11 := hj' 11 (by decide)
        show Below B0 WW w ∧ Box w g 24 (asL x0) ∧ Box w bb 28 (sgL s k) ∧ Box w p 24 (asL { x0 with iss := (if D' 9 = true then (x0.iss + u) % 4294967296 else x0.iss), irs := (if D' 11 = true then (x0.irs + v) % 4294967296 else x0.irs) }) ∧ Box w q 28 (sgL s k) ∧ True
        rw [hd9, hd11]
        exact hSw))
    | 11, _, ho =>
      obtain rfl := Option.some.inj (ho.symm.trans (sh4_11 ps))
      have s10 : a.eval (.tmp 28) = .pointer (some ⟨p, 4, none⟩) := hs 10 28 (by rfl) rfl
      have s7 : a.eval (.tmp 26) = .int .u32 ((x0.irs + v) % 4294967296) := hs 7 26 (by rfl) rfl
      have hfz := Box.frozen (hSw.2.2.2.1) 4
      have hcx := Box.cell (hSw.2.2.2.1) 4 rfl
      exact op_stoW (sh4_11 ps) rfl rfl (w' := (w.setCell ⟨p, 4, none⟩ (.int .u32 ((x0.irs + v) % 4294967296)))) (by unfold sh4O11 execOp; simp only [s10, s7]; first | (go_simp; done) | (go_simp; with_reducible rfl)) (hK _ (fun D' hi' hj' => by
        have hd9 : D' 9 = D 9 := hj' 9 (by decide)
        have hd11 : D' 11 = true := hi'
        show Below B0 WW (w.setCell ⟨p, 4, none⟩ (.int .u32 ((x0.irs + v) % 4294967296))) ∧ Box (w.setCell ⟨p, 4, none⟩ (.int .u32 ((x0.irs + v) % 4294967296))) g 24 (asL x0) ∧ Box (w.setCell ⟨p, 4, none⟩ (.int .u32 ((x0.irs + v) % 4294967296))) bb 28 (sgL s k) ∧ Box (w.setCell ⟨p, 4, none⟩ (.int .u32 ((x0.irs + v) % 4294967296))) p 24 (asL { x0 with iss := (if D' 9 = true then (x0.iss + u) % 4294967296 else x0.iss), irs := (if D' 11 = true then (x0.irs + v) % 4294967296 else x0.irs) }) ∧ Box (w.setCell ⟨p, 4, none⟩ (.int .u32 ((x0.irs + v) % 4294967296))) q 28 (sgL s k) ∧ True
        rw [hd9, hd11]
        exact ⟨((Sto.refl w p).set 4 (.int .u32 ((x0.irs + v) % 4294967296))).below _ _ hq hSw.1, (hSw.2.1).sto ((Sto.refl w p).set 4 (.int .u32 ((x0.irs + v) % 4294967296))) hn0, (hSw.2.2.1).sto ((Sto.refl w p).set 4 (.int .u32 ((x0.irs + v) % 4294967296))) hn1, (hSw.2.2.2.1).set 4 (.int .u32 ((x0.irs + v) % 4294967296)), (hSw.2.2.2.2.1).sto ((Sto.refl w p).set 4 (.int .u32 ((x0.irs + v) % 4294967296))) hn3, trivial⟩))
    | iq + 12, hin, _ => exact absurd hin (by omega)
def sh5O0 (ps : String) : Oper := { dst := some 29, op := .fieldAddr 28 (.tmp 5) 3, type := 0, pos := ps, after := #[], guard := none }
def sh5O1 (ps : String) : Oper := { dst := some 30, op := .load 22 (.tmp 29), type := 22, pos := ps, after := #[{ on := 0, ground := .data }], guard := none }
def sh5O2 (ps : String) : Oper := { dst := some 31, op := .move (.tmp 2), type := 22, pos := ps, after := #[], guard := none }
def sh5O3 (ps : String) : Oper := { dst := some 32, op := .binOp .add 22 (.tmp 30) (.tmp 31) 22, type := 22, pos := ps, after := #[{ on := 1, ground := .data }, { on := 2, ground := .data }], guard := none }
def sh5O4 (ps : String) : Oper := { dst := some 33, op := .fieldAddr 28 (.tmp 5) 2, type := 0, pos := ps, after := #[{ on := 9, ground := .gcOnly .lateStores }], guard := none }
def sh5O5 (ps : String) : Oper := { dst := some 34, op := .load 22 (.tmp 33), type := 22, pos := ps, after := #[{ on := 4, ground := .data }, { on := 9, ground := .gcOnly .lateStores }], guard := none }
def sh5O6 (ps : String) : Oper := { dst := some 35, op := .move (.tmp 3), type := 22, pos := ps, after := #[{ on := 9, ground := .gcOnly .lateStores }], guard := none }
def sh5O7 (ps : String) : Oper := { dst := some 36, op := .binOp .add 22 (.tmp 34) (.tmp 35) 22, type := 22, pos := ps, after := #[{ on := 5, ground := .data }, { on := 6, ground := .data }, { on := 9, ground := .gcOnly .lateStores }], guard := none }
def sh5O8 (ps : String) : Oper := { dst := some 37, op := .fieldAddr 28 (.tmp 10) 3, type := 0, pos := ps, after := #[{ on := 0, ground := .phase }, { on := 1, ground := .phase }, { on := 2, ground := .phase }, { on := 3, ground := .phase }, { on := 4, ground := .textOnly .lateStores }, { on := 5, ground := .textOnly .lateStores }, { on := 6, ground := .textOnly .lateStores }, { on := 7, ground := .textOnly .lateStores }], guard := none }
def sh5O9 (ps : String) : Oper := { dst := none, op := .store 22 (.tmp 37) (.tmp 32), type := 0, pos := ps, after := #[{ on := 8, ground := .data }, { on := 3, ground := .data }, { on := 0, ground := .phase }, { on := 1, ground := .phase }, { on := 2, ground := .phase }, { on := 3, ground := .phase }, { on := 4, ground := .textOnly .lateStores }, { on := 5, ground := .textOnly .lateStores }, { on := 6, ground := .textOnly .lateStores }, { on := 7, ground := .textOnly .lateStores }], guard := none }
def sh5O10 (ps : String) : Oper := { dst := some 38, op := .fieldAddr 28 (.tmp 10) 2, type := 0, pos := ps, after := #[{ on := 0, ground := .phase }, { on := 1, ground := .phase }, { on := 2, ground := .phase }, { on := 3, ground := .phase }, { on := 4, ground := .phase }, { on := 5, ground := .phase }, { on := 6, ground := .phase }, { on := 7, ground := .phase }, { on := 8, ground := .phase }, { on := 9, ground := .phase }], guard := none }
def sh5O11 (ps : String) : Oper := { dst := none, op := .store 22 (.tmp 38) (.tmp 36), type := 0, pos := ps, after := #[{ on := 10, ground := .data }, { on := 7, ground := .data }, { on := 9, ground := .chain }, { on := 0, ground := .phase }, { on := 1, ground := .phase }, { on := 2, ground := .phase }, { on := 3, ground := .phase }, { on := 4, ground := .phase }, { on := 5, ground := .phase }, { on := 6, ground := .phase }, { on := 7, ground := .phase }, { on := 8, ground := .phase }, { on := 9, ground := .phase }], guard := none }
def sh5 (ps : String) : Array Oper := #[sh5O0 ps, sh5O1 ps, sh5O2 ps, sh5O3 ps, sh5O4 ps, sh5O5 ps, sh5O6 ps, sh5O7 ps, sh5O8 ps, sh5O9 ps, sh5O10 ps, sh5O11 ps]
theorem sh5_0 (ps : String) : (sh5 ps)[0]? = some (sh5O0 ps) := rfl
theorem sh5_1 (ps : String) : (sh5 ps)[1]? = some (sh5O1 ps) := rfl
theorem sh5_2 (ps : String) : (sh5 ps)[2]? = some (sh5O2 ps) := rfl
theorem sh5_3 (ps : String) : (sh5 ps)[3]? = some (sh5O3 ps) := rfl
theorem sh5_4 (ps : String) : (sh5 ps)[4]? = some (sh5O4 ps) := rfl
theorem sh5_5 (ps : String) : (sh5 ps)[5]? = some (sh5O5 ps) := rfl
theorem sh5_6 (ps : String) : (sh5 ps)[6]? = some (sh5O6 ps) := rfl
theorem sh5_7 (ps : String) : (sh5 ps)[7]? = some (sh5O7 ps) := rfl
theorem sh5_8 (ps : String) : (sh5 ps)[8]? = some (sh5O8 ps) := rfl
theorem sh5_9 (ps : String) : (sh5 ps)[9]? = some (sh5O9 ps) := rfl
theorem sh5_10 (ps : String) : (sh5 ps)[10]? = some (sh5O10 ps) := rfl
theorem sh5_11 (ps : String) : (sh5 ps)[11]? = some (sh5O11 ps) := rfl
def sh5D : Nat → Option Tmp
  | 0 => some 29
  | 1 => some 30
  | 2 => some 31
  | 3 => some 32
  | 4 => some 33
  | 5 => some 34
  | 6 => some 35
  | 7 => some 36
  | 8 => some 37
  | 9 => none
  | 10 => some 38
  | 11 => none
  | _ => none
def sh5T (x0 : Ak.As) (s : Seg) (k : Hs) (u v : Int) (g bb p q B0 : Nat) (WW : World) : Nat → Value
  | 0 => .pointer (some ⟨bb, 3, none⟩)
  | 1 => .int .u32 s.ak
  | 2 => .int .u32 u
  | 3 => .int .u32 ((s.ak + u) % 4294967296)
  | 4 => .pointer (some ⟨bb, 2, none⟩)
  | 5 => .int .u32 s.sq
  | 6 => .int .u32 v
  | 7 => .int .u32 ((s.sq + v) % 4294967296)
  | 8 => .pointer (some ⟨q, 3, none⟩)
  | 9 => undef
  | 10 => .pointer (some ⟨q, 2, none⟩)
  | 11 => undef
  | _ => undef
set_option maxRecDepth 100000 in
set_option maxHeartbeats 4000000 in
theorem sh5_reg {ps : String} {Q : Exit → Act → World → Prop} {a0 : Act} {W0 : World} (sz : a0.tmps.size = 79) (x0 : Ak.As) (s : Seg) (k : Hs) (u v : Int) (g bb p q B0 : Nat) (WW : World)
    (e5 : a0.eval (.tmp 5) = .pointer (some ⟨bb, 0, none⟩)) (e2 : a0.eval (.tmp 2) = .int .u32 u) (e3 : a0.eval (.tmp 3) = .int .u32 v) (e10 : a0.eval (.tmp 10) = .pointer (some ⟨q, 0, none⟩))
    (hq : B0 ≤ q) (hn0 : g ≠ q) (hn1 : bb ≠ q) (hn2 : p ≠ q) (hS0 : Below B0 WW W0 ∧ Box W0 g 24 (asL x0) ∧ Box W0 bb 28 (sgL s k) ∧ Box W0 p 24 (asL (Ak.shiftA x0 u v)) ∧ Box W0 q 28 (sgL { s with ak := s.ak, sq := s.sq } k) ∧ True)
    (hfin : ∀ (T : Nat → Value) w, Below B0 WW w ∧ Box w g 24 (asL x0) ∧ Box w bb 28 (sgL s k) ∧ Box w p 24 (asL (Ak.shiftA x0 u v)) ∧ Box w q 28 (sgL { s with ak := (s.ak + u) % 4294967296, sq := (s.sq + v) % 4294967296 } k) ∧ True → Q .normal ((((((((((a0.put (some 29) (T 0)).put (some 30) (T 1)).put (some 31) (T 2)).put (some 32) (T 3)).put (some 33) (T 4)).put (some 34) (T 5)).put (some 35) (T 6)).put (some 36) (T 7)).put (some 37) (T 8)).put (some 38) (T 10)) w) :
    (Code.region 5 (sh5 ps) true).wp Try.prog Q a0 W0 := by
  refine wp_region_dets (by kernel_rfl) 12 rfl sh5D ?_ (by decide) (sh5T x0 s k u v g bb p q B0 WW) (fun D w => Below B0 WW w ∧ Box w g 24 (asL x0) ∧ Box w bb 28 (sgL s k) ∧ Box w p 24 (asL (Ak.shiftA x0 u v)) ∧ Box w q 28 (sgL { s with ak := (if D 9 = true then (s.ak + u) % 4294967296 else s.ak), sq := (if D 11 = true then (s.sq + v) % 4294967296 else s.sq) } k) ∧ True) (fun D hD => by
    show Below B0 WW W0.drew ∧ Box W0.drew g 24 (asL x0) ∧ Box W0.drew bb 28 (sgL s k) ∧ Box W0.drew p 24 (asL (Ak.shiftA x0 u v)) ∧ Box W0.drew q 28 (sgL { s with ak := (if D 9 = true then (s.ak + u) % 4294967296 else s.ak), sq := (if D 11 = true then (s.sq + v) % 4294967296 else s.sq) } k) ∧ True
    rw [hD 9, hD 11]
    exact ⟨hS0.1.drew, hS0.2.1, hS0.2.2.1, hS0.2.2.2.1, hS0.2.2.2.2.1, trivial⟩) ?_ (by rfl) (fun w D hD hSw => by
    have hSw' : Below B0 WW w ∧ Box w g 24 (asL x0) ∧ Box w bb 28 (sgL s k) ∧ Box w p 24 (asL (Ak.shiftA x0 u v)) ∧ Box w q 28 (sgL { s with ak := (if D 9 = true then (s.ak + u) % 4294967296 else s.ak), sq := (if D 11 = true then (s.sq + v) % 4294967296 else s.sq) } k) ∧ True := hSw
    rw [hD 9 (by decide), hD 11 (by decide)] at hSw'
    exact hfin (sh5T x0 s k u v g bb p q B0 WW) w  hSw')
  · intro jq t hj ht
    have : ∀ j, j < 12 → (sh5D j).all (· < 79) = true := by decide
    have := this jq hj
    rw [ht] at this
    rw [sz]
    simpa using this
  · intro iq o ho D a w hSw hDi hcl hs hel K hK
    have hin : iq < 12 := (Array.getElem?_eq_some_iff.1 ho).1
    match iq, hin, ho with
    | 0, _, ho =>
      obtain rfl := Option.some.inj (ho.symm.trans (sh5_0 ps))
      have u5 : a.eval (.tmp 5) = .pointer (some ⟨bb, 0, none⟩) := (hel 5 (by decide)).trans e5
      exact op_valW (sh5_0 ps) rfl (v := .pointer (some ⟨bb, 3, none⟩)) (by unfold sh5O0 execOp; simp only [u5]; first | (go_simp; done) | (go_simp; with_reducible rfl)) (hK w (fun D' hi' hj' => by
        have hd9 : D' 9 = D 9 := hj' 9 (by decide)
        have hd11 : D' 11 = D 11 := hj' 11 (by decide)
        show Below B0 WW w ∧ Box w g 24 (asL x0) ∧ Box w bb 28 (sgL s k) ∧ Box w p 24 (asL (Ak.shiftA x0 u v)) ∧ Box w q 28 (sgL { s with ak := (if D' 9 = true then (s.ak + u) % 4294967296 else s.ak), sq := (if D' 11 = true then (s.sq + v) % 4294967296 else s.sq) } k) ∧ True
        rw [hd9, hd11]
        exact hSw))
    | 1, _, ho =>
      obtain rfl := Option.some.inj (ho.symm.trans (sh5_1 ps))
      have s0 : a.eval (.tmp 29) = .pointer (some ⟨bb, 3, none⟩) := hs 0 29 (by rfl) rfl
      have hcl := Box.cell (hSw.2.2.1) 3 rfl
      exact op_valW (sh5_1 ps) rfl (v := .int .u32 s.ak) (by unfold sh5O1 execOp; simp only [s0]; first | (go_simp; done) | (go_simp; with_reducible rfl)) (hK w (fun D' hi' hj' => by
        have hd9 : D' 9 = D 9 := hj' 9 (by decide)
        have hd11 : D' 11 = D 11 := hj' 11 (by decide)
        show Below B0 WW w ∧ Box w g 24 (asL x0) ∧ Box w bb 28 (sgL s k) ∧ Box w p 24 (asL (Ak.shiftA x0 u v)) ∧ Box w q 28 (sgL { s with ak := (if D' 9 = true then (s.ak + u) % 4294967296 else s.ak), sq := (if D' 11 = true then (s.sq + v) % 4294967296 else s.sq) } k) ∧ True
        rw [hd9, hd11]
        exact hSw))
    | 2, _, ho =>
      obtain rfl := Option.some.inj (ho.symm.trans (sh5_2 ps))
      have u2 : a.eval (.tmp 2) = .int .u32 u := (hel 2 (by decide)).trans e2
      exact op_valW (sh5_2 ps) rfl (v := .int .u32 u) (by unfold sh5O2 execOp; simp only [u2]; first | (go_simp; done) | (go_simp; with_reducible rfl)) (hK w (fun D' hi' hj' => by
        have hd9 : D' 9 = D 9 := hj' 9 (by decide)
        have hd11 : D' 11 = D 11 := hj' 11 (by decide)
        show Below B0 WW w ∧ Box w g 24 (asL x0) ∧ Box w bb 28 (sgL s k) ∧ Box w p 24 (asL (Ak.shiftA x0 u v)) ∧ Box w q 28 (sgL { s with ak := (if D' 9 = true then (s.ak + u) % 4294967296 else s.ak), sq := (if D' 11 = true then (s.sq + v) % 4294967296 else s.sq) } k) ∧ True
        rw [hd9, hd11]
        exact hSw))
    | 3, _, ho =>
      obtain rfl := Option.some.inj (ho.symm.trans (sh5_3 ps))
      have s1 : a.eval (.tmp 30) = .int .u32 s.ak := hs 1 30 (by rfl) rfl
      have s2 : a.eval (.tmp 31) = .int .u32 u := hs 2 31 (by rfl) rfl
      have hwr : IntKind.u32.wrap (s.ak + u) = (s.ak + u) % 4294967296 := wrapU _
      exact op_valW (sh5_3 ps) rfl (v := .int .u32 ((s.ak + u) % 4294967296)) (by unfold sh5O3 execOp; simp only [s1, s2]; first | (go_simp; done) | (go_simp; with_reducible rfl)) (hK w (fun D' hi' hj' => by
        have hd9 : D' 9 = D 9 := hj' 9 (by decide)
        have hd11 : D' 11 = D 11 := hj' 11 (by decide)
        show Below B0 WW w ∧ Box w g 24 (asL x0) ∧ Box w bb 28 (sgL s k) ∧ Box w p 24 (asL (Ak.shiftA x0 u v)) ∧ Box w q 28 (sgL { s with ak := (if D' 9 = true then (s.ak + u) % 4294967296 else s.ak), sq := (if D' 11 = true then (s.sq + v) % 4294967296 else s.sq) } k) ∧ True
        rw [hd9, hd11]
        exact hSw))
    | 4, _, ho =>
      obtain rfl := Option.some.inj (ho.symm.trans (sh5_4 ps))
      have u5 : a.eval (.tmp 5) = .pointer (some ⟨bb, 0, none⟩) := (hel 5 (by decide)).trans e5
      exact op_valW (sh5_4 ps) rfl (v := .pointer (some ⟨bb, 2, none⟩)) (by unfold sh5O4 execOp; simp only [u5]; first | (go_simp; done) | (go_simp; with_reducible rfl)) (hK w (fun D' hi' hj' => by
        have hd9 : D' 9 = D 9 := hj' 9 (by decide)
        have hd11 : D' 11 = D 11 := hj' 11 (by decide)
        show Below B0 WW w ∧ Box w g 24 (asL x0) ∧ Box w bb 28 (sgL s k) ∧ Box w p 24 (asL (Ak.shiftA x0 u v)) ∧ Box w q 28 (sgL { s with ak := (if D' 9 = true then (s.ak + u) % 4294967296 else s.ak), sq := (if D' 11 = true then (s.sq + v) % 4294967296 else s.sq) } k) ∧ True
        rw [hd9, hd11]
        exact hSw))
    | 5, _, ho =>
      obtain rfl := Option.some.inj (ho.symm.trans (sh5_5 ps))
      have s4 : a.eval (.tmp 33) = .pointer (some ⟨bb, 2, none⟩) := hs 4 33 (by rfl) rfl
      have hcl := Box.cell (hSw.2.2.1) 2 rfl
      exact op_valW (sh5_5 ps) rfl (v := .int .u32 s.sq) (by unfold sh5O5 execOp; simp only [s4]; first | (go_simp; done) | (go_simp; with_reducible rfl)) (hK w (fun D' hi' hj' => by
        have hd9 : D' 9 = D 9 := hj' 9 (by decide)
        have hd11 : D' 11 = D 11 := hj' 11 (by decide)
        show Below B0 WW w ∧ Box w g 24 (asL x0) ∧ Box w bb 28 (sgL s k) ∧ Box w p 24 (asL (Ak.shiftA x0 u v)) ∧ Box w q 28 (sgL { s with ak := (if D' 9 = true then (s.ak + u) % 4294967296 else s.ak), sq := (if D' 11 = true then (s.sq + v) % 4294967296 else s.sq) } k) ∧ True
        rw [hd9, hd11]
        exact hSw))
    | 6, _, ho =>
      obtain rfl := Option.some.inj (ho.symm.trans (sh5_6 ps))
      have u3 : a.eval (.tmp 3) = .int .u32 v := (hel 3 (by decide)).trans e3
      exact op_valW (sh5_6 ps) rfl (v := .int .u32 v) (by unfold sh5O6 execOp; simp only [u3]; first | (go_simp; done) | (go_simp; with_reducible rfl)) (hK w (fun D' hi' hj' => by
        have hd9 : D' 9 = D 9 := hj' 9 (by decide)
        have hd11 : D' 11 = D 11 := hj' 11 (by decide)
        show Below B0 WW w ∧ Box w g 24 (asL x0) ∧ Box w bb 28 (sgL s k) ∧ Box w p 24 (asL (Ak.shiftA x0 u v)) ∧ Box w q 28 (sgL { s with ak := (if D' 9 = true then (s.ak + u) % 4294967296 else s.ak), sq := (if D' 11 = true then (s.sq + v) % 4294967296 else s.sq) } k) ∧ True
        rw [hd9, hd11]
        exact hSw))
    | 7, _, ho =>
      obtain rfl := Option.some.inj (ho.symm.trans (sh5_7 ps))
      have s5 : a.eval (.tmp 34) = .int .u32 s.sq := hs 5 34 (by rfl) rfl
      have s6 : a.eval (.tmp 35) = .int .u32 v := hs 6 35 (by rfl) rfl
      have hwr : IntKind.u32.wrap (s.sq + v) = (s.sq + v) % 4294967296 := wrapU _
      exact op_valW (sh5_7 ps) rfl (v := .int .u32 ((s.sq + v) % 4294967296)) (by unfold sh5O7 execOp; simp only [s5, s6]; first | (go_simp; done) | (go_simp; with_reducible rfl)) (hK w (fun D' hi' hj' => by
        have hd9 : D' 9 = D 9 := hj' 9 (by decide)
        have hd11 : D' 11 = D 11 := hj' 11 (by decide)
        show Below B0 WW w ∧ Box w g 24 (asL x0) ∧ Box w bb 28 (sgL s k) ∧ Box w p 24 (asL (Ak.shiftA x0 u v)) ∧ Box w q 28 (sgL { s with ak := (if D' 9 = true then (s.ak + u) % 4294967296 else s.ak), sq := (if D' 11 = true then (s.sq + v) % 4294967296 else s.sq) } k) ∧ True
        rw [hd9, hd11]
        exact hSw))
    | 8, _, ho =>
      obtain rfl := Option.some.inj (ho.symm.trans (sh5_8 ps))
      have u10 : a.eval (.tmp 10) = .pointer (some ⟨q, 0, none⟩) := (hel 10 (by decide)).trans e10
      exact op_valW (sh5_8 ps) rfl (v := .pointer (some ⟨q, 3, none⟩)) (by unfold sh5O8 execOp; simp only [u10]; first | (go_simp; done) | (go_simp; with_reducible rfl)) (hK w (fun D' hi' hj' => by
        have hd9 : D' 9 = D 9 := hj' 9 (by decide)
        have hd11 : D' 11 = D 11 := hj' 11 (by decide)
        show Below B0 WW w ∧ Box w g 24 (asL x0) ∧ Box w bb 28 (sgL s k) ∧ Box w p 24 (asL (Ak.shiftA x0 u v)) ∧ Box w q 28 (sgL { s with ak := (if D' 9 = true then (s.ak + u) % 4294967296 else s.ak), sq := (if D' 11 = true then (s.sq + v) % 4294967296 else s.sq) } k) ∧ True
        rw [hd9, hd11]
        exact hSw))
    | 9, _, ho =>
      obtain rfl := Option.some.inj (ho.symm.trans (sh5_9 ps))
      have s8 : a.eval (.tmp 37) = .pointer (some ⟨q, 3, none⟩) := hs 8 37 (by rfl) rfl
      have s3 : a.eval (.tmp 32) = .int .u32 ((s.ak + u) % 4294967296) := hs 3 32 (by rfl) rfl
      have hfz := Box.frozen (hSw.2.2.2.2.1) 3
      have hcx := Box.cell (hSw.2.2.2.2.1) 3 rfl
      exact op_stoW (sh5_9 ps) rfl rfl (w' := (w.setCell ⟨q, 3, none⟩ (.int .u32 ((s.ak + u) % 4294967296)))) (by unfold sh5O9 execOp; simp only [s8, s3]; first | (go_simp; done) | (go_simp; with_reducible rfl)) (hK _ (fun D' hi' hj' => by
        have hd9 : D' 9 = true := hi'
        have hd11 : D' 11 = D 11 := hj' 11 (by decide)
        show Below B0 WW (w.setCell ⟨q, 3, none⟩ (.int .u32 ((s.ak + u) % 4294967296))) ∧ Box (w.setCell ⟨q, 3, none⟩ (.int .u32 ((s.ak + u) % 4294967296))) g 24 (asL x0) ∧ Box (w.setCell ⟨q, 3, none⟩ (.int .u32 ((s.ak + u) % 4294967296))) bb 28 (sgL s k) ∧ Box (w.setCell ⟨q, 3, none⟩ (.int .u32 ((s.ak + u) % 4294967296))) p 24 (asL (Ak.shiftA x0 u v)) ∧ Box (w.setCell ⟨q, 3, none⟩ (.int .u32 ((s.ak + u) % 4294967296))) q 28 (sgL { s with ak := (if D' 9 = true then (s.ak + u) % 4294967296 else s.ak), sq := (if D' 11 = true then (s.sq + v) % 4294967296 else s.sq) } k) ∧ True
        rw [hd9, hd11]
        exact ⟨((Sto.refl w q).set 3 (.int .u32 ((s.ak + u) % 4294967296))).below _ _ hq hSw.1, (hSw.2.1).sto ((Sto.refl w q).set 3 (.int .u32 ((s.ak + u) % 4294967296))) hn0, (hSw.2.2.1).sto ((Sto.refl w q).set 3 (.int .u32 ((s.ak + u) % 4294967296))) hn1, (hSw.2.2.2.1).sto ((Sto.refl w q).set 3 (.int .u32 ((s.ak + u) % 4294967296))) hn2, (hSw.2.2.2.2.1).set 3 (.int .u32 ((s.ak + u) % 4294967296)), trivial⟩))
    | 10, _, ho =>
      obtain rfl := Option.some.inj (ho.symm.trans (sh5_10 ps))
      have u10 : a.eval (.tmp 10) = .pointer (some ⟨q, 0, none⟩) := (hel 10 (by decide)).trans e10
      exact op_valW (sh5_10 ps) rfl (v := .pointer (some ⟨q, 2, none⟩)) (by unfold sh5O10 execOp; simp only [u10]; first | (go_simp; done) | (go_simp; with_reducible rfl)) (hK w (fun D' hi' hj' => by
        have hd9 : D' 9 = D 9 := hj' 9 (by decide)
        have hd11 : D' 11 = D 11 := hj' 11 (by decide)
        show Below B0 WW w ∧ Box w g 24 (asL x0) ∧ Box w bb 28 (sgL s k) ∧ Box w p 24 (asL (Ak.shiftA x0 u v)) ∧ Box w q 28 (sgL { s with ak := (if D' 9 = true then (s.ak + u) % 4294967296 else s.ak), sq := (if D' 11 = true then (s.sq + v) % 4294967296 else s.sq) } k) ∧ True
        rw [hd9, hd11]
        exact hSw))
    | 11, _, ho =>
      obtain rfl := Option.some.inj (ho.symm.trans (sh5_11 ps))
      have s10 : a.eval (.tmp 38) = .pointer (some ⟨q, 2, none⟩) := hs 10 38 (by rfl) rfl
      have s7 : a.eval (.tmp 36) = .int .u32 ((s.sq + v) % 4294967296) := hs 7 36 (by rfl) rfl
      have hfz := Box.frozen (hSw.2.2.2.2.1) 2
      have hcx := Box.cell (hSw.2.2.2.2.1) 2 rfl
      exact op_stoW (sh5_11 ps) rfl rfl (w' := (w.setCell ⟨q, 2, none⟩ (.int .u32 ((s.sq + v) % 4294967296)))) (by unfold sh5O11 execOp; simp only [s10, s7]; first | (go_simp; done) | (go_simp; with_reducible rfl)) (hK _ (fun D' hi' hj' => by
        have hd9 : D' 9 = D 9 := hj' 9 (by decide)
        have hd11 : D' 11 = true := hi'
        show Below B0 WW (w.setCell ⟨q, 2, none⟩ (.int .u32 ((s.sq + v) % 4294967296))) ∧ Box (w.setCell ⟨q, 2, none⟩ (.int .u32 ((s.sq + v) % 4294967296))) g 24 (asL x0) ∧ Box (w.setCell ⟨q, 2, none⟩ (.int .u32 ((s.sq + v) % 4294967296))) bb 28 (sgL s k) ∧ Box (w.setCell ⟨q, 2, none⟩ (.int .u32 ((s.sq + v) % 4294967296))) p 24 (asL (Ak.shiftA x0 u v)) ∧ Box (w.setCell ⟨q, 2, none⟩ (.int .u32 ((s.sq + v) % 4294967296))) q 28 (sgL { s with ak := (if D' 9 = true then (s.ak + u) % 4294967296 else s.ak), sq := (if D' 11 = true then (s.sq + v) % 4294967296 else s.sq) } k) ∧ True
        rw [hd9, hd11]
        exact ⟨((Sto.refl w q).set 2 (.int .u32 ((s.sq + v) % 4294967296))).below _ _ hq hSw.1, (hSw.2.1).sto ((Sto.refl w q).set 2 (.int .u32 ((s.sq + v) % 4294967296))) hn0, (hSw.2.2.1).sto ((Sto.refl w q).set 2 (.int .u32 ((s.sq + v) % 4294967296))) hn1, (hSw.2.2.2.1).sto ((Sto.refl w q).set 2 (.int .u32 ((s.sq + v) % 4294967296))) hn2, (hSw.2.2.2.2.1).set 2 (.int .u32 ((s.sq + v) % 4294967296)), trivial⟩))
    | iq + 12, hin, _ => exact absurd hin (by omega)
def sh11O0 (ps : String) : Oper := { dst := some 69, op := .load 24 (.tmp 4), type := 24, pos := ps, after := #[], guard := none }
def sh11O1 (ps : String) : Oper := { dst := some 70, op := .load 28 (.tmp 5), type := 28, pos := ps, after := #[], guard := none }
def sh11O2 (ps : String) : Oper := { dst := some 71, op := .call { callee := .value (.func 8), args := #[.tmp 69, .tmp 70], argTypes := #[24, 28] }, type := 31, pos := ps, after := #[{ on := 0, ground := .data }, { on := 1, ground := .data }], guard := none }
def sh11O3 (ps : String) : Oper := { dst := some 72, op := .load 24 (.tmp 9), type := 24, pos := ps, after := #[], guard := none }
def sh11O4 (ps : String) : Oper := { dst := some 73, op := .load 28 (.tmp 10), type := 28, pos := ps, after := #[], guard := none }
def sh11O5 (ps : String) : Oper := { dst := some 74, op := .call { callee := .value (.func 8), args := #[.tmp 72, .tmp 73], argTypes := #[24, 28] }, type := 31, pos := ps, after := #[{ on := 3, ground := .data }, { on := 4, ground := .data }, { on := 2, ground := .chain }], guard := none }
def sh11O6 (ps : String) : Oper := { dst := some 75, op := .call { callee := .value (.func 9), args := #[.tmp 71, .tmp 74], argTypes := #[31, 31] }, type := 4, pos := ps, after := #[{ on := 2, ground := .data }, { on := 5, ground := .data }, { on := 5, ground := .chain }], guard := none }
def sh11O7 (ps : String) : Oper := { dst := some 76, op := .move (.tmp 75), type := 4, pos := ps, after := #[{ on := 6, ground := .data }, { on := 6, ground := .chain }], guard := none }
def sh11O8 (ps : String) : Oper := { dst := some 77, op := .call { callee := .value (.func 10), args := #[], argTypes := #[] }, type := 4, pos := ps, after := #[{ on := 7, ground := .chain }, { on := 7, ground := .guard }], guard := some (7, true) }
def sh11O9 (ps : String) : Oper := { dst := some 78, op := .pick (.tmp 76) (.tmp 77) (.const (.bool false)), type := 4, pos := ps, after := #[{ on := 7, ground := .data }, { on := 8, ground := .data }], guard := none }
def sh11O10 (ps : String) : Oper := { dst := some 8, op := .assign (.tmp 78), type := 4, pos := ps, after := #[{ on := 9, ground := .data }, { on := 8, ground := .chain }, { on := 0, ground := .phase }, { on := 1, ground := .phase }, { on := 2, ground := .phase }, { on := 3, ground := .phase }, { on := 4, ground := .phase }, { on := 5, ground := .phase }, { on := 6, ground := .phase }, { on := 7, ground := .phase }, { on := 8, ground := .phase }, { on := 9, ground := .phase }], guard := none }
def sh11 (ps : String) : Array Oper := #[sh11O0 ps, sh11O1 ps, sh11O2 ps, sh11O3 ps, sh11O4 ps, sh11O5 ps, sh11O6 ps, sh11O7 ps, sh11O8 ps, sh11O9 ps, sh11O10 ps]
theorem sh11_0 (ps : String) : (sh11 ps)[0]? = some (sh11O0 ps) := rfl
theorem sh11_1 (ps : String) : (sh11 ps)[1]? = some (sh11O1 ps) := rfl
theorem sh11_2 (ps : String) : (sh11 ps)[2]? = some (sh11O2 ps) := rfl
theorem sh11_3 (ps : String) : (sh11 ps)[3]? = some (sh11O3 ps) := rfl
theorem sh11_4 (ps : String) : (sh11 ps)[4]? = some (sh11O4 ps) := rfl
theorem sh11_5 (ps : String) : (sh11 ps)[5]? = some (sh11O5 ps) := rfl
theorem sh11_6 (ps : String) : (sh11 ps)[6]? = some (sh11O6 ps) := rfl
theorem sh11_7 (ps : String) : (sh11 ps)[7]? = some (sh11O7 ps) := rfl
theorem sh11_8 (ps : String) : (sh11 ps)[8]? = some (sh11O8 ps) := rfl
theorem sh11_9 (ps : String) : (sh11 ps)[9]? = some (sh11O9 ps) := rfl
theorem sh11_10 (ps : String) : (sh11 ps)[10]? = some (sh11O10 ps) := rfl
def sh11D : Nat → Option Tmp
  | 0 => some 69
  | 1 => some 70
  | 2 => some 71
  | 3 => some 72
  | 4 => some 73
  | 5 => some 74
  | 6 => some 75
  | 7 => some 76
  | 8 => some 77
  | 9 => some 78
  | 10 => some 8
  | _ => none
def sh11T (x0 x1 : Ak.As) (s t : Seg) (k kt : Hs) (H : Ak.Hr) (g bb p q B0 : Nat) (WW : World) (c : Nat → Nat) : Nat → Value
  | 0 => agv (asL x0)
  | 1 => agv (sgL s k)
  | 2 => agv (hcL (hcOf H (decA (c 202) (c 302)) (c 102)))
  | 3 => agv (asL x1)
  | 4 => agv (sgL t kt)
  | 5 => agv (hcL (hcOf H (decA (c 205) (c 305)) (c 105)))
  | 6 => .bool true
  | 7 => .bool true
  | 8 => .bool true
  | 9 => .bool true
  | 10 => .bool true
  | _ => undef
set_option maxRecDepth 100000 in
set_option maxHeartbeats 4000000 in
theorem sh11T_congr (x0 x1 : Ak.As) (s t : Seg) (k kt : Hs) (H : Ak.Hr) (g bb p q B0 : Nat) (WW : World) (c c' : Nat → Nat) : ∀ j, (j < 11 → c' j = c j) → (j < 11 → c' (100 + j) = c (100 + j)) → (j < 11 → c' (200 + j) = c (200 + j)) → (j < 11 → c' (300 + j) = c (300 + j)) → sh11T x0 x1 s t k kt H g bb p q B0 WW c' j = sh11T x0 x1 s t k kt H g bb p q B0 WW c j
  | 0, _, _, _, _ => rfl
  | 1, _, _, _, _ => rfl
  | 2, _, h1, h2, h3 => by
    have e1 : c' 102 = c 102 := h1 (by omega)
    have e2 : c' 202 = c 202 := h2 (by omega)
    have e3 : c' 302 = c 302 := h3 (by omega)
    simp only [sh11T]; rw [e1, e2, e3]
  | 3, _, _, _, _ => rfl
  | 4, _, _, _, _ => rfl
  | 5, _, h1, h2, h3 => by
    have e1 : c' 105 = c 105 := h1 (by omega)
    have e2 : c' 205 = c 205 := h2 (by omega)
    have e3 : c' 305 = c 305 := h3 (by omega)
    simp only [sh11T]; rw [e1, e2, e3]
  | 6, _, _, _, _ => rfl
  | 7, _, _, _, _ => rfl
  | 8, _, _, _, _ => rfl
  | 9, _, _, _, _ => rfl
  | 10, _, _, _, _ => rfl
  | _ + 11, _, _, _, _ => rfl
set_option maxRecDepth 100000 in
set_option maxHeartbeats 4000000 in
theorem sh11_reg {ps : String} {Q : Exit → Act → World → Prop} {a0 : Act} {W0 : World} (sz : a0.tmps.size = 79) (x0 x1 : Ak.As) (s t : Seg) (k kt : Hs) (H : Ak.Hr) (g bb p q B0 : Nat) (WW : World)
    (e4 : a0.eval (.tmp 4) = .pointer (some ⟨g, 0, none⟩)) (e5 : a0.eval (.tmp 5) = .pointer (some ⟨bb, 0, none⟩)) (e9 : a0.eval (.tmp 9) = .pointer (some ⟨p, 0, none⟩)) (e10 : a0.eval (.tmp 10) = .pointer (some ⟨q, 0, none⟩))
    (l0 : B0 ≤ WW.heap.size) (c2 : ∀ W, Below B0 WW W → Calls Try.prog 8 #[agv (asL x0), agv (sgL s k)] W (WgE W H)) (c5 : ∀ W, Below B0 WW W → Calls Try.prog 8 #[agv (asL x1), agv (sgL t kt)] W (WgE W H)) (hS0 : Below B0 WW W0 ∧ Box W0 g 24 (asL x0) ∧ Box W0 bb 28 (sgL s k) ∧ Box W0 p 24 (asL x1) ∧ Box W0 q 28 (sgL t kt))
    (hfin : ∀ (c : Nat → Nat) (T : Nat → Value) w, T 10 = .bool true → Below B0 WW w ∧ Box w g 24 (asL x0) ∧ Box w bb 28 (sgL s k) ∧ Box w p 24 (asL x1) ∧ Box w q 28 (sgL t kt) ∧ (true = true → RowT w 0 (decA (c 202) (c 302)) H.sp.length (c 102) H.sp) ∧ (true = true → RowT w 0 (decA (c 205) (c 305)) H.sp.length (c 105) H.sp) ∧ True → Q .normal (((((((((((a0.put (some 69) (T 0)).put (some 70) (T 1)).put (some 71) (T 2)).put (some 72) (T 3)).put (some 73) (T 4)).put (some 74) (T 5)).put (some 75) (T 6)).put (some 76) (T 7)).put (some 77) (T 8)).put (some 78) (T 9)).put (some 8) (T 10)) w) :
    (Code.region 11 (sh11 ps) true).wp Try.prog Q a0 W0 := by
  refine wp_region_detg (by kernel_rfl) 11 rfl sh11D ?_ (by decide) (sh11T x0 x1 s t k kt H g bb p q B0 WW) (fun c D w => Below B0 WW w ∧ Box w g 24 (asL x0) ∧ Box w bb 28 (sgL s k) ∧ Box w p 24 (asL x1) ∧ Box w q 28 (sgL t kt) ∧ (D 2 = true → RowT w 0 (decA (c 202) (c 302)) H.sp.length (c 102) H.sp) ∧ (D 5 = true → RowT w 0 (decA (c 205) (c 305)) H.sp.length (c 105) H.sp) ∧ True) (fun _ => 0) (fun D hD => by
    show Below B0 WW W0.drew ∧ Box W0.drew g 24 (asL x0) ∧ Box W0.drew bb 28 (sgL s k) ∧ Box W0.drew p 24 (asL x1) ∧ Box W0.drew q 28 (sgL t kt) ∧ (D 2 = true → RowT W0.drew 0 (decA 0 0) H.sp.length 0 H.sp) ∧ (D 5 = true → RowT W0.drew 0 (decA 0 0) H.sp.length 0 H.sp) ∧ True
    rw [hD 2, hD 5]
    exact ⟨hS0.1.drew, hS0.2.1, hS0.2.2.1, hS0.2.2.2.1, hS0.2.2.2.2, fun h => (by cases h), fun h => (by cases h), trivial⟩) ?_ (by rfl) (fun c w D hD hSw => by
    have hSw' : Below B0 WW w ∧ Box w g 24 (asL x0) ∧ Box w bb 28 (sgL s k) ∧ Box w p 24 (asL x1) ∧ Box w q 28 (sgL t kt) ∧ (D 2 = true → RowT w 0 (decA (c 202) (c 302)) H.sp.length (c 102) H.sp) ∧ (D 5 = true → RowT w 0 (decA (c 205) (c 305)) H.sp.length (c 105) H.sp) ∧ True := hSw
    rw [hD 2 (by decide), hD 5 (by decide)] at hSw'
    exact hfin c (sh11T x0 x1 s t k kt H g bb p q B0 WW c) w rfl hSw')
  · intro jq t hj ht
    have : ∀ j, j < 11 → (sh11D j).all (· < 79) = true := by decide
    have := this jq hj
    rw [ht] at this
    rw [sz]
    simpa using this
  · intro iq o ho c D a w hSw hDi hcl hrd hs hel K hK
    have hin : iq < 11 := (Array.getElem?_eq_some_iff.1 ho).1
    match iq, hin, ho with
    | 0, _, ho =>
      obtain rfl := Option.some.inj (ho.symm.trans (sh11_0 ps))
      have u4 : a.eval (.tmp 4) = .pointer (some ⟨g, 0, none⟩) := (hel 4 (by decide)).trans e4
      exact op_valW (sh11_0 ps) rfl (v := agv (asL x0)) (run_loadS isS24 rfl u4 (hSw.2.1)) (hK c w (fun _ _ => rfl) (fun D' hi' hj' => by
        have hd2 : D' 2 = D 2 := hj' 2 (by decide)
        have hd5 : D' 5 = D 5 := hj' 5 (by decide)
        show Below B0 WW w ∧ Box w g 24 (asL x0) ∧ Box w bb 28 (sgL s k) ∧ Box w p 24 (asL x1) ∧ Box w q 28 (sgL t kt) ∧ (D' 2 = true → RowT w 0 (decA (c 202) (c 302)) H.sp.length (c 102) H.sp) ∧ (D' 5 = true → RowT w 0 (decA (c 205) (c 305)) H.sp.length (c 105) H.sp) ∧ True
        rw [hd2, hd5]
        exact hSw))
    | 1, _, ho =>
      obtain rfl := Option.some.inj (ho.symm.trans (sh11_1 ps))
      have u5 : a.eval (.tmp 5) = .pointer (some ⟨bb, 0, none⟩) := (hel 5 (by decide)).trans e5
      exact op_valW (sh11_1 ps) rfl (v := agv (sgL s k)) (run_loadS isS28 rfl u5 (hSw.2.2.1)) (hK c w (fun _ _ => rfl) (fun D' hi' hj' => by
        have hd2 : D' 2 = D 2 := hj' 2 (by decide)
        have hd5 : D' 5 = D 5 := hj' 5 (by decide)
        show Below B0 WW w ∧ Box w g 24 (asL x0) ∧ Box w bb 28 (sgL s k) ∧ Box w p 24 (asL x1) ∧ Box w q 28 (sgL t kt) ∧ (D' 2 = true → RowT w 0 (decA (c 202) (c 302)) H.sp.length (c 102) H.sp) ∧ (D' 5 = true → RowT w 0 (decA (c 205) (c 305)) H.sp.length (c 105) H.sp) ∧ True
        rw [hd2, hd5]
        exact hSw))
    | 2, _, ho =>
      obtain rfl := Option.some.inj (ho.symm.trans (sh11_2 ps))
      have s0 : a.eval (.tmp 69) = agv (asL x0) := hs 0 69 (by rfl) rfl
      have s1 : a.eval (.tmp 70) = agv (sgL s k) := hs 1 70 (by rfl) rfl
      exact op_enterW (sh11_2 ps) rfl (f := 8) (args := #[agv (asL x0), agv (sgL s k)]) (by rw [run_call rfl enter8]; simp only [List.map_toArray, List.map_cons, List.map_nil, s0, s1]; try rfl) ((c2 w hSw.1).mono (fun e w' hh => by
        obtain ⟨va, vc, rfl, hR, hB⟩ := hh
        obtain ⟨g', f', rfl⟩ := row_dec hR
        exact ⟨_, rfl, hK (fun z => if z = 102 then vc else if z = 202 then g' else if z = 302 then f' else c z) w' (fun j hj => by
          have hji : j ≠ 2 := by rintro rfl; rw [hDi] at hj; cases hj
          refine sh11T_congr _ _ _ _ _ _ _ _ _ _ _ _ _ _ _ j (fun h => ?_) (fun h => ?_) (fun h => ?_) (fun h => ?_)
          all_goals (rw [if_neg (by omega), if_neg (by omega), if_neg (by omega)])) (fun D' hi' hj' => by
          have hd2 : D' 2 = true := hi'
          have hd5 : D' 5 = D 5 := hj' 5 (by decide)
          show Below B0 WW w' ∧ Box w' g 24 (asL x0) ∧ Box w' bb 28 (sgL s k) ∧ Box w' p 24 (asL x1) ∧ Box w' q 28 (sgL t kt) ∧ (D' 2 = true → RowT w' 0 (decA g' f') H.sp.length vc H.sp) ∧ (D' 5 = true → RowT w' 0 (decA (c 205) (c 305)) H.sp.length (c 105) H.sp) ∧ True
          rw [hd2, hd5]
          exact ⟨Below.trans hSw.1 (hB.mono (Nat.le_trans l0 hSw.1.size)), (hSw.2.1).later hB, (hSw.2.2.1).later hB, (hSw.2.2.2.1).later hB, (hSw.2.2.2.2.1).later hB, fun _ => hR.mono (Nat.zero_le _), fun h => ((hSw.2.2.2.2.2.2.1) h).below hB (Nat.le_refl _), trivial⟩)⟩))
    | 3, _, ho =>
      obtain rfl := Option.some.inj (ho.symm.trans (sh11_3 ps))
      have u9 : a.eval (.tmp 9) = .pointer (some ⟨p, 0, none⟩) := (hel 9 (by decide)).trans e9
      exact op_valW (sh11_3 ps) rfl (v := agv (asL x1)) (run_loadS isS24 rfl u9 (hSw.2.2.2.1)) (hK c w (fun _ _ => rfl) (fun D' hi' hj' => by
        have hd2 : D' 2 = D 2 := hj' 2 (by decide)
        have hd5 : D' 5 = D 5 := hj' 5 (by decide)
        show Below B0 WW w ∧ Box w g 24 (asL x0) ∧ Box w bb 28 (sgL s k) ∧ Box w p 24 (asL x1) ∧ Box w q 28 (sgL t kt) ∧ (D' 2 = true → RowT w 0 (decA (c 202) (c 302)) H.sp.length (c 102) H.sp) ∧ (D' 5 = true → RowT w 0 (decA (c 205) (c 305)) H.sp.length (c 105) H.sp) ∧ True
        rw [hd2, hd5]
        exact hSw))
    | 4, _, ho =>
      obtain rfl := Option.some.inj (ho.symm.trans (sh11_4 ps))
      have u10 : a.eval (.tmp 10) = .pointer (some ⟨q, 0, none⟩) := (hel 10 (by decide)).trans e10
      exact op_valW (sh11_4 ps) rfl (v := agv (sgL t kt)) (run_loadS isS28 rfl u10 (hSw.2.2.2.2.1)) (hK c w (fun _ _ => rfl) (fun D' hi' hj' => by
        have hd2 : D' 2 = D 2 := hj' 2 (by decide)
        have hd5 : D' 5 = D 5 := hj' 5 (by decide)
        show Below B0 WW w ∧ Box w g 24 (asL x0) ∧ Box w bb 28 (sgL s k) ∧ Box w p 24 (asL x1) ∧ Box w q 28 (sgL t kt) ∧ (D' 2 = true → RowT w 0 (decA (c 202) (c 302)) H.sp.length (c 102) H.sp) ∧ (D' 5 = true → RowT w 0 (decA (c 205) (c 305)) H.sp.length (c 105) H.sp) ∧ True
        rw [hd2, hd5]
        exact hSw))
    | 5, _, ho =>
      obtain rfl := Option.some.inj (ho.symm.trans (sh11_5 ps))
      have s3 : a.eval (.tmp 72) = agv (asL x1) := hs 3 72 (by rfl) rfl
      have s4 : a.eval (.tmp 73) = agv (sgL t kt) := hs 4 73 (by rfl) rfl
      exact op_enterW (sh11_5 ps) rfl (f := 8) (args := #[agv (asL x1), agv (sgL t kt)]) (by rw [run_call rfl enter8]; simp only [List.map_toArray, List.map_cons, List.map_nil, s3, s4]; try rfl) ((c5 w hSw.1).mono (fun e w' hh => by
        obtain ⟨va, vc, rfl, hR, hB⟩ := hh
        obtain ⟨g', f', rfl⟩ := row_dec hR
        exact ⟨_, rfl, hK (fun z => if z = 105 then vc else if z = 205 then g' else if z = 305 then f' else c z) w' (fun j hj => by
          have hji : j ≠ 5 := by rintro rfl; rw [hDi] at hj; cases hj
          refine sh11T_congr _ _ _ _ _ _ _ _ _ _ _ _ _ _ _ j (fun h => ?_) (fun h => ?_) (fun h => ?_) (fun h => ?_)
          all_goals (rw [if_neg (by omega), if_neg (by omega), if_neg (by omega)])) (fun D' hi' hj' => by
          have hd2 : D' 2 = D 2 := hj' 2 (by decide)
          have hd5 : D' 5 = true := hi'
          show Below B0 WW w' ∧ Box w' g 24 (asL x0) ∧ Box w' bb 28 (sgL s k) ∧ Box w' p 24 (asL x1) ∧ Box w' q 28 (sgL t kt) ∧ (D' 2 = true → RowT w' 0 (decA (c 202) (c 302)) H.sp.length (c 102) H.sp) ∧ (D' 5 = true → RowT w' 0 (decA g' f') H.sp.length vc H.sp) ∧ True
          rw [hd2, hd5]
          exact ⟨Below.trans hSw.1 (hB.mono (Nat.le_trans l0 hSw.1.size)), (hSw.2.1).later hB, (hSw.2.2.1).later hB, (hSw.2.2.2.1).later hB, (hSw.2.2.2.2.1).later hB, fun h => ((hSw.2.2.2.2.2.1) h).below hB (Nat.le_refl _), fun _ => hR.mono (Nat.zero_le _), trivial⟩)⟩))
    | 6, _, ho =>
      obtain rfl := Option.some.inj (ho.symm.trans (sh11_6 ps))
      have s2 : a.eval (.tmp 71) = agv (hcL (hcOf H (decA (c 202) (c 302)) (c 102))) := hs 2 71 (by rfl) rfl
      have s5 : a.eval (.tmp 74) = agv (hcL (hcOf H (decA (c 205) (c 305)) (c 105))) := hs 5 74 (by rfl) rfl
      have hda : D 2 = true := hrd 2 (by rfl)
      have hdb : D 5 = true := hrd 5 (by rfl)
      exact op_enterW (sh11_6 ps) rfl (f := 9) (args := #[agv (hcL (hcOf H (decA (c 202) (c 302)) (c 102))), agv (hcL (hcOf H (decA (c 205) (c 305)) (c 105)))]) (by rw [run_call rfl enter9]; simp only [List.map_toArray, List.map_cons, List.map_nil, s2, s5]; try rfl) ((hsame_is H (decA (c 202) (c 302)) (decA (c 205) (c 305)) (c 102) (c 105) w ((hSw.2.2.2.2.2.1) hda).tims ((hSw.2.2.2.2.2.2.1) hdb).tims).mono (fun e w' hh => ⟨_, hh.1, hK c w' (fun _ _ => rfl) (fun D' hi' hj' => by
        have hd2 : D' 2 = D 2 := hj' 2 (by decide)
        have hd5 : D' 5 = D 5 := hj' 5 (by decide)
        show Below B0 WW w' ∧ Box w' g 24 (asL x0) ∧ Box w' bb 28 (sgL s k) ∧ Box w' p 24 (asL x1) ∧ Box w' q 28 (sgL t kt) ∧ (D' 2 = true → RowT w' 0 (decA (c 202) (c 302)) H.sp.length (c 102) H.sp) ∧ (D' 5 = true → RowT w' 0 (decA (c 205) (c 305)) H.sp.length (c 105) H.sp) ∧ True
        rw [hd2, hd5]
        exact ⟨Below.trans hSw.1 (hh.2.mono (Nat.le_trans l0 hSw.1.size)), (hSw.2.1).later hh.2, (hSw.2.2.1).later hh.2, (hSw.2.2.2.1).later hh.2, (hSw.2.2.2.2.1).later hh.2, fun h => ((hSw.2.2.2.2.2.1) h).below hh.2 (Nat.le_refl _), fun h => ((hSw.2.2.2.2.2.2.1) h).below hh.2 (Nat.le_refl _), trivial⟩)⟩))
    | 7, _, ho =>
      obtain rfl := Option.some.inj (ho.symm.trans (sh11_7 ps))
      have s6 : a.eval (.tmp 75) = .bool true := hs 6 75 (by rfl) rfl
      exact op_valW (sh11_7 ps) rfl (v := .bool true) (by unfold sh11O7 execOp; simp only [s6]; first | (go_simp; done) | (go_simp; with_reducible rfl)) (hK c w (fun _ _ => rfl) (fun D' hi' hj' => by
        have hd2 : D' 2 = D 2 := hj' 2 (by decide)
        have hd5 : D' 5 = D 5 := hj' 5 (by decide)
        show Below B0 WW w ∧ Box w g 24 (asL x0) ∧ Box w bb 28 (sgL s k) ∧ Box w p 24 (asL x1) ∧ Box w q 28 (sgL t kt) ∧ (D' 2 = true → RowT w 0 (decA (c 202) (c 302)) H.sp.length (c 102) H.sp) ∧ (D' 5 = true → RowT w 0 (decA (c 205) (c 305)) H.sp.length (c 105) H.sp) ∧ True
        rw [hd2, hd5]
        exact hSw))
    | 8, _, ho =>
      obtain rfl := Option.some.inj (ho.symm.trans (sh11_8 ps))
      have s7 : a.eval (.tmp 76) = .bool true := hs 7 76 (by rfl) rfl
      exact op_enterW (sh11_8 ps) (by rw [wanted_of rfl (sh11_7 ps) rfl s7]; rfl) (f := 10) (args := #[]) (by rw [run_call rfl enter10]; simp only [List.map_toArray, List.map_nil]; try rfl) ((heads_is w).mono (fun e w' hh => ⟨_, hh.1, hK c w' (fun _ _ => rfl) (fun D' hi' hj' => by
        have hd2 : D' 2 = D 2 := hj' 2 (by decide)
        have hd5 : D' 5 = D 5 := hj' 5 (by decide)
        show Below B0 WW w' ∧ Box w' g 24 (asL x0) ∧ Box w' bb 28 (sgL s k) ∧ Box w' p 24 (asL x1) ∧ Box w' q 28 (sgL t kt) ∧ (D' 2 = true → RowT w' 0 (decA (c 202) (c 302)) H.sp.length (c 102) H.sp) ∧ (D' 5 = true → RowT w' 0 (decA (c 205) (c 305)) H.sp.length (c 105) H.sp) ∧ True
        rw [hd2, hd5]
        exact ⟨Below.trans hSw.1 (hh.2.mono (Nat.le_trans l0 hSw.1.size)), (hSw.2.1).later hh.2, (hSw.2.2.1).later hh.2, (hSw.2.2.2.1).later hh.2, (hSw.2.2.2.2.1).later hh.2, fun h => ((hSw.2.2.2.2.2.1) h).below hh.2 (Nat.le_refl _), fun h => ((hSw.2.2.2.2.2.2.1) h).below hh.2 (Nat.le_refl _), trivial⟩)⟩))
    | 9, _, ho =>
      obtain rfl := Option.some.inj (ho.symm.trans (sh11_9 ps))
      have s7 : a.eval (.tmp 76) = .bool true := hs 7 76 (by rfl) rfl
      have s8 : a.eval (.tmp 77) = .bool true := hs 8 77 (by rfl) rfl
      exact op_valW (sh11_9 ps) rfl (v := .bool true) (by unfold sh11O9 execOp; simp only [s7, s8]; first | (go_simp; done) | (go_simp; with_reducible rfl)) (hK c w (fun _ _ => rfl) (fun D' hi' hj' => by
        have hd2 : D' 2 = D 2 := hj' 2 (by decide)
        have hd5 : D' 5 = D 5 := hj' 5 (by decide)
        show Below B0 WW w ∧ Box w g 24 (asL x0) ∧ Box w bb 28 (sgL s k) ∧ Box w p 24 (asL x1) ∧ Box w q 28 (sgL t kt) ∧ (D' 2 = true → RowT w 0 (decA (c 202) (c 302)) H.sp.length (c 102) H.sp) ∧ (D' 5 = true → RowT w 0 (decA (c 205) (c 305)) H.sp.length (c 105) H.sp) ∧ True
        rw [hd2, hd5]
        exact hSw))
    | 10, _, ho =>
      obtain rfl := Option.some.inj (ho.symm.trans (sh11_10 ps))
      have s9 : a.eval (.tmp 78) = .bool true := hs 9 78 (by rfl) rfl
      exact op_valW (sh11_10 ps) rfl (v := .bool true) (by unfold sh11O10 execOp; simp only [s9]; first | (go_simp; done) | (go_simp; with_reducible rfl)) (hK c w (fun _ _ => rfl) (fun D' hi' hj' => by
        have hd2 : D' 2 = D 2 := hj' 2 (by decide)
        have hd5 : D' 5 = D 5 := hj' 5 (by decide)
        show Below B0 WW w ∧ Box w g 24 (asL x0) ∧ Box w bb 28 (sgL s k) ∧ Box w p 24 (asL x1) ∧ Box w q 28 (sgL t kt) ∧ (D' 2 = true → RowT w 0 (decA (c 202) (c 302)) H.sp.length (c 102) H.sp) ∧ (D' 5 = true → RowT w 0 (decA (c 205) (c 305)) H.sp.length (c 105) H.sp) ∧ True
        rw [hd2, hd5]
        exact hSw))
    | iq + 11, hin, _ => exact absurd hin (by omega)
end Go.Proofs.Ytdodagpkkjpdiaa
