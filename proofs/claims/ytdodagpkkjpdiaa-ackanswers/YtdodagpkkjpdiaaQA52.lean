/- Texts: AnR, AOpen. -/
import Derived.Test.YtdodagpkkjpdiaaQA51
import Derived.Test.YtdodagpkkjpdiaaQA47
import Derived.Deep.SlicePairs
import Derived.SizedLaws
namespace Go.Proofs.Ytdodagpkkjpdiaa
open Go.ChangeShapes Go.WideShapes Go.ChangeAt Go.RowKit Go.Shelf
set_option linter.unusedVariables false
set_option linter.unusedSimpArgs false
attribute [local go_sem] Oper.semAt_some
/-- What the order that is drawn decides: blocks, and where the answer lies. -/
structure Gh where
  b : Nat → Nat
  k : Hd
  kt : Hs
theorem run_sliceLH {ev : Operand → Value} {o : Oper} {t : TypeId} {p q r : Operand} {v u u2 x : Value} {e : TypeId} (hu : Try.prog.underlying t = some (.slice e)) (ho : o.op = .slice t p (some q) (some r) none) (hp : ev p = v) (hq : ev q = u) (hr2 : ev r = u2) (hr : ∀ W, (Instr.slice t v (some u) (some u2) none).run Try.prog W = .ok x W) (w : World) : (execOp ev o).run Try.prog w = .ok (.value x) w := by
  unfold execOp
  simp only [ho, Option.map_some, Option.map_none, hp, hq, hr2, Sem.run_bind]
  unfold Instr.sliceAt
  simp only [Sem.run_bind, run_underlying hu, Result.andThen_ok, hr, Sem.run_pure]
theorem built28p (irs : Int) (x : Nat) (ds : List Int) (a : Option Addr) {n c : Nat} (h : ds.length = n) : Try.prog.built 28 [(2, .int .u32 (Pl.adI irs (x : Int))), (14, .slice a n c)] = some (sgL (pcS irs x ds) (pcH a c)).toArray := by
  subst h
  kernel_rfl
def an12O0 (ps : String) : Oper := { dst := some 72, op := .load 46 (.tmp 7), type := 46, pos := ps, after := #[], guard := none }
def an12O1 (ps : String) : Oper := { dst := some 73, op := .move (.tmp 0), type := 22, pos := ps, after := #[], guard := none }
def an12O2 (ps : String) : Oper := { dst := some 74, op := .move (.tmp 11), type := 3, pos := ps, after := #[], guard := none }
def an12O3 (ps : String) : Oper := { dst := some 75, op := .convert 3 22 (.tmp 74), type := 22, pos := ps, after := #[{ on := 2, ground := .data }], guard := none }
def an12O4 (ps : String) : Oper := { dst := some 76, op := .binOp .add 22 (.tmp 73) (.tmp 75) 22, type := 22, pos := ps, after := #[{ on := 1, ground := .data }, { on := 3, ground := .data }], guard := none }
def an12O5 (ps : String) : Oper := { dst := some 77, op := .move (.tmp 2), type := 26, pos := ps, after := #[], guard := none }
def an12O6 (ps : String) : Oper := { dst := some 78, op := .move (.tmp 11), type := 3, pos := ps, after := #[], guard := none }
def an12O7 (ps : String) : Oper := { dst := some 79, op := .move (.tmp 12), type := 3, pos := ps, after := #[], guard := none }
def an12O8 (ps : String) : Oper := { dst := some 80, op := .slice 26 (.tmp 77) (some (.tmp 78)) (some (.tmp 79)) none, type := 26, pos := ps, after := #[{ on := 5, ground := .data }, { on := 6, ground := .data }, { on := 7, ground := .data }], guard := none }
def an12O9 (ps : String) : Oper := { dst := some 81, op := .build 28 #[(2, .tmp 76), (14, .tmp 80)], type := 28, pos := ps, after := #[{ on := 4, ground := .data }, { on := 8, ground := .data }], guard := none }
def an12O10 (ps : String) : Oper := { dst := some 82, op := .call { callee := .value (.func 14), args := #[.tmp 72, .tmp 81], argTypes := #[46, 28] }, type := 50, pos := ps, after := #[{ on := 0, ground := .data }, { on := 9, ground := .data }], guard := none }
def an12O11 (ps : String) : Oper := { dst := some 71, op := .move (.tmp 82), type := 50, pos := ps, after := #[{ on := 10, ground := .data }], guard := none }
def an12O12 (ps : String) : Oper := { dst := some 83, op := .extract (.tmp 71) 0, type := 46, pos := ps, after := #[{ on := 11, ground := .data }], guard := none }
def an12O13 (ps : String) : Oper := { dst := some 84, op := .extract (.tmp 71) 1, type := 28, pos := ps, after := #[{ on := 11, ground := .data }, { on := 18, ground := .gcOnly .lateStores }], guard := none }
def an12O14 (ps : String) : Oper := { dst := some 85, op := .extract (.tmp 71) 2, type := 4, pos := ps, after := #[{ on := 11, ground := .data }, { on := 19, ground := .gcOnly .lateStores }], guard := none }
def an12O15 (ps : String) : Oper := { dst := some 86, op := .extract (.tmp 71) 3, type := 36, pos := ps, after := #[{ on := 11, ground := .data }, { on := 20, ground := .gcOnly .lateStores }], guard := none }
def an12O16 (ps : String) : Oper := { dst := some 13, op := .alloc 46, type := 0, pos := ps, after := #[], guard := none }
def an12O17 (ps : String) : Oper := { dst := some 14, op := .alloc 28, type := 0, pos := ps, after := #[], guard := none }
def an12O18 (ps : String) : Oper := { dst := none, op := .store 46 (.tmp 13) (.tmp 83), type := 0, pos := ps, after := #[{ on := 16, ground := .data }, { on := 12, ground := .data }, { on := 10, ground := .chain }, { on := 0, ground := .phase }, { on := 1, ground := .phase }, { on := 2, ground := .phase }, { on := 3, ground := .phase }, { on := 4, ground := .phase }, { on := 5, ground := .phase }, { on := 6, ground := .phase }, { on := 7, ground := .phase }, { on := 8, ground := .phase }, { on := 9, ground := .phase }, { on := 10, ground := .phase }, { on := 11, ground := .phase }, { on := 12, ground := .phase }, { on := 13, ground := .textOnly .lateStores }, { on := 14, ground := .textOnly .lateStores }, { on := 15, ground := .textOnly .lateStores }, { on := 16, ground := .phase }, { on := 17, ground := .phase }], guard := none }
def an12O19 (ps : String) : Oper := { dst := none, op := .store 28 (.tmp 14) (.tmp 84), type := 0, pos := ps, after := #[{ on := 17, ground := .data }, { on := 13, ground := .data }, { on := 18, ground := .chain }, { on := 0, ground := .phase }, { on := 1, ground := .phase }, { on := 2, ground := .phase }, { on := 3, ground := .phase }, { on := 4, ground := .phase }, { on := 5, ground := .phase }, { on := 6, ground := .phase }, { on := 7, ground := .phase }, { on := 8, ground := .phase }, { on := 9, ground := .phase }, { on := 10, ground := .phase }, { on := 11, ground := .phase }, { on := 12, ground := .phase }, { on := 13, ground := .phase }, { on := 14, ground := .textOnly .lateStores }, { on := 15, ground := .textOnly .lateStores }, { on := 16, ground := .phase }, { on := 17, ground := .phase }, { on := 18, ground := .phase }], guard := none }
def an12O20 (ps : String) : Oper := { dst := some 15, op := .assign (.tmp 85), type := 4, pos := ps, after := #[{ on := 14, ground := .data }, { on := 19, ground := .chain }, { on := 0, ground := .phase }, { on := 1, ground := .phase }, { on := 2, ground := .phase }, { on := 3, ground := .phase }, { on := 4, ground := .phase }, { on := 5, ground := .phase }, { on := 6, ground := .phase }, { on := 7, ground := .phase }, { on := 8, ground := .phase }, { on := 9, ground := .phase }, { on := 10, ground := .phase }, { on := 11, ground := .phase }, { on := 12, ground := .phase }, { on := 13, ground := .phase }, { on := 14, ground := .phase }, { on := 15, ground := .textOnly .lateStores }, { on := 16, ground := .phase }, { on := 17, ground := .phase }, { on := 18, ground := .phase }, { on := 19, ground := .phase }], guard := none }
def an12O21 (ps : String) : Oper := { dst := some 16, op := .assign (.tmp 86), type := 36, pos := ps, after := #[{ on := 15, ground := .data }, { on := 20, ground := .chain }, { on := 0, ground := .phase }, { on := 1, ground := .phase }, { on := 2, ground := .phase }, { on := 3, ground := .phase }, { on := 4, ground := .phase }, { on := 5, ground := .phase }, { on := 6, ground := .phase }, { on := 7, ground := .phase }, { on := 8, ground := .phase }, { on := 9, ground := .phase }, { on := 10, ground := .phase }, { on := 11, ground := .phase }, { on := 12, ground := .phase }, { on := 13, ground := .phase }, { on := 14, ground := .phase }, { on := 15, ground := .phase }, { on := 16, ground := .phase }, { on := 17, ground := .phase }, { on := 18, ground := .phase }, { on := 19, ground := .phase }, { on := 20, ground := .phase }], guard := none }
def an12 (ps : String) : Array Oper := #[an12O0 ps, an12O1 ps, an12O2 ps, an12O3 ps, an12O4 ps, an12O5 ps, an12O6 ps, an12O7 ps, an12O8 ps, an12O9 ps, an12O10 ps, an12O11 ps, an12O12 ps, an12O13 ps, an12O14 ps, an12O15 ps, an12O16 ps, an12O17 ps, an12O18 ps, an12O19 ps, an12O20 ps, an12O21 ps]
theorem an12_0 (ps : String) : (an12 ps)[0]? = some (an12O0 ps) := rfl
theorem an12_1 (ps : String) : (an12 ps)[1]? = some (an12O1 ps) := rfl
theorem an12_2 (ps : String) : (an12 ps)[2]? = some (an12O2 ps) := rfl
theorem an12_3 (ps : String) : (an12 ps)[3]? = some (an12O3 ps) := rfl
theorem an12_4 (ps : String) : (an12 ps)[4]? = some (an12O4 ps) := rfl
theorem an12_5 (ps : String) : (an12 ps)[5]? = some (an12O5 ps) := rfl
theorem an12_6 (ps : String) : (an12 ps)[6]? = some (an12O6 ps) := rfl
theorem an12_7 (ps : String) : (an12 ps)[7]? = some (an12O7 ps) := rfl
theorem an12_8 (ps : String) : (an12 ps)[8]? = some (an12O8 ps) := rfl
theorem an12_9 (ps : String) : (an12 ps)[9]? = some (an12O9 ps) := rfl
theorem an12_10 (ps : String) : (an12 ps)[10]? = some (an12O10 ps) := rfl
theorem an12_11 (ps : String) : (an12 ps)[11]? = some (an12O11 ps) := rfl
theorem an12_12 (ps : String) : (an12 ps)[12]? = some (an12O12 ps) := rfl
theorem an12_13 (ps : String) : (an12 ps)[13]? = some (an12O13 ps) := rfl
theorem an12_14 (ps : String) : (an12 ps)[14]? = some (an12O14 ps) := rfl
theorem an12_15 (ps : String) : (an12 ps)[15]? = some (an12O15 ps) := rfl
theorem an12_16 (ps : String) : (an12 ps)[16]? = some (an12O16 ps) := rfl
theorem an12_17 (ps : String) : (an12 ps)[17]? = some (an12O17 ps) := rfl
theorem an12_18 (ps : String) : (an12 ps)[18]? = some (an12O18 ps) := rfl
theorem an12_19 (ps : String) : (an12 ps)[19]? = some (an12O19 ps) := rfl
theorem an12_20 (ps : String) : (an12 ps)[20]? = some (an12O20 ps) := rfl
theorem an12_21 (ps : String) : (an12 ps)[21]? = some (an12O21 ps) := rfl
def an12D : Nat → Option Tmp
  | 0 => some 72
  | 1 => some 73
  | 2 => some 74
  | 3 => some 75
  | 4 => some 76
  | 5 => some 77
  | 6 => some 78
  | 7 => some 79
  | 8 => some 80
  | 9 => some 81
  | 10 => some 82
  | 11 => some 71
  | 12 => some 83
  | 13 => some 84
  | 14 => some 85
  | 15 => some 86
  | 16 => some 13
  | 17 => some 14
  | 18 => none
  | 19 => none
  | 20 => some 15
  | 21 => some 16
  | _ => none
def an12T (rr AA : Pl.Rv) (hz : Hd) (TT : Seg) (x9 : Ak.As) (irs : Int) (ta : Option Addr) (tc tn x t : Nat) (ds : List Int) (g7 g9 WS B0 : Nat) (WW : World) (c : Gh) : Nat → Value
  | 0 => agv (rvL rr hz)
  | 1 => .int .u32 irs
  | 2 => .int .i64 (x : Int)
  | 3 => .int .u32 (IntKind.u32.wrap (x : Int))
  | 4 => .int .u32 (Pl.adI irs (x : Int))
  | 5 => .slice ta tn tc
  | 6 => .int .i64 (x : Int)
  | 7 => .int .i64 (t : Int)
  | 8 => .slice (cutB ta tc x) (t - x) (tc - x)
  | 9 => agv (sgL (pcS irs x ds) (pcH (cutB ta tc x) (tc - x)))
  | 10 => .tuple #[agv (rvL AA c.k), agv (sgL TT c.kt), .bool true, .int .i64 0]
  | 11 => .tuple #[agv (rvL AA c.k), agv (sgL TT c.kt), .bool true, .int .i64 0]
  | 12 => agv (rvL AA c.k)
  | 13 => agv (sgL TT c.kt)
  | 14 => .bool true
  | 15 => .int .i64 0
  | 16 => .pointer (some ⟨c.b 16, 0, none⟩)
  | 17 => .pointer (some ⟨c.b 17, 0, none⟩)
  | 18 => undef
  | 19 => undef
  | 20 => .bool true
  | 21 => .int .i64 0
  | _ => undef
set_option maxRecDepth 100000 in
set_option maxHeartbeats 4000000 in
theorem an12T_congr (rr AA : Pl.Rv) (hz : Hd) (TT : Seg) (x9 : Ak.As) (irs : Int) (ta : Option Addr) (tc tn x t : Nat) (ds : List Int) (g7 g9 WS B0 : Nat) (WW : World) (c c' : Gh) : ∀ j, (j < 22 → c'.b j = c.b j) → c'.k = c.k → c'.kt = c.kt → an12T rr AA hz TT x9 irs ta tc tn x t ds g7 g9 WS B0 WW c' j = an12T rr AA hz TT x9 irs ta tc tn x t ds g7 g9 WS B0 WW c j
  | 0, _, _, _ => rfl
  | 1, _, _, _ => rfl
  | 2, _, _, _ => rfl
  | 3, _, _, _ => rfl
  | 4, _, _, _ => rfl
  | 5, _, _, _ => rfl
  | 6, _, _, _ => rfl
  | 7, _, _, _ => rfl
  | 8, _, _, _ => rfl
  | 9, _, _, _ => rfl
  | 10, h, h1, h2 => by simp only [an12T]; rw [h1, h2]
  | 11, h, h1, h2 => by simp only [an12T]; rw [h1, h2]
  | 12, h, h1, h2 => by simp only [an12T]; rw [h1]
  | 13, h, h1, h2 => by simp only [an12T]; rw [h2]
  | 14, _, _, _ => rfl
  | 15, _, _, _ => rfl
  | 16, h, h1, h2 => by simp only [an12T]; rw [h (by omega)]
  | 17, h, h1, h2 => by simp only [an12T]; rw [h (by omega)]
  | 18, _, _, _ => rfl
  | 19, _, _, _ => rfl
  | 20, _, _, _ => rfl
  | 21, _, _, _ => rfl
  | _ + 22, _, _, _ => rfl
set_option maxRecDepth 100000 in
set_option maxHeartbeats 4000000 in
theorem an12_reg {ps : String} {Q : Exit → Act → World → Prop} {a0 : Act} {W0 : World} (sz : a0.tmps.size = 142) (rr AA : Pl.Rv) (hz : Hd) (TT : Seg) (x9 : Ak.As) (irs : Int) (ta : Option Addr) (tc tn x t : Nat) (ds : List Int) (g7 g9 WS B0 : Nat) (WW : World)
    (e7 : a0.eval (.tmp 7) = .pointer (some ⟨g7, 0, none⟩)) (e0 : a0.eval (.tmp 0) = .int .u32 irs) (e11 : a0.eval (.tmp 11) = .int .i64 (x : Int)) (e2 : a0.eval (.tmp 2) = .slice ta tn tc) (e12 : a0.eval (.tmp 12) = .int .i64 (t : Int))
    (l0 : B0 ≤ WS) (lg : g7 < WS) (lb : g9 < WS) (hds : ds.length = t - x) (hsl : ∀ W, (Instr.slice 26 (.slice ta tn tc) (some (.int .i64 (x : Int))) (some (.int .i64 (t : Int))) none).run Try.prog W = .ok (.slice (cutB ta tc x) (t - x) (tc - x)) W) (c10 : ∀ W, Below B0 WW W → Calls Try.prog 14 #[agv (rvL rr hz), agv (sgL (pcS irs x ds) (pcH (cutB ta tc x) (tc - x)))] W fun e w' => ∃ (k : Hd) (kt : Hs), e = .returned (.tuple #[agv (rvL AA k), agv (sgL TT kt), .bool true, .int .i64 0]) ∧ RvOwn w' W.heap.size AA k ∧ SgOwn w' W.heap.size TT kt ∧ Below W.heap.size W w') (hS0 : Below B0 WW W0 ∧ WS ≤ W0.heap.size ∧ Box W0 g7 46 (rvL rr hz) ∧ Box W0 g9 24 (asL x9))
    (hfin : ∀ (c : Gh) (T : Nat → Value) w, T 16 = .pointer (some ⟨c.b 16, 0, none⟩) → T 17 = .pointer (some ⟨c.b 17, 0, none⟩) → T 20 = .bool true → T 21 = .int .i64 0 → Below B0 WW w ∧ WS ≤ w.heap.size ∧ Box w g7 46 (rvL rr hz) ∧ Box w g9 24 (asL x9) ∧ (true = true → RvOwn w WS AA c.k ∧ SgOwn w WS TT c.kt) ∧ (true = true → WS ≤ (c.b 16) ∧ Box w (c.b 16) 46 (rvL (if true = true then AA else rvZ) (if true = true then c.k else noH))) ∧ (true = true → WS ≤ (c.b 17) ∧ Box w (c.b 17) 28 (sgL (if true = true then TT else zeroS) (if true = true then c.kt else hsZ))) ∧ True → Q .normal ((((((((((((((((((((a0.put (some 72) (T 0)).put (some 73) (T 1)).put (some 74) (T 2)).put (some 75) (T 3)).put (some 76) (T 4)).put (some 77) (T 5)).put (some 78) (T 6)).put (some 79) (T 7)).put (some 80) (T 8)).put (some 81) (T 9)).put (some 82) (T 10)).put (some 71) (T 11)).put (some 83) (T 12)).put (some 84) (T 13)).put (some 85) (T 14)).put (some 86) (T 15)).put (some 13) (T 16)).put (some 14) (T 17)).put (some 15) (T 20)).put (some 16) (T 21)) w) :
    (Code.region 12 (an12 ps) true).wp Try.prog Q a0 W0 := by
  refine wp_region_detg (by kernel_rfl) 22 rfl an12D ?_ (by decide) (an12T rr AA hz TT x9 irs ta tc tn x t ds g7 g9 WS B0 WW) (fun c D w => Below B0 WW w ∧ WS ≤ w.heap.size ∧ Box w g7 46 (rvL rr hz) ∧ Box w g9 24 (asL x9) ∧ (D 10 = true → RvOwn w WS AA c.k ∧ SgOwn w WS TT c.kt) ∧ (D 16 = true → WS ≤ (c.b 16) ∧ Box w (c.b 16) 46 (rvL (if D 18 = true then AA else rvZ) (if D 18 = true then c.k else noH))) ∧ (D 17 = true → WS ≤ (c.b 17) ∧ Box w (c.b 17) 28 (sgL (if D 19 = true then TT else zeroS) (if D 19 = true then c.kt else hsZ))) ∧ True) (⟨fun _ => 0, noH, hsZ⟩ : Gh) (fun D hD => by
    show Below B0 WW W0.drew ∧ WS ≤ W0.drew.heap.size ∧ Box W0.drew g7 46 (rvL rr hz) ∧ Box W0.drew g9 24 (asL x9) ∧ (D 10 = true → RvOwn W0.drew WS AA noH ∧ SgOwn W0.drew WS TT hsZ) ∧ (D 16 = true → WS ≤ 0 ∧ Box W0.drew 0 46 (rvL (if D 18 = true then AA else rvZ) (if D 18 = true then noH else noH))) ∧ (D 17 = true → WS ≤ 0 ∧ Box W0.drew 0 28 (sgL (if D 19 = true then TT else zeroS) (if D 19 = true then hsZ else hsZ))) ∧ True
    rw [hD 10, hD 16, hD 17, hD 18, hD 19]
    exact ⟨hS0.1.drew, hS0.2.1, hS0.2.2.1, hS0.2.2.2, fun h => (by cases h), fun h => (by cases h), fun h => (by cases h), trivial⟩) ?_ (by rfl) (fun c w D hD hSw => by
    have hSw' : Below B0 WW w ∧ WS ≤ w.heap.size ∧ Box w g7 46 (rvL rr hz) ∧ Box w g9 24 (asL x9) ∧ (D 10 = true → RvOwn w WS AA c.k ∧ SgOwn w WS TT c.kt) ∧ (D 16 = true → WS ≤ (c.b 16) ∧ Box w (c.b 16) 46 (rvL (if D 18 = true then AA else rvZ) (if D 18 = true then c.k else noH))) ∧ (D 17 = true → WS ≤ (c.b 17) ∧ Box w (c.b 17) 28 (sgL (if D 19 = true then TT else zeroS) (if D 19 = true then c.kt else hsZ))) ∧ True := hSw
    rw [hD 10 (by decide), hD 16 (by decide), hD 17 (by decide), hD 18 (by decide), hD 19 (by decide)] at hSw'
    exact hfin c (an12T rr AA hz TT x9 irs ta tc tn x t ds g7 g9 WS B0 WW c) w rfl rfl rfl rfl hSw')
  · intro jq t hj ht
    have : ∀ j, j < 22 → (an12D j).all (· < 142) = true := by decide
    have := this jq hj
    rw [ht] at this
    rw [sz]
    simpa using this
  · intro iq o ho c D a w hSw hDi hcl hrd hs hel K hK
    have hin : iq < 22 := (Array.getElem?_eq_some_iff.1 ho).1
    match iq, hin, ho with
    | 0, _, ho =>
      obtain rfl := Option.some.inj (ho.symm.trans (an12_0 ps))
      have u7 : a.eval (.tmp 7) = .pointer (some ⟨g7, 0, none⟩) := (hel 7 (by decide)).trans e7
      exact op_valW (an12_0 ps) rfl (v := agv (rvL rr hz)) (run_loadS isS46 rfl u7 (hSw.2.2.1)) (hK c w (fun _ _ => rfl) (fun D' hi' hj' => by
        have hd10 : D' 10 = D 10 := hj' 10 (by decide)
        have hd16 : D' 16 = D 16 := hj' 16 (by decide)
        have hd17 : D' 17 = D 17 := hj' 17 (by decide)
        have hd18 : D' 18 = D 18 := hj' 18 (by decide)
        have hd19 : D' 19 = D 19 := hj' 19 (by decide)
        show Below B0 WW w ∧ WS ≤ w.heap.size ∧ Box w g7 46 (rvL rr hz) ∧ Box w g9 24 (asL x9) ∧ (D' 10 = true → RvOwn w WS AA c.k ∧ SgOwn w WS TT c.kt) ∧ (D' 16 = true → WS ≤ (c.b 16) ∧ Box w (c.b 16) 46 (rvL (if D' 18 = true then AA else rvZ) (if D' 18 = true then c.k else noH))) ∧ (D' 17 = true → WS ≤ (c.b 17) ∧ Box w (c.b 17) 28 (sgL (if D' 19 = true then TT else zeroS) (if D' 19 = true then c.kt else hsZ))) ∧ True
        rw [hd10, hd16, hd17, hd18, hd19]
        exact hSw))
    | 1, _, ho =>
      obtain rfl := Option.some.inj (ho.symm.trans (an12_1 ps))
      have u0 : a.eval (.tmp 0) = .int .u32 irs := (hel 0 (by decide)).trans e0
      exact op_valW (an12_1 ps) rfl (v := .int .u32 irs) (by unfold an12O1 execOp; simp only [u0]; first | (go_simp; done) | (go_simp; with_reducible rfl)) (hK c w (fun _ _ => rfl) (fun D' hi' hj' => by
        have hd10 : D' 10 = D 10 := hj' 10 (by decide)
        have hd16 : D' 16 = D 16 := hj' 16 (by decide)
        have hd17 : D' 17 = D 17 := hj' 17 (by decide)
        have hd18 : D' 18 = D 18 := hj' 18 (by decide)
        have hd19 : D' 19 = D 19 := hj' 19 (by decide)
        show Below B0 WW w ∧ WS ≤ w.heap.size ∧ Box w g7 46 (rvL rr hz) ∧ Box w g9 24 (asL x9) ∧ (D' 10 = true → RvOwn w WS AA c.k ∧ SgOwn w WS TT c.kt) ∧ (D' 16 = true → WS ≤ (c.b 16) ∧ Box w (c.b 16) 46 (rvL (if D' 18 = true then AA else rvZ) (if D' 18 = true then c.k else noH))) ∧ (D' 17 = true → WS ≤ (c.b 17) ∧ Box w (c.b 17) 28 (sgL (if D' 19 = true then TT else zeroS) (if D' 19 = true then c.kt else hsZ))) ∧ True
        rw [hd10, hd16, hd17, hd18, hd19]
        exact hSw))
    | 2, _, ho =>
      obtain rfl := Option.some.inj (ho.symm.trans (an12_2 ps))
      have u11 : a.eval (.tmp 11) = .int .i64 (x : Int) := (hel 11 (by decide)).trans e11
      exact op_valW (an12_2 ps) rfl (v := .int .i64 (x : Int)) (by unfold an12O2 execOp; simp only [u11]; first | (go_simp; done) | (go_simp; with_reducible rfl)) (hK c w (fun _ _ => rfl) (fun D' hi' hj' => by
        have hd10 : D' 10 = D 10 := hj' 10 (by decide)
        have hd16 : D' 16 = D 16 := hj' 16 (by decide)
        have hd17 : D' 17 = D 17 := hj' 17 (by decide)
        have hd18 : D' 18 = D 18 := hj' 18 (by decide)
        have hd19 : D' 19 = D 19 := hj' 19 (by decide)
        show Below B0 WW w ∧ WS ≤ w.heap.size ∧ Box w g7 46 (rvL rr hz) ∧ Box w g9 24 (asL x9) ∧ (D' 10 = true → RvOwn w WS AA c.k ∧ SgOwn w WS TT c.kt) ∧ (D' 16 = true → WS ≤ (c.b 16) ∧ Box w (c.b 16) 46 (rvL (if D' 18 = true then AA else rvZ) (if D' 18 = true then c.k else noH))) ∧ (D' 17 = true → WS ≤ (c.b 17) ∧ Box w (c.b 17) 28 (sgL (if D' 19 = true then TT else zeroS) (if D' 19 = true then c.kt else hsZ))) ∧ True
        rw [hd10, hd16, hd17, hd18, hd19]
        exact hSw))
    | 3, _, ho =>
      obtain rfl := Option.some.inj (ho.symm.trans (an12_3 ps))
      have s2 : a.eval (.tmp 74) = .int .i64 (x : Int) := hs 2 74 (by rfl) rfl
      exact op_valW (an12_3 ps) rfl (v := .int .u32 (IntKind.u32.wrap (x : Int))) (by unfold an12O3 execOp; simp only [s2]; first | (go_simp; done) | (go_simp; with_reducible rfl)) (hK c w (fun _ _ => rfl) (fun D' hi' hj' => by
        have hd10 : D' 10 = D 10 := hj' 10 (by decide)
        have hd16 : D' 16 = D 16 := hj' 16 (by decide)
        have hd17 : D' 17 = D 17 := hj' 17 (by decide)
        have hd18 : D' 18 = D 18 := hj' 18 (by decide)
        have hd19 : D' 19 = D 19 := hj' 19 (by decide)
        show Below B0 WW w ∧ WS ≤ w.heap.size ∧ Box w g7 46 (rvL rr hz) ∧ Box w g9 24 (asL x9) ∧ (D' 10 = true → RvOwn w WS AA c.k ∧ SgOwn w WS TT c.kt) ∧ (D' 16 = true → WS ≤ (c.b 16) ∧ Box w (c.b 16) 46 (rvL (if D' 18 = true then AA else rvZ) (if D' 18 = true then c.k else noH))) ∧ (D' 17 = true → WS ≤ (c.b 17) ∧ Box w (c.b 17) 28 (sgL (if D' 19 = true then TT else zeroS) (if D' 19 = true then c.kt else hsZ))) ∧ True
        rw [hd10, hd16, hd17, hd18, hd19]
        exact hSw))
    | 4, _, ho =>
      obtain rfl := Option.some.inj (ho.symm.trans (an12_4 ps))
      have s1 : a.eval (.tmp 73) = .int .u32 irs := hs 1 73 (by rfl) rfl
      have s3 : a.eval (.tmp 75) = .int .u32 (IntKind.u32.wrap (x : Int)) := hs 3 75 (by rfl) rfl
      have hwr : IntKind.u32.wrap (irs + IntKind.u32.wrap (x : Int)) = Pl.adI irs (x : Int) := by rw [wrapU, wrapU]; unfold Pl.adI; omega
      exact op_valW (an12_4 ps) rfl (v := .int .u32 (Pl.adI irs (x : Int))) (by unfold an12O4 execOp; simp only [s1, s3]; first | (go_simp; done) | (go_simp; with_reducible rfl)) (hK c w (fun _ _ => rfl) (fun D' hi' hj' => by
        have hd10 : D' 10 = D 10 := hj' 10 (by decide)
        have hd16 : D' 16 = D 16 := hj' 16 (by decide)
        have hd17 : D' 17 = D 17 := hj' 17 (by decide)
        have hd18 : D' 18 = D 18 := hj' 18 (by decide)
        have hd19 : D' 19 = D 19 := hj' 19 (by decide)
        show Below B0 WW w ∧ WS ≤ w.heap.size ∧ Box w g7 46 (rvL rr hz) ∧ Box w g9 24 (asL x9) ∧ (D' 10 = true → RvOwn w WS AA c.k ∧ SgOwn w WS TT c.kt) ∧ (D' 16 = true → WS ≤ (c.b 16) ∧ Box w (c.b 16) 46 (rvL (if D' 18 = true then AA else rvZ) (if D' 18 = true then c.k else noH))) ∧ (D' 17 = true → WS ≤ (c.b 17) ∧ Box w (c.b 17) 28 (sgL (if D' 19 = true then TT else zeroS) (if D' 19 = true then c.kt else hsZ))) ∧ True
        rw [hd10, hd16, hd17, hd18, hd19]
        exact hSw))
    | 5, _, ho =>
      obtain rfl := Option.some.inj (ho.symm.trans (an12_5 ps))
      have u2 : a.eval (.tmp 2) = .slice ta tn tc := (hel 2 (by decide)).trans e2
      exact op_valW (an12_5 ps) rfl (v := .slice ta tn tc) (by unfold an12O5 execOp; simp only [u2]; first | (go_simp; done) | (go_simp; with_reducible rfl)) (hK c w (fun _ _ => rfl) (fun D' hi' hj' => by
        have hd10 : D' 10 = D 10 := hj' 10 (by decide)
        have hd16 : D' 16 = D 16 := hj' 16 (by decide)
        have hd17 : D' 17 = D 17 := hj' 17 (by decide)
        have hd18 : D' 18 = D 18 := hj' 18 (by decide)
        have hd19 : D' 19 = D 19 := hj' 19 (by decide)
        show Below B0 WW w ∧ WS ≤ w.heap.size ∧ Box w g7 46 (rvL rr hz) ∧ Box w g9 24 (asL x9) ∧ (D' 10 = true → RvOwn w WS AA c.k ∧ SgOwn w WS TT c.kt) ∧ (D' 16 = true → WS ≤ (c.b 16) ∧ Box w (c.b 16) 46 (rvL (if D' 18 = true then AA else rvZ) (if D' 18 = true then c.k else noH))) ∧ (D' 17 = true → WS ≤ (c.b 17) ∧ Box w (c.b 17) 28 (sgL (if D' 19 = true then TT else zeroS) (if D' 19 = true then c.kt else hsZ))) ∧ True
        rw [hd10, hd16, hd17, hd18, hd19]
        exact hSw))
    | 6, _, ho =>
      obtain rfl := Option.some.inj (ho.symm.trans (an12_6 ps))
      have u11 : a.eval (.tmp 11) = .int .i64 (x : Int) := (hel 11 (by decide)).trans e11
      exact op_valW (an12_6 ps) rfl (v := .int .i64 (x : Int)) (by unfold an12O6 execOp; simp only [u11]; first | (go_simp; done) | (go_simp; with_reducible rfl)) (hK c w (fun _ _ => rfl) (fun D' hi' hj' => by
        have hd10 : D' 10 = D 10 := hj' 10 (by decide)
        have hd16 : D' 16 = D 16 := hj' 16 (by decide)
        have hd17 : D' 17 = D 17 := hj' 17 (by decide)
        have hd18 : D' 18 = D 18 := hj' 18 (by decide)
        have hd19 : D' 19 = D 19 := hj' 19 (by decide)
        show Below B0 WW w ∧ WS ≤ w.heap.size ∧ Box w g7 46 (rvL rr hz) ∧ Box w g9 24 (asL x9) ∧ (D' 10 = true → RvOwn w WS AA c.k ∧ SgOwn w WS TT c.kt) ∧ (D' 16 = true → WS ≤ (c.b 16) ∧ Box w (c.b 16) 46 (rvL (if D' 18 = true then AA else rvZ) (if D' 18 = true then c.k else noH))) ∧ (D' 17 = true → WS ≤ (c.b 17) ∧ Box w (c.b 17) 28 (sgL (if D' 19 = true then TT else zeroS) (if D' 19 = true then c.kt else hsZ))) ∧ True
        rw [hd10, hd16, hd17, hd18, hd19]
        exact hSw))
    | 7, _, ho =>
      obtain rfl := Option.some.inj (ho.symm.trans (an12_7 ps))
      have u12 : a.eval (.tmp 12) = .int .i64 (t : Int) := (hel 12 (by decide)).trans e12
      exact op_valW (an12_7 ps) rfl (v := .int .i64 (t : Int)) (by unfold an12O7 execOp; simp only [u12]; first | (go_simp; done) | (go_simp; with_reducible rfl)) (hK c w (fun _ _ => rfl) (fun D' hi' hj' => by
        have hd10 : D' 10 = D 10 := hj' 10 (by decide)
        have hd16 : D' 16 = D 16 := hj' 16 (by decide)
        have hd17 : D' 17 = D 17 := hj' 17 (by decide)
        have hd18 : D' 18 = D 18 := hj' 18 (by decide)
        have hd19 : D' 19 = D 19 := hj' 19 (by decide)
        show Below B0 WW w ∧ WS ≤ w.heap.size ∧ Box w g7 46 (rvL rr hz) ∧ Box w g9 24 (asL x9) ∧ (D' 10 = true → RvOwn w WS AA c.k ∧ SgOwn w WS TT c.kt) ∧ (D' 16 = true → WS ≤ (c.b 16) ∧ Box w (c.b 16) 46 (rvL (if D' 18 = true then AA else rvZ) (if D' 18 = true then c.k else noH))) ∧ (D' 17 = true → WS ≤ (c.b 17) ∧ Box w (c.b 17) 28 (sgL (if D' 19 = true then TT else zeroS) (if D' 19 = true then c.kt else hsZ))) ∧ True
        rw [hd10, hd16, hd17, hd18, hd19]
        exact hSw))
    | 8, _, ho =>
      obtain rfl := Option.some.inj (ho.symm.trans (an12_8 ps))
      have s5 : a.eval (.tmp 77) = .slice ta tn tc := hs 5 77 (by rfl) rfl
      have s6 : a.eval (.tmp 78) = .int .i64 (x : Int) := hs 6 78 (by rfl) rfl
      have s7 : a.eval (.tmp 79) = .int .i64 (t : Int) := hs 7 79 (by rfl) rfl
      exact op_valW (an12_8 ps) rfl (v := .slice (cutB ta tc x) (t - x) (tc - x)) (run_sliceLH Try.underlying26 rfl s5 s6 s7 hsl w) (hK c w (fun _ _ => rfl) (fun D' hi' hj' => by
        have hd10 : D' 10 = D 10 := hj' 10 (by decide)
        have hd16 : D' 16 = D 16 := hj' 16 (by decide)
        have hd17 : D' 17 = D 17 := hj' 17 (by decide)
        have hd18 : D' 18 = D 18 := hj' 18 (by decide)
        have hd19 : D' 19 = D 19 := hj' 19 (by decide)
        show Below B0 WW w ∧ WS ≤ w.heap.size ∧ Box w g7 46 (rvL rr hz) ∧ Box w g9 24 (asL x9) ∧ (D' 10 = true → RvOwn w WS AA c.k ∧ SgOwn w WS TT c.kt) ∧ (D' 16 = true → WS ≤ (c.b 16) ∧ Box w (c.b 16) 46 (rvL (if D' 18 = true then AA else rvZ) (if D' 18 = true then c.k else noH))) ∧ (D' 17 = true → WS ≤ (c.b 17) ∧ Box w (c.b 17) 28 (sgL (if D' 19 = true then TT else zeroS) (if D' 19 = true then c.kt else hsZ))) ∧ True
        rw [hd10, hd16, hd17, hd18, hd19]
        exact hSw))
    | 9, _, ho =>
      obtain rfl := Option.some.inj (ho.symm.trans (an12_9 ps))
      have s4 : a.eval (.tmp 76) = .int .u32 (Pl.adI irs (x : Int)) := hs 4 76 (by rfl) rfl
      have s8 : a.eval (.tmp 80) = .slice (cutB ta tc x) (t - x) (tc - x) := hs 8 80 (by rfl) rfl
      exact op_valW (an12_9 ps) rfl (v := agv (sgL (pcS irs x ds) (pcH (cutB ta tc x) (tc - x)))) (run_buildS rfl (by simp only [List.map_cons, List.map_nil, s4, s8]; exact built28p _ _ _ _ hds)) (hK c w (fun _ _ => rfl) (fun D' hi' hj' => by
        have hd10 : D' 10 = D 10 := hj' 10 (by decide)
        have hd16 : D' 16 = D 16 := hj' 16 (by decide)
        have hd17 : D' 17 = D 17 := hj' 17 (by decide)
        have hd18 : D' 18 = D 18 := hj' 18 (by decide)
        have hd19 : D' 19 = D 19 := hj' 19 (by decide)
        show Below B0 WW w ∧ WS ≤ w.heap.size ∧ Box w g7 46 (rvL rr hz) ∧ Box w g9 24 (asL x9) ∧ (D' 10 = true → RvOwn w WS AA c.k ∧ SgOwn w WS TT c.kt) ∧ (D' 16 = true → WS ≤ (c.b 16) ∧ Box w (c.b 16) 46 (rvL (if D' 18 = true then AA else rvZ) (if D' 18 = true then c.k else noH))) ∧ (D' 17 = true → WS ≤ (c.b 17) ∧ Box w (c.b 17) 28 (sgL (if D' 19 = true then TT else zeroS) (if D' 19 = true then c.kt else hsZ))) ∧ True
        rw [hd10, hd16, hd17, hd18, hd19]
        exact hSw))
    | 10, _, ho =>
      obtain rfl := Option.some.inj (ho.symm.trans (an12_10 ps))
      have s0 : a.eval (.tmp 72) = agv (rvL rr hz) := hs 0 72 (by rfl) rfl
      have s9 : a.eval (.tmp 81) = agv (sgL (pcS irs x ds) (pcH (cutB ta tc x) (tc - x))) := hs 9 81 (by rfl) rfl
      exact op_enterW (an12_10 ps) rfl (f := 14) (args := #[agv (rvL rr hz), agv (sgL (pcS irs x ds) (pcH (cutB ta tc x) (tc - x)))]) (by rw [run_call rfl enter14]; simp only [List.map_toArray, List.map_cons, List.map_nil, s0, s9]; try rfl) ((c10 w hSw.1).mono (fun e w' hh => by
        obtain ⟨k', kt', rfl, hR1, hR2, hB⟩ := hh
        exact ⟨_, rfl, hK { c with k := k', kt := kt' } w' (fun j hj => by
          have h10 : j ≠ 10 := by rintro rfl; rw [hDi] at hj; cases hj
          have h11 : j ≠ 11 := by rintro rfl; exact absurd (hcl 11 _ 10 (an12_11 ps) (by rfl) hj) (by rw [hDi]; simp)
          have h12 : j ≠ 12 := by rintro rfl; exact absurd (hcl 11 _ 10 (an12_11 ps) (by rfl) (hcl 12 _ 11 (an12_12 ps) (by rfl) hj)) (by rw [hDi]; simp)
          have h13 : j ≠ 13 := by rintro rfl; exact absurd (hcl 11 _ 10 (an12_11 ps) (by rfl) (hcl 13 _ 11 (an12_13 ps) (by rfl) hj)) (by rw [hDi]; simp)
          match j, h10, h11, h12, h13 with
          | 0, _, _, _, _ => rfl
          | 1, _, _, _, _ => rfl
          | 2, _, _, _, _ => rfl
          | 3, _, _, _, _ => rfl
          | 4, _, _, _, _ => rfl
          | 5, _, _, _, _ => rfl
          | 6, _, _, _, _ => rfl
          | 7, _, _, _, _ => rfl
          | 8, _, _, _, _ => rfl
          | 9, _, _, _, _ => rfl
          | 10, h, _, _, _ => exact absurd rfl h
          | 11, _, h, _, _ => exact absurd rfl h
          | 12, _, _, h, _ => exact absurd rfl h
          | 13, _, _, _, h => exact absurd rfl h
          | 14, _, _, _, _ => rfl
          | 15, _, _, _, _ => rfl
          | 16, _, _, _, _ => rfl
          | 17, _, _, _, _ => rfl
          | 18, _, _, _, _ => rfl
          | 19, _, _, _, _ => rfl
          | 20, _, _, _, _ => rfl
          | 21, _, _, _, _ => rfl
          | _ + 22, _, _, _, _ => rfl) (fun D' hi' hj' => by
          have hd10 : D' 10 = true := hi'
          have hd16 : D' 16 = D 16 := hj' 16 (by decide)
          have hd17 : D' 17 = D 17 := hj' 17 (by decide)
          have hd18 : D' 18 = D 18 := hj' 18 (by decide)
          have hd19 : D' 19 = D 19 := hj' 19 (by decide)
          show Below B0 WW w' ∧ WS ≤ w'.heap.size ∧ Box w' g7 46 (rvL rr hz) ∧ Box w' g9 24 (asL x9) ∧ (D' 10 = true → RvOwn w' WS AA k' ∧ SgOwn w' WS TT kt') ∧ (D' 16 = true → WS ≤ (c.b 16) ∧ Box w' (c.b 16) 46 (rvL (if D' 18 = true then AA else rvZ) (if D' 18 = true then k' else noH))) ∧ (D' 17 = true → WS ≤ (c.b 17) ∧ Box w' (c.b 17) 28 (sgL (if D' 19 = true then TT else zeroS) (if D' 19 = true then kt' else hsZ))) ∧ True
          rw [hd10, hd16, hd17, hd18, hd19]
          exact ⟨hSw.1.trans (hB.mono (Nat.le_trans l0 (hSw.2.1))), Nat.le_trans (hSw.2.1) hB.size, (hSw.2.2.1).later hB, (hSw.2.2.2.1).later hB, fun _ => ⟨hR1.mono (hSw.2.1), hR2.mono' (hSw.2.1)⟩, fun h => ⟨((hSw.2.2.2.2.2.1) h).1, by have hb9 := ((hSw.2.2.2.2.2.1) h).2; rw [(show D 18 = false from (by cases h : D 18 with | false => rfl | true => exact absurd (hcl 18 _ 10 (an12_18 ps) (by rfl) h) (by rw [hDi]; simp))), if_neg (by simp), if_neg (by simp)] at hb9; rw [(show D 18 = false from (by cases h : D 18 with | false => rfl | true => exact absurd (hcl 18 _ 10 (an12_18 ps) (by rfl) h) (by rw [hDi]; simp))), if_neg (by simp), if_neg (by simp)]; exact hb9.later hB⟩, fun h => ⟨((hSw.2.2.2.2.2.2.1) h).1, by have hb9 := ((hSw.2.2.2.2.2.2.1) h).2; rw [(show D 19 = false from (by cases h : D 19 with | false => rfl | true => exact absurd (hcl 19 _ 10 (an12_19 ps) (by rfl) h) (by rw [hDi]; simp))), if_neg (by simp), if_neg (by simp)] at hb9; rw [(show D 19 = false from (by cases h : D 19 with | false => rfl | true => exact absurd (hcl 19 _ 10 (an12_19 ps) (by rfl) h) (by rw [hDi]; simp))), if_neg (by simp), if_neg (by simp)]; exact hb9.later hB⟩, trivial⟩)⟩))
    | 11, _, ho =>
      obtain rfl := Option.some.inj (ho.symm.trans (an12_11 ps))
      have s10 : a.eval (.tmp 82) = .tuple #[agv (rvL AA c.k), agv (sgL TT c.kt), .bool true, .int .i64 0] := hs 10 82 (by rfl) rfl
      exact op_valW (an12_11 ps) rfl (v := .tuple #[agv (rvL AA c.k), agv (sgL TT c.kt), .bool true, .int .i64 0]) (by unfold an12O11 execOp; simp only [s10]; first | (go_simp; done) | (go_simp; with_reducible rfl)) (hK c w (fun _ _ => rfl) (fun D' hi' hj' => by
        have hd10 : D' 10 = D 10 := hj' 10 (by decide)
        have hd16 : D' 16 = D 16 := hj' 16 (by decide)
        have hd17 : D' 17 = D 17 := hj' 17 (by decide)
        have hd18 : D' 18 = D 18 := hj' 18 (by decide)
        have hd19 : D' 19 = D 19 := hj' 19 (by decide)
        show Below B0 WW w ∧ WS ≤ w.heap.size ∧ Box w g7 46 (rvL rr hz) ∧ Box w g9 24 (asL x9) ∧ (D' 10 = true → RvOwn w WS AA c.k ∧ SgOwn w WS TT c.kt) ∧ (D' 16 = true → WS ≤ (c.b 16) ∧ Box w (c.b 16) 46 (rvL (if D' 18 = true then AA else rvZ) (if D' 18 = true then c.k else noH))) ∧ (D' 17 = true → WS ≤ (c.b 17) ∧ Box w (c.b 17) 28 (sgL (if D' 19 = true then TT else zeroS) (if D' 19 = true then c.kt else hsZ))) ∧ True
        rw [hd10, hd16, hd17, hd18, hd19]
        exact hSw))
    | 12, _, ho =>
      obtain rfl := Option.some.inj (ho.symm.trans (an12_12 ps))
      have s11 : a.eval (.tmp 71) = .tuple #[agv (rvL AA c.k), agv (sgL TT c.kt), .bool true, .int .i64 0] := hs 11 71 (by rfl) rfl
      exact op_valW (an12_12 ps) rfl (v := agv (rvL AA c.k)) (by unfold an12O12 execOp; simp only [s11]; first | (go_simp; done) | (go_simp; with_reducible rfl)) (hK c w (fun _ _ => rfl) (fun D' hi' hj' => by
        have hd10 : D' 10 = D 10 := hj' 10 (by decide)
        have hd16 : D' 16 = D 16 := hj' 16 (by decide)
        have hd17 : D' 17 = D 17 := hj' 17 (by decide)
        have hd18 : D' 18 = D 18 := hj' 18 (by decide)
        have hd19 : D' 19 = D 19 := hj' 19 (by decide)
        show Below B0 WW w ∧ WS ≤ w.heap.size ∧ Box w g7 46 (rvL rr hz) ∧ Box w g9 24 (asL x9) ∧ (D' 10 = true → RvOwn w WS AA c.k ∧ SgOwn w WS TT c.kt) ∧ (D' 16 = true → WS ≤ (c.b 16) ∧ Box w (c.b 16) 46 (rvL (if D' 18 = true then AA else rvZ) (if D' 18 = true then c.k else noH))) ∧ (D' 17 = true → WS ≤ (c.b 17) ∧ Box w (c.b 17) 28 (sgL (if D' 19 = true then TT else zeroS) (if D' 19 = true then c.kt else hsZ))) ∧ True
        rw [hd10, hd16, hd17, hd18, hd19]
        exact hSw))
    | 13, _, ho =>
      obtain rfl := Option.some.inj (ho.symm.trans (an12_13 ps))
      have s11 : a.eval (.tmp 71) = .tuple #[agv (rvL AA c.k), agv (sgL TT c.kt), .bool true, .int .i64 0] := hs 11 71 (by rfl) rfl
      exact op_valW (an12_13 ps) rfl (v := agv (sgL TT c.kt)) (by unfold an12O13 execOp; simp only [s11]; first | (go_simp; done) | (go_simp; with_reducible rfl)) (hK c w (fun _ _ => rfl) (fun D' hi' hj' => by
        have hd10 : D' 10 = D 10 := hj' 10 (by decide)
        have hd16 : D' 16 = D 16 := hj' 16 (by decide)
        have hd17 : D' 17 = D 17 := hj' 17 (by decide)
        have hd18 : D' 18 = D 18 := hj' 18 (by decide)
        have hd19 : D' 19 = D 19 := hj' 19 (by decide)
        show Below B0 WW w ∧ WS ≤ w.heap.size ∧ Box w g7 46 (rvL rr hz) ∧ Box w g9 24 (asL x9) ∧ (D' 10 = true → RvOwn w WS AA c.k ∧ SgOwn w WS TT c.kt) ∧ (D' 16 = true → WS ≤ (c.b 16) ∧ Box w (c.b 16) 46 (rvL (if D' 18 = true then AA else rvZ) (if D' 18 = true then c.k else noH))) ∧ (D' 17 = true → WS ≤ (c.b 17) ∧ Box w (c.b 17) 28 (sgL (if D' 19 = true then TT else zeroS) (if D' 19 = true then c.kt else hsZ))) ∧ True
        rw [hd10, hd16, hd17, hd18, hd19]
        exact hSw))
    | 14, _, ho =>
      obtain rfl := Option.some.inj (ho.symm.trans (an12_14 ps))
      have s11 : a.eval (.tmp 71) = .tuple #[agv (rvL AA c.k), agv (sgL TT c.kt), .bool true, .int .i64 0] := hs 11 71 (by rfl) rfl
      exact op_valW (an12_14 ps) rfl (v := .bool true) (by unfold an12O14 execOp; simp only [s11]; first | (go_simp; done) | (go_simp; with_reducible rfl)) (hK c w (fun _ _ => rfl) (fun D' hi' hj' => by
        have hd10 : D' 10 = D 10 := hj' 10 (by decide)
        have hd16 : D' 16 = D 16 := hj' 16 (by decide)
        have hd17 : D' 17 = D 17 := hj' 17 (by decide)
        have hd18 : D' 18 = D 18 := hj' 18 (by decide)
        have hd19 : D' 19 = D 19 := hj' 19 (by decide)
        show Below B0 WW w ∧ WS ≤ w.heap.size ∧ Box w g7 46 (rvL rr hz) ∧ Box w g9 24 (asL x9) ∧ (D' 10 = true → RvOwn w WS AA c.k ∧ SgOwn w WS TT c.kt) ∧ (D' 16 = true → WS ≤ (c.b 16) ∧ Box w (c.b 16) 46 (rvL (if D' 18 = true then AA else rvZ) (if D' 18 = true then c.k else noH))) ∧ (D' 17 = true → WS ≤ (c.b 17) ∧ Box w (c.b 17) 28 (sgL (if D' 19 = true then TT else zeroS) (if D' 19 = true then c.kt else hsZ))) ∧ True
        rw [hd10, hd16, hd17, hd18, hd19]
        exact hSw))
    | 15, _, ho =>
      obtain rfl := Option.some.inj (ho.symm.trans (an12_15 ps))
      have s11 : a.eval (.tmp 71) = .tuple #[agv (rvL AA c.k), agv (sgL TT c.kt), .bool true, .int .i64 0] := hs 11 71 (by rfl) rfl
      exact op_valW (an12_15 ps) rfl (v := .int .i64 0) (by unfold an12O15 execOp; simp only [s11]; first | (go_simp; done) | (go_simp; with_reducible rfl)) (hK c w (fun _ _ => rfl) (fun D' hi' hj' => by
        have hd10 : D' 10 = D 10 := hj' 10 (by decide)
        have hd16 : D' 16 = D 16 := hj' 16 (by decide)
        have hd17 : D' 17 = D 17 := hj' 17 (by decide)
        have hd18 : D' 18 = D 18 := hj' 18 (by decide)
        have hd19 : D' 19 = D 19 := hj' 19 (by decide)
        show Below B0 WW w ∧ WS ≤ w.heap.size ∧ Box w g7 46 (rvL rr hz) ∧ Box w g9 24 (asL x9) ∧ (D' 10 = true → RvOwn w WS AA c.k ∧ SgOwn w WS TT c.kt) ∧ (D' 16 = true → WS ≤ (c.b 16) ∧ Box w (c.b 16) 46 (rvL (if D' 18 = true then AA else rvZ) (if D' 18 = true then c.k else noH))) ∧ (D' 17 = true → WS ≤ (c.b 17) ∧ Box w (c.b 17) 28 (sgL (if D' 19 = true then TT else zeroS) (if D' 19 = true then c.kt else hsZ))) ∧ True
        rw [hd10, hd16, hd17, hd18, hd19]
        exact hSw))
    | 16, _, ho =>
      obtain rfl := Option.some.inj (ho.symm.trans (an12_16 ps))
      refine op_allocW (an12_16 ps) rfl rfl rfl zero46 (hK { c with b := fun z => if z = 16 then w.heap.size else c.b z } _ (fun j hj => ?_) (fun D' hi' hj' => ?_))
      · have hji : j ≠ 16 := by rintro rfl; rw [hDi] at hj; cases hj
        exact an12T_congr _ _ _ _ _ _ _ _ _ _ _ _ _ _ _ _ _ _ _ j (fun _ => if_neg hji) rfl rfl
      · have hd10 : D' 10 = D 10 := hj' 10 (by decide)
        have hd16 : D' 16 = true := hi'
        have hd17 : D' 17 = D 17 := hj' 17 (by decide)
        have hd18 : D' 18 = D 18 := hj' 18 (by decide)
        have hd19 : D' 19 = D 19 := hj' 19 (by decide)
        show Below B0 WW (w.alloc (.cells (rvL rvZ noH).toArray 46)) ∧ WS ≤ (w.alloc (.cells (rvL rvZ noH).toArray 46)).heap.size ∧ Box (w.alloc (.cells (rvL rvZ noH).toArray 46)) g7 46 (rvL rr hz) ∧ Box (w.alloc (.cells (rvL rvZ noH).toArray 46)) g9 24 (asL x9) ∧ (D' 10 = true → RvOwn (w.alloc (.cells (rvL rvZ noH).toArray 46)) WS AA c.k ∧ SgOwn (w.alloc (.cells (rvL rvZ noH).toArray 46)) WS TT c.kt) ∧ (D' 16 = true → WS ≤ w.heap.size ∧ Box (w.alloc (.cells (rvL rvZ noH).toArray 46)) w.heap.size 46 (rvL (if D' 18 = true then AA else rvZ) (if D' 18 = true then c.k else noH))) ∧ (D' 17 = true → WS ≤ (c.b 17) ∧ Box (w.alloc (.cells (rvL rvZ noH).toArray 46)) (c.b 17) 28 (sgL (if D' 19 = true then TT else zeroS) (if D' 19 = true then c.kt else hsZ))) ∧ True
        rw [hd10, hd16, hd17, hd18, hd19]
        exact ⟨hSw.1.alloc (Nat.le_trans l0 (hSw.2.1)) _, Nat.le_trans (hSw.2.1) (by simp), (hSw.2.2.1).alloc _, (hSw.2.2.2.1).alloc _, fun h => ⟨((hSw.2.2.2.2.1) h).1.below (below_more (Below.refl _ _) _) (Nat.le_refl _), ((hSw.2.2.2.2.1) h).2.below (below_more (Below.refl _ _) _) (Nat.le_refl _)⟩, fun _ => ⟨(hSw.2.1), by rw [(show D 18 = false from (by cases h : D 18 with | false => rfl | true => exact absurd (hcl 18 _ 16 (an12_18 ps) (by rfl) h) (by rw [hDi]; simp))), if_neg (by simp), if_neg (by simp)]; exact Box.new w 46 (rvL rvZ noH)⟩, fun h => ⟨((hSw.2.2.2.2.2.2.1) h).1, ((hSw.2.2.2.2.2.2.1) h).2.alloc _⟩, trivial⟩
    | 17, _, ho =>
      obtain rfl := Option.some.inj (ho.symm.trans (an12_17 ps))
      refine op_allocW (an12_17 ps) rfl rfl rfl zero28 (hK { c with b := fun z => if z = 17 then w.heap.size else c.b z } _ (fun j hj => ?_) (fun D' hi' hj' => ?_))
      · have hji : j ≠ 17 := by rintro rfl; rw [hDi] at hj; cases hj
        exact an12T_congr _ _ _ _ _ _ _ _ _ _ _ _ _ _ _ _ _ _ _ j (fun _ => if_neg hji) rfl rfl
      · have hd10 : D' 10 = D 10 := hj' 10 (by decide)
        have hd16 : D' 16 = D 16 := hj' 16 (by decide)
        have hd17 : D' 17 = true := hi'
        have hd18 : D' 18 = D 18 := hj' 18 (by decide)
        have hd19 : D' 19 = D 19 := hj' 19 (by decide)
        show Below B0 WW (w.alloc (.cells (sgZ).toArray 28)) ∧ WS ≤ (w.alloc (.cells (sgZ).toArray 28)).heap.size ∧ Box (w.alloc (.cells (sgZ).toArray 28)) g7 46 (rvL rr hz) ∧ Box (w.alloc (.cells (sgZ).toArray 28)) g9 24 (asL x9) ∧ (D' 10 = true → RvOwn (w.alloc (.cells (sgZ).toArray 28)) WS AA c.k ∧ SgOwn (w.alloc (.cells (sgZ).toArray 28)) WS TT c.kt) ∧ (D' 16 = true → WS ≤ (c.b 16) ∧ Box (w.alloc (.cells (sgZ).toArray 28)) (c.b 16) 46 (rvL (if D' 18 = true then AA else rvZ) (if D' 18 = true then c.k else noH))) ∧ (D' 17 = true → WS ≤ w.heap.size ∧ Box (w.alloc (.cells (sgZ).toArray 28)) w.heap.size 28 (sgL (if D' 19 = true then TT else zeroS) (if D' 19 = true then c.kt else hsZ))) ∧ True
        rw [hd10, hd16, hd17, hd18, hd19]
        exact ⟨hSw.1.alloc (Nat.le_trans l0 (hSw.2.1)) _, Nat.le_trans (hSw.2.1) (by simp), (hSw.2.2.1).alloc _, (hSw.2.2.2.1).alloc _, fun h => ⟨((hSw.2.2.2.2.1) h).1.below (below_more (Below.refl _ _) _) (Nat.le_refl _), ((hSw.2.2.2.2.1) h).2.below (below_more (Below.refl _ _) _) (Nat.le_refl _)⟩, fun h => ⟨((hSw.2.2.2.2.2.1) h).1, ((hSw.2.2.2.2.2.1) h).2.alloc _⟩, fun _ => ⟨(hSw.2.1), by rw [(show D 19 = false from (by cases h : D 19 with | false => rfl | true => exact absurd (hcl 19 _ 17 (an12_19 ps) (by rfl) h) (by rw [hDi]; simp))), if_neg (by simp), if_neg (by simp)]; exact Box.new w 28 sgZ⟩, trivial⟩
    | 18, _, ho =>
      obtain rfl := Option.some.inj (ho.symm.trans (an12_18 ps))
      have s16 : a.eval (.tmp 13) = .pointer (some ⟨c.b 16, 0, none⟩) := hs 16 13 (by rfl) rfl
      have s12 : a.eval (.tmp 83) = agv (rvL AA c.k) := hs 12 83 (by rfl) rfl
      have hda : D 16 = true := hrd 16 (by rfl)
      have hB := (hSw.2.2.2.2.2.1) hda
      have hst := (stoR (rvL AA c.k) hB.2)
      exact op_stoW (an12_18 ps) rfl rfl (w' := (w.setRow (c.b 16) (rvL AA c.k).toArray)) (run_storeS rfl s16 s12 hB.2 rfl isS46 (rvL_one _)) (hK c _ (fun _ _ => rfl) (fun D' hi' hj' => by
        have hd10 : D' 10 = D 10 := hj' 10 (by decide)
        have hd16 : D' 16 = D 16 := hj' 16 (by decide)
        have hd17 : D' 17 = D 17 := hj' 17 (by decide)
        have hd18 : D' 18 = true := hi'
        have hd19 : D' 19 = D 19 := hj' 19 (by decide)
        show Below B0 WW (w.setRow (c.b 16) (rvL AA c.k).toArray) ∧ WS ≤ (w.setRow (c.b 16) (rvL AA c.k).toArray).heap.size ∧ Box (w.setRow (c.b 16) (rvL AA c.k).toArray) g7 46 (rvL rr hz) ∧ Box (w.setRow (c.b 16) (rvL AA c.k).toArray) g9 24 (asL x9) ∧ (D' 10 = true → RvOwn (w.setRow (c.b 16) (rvL AA c.k).toArray) WS AA c.k ∧ SgOwn (w.setRow (c.b 16) (rvL AA c.k).toArray) WS TT c.kt) ∧ (D' 16 = true → WS ≤ (c.b 16) ∧ Box (w.setRow (c.b 16) (rvL AA c.k).toArray) (c.b 16) 46 (rvL (if D' 18 = true then AA else rvZ) (if D' 18 = true then c.k else noH))) ∧ (D' 17 = true → WS ≤ (c.b 17) ∧ Box (w.setRow (c.b 16) (rvL AA c.k).toArray) (c.b 17) 28 (sgL (if D' 19 = true then TT else zeroS) (if D' 19 = true then c.kt else hsZ))) ∧ True
        rw [hd10, hd16, hd17, hd18, hd19]
        exact ⟨hst.1.below _ _ (Nat.le_trans l0 hB.1) hSw.1, (by rw [hst.1.size]; exact (hSw.2.1)), (hSw.2.2.1).sto hst.1 (by have := hB.1; omega), (hSw.2.2.2.1).sto hst.1 (by have := hB.1; omega), fun h => ⟨((hSw.2.2.2.2.1) h).1.stoB hst.1 hB.2 (by decide), ((hSw.2.2.2.2.1) h).2.stoB hst.1 hB.2 (by decide)⟩, fun _ => ⟨hB.1, by rw [if_pos rfl, if_pos rfl]; exact hst.2⟩, fun h => ⟨((hSw.2.2.2.2.2.2.1) h).1, ((hSw.2.2.2.2.2.2.1) h).2.sto hst.1 (box_ne ((hSw.2.2.2.2.2.2.1) h).2 hB.2 (by decide))⟩, trivial⟩))
    | 19, _, ho =>
      obtain rfl := Option.some.inj (ho.symm.trans (an12_19 ps))
      have s17 : a.eval (.tmp 14) = .pointer (some ⟨c.b 17, 0, none⟩) := hs 17 14 (by rfl) rfl
      have s13 : a.eval (.tmp 84) = agv (sgL TT c.kt) := hs 13 84 (by rfl) rfl
      have hda : D 17 = true := hrd 17 (by rfl)
      have hB := (hSw.2.2.2.2.2.2.1) hda
      have hst := (stoR (sgL TT c.kt) hB.2)
      exact op_stoW (an12_19 ps) rfl rfl (w' := (w.setRow (c.b 17) (sgL TT c.kt).toArray)) (run_storeS rfl s17 s13 hB.2 rfl isS28 (sgL_one _)) (hK c _ (fun _ _ => rfl) (fun D' hi' hj' => by
        have hd10 : D' 10 = D 10 := hj' 10 (by decide)
        have hd16 : D' 16 = D 16 := hj' 16 (by decide)
        have hd17 : D' 17 = D 17 := hj' 17 (by decide)
        have hd18 : D' 18 = D 18 := hj' 18 (by decide)
        have hd19 : D' 19 = true := hi'
        show Below B0 WW (w.setRow (c.b 17) (sgL TT c.kt).toArray) ∧ WS ≤ (w.setRow (c.b 17) (sgL TT c.kt).toArray).heap.size ∧ Box (w.setRow (c.b 17) (sgL TT c.kt).toArray) g7 46 (rvL rr hz) ∧ Box (w.setRow (c.b 17) (sgL TT c.kt).toArray) g9 24 (asL x9) ∧ (D' 10 = true → RvOwn (w.setRow (c.b 17) (sgL TT c.kt).toArray) WS AA c.k ∧ SgOwn (w.setRow (c.b 17) (sgL TT c.kt).toArray) WS TT c.kt) ∧ (D' 16 = true → WS ≤ (c.b 16) ∧ Box (w.setRow (c.b 17) (sgL TT c.kt).toArray) (c.b 16) 46 (rvL (if D' 18 = true then AA else rvZ) (if D' 18 = true then c.k else noH))) ∧ (D' 17 = true → WS ≤ (c.b 17) ∧ Box (w.setRow (c.b 17) (sgL TT c.kt).toArray) (c.b 17) 28 (sgL (if D' 19 = true then TT else zeroS) (if D' 19 = true then c.kt else hsZ))) ∧ True
        rw [hd10, hd16, hd17, hd18, hd19]
        exact ⟨hst.1.below _ _ (Nat.le_trans l0 hB.1) hSw.1, (by rw [hst.1.size]; exact (hSw.2.1)), (hSw.2.2.1).sto hst.1 (by have := hB.1; omega), (hSw.2.2.2.1).sto hst.1 (by have := hB.1; omega), fun h => ⟨((hSw.2.2.2.2.1) h).1.stoB hst.1 hB.2 (by decide), ((hSw.2.2.2.2.1) h).2.stoB hst.1 hB.2 (by decide)⟩, fun h => ⟨((hSw.2.2.2.2.2.1) h).1, ((hSw.2.2.2.2.2.1) h).2.sto hst.1 (box_ne ((hSw.2.2.2.2.2.1) h).2 hB.2 (by decide))⟩, fun _ => ⟨hB.1, by rw [if_pos rfl, if_pos rfl]; exact hst.2⟩, trivial⟩))
    | 20, _, ho =>
      obtain rfl := Option.some.inj (ho.symm.trans (an12_20 ps))
      have s14 : a.eval (.tmp 85) = .bool true := hs 14 85 (by rfl) rfl
      exact op_valW (an12_20 ps) rfl (v := .bool true) (by unfold an12O20 execOp; simp only [s14]; first | (go_simp; done) | (go_simp; with_reducible rfl)) (hK c w (fun _ _ => rfl) (fun D' hi' hj' => by
        have hd10 : D' 10 = D 10 := hj' 10 (by decide)
        have hd16 : D' 16 = D 16 := hj' 16 (by decide)
        have hd17 : D' 17 = D 17 := hj' 17 (by decide)
        have hd18 : D' 18 = D 18 := hj' 18 (by decide)
        have hd19 : D' 19 = D 19 := hj' 19 (by decide)
        show Below B0 WW w ∧ WS ≤ w.heap.size ∧ Box w g7 46 (rvL rr hz) ∧ Box w g9 24 (asL x9) ∧ (D' 10 = true → RvOwn w WS AA c.k ∧ SgOwn w WS TT c.kt) ∧ (D' 16 = true → WS ≤ (c.b 16) ∧ Box w (c.b 16) 46 (rvL (if D' 18 = true then AA else rvZ) (if D' 18 = true then c.k else noH))) ∧ (D' 17 = true → WS ≤ (c.b 17) ∧ Box w (c.b 17) 28 (sgL (if D' 19 = true then TT else zeroS) (if D' 19 = true then c.kt else hsZ))) ∧ True
        rw [hd10, hd16, hd17, hd18, hd19]
        exact hSw))
    | 21, _, ho =>
      obtain rfl := Option.some.inj (ho.symm.trans (an12_21 ps))
      have s15 : a.eval (.tmp 86) = .int .i64 0 := hs 15 86 (by rfl) rfl
      exact op_valW (an12_21 ps) rfl (v := .int .i64 0) (by unfold an12O21 execOp; simp only [s15]; first | (go_simp; done) | (go_simp; with_reducible rfl)) (hK c w (fun _ _ => rfl) (fun D' hi' hj' => by
        have hd10 : D' 10 = D 10 := hj' 10 (by decide)
        have hd16 : D' 16 = D 16 := hj' 16 (by decide)
        have hd17 : D' 17 = D 17 := hj' 17 (by decide)
        have hd18 : D' 18 = D 18 := hj' 18 (by decide)
        have hd19 : D' 19 = D 19 := hj' 19 (by decide)
        show Below B0 WW w ∧ WS ≤ w.heap.size ∧ Box w g7 46 (rvL rr hz) ∧ Box w g9 24 (asL x9) ∧ (D' 10 = true → RvOwn w WS AA c.k ∧ SgOwn w WS TT c.kt) ∧ (D' 16 = true → WS ≤ (c.b 16) ∧ Box w (c.b 16) 46 (rvL (if D' 18 = true then AA else rvZ) (if D' 18 = true then c.k else noH))) ∧ (D' 17 = true → WS ≤ (c.b 17) ∧ Box w (c.b 17) 28 (sgL (if D' 19 = true then TT else zeroS) (if D' 19 = true then c.kt else hsZ))) ∧ True
        rw [hd10, hd16, hd17, hd18, hd19]
        exact hSw))
    | iq + 22, hin, _ => exact absurd hin (by omega)
end Go.Proofs.Ytdodagpkkjpdiaa
namespace Go.Proofs.Ytdodagpkkjpdiaa
open Go.ChangeShapes Go.WideShapes Go.ChangeAt Go.RowKit Go.Shelf
set_option linter.unusedVariables false
set_option linter.unusedSimpArgs false
theorem spot_none {w : World} {a : Addr} {v : Value} (h : w.cell? (a.add 0) = some v) : ∃ b o, a = ⟨b, o, none⟩ := by
  obtain ⟨b, o, spot⟩ := a
  have hs : spot = none := by simpa [Addr.add] using World.cell?_spot h
  subst hs
  exact ⟨b, o, rfl⟩
theorem bounds_u8 {a : Int} (h : (Lit.int .u8 a).wf = true) : 0 ≤ a ∧ a ≤ 255 := by
  simp [Lit.wf, IntKind.min, IntKind.max, IntKind.signed, IntKind.bits] at h; omega
theorem bounds_i64 {a : Int} (h : (Lit.int .i64 a).wf = true) : I64 a := by
  simp [Lit.wf, IntKind.min, IntKind.max, IntKind.signed, IntKind.bits] at h; unfold I64; omega
theorem bytes5 : Try.prog.bytesOf 5 = 1 := by kernel_rfl
theorem open_byts {H : Type} {enc : TypeId × Value → H} {w : World} {fuel : Nat} {v : Value} {d : DataW H} {p : List MemPlace} (h : DataW.trod enc Try.prog w 0 (fun _ => true) true fuel 26 [v] = some (d, p)) (hw : ∀ n ∈ d.weights Try.prog 26, n ≤ reachBytes) :
    ∃ a bs c, v = .slice a bs.length c ∧ SlAt w a c bs := by
  rcases open_ints Try.underlying26 Try.underlying5 (by kernel_rfl) h with ⟨hcs, _⟩ | ⟨x, l, c, zs, hcs, _, hl, hm, hz, hxe, hcell, hwz⟩
  · simp at hcs
    subst hcs
    exact ⟨none, [], 0, rfl, SlAt.nil _⟩
  · simp at hcs hz
    subst hcs
    simp only [Prod.mk.injEq] at hxe
    obtain ⟨rfl, _⟩ := hxe
    have hs := hw ((l + (zs.length - l)) * 1) (by
      simp only [DataW.weights, Try.underlying26, bytes5, lits, List.length_map, List.length_take, List.length_drop]
      rw [Nat.min_eq_left (by omega)]
      exact List.mem_cons_self ..)
    simp only [reachBytes] at hs
    have hlen : (zs.take l).length = l := by simp; omega
    refine ⟨some x, zs.take l, c, by rw [hlen], ⟨by omega, fun y hy => bounds_u8 (hwz y (List.mem_of_mem_take hy)), fun j hj => ?_⟩, fun h => (by cases h), by omega⟩
    rw [hlen] at hj
    obtain ⟨b, o, rfl⟩ := spot_none (by have := hcell 0 (by omega); exact this)
    refine ⟨b, o, rfl, ?_⟩
    have := hcell j (by omega)
    rw [add_plain] at this
    rw [this, List.getElem?_take_of_lt hj]
    rfl
theorem bounds_u32 {a : Int} (h : (Lit.int .u32 a).wf = true) : U32 a := by
  simp [Lit.wf, IntKind.min, IntKind.max, IntKind.signed, IntKind.bits] at h; unfold U32; omega
theorem sized_arg {H : Type} {P : Program} {ts : List TypeId} {ds : List (DataW H)} (h : (DataW.weightsEach P ts ds).all (· ≤ reachBytes) = true) {j : Nat} {t : TypeId} {d : DataW H} (ht : ts[j]? = some t) (hd : ds[j]? = some d) : ∀ n ∈ d.weights P t, n ≤ reachBytes := fun n hn => by
  have := List.all_eq_true.1 h _ (DataW.weights_mem_each ht hd n hn)
  simpa using this
/-- The slice at A holds these numbers. -/
def IntsAt (w : World) (A : Option Addr) (xs : List Int) : Prop := ∀ j, j < xs.length → ∃ b o, A = some ⟨b, o, none⟩ ∧ w.cell? ⟨b, o + j, none⟩ = some (.int .i64 (xs[j]?.getD 0)) ∧ I64 (xs[j]?.getD 0)
theorem IntsAt.later {w w' : World} {A : Option Addr} {xs : List Int} (h : IntsAt w A xs) (hb : Below w.heap.size w w') : IntsAt w' A xs := fun j hj => by
  obtain ⟨b, o, e, hc, hi⟩ := h j hj
  exact ⟨b, o, e, (hb.cell (p := ⟨b, o + j, none⟩) (lt_of_cell hc)).trans hc, hi⟩
theorem open_nums {H : Type} {enc : TypeId × Value → H} {w : World} {fuel : Nat} {v : Value} {d : DataW H} {p : List MemPlace} (h : DataW.trod enc Try.prog w 0 (fun _ => true) true fuel 43 [v] = some (d, p)) :
    ∃ A xs c, v = .slice A xs.length c ∧ IntsAt w A xs ∧ xs.length ≤ 9223372036854775807 := by
  rcases open_ints Try.underlying43 Try.underlying3 (by kernel_rfl) h with ⟨hcs, _⟩ | ⟨x, l, c, zs, hcs, _, hl, hm, hz, hxe, hcell, hwz⟩
  · simp at hcs
    subst hcs
    exact ⟨none, [], 0, rfl, fun j hj => (by simp at hj), by simp⟩
  · simp at hcs hz
    subst hcs
    have hlen : (zs.take l).length = l := by simp; omega
    simp only [maxLen] at hm
    refine ⟨some x, zs.take l, c, by rw [hlen], fun j hj => ?_, by omega⟩
    rw [hlen] at hj
    obtain ⟨b, o, rfl⟩ := spot_none (by have := hcell 0 (by omega); exact this)
    have := hcell j (by omega)
    rw [add_plain] at this
    refine ⟨b, o, rfl, ?_, ?_⟩
    · rw [this, List.getElem?_take_of_lt hj]; rfl
    · rw [List.getElem?_take_of_lt hj]
      have hj2 : j < zs.length := by omega
      rw [List.getElem?_eq_getElem hj2]
      exact bounds_i64 (hwz _ (List.getElem_mem hj2))
end Go.Proofs.Ytdodagpkkjpdiaa
