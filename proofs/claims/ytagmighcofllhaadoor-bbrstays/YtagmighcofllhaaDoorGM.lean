/- Texts: KLev, KCyc, KPrb -/
import Derived.Test.YtagmighcofllhaaDoorGD
namespace Go.Proofs.YtagmighcofllhaaDoor
open Go.ChangeShapes Go.WideShapes Go.ChangeAt Go.RowKit
set_option linter.unusedVariables false
set_option linter.unusedSimpArgs false

open Fil

set_option maxRecDepth 100000 in
set_option maxHeartbeats 4000000 in
theorem cru_is (c : Cc) (g : Nat) (w : World) (now : Int) (hb : Box w g 48 (ccL c)) : Calls Tryd.prog 60 #[.pointer (some ⟨g, 0, none⟩), .int .i64 now] w fun e w' => e = .returned (.tuple #[]) ∧ Chg w g w' ∧ Box w' g 48 (ccL (cruE c now)) := by
  have HF : Hid (Chg w g w ∧ Box w g 48 (ccL c)) := ⟨Chg.refl w g, hb⟩
  clear hb
  go_enter Tryd.func60, Tryd.ntmps60
  have k10 := Box.cell HF.out.2 10 rfl
  have k18 := Box.cell HF.out.2 18 rfl
  have k19 := Box.cell HF.out.2 19 rfl
  have fz := fun i => Box.frozen HF.out.2 i
  have hlt := HF.out.2.lt
  go_wp2_with fail
  go_end0
  refine ⟨rfl, ?hs, ?hx⟩
  case hs => repeat (first | with_reducible exact HF.out.1 | with_reducible refine Chg.set ?_ _ _ | with_reducible refine Chg.drewN ?_ _ | with_reducible refine Chg.drew ?_)
  case hx =>
    apply box_to
    · repeat (first | with_reducible exact HF.out.2 | with_reducible apply Box.set | with_reducible apply Box.drewN | with_reducible apply Box.drew)
    · rfl
def lv0O0 (ps : String) : Oper := { dst := some 4, op := .move (.tmp 0), type := 70, pos := ps, after := #[], guard := none }
def lv0O1 (ps : String) : Oper := { dst := some 5, op := .move (.tmp 0), type := 70, pos := ps, after := #[{ on := 18, ground := .gcOnly .lateStores }], guard := none }
def lv0O2 (ps : String) : Oper := { dst := some 6, op := .move (.tmp 0), type := 70, pos := ps, after := #[{ on := 22, ground := .gcOnly .lateStores }], guard := none }
def lv0O3 (ps : String) : Oper := { dst := some 7, op := .move (.tmp 1), type := 3, pos := ps, after := #[], guard := none }
def lv0O4 (ps : String) : Oper := { dst := some 8, op := .move (.tmp 0), type := 70, pos := ps, after := #[], guard := none }
def lv0O5 (ps : String) : Oper := { dst := some 9, op := .nilCheck (.tmp 8), type := 0, pos := ps, after := #[{ on := 4, ground := .data }], guard := none }
def lv0O6 (ps : String) : Oper := { dst := some 10, op := .fieldAddr 48 (.tmp 9) 0, type := 0, pos := ps, after := #[{ on := 5, ground := .data }], guard := none }
def lv0O7 (ps : String) : Oper := { dst := some 11, op := .fieldAddr 26 (.tmp 10) 2, type := 0, pos := ps, after := #[{ on := 6, ground := .data }], guard := none }
def lv0O8 (ps : String) : Oper := { dst := some 12, op := .load 3 (.tmp 11), type := 3, pos := ps, after := #[{ on := 7, ground := .data }], guard := none }
def lv0O9 (ps : String) : Oper := { dst := some 13, op := .move (.tmp 0), type := 70, pos := ps, after := #[], guard := none }
def lv0O10 (ps : String) : Oper := { dst := some 14, op := .nilCheck (.tmp 13), type := 0, pos := ps, after := #[{ on := 9, ground := .data }], guard := none }
def lv0O11 (ps : String) : Oper := { dst := some 15, op := .fieldAddr 48 (.tmp 14) 0, type := 0, pos := ps, after := #[{ on := 10, ground := .data }], guard := none }
def lv0O12 (ps : String) : Oper := { dst := some 16, op := .fieldAddr 26 (.tmp 15) 21, type := 0, pos := ps, after := #[{ on := 11, ground := .data }], guard := none }
def lv0O13 (ps : String) : Oper := { dst := some 17, op := .load 3 (.tmp 16), type := 3, pos := ps, after := #[{ on := 12, ground := .data }], guard := none }
def lv0O14 (ps : String) : Oper := { dst := some 18, op := .call { callee := .builtin .max, args := #[.tmp 12, .tmp 17], argTypes := #[3, 3] }, type := 3, pos := ps, after := #[{ on := 8, ground := .data }, { on := 13, ground := .data }], guard := none }
def lv0O15 (ps : String) : Oper := { dst := some 19, op := .nilCheck (.tmp 4), type := 0, pos := ps, after := #[{ on := 0, ground := .data }, { on := 0, ground := .phase }, { on := 1, ground := .textOnly .lateStores }, { on := 2, ground := .textOnly .lateStores }, { on := 3, ground := .phase }, { on := 4, ground := .textOnly .lateStores }, { on := 5, ground := .textOnly .lateStoresUnsure }, { on := 6, ground := .textOnly .lateStoresUnsure }, { on := 7, ground := .textOnly .lateStoresUnsure }, { on := 8, ground := .phase }, { on := 9, ground := .textOnly .lateStores }, { on := 10, ground := .textOnly .lateStoresUnsure }, { on := 11, ground := .textOnly .lateStoresUnsure }, { on := 12, ground := .textOnly .lateStoresUnsure }, { on := 13, ground := .phase }, { on := 14, ground := .textOnly .lateStoresUnsure }], guard := none }
def lv0O16 (ps : String) : Oper := { dst := some 20, op := .fieldAddr 48 (.tmp 19) 0, type := 0, pos := ps, after := #[{ on := 15, ground := .data }, { on := 0, ground := .phase }, { on := 1, ground := .textOnly .lateStores }, { on := 2, ground := .textOnly .lateStores }, { on := 3, ground := .phase }, { on := 4, ground := .textOnly .lateStores }, { on := 5, ground := .textOnly .lateStoresUnsure }, { on := 6, ground := .textOnly .lateStoresUnsure }, { on := 7, ground := .textOnly .lateStoresUnsure }, { on := 8, ground := .phase }, { on := 9, ground := .textOnly .lateStores }, { on := 10, ground := .textOnly .lateStoresUnsure }, { on := 11, ground := .textOnly .lateStoresUnsure }, { on := 12, ground := .textOnly .lateStoresUnsure }, { on := 13, ground := .phase }, { on := 14, ground := .textOnly .lateStoresUnsure }], guard := none }
def lv0O17 (ps : String) : Oper := { dst := some 21, op := .fieldAddr 26 (.tmp 20) 13, type := 0, pos := ps, after := #[{ on := 16, ground := .data }, { on := 0, ground := .phase }, { on := 1, ground := .textOnly .lateStores }, { on := 2, ground := .textOnly .lateStores }, { on := 3, ground := .phase }, { on := 4, ground := .textOnly .lateStores }, { on := 5, ground := .textOnly .lateStoresUnsure }, { on := 6, ground := .textOnly .lateStoresUnsure }, { on := 7, ground := .textOnly .lateStoresUnsure }, { on := 8, ground := .phase }, { on := 9, ground := .textOnly .lateStores }, { on := 10, ground := .textOnly .lateStoresUnsure }, { on := 11, ground := .textOnly .lateStoresUnsure }, { on := 12, ground := .textOnly .lateStoresUnsure }, { on := 13, ground := .phase }, { on := 14, ground := .textOnly .lateStoresUnsure }], guard := none }
def lv0O18 (ps : String) : Oper := { dst := none, op := .store 3 (.tmp 21) (.tmp 7), type := 0, pos := ps, after := #[{ on := 17, ground := .data }, { on := 3, ground := .data }, { on := 0, ground := .phase }, { on := 1, ground := .textOnly .lateStores }, { on := 2, ground := .textOnly .lateStores }, { on := 3, ground := .phase }, { on := 4, ground := .textOnly .lateStores }, { on := 5, ground := .textOnly .lateStoresUnsure }, { on := 6, ground := .textOnly .lateStoresUnsure }, { on := 7, ground := .textOnly .lateStoresUnsure }, { on := 8, ground := .phase }, { on := 9, ground := .textOnly .lateStores }, { on := 10, ground := .textOnly .lateStoresUnsure }, { on := 11, ground := .textOnly .lateStoresUnsure }, { on := 12, ground := .textOnly .lateStoresUnsure }, { on := 13, ground := .phase }, { on := 14, ground := .textOnly .lateStoresUnsure }], guard := none }
def lv0O19 (ps : String) : Oper := { dst := some 22, op := .nilCheck (.tmp 5), type := 0, pos := ps, after := #[{ on := 1, ground := .data }, { on := 0, ground := .phase }, { on := 1, ground := .phase }, { on := 2, ground := .textOnly .lateStores }, { on := 3, ground := .phase }, { on := 4, ground := .phase }, { on := 5, ground := .phase }, { on := 6, ground := .phase }, { on := 7, ground := .phase }, { on := 8, ground := .phase }, { on := 9, ground := .phase }, { on := 10, ground := .phase }, { on := 11, ground := .phase }, { on := 12, ground := .phase }, { on := 13, ground := .phase }, { on := 14, ground := .phase }, { on := 15, ground := .phase }, { on := 16, ground := .phase }, { on := 17, ground := .phase }, { on := 18, ground := .phase }], guard := none }
def lv0O20 (ps : String) : Oper := { dst := some 23, op := .fieldAddr 48 (.tmp 22) 0, type := 0, pos := ps, after := #[{ on := 19, ground := .data }, { on := 0, ground := .phase }, { on := 1, ground := .phase }, { on := 2, ground := .textOnly .lateStores }, { on := 3, ground := .phase }, { on := 4, ground := .phase }, { on := 5, ground := .phase }, { on := 6, ground := .phase }, { on := 7, ground := .phase }, { on := 8, ground := .phase }, { on := 9, ground := .phase }, { on := 10, ground := .phase }, { on := 11, ground := .phase }, { on := 12, ground := .phase }, { on := 13, ground := .phase }, { on := 14, ground := .phase }, { on := 15, ground := .phase }, { on := 16, ground := .phase }, { on := 17, ground := .phase }, { on := 18, ground := .phase }], guard := none }
def lv0O21 (ps : String) : Oper := { dst := some 24, op := .fieldAddr 26 (.tmp 23) 2, type := 0, pos := ps, after := #[{ on := 20, ground := .data }, { on := 0, ground := .phase }, { on := 1, ground := .phase }, { on := 2, ground := .textOnly .lateStores }, { on := 3, ground := .phase }, { on := 4, ground := .phase }, { on := 5, ground := .phase }, { on := 6, ground := .phase }, { on := 7, ground := .phase }, { on := 8, ground := .phase }, { on := 9, ground := .phase }, { on := 10, ground := .phase }, { on := 11, ground := .phase }, { on := 12, ground := .phase }, { on := 13, ground := .phase }, { on := 14, ground := .phase }, { on := 15, ground := .phase }, { on := 16, ground := .phase }, { on := 17, ground := .phase }, { on := 18, ground := .phase }], guard := none }
def lv0O22 (ps : String) : Oper := { dst := none, op := .store 3 (.tmp 24) (.tmp 18), type := 0, pos := ps, after := #[{ on := 21, ground := .data }, { on := 14, ground := .data }, { on := 18, ground := .chain }, { on := 0, ground := .phase }, { on := 1, ground := .phase }, { on := 2, ground := .textOnly .lateStores }, { on := 3, ground := .phase }, { on := 4, ground := .phase }, { on := 5, ground := .phase }, { on := 6, ground := .phase }, { on := 7, ground := .phase }, { on := 8, ground := .phase }, { on := 9, ground := .phase }, { on := 10, ground := .phase }, { on := 11, ground := .phase }, { on := 12, ground := .phase }, { on := 13, ground := .phase }, { on := 14, ground := .phase }, { on := 15, ground := .phase }, { on := 16, ground := .phase }, { on := 17, ground := .phase }, { on := 18, ground := .phase }], guard := none }
def lv0O23 (ps : String) : Oper := { dst := some 25, op := .nilCheck (.tmp 6), type := 0, pos := ps, after := #[{ on := 2, ground := .data }, { on := 0, ground := .phase }, { on := 1, ground := .phase }, { on := 2, ground := .phase }, { on := 3, ground := .phase }, { on := 4, ground := .phase }, { on := 5, ground := .phase }, { on := 6, ground := .phase }, { on := 7, ground := .phase }, { on := 8, ground := .phase }, { on := 9, ground := .phase }, { on := 10, ground := .phase }, { on := 11, ground := .phase }, { on := 12, ground := .phase }, { on := 13, ground := .phase }, { on := 14, ground := .phase }, { on := 15, ground := .phase }, { on := 16, ground := .phase }, { on := 17, ground := .phase }, { on := 18, ground := .phase }, { on := 19, ground := .phase }, { on := 20, ground := .phase }, { on := 21, ground := .phase }, { on := 22, ground := .phase }], guard := none }
def lv0O24 (ps : String) : Oper := { dst := some 26, op := .fieldAddr 48 (.tmp 25) 0, type := 0, pos := ps, after := #[{ on := 23, ground := .data }, { on := 0, ground := .phase }, { on := 1, ground := .phase }, { on := 2, ground := .phase }, { on := 3, ground := .phase }, { on := 4, ground := .phase }, { on := 5, ground := .phase }, { on := 6, ground := .phase }, { on := 7, ground := .phase }, { on := 8, ground := .phase }, { on := 9, ground := .phase }, { on := 10, ground := .phase }, { on := 11, ground := .phase }, { on := 12, ground := .phase }, { on := 13, ground := .phase }, { on := 14, ground := .phase }, { on := 15, ground := .phase }, { on := 16, ground := .phase }, { on := 17, ground := .phase }, { on := 18, ground := .phase }, { on := 19, ground := .phase }, { on := 20, ground := .phase }, { on := 21, ground := .phase }, { on := 22, ground := .phase }], guard := none }
def lv0O25 (ps : String) : Oper := { dst := some 27, op := .fieldAddr 26 (.tmp 26) 20, type := 0, pos := ps, after := #[{ on := 24, ground := .data }, { on := 0, ground := .phase }, { on := 1, ground := .phase }, { on := 2, ground := .phase }, { on := 3, ground := .phase }, { on := 4, ground := .phase }, { on := 5, ground := .phase }, { on := 6, ground := .phase }, { on := 7, ground := .phase }, { on := 8, ground := .phase }, { on := 9, ground := .phase }, { on := 10, ground := .phase }, { on := 11, ground := .phase }, { on := 12, ground := .phase }, { on := 13, ground := .phase }, { on := 14, ground := .phase }, { on := 15, ground := .phase }, { on := 16, ground := .phase }, { on := 17, ground := .phase }, { on := 18, ground := .phase }, { on := 19, ground := .phase }, { on := 20, ground := .phase }, { on := 21, ground := .phase }, { on := 22, ground := .phase }], guard := none }
def lv0O26 (ps : String) : Oper := { dst := none, op := .store 3 (.tmp 27) (.const (.int .i64 0)), type := 0, pos := ps, after := #[{ on := 25, ground := .data }, { on := 22, ground := .chain }, { on := 0, ground := .phase }, { on := 1, ground := .phase }, { on := 2, ground := .phase }, { on := 3, ground := .phase }, { on := 4, ground := .phase }, { on := 5, ground := .phase }, { on := 6, ground := .phase }, { on := 7, ground := .phase }, { on := 8, ground := .phase }, { on := 9, ground := .phase }, { on := 10, ground := .phase }, { on := 11, ground := .phase }, { on := 12, ground := .phase }, { on := 13, ground := .phase }, { on := 14, ground := .phase }, { on := 15, ground := .phase }, { on := 16, ground := .phase }, { on := 17, ground := .phase }, { on := 18, ground := .phase }, { on := 19, ground := .phase }, { on := 20, ground := .phase }, { on := 21, ground := .phase }, { on := 22, ground := .phase }], guard := none }
def lv0 (ps : String) : Array Oper := #[lv0O0 ps, lv0O1 ps, lv0O2 ps, lv0O3 ps, lv0O4 ps, lv0O5 ps, lv0O6 ps, lv0O7 ps, lv0O8 ps, lv0O9 ps, lv0O10 ps, lv0O11 ps, lv0O12 ps, lv0O13 ps, lv0O14 ps, lv0O15 ps, lv0O16 ps, lv0O17 ps, lv0O18 ps, lv0O19 ps, lv0O20 ps, lv0O21 ps, lv0O22 ps, lv0O23 ps, lv0O24 ps, lv0O25 ps, lv0O26 ps]
theorem lv0_0 (ps : String) : (lv0 ps)[0]? = some (lv0O0 ps) := rfl
theorem lv0_1 (ps : String) : (lv0 ps)[1]? = some (lv0O1 ps) := rfl
theorem lv0_2 (ps : String) : (lv0 ps)[2]? = some (lv0O2 ps) := rfl
theorem lv0_3 (ps : String) : (lv0 ps)[3]? = some (lv0O3 ps) := rfl
theorem lv0_4 (ps : String) : (lv0 ps)[4]? = some (lv0O4 ps) := rfl
theorem lv0_5 (ps : String) : (lv0 ps)[5]? = some (lv0O5 ps) := rfl
theorem lv0_6 (ps : String) : (lv0 ps)[6]? = some (lv0O6 ps) := rfl
theorem lv0_7 (ps : String) : (lv0 ps)[7]? = some (lv0O7 ps) := rfl
theorem lv0_8 (ps : String) : (lv0 ps)[8]? = some (lv0O8 ps) := rfl
theorem lv0_9 (ps : String) : (lv0 ps)[9]? = some (lv0O9 ps) := rfl
theorem lv0_10 (ps : String) : (lv0 ps)[10]? = some (lv0O10 ps) := rfl
theorem lv0_11 (ps : String) : (lv0 ps)[11]? = some (lv0O11 ps) := rfl
theorem lv0_12 (ps : String) : (lv0 ps)[12]? = some (lv0O12 ps) := rfl
theorem lv0_13 (ps : String) : (lv0 ps)[13]? = some (lv0O13 ps) := rfl
theorem lv0_14 (ps : String) : (lv0 ps)[14]? = some (lv0O14 ps) := rfl
theorem lv0_15 (ps : String) : (lv0 ps)[15]? = some (lv0O15 ps) := rfl
theorem lv0_16 (ps : String) : (lv0 ps)[16]? = some (lv0O16 ps) := rfl
theorem lv0_17 (ps : String) : (lv0 ps)[17]? = some (lv0O17 ps) := rfl
theorem lv0_18 (ps : String) : (lv0 ps)[18]? = some (lv0O18 ps) := rfl
theorem lv0_19 (ps : String) : (lv0 ps)[19]? = some (lv0O19 ps) := rfl
theorem lv0_20 (ps : String) : (lv0 ps)[20]? = some (lv0O20 ps) := rfl
theorem lv0_21 (ps : String) : (lv0 ps)[21]? = some (lv0O21 ps) := rfl
theorem lv0_22 (ps : String) : (lv0 ps)[22]? = some (lv0O22 ps) := rfl
theorem lv0_23 (ps : String) : (lv0 ps)[23]? = some (lv0O23 ps) := rfl
theorem lv0_24 (ps : String) : (lv0 ps)[24]? = some (lv0O24 ps) := rfl
theorem lv0_25 (ps : String) : (lv0 ps)[25]? = some (lv0O25 ps) := rfl
theorem lv0_26 (ps : String) : (lv0 ps)[26]? = some (lv0O26 ps) := rfl
def lv0D : Nat → Option Tmp
  | 0 => some 4
  | 1 => some 5
  | 2 => some 6
  | 3 => some 7
  | 4 => some 8
  | 5 => some 9
  | 6 => some 10
  | 7 => some 11
  | 8 => some 12
  | 9 => some 13
  | 10 => some 14
  | 11 => some 15
  | 12 => some 16
  | 13 => some 17
  | 14 => some 18
  | 15 => some 19
  | 16 => some 20
  | 17 => some 21
  | 18 => none
  | 19 => some 22
  | 20 => some 23
  | 21 => some 24
  | 22 => none
  | 23 => some 25
  | 24 => some 26
  | 25 => some 27
  | 26 => none
  | _ => none
def lv0T (c : Cc) (g : Nat) (now m : Int) : Nat → Value
  | 0 => .pointer (some ⟨g, 0, none⟩)
  | 1 => .pointer (some ⟨g, 0, none⟩)
  | 2 => .pointer (some ⟨g, 0, none⟩)
  | 3 => .int .i64 now
  | 4 => .pointer (some ⟨g, 0, none⟩)
  | 5 => .pointer (some ⟨g, 0, none⟩)
  | 6 => .pointer (some ⟨g, 0, none⟩)
  | 7 => .pointer (some ⟨g, 2, none⟩)
  | 8 => .int .i64 c.cw
  | 9 => .pointer (some ⟨g, 0, none⟩)
  | 10 => .pointer (some ⟨g, 0, none⟩)
  | 11 => .pointer (some ⟨g, 0, none⟩)
  | 12 => .pointer (some ⟨g, 21, none⟩)
  | 13 => .int .i64 c.pr
  | 14 => .int .i64 m
  | 15 => .pointer (some ⟨g, 0, none⟩)
  | 16 => .pointer (some ⟨g, 0, none⟩)
  | 17 => .pointer (some ⟨g, 13, none⟩)
  | 18 => undef
  | 19 => .pointer (some ⟨g, 0, none⟩)
  | 20 => .pointer (some ⟨g, 0, none⟩)
  | 21 => .pointer (some ⟨g, 2, none⟩)
  | 22 => undef
  | 23 => .pointer (some ⟨g, 0, none⟩)
  | 24 => .pointer (some ⟨g, 0, none⟩)
  | 25 => .pointer (some ⟨g, 20, none⟩)
  | 26 => undef
  | _ => undef
set_option maxRecDepth 100000 in
set_option maxHeartbeats 4000000 in
theorem lv0_reg {ps : String} {Q : Exit → Act → World → Prop} {a0 : Act} {W0 : World} (sz : a0.tmps.size = 41) (c : Cc) (g : Nat) (now m : Int)
    (e0 : a0.eval (.tmp 0) = .pointer (some ⟨g, 0, none⟩)) (e1 : a0.eval (.tmp 1) = .int .i64 now)
    (hb : Box W0 g 48 (ccL c)) (hm : (if c.cw < c.pr then c.pr else c.cw) = m)
    (hfin : ∀ (T : Nat → Value) w, Chg W0 g w ∧ Box w g 48 (ccL { c with ma := now, cw := m, da := 0 }) → Q .normal ((((((((((((((((((((((((a0.put (some 4) (T 0)).put (some 5) (T 1)).put (some 6) (T 2)).put (some 7) (T 3)).put (some 8) (T 4)).put (some 9) (T 5)).put (some 10) (T 6)).put (some 11) (T 7)).put (some 12) (T 8)).put (some 13) (T 9)).put (some 14) (T 10)).put (some 15) (T 11)).put (some 16) (T 12)).put (some 17) (T 13)).put (some 18) (T 14)).put (some 19) (T 15)).put (some 20) (T 16)).put (some 21) (T 17)).put (some 22) (T 19)).put (some 23) (T 20)).put (some 24) (T 21)).put (some 25) (T 23)).put (some 26) (T 24)).put (some 27) (T 25)) w) :
    (Code.region 0 (lv0 ps) true).wp Tryd.prog Q a0 W0 := by
  refine wp_region_dets (by kernel_rfl) 27 rfl lv0D ?_ (by decide) (lv0T c g now m) (fun D w => Chg W0 g w ∧ Box w g 48 (ccL { c with ma := (if D 18 = true then now else c.ma), cw := (if D 22 = true then m else c.cw), da := (if D 26 = true then 0 else c.da) })) (fun D hD => by
    show Chg W0 g W0.drew ∧ Box W0.drew g 48 (ccL { c with ma := (if D 18 = true then now else c.ma), cw := (if D 22 = true then m else c.cw), da := (if D 26 = true then 0 else c.da) })
    rw [hD 18, hD 22, hD 26]
    exact ⟨(Chg.refl W0 g).drew, hb.drew⟩) ?_ (by rfl) (fun w D hD hSw => by
    have hSw' : Chg W0 g w ∧ Box w g 48 (ccL { c with ma := (if D 18 = true then now else c.ma), cw := (if D 22 = true then m else c.cw), da := (if D 26 = true then 0 else c.da) }) := hSw
    rw [hD 18 (by decide), hD 22 (by decide), hD 26 (by decide)] at hSw'
    exact hfin (lv0T c g now m) w  hSw')
  · intro jq t hj ht
    have : ∀ j, j < 27 → (lv0D j).all (· < 41) = true := by decide
    have := this jq hj
    rw [ht] at this
    rw [sz]
    simpa using this
  · intro iq o ho D a w hSw hDi hcl hs hel K hK
    have hin : iq < 27 := (Array.getElem?_eq_some_iff.1 ho).1
    match iq, hin, ho with
    | 0, _, ho =>
      obtain rfl := Option.some.inj (ho.symm.trans (lv0_0 ps))
      have u0 : a.eval (.tmp 0) = .pointer (some ⟨g, 0, none⟩) := (hel 0 (by decide)).trans e0
      exact op_valW (lv0_0 ps) rfl (v := .pointer (some ⟨g, 0, none⟩)) (by unfold lv0O0 execOp; simp only [u0]; first | (go_simp; done) | (go_simp; with_reducible rfl)) (hK w (fun D' hi' hj' => by
        have hd18 : D' 18 = D 18 := hj' 18 (by decide)
        have hd22 : D' 22 = D 22 := hj' 22 (by decide)
        have hd26 : D' 26 = D 26 := hj' 26 (by decide)
        show Chg W0 g w ∧ Box w g 48 (ccL { c with ma := (if D' 18 = true then now else c.ma), cw := (if D' 22 = true then m else c.cw), da := (if D' 26 = true then 0 else c.da) })
        rw [hd18, hd22, hd26]
        exact hSw))
    | 1, _, ho =>
      obtain rfl := Option.some.inj (ho.symm.trans (lv0_1 ps))
      have u0 : a.eval (.tmp 0) = .pointer (some ⟨g, 0, none⟩) := (hel 0 (by decide)).trans e0
      exact op_valW (lv0_1 ps) rfl (v := .pointer (some ⟨g, 0, none⟩)) (by unfold lv0O1 execOp; simp only [u0]; first | (go_simp; done) | (go_simp; with_reducible rfl)) (hK w (fun D' hi' hj' => by
        have hd18 : D' 18 = D 18 := hj' 18 (by decide)
        have hd22 : D' 22 = D 22 := hj' 22 (by decide)
        have hd26 : D' 26 = D 26 := hj' 26 (by decide)
        show Chg W0 g w ∧ Box w g 48 (ccL { c with ma := (if D' 18 = true then now else c.ma), cw := (if D' 22 = true then m else c.cw), da := (if D' 26 = true then 0 else c.da) })
        rw [hd18, hd22, hd26]
        exact hSw))
    | 2, _, ho =>
      obtain rfl := Option.some.inj (ho.symm.trans (lv0_2 ps))
      have u0 : a.eval (.tmp 0) = .pointer (some ⟨g, 0, none⟩) := (hel 0 (by decide)).trans e0
      exact op_valW (lv0_2 ps) rfl (v := .pointer (some ⟨g, 0, none⟩)) (by unfold lv0O2 execOp; simp only [u0]; first | (go_simp; done) | (go_simp; with_reducible rfl)) (hK w (fun D' hi' hj' => by
        have hd18 : D' 18 = D 18 := hj' 18 (by decide)
        have hd22 : D' 22 = D 22 := hj' 22 (by decide)
        have hd26 : D' 26 = D 26 := hj' 26 (by decide)
        show Chg W0 g w ∧ Box w g 48 (ccL { c with ma := (if D' 18 = true then now else c.ma), cw := (if D' 22 = true then m else c.cw), da := (if D' 26 = true then 0 else c.da) })
        rw [hd18, hd22, hd26]
        exact hSw))
    | 3, _, ho =>
      obtain rfl := Option.some.inj (ho.symm.trans (lv0_3 ps))
      have u1 : a.eval (.tmp 1) = .int .i64 now := (hel 1 (by decide)).trans e1
      exact op_valW (lv0_3 ps) rfl (v := .int .i64 now) (by unfold lv0O3 execOp; simp only [u1]; first | (go_simp; done) | (go_simp; with_reducible rfl)) (hK w (fun D' hi' hj' => by
        have hd18 : D' 18 = D 18 := hj' 18 (by decide)
        have hd22 : D' 22 = D 22 := hj' 22 (by decide)
        have hd26 : D' 26 = D 26 := hj' 26 (by decide)
        show Chg W0 g w ∧ Box w g 48 (ccL { c with ma := (if D' 18 = true then now else c.ma), cw := (if D' 22 = true then m else c.cw), da := (if D' 26 = true then 0 else c.da) })
        rw [hd18, hd22, hd26]
        exact hSw))
    | 4, _, ho =>
      obtain rfl := Option.some.inj (ho.symm.trans (lv0_4 ps))
      have u0 : a.eval (.tmp 0) = .pointer (some ⟨g, 0, none⟩) := (hel 0 (by decide)).trans e0
      exact op_valW (lv0_4 ps) rfl (v := .pointer (some ⟨g, 0, none⟩)) (by unfold lv0O4 execOp; simp only [u0]; first | (go_simp; done) | (go_simp; with_reducible rfl)) (hK w (fun D' hi' hj' => by
        have hd18 : D' 18 = D 18 := hj' 18 (by decide)
        have hd22 : D' 22 = D 22 := hj' 22 (by decide)
        have hd26 : D' 26 = D 26 := hj' 26 (by decide)
        show Chg W0 g w ∧ Box w g 48 (ccL { c with ma := (if D' 18 = true then now else c.ma), cw := (if D' 22 = true then m else c.cw), da := (if D' 26 = true then 0 else c.da) })
        rw [hd18, hd22, hd26]
        exact hSw))
    | 5, _, ho =>
      obtain rfl := Option.some.inj (ho.symm.trans (lv0_5 ps))
      have s4 : a.eval (.tmp 8) = .pointer (some ⟨g, 0, none⟩) := hs 4 8 (by rfl) rfl
      exact op_valW (lv0_5 ps) rfl (v := .pointer (some ⟨g, 0, none⟩)) (by unfold lv0O5 execOp; simp only [s4]; first | (go_simp; done) | (go_simp; with_reducible rfl)) (hK w (fun D' hi' hj' => by
        have hd18 : D' 18 = D 18 := hj' 18 (by decide)
        have hd22 : D' 22 = D 22 := hj' 22 (by decide)
        have hd26 : D' 26 = D 26 := hj' 26 (by decide)
        show Chg W0 g w ∧ Box w g 48 (ccL { c with ma := (if D' 18 = true then now else c.ma), cw := (if D' 22 = true then m else c.cw), da := (if D' 26 = true then 0 else c.da) })
        rw [hd18, hd22, hd26]
        exact hSw))
    | 6, _, ho =>
      obtain rfl := Option.some.inj (ho.symm.trans (lv0_6 ps))
      have s5 : a.eval (.tmp 9) = .pointer (some ⟨g, 0, none⟩) := hs 5 9 (by rfl) rfl
      exact op_valW (lv0_6 ps) rfl (v := .pointer (some ⟨g, 0, none⟩)) (by unfold lv0O6 execOp; simp only [s5]; first | (go_simp; done) | (go_simp; with_reducible rfl)) (hK w (fun D' hi' hj' => by
        have hd18 : D' 18 = D 18 := hj' 18 (by decide)
        have hd22 : D' 22 = D 22 := hj' 22 (by decide)
        have hd26 : D' 26 = D 26 := hj' 26 (by decide)
        show Chg W0 g w ∧ Box w g 48 (ccL { c with ma := (if D' 18 = true then now else c.ma), cw := (if D' 22 = true then m else c.cw), da := (if D' 26 = true then 0 else c.da) })
        rw [hd18, hd22, hd26]
        exact hSw))
    | 7, _, ho =>
      obtain rfl := Option.some.inj (ho.symm.trans (lv0_7 ps))
      have s6 : a.eval (.tmp 10) = .pointer (some ⟨g, 0, none⟩) := hs 6 10 (by rfl) rfl
      exact op_valW (lv0_7 ps) rfl (v := .pointer (some ⟨g, 2, none⟩)) (by unfold lv0O7 execOp; simp only [s6]; first | (go_simp; done) | (go_simp; with_reducible rfl)) (hK w (fun D' hi' hj' => by
        have hd18 : D' 18 = D 18 := hj' 18 (by decide)
        have hd22 : D' 22 = D 22 := hj' 22 (by decide)
        have hd26 : D' 26 = D 26 := hj' 26 (by decide)
        show Chg W0 g w ∧ Box w g 48 (ccL { c with ma := (if D' 18 = true then now else c.ma), cw := (if D' 22 = true then m else c.cw), da := (if D' 26 = true then 0 else c.da) })
        rw [hd18, hd22, hd26]
        exact hSw))
    | 8, _, ho =>
      obtain rfl := Option.some.inj (ho.symm.trans (lv0_8 ps))
      have s7 : a.eval (.tmp 11) = .pointer (some ⟨g, 2, none⟩) := hs 7 11 (by rfl) rfl
      have hn22 : D 22 = false := by
        cases h : D 22 with
        | false => rfl
        | true => exact absurd (hcl 22 _ 8 (lv0_22 ps) (by rfl) h) (by rw [hDi]; simp)
      have hb2 := hSw.2
      have hcl0 := Box.cell hb2 2 rfl
      have hcl : w.cell? ⟨g, 2, none⟩ = some (.int .i64 (c.cw)) := by
        rw [hcl0, hn22]
        rfl
      exact op_valW (lv0_8 ps) rfl (v := .int .i64 c.cw) (by unfold lv0O8 execOp; simp only [s7]; first | (go_simp; done) | (go_simp; with_reducible rfl)) (hK w (fun D' hi' hj' => by
        have hd18 : D' 18 = D 18 := hj' 18 (by decide)
        have hd22 : D' 22 = D 22 := hj' 22 (by decide)
        have hd26 : D' 26 = D 26 := hj' 26 (by decide)
        show Chg W0 g w ∧ Box w g 48 (ccL { c with ma := (if D' 18 = true then now else c.ma), cw := (if D' 22 = true then m else c.cw), da := (if D' 26 = true then 0 else c.da) })
        rw [hd18, hd22, hd26]
        exact hSw))
    | 9, _, ho =>
      obtain rfl := Option.some.inj (ho.symm.trans (lv0_9 ps))
      have u0 : a.eval (.tmp 0) = .pointer (some ⟨g, 0, none⟩) := (hel 0 (by decide)).trans e0
      exact op_valW (lv0_9 ps) rfl (v := .pointer (some ⟨g, 0, none⟩)) (by unfold lv0O9 execOp; simp only [u0]; first | (go_simp; done) | (go_simp; with_reducible rfl)) (hK w (fun D' hi' hj' => by
        have hd18 : D' 18 = D 18 := hj' 18 (by decide)
        have hd22 : D' 22 = D 22 := hj' 22 (by decide)
        have hd26 : D' 26 = D 26 := hj' 26 (by decide)
        show Chg W0 g w ∧ Box w g 48 (ccL { c with ma := (if D' 18 = true then now else c.ma), cw := (if D' 22 = true then m else c.cw), da := (if D' 26 = true then 0 else c.da) })
        rw [hd18, hd22, hd26]
        exact hSw))
    | 10, _, ho =>
      obtain rfl := Option.some.inj (ho.symm.trans (lv0_10 ps))
      have s9 : a.eval (.tmp 13) = .pointer (some ⟨g, 0, none⟩) := hs 9 13 (by rfl) rfl
      exact op_valW (lv0_10 ps) rfl (v := .pointer (some ⟨g, 0, none⟩)) (by unfold lv0O10 execOp; simp only [s9]; first | (go_simp; done) | (go_simp; with_reducible rfl)) (hK w (fun D' hi' hj' => by
        have hd18 : D' 18 = D 18 := hj' 18 (by decide)
        have hd22 : D' 22 = D 22 := hj' 22 (by decide)
        have hd26 : D' 26 = D 26 := hj' 26 (by decide)
        show Chg W0 g w ∧ Box w g 48 (ccL { c with ma := (if D' 18 = true then now else c.ma), cw := (if D' 22 = true then m else c.cw), da := (if D' 26 = true then 0 else c.da) })
        rw [hd18, hd22, hd26]
        exact hSw))
    | 11, _, ho =>
      obtain rfl := Option.some.inj (ho.symm.trans (lv0_11 ps))
      have s10 : a.eval (.tmp 14) = .pointer (some ⟨g, 0, none⟩) := hs 10 14 (by rfl) rfl
      exact op_valW (lv0_11 ps) rfl (v := .pointer (some ⟨g, 0, none⟩)) (by unfold lv0O11 execOp; simp only [s10]; first | (go_simp; done) | (go_simp; with_reducible rfl)) (hK w (fun D' hi' hj' => by
        have hd18 : D' 18 = D 18 := hj' 18 (by decide)
        have hd22 : D' 22 = D 22 := hj' 22 (by decide)
        have hd26 : D' 26 = D 26 := hj' 26 (by decide)
        show Chg W0 g w ∧ Box w g 48 (ccL { c with ma := (if D' 18 = true then now else c.ma), cw := (if D' 22 = true then m else c.cw), da := (if D' 26 = true then 0 else c.da) })
        rw [hd18, hd22, hd26]
        exact hSw))
    | 12, _, ho =>
      obtain rfl := Option.some.inj (ho.symm.trans (lv0_12 ps))
      have s11 : a.eval (.tmp 15) = .pointer (some ⟨g, 0, none⟩) := hs 11 15 (by rfl) rfl
      exact op_valW (lv0_12 ps) rfl (v := .pointer (some ⟨g, 21, none⟩)) (by unfold lv0O12 execOp; simp only [s11]; first | (go_simp; done) | (go_simp; with_reducible rfl)) (hK w (fun D' hi' hj' => by
        have hd18 : D' 18 = D 18 := hj' 18 (by decide)
        have hd22 : D' 22 = D 22 := hj' 22 (by decide)
        have hd26 : D' 26 = D 26 := hj' 26 (by decide)
        show Chg W0 g w ∧ Box w g 48 (ccL { c with ma := (if D' 18 = true then now else c.ma), cw := (if D' 22 = true then m else c.cw), da := (if D' 26 = true then 0 else c.da) })
        rw [hd18, hd22, hd26]
        exact hSw))
    | 13, _, ho =>
      obtain rfl := Option.some.inj (ho.symm.trans (lv0_13 ps))
      have s12 : a.eval (.tmp 16) = .pointer (some ⟨g, 21, none⟩) := hs 12 16 (by rfl) rfl
      have hcl : w.cell? ⟨g, 21, none⟩ = some (.int .i64 (c.pr)) := Box.cell hSw.2 21 rfl
      exact op_valW (lv0_13 ps) rfl (v := .int .i64 c.pr) (by unfold lv0O13 execOp; simp only [s12]; first | (go_simp; done) | (go_simp; with_reducible rfl)) (hK w (fun D' hi' hj' => by
        have hd18 : D' 18 = D 18 := hj' 18 (by decide)
        have hd22 : D' 22 = D 22 := hj' 22 (by decide)
        have hd26 : D' 26 = D 26 := hj' 26 (by decide)
        show Chg W0 g w ∧ Box w g 48 (ccL { c with ma := (if D' 18 = true then now else c.ma), cw := (if D' 22 = true then m else c.cw), da := (if D' 26 = true then 0 else c.da) })
        rw [hd18, hd22, hd26]
        exact hSw))
    | 14, _, ho =>
      obtain rfl := Option.some.inj (ho.symm.trans (lv0_14 ps))
      have s8 : a.eval (.tmp 12) = .int .i64 c.cw := hs 8 12 (by rfl) rfl
      have s13 : a.eval (.tmp 17) = .int .i64 c.pr := hs 13 17 (by rfl) rfl
      have t12 : a.tmps[12]?.getD undef = .int .i64 c.cw := by simpa [Act.eval] using s8
      have t17 : a.tmps[17]?.getD undef = .int .i64 c.pr := by simpa [Act.eval] using s13
      have hcl : (if c.cw < c.pr then c.pr else c.cw) = m := hm
      exact op_valW (lv0_14 ps) rfl (v := .int .i64 m) (by unfold lv0O14 execOp; skip; first | (go_simp; done) | (go_simp; with_reducible rfl)) (hK w (fun D' hi' hj' => by
        have hd18 : D' 18 = D 18 := hj' 18 (by decide)
        have hd22 : D' 22 = D 22 := hj' 22 (by decide)
        have hd26 : D' 26 = D 26 := hj' 26 (by decide)
        show Chg W0 g w ∧ Box w g 48 (ccL { c with ma := (if D' 18 = true then now else c.ma), cw := (if D' 22 = true then m else c.cw), da := (if D' 26 = true then 0 else c.da) })
        rw [hd18, hd22, hd26]
        exact hSw))
    | 15, _, ho =>
      obtain rfl := Option.some.inj (ho.symm.trans (lv0_15 ps))
      have s0 : a.eval (.tmp 4) = .pointer (some ⟨g, 0, none⟩) := hs 0 4 (by rfl) rfl
      exact op_valW (lv0_15 ps) rfl (v := .pointer (some ⟨g, 0, none⟩)) (by unfold lv0O15 execOp; simp only [s0]; first | (go_simp; done) | (go_simp; with_reducible rfl)) (hK w (fun D' hi' hj' => by
        have hd18 : D' 18 = D 18 := hj' 18 (by decide)
        have hd22 : D' 22 = D 22 := hj' 22 (by decide)
        have hd26 : D' 26 = D 26 := hj' 26 (by decide)
        show Chg W0 g w ∧ Box w g 48 (ccL { c with ma := (if D' 18 = true then now else c.ma), cw := (if D' 22 = true then m else c.cw), da := (if D' 26 = true then 0 else c.da) })
        rw [hd18, hd22, hd26]
        exact hSw))
    | 16, _, ho =>
      obtain rfl := Option.some.inj (ho.symm.trans (lv0_16 ps))
      have s15 : a.eval (.tmp 19) = .pointer (some ⟨g, 0, none⟩) := hs 15 19 (by rfl) rfl
      exact op_valW (lv0_16 ps) rfl (v := .pointer (some ⟨g, 0, none⟩)) (by unfold lv0O16 execOp; simp only [s15]; first | (go_simp; done) | (go_simp; with_reducible rfl)) (hK w (fun D' hi' hj' => by
        have hd18 : D' 18 = D 18 := hj' 18 (by decide)
        have hd22 : D' 22 = D 22 := hj' 22 (by decide)
        have hd26 : D' 26 = D 26 := hj' 26 (by decide)
        show Chg W0 g w ∧ Box w g 48 (ccL { c with ma := (if D' 18 = true then now else c.ma), cw := (if D' 22 = true then m else c.cw), da := (if D' 26 = true then 0 else c.da) })
        rw [hd18, hd22, hd26]
        exact hSw))
    | 17, _, ho =>
      obtain rfl := Option.some.inj (ho.symm.trans (lv0_17 ps))
      have s16 : a.eval (.tmp 20) = .pointer (some ⟨g, 0, none⟩) := hs 16 20 (by rfl) rfl
      exact op_valW (lv0_17 ps) rfl (v := .pointer (some ⟨g, 13, none⟩)) (by unfold lv0O17 execOp; simp only [s16]; first | (go_simp; done) | (go_simp; with_reducible rfl)) (hK w (fun D' hi' hj' => by
        have hd18 : D' 18 = D 18 := hj' 18 (by decide)
        have hd22 : D' 22 = D 22 := hj' 22 (by decide)
        have hd26 : D' 26 = D 26 := hj' 26 (by decide)
        show Chg W0 g w ∧ Box w g 48 (ccL { c with ma := (if D' 18 = true then now else c.ma), cw := (if D' 22 = true then m else c.cw), da := (if D' 26 = true then 0 else c.da) })
        rw [hd18, hd22, hd26]
        exact hSw))
    | 18, _, ho =>
      obtain rfl := Option.some.inj (ho.symm.trans (lv0_18 ps))
      have s17 : a.eval (.tmp 21) = .pointer (some ⟨g, 13, none⟩) := hs 17 21 (by rfl) rfl
      have s3 : a.eval (.tmp 7) = .int .i64 now := hs 3 7 (by rfl) rfl
      have hcx := Box.cell hSw.2 13 rfl
      have hfz := Box.frozen hSw.2 13
      exact op_stoW (lv0_18 ps) rfl rfl (w' := (w.setCell ⟨g, 13, none⟩ (.int .i64 (now)))) (by unfold lv0O18 execOp; simp only [s17, s3]; first | (go_simp; done) | (go_simp; with_reducible rfl)) (hK _ (fun D' hi' hj' => by
        have hd18 : D' 18 = true := hi'
        have hd22 : D' 22 = D 22 := hj' 22 (by decide)
        have hd26 : D' 26 = D 26 := hj' 26 (by decide)
        show Chg W0 g (w.setCell ⟨g, 13, none⟩ (.int .i64 (now))) ∧ Box (w.setCell ⟨g, 13, none⟩ (.int .i64 (now))) g 48 (ccL { c with ma := (if D' 18 = true then now else c.ma), cw := (if D' 22 = true then m else c.cw), da := (if D' 26 = true then 0 else c.da) })
        rw [hd18, hd22, hd26]
        exact ⟨hSw.1.set _ _, box_to (hSw.2.set 13 _) rfl⟩))
    | 19, _, ho =>
      obtain rfl := Option.some.inj (ho.symm.trans (lv0_19 ps))
      have s1 : a.eval (.tmp 5) = .pointer (some ⟨g, 0, none⟩) := hs 1 5 (by rfl) rfl
      exact op_valW (lv0_19 ps) rfl (v := .pointer (some ⟨g, 0, none⟩)) (by unfold lv0O19 execOp; simp only [s1]; first | (go_simp; done) | (go_simp; with_reducible rfl)) (hK w (fun D' hi' hj' => by
        have hd18 : D' 18 = D 18 := hj' 18 (by decide)
        have hd22 : D' 22 = D 22 := hj' 22 (by decide)
        have hd26 : D' 26 = D 26 := hj' 26 (by decide)
        show Chg W0 g w ∧ Box w g 48 (ccL { c with ma := (if D' 18 = true then now else c.ma), cw := (if D' 22 = true then m else c.cw), da := (if D' 26 = true then 0 else c.da) })
        rw [hd18, hd22, hd26]
        exact hSw))
    | 20, _, ho =>
      obtain rfl := Option.some.inj (ho.symm.trans (lv0_20 ps))
      have s19 : a.eval (.tmp 22) = .pointer (some ⟨g, 0, none⟩) := hs 19 22 (by rfl) rfl
      exact op_valW (lv0_20 ps) rfl (v := .pointer (some ⟨g, 0, none⟩)) (by unfold lv0O20 execOp; simp only [s19]; first | (go_simp; done) | (go_simp; with_reducible rfl)) (hK w (fun D' hi' hj' => by
        have hd18 : D' 18 = D 18 := hj' 18 (by decide)
        have hd22 : D' 22 = D 22 := hj' 22 (by decide)
        have hd26 : D' 26 = D 26 := hj' 26 (by decide)
        show Chg W0 g w ∧ Box w g 48 (ccL { c with ma := (if D' 18 = true then now else c.ma), cw := (if D' 22 = true then m else c.cw), da := (if D' 26 = true then 0 else c.da) })
        rw [hd18, hd22, hd26]
        exact hSw))
    | 21, _, ho =>
      obtain rfl := Option.some.inj (ho.symm.trans (lv0_21 ps))
      have s20 : a.eval (.tmp 23) = .pointer (some ⟨g, 0, none⟩) := hs 20 23 (by rfl) rfl
      exact op_valW (lv0_21 ps) rfl (v := .pointer (some ⟨g, 2, none⟩)) (by unfold lv0O21 execOp; simp only [s20]; first | (go_simp; done) | (go_simp; with_reducible rfl)) (hK w (fun D' hi' hj' => by
        have hd18 : D' 18 = D 18 := hj' 18 (by decide)
        have hd22 : D' 22 = D 22 := hj' 22 (by decide)
        have hd26 : D' 26 = D 26 := hj' 26 (by decide)
        show Chg W0 g w ∧ Box w g 48 (ccL { c with ma := (if D' 18 = true then now else c.ma), cw := (if D' 22 = true then m else c.cw), da := (if D' 26 = true then 0 else c.da) })
        rw [hd18, hd22, hd26]
        exact hSw))
    | 22, _, ho =>
      obtain rfl := Option.some.inj (ho.symm.trans (lv0_22 ps))
      have s21 : a.eval (.tmp 24) = .pointer (some ⟨g, 2, none⟩) := hs 21 24 (by rfl) rfl
      have s14 : a.eval (.tmp 18) = .int .i64 m := hs 14 18 (by rfl) rfl
      have hcx := Box.cell hSw.2 2 rfl
      have hfz := Box.frozen hSw.2 2
      exact op_stoW (lv0_22 ps) rfl rfl (w' := (w.setCell ⟨g, 2, none⟩ (.int .i64 (m)))) (by unfold lv0O22 execOp; simp only [s21, s14]; first | (go_simp; done) | (go_simp; with_reducible rfl)) (hK _ (fun D' hi' hj' => by
        have hd18 : D' 18 = D 18 := hj' 18 (by decide)
        have hd22 : D' 22 = true := hi'
        have hd26 : D' 26 = D 26 := hj' 26 (by decide)
        show Chg W0 g (w.setCell ⟨g, 2, none⟩ (.int .i64 (m))) ∧ Box (w.setCell ⟨g, 2, none⟩ (.int .i64 (m))) g 48 (ccL { c with ma := (if D' 18 = true then now else c.ma), cw := (if D' 22 = true then m else c.cw), da := (if D' 26 = true then 0 else c.da) })
        rw [hd18, hd22, hd26]
        exact ⟨hSw.1.set _ _, box_to (hSw.2.set 2 _) rfl⟩))
    | 23, _, ho =>
      obtain rfl := Option.some.inj (ho.symm.trans (lv0_23 ps))
      have s2 : a.eval (.tmp 6) = .pointer (some ⟨g, 0, none⟩) := hs 2 6 (by rfl) rfl
      exact op_valW (lv0_23 ps) rfl (v := .pointer (some ⟨g, 0, none⟩)) (by unfold lv0O23 execOp; simp only [s2]; first | (go_simp; done) | (go_simp; with_reducible rfl)) (hK w (fun D' hi' hj' => by
        have hd18 : D' 18 = D 18 := hj' 18 (by decide)
        have hd22 : D' 22 = D 22 := hj' 22 (by decide)
        have hd26 : D' 26 = D 26 := hj' 26 (by decide)
        show Chg W0 g w ∧ Box w g 48 (ccL { c with ma := (if D' 18 = true then now else c.ma), cw := (if D' 22 = true then m else c.cw), da := (if D' 26 = true then 0 else c.da) })
        rw [hd18, hd22, hd26]
        exact hSw))
    | 24, _, ho =>
      obtain rfl := Option.some.inj (ho.symm.trans (lv0_24 ps))
      have s23 : a.eval (.tmp 25) = .pointer (some ⟨g, 0, none⟩) := hs 23 25 (by rfl) rfl
      exact op_valW (lv0_24 ps) rfl (v := .pointer (some ⟨g, 0, none⟩)) (by unfold lv0O24 execOp; simp only [s23]; first | (go_simp; done) | (go_simp; with_reducible rfl)) (hK w (fun D' hi' hj' => by
        have hd18 : D' 18 = D 18 := hj' 18 (by decide)
        have hd22 : D' 22 = D 22 := hj' 22 (by decide)
        have hd26 : D' 26 = D 26 := hj' 26 (by decide)
        show Chg W0 g w ∧ Box w g 48 (ccL { c with ma := (if D' 18 = true then now else c.ma), cw := (if D' 22 = true then m else c.cw), da := (if D' 26 = true then 0 else c.da) })
        rw [hd18, hd22, hd26]
        exact hSw))
    | 25, _, ho =>
      obtain rfl := Option.some.inj (ho.symm.trans (lv0_25 ps))
      have s24 : a.eval (.tmp 26) = .pointer (some ⟨g, 0, none⟩) := hs 24 26 (by rfl) rfl
      exact op_valW (lv0_25 ps) rfl (v := .pointer (some ⟨g, 20, none⟩)) (by unfold lv0O25 execOp; simp only [s24]; first | (go_simp; done) | (go_simp; with_reducible rfl)) (hK w (fun D' hi' hj' => by
        have hd18 : D' 18 = D 18 := hj' 18 (by decide)
        have hd22 : D' 22 = D 22 := hj' 22 (by decide)
        have hd26 : D' 26 = D 26 := hj' 26 (by decide)
        show Chg W0 g w ∧ Box w g 48 (ccL { c with ma := (if D' 18 = true then now else c.ma), cw := (if D' 22 = true then m else c.cw), da := (if D' 26 = true then 0 else c.da) })
        rw [hd18, hd22, hd26]
        exact hSw))
    | 26, _, ho =>
      obtain rfl := Option.some.inj (ho.symm.trans (lv0_26 ps))
      have s25 : a.eval (.tmp 27) = .pointer (some ⟨g, 20, none⟩) := hs 25 27 (by rfl) rfl
      have hcx := Box.cell hSw.2 20 rfl
      have hfz := Box.frozen hSw.2 20
      exact op_stoW (lv0_26 ps) rfl rfl (w' := (w.setCell ⟨g, 20, none⟩ (.int .i64 (0)))) (by unfold lv0O26 execOp; simp only [s25]; first | (go_simp; done) | (go_simp; with_reducible rfl)) (hK _ (fun D' hi' hj' => by
        have hd18 : D' 18 = D 18 := hj' 18 (by decide)
        have hd22 : D' 22 = D 22 := hj' 22 (by decide)
        have hd26 : D' 26 = true := hi'
        show Chg W0 g (w.setCell ⟨g, 20, none⟩ (.int .i64 (0))) ∧ Box (w.setCell ⟨g, 20, none⟩ (.int .i64 (0))) g 48 (ccL { c with ma := (if D' 18 = true then now else c.ma), cw := (if D' 22 = true then m else c.cw), da := (if D' 26 = true then 0 else c.da) })
        rw [hd18, hd22, hd26]
        exact ⟨hSw.1.set _ _, box_to (hSw.2.set 20 _) rfl⟩))
    | iq + 27, hin, _ => exact absurd hin (by omega)

set_option maxRecDepth 100000 in
set_option maxHeartbeats 4000000 in
theorem lev_y (c : Cc) (g : Nat) (w : World) (now m : Int) (HL : Hid (c.fc = 3)) (hm : (if c.cw < c.pr then c.pr else c.cw) = m) (kp : ∀ (d : Cc) W, Box W g 48 (ccL d) → Calls Tryd.prog 60 #[.pointer (some ⟨g, 0, none⟩), .int .i64 now] W fun e w' => e = .returned (.tuple #[]) ∧ Chg W g w' ∧ Box w' g 48 (ccL (cruE d now))) (hb : Box w g 48 (ccL c)) : Calls Tryd.prog 61 #[.pointer (some ⟨g, 0, none⟩), .int .i64 now] w fun e w' => e = .returned (.tuple #[]) ∧ Chg w g w' ∧ Box w' g 48 (ccL (cruE { c with ma := now, cw := m, da := 0 } now)) := by
  have HF : Hid (Chg w g w ∧ Box w g 48 (ccL c)) := ⟨Chg.refl w g, hb⟩
  clear hb
  go_enter Tryd.func61, Tryd.ntmps61
  have fz := fun i => Box.frozen HF.out.2 i
  have hlt := HF.out.2.lt
  clear fz hlt
  go_upto_region 0 with fail
  refine lv0_reg (by rfl) c g now m rfl rfl HF.out.2 hm ?_
  intro T w9  hS
  simp only [Act.put, List.setIfInBounds_toArray, List.set_cons_zero, List.set_cons_succ]
  have HG : Hid (Chg w g w9 ∧ Box w9 g 48 (ccL { c with ma := now, cw := m, da := 0 })) := ⟨HF.out.1.trans hS.1, hS.2⟩
  clear hS HF 
  have HF := HG
  clear HG
  have k17 : w9.cell? ⟨g, 17, none⟩ = some (.int .i64 3) := by
    have := Box.cell HF.out.2 17 rfl
    rw [← HL.out]
    exact this
  clear HL hm
  go_wp2_with fail
  refine (kp _ _ HF.out.2).mono ?_
  rintro e w2 ⟨rfl, hS, hB⟩
  have HG : Hid (Chg w g w2 ∧ Box w2 g 48 (ccL (cruE { c with ma := now, cw := m, da := 0 } now))) := ⟨HF.out.1.trans hS, hB⟩
  clear HF hS hB k17 kp
  have HF := HG
  clear HG
  go_wp2_with fail
  go_end0
  refine ⟨rfl, ?hs, ?hx⟩
  case hs => repeat (first | with_reducible exact HF.out.1 | with_reducible refine Chg.set ?_ _ _ | with_reducible refine Chg.drewN ?_ _ | with_reducible refine Chg.drew ?_)
  case hx =>
    apply box_to
    · repeat (first | with_reducible exact HF.out.2 | with_reducible apply Box.set | with_reducible apply Box.drewN | with_reducible apply Box.drew)
    · rfl

set_option maxRecDepth 100000 in
set_option maxHeartbeats 4000000 in
theorem lev_n (c : Cc) (g : Nat) (w : World) (now m : Int) (hq : (c.fc == 3) = false) (hm : (if c.cw < c.pr then c.pr else c.cw) = m) (hb : Box w g 48 (ccL c)) : Calls Tryd.prog 61 #[.pointer (some ⟨g, 0, none⟩), .int .i64 now] w fun e w' => e = .returned (.tuple #[]) ∧ Chg w g w' ∧ Box w' g 48 (ccL { c with ma := now, cw := m, da := 0, md := 1 }) := by
  have HF : Hid (Chg w g w ∧ Box w g 48 (ccL c)) := ⟨Chg.refl w g, hb⟩
  clear hb
  go_enter Tryd.func61, Tryd.ntmps61
  have fz := fun i => Box.frozen HF.out.2 i
  have hlt := HF.out.2.lt
  clear fz hlt
  go_upto_region 0 with fail
  refine lv0_reg (by rfl) c g now m rfl rfl HF.out.2 hm ?_
  intro T w9  hS
  simp only [Act.put, List.setIfInBounds_toArray, List.set_cons_zero, List.set_cons_succ]
  have HG : Hid (Chg w g w9 ∧ Box w9 g 48 (ccL { c with ma := now, cw := m, da := 0 })) := ⟨HF.out.1.trans hS.1, hS.2⟩
  clear hS HF 
  have HF := HG
  clear HG
  have k17 : w9.cell? ⟨g, 17, none⟩ = some (.int .i64 c.fc) := Box.cell HF.out.2 17 rfl
  have k10 := Box.cell HF.out.2 10 rfl
  have fz := fun i => Box.frozen HF.out.2 i
  have hlt := HF.out.2.lt
  clear hm
  go_wp2_with fail
  go_end0
  refine ⟨rfl, ?hs, ?hx⟩
  case hs => repeat (first | with_reducible exact HF.out.1 | with_reducible refine Chg.set ?_ _ _ | with_reducible refine Chg.drewN ?_ _ | with_reducible refine Chg.drew ?_)
  case hx =>
    apply box_to
    · repeat (first | with_reducible exact HF.out.2 | with_reducible apply Box.set | with_reducible apply Box.drewN | with_reducible apply Box.drew)
    · rfl

theorem lev_is (c : Cc) (g : Nat) (now : Int) (w : World) (hb : Box w g 48 (ccL c)) : Calls Tryd.prog 61 #[.pointer (some ⟨g, 0, none⟩), .int .i64 now] w fun e w' => e = .returned (.tuple #[]) ∧ Chg w g w' ∧ Box w' g 48 (ccL (levE c now)) := by
  have hm : (if c.cw < c.pr then c.pr else c.cw) = max c.cw c.pr := by split <;> omega
  unfold levE
  by_cases h : c.fc = 3
  · rw [if_pos h]; exact lev_y c g w now _ h hm (fun d W hW => cru_is d g W now hW) hb
  · rw [if_neg h]; exact lev_n c g w now _ (by simpa using h) hm hb
end Go.Proofs.YtagmighcofllhaaDoor

/- The contract of cycle. -/
namespace Go.Proofs.YtagmighcofllhaaDoor
open Go.ChangeShapes Go.WideShapes Go.ChangeAt Go.RowKit
set_option linter.unusedVariables false
set_option linter.unusedSimpArgs false

open Fil
theorem enter52 (args : Array Value) (w : World) : (callFunc 52 args).run Tryd.prog w = .ok (.enter 52 args) w := by kernel_rfl
def cy1O0 (ps : String) : Oper := { dst := some 5, op := .move (.tmp 0), type := 70, pos := ps, after := #[], guard := none }
def cy1O1 (ps : String) : Oper := { dst := some 6, op := .nilCheck (.tmp 5), type := 0, pos := ps, after := #[{ on := 0, ground := .data }], guard := none }
def cy1O2 (ps : String) : Oper := { dst := some 7, op := .fieldAddr 48 (.tmp 6) 0, type := 0, pos := ps, after := #[{ on := 1, ground := .data }], guard := none }
def cy1O3 (ps : String) : Oper := { dst := some 8, op := .fieldAddr 26 (.tmp 7) 10, type := 0, pos := ps, after := #[{ on := 2, ground := .data }], guard := none }
def cy1O4 (ps : String) : Oper := { dst := some 9, op := .load 23 (.tmp 8), type := 23, pos := ps, after := #[{ on := 3, ground := .data }], guard := none }
def cy1O5 (ps : String) : Oper := { dst := some 10, op := .binOp .eql 23 (.tmp 9) (.const (.int .i64 2)) 23, type := 4, pos := ps, after := #[{ on := 4, ground := .data }], guard := none }
def cy1O6 (ps : String) : Oper := { dst := some 11, op := .move (.tmp 10), type := 4, pos := ps, after := #[{ on := 5, ground := .data }], guard := none }
def cy1O7 (ps : String) : Oper := { dst := some 12, op := .fieldAddr 28 (.tmp 3) 7, type := 0, pos := ps, after := #[{ on := 6, ground := .guard }], guard := some (6, true) }
def cy1O8 (ps : String) : Oper := { dst := some 13, op := .load 3 (.tmp 12), type := 3, pos := ps, after := #[{ on := 7, ground := .data }, { on := 6, ground := .guard }], guard := some (6, true) }
def cy1O9 (ps : String) : Oper := { dst := some 14, op := .move (.tmp 0), type := 70, pos := ps, after := #[{ on := 6, ground := .guard }], guard := some (6, true) }
def cy1O10 (ps : String) : Oper := { dst := some 15, op := .nilCheck (.tmp 14), type := 0, pos := ps, after := #[{ on := 9, ground := .data }, { on := 6, ground := .guard }], guard := some (6, true) }
def cy1O11 (ps : String) : Oper := { dst := some 16, op := .load 48 (.tmp 15), type := 48, pos := ps, after := #[{ on := 10, ground := .data }, { on := 6, ground := .guard }], guard := some (6, true) }
def cy1O12 (ps : String) : Oper := { dst := some 17, op := .call { callee := .value (.func 52), args := #[.tmp 16], argTypes := #[70] }, type := 3, pos := ps, after := #[{ on := 11, ground := .data }, { on := 6, ground := .chain }, { on := 6, ground := .guard }], guard := some (6, true) }
def cy1O13 (ps : String) : Oper := { dst := some 18, op := .binOp .leq 3 (.tmp 13) (.tmp 17) 3, type := 4, pos := ps, after := #[{ on := 8, ground := .data }, { on := 12, ground := .data }, { on := 6, ground := .guard }], guard := some (6, true) }
def cy1O14 (ps : String) : Oper := { dst := some 19, op := .pick (.tmp 11) (.tmp 18) (.const (.bool false)), type := 4, pos := ps, after := #[{ on := 6, ground := .data }, { on := 13, ground := .data }], guard := none }
def cy1O15 (ps : String) : Oper := { dst := some 4, op := .assign (.tmp 19), type := 4, pos := ps, after := #[{ on := 14, ground := .data }, { on := 12, ground := .chain }], guard := none }
def cy1 (ps : String) : Array Oper := #[cy1O0 ps, cy1O1 ps, cy1O2 ps, cy1O3 ps, cy1O4 ps, cy1O5 ps, cy1O6 ps, cy1O7 ps, cy1O8 ps, cy1O9 ps, cy1O10 ps, cy1O11 ps, cy1O12 ps, cy1O13 ps, cy1O14 ps, cy1O15 ps]
theorem cy1_0 (ps : String) : (cy1 ps)[0]? = some (cy1O0 ps) := rfl
theorem cy1_1 (ps : String) : (cy1 ps)[1]? = some (cy1O1 ps) := rfl
theorem cy1_2 (ps : String) : (cy1 ps)[2]? = some (cy1O2 ps) := rfl
theorem cy1_3 (ps : String) : (cy1 ps)[3]? = some (cy1O3 ps) := rfl
theorem cy1_4 (ps : String) : (cy1 ps)[4]? = some (cy1O4 ps) := rfl
theorem cy1_5 (ps : String) : (cy1 ps)[5]? = some (cy1O5 ps) := rfl
theorem cy1_6 (ps : String) : (cy1 ps)[6]? = some (cy1O6 ps) := rfl
theorem cy1_7 (ps : String) : (cy1 ps)[7]? = some (cy1O7 ps) := rfl
theorem cy1_8 (ps : String) : (cy1 ps)[8]? = some (cy1O8 ps) := rfl
theorem cy1_9 (ps : String) : (cy1 ps)[9]? = some (cy1O9 ps) := rfl
theorem cy1_10 (ps : String) : (cy1 ps)[10]? = some (cy1O10 ps) := rfl
theorem cy1_11 (ps : String) : (cy1 ps)[11]? = some (cy1O11 ps) := rfl
theorem cy1_12 (ps : String) : (cy1 ps)[12]? = some (cy1O12 ps) := rfl
theorem cy1_13 (ps : String) : (cy1 ps)[13]? = some (cy1O13 ps) := rfl
theorem cy1_14 (ps : String) : (cy1 ps)[14]? = some (cy1O14 ps) := rfl
theorem cy1_15 (ps : String) : (cy1 ps)[15]? = some (cy1O15 ps) := rfl
def cy1D : Nat → Option Tmp
  | 0 => some 5
  | 1 => some 6
  | 2 => some 7
  | 3 => some 8
  | 4 => some 9
  | 5 => some 10
  | 6 => some 11
  | 7 => some 12
  | 8 => some 13
  | 9 => some 14
  | 10 => some 15
  | 11 => some 16
  | 12 => some 17
  | 13 => some 18
  | 14 => some 19
  | 15 => some 4
  | _ => none
def cy1T (c : Cc) (s : Sm) (g p : Nat) (P : Int) (bt : Bool) : Nat → Value
  | 0 => .pointer (some ⟨g, 0, none⟩)
  | 1 => .pointer (some ⟨g, 0, none⟩)
  | 2 => .pointer (some ⟨g, 0, none⟩)
  | 3 => .pointer (some ⟨g, 10, none⟩)
  | 4 => .int .i64 2
  | 5 => .bool true
  | 6 => .bool true
  | 7 => .pointer (some ⟨p, 7, none⟩)
  | 8 => .int .i64 s.fl
  | 9 => .pointer (some ⟨g, 0, none⟩)
  | 10 => .pointer (some ⟨g, 0, none⟩)
  | 11 => ccv c
  | 12 => .int .i64 P
  | 13 => .bool bt
  | 14 => .bool bt
  | 15 => .bool bt
  | _ => undef
set_option maxRecDepth 100000 in
set_option maxHeartbeats 4000000 in
theorem cy1_reg {ps : String} {Q : Exit → Act → World → Prop} {a0 : Act} {W0 : World} (sz : a0.tmps.size = 64) (c : Cc) (s : Sm) (g p : Nat) (P : Int) (bt : Bool)
    (e0 : a0.eval (.tmp 0) = .pointer (some ⟨g, 0, none⟩)) (e3 : a0.eval (.tmp 3) = .pointer (some ⟨p, 0, none⟩))
    (hb : Box W0 g 48 (ccL c)) (hs : Box W0 p 28 (smL s)) (hne : p ≠ g) (hm : c.md = 2) (hP : decide (s.fl ≤ P) = bt) (c1 : ∀ W, Chg W0 g W → Calls Tryd.prog 52 #[ccv c] W fun e w' => e = .returned (.int .i64 P) ∧ Below W.heap.size W w')
    (hfin : ∀ (T : Nat → Value) w, T 15 = .bool bt → Chg W0 g w ∧ Box w g 48 (ccL c) ∧ Box w p 28 (smL s) → Q .normal ((((((((((((((((a0.put (some 5) (T 0)).put (some 6) (T 1)).put (some 7) (T 2)).put (some 8) (T 3)).put (some 9) (T 4)).put (some 10) (T 5)).put (some 11) (T 6)).put (some 12) (T 7)).put (some 13) (T 8)).put (some 14) (T 9)).put (some 15) (T 10)).put (some 16) (T 11)).put (some 17) (T 12)).put (some 18) (T 13)).put (some 19) (T 14)).put (some 4) (T 15)) w) :
    (Code.region 1 (cy1 ps) true).wp Tryd.prog Q a0 W0 := by
  refine wp_region_dets (by kernel_rfl) 16 rfl cy1D ?_ (by decide) (cy1T c s g p P bt) (fun D w => Chg W0 g w ∧ Box w g 48 (ccL c) ∧ Box w p 28 (smL s)) (fun D _ => ⟨(Chg.refl W0 g).drew, hb.drew, hs.drew⟩) ?_ (by rfl) (fun w D _ hSw => hfin (cy1T c s g p P bt) w rfl hSw)
  · intro jq t hj ht
    have : ∀ j, j < 16 → (cy1D j).all (· < 64) = true := by decide
    have := this jq hj
    rw [ht] at this
    rw [sz]
    simpa using this
  · intro iq o ho D a w hSw hDi hcl hs hel K hK
    have hin : iq < 16 := (Array.getElem?_eq_some_iff.1 ho).1
    match iq, hin, ho with
    | 0, _, ho =>
      obtain rfl := Option.some.inj (ho.symm.trans (cy1_0 ps))
      have u0 : a.eval (.tmp 0) = .pointer (some ⟨g, 0, none⟩) := (hel 0 (by decide)).trans e0
      exact op_valW (cy1_0 ps) rfl (v := .pointer (some ⟨g, 0, none⟩)) (by unfold cy1O0 execOp; simp only [u0]; first | (go_simp; done) | (go_simp; with_reducible rfl)) (hK w (fun D' _ _ => hSw))
    | 1, _, ho =>
      obtain rfl := Option.some.inj (ho.symm.trans (cy1_1 ps))
      have s0 : a.eval (.tmp 5) = .pointer (some ⟨g, 0, none⟩) := hs 0 5 (by rfl) rfl
      exact op_valW (cy1_1 ps) rfl (v := .pointer (some ⟨g, 0, none⟩)) (by unfold cy1O1 execOp; simp only [s0]; first | (go_simp; done) | (go_simp; with_reducible rfl)) (hK w (fun D' _ _ => hSw))
    | 2, _, ho =>
      obtain rfl := Option.some.inj (ho.symm.trans (cy1_2 ps))
      have s1 : a.eval (.tmp 6) = .pointer (some ⟨g, 0, none⟩) := hs 1 6 (by rfl) rfl
      exact op_valW (cy1_2 ps) rfl (v := .pointer (some ⟨g, 0, none⟩)) (by unfold cy1O2 execOp; simp only [s1]; first | (go_simp; done) | (go_simp; with_reducible rfl)) (hK w (fun D' _ _ => hSw))
    | 3, _, ho =>
      obtain rfl := Option.some.inj (ho.symm.trans (cy1_3 ps))
      have s2 : a.eval (.tmp 7) = .pointer (some ⟨g, 0, none⟩) := hs 2 7 (by rfl) rfl
      exact op_valW (cy1_3 ps) rfl (v := .pointer (some ⟨g, 10, none⟩)) (by unfold cy1O3 execOp; simp only [s2]; first | (go_simp; done) | (go_simp; with_reducible rfl)) (hK w (fun D' _ _ => hSw))
    | 4, _, ho =>
      obtain rfl := Option.some.inj (ho.symm.trans (cy1_4 ps))
      have s3 : a.eval (.tmp 8) = .pointer (some ⟨g, 10, none⟩) := hs 3 8 (by rfl) rfl
      have hcl : w.cell? ⟨g, 10, none⟩ = some (.int .i64 2) := by
        have := Box.cell hSw.2.1 10 rfl
        rw [hm] at this
        exact this
      exact op_valW (cy1_4 ps) rfl (v := .int .i64 2) (by unfold cy1O4 execOp; simp only [s3]; first | (go_simp; done) | (go_simp; with_reducible rfl)) (hK w (fun D' _ _ => hSw))
    | 5, _, ho =>
      obtain rfl := Option.some.inj (ho.symm.trans (cy1_5 ps))
      have s4 : a.eval (.tmp 9) = .int .i64 2 := hs 4 9 (by rfl) rfl
      exact op_valW (cy1_5 ps) rfl (v := .bool true) (by unfold cy1O5 execOp; simp only [s4]; first | (go_simp; done) | (go_simp; with_reducible rfl)) (hK w (fun D' _ _ => hSw))
    | 6, _, ho =>
      obtain rfl := Option.some.inj (ho.symm.trans (cy1_6 ps))
      have s5 : a.eval (.tmp 10) = .bool true := hs 5 10 (by rfl) rfl
      exact op_valW (cy1_6 ps) rfl (v := .bool true) (by unfold cy1O6 execOp; simp only [s5]; first | (go_simp; done) | (go_simp; with_reducible rfl)) (hK w (fun D' _ _ => hSw))
    | 7, _, ho =>
      obtain rfl := Option.some.inj (ho.symm.trans (cy1_7 ps))
      have s6 : a.eval (.tmp 11) = .bool true := hs 6 11 (by rfl) rfl
      have u3 : a.eval (.tmp 3) = .pointer (some ⟨p, 0, none⟩) := (hel 3 (by decide)).trans e3
      exact op_valW (cy1_7 ps) (by rw [wanted_of rfl (cy1_6 ps) rfl s6]; rfl) (v := .pointer (some ⟨p, 7, none⟩)) (by unfold cy1O7 execOp; simp only [u3]; first | (go_simp; done) | (go_simp; with_reducible rfl)) (hK w (fun D' _ _ => hSw))
    | 8, _, ho =>
      obtain rfl := Option.some.inj (ho.symm.trans (cy1_8 ps))
      have s7 : a.eval (.tmp 12) = .pointer (some ⟨p, 7, none⟩) := hs 7 12 (by rfl) rfl
      have s6 : a.eval (.tmp 11) = .bool true := hs 6 11 (by rfl) rfl
      have hcl : w.cell? ⟨p, 7, none⟩ = some (.int .i64 s.fl) := Box.cell hSw.2.2 7 rfl
      exact op_valW (cy1_8 ps) (by rw [wanted_of rfl (cy1_6 ps) rfl s6]; rfl) (v := .int .i64 s.fl) (by unfold cy1O8 execOp; simp only [s7]; first | (go_simp; done) | (go_simp; with_reducible rfl)) (hK w (fun D' _ _ => hSw))
    | 9, _, ho =>
      obtain rfl := Option.some.inj (ho.symm.trans (cy1_9 ps))
      have s6 : a.eval (.tmp 11) = .bool true := hs 6 11 (by rfl) rfl
      have u0 : a.eval (.tmp 0) = .pointer (some ⟨g, 0, none⟩) := (hel 0 (by decide)).trans e0
      exact op_valW (cy1_9 ps) (by rw [wanted_of rfl (cy1_6 ps) rfl s6]; rfl) (v := .pointer (some ⟨g, 0, none⟩)) (by unfold cy1O9 execOp; simp only [u0]; first | (go_simp; done) | (go_simp; with_reducible rfl)) (hK w (fun D' _ _ => hSw))
    | 10, _, ho =>
      obtain rfl := Option.some.inj (ho.symm.trans (cy1_10 ps))
      have s9 : a.eval (.tmp 14) = .pointer (some ⟨g, 0, none⟩) := hs 9 14 (by rfl) rfl
      have s6 : a.eval (.tmp 11) = .bool true := hs 6 11 (by rfl) rfl
      exact op_valW (cy1_10 ps) (by rw [wanted_of rfl (cy1_6 ps) rfl s6]; rfl) (v := .pointer (some ⟨g, 0, none⟩)) (by unfold cy1O10 execOp; simp only [s9]; first | (go_simp; done) | (go_simp; with_reducible rfl)) (hK w (fun D' _ _ => hSw))
    | 11, _, ho =>
      obtain rfl := Option.some.inj (ho.symm.trans (cy1_11 ps))
      have s10 : a.eval (.tmp 15) = .pointer (some ⟨g, 0, none⟩) := hs 10 15 (by rfl) rfl
      have s6 : a.eval (.tmp 11) = .bool true := hs 6 11 (by rfl) rfl
      exact op_valW (cy1_11 ps) (by rw [wanted_of rfl (cy1_6 ps) rfl s6]; rfl) (v := ccv c) (run_loadC isC48 rfl s10 hSw.2.1) (hK w (fun D' _ _ => hSw))
    | 12, _, ho =>
      obtain rfl := Option.some.inj (ho.symm.trans (cy1_12 ps))
      have s11 : a.eval (.tmp 16) = ccv c := hs 11 16 (by rfl) rfl
      have s6 : a.eval (.tmp 11) = .bool true := hs 6 11 (by rfl) rfl
      exact op_enterW (cy1_12 ps) (by rw [wanted_of rfl (cy1_6 ps) rfl s6]; rfl) (f := 52) (args := #[ccv c]) (by rw [run_call rfl enter52]; simp only [List.map_toArray, List.map_cons, List.map_nil, s11]; try rfl) ((c1 w hSw.1).mono (fun e w' hh => ⟨_, hh.1, hK w' (fun D' _ _ => ⟨hSw.1.later hSw.2.1.lt hh.2, hSw.2.1.later hh.2, hSw.2.2.later hh.2⟩)⟩))
    | 13, _, ho =>
      obtain rfl := Option.some.inj (ho.symm.trans (cy1_13 ps))
      have s8 : a.eval (.tmp 13) = .int .i64 s.fl := hs 8 13 (by rfl) rfl
      have s12 : a.eval (.tmp 17) = .int .i64 P := hs 12 17 (by rfl) rfl
      have s6 : a.eval (.tmp 11) = .bool true := hs 6 11 (by rfl) rfl
      have hcl : decide (s.fl ≤ P) = bt := hP
      exact op_valW (cy1_13 ps) (by rw [wanted_of rfl (cy1_6 ps) rfl s6]; rfl) (v := .bool bt) (by unfold cy1O13 execOp; simp only [s8, s12]; first | (go_simp; done) | (go_simp; with_reducible rfl)) (hK w (fun D' _ _ => hSw))
    | 14, _, ho =>
      obtain rfl := Option.some.inj (ho.symm.trans (cy1_14 ps))
      have s6 : a.eval (.tmp 11) = .bool true := hs 6 11 (by rfl) rfl
      have s13 : a.eval (.tmp 18) = .bool bt := hs 13 18 (by rfl) rfl
      exact op_valW (cy1_14 ps) rfl (v := .bool bt) (by unfold cy1O14 execOp; simp only [s6, s13]; first | (go_simp; done) | (go_simp; with_reducible rfl)) (hK w (fun D' _ _ => hSw))
    | 15, _, ho =>
      obtain rfl := Option.some.inj (ho.symm.trans (cy1_15 ps))
      have s14 : a.eval (.tmp 19) = .bool bt := hs 14 19 (by rfl) rfl
      exact op_valW (cy1_15 ps) rfl (v := .bool bt) (by unfold cy1O15 execOp; simp only [s14]; first | (go_simp; done) | (go_simp; with_reducible rfl)) (hK w (fun D' _ _ => hSw))
    | iq + 16, hin, _ => exact absurd hin (by omega)

set_option maxRecDepth 100000 in
set_option maxHeartbeats 4000000 in
theorem cyc_2t (c : Cc) (s : Sm) (g : Nat) (w : World) (P : Int) (HL : Hid (c.md = 2)) (hP : Hid (decide (s.fl ≤ P) = true)) (c1 : ∀ W, Chg w g W → Calls Tryd.prog 52 #[ccv c] W fun e w' => e = .returned (.int .i64 P) ∧ Below W.heap.size W w') (kp : ∀ W, Box W g 48 (ccL c) → Calls Tryd.prog 60 #[.pointer (some ⟨g, 0, none⟩), .int .i64 s.nw] W fun e w' => e = .returned (.tuple #[]) ∧ Chg W g w' ∧ Box w' g 48 (ccL (cruE c s.nw))) (hb : Box w g 48 (ccL c)) : Calls Tryd.prog 30 #[.pointer (some ⟨g, 0, none⟩), agv (smL s)] w fun e w' => e = .returned (.tuple #[]) ∧ Chg w g w' ∧ Box w' g 48 (ccL (cruE c s.nw)) := by
  have HF : Hid (Chg w g w ∧ Box w g 48 (ccL c)) := ⟨Chg.refl w g, hb⟩
  clear hb
  go_enter Tryd.func30, Tryd.ntmps30
  go_wp2_with (first | (refine wpS_box rfl rfl rfl ?_))
  intro X1 p HN
  have HG : Hid (Chg w g X1 ∧ Box X1 g 48 (ccL c)) := ⟨HF.out.1.later HF.out.2.lt HN.out.2.1, HF.out.2.later HN.out.2.1⟩
  have HS : Hid (Box X1 p 28 (smL s) ∧ g < p ∧ w.heap.size ≤ p) := ⟨HN.out.2.2, by have := HF.out.2.lt; rw [HN.out.1]; exact this, by rw [HN.out.1]; exact HF.out.1.size⟩
  clear HF HN
  have HF := HG
  clear HG
  have hne : p ≠ g := by have := HS.out.2.1; omega
  have hlp := HS.out.1.lt
  have fz := fun i => Box.frozen HF.out.2 i
  have hlt := HF.out.2.lt
  clear fz hlt
  go_upto_region 1 with fail
  refine cy1_reg (by rfl) c s g p P true rfl rfl HF.out.2 HS.out.1 hne HL.out hP.out (fun W hW => c1 W (HF.out.1.trans hW)) ?_
  intro T w9 hT hS
  simp only [Act.put, List.setIfInBounds_toArray, List.set_cons_zero, List.set_cons_succ]
  simp only [hT]
  have HG : Hid (Chg w g w9 ∧ Box w9 g 48 (ccL c)) := ⟨HF.out.1.trans hS.1, hS.2.1⟩
  have HS2 : Hid (Box w9 p 28 (smL s) ∧ g < p ∧ w.heap.size ≤ p) := ⟨hS.2.2, HS.out.2⟩
  clear HS
  have HS := HS2
  clear HS2
  clear hS HF hT
  have HF := HG
  clear HG
  clear c1 hP
  have j0 := Box.cell HS.out.1 0 rfl
  have fz := fun i => Box.frozen HF.out.2 i
  have hlt := HF.out.2.lt
  have k10 : w9.cell? ⟨g, 10, none⟩ = some (.int .i64 2) := by
    have := Box.cell HF.out.2 10 rfl
    rw [HL.out] at this
    exact this
  clear HL
  go_wp2_with fail
  refine (kp _ HF.out.2).mono ?_
  rintro e w2 ⟨rfl, hS, hB⟩
  have HG : Hid (Chg w g w2 ∧ Box w2 g 48 (ccL (cruE c s.nw))) := ⟨HF.out.1.trans hS, hB⟩
  clear HF hS hB k10 j0 fz hlt kp
  have HF := HG
  clear HG
  go_wp2_with fail
  go_end0
  refine ⟨rfl, ?hs, ?hx⟩
  case hs => repeat (first | with_reducible exact HF.out.1 | with_reducible refine Chg.set ?_ _ _ | with_reducible refine Chg.drewN ?_ _ | with_reducible refine Chg.drew ?_)
  case hx =>
    apply box_to
    · repeat (first | with_reducible exact HF.out.2 | with_reducible apply Box.set | with_reducible apply Box.drewN | with_reducible apply Box.drew)
    · rfl

set_option maxRecDepth 100000 in
set_option maxHeartbeats 4000000 in
theorem cyc_2f (c : Cc) (s : Sm) (g : Nat) (w : World) (P : Int) (HL : Hid (c.md = 2)) (hP : Hid (decide (s.fl ≤ P) = false)) (c1 : ∀ W, Chg w g W → Calls Tryd.prog 52 #[ccv c] W fun e w' => e = .returned (.int .i64 P) ∧ Below W.heap.size W w') (hb : Box w g 48 (ccL c)) : Calls Tryd.prog 30 #[.pointer (some ⟨g, 0, none⟩), agv (smL s)] w fun e w' => e = .returned (.tuple #[]) ∧ Chg w g w' ∧ Box w' g 48 (ccL c) := by
  have HF : Hid (Chg w g w ∧ Box w g 48 (ccL c)) := ⟨Chg.refl w g, hb⟩
  clear hb
  go_enter Tryd.func30, Tryd.ntmps30
  go_wp2_with (first | (refine wpS_box rfl rfl rfl ?_))
  intro X1 p HN
  have HG : Hid (Chg w g X1 ∧ Box X1 g 48 (ccL c)) := ⟨HF.out.1.later HF.out.2.lt HN.out.2.1, HF.out.2.later HN.out.2.1⟩
  have HS : Hid (Box X1 p 28 (smL s) ∧ g < p ∧ w.heap.size ≤ p) := ⟨HN.out.2.2, by have := HF.out.2.lt; rw [HN.out.1]; exact this, by rw [HN.out.1]; exact HF.out.1.size⟩
  clear HF HN
  have HF := HG
  clear HG
  have hne : p ≠ g := by have := HS.out.2.1; omega
  have hlp := HS.out.1.lt
  have fz := fun i => Box.frozen HF.out.2 i
  have hlt := HF.out.2.lt
  clear fz hlt
  go_upto_region 1 with fail
  refine cy1_reg (by rfl) c s g p P false rfl rfl HF.out.2 HS.out.1 hne HL.out hP.out (fun W hW => c1 W (HF.out.1.trans hW)) ?_
  intro T w9 hT hS
  simp only [Act.put, List.setIfInBounds_toArray, List.set_cons_zero, List.set_cons_succ]
  simp only [hT]
  have HG : Hid (Chg w g w9 ∧ Box w9 g 48 (ccL c)) := ⟨HF.out.1.trans hS.1, hS.2.1⟩
  have HS2 : Hid (Box w9 p 28 (smL s) ∧ g < p ∧ w.heap.size ≤ p) := ⟨hS.2.2, HS.out.2⟩
  clear HS
  have HS := HS2
  clear HS2
  clear hS HF hT
  have HF := HG
  clear HG
  clear c1 hP
  have j0 := Box.cell HS.out.1 0 rfl
  have fz := fun i => Box.frozen HF.out.2 i
  have hlt := HF.out.2.lt
  have k10 : w9.cell? ⟨g, 10, none⟩ = some (.int .i64 2) := by
    have := Box.cell HF.out.2 10 rfl
    rw [HL.out] at this
    exact this
  clear HL
  go_upto_region 3 with fail
  go_quiet (fail)
  go_wp2_with fail
  go_end0
  refine ⟨rfl, ?hs, ?hx⟩
  case hs => repeat (first | with_reducible exact HF.out.1 | with_reducible refine Chg.set ?_ _ _ | with_reducible refine Chg.drewN ?_ _ | with_reducible refine Chg.drew ?_)
  case hx =>
    apply box_to
    · repeat (first | with_reducible exact HF.out.2 | with_reducible apply Box.set | with_reducible apply Box.drewN | with_reducible apply Box.drew)
    · rfl

set_option maxRecDepth 100000 in
set_option maxHeartbeats 4000000 in
theorem cyc_1 (c : Cc) (s : Sm) (g : Nat) (w : World) (HL : Hid (c.md = 1)) (hb : Box w g 48 (ccL c)) : Calls Tryd.prog 30 #[.pointer (some ⟨g, 0, none⟩), agv (smL s)] w fun e w' => e = .returned (.tuple #[]) ∧ Chg w g w' ∧ Box w' g 48 (ccL c) := by
  have HF : Hid (Chg w g w ∧ Box w g 48 (ccL c)) := ⟨Chg.refl w g, hb⟩
  clear hb
  go_enter Tryd.func30, Tryd.ntmps30
  go_wp2_with (first | (refine wpS_box rfl rfl rfl ?_))
  intro X1 p HN
  have HG : Hid (Chg w g X1 ∧ Box X1 g 48 (ccL c)) := ⟨HF.out.1.later HF.out.2.lt HN.out.2.1, HF.out.2.later HN.out.2.1⟩
  have HS : Hid (Box X1 p 28 (smL s) ∧ g < p ∧ w.heap.size ≤ p) := ⟨HN.out.2.2, by have := HF.out.2.lt; rw [HN.out.1]; exact this, by rw [HN.out.1]; exact HF.out.1.size⟩
  clear HF HN
  have HF := HG
  clear HG
  have hne : p ≠ g := by have := HS.out.2.1; omega
  have hlp := HS.out.1.lt
  have fz := fun i => Box.frozen HF.out.2 i
  have hlt := HF.out.2.lt
  have k10 := Box.cell HF.out.2 10 rfl
  rw [HL.out] at k10
  clear HL
  go_upto_region 1 with fail
  go_quiet (fail)
  go_upto_region 3 with fail
  go_quiet (fail)
  go_wp2_with fail
  go_end0
  refine ⟨rfl, ?hs, ?hx⟩
  case hs => repeat (first | with_reducible exact HF.out.1 | with_reducible refine Chg.set ?_ _ _ | with_reducible refine Chg.drewN ?_ _ | with_reducible refine Chg.drew ?_)
  case hx =>
    apply box_to
    · repeat (first | with_reducible exact HF.out.2 | with_reducible apply Box.set | with_reducible apply Box.drewN | with_reducible apply Box.drew)
    · rfl

set_option maxRecDepth 100000 in
set_option maxHeartbeats 4000000 in
theorem cyc_4 (c : Cc) (s : Sm) (g : Nat) (w : World) (HL : Hid (c.md = 4)) (hb : Box w g 48 (ccL c)) : Calls Tryd.prog 30 #[.pointer (some ⟨g, 0, none⟩), agv (smL s)] w fun e w' => e = .returned (.tuple #[]) ∧ Chg w g w' ∧ Box w' g 48 (ccL c) := by
  have HF : Hid (Chg w g w ∧ Box w g 48 (ccL c)) := ⟨Chg.refl w g, hb⟩
  clear hb
  go_enter Tryd.func30, Tryd.ntmps30
  go_wp2_with (first | (refine wpS_box rfl rfl rfl ?_))
  intro X1 p HN
  have HG : Hid (Chg w g X1 ∧ Box X1 g 48 (ccL c)) := ⟨HF.out.1.later HF.out.2.lt HN.out.2.1, HF.out.2.later HN.out.2.1⟩
  have HS : Hid (Box X1 p 28 (smL s) ∧ g < p ∧ w.heap.size ≤ p) := ⟨HN.out.2.2, by have := HF.out.2.lt; rw [HN.out.1]; exact this, by rw [HN.out.1]; exact HF.out.1.size⟩
  clear HF HN
  have HF := HG
  clear HG
  have hne : p ≠ g := by have := HS.out.2.1; omega
  have hlp := HS.out.1.lt
  have fz := fun i => Box.frozen HF.out.2 i
  have hlt := HF.out.2.lt
  have k10 := Box.cell HF.out.2 10 rfl
  rw [HL.out] at k10
  clear HL
  go_upto_region 1 with fail
  go_quiet (fail)
  go_upto_region 3 with fail
  go_quiet (fail)
  go_wp2_with fail
  go_end0
  refine ⟨rfl, ?hs, ?hx⟩
  case hs => repeat (first | with_reducible exact HF.out.1 | with_reducible refine Chg.set ?_ _ _ | with_reducible refine Chg.drewN ?_ _ | with_reducible refine Chg.drew ?_)
  case hx =>
    apply box_to
    · repeat (first | with_reducible exact HF.out.2 | with_reducible apply Box.set | with_reducible apply Box.drewN | with_reducible apply Box.drew)
    · rfl

set_option maxRecDepth 100000 in
set_option maxHeartbeats 4000000 in
theorem cyc_3n (c : Cc) (s : Sm) (g : Nat) (w : World) (HL : Hid (c.md = 3)) (wr : IntKind.i64.wrap (c.pa + c.mr) = c.pa + c.mr) (o1 : decide (c.pa + c.mr < s.nw) = false) (hb : Box w g 48 (ccL c)) : Calls Tryd.prog 30 #[.pointer (some ⟨g, 0, none⟩), agv (smL s)] w fun e w' => e = .returned (.tuple #[]) ∧ Chg w g w' ∧ Box w' g 48 (ccL c) := by
  have HF : Hid (Chg w g w ∧ Box w g 48 (ccL c)) := ⟨Chg.refl w g, hb⟩
  clear hb
  go_enter Tryd.func30, Tryd.ntmps30
  go_wp2_with (first | (refine wpS_box rfl rfl rfl ?_))
  intro X1 p HN
  have HG : Hid (Chg w g X1 ∧ Box X1 g 48 (ccL c)) := ⟨HF.out.1.later HF.out.2.lt HN.out.2.1, HF.out.2.later HN.out.2.1⟩
  have HS : Hid (Box X1 p 28 (smL s) ∧ g < p ∧ w.heap.size ≤ p) := ⟨HN.out.2.2, by have := HF.out.2.lt; rw [HN.out.1]; exact this, by rw [HN.out.1]; exact HF.out.1.size⟩
  clear HF HN
  have HF := HG
  clear HG
  have hne : p ≠ g := by have := HS.out.2.1; omega
  have hlp := HS.out.1.lt
  have k19 := Box.cell HF.out.2 19 rfl
  have k12 := Box.cell HF.out.2 12 rfl
  have j0 := Box.cell HS.out.1 0 rfl
  have fz := fun i => Box.frozen HF.out.2 i
  have hlt := HF.out.2.lt
  have k10 := Box.cell HF.out.2 10 rfl
  rw [HL.out] at k10
  clear HL
  go_upto_region 1 with fail
  go_quiet (fail)
  go_upto_region 3 with fail
  go_quiet (fail)
  go_wp2_with fail
  go_end0
  refine ⟨rfl, ?hs, ?hx⟩
  case hs => repeat (first | with_reducible exact HF.out.1 | with_reducible refine Chg.set ?_ _ _ | with_reducible refine Chg.drewN ?_ _ | with_reducible refine Chg.drew ?_)
  case hx =>
    apply box_to
    · repeat (first | with_reducible exact HF.out.2 | with_reducible apply Box.set | with_reducible apply Box.drewN | with_reducible apply Box.drew)
    · rfl

set_option maxRecDepth 100000 in
set_option maxHeartbeats 4000000 in
theorem cyc_3y (c : Cc) (s : Sm) (g : Nat) (w : World) (q : Int) (HL : Hid (c.md = 3)) (wr : IntKind.i64.wrap (c.pa + c.mr) = c.pa + c.mr) (o1 : decide (c.pa + c.mr < s.nw) = true) (p1 : IntKind.i64.wrap (c.ph + 1) = c.ph + 1) (p2 : (c.ph + 1).tmod 8 = q) (p3 : IntKind.i64.wrap q = q) (hb : Box w g 48 (ccL c)) : Calls Tryd.prog 30 #[.pointer (some ⟨g, 0, none⟩), agv (smL s)] w fun e w' => e = .returned (.tuple #[]) ∧ Chg w g w' ∧ Box w' g 48 (ccL { c with ph := q, pa := s.nw }) := by
  have HF : Hid (Chg w g w ∧ Box w g 48 (ccL c)) := ⟨Chg.refl w g, hb⟩
  clear hb
  go_enter Tryd.func30, Tryd.ntmps30
  go_wp2_with (first | (refine wpS_box rfl rfl rfl ?_))
  intro X1 p HN
  have HG : Hid (Chg w g X1 ∧ Box X1 g 48 (ccL c)) := ⟨HF.out.1.later HF.out.2.lt HN.out.2.1, HF.out.2.later HN.out.2.1⟩
  have HS : Hid (Box X1 p 28 (smL s) ∧ g < p ∧ w.heap.size ≤ p) := ⟨HN.out.2.2, by have := HF.out.2.lt; rw [HN.out.1]; exact this, by rw [HN.out.1]; exact HF.out.1.size⟩
  clear HF HN
  have HF := HG
  clear HG
  have hne : p ≠ g := by have := HS.out.2.1; omega
  have hlp := HS.out.1.lt
  have k19 := Box.cell HF.out.2 19 rfl
  have k12 := Box.cell HF.out.2 12 rfl
  have k18 := Box.cell HF.out.2 18 rfl
  have j0 := Box.cell HS.out.1 0 rfl
  have fz := fun i => Box.frozen HF.out.2 i
  have hlt := HF.out.2.lt
  have k10 := Box.cell HF.out.2 10 rfl
  rw [HL.out] at k10
  clear HL
  go_upto_region 1 with fail
  go_quiet (fail)
  go_upto_region 3 with fail
  go_quiet (fail)
  go_upto_region 4 with fail
  go_region
  go_wp2_with fail
  go_end0
  refine ⟨rfl, ?hs, ?hx⟩
  case hs => repeat (first | with_reducible exact HF.out.1 | with_reducible refine Chg.set ?_ _ _ | with_reducible refine Chg.drewN ?_ _ | with_reducible refine Chg.drew ?_)
  case hx =>
    apply box_to
    · repeat (first | with_reducible exact HF.out.2 | with_reducible apply Box.set | with_reducible apply Box.drewN | with_reducible apply Box.drew)
    · rfl

theorem cyc_is (c : Cc) (s : Sm) (g : Nat) (P : Int) (hm : 1 ≤ c.md ∧ c.md ≤ 4) (hp : 0 ≤ c.ph ∧ c.ph < 8) (ha : 0 ≤ c.pa ∧ c.pa ≤ 1125899906842624) (hr : 0 ≤ c.mr ∧ c.mr ≤ 1125899906842624) (w : World) (c1 : ∀ W, Chg w g W → Calls Tryd.prog 52 #[ccv c] W fun e w' => e = .returned (.int .i64 P) ∧ Below W.heap.size W w') (hb : Box w g 48 (ccL c)) : Calls Tryd.prog 30 #[.pointer (some ⟨g, 0, none⟩), agv (smL s)] w fun e w' => e = .returned (.tuple #[]) ∧ Chg w g w' ∧ Box w' g 48 (ccL (cycE c s P)) := by
  have wr : IntKind.i64.wrap (c.pa + c.mr) = c.pa + c.mr := by rw [IntKind.wrap_i64]; omega
  unfold cycE
  by_cases h2 : c.md = 2
  · by_cases hf : s.fl ≤ P
    · rw [if_pos ⟨h2, hf⟩]; exact cyc_2t c s g w P h2 (decide_eq_true hf) c1 (fun W hW => cru_is c g W s.nw hW) hb
    · rw [if_neg (by omega), if_neg (by omega)]; exact cyc_2f c s g w P h2 (decide_eq_false hf) c1 hb
  · rw [if_neg (by omega)]
    by_cases h3 : c.md = 3
    · by_cases hn : c.pa + c.mr < s.nw
      · rw [if_pos ⟨h3, hn⟩]
        exact cyc_3y c s g w _ h3 wr (decide_eq_true hn) (by rw [IntKind.wrap_i64]; omega) (Int.tmod_eq_emod_of_nonneg (by omega)) (by rw [IntKind.wrap_i64]; omega) hb
      · rw [if_neg (by omega)]; exact cyc_3n c s g w h3 wr (decide_eq_false hn) hb
    · rw [if_neg (by omega)]
      by_cases h1 : c.md = 1
      · exact cyc_1 c s g w h1 hb
      · exact cyc_4 c s g w (by show c.md = 4; omega) hb
end Go.Proofs.YtagmighcofllhaaDoor

/- The contract of probeRtt. -/
namespace Go.Proofs.YtagmighcofllhaaDoor
open Go.ChangeShapes Go.WideShapes Go.ChangeAt Go.RowKit
set_option linter.unusedVariables false
set_option linter.unusedSimpArgs false

open Fil

set_option maxRecDepth 100000 in
set_option maxHeartbeats 4000000 in
theorem prb_ny (c : Cc) (s : Sm) (g : Nat) (w : World) (n1 : (c.md != 4) = true) (n2 : ¬ c.md = 4) (hb : Box w g 48 (ccL c)) : Calls Tryd.prog 31 #[.pointer (some ⟨g, 0, none⟩), agv (smL s), .bool true] w fun e w' => e = .returned (.tuple #[]) ∧ Chg w g w' ∧ Box w' g 48 (ccL { c with md := 4, pr := c.cw, da := 0 }) := by
  have HF : Hid (Chg w g w ∧ Box w g 48 (ccL c)) := ⟨Chg.refl w g, hb⟩
  clear hb
  go_enter Tryd.func31, Tryd.ntmps31
  go_wp2_with (first | (refine wpS_box rfl rfl rfl ?_))
  intro X1 p HN
  have HG : Hid (Chg w g X1 ∧ Box X1 g 48 (ccL c)) := ⟨HF.out.1.later HF.out.2.lt HN.out.2.1, HF.out.2.later HN.out.2.1⟩
  have HS : Hid (Box X1 p 28 (smL s) ∧ g < p ∧ w.heap.size ≤ p) := ⟨HN.out.2.2, by have := HF.out.2.lt; rw [HN.out.1]; exact this, by rw [HN.out.1]; exact HF.out.1.size⟩
  clear HF HN
  have HF := HG
  clear HG
  have hne : p ≠ g := by have := HS.out.2.1; omega
  have hlp := HS.out.1.lt
  have k10 := Box.cell HF.out.2 10 rfl
  have k2 := Box.cell HF.out.2 2 rfl
  have k21 := Box.cell HF.out.2 21 rfl
  have k20 := Box.cell HF.out.2 20 rfl
  have fz := fun i => Box.frozen HF.out.2 i
  have hlt := HF.out.2.lt
  go_wp2_with fail
  go_end0
  refine ⟨rfl, ?hs, ?hx⟩
  case hs => repeat (first | with_reducible exact HF.out.1 | with_reducible refine Chg.set ?_ _ _ | with_reducible refine Chg.drewN ?_ _ | with_reducible refine Chg.drew ?_)
  case hx =>
    apply box_to
    · repeat (first | with_reducible exact HF.out.2 | with_reducible apply Box.set | with_reducible apply Box.drewN | with_reducible apply Box.drew)
    · rfl

set_option maxRecDepth 100000 in
set_option maxHeartbeats 4000000 in
theorem prb_nn (c : Cc) (s : Sm) (g : Nat) (w : World) (n1 : (c.md != 4) = true) (n2 : ¬ c.md = 4) (hb : Box w g 48 (ccL c)) : Calls Tryd.prog 31 #[.pointer (some ⟨g, 0, none⟩), agv (smL s), .bool false] w fun e w' => e = .returned (.tuple #[]) ∧ Chg w g w' ∧ Box w' g 48 (ccL c) := by
  have HF : Hid (Chg w g w ∧ Box w g 48 (ccL c)) := ⟨Chg.refl w g, hb⟩
  clear hb
  go_enter Tryd.func31, Tryd.ntmps31
  go_wp2_with (first | (refine wpS_box rfl rfl rfl ?_))
  intro X1 p HN
  have HG : Hid (Chg w g X1 ∧ Box X1 g 48 (ccL c)) := ⟨HF.out.1.later HF.out.2.lt HN.out.2.1, HF.out.2.later HN.out.2.1⟩
  have HS : Hid (Box X1 p 28 (smL s) ∧ g < p ∧ w.heap.size ≤ p) := ⟨HN.out.2.2, by have := HF.out.2.lt; rw [HN.out.1]; exact this, by rw [HN.out.1]; exact HF.out.1.size⟩
  clear HF HN
  have HF := HG
  clear HG
  have hne : p ≠ g := by have := HS.out.2.1; omega
  have hlp := HS.out.1.lt
  have k10 := Box.cell HF.out.2 10 rfl
  have fz := fun i => Box.frozen HF.out.2 i
  have hlt := HF.out.2.lt
  go_wp2_with fail
  go_end0
  refine ⟨rfl, ?hs, ?hx⟩
  case hs => repeat (first | with_reducible exact HF.out.1 | with_reducible refine Chg.set ?_ _ _ | with_reducible refine Chg.drewN ?_ _ | with_reducible refine Chg.drew ?_)
  case hx =>
    apply box_to
    · repeat (first | with_reducible exact HF.out.2 | with_reducible apply Box.set | with_reducible apply Box.drewN | with_reducible apply Box.drew)
    · rfl

set_option maxRecDepth 100000 in
set_option maxHeartbeats 4000000 in
theorem prb_0n (c : Cc) (s : Sm) (g : Nat) (w : World) (old : Bool) (HL : Hid (c.md = 4)) (HD : Hid (c.da = 0)) (m4 : IntKind.i64.wrap (4 * c.ms) = 4 * c.ms) (o1 : decide (s.fl ≤ 4 * c.ms) = false) (hb : Box w g 48 (ccL c)) : Calls Tryd.prog 31 #[.pointer (some ⟨g, 0, none⟩), agv (smL s), .bool old] w fun e w' => e = .returned (.tuple #[]) ∧ Chg w g w' ∧ Box w' g 48 (ccL c) := by
  have HF : Hid (Chg w g w ∧ Box w g 48 (ccL c)) := ⟨Chg.refl w g, hb⟩
  clear hb
  go_enter Tryd.func31, Tryd.ntmps31
  go_wp2_with (first | (refine wpS_box rfl rfl rfl ?_))
  intro X1 p HN
  have HG : Hid (Chg w g X1 ∧ Box X1 g 48 (ccL c)) := ⟨HF.out.1.later HF.out.2.lt HN.out.2.1, HF.out.2.later HN.out.2.1⟩
  have HS : Hid (Box X1 p 28 (smL s) ∧ g < p ∧ w.heap.size ≤ p) := ⟨HN.out.2.2, by have := HF.out.2.lt; rw [HN.out.1]; exact this, by rw [HN.out.1]; exact HF.out.1.size⟩
  clear HF HN
  have HF := HG
  clear HG
  have hne : p ≠ g := by have := HS.out.2.1; omega
  have hlp := HS.out.1.lt
  have k1 := Box.cell HF.out.2 1 rfl
  have j7 := Box.cell HS.out.1 7 rfl
  have fz := fun i => Box.frozen HF.out.2 i
  have hlt := HF.out.2.lt
  have k10 := Box.cell HF.out.2 10 rfl
  rw [HL.out] at k10
  have k20 := Box.cell HF.out.2 20 rfl
  rw [HD.out] at k20
  clear HL HD
  go_upto_region 5 with fail
  go_quiet (fail)
  go_wp2_with fail
  go_end0
  refine ⟨rfl, ?hs, ?hx⟩
  case hs => repeat (first | with_reducible exact HF.out.1 | with_reducible refine Chg.set ?_ _ _ | with_reducible refine Chg.drewN ?_ _ | with_reducible refine Chg.drew ?_)
  case hx =>
    apply box_to
    · repeat (first | with_reducible exact HF.out.2 | with_reducible apply Box.set | with_reducible apply Box.drewN | with_reducible apply Box.drew)
    · rfl

set_option maxRecDepth 100000 in
set_option maxHeartbeats 4000000 in
theorem prb_0y (c : Cc) (s : Sm) (g : Nat) (w : World) (z : Int) (old : Bool) (HL : Hid (c.md = 4)) (HD : Hid (c.da = 0)) (m4 : IntKind.i64.wrap (4 * c.ms) = 4 * c.ms) (o1 : decide (s.fl ≤ 4 * c.ms) = true) (w2 : IntKind.i64.wrap (s.nw + 200000) = s.nw + 200000) (c1 : ∀ W, Calls Tryd.prog 58 #[.int .i64 (s.nw + 200000)] W fun e w' => e = .returned (.int .i64 z) ∧ w' = W) (hb : Box w g 48 (ccL c)) : Calls Tryd.prog 31 #[.pointer (some ⟨g, 0, none⟩), agv (smL s), .bool old] w fun e w' => e = .returned (.tuple #[]) ∧ Chg w g w' ∧ Box w' g 48 (ccL { c with da := z }) := by
  have HF : Hid (Chg w g w ∧ Box w g 48 (ccL c)) := ⟨Chg.refl w g, hb⟩
  clear hb
  go_enter Tryd.func31, Tryd.ntmps31
  go_wp2_with (first | (refine wpS_box rfl rfl rfl ?_))
  intro X1 p HN
  have HG : Hid (Chg w g X1 ∧ Box X1 g 48 (ccL c)) := ⟨HF.out.1.later HF.out.2.lt HN.out.2.1, HF.out.2.later HN.out.2.1⟩
  have HS : Hid (Box X1 p 28 (smL s) ∧ g < p ∧ w.heap.size ≤ p) := ⟨HN.out.2.2, by have := HF.out.2.lt; rw [HN.out.1]; exact this, by rw [HN.out.1]; exact HF.out.1.size⟩
  clear HF HN
  have HF := HG
  clear HG
  have hne : p ≠ g := by have := HS.out.2.1; omega
  have hlp := HS.out.1.lt
  have k1 := Box.cell HF.out.2 1 rfl
  have j7 := Box.cell HS.out.1 7 rfl
  have j0 := Box.cell HS.out.1 0 rfl
  have fz := fun i => Box.frozen HF.out.2 i
  have hlt := HF.out.2.lt
  have k10 := Box.cell HF.out.2 10 rfl
  rw [HL.out] at k10
  have k20 := Box.cell HF.out.2 20 rfl
  rw [HD.out] at k20
  clear HL HD
  go_upto_region 5 with fail
  go_quiet (fail)
  go_wp2_with fail
  refine (c1 _).mono ?_
  rintro e w' ⟨rfl, hq⟩
  obtain rfl := hq.symm
  clear hq
  go_wp2_with fail
  go_end0
  refine ⟨rfl, ?hs, ?hx⟩
  case hs => repeat (first | with_reducible exact HF.out.1 | with_reducible refine Chg.set ?_ _ _ | with_reducible refine Chg.drewN ?_ _ | with_reducible refine Chg.drew ?_)
  case hx =>
    apply box_to
    · repeat (first | with_reducible exact HF.out.2 | with_reducible apply Box.set | with_reducible apply Box.drewN | with_reducible apply Box.drew)
    · rfl

set_option maxRecDepth 100000 in
set_option maxHeartbeats 4000000 in
theorem prb_1n (c : Cc) (s : Sm) (g : Nat) (w : World) (old : Bool) (HL : Hid (c.md = 4)) (d0 : (c.da == 0) = false) (o1 : decide (c.da ≤ s.nw) = false) (hb : Box w g 48 (ccL c)) : Calls Tryd.prog 31 #[.pointer (some ⟨g, 0, none⟩), agv (smL s), .bool old] w fun e w' => e = .returned (.tuple #[]) ∧ Chg w g w' ∧ Box w' g 48 (ccL c) := by
  have HF : Hid (Chg w g w ∧ Box w g 48 (ccL c)) := ⟨Chg.refl w g, hb⟩
  clear hb
  go_enter Tryd.func31, Tryd.ntmps31
  go_wp2_with (first | (refine wpS_box rfl rfl rfl ?_))
  intro X1 p HN
  have HG : Hid (Chg w g X1 ∧ Box X1 g 48 (ccL c)) := ⟨HF.out.1.later HF.out.2.lt HN.out.2.1, HF.out.2.later HN.out.2.1⟩
  have HS : Hid (Box X1 p 28 (smL s) ∧ g < p ∧ w.heap.size ≤ p) := ⟨HN.out.2.2, by have := HF.out.2.lt; rw [HN.out.1]; exact this, by rw [HN.out.1]; exact HF.out.1.size⟩
  clear HF HN
  have HF := HG
  clear HG
  have hne : p ≠ g := by have := HS.out.2.1; omega
  have hlp := HS.out.1.lt
  have k20 := Box.cell HF.out.2 20 rfl
  have j0 := Box.cell HS.out.1 0 rfl
  have fz := fun i => Box.frozen HF.out.2 i
  have hlt := HF.out.2.lt
  have k10 := Box.cell HF.out.2 10 rfl
  rw [HL.out] at k10
  clear HL
  go_upto_region 7 with fail
  go_quiet (fail)
  go_wp2_with fail
  go_end0
  refine ⟨rfl, ?hs, ?hx⟩
  case hs => repeat (first | with_reducible exact HF.out.1 | with_reducible refine Chg.set ?_ _ _ | with_reducible refine Chg.drewN ?_ _ | with_reducible refine Chg.drew ?_)
  case hx =>
    apply box_to
    · repeat (first | with_reducible exact HF.out.2 | with_reducible apply Box.set | with_reducible apply Box.drewN | with_reducible apply Box.drew)
    · rfl

set_option maxRecDepth 100000 in
set_option maxHeartbeats 4000000 in
theorem prb_1y (c : Cc) (s : Sm) (g : Nat) (w : World) (old : Bool) (HL : Hid (c.md = 4)) (d0 : (c.da == 0) = false) (o1 : decide (c.da ≤ s.nw) = true) (kp : ∀ W, Box W g 48 (ccL c) → Calls Tryd.prog 61 #[.pointer (some ⟨g, 0, none⟩), .int .i64 s.nw] W fun e w' => e = .returned (.tuple #[]) ∧ Chg W g w' ∧ Box w' g 48 (ccL (levE c s.nw))) (hb : Box w g 48 (ccL c)) : Calls Tryd.prog 31 #[.pointer (some ⟨g, 0, none⟩), agv (smL s), .bool old] w fun e w' => e = .returned (.tuple #[]) ∧ Chg w g w' ∧ Box w' g 48 (ccL (levE c s.nw)) := by
  have HF : Hid (Chg w g w ∧ Box w g 48 (ccL c)) := ⟨Chg.refl w g, hb⟩
  clear hb
  go_enter Tryd.func31, Tryd.ntmps31
  go_wp2_with (first | (refine wpS_box rfl rfl rfl ?_))
  intro X1 p HN
  have HG : Hid (Chg w g X1 ∧ Box X1 g 48 (ccL c)) := ⟨HF.out.1.later HF.out.2.lt HN.out.2.1, HF.out.2.later HN.out.2.1⟩
  have HS : Hid (Box X1 p 28 (smL s) ∧ g < p ∧ w.heap.size ≤ p) := ⟨HN.out.2.2, by have := HF.out.2.lt; rw [HN.out.1]; exact this, by rw [HN.out.1]; exact HF.out.1.size⟩
  clear HF HN
  have HF := HG
  clear HG
  have hne : p ≠ g := by have := HS.out.2.1; omega
  have hlp := HS.out.1.lt
  have k20 := Box.cell HF.out.2 20 rfl
  have j0 := Box.cell HS.out.1 0 rfl
  have fz := fun i => Box.frozen HF.out.2 i
  have hlt := HF.out.2.lt
  have k10 := Box.cell HF.out.2 10 rfl
  rw [HL.out] at k10
  clear HL
  go_upto_region 7 with fail
  go_quiet (fail)
  go_wp2_with fail
  refine (kp _ (HF.out.2.drewN _)).mono ?_
  rintro e w2 ⟨rfl, hS, hB⟩
  have HG : Hid (Chg w g w2 ∧ Box w2 g 48 (ccL (levE c s.nw))) := ⟨(HF.out.1.drewN _).trans hS, hB⟩
  clear HF hS hB k10 k20 j0 fz hlt kp
  have HF := HG
  clear HG
  go_wp2_with fail
  go_end0
  refine ⟨rfl, ?hs, ?hx⟩
  case hs => repeat (first | with_reducible exact HF.out.1 | with_reducible refine Chg.set ?_ _ _ | with_reducible refine Chg.drewN ?_ _ | with_reducible refine Chg.drew ?_)
  case hx =>
    apply box_to
    · repeat (first | with_reducible exact HF.out.2 | with_reducible apply Box.set | with_reducible apply Box.drewN | with_reducible apply Box.drew)
    · rfl

theorem prb_is (c : Cc) (s : Sm) (old : Bool) (g : Nat) (hm : 1 ≤ c.ms ∧ c.ms ≤ 65000) (hn : 0 ≤ s.nw ∧ s.nw ≤ 1125899906842624) (w : World) (hb : Box w g 48 (ccL c)) : Calls Tryd.prog 31 #[.pointer (some ⟨g, 0, none⟩), agv (smL s), .bool old] w fun e w' => e = .returned (.tuple #[]) ∧ Chg w g w' ∧ Box w' g 48 (ccL (prbE c s old)) := by
  have m4 : IntKind.i64.wrap (4 * c.ms) = 4 * c.ms := by rw [IntKind.wrap_i64]; omega
  unfold prbE
  by_cases h4 : c.md = 4
  · rw [if_pos h4]
    by_cases h0 : c.da = 0
    · rw [if_pos h0]
      by_cases hf : s.fl ≤ 4 * c.ms
      · rw [if_pos hf]; exact prb_0y c s g w _ old h4 h0 m4 (decide_eq_true hf) (by rw [IntKind.wrap_i64]; omega) (fun W => held_is _ _ rfl W) hb
      · rw [if_neg hf]; exact prb_0n c s g w old h4 h0 m4 (decide_eq_false hf) hb
    · rw [if_neg h0]
      by_cases hd : c.da ≤ s.nw
      · rw [if_pos hd]; exact prb_1y c s g w old h4 (by simpa using h0) (decide_eq_true hd) (fun W hW => lev_is c g s.nw W hW) hb
      · rw [if_neg hd]; exact prb_1n c s g w old h4 (by simpa using h0) (decide_eq_false hd) hb
  · rw [if_neg h4]
    cases old with
    | true => rw [if_pos rfl]; exact prb_ny c s g w (by simpa using h4) h4 hb
    | false => rw [if_neg (by simp)]; exact prb_nn c s g w (by simpa using h4) h4 hb
end Go.Proofs.YtagmighcofllhaaDoor
