/- Texts: EChk4, ECheck, ELate, EPut -/
import Derived.Test.YtagmighcofllhaaDoorGE
namespace Go.Proofs.YtagmighcofllhaaDoor.Fil
open Go.ChangeShapes Go.WideShapes Go.ChangeAt Go.RowKit Go.Shelf
set_option linter.unusedVariables false
set_option linter.unusedSimpArgs false

theorem enter76 (args : Array Value) (w : World) : (callFunc 76 args).run Tryd.prog w = .ok (.enter 76 args) w := by kernel_rfl
theorem enter81 (args : Array Value) (w : World) : (callFunc 81 args).run Tryd.prog w = .ok (.enter 81 args) w := by kernel_rfl
theorem isEntry_below (x : Tm) (w : World) (b : Bool) (hb : entB x = b) : Calls Tryd.prog 76 #[.agg #[.int .i64 x.1, .int .i64 x.2]] w fun e w' => e = .returned (.bool b) ∧ Below w.heap.size w w' := by
  subst hb
  refine (isEntry_walk x w).mono ?_
  rintro e w' ⟨rfl, rfl⟩
  exact ⟨rfl, (Below.refl _ w).alloc (Nat.le_refl _) _⟩
theorem mayFollow_is (x y : Tm) (m : Bool) (w : World) (b : Bool) (hb : folB x y m = b) : Calls Tryd.prog 81 #[.agg #[.int .i64 x.1, .int .i64 x.2], .agg #[.int .i64 y.1, .int .i64 y.2], .bool m] w fun e w' => e = .returned (.bool b) ∧ Below w.heap.size w w' := by
  subst hb
  exact mayFollow_walk x y m w
def chk4O0 (ps : String) : Oper := { dst := some 14, op := .load 61 (.tmp 6), type := 61, pos := ps, after := #[], guard := none }
def chk4O1 (ps : String) : Oper := { dst := some 15, op := .call { callee := .value (.func 76), args := #[.tmp 14], argTypes := #[61] }, type := 4, pos := ps, after := #[{ on := 0, ground := .data }], guard := none }
def chk4O2 (ps : String) : Oper := { dst := some 16, op := .unOp .not 4 (.tmp 15), type := 4, pos := ps, after := #[{ on := 1, ground := .data }], guard := none }
def chk4O3 (ps : String) : Oper := { dst := some 17, op := .move (.tmp 16), type := 4, pos := ps, after := #[{ on := 2, ground := .data }, { on := 1, ground := .chain }], guard := none }
def chk4O4 (ps : String) : Oper := { dst := some 18, op := .move (.tmp 5), type := 3, pos := ps, after := #[{ on := 3, ground := .guard }], guard := some (3, false) }
def chk4O5 (ps : String) : Oper := { dst := some 19, op := .binOp .gtr 3 (.tmp 18) (.const (.int .i64 0)) 3, type := 4, pos := ps, after := #[{ on := 4, ground := .data }, { on := 3, ground := .guard }], guard := some (3, false) }
def chk4O6 (ps : String) : Oper := { dst := some 20, op := .move (.tmp 19), type := 4, pos := ps, after := #[{ on := 5, ground := .data }, { on := 3, ground := .chain }, { on := 3, ground := .guard }], guard := some (3, false) }
def chk4O7 (ps : String) : Oper := { dst := some 21, op := .move (.tmp 0), type := 24, pos := ps, after := #[{ on := 6, ground := .guard }], guard := some (6, true) }
def chk4O8 (ps : String) : Oper := { dst := some 22, op := .move (.tmp 5), type := 3, pos := ps, after := #[{ on := 6, ground := .guard }], guard := some (6, true) }
def chk4O9 (ps : String) : Oper := { dst := some 23, op := .binOp .sub 3 (.tmp 22) (.const (.int .i64 1)) 3, type := 3, pos := ps, after := #[{ on := 8, ground := .data }, { on := 6, ground := .guard }], guard := some (6, true) }
def chk4O10 (ps : String) : Oper := { dst := some 24, op := .indexAddr 24 (.tmp 21) (.tmp 23), type := 0, pos := ps, after := #[{ on := 7, ground := .data }, { on := 9, ground := .data }, { on := 6, ground := .guard }], guard := some (6, true) }
def chk4O11 (ps : String) : Oper := { dst := some 25, op := .load 61 (.tmp 24), type := 61, pos := ps, after := #[{ on := 10, ground := .data }, { on := 6, ground := .guard }], guard := some (6, true) }
def chk4O12 (ps : String) : Oper := { dst := some 26, op := .load 61 (.tmp 6), type := 61, pos := ps, after := #[{ on := 6, ground := .guard }], guard := some (6, true) }
def chk4O13 (ps : String) : Oper := { dst := some 27, op := .move (.tmp 1), type := 4, pos := ps, after := #[{ on := 6, ground := .guard }], guard := some (6, true) }
def chk4O14 (ps : String) : Oper := { dst := some 28, op := .call { callee := .value (.func 81), args := #[.tmp 25, .tmp 26, .tmp 27], argTypes := #[61, 61, 4] }, type := 4, pos := ps, after := #[{ on := 11, ground := .data }, { on := 12, ground := .data }, { on := 13, ground := .data }, { on := 6, ground := .chain }, { on := 6, ground := .guard }], guard := some (6, true) }
def chk4O15 (ps : String) : Oper := { dst := some 29, op := .unOp .not 4 (.tmp 28), type := 4, pos := ps, after := #[{ on := 14, ground := .data }, { on := 6, ground := .guard }], guard := some (6, true) }
def chk4O16 (ps : String) : Oper := { dst := some 30, op := .pick (.tmp 20) (.tmp 29) (.const (.bool false)), type := 4, pos := ps, after := #[{ on := 6, ground := .data }, { on := 15, ground := .data }, { on := 3, ground := .guard }], guard := some (3, false) }
def chk4O17 (ps : String) : Oper := { dst := some 31, op := .pick (.tmp 17) (.const (.bool true)) (.tmp 30), type := 4, pos := ps, after := #[{ on := 3, ground := .data }, { on := 16, ground := .data }], guard := none }
def chk4 (ps : String) : Array Oper := #[chk4O0 ps, chk4O1 ps, chk4O2 ps, chk4O3 ps, chk4O4 ps, chk4O5 ps, chk4O6 ps, chk4O7 ps, chk4O8 ps, chk4O9 ps, chk4O10 ps, chk4O11 ps, chk4O12 ps, chk4O13 ps, chk4O14 ps, chk4O15 ps, chk4O16 ps, chk4O17 ps]
theorem chk4_0 (ps : String) : (chk4 ps)[0]? = some (chk4O0 ps) := rfl
theorem chk4_1 (ps : String) : (chk4 ps)[1]? = some (chk4O1 ps) := rfl
theorem chk4_2 (ps : String) : (chk4 ps)[2]? = some (chk4O2 ps) := rfl
theorem chk4_3 (ps : String) : (chk4 ps)[3]? = some (chk4O3 ps) := rfl
theorem chk4_4 (ps : String) : (chk4 ps)[4]? = some (chk4O4 ps) := rfl
theorem chk4_5 (ps : String) : (chk4 ps)[5]? = some (chk4O5 ps) := rfl
theorem chk4_6 (ps : String) : (chk4 ps)[6]? = some (chk4O6 ps) := rfl
theorem chk4_7 (ps : String) : (chk4 ps)[7]? = some (chk4O7 ps) := rfl
theorem chk4_8 (ps : String) : (chk4 ps)[8]? = some (chk4O8 ps) := rfl
theorem chk4_9 (ps : String) : (chk4 ps)[9]? = some (chk4O9 ps) := rfl
theorem chk4_10 (ps : String) : (chk4 ps)[10]? = some (chk4O10 ps) := rfl
theorem chk4_11 (ps : String) : (chk4 ps)[11]? = some (chk4O11 ps) := rfl
theorem chk4_12 (ps : String) : (chk4 ps)[12]? = some (chk4O12 ps) := rfl
theorem chk4_13 (ps : String) : (chk4 ps)[13]? = some (chk4O13 ps) := rfl
theorem chk4_14 (ps : String) : (chk4 ps)[14]? = some (chk4O14 ps) := rfl
theorem chk4_15 (ps : String) : (chk4 ps)[15]? = some (chk4O15 ps) := rfl
theorem chk4_16 (ps : String) : (chk4 ps)[16]? = some (chk4O16 ps) := rfl
theorem chk4_17 (ps : String) : (chk4 ps)[17]? = some (chk4O17 ps) := rfl
def chk4D : Nat → Option Tmp
  | 0 => some 14
  | 1 => some 15
  | 2 => some 16
  | 3 => some 17
  | 4 => some 18
  | 5 => some 19
  | 6 => some 20
  | 7 => some 21
  | 8 => some 22
  | 9 => some 23
  | 10 => some 24
  | 11 => some 25
  | 12 => some 26
  | 13 => some 27
  | 14 => some 28
  | 15 => some 29
  | 16 => some 30
  | 17 => some 31
  | _ => none
def chk4T (g b o j n c : Nat) (i : Int) (x p : Tm) (m : Bool) (b101 b102 d2 b5 d15 d16 d17 : Bool) : Nat → Value
  | 0 => .agg #[.int .i64 x.1, .int .i64 x.2]
  | 1 => .bool b101
  | 2 => .bool d2
  | 3 => .bool d2
  | 4 => cond (!d2) (.int .i64 i) undef
  | 5 => cond (!d2) (.bool b5) undef
  | 6 => cond (!d2) (.bool b5) undef
  | 7 => cond (!d2 && b5) (.slice (some ⟨b, o, none⟩) n c) undef
  | 8 => cond (!d2 && b5) (.int .i64 i) undef
  | 9 => cond (!d2 && b5) (.int .i64 (j : Int)) undef
  | 10 => cond (!d2 && b5) (.pointer (some ⟨b, o + j * 2, none⟩)) undef
  | 11 => cond (!d2 && b5) (.agg #[.int .i64 p.1, .int .i64 p.2]) undef
  | 12 => cond (!d2 && b5) (.agg #[.int .i64 x.1, .int .i64 x.2]) undef
  | 13 => cond (!d2 && b5) (.bool m) undef
  | 14 => cond (!d2 && b5) (.bool b102) undef
  | 15 => cond (!d2 && b5) (.bool d15) undef
  | 16 => cond (!d2) (.bool d16) undef
  | 17 => .bool d17
  | _ => undef
set_option maxRecDepth 100000 in
set_option maxHeartbeats 4000000 in
theorem chk4_reg {ps : String} {Q : Exit → Act → World → Prop} {a0 : Act} {W0 : World} (sz : a0.tmps.size = 33) (g b o j n c : Nat) (i : Int) (x p : Tm) (m : Bool)
    (e0 : a0.eval (.tmp 0) = .slice (some ⟨b, o, none⟩) n c) (e1 : a0.eval (.tmp 1) = .bool m) (e5 : a0.eval (.tmp 5) = .int .i64 i) (e6 : a0.eval (.tmp 6) = .pointer (some ⟨g, 0, none⟩))
    {b101 b102 : Bool} (hb101 : entB x = b101) (hb102 : folB p x m = b102) (hj : decide (0 < i) = true → IntKind.i64.wrap (i - 1) = (j : Int) ∧ (j : Int) < (n : Int)) (hS : (fun w => BoxT w g x ∧ Below W0.heap.size W0 w ∧ (decide (0 < i) = true → w.cell? ⟨b, o + j * 2, none⟩ = some (.int .i64 p.1) ∧ w.cell? ⟨b, o + j * 2 + 1, none⟩ = some (.int .i64 p.2))) W0.drew)
    {d2 b5 d15 d16 d17 : Bool} (hd2 : (!b101) = d2)
    (hb5 : decide (0 < i) = b5)
    (hd15 : (!b102) = d15)
    (hd16 : (b5 && d15) = d16)
    (hd17 : (d2 || d16) = d17)
    (hfin : ∀ (T : Nat → Value) w, T 17 = .bool d17 → (fun w => BoxT w g x ∧ Below W0.heap.size W0 w ∧ (decide (0 < i) = true → w.cell? ⟨b, o + j * 2, none⟩ = some (.int .i64 p.1) ∧ w.cell? ⟨b, o + j * 2 + 1, none⟩ = some (.int .i64 p.2))) w → Q .normal ((((((((((((((((((a0.put (some 14) (T 0)).put (some 15) (T 1)).put (some 16) (T 2)).put (some 17) (T 3)).put (some 18) (T 4)).put (some 19) (T 5)).put (some 20) (T 6)).put (some 21) (T 7)).put (some 22) (T 8)).put (some 23) (T 9)).put (some 24) (T 10)).put (some 25) (T 11)).put (some 26) (T 12)).put (some 27) (T 13)).put (some 28) (T 14)).put (some 29) (T 15)).put (some 30) (T 16)).put (some 31) (T 17)) w) :
    (Code.region 4 (chk4 ps) true).wp Tryd.prog Q a0 W0 := by
  refine wp_region_det (by kernel_rfl) 18 rfl chk4D ?_ (by decide) (chk4T g b o j n c i x p m b101 b102 d2 b5 d15 d16 d17) (fun w => BoxT w g x ∧ Below W0.heap.size W0 w ∧ (decide (0 < i) = true → w.cell? ⟨b, o + j * 2, none⟩ = some (.int .i64 p.1) ∧ w.cell? ⟨b, o + j * 2 + 1, none⟩ = some (.int .i64 p.2))) hS ?_ (by rfl) (fun w hSw => hfin (chk4T g b o j n c i x p m b101 b102 d2 b5 d15 d16 d17) w rfl hSw)
  · intro jq t hj ht
    have : ∀ j, j < 18 → (chk4D j).all (· < 33) = true := by decide
    have := this jq hj
    rw [ht] at this
    rw [sz]
    simpa using this
  · intro iq o ho a w hSw hs hel K hK
    have hin : iq < 18 := (Array.getElem?_eq_some_iff.1 ho).1
    match iq, hin, ho with
    | 0, _, ho =>
    obtain rfl := Option.some.inj (ho.symm.trans (chk4_0 ps))
    have u6 : a.eval (.tmp 6) = .pointer (some ⟨g, 0, none⟩) := (hel 6 (by decide)).trans e6
    have hcl := And.intro hSw.1.cell0 hSw.1.cell1
    skip
    exact op_valW (chk4_0 ps) rfl (by unfold chk4O0 execOp; simp only [u6, chk4T, cond_true, cond_false, Bool.not_true, Bool.not_false, Bool.and_true, Bool.true_and, Bool.and_false, Bool.false_and]; first | (go_simp; done) | (go_simp; with_reducible rfl)) (hK w hSw)
    | 1, _, ho =>
    obtain rfl := Option.some.inj (ho.symm.trans (chk4_1 ps))
    have s0 := hs 0 14 (by rfl) rfl
    (try simp only [chk4T, cond_true, cond_false, Bool.not_true, Bool.not_false, Bool.and_true, Bool.true_and, Bool.and_false, Bool.false_and] at s0)
    exact op_enterW (chk4_1 ps) rfl (f := 76) (args := #[.agg #[.int .i64 x.1, .int .i64 x.2]]) (by rw [run_call rfl enter76]; simp only [List.map_toArray, List.map_cons, List.map_nil, s0]; try rfl) ((isEntry_below x w b101 hb101).mono (fun e w' hh => ⟨_, hh.1, hK w' ⟨hSw.1.below hh.2 hSw.1.lt, Below.on hSw.2.1 hh.2, fun q => ⟨(hh.2.cell (p := ⟨b, o + j * 2, none⟩) (lt_of_cell (hSw.2.2 q).1)).trans (hSw.2.2 q).1, (hh.2.cell (p := ⟨b, o + j * 2 + 1, none⟩) (lt_of_cell (hSw.2.2 q).2)).trans (hSw.2.2 q).2⟩⟩⟩))
    | 2, _, ho =>
    obtain rfl := Option.some.inj (ho.symm.trans (chk4_2 ps))
    have s1 := hs 1 15 (by rfl) rfl
    (try simp only [chk4T, cond_true, cond_false, Bool.not_true, Bool.not_false, Bool.and_true, Bool.true_and, Bool.and_false, Bool.false_and] at s1)
    subst hd2
    exact op_valW (chk4_2 ps) rfl (by unfold chk4O2 execOp; simp only [s1, chk4T, cond_true, cond_false, Bool.not_true, Bool.not_false, Bool.and_true, Bool.true_and, Bool.and_false, Bool.false_and]; first | (go_simp; done) | (go_simp; with_reducible rfl)) (hK w hSw)
    | 3, _, ho =>
    obtain rfl := Option.some.inj (ho.symm.trans (chk4_3 ps))
    have s2 := hs 2 16 (by rfl) rfl
    (try simp only [chk4T, cond_true, cond_false, Bool.not_true, Bool.not_false, Bool.and_true, Bool.true_and, Bool.and_false, Bool.false_and] at s2)
    exact op_valW (chk4_3 ps) rfl (by unfold chk4O3 execOp; simp only [s2, chk4T, cond_true, cond_false, Bool.not_true, Bool.not_false, Bool.and_true, Bool.true_and, Bool.and_false, Bool.false_and]; first | (go_simp; done) | (go_simp; with_reducible rfl)) (hK w hSw)
    | 4, _, ho =>
    obtain rfl := Option.some.inj (ho.symm.trans (chk4_4 ps))
    have s3 := hs 3 17 (by rfl) rfl
    have u5 : a.eval (.tmp 5) = .int .i64 i := (hel 5 (by decide)).trans e5
    cases d2
    all_goals ((try simp only [chk4T, cond_true, cond_false, Bool.not_true, Bool.not_false, Bool.and_true, Bool.true_and, Bool.and_false, Bool.false_and] at s3); first | (exact op_skip (chk4_4 ps) (by rw [wanted_of rfl (chk4_3 ps) rfl s3]; rfl) (hK w hSw)) | (exact op_valW (chk4_4 ps) (by rw [wanted_of rfl (chk4_3 ps) rfl s3]; rfl) (by unfold chk4O4 execOp; simp only [u5, chk4T, cond_true, cond_false, Bool.not_true, Bool.not_false, Bool.and_true, Bool.true_and, Bool.and_false, Bool.false_and]; first | (go_simp; done) | (go_simp; with_reducible rfl)) (hK w hSw)))
    | 5, _, ho =>
    obtain rfl := Option.some.inj (ho.symm.trans (chk4_5 ps))
    have s4 := hs 4 18 (by rfl) rfl
    have s3 := hs 3 17 (by rfl) rfl
    cases d2
    all_goals ((try simp only [chk4T, cond_true, cond_false, Bool.not_true, Bool.not_false, Bool.and_true, Bool.true_and, Bool.and_false, Bool.false_and] at s4 s3); first | (exact op_skip (chk4_5 ps) (by rw [wanted_of rfl (chk4_3 ps) rfl s3]; rfl) (hK w hSw)) | (exact op_valW (chk4_5 ps) (by rw [wanted_of rfl (chk4_3 ps) rfl s3]; rfl) (by unfold chk4O5 execOp; simp only [s4, chk4T, cond_true, cond_false, Bool.not_true, Bool.not_false, Bool.and_true, Bool.true_and, Bool.and_false, Bool.false_and]; first | (go_simp; done) | (go_simp; with_reducible rfl)) (hK w hSw)))
    | 6, _, ho =>
    obtain rfl := Option.some.inj (ho.symm.trans (chk4_6 ps))
    have s5 := hs 5 19 (by rfl) rfl
    have s3 := hs 3 17 (by rfl) rfl
    cases d2
    all_goals ((try simp only [chk4T, cond_true, cond_false, Bool.not_true, Bool.not_false, Bool.and_true, Bool.true_and, Bool.and_false, Bool.false_and] at s5 s3); first | (exact op_skip (chk4_6 ps) (by rw [wanted_of rfl (chk4_3 ps) rfl s3]; rfl) (hK w hSw)) | (exact op_valW (chk4_6 ps) (by rw [wanted_of rfl (chk4_3 ps) rfl s3]; rfl) (by unfold chk4O6 execOp; simp only [s5, chk4T, cond_true, cond_false, Bool.not_true, Bool.not_false, Bool.and_true, Bool.true_and, Bool.and_false, Bool.false_and]; first | (go_simp; done) | (go_simp; with_reducible rfl)) (hK w hSw)))
    | 7, _, ho =>
    obtain rfl := Option.some.inj (ho.symm.trans (chk4_7 ps))
    have s6 := hs 6 20 (by rfl) rfl
    have u0 : a.eval (.tmp 0) = .slice (some ⟨b, o, none⟩) n c := (hel 0 (by decide)).trans e0
    cases d2 <;> cases b5
    all_goals ((try simp only [chk4T, cond_true, cond_false, Bool.not_true, Bool.not_false, Bool.and_true, Bool.true_and, Bool.and_false, Bool.false_and] at s6); first | (exact op_skip (chk4_7 ps) (by rw [wanted_of rfl (chk4_6 ps) rfl s6]; rfl) (hK w hSw)) | (exact op_valW (chk4_7 ps) (by rw [wanted_of rfl (chk4_6 ps) rfl s6]; rfl) (by unfold chk4O7 execOp; simp only [u0, chk4T, cond_true, cond_false, Bool.not_true, Bool.not_false, Bool.and_true, Bool.true_and, Bool.and_false, Bool.false_and]; first | (go_simp; done) | (go_simp; with_reducible rfl)) (hK w hSw)))
    | 8, _, ho =>
    obtain rfl := Option.some.inj (ho.symm.trans (chk4_8 ps))
    have s6 := hs 6 20 (by rfl) rfl
    have u5 : a.eval (.tmp 5) = .int .i64 i := (hel 5 (by decide)).trans e5
    cases d2 <;> cases b5
    all_goals ((try simp only [chk4T, cond_true, cond_false, Bool.not_true, Bool.not_false, Bool.and_true, Bool.true_and, Bool.and_false, Bool.false_and] at s6); first | (exact op_skip (chk4_8 ps) (by rw [wanted_of rfl (chk4_6 ps) rfl s6]; rfl) (hK w hSw)) | (exact op_valW (chk4_8 ps) (by rw [wanted_of rfl (chk4_6 ps) rfl s6]; rfl) (by unfold chk4O8 execOp; simp only [u5, chk4T, cond_true, cond_false, Bool.not_true, Bool.not_false, Bool.and_true, Bool.true_and, Bool.and_false, Bool.false_and]; first | (go_simp; done) | (go_simp; with_reducible rfl)) (hK w hSw)))
    | 9, _, ho =>
    obtain rfl := Option.some.inj (ho.symm.trans (chk4_9 ps))
    have s8 := hs 8 22 (by rfl) rfl
    have s6 := hs 6 20 (by rfl) rfl
    cases d2 <;> cases b5
    all_goals ((try simp only [chk4T, cond_true, cond_false, Bool.not_true, Bool.not_false, Bool.and_true, Bool.true_and, Bool.and_false, Bool.false_and] at s8 s6); first | (exact op_skip (chk4_9 ps) (by rw [wanted_of rfl (chk4_6 ps) rfl s6]; rfl) (hK w hSw)) | (have hcl := (hj hb5).1; exact op_valW (chk4_9 ps) (by rw [wanted_of rfl (chk4_6 ps) rfl s6]; rfl) (by unfold chk4O9 execOp; simp only [s8, chk4T, cond_true, cond_false, Bool.not_true, Bool.not_false, Bool.and_true, Bool.true_and, Bool.and_false, Bool.false_and]; first | (go_simp; done) | (go_simp; with_reducible rfl)) (hK w hSw)))
    | 10, _, ho =>
    obtain rfl := Option.some.inj (ho.symm.trans (chk4_10 ps))
    have s7 := hs 7 21 (by rfl) rfl
    have s9 := hs 9 23 (by rfl) rfl
    have s6 := hs 6 20 (by rfl) rfl
    cases d2 <;> cases b5
    all_goals ((try simp only [chk4T, cond_true, cond_false, Bool.not_true, Bool.not_false, Bool.and_true, Bool.true_and, Bool.and_false, Bool.false_and] at s7 s9 s6); first | (exact op_skip (chk4_10 ps) (by rw [wanted_of rfl (chk4_6 ps) rfl s6]; rfl) (hK w hSw)) | (have hcl := (hj hb5).2; exact op_valW (chk4_10 ps) (by rw [wanted_of rfl (chk4_6 ps) rfl s6]; rfl) (by unfold chk4O10 execOp; simp only [s7, s9, chk4T, cond_true, cond_false, Bool.not_true, Bool.not_false, Bool.and_true, Bool.true_and, Bool.and_false, Bool.false_and]; first | (go_simp; done) | (go_simp; with_reducible rfl)) (hK w hSw)))
    | 11, _, ho =>
    obtain rfl := Option.some.inj (ho.symm.trans (chk4_11 ps))
    have s10 := hs 10 24 (by rfl) rfl
    have s6 := hs 6 20 (by rfl) rfl
    cases d2 <;> cases b5
    all_goals ((try simp only [chk4T, cond_true, cond_false, Bool.not_true, Bool.not_false, Bool.and_true, Bool.true_and, Bool.and_false, Bool.false_and] at s10 s6); first | (exact op_skip (chk4_11 ps) (by rw [wanted_of rfl (chk4_6 ps) rfl s6]; rfl) (hK w hSw)) | (have hcl := hSw.2.2 hb5; exact op_valW (chk4_11 ps) (by rw [wanted_of rfl (chk4_6 ps) rfl s6]; rfl) (by unfold chk4O11 execOp; simp only [s10, chk4T, cond_true, cond_false, Bool.not_true, Bool.not_false, Bool.and_true, Bool.true_and, Bool.and_false, Bool.false_and]; first | (go_simp; done) | (go_simp; with_reducible rfl)) (hK w hSw)))
    | 12, _, ho =>
    obtain rfl := Option.some.inj (ho.symm.trans (chk4_12 ps))
    have s6 := hs 6 20 (by rfl) rfl
    have u6 : a.eval (.tmp 6) = .pointer (some ⟨g, 0, none⟩) := (hel 6 (by decide)).trans e6
    have hcl := And.intro hSw.1.cell0 hSw.1.cell1
    cases d2 <;> cases b5
    all_goals ((try simp only [chk4T, cond_true, cond_false, Bool.not_true, Bool.not_false, Bool.and_true, Bool.true_and, Bool.and_false, Bool.false_and] at s6); first | (exact op_skip (chk4_12 ps) (by rw [wanted_of rfl (chk4_6 ps) rfl s6]; rfl) (hK w hSw)) | (exact op_valW (chk4_12 ps) (by rw [wanted_of rfl (chk4_6 ps) rfl s6]; rfl) (by unfold chk4O12 execOp; simp only [u6, chk4T, cond_true, cond_false, Bool.not_true, Bool.not_false, Bool.and_true, Bool.true_and, Bool.and_false, Bool.false_and]; first | (go_simp; done) | (go_simp; with_reducible rfl)) (hK w hSw)))
    | 13, _, ho =>
    obtain rfl := Option.some.inj (ho.symm.trans (chk4_13 ps))
    have s6 := hs 6 20 (by rfl) rfl
    have u1 : a.eval (.tmp 1) = .bool m := (hel 1 (by decide)).trans e1
    cases d2 <;> cases b5
    all_goals ((try simp only [chk4T, cond_true, cond_false, Bool.not_true, Bool.not_false, Bool.and_true, Bool.true_and, Bool.and_false, Bool.false_and] at s6); first | (exact op_skip (chk4_13 ps) (by rw [wanted_of rfl (chk4_6 ps) rfl s6]; rfl) (hK w hSw)) | (exact op_valW (chk4_13 ps) (by rw [wanted_of rfl (chk4_6 ps) rfl s6]; rfl) (by unfold chk4O13 execOp; simp only [u1, chk4T, cond_true, cond_false, Bool.not_true, Bool.not_false, Bool.and_true, Bool.true_and, Bool.and_false, Bool.false_and]; first | (go_simp; done) | (go_simp; with_reducible rfl)) (hK w hSw)))
    | 14, _, ho =>
    obtain rfl := Option.some.inj (ho.symm.trans (chk4_14 ps))
    have s11 := hs 11 25 (by rfl) rfl
    have s12 := hs 12 26 (by rfl) rfl
    have s13 := hs 13 27 (by rfl) rfl
    have s6 := hs 6 20 (by rfl) rfl
    cases d2 <;> cases b5
    all_goals ((try simp only [chk4T, cond_true, cond_false, Bool.not_true, Bool.not_false, Bool.and_true, Bool.true_and, Bool.and_false, Bool.false_and] at s11 s12 s13 s6); first | (exact op_skip (chk4_14 ps) (by rw [wanted_of rfl (chk4_6 ps) rfl s6]; rfl) (hK w hSw)) | (exact op_enterW (chk4_14 ps) (by rw [wanted_of rfl (chk4_6 ps) rfl s6]; rfl) (f := 81) (args := #[.agg #[.int .i64 p.1, .int .i64 p.2], .agg #[.int .i64 x.1, .int .i64 x.2], .bool m]) (by rw [run_call rfl enter81]; simp only [List.map_toArray, List.map_cons, List.map_nil, s11, s12, s13]; try rfl) ((mayFollow_is p x m w b102 hb102).mono (fun e w' hh => ⟨_, hh.1, hK w' ⟨hSw.1.below hh.2 hSw.1.lt, Below.on hSw.2.1 hh.2, fun q => ⟨(hh.2.cell (p := ⟨b, o + j * 2, none⟩) (lt_of_cell (hSw.2.2 q).1)).trans (hSw.2.2 q).1, (hh.2.cell (p := ⟨b, o + j * 2 + 1, none⟩) (lt_of_cell (hSw.2.2 q).2)).trans (hSw.2.2 q).2⟩⟩⟩))))
    | 15, _, ho =>
    obtain rfl := Option.some.inj (ho.symm.trans (chk4_15 ps))
    have s14 := hs 14 28 (by rfl) rfl
    have s6 := hs 6 20 (by rfl) rfl
    cases d2 <;> cases b5
    all_goals ((try simp only [chk4T, cond_true, cond_false, Bool.not_true, Bool.not_false, Bool.and_true, Bool.true_and, Bool.and_false, Bool.false_and] at s14 s6); subst hd15; first | (exact op_skip (chk4_15 ps) (by rw [wanted_of rfl (chk4_6 ps) rfl s6]; rfl) (hK w hSw)) | (exact op_valW (chk4_15 ps) (by rw [wanted_of rfl (chk4_6 ps) rfl s6]; rfl) (by unfold chk4O15 execOp; simp only [s14, chk4T, cond_true, cond_false, Bool.not_true, Bool.not_false, Bool.and_true, Bool.true_and, Bool.and_false, Bool.false_and]; first | (go_simp; done) | (go_simp; with_reducible rfl)) (hK w hSw)))
    | 16, _, ho =>
    obtain rfl := Option.some.inj (ho.symm.trans (chk4_16 ps))
    have s6 := hs 6 20 (by rfl) rfl
    have s15 := hs 15 29 (by rfl) rfl
    have s3 := hs 3 17 (by rfl) rfl
    cases d2 <;> cases b5
    all_goals ((try simp only [chk4T, cond_true, cond_false, Bool.not_true, Bool.not_false, Bool.and_true, Bool.true_and, Bool.and_false, Bool.false_and] at s6 s15 s3); (try (simp only [Bool.true_or, Bool.false_or, Bool.true_and, Bool.false_and] at hd16; subst hd16)); first | (exact op_skip (chk4_16 ps) (by rw [wanted_of rfl (chk4_3 ps) rfl s3]; rfl) (hK w hSw)) | (exact op_valW (chk4_16 ps) (by rw [wanted_of rfl (chk4_3 ps) rfl s3]; rfl) (by unfold chk4O16 execOp; simp only [s6, s15, chk4T, cond_true, cond_false, Bool.not_true, Bool.not_false, Bool.and_true, Bool.true_and, Bool.and_false, Bool.false_and]; first | (go_simp; done) | (go_simp; with_reducible rfl)) (hK w hSw)))
    | 17, _, ho =>
    obtain rfl := Option.some.inj (ho.symm.trans (chk4_17 ps))
    have s3 := hs 3 17 (by rfl) rfl
    have s16 := hs 16 30 (by rfl) rfl
    cases d2
    all_goals ((try simp only [chk4T, cond_true, cond_false, Bool.not_true, Bool.not_false, Bool.and_true, Bool.true_and, Bool.and_false, Bool.false_and] at s3 s16); (try (simp only [Bool.true_or, Bool.false_or, Bool.true_and, Bool.false_and] at hd17; subst hd17)); exact op_valW (chk4_17 ps) rfl (by unfold chk4O17 execOp; simp only [s3, s16, chk4T, cond_true, cond_false, Bool.not_true, Bool.not_false, Bool.and_true, Bool.true_and, Bool.and_false, Bool.false_and]; first | (go_simp; done) | (go_simp; with_reducible rfl)) (hK w hSw))
    | iq + 18, hin, _ => exact absurd hin (by omega)
end Go.Proofs.YtagmighcofllhaaDoor.Fil

/- The contract of Check. -/
namespace Go.Proofs.YtagmighcofllhaaDoor.Fil
open Go.ChangeShapes Go.WideShapes Go.ChangeAt Go.RowKit Go.Shelf
set_option linter.unusedVariables false
set_option linter.unusedSimpArgs false

theorem take_last {l : List Tm} {j : Nat} (h : j < l.length) : lastE none (l.take (j + 1)) = some (l[j]?.getD (0, 0)) := by
  rw [take_snoc h rfl, lastE_snoc]
theorem box_new (W : World) (x : Tm) : BoxT (W.alloc (.cells #[.int .i64 x.1, .int .i64 x.2] 61)) W.heap.size x := BoxT.new W x
set_option maxRecDepth 100000 in
set_option maxHeartbeats 4000000 in
theorem check_any (A : Option Addr) (cap : Nat) (ts : List Tm) (m : Bool) (w : World) (hT : TimsAt w A ts) :
    Calls Tryd.prog 68 #[.slice A ts.length cap, .bool m] w fun e w' => e = .returned (.int .i64 (errI m ts)) ∧ Below w.heap.size w w' := by
  have HT : Hid (TimsAt w A ts) := hT
  have hml : ts.length ≤ 9223372036854775807 := hT.1
  obtain ⟨n, hn⟩ : ∃ n, ts.length = n := ⟨_, rfl⟩
  have HN : Hid (ts.length = n) := hn
  rw [hn] at hml ⊢
  clear hT hn
  go_enter Tryd.func68, Tryd.ntmps68
  go_wp2_with fail
  go_loopw [9] (fun vi wr => ∃ (i : Nat), vi = .int .i64 i ∧ i ≤ n ∧ Hid (chk m none (ts.take i) = true) ∧ Hid (Below w.heap.size w wr))
    (fun vi _ => n - (intOf vi).toNat)
  case atStart => exact ⟨0, rfl, Nat.zero_le _, by simp [chk, Hid], Below.refl _ _⟩
  case round =>
    obtain ⟨i, rfl, hin, HC, HB⟩ := hrel
    by_cases hlt : i < n
    · have hi' : i < ts.length := by have := HN.out; omega
      obtain ⟨kb, ko, rfl, hc0, hc1⟩ := HT.out.2 i hi'
      obtain ⟨x, hx⟩ : ∃ x, ts[i]?.getD (0, 0) = x := ⟨_, rfl⟩
      rw [hx] at hc0 hc1
      have hw0 : wr.cell? ⟨kb, ko + i * 2, none⟩ = some (.int .i64 x.1) := (HB.out.cell (p := ⟨kb, ko + i * 2, none⟩) (lt_of_cell hc0)).trans hc0
      have hw1 : wr.cell? ⟨kb, ko + i * 2 + 1, none⟩ = some (.int .i64 x.2) := (HB.out.cell (p := ⟨kb, ko + i * 2 + 1, none⟩) (lt_of_cell hc1)).trans hc1
      have htk : ts.take (i + 1) = ts.take i ++ [x] := take_snoc hi' hx
      have HS : Hid (chk m none (ts.take (i + 1)) = okAt m (lastE none (ts.take i)) x) := by
        unfold Hid; rw [htk, chk_snoc, HC.out, Bool.true_and]
      have HE : Hid (okAt m (lastE none (ts.take i)) x = false → errI m ts = 2) := fun h => by
        unfold errI
        rw [if_neg]
        rw [chk_prefix (List.take_prefix (i + 1) ts) (HS.out.trans h)]
        decide
      have hlt' : (i : Int) < (n : Int) := by omega
      obtain ⟨p, hp⟩ : ∃ p, ts[i - 1]?.getD (0, 0) = p := ⟨_, rfl⟩
      obtain ⟨j, hj⟩ : ∃ j, i - 1 = j := ⟨_, rfl⟩
      have HP : Hid (decide (0 < (i : Int)) = true → (w.cell? ⟨kb, ko + j * 2, none⟩ = some (.int .i64 p.1) ∧ w.cell? ⟨kb, ko + j * 2 + 1, none⟩ = some (.int .i64 p.2)) ∧ lastE none (ts.take i) = some p) := fun h => by
        have h0 : 0 < i := by simpa using h
        obtain ⟨_, _, e, h1, h2⟩ := HT.out.2 j (by omega)
        cases e
        rw [hj] at hp
        rw [hp] at h1 h2
        refine ⟨⟨h1, h2⟩, ?_⟩
        have := take_last (l := ts) (j := j) (by omega)
        rw [hp] at this
        rw [show i = j + 1 from by omega]
        exact this
      have HJ : Hid (decide (0 < (i : Int)) = true → IntKind.i64.wrap ((i : Int) - 1) = (j : Int) ∧ (j : Int) < (n : Int)) := fun h => by
        have h0 : 0 < i := by simpa using h
        refine ⟨?_, by omega⟩
        rw [IntKind.wrap_i64]
        omega
      have HZ : Hid (decide (0 < (i : Int)) = false → lastE none (ts.take i) = none) := fun h => by
        have h0 : i = 0 := by simpa using h
        subst h0
        rfl
      clear hx htk hp hj hc0 hc1 hi'
      go_upto_region 4 with fail
      have hsz := HB.out.size
      have hbx := BoxT.new wr x
      have hB1 : Below w.heap.size w (wr.alloc (.cells #[.int .i64 x.1, .int .i64 x.2] 61)) := HB.out.alloc hsz _
      obtain ⟨W1, hW1⟩ : ∃ W1, wr.alloc (.cells #[.int .i64 x.1, .int .i64 x.2] 61) = W1 := ⟨_, rfl⟩
      rw [hW1] at hbx hB1 ⊢
      have HB1 : Hid (Below w.heap.size w W1) := hB1
      have HX : Hid (BoxT W1 wr.heap.size x) := hbx
      clear hW1 hB1 hbx hw0 hw1 HB
      obtain ⟨d2, hd2⟩ : ∃ d2, (!entB x) = d2 := ⟨_, rfl⟩
      obtain ⟨b5, hb5⟩ : ∃ b5, decide (0 < (i : Int)) = b5 := ⟨_, rfl⟩
      obtain ⟨d15, hd15⟩ : ∃ d15, (!folB p x m) = d15 := ⟨_, rfl⟩
      obtain ⟨d16, hd16⟩ : ∃ d16, (b5 && d15) = d16 := ⟨_, rfl⟩
      obtain ⟨d17, hd17⟩ : ∃ d17, (d2 || d16) = d17 := ⟨_, rfl⟩
      have HD : Hid ((!okAt m (lastE none (ts.take i)) x) = d17) := by
        unfold Hid okAt
        rw [← hd17, ← hd2, ← hd16, ← hd15]
        cases h5 : b5 with
        | true => rw [(HP.out (hb5.trans h5)).2]; simp
        | false => rw [HZ.out (hb5.trans h5)]; simp
      refine chk4_reg rfl wr.heap.size kb ko j n cap (i : Int) x p m rfl rfl rfl rfl rfl rfl HJ.out ⟨HX.out, ⟨rfl, rfl, rfl, Nat.le_refl _, fun _ _ => rfl⟩, fun h => ?_⟩ hd2 hb5 hd15 hd16 hd17 ?_
      · obtain ⟨⟨h1, h2⟩, _⟩ := HP.out h
        exact ⟨(HB1.out.cell (p := ⟨kb, ko + j * 2, none⟩) (lt_of_cell h1)).trans h1, (HB1.out.cell (p := ⟨kb, ko + j * 2 + 1, none⟩) (lt_of_cell h2)).trans h2⟩
      intro T2 W2 hT2 hS2
      have HB2 : Hid (Below w.heap.size w W2) := Below.on HB1.out hS2.2.1
      clear hS2 hd2 hb5 hd15 hd16 hd17 HX HP HJ HZ HB1
      simp only [Act.put, List.setIfInBounds_toArray, List.set_cons_zero, List.set_cons_succ]
      rw [hT2]
      clear hT2
      cases d17 with
      | true =>
        have HF : Hid (errI m ts = 2) := HE.out (by have := HD.out; simpa using this)
        go_wp2_with fail
        go_ret
        exact ⟨by rw [HF.out]; rfl, HB2.out⟩
      | false =>
        have HF : Hid (chk m none (ts.take (i + 1)) = true) := by have := HD.out; unfold Hid; rw [HS.out]; simpa using this
        go_wp2_with fail
        go_roundw
        case rel => exact ⟨i + 1, by go_num, by omega, HF.out, HB2.out⟩
        case measure => simp [intOf]; omega
    · obtain rfl : i = n := by omega
      have HF : Hid (errI m ts = 0) := by
        have := HC.out
        rw [← HN.out, List.take_length] at this
        unfold Hid errI; rw [if_pos this]
      go_wp2_with fail
      go_ret
      exact ⟨by rw [HF.out]; rfl, HB.out⟩
end Go.Proofs.YtagmighcofllhaaDoor.Fil

/- The contracts of isAbove, late and better. -/
namespace Go.Proofs.YtagmighcofllhaaDoor.Fil
open Go.ChangeShapes Go.WideShapes Go.ChangeAt Go.RowKit Go.Shelf
set_option linter.unusedVariables false
set_option linter.unusedSimpArgs false

theorem take_all {l : List Tm} {n : Nat} (h : l.length = n) : l.take n = l := by subst h; exact List.take_length
theorem last_at {l : List Tm} {n : Nat} (h : l.length = n + 1) : lastE none l = some (l[n]?.getD (0, 0)) := by
  have := take_snoc (l := l) (k := n) (by omega) rfl
  rw [take_all h] at this
  rw [this, lastE_snoc]
  congr 1
  rw [← this]
set_option maxRecDepth 100000 in
set_option maxHeartbeats 4000000 in
theorem isAbove_walk (a : Option Addr) (c : Nat) (l : List Tm) (t : Int) (w : World) (hT : TimsAt w a l) : Calls Tryd.prog 78 #[.slice a l.length c, .int .i64 t] w fun e w' => e = .returned (.bool (above l t)) ∧ w' = w := by
  rcases Nat.eq_zero_or_pos l.length with h0 | h0
  · obtain rfl := List.eq_nil_of_length_eq_zero h0
    go_enter Tryd.func78, Tryd.ntmps78
    go_wp2
    all_goals go_ret
    all_goals exact ⟨rfl, rfl⟩
  · obtain ⟨k, hk⟩ : ∃ k, l.length = k + 1 := ⟨l.length - 1, by omega⟩
    obtain ⟨b, o, rfl, hc, hd⟩ := hT.2 k (by omega)
    have hm : l.length ≤ 9223372036854775807 := hT.1
    obtain ⟨x, hx⟩ : ∃ x, l[k]?.getD (0, 0) = x := ⟨_, rfl⟩
    have HE : Hid (above l t = decide (x.1 < t)) := by unfold Hid; rw [above_end (last_at hk), hx]
    rw [hx] at hc
    rw [hk] at hm ⊢
    obtain ⟨n, hn⟩ : ∃ n, k + 1 = n := ⟨_, rfl⟩
    have hn2 : ((n : Int) == 0) = false := by simp; omega
    have hs : IntKind.i64.wrap ((n : Int) - 1) = (k : Int) := by rw [IntKind.wrap_i64]; omega
    have hkn : (k : Int) < (n : Int) := by omega
    rw [hn] at hm ⊢
    clear hn hk hx h0 hT hd
    go_enter Tryd.func78, Tryd.ntmps78
    go_wp2
    all_goals go_ret
    all_goals (refine ⟨ret_bool ?_, rfl⟩; rw [HE.out])
    all_goals simp_all
set_option maxRecDepth 100000 in
set_option maxHeartbeats 4000000 in
theorem late_any (A : Option Addr) (cap : Nat) (ts : List Tm) (m : Bool) (t win : Int) (w W0 : World) (hT : TimsAt w A ts) (hT0 : TimsAt W0 A ts) (hcap : ts.length ≤ cap) (hc : chk m none ts = true) (h1 : 0 ≤ win ∧ win ≤ 1125899906842624) (L : List Tm) (hL : ts.filter (newB t win) = L) (N : Nat) (hN : L.length = N) (n : Nat) (hn : ts.length = n) :
    Calls Tryd.prog 80 #[.slice A n cap, .int .i64 t, .int .i64 win] w fun e w' => (∃ va, e = .returned (.slice va N N) ∧ TimsAt W0 va L) ∧ w' = w := by
  have HT : Hid (TimsAt w A ts) := hT
  have HT0 : Hid (TimsAt W0 A ts) := hT0
  have HC : Hid (chk m none ts = true) := hc
  have hml : ts.length ≤ 9223372036854775807 := hT.1
  have HQ : Hid (ts.filter (newB t win) = L ∧ L.length = N) := ⟨hL, hN⟩
  have HN : Hid (ts.length = n) := hn
  rw [hn] at hml hcap
  clear hT hT0 hn hc hL hN
  have tail : ∀ g, g ≤ n → ts.filter (newB t win) = ts.drop g → Calls Tryd.prog 86 #[.slice A n cap, .int .i64 (g : Int), .int .i64 (n : Int)] w fun e w' => (∃ va, e = .returned (.slice va N N) ∧ TimsAt W0 va L) ∧ w' = w := fun g hg hf => by
    refine (part_walk A n cap g n w hg hcap).mono ?_
    rintro e w' ⟨rfl, rfl⟩
    have hp := HT0.out.part g n hg (by rw [HN.out]; exact Nat.le_refl _)
    have e1 : (ts.take n).drop g = L := by rw [take_all HN.out, ← hf]; exact HQ.out.1
    have e2 : n - g = N := by rw [← HQ.out.2, ← HQ.out.1, hf, List.length_drop, HN.out]
    rw [e1] at hp
    exact ⟨⟨_, by rw [e2], hp⟩, rfl⟩
  have TAIL : Hid (∀ g, g ≤ n → _) := tail
  clear tail
  go_enter Tryd.func80, Tryd.ntmps80
  go_wp2_with fail
  go_loop [7] (fun v => ∃ g : Nat, v = .int .i64 g ∧ g ≤ n ∧ Hid (∀ x ∈ ts.take g, newB t win x = false))
    (fun v => n - (intOf v).toNat)
  case atStart => exact ⟨0, rfl, Nat.zero_le _, fun y hy => by simp at hy⟩
  case round =>
    obtain ⟨g, rfl, hg, HP⟩ := hrel
    by_cases hlt : g < n
    · have hi' : g < ts.length := by have := HN.out; omega
      obtain ⟨b, o, hva, hc0, _⟩ := HT.out.2 g hi'
      subst hva
      obtain ⟨x, hx⟩ : ∃ x, ts[g]?.getD (0, 0) = x := ⟨_, rfl⟩
      have hgx : ts[g]? = some x := by rw [← hx, List.getElem?_eq_getElem hi']; rfl
      have hxe := entB_iff.1 (((chk_iff m ts none).1 HC.out).1 x (List.mem_of_getElem? hgx))
      rw [hx] at hc0
      have hlt' : (g : Int) < (n : Int) := by omega
      have hs : IntKind.i64.wrap (x.1 + win) = x.1 + win := by rw [IntKind.wrap_i64]; omega
      by_cases hxk : x.1 + win < t
      · have HP' : Hid (∀ y ∈ ts.take (g + 1), newB t win y = false) := fun y hy => by
          rw [take_snoc hi' hx] at hy
          rcases List.mem_append.1 hy with hy | hy
          · exact HP.out y hy
          · simp at hy; subst hy; unfold newB; simp; omega
        clear hx hgx hxe hi'
        go_wp2_with fail
        go_round
        case rel => exact ⟨g + 1, by go_num, by omega, HP'.out⟩
        case measure => simp [intOf]; omega
      · have c := TAIL.out g hg (late_cut HC.out HP.out (fun y hy => by rw [hgx] at hy; cases hy; unfold newB; simp; omega))
        clear hx hgx hxe hi'
        go_wp2_with (go_at_call 86; refine c.mono ?_; rintro e w' ⟨⟨va, rfl, hv⟩, rfl⟩)
        go_ret
        exact ⟨⟨va, rfl, hv⟩, rfl⟩
    · obtain rfl : g = n := by omega
      have c := TAIL.out g hg (late_cut HC.out HP.out (fun y hy => by rw [List.getElem?_eq_none (by rw [HN.out]; exact Nat.le_refl _)] at hy; cases hy))
      go_wp2_with (go_at_call 86; refine c.mono ?_; rintro e w' ⟨⟨va, rfl, hv⟩, rfl⟩)
      go_ret
      exact ⟨⟨va, rfl, hv⟩, rfl⟩
set_option maxRecDepth 100000 in
set_option maxHeartbeats 4000000 in
theorem better_any (A : Option Addr) (cap : Nat) (ts : List Tm) (m : Bool) (v : Int) (w W0 : World) (hT : TimsAt w A ts) (hT0 : TimsAt W0 A ts) (hcap : ts.length ≤ cap) (hc : ts.Pairwise (fun x y => folB x y m = true)) (L : List Tm) (hL : ts.filter (fun x => beatB x.2 v m) = L) (N : Nat) (hN : L.length = N) (n : Nat) (hn : ts.length = n) :
    Calls Tryd.prog 79 #[.slice A n cap, .int .i64 v, .bool m] w fun e w' => (∃ va, e = .returned (.slice va N N) ∧ TimsAt W0 va L) ∧ w' = w := by
  have HT : Hid (TimsAt w A ts) := hT
  have HT0 : Hid (TimsAt W0 A ts) := hT0
  have HC : Hid (ts.Pairwise (fun x y => folB x y m = true)) := hc
  have hml : ts.length ≤ 9223372036854775807 := hT.1
  have HQ : Hid (ts.filter (fun x => beatB x.2 v m) = L ∧ L.length = N) := ⟨hL, hN⟩
  have HN : Hid (ts.length = n) := hn
  rw [hn] at hml hcap
  clear hT hT0 hn hc hL hN
  have tail : ∀ g, g ≤ n → ts.filter (fun x => beatB x.2 v m) = ts.take g → Calls Tryd.prog 86 #[.slice A n cap, .int .i64 0, .int .i64 (g : Int)] w fun e w' => (∃ va, e = .returned (.slice va N N) ∧ TimsAt W0 va L) ∧ w' = w := fun g hg hf => by
    refine (part_walk A n cap 0 g w (Nat.zero_le _) (by omega)).mono ?_
    rintro e w' ⟨rfl, rfl⟩
    have hp := HT0.out.part 0 g (Nat.zero_le _) (by rw [HN.out]; exact hg)
    have e1 : (ts.take g).drop 0 = L := by rw [List.drop_zero, ← hf]; exact HQ.out.1
    have e2 : g - 0 = N := by rw [← HQ.out.2, ← HQ.out.1, hf, List.length_take, HN.out]; omega
    rw [e1] at hp
    exact ⟨⟨_, by rw [e2], hp⟩, rfl⟩
  have TAIL : Hid (∀ g, g ≤ n → _) := tail
  clear tail
  go_enter Tryd.func79, Tryd.ntmps79
  go_wp2_with fail
  go_loop [7] (fun u => ∃ g : Nat, u = .int .i64 g ∧ g ≤ n ∧ Hid (∀ x ∈ ts.drop g, beatB x.2 v m = false))
    (fun u => (intOf u).toNat)
  case atStart => exact ⟨n, rfl, Nat.le_refl _, fun y hy => by rw [List.drop_of_length_le (by rw [HN.out]; exact Nat.le_refl _)] at hy; cases hy⟩
  case round =>
    obtain ⟨g, rfl, hg, HP⟩ := hrel
    cases g with
    | succ k =>
      have hi' : k < ts.length := by have := HN.out; omega
      obtain ⟨b, o, hva, _, hc1⟩ := HT.out.2 k hi'
      subst hva
      obtain ⟨x, hx⟩ : ∃ x, ts[k]?.getD (0, 0) = x := ⟨_, rfl⟩
      have hgx : ts[k]? = some x := by rw [← hx, List.getElem?_eq_getElem hi']; rfl
      rw [hx] at hc1
      obtain ⟨g, hgk⟩ : ∃ g, k + 1 = g := ⟨_, rfl⟩
      have hg0 : (0 : Int) < (g : Int) := by omega
      have hkn : (k : Int) < (n : Int) := by omega
      have hs : IntKind.i64.wrap ((g : Int) - 1) = (k : Int) := by rw [IntKind.wrap_i64]; omega
      obtain ⟨q, hq⟩ : ∃ q, beatB x.2 v m = q := ⟨_, rfl⟩
      have cb := beats_walk x.2 v m
      rw [hq] at cb
      cases q with
      | false =>
        have HP' : Hid (k ≤ n ∧ ∀ y ∈ ts.drop k, beatB y.2 v m = false) := ⟨by omega, fun y hy => by
          rw [List.drop_eq_getElem_cons hi'] at hy
          rcases List.mem_cons.1 hy with hy | hy
          · rw [List.getElem?_eq_getElem hi'] at hgx
            cases hgx
            rw [hy]; exact hq
          · exact HP.out y hy⟩
        have HM : Hid (k + 1 = g) := hgk
        rw [hgk] at hg ⊢
        clear hx hgx hi' hq hgk
        go_wp2_with (go_at_call 85; refine (cb _).mono ?_; rintro e w' ⟨rfl, rfl⟩)
        go_round
        case rel => exact ⟨k, by first | rfl | go_num, HP'.out.1, HP'.out.2⟩
        case measure => have := HM.out; simp [intOf]; omega
      | true =>
        have c := TAIL.out (k + 1) hg (better_cut HC.out (by rw [HN.out]; exact hg) HP.out (fun j y hj hy => by
          obtain rfl : k = j := by omega
          rw [hgx] at hy; cases hy; exact hq))
        rw [hgk] at hg c ⊢
        clear hx hgx hi' hq hgk
        go_wp2_with (first | (go_at_call 85; refine (cb _).mono ?_; rintro e w' ⟨rfl, rfl⟩) | (go_at_call 86; refine c.mono ?_; rintro e w' ⟨⟨va, rfl, hv⟩, rfl⟩))
        go_ret
        exact ⟨⟨va, rfl, hv⟩, rfl⟩
    | zero =>
      have c := TAIL.out 0 (Nat.zero_le _) (better_cut HC.out (Nat.zero_le _) HP.out (fun j y hj => by cases hj))
      go_wp2_with (go_at_call 86; refine c.mono ?_; rintro e w' ⟨⟨va, rfl, hv⟩, rfl⟩)
      go_ret
      exact ⟨⟨va, rfl, hv⟩, rfl⟩
end Go.Proofs.YtagmighcofllhaaDoor.Fil

/- The contract of Put. -/
namespace Go.Proofs.YtagmighcofllhaaDoor.Fil
open Go.ChangeShapes Go.WideShapes Go.ChangeAt Go.RowKit Go.Shelf
set_option linter.unusedVariables false
set_option linter.unusedSimpArgs false

theorem below_more {w U : World} (h : Below w.heap.size w U) (o : Obj) : Below w.heap.size w (U.alloc o) := h.alloc h.size _
theorem below_drew1 {B : Nat} {w U : World} (h : Below B w U) : Below B w U.drew := ⟨h.os, h.tape, h.output, h.size, h.block⟩
theorem below_drewN {B : Nat} {w U : World} (h : Below B w U) (n : Nat) : Below B w (U.drewN n) := ⟨h.os, h.tape, h.output, h.size, h.block⟩
theorem putE_no {m : Bool} {l : List Tm} {t v win : Int} (h : putB m l t v win = false) : putE m l t v win = 2 ∧ putL m l t v win = [] := by simp [putE, putL, h]
theorem putE_yes {m : Bool} {l : List Tm} {t v win : Int} (h : putB m l t v win = true) : putE m l t v win = 0 ∧ putL m l t v win = l.filter (stayB m t v win) ++ [(t, v)] := by simp [putE, putL, h]
set_option maxRecDepth 100000 in
set_option maxHeartbeats 4000000 in
theorem put_any (A : Option Addr) (cap : Nat) (ts : List Tm) (t v win : Int) (m : Bool) (w : World) (hT : TimsAt w A ts) (hcap : ts.length ≤ cap) (hr : ts.length * 16 ≤ 140737488351232) :
    Calls Tryd.prog 59 #[.slice A ts.length cap, .int .i64 t, .int .i64 v, .int .i64 win, .bool m] w fun e w' => ∃ va vc, e = .returned (.tuple #[.slice va (putL m ts t v win).length vc, .int .i64 (putE m ts t v win)]) ∧ RowT w' w.heap.size va (putL m ts t v win).length vc (putL m ts t v win) ∧ Below w.heap.size w w' := by
  have cC := check_any A cap ts m w hT
  cases hc : chk m none ts with
  | false =>
    have HE : Hid (_ ∧ _) := putE_no (m := m) (l := ts) (t := t) (v := v) (win := win) (by unfold putB; rw [hc]; rfl)
    have hE : errI m ts = 2 := by simp [errI, hc]
    rw [hE] at cC
    clear hE hc
    go_enter Tryd.func59, Tryd.ntmps59
    go_wp2_with (go_at_call 68; refine cC.mono ?_; rintro e w1 ⟨rfl, hB1⟩)
    go_ret2
    exact ⟨none, 0, by rw [HE.out.1, HE.out.2]; rfl, by rw [HE.out.2]; exact RowT.nil _ _, hB1⟩
  | true =>
    have hE : errI m ts = 0 := by simp [errI, hc]
    rw [hE] at cC
    clear hE
    have HT : Hid (TimsAt w A ts) := hT
    have HC : Hid (chk m none ts = true) := hc
    obtain ⟨n, hn⟩ : ∃ n, ts.length = n := ⟨_, rfl⟩
    have HN : Hid (ts.length = n) := hn
    rw [hn] at cC hcap hr ⊢
    clear hT hn
    have cE : ∀ u : World, Calls Tryd.prog 76 #[.agg #[.int .i64 t, .int .i64 v]] u fun e w' => e = .returned (.bool (entB (t, v))) ∧ w' = u.alloc (.cells #[.int .i64 t, .int .i64 v] 61) := isEntry_walk (t, v)
    have cT := isTime_walk win
    have cA : ∀ u : World, TimsAt u A ts → Calls Tryd.prog 78 #[.slice A n cap, .int .i64 t] u fun e w' => e = .returned (.bool (above ts t)) ∧ w' = u := fun u hu => by
      have := isAbove_walk A cap ts t u hu; rwa [HN.out] at this
    have HA : Hid (∀ u : World, TimsAt u A ts → Calls Tryd.prog 78 #[.slice A n cap, .int .i64 t] u fun e w' => e = .returned (.bool (above ts t)) ∧ w' = u) := cA
    clear cA
    cases he : entB (t, v) with
    | false =>
      have HE : Hid (_ ∧ _) := putE_no (m := m) (l := ts) (t := t) (v := v) (win := win) (by unfold putB; rw [he]; simp)
      rw [he] at cE
      clear he hc
      go_enter Tryd.func59, Tryd.ntmps59
      go_wp2_with (first | (go_at_call 68; refine cC.mono ?_; rintro e w1 ⟨rfl, hB1⟩) | (go_at_call 76; refine (cE _).mono ?_; rintro e w2 ⟨rfl, rfl⟩))
      go_ret2
      exact ⟨none, 0, by rw [HE.out.1, HE.out.2]; rfl, by rw [HE.out.2]; exact RowT.nil _ _, below_more (below_more hB1 _) _⟩
    | true =>
      cases ht : timeB win with
      | false =>
        have HE : Hid (_ ∧ _) := putE_no (m := m) (l := ts) (t := t) (v := v) (win := win) (by unfold putB; rw [ht]; simp)
        rw [he] at cE
        rw [ht] at cT
        clear he hc ht
        go_enter Tryd.func59, Tryd.ntmps59
        go_wp2_with (first | (go_at_call 68; refine cC.mono ?_; rintro e w1 ⟨rfl, hB1⟩) | (go_at_call 76; refine (cE _).mono ?_; rintro e w2 ⟨rfl, rfl⟩) | (go_at_call 77; refine (cT _).mono ?_; rintro e w3 ⟨rfl, rfl⟩))
        go_ret2
        exact ⟨none, 0, by rw [HE.out.1, HE.out.2]; rfl, by rw [HE.out.2]; exact RowT.nil _ _, below_more (below_more hB1 _) _⟩
      | true =>
        cases ha : above ts t with
        | false =>
          have HE : Hid (_ ∧ _) := putE_no (m := m) (l := ts) (t := t) (v := v) (win := win) (by unfold putB; rw [ha]; simp)
          rw [he] at cE
          rw [ht] at cT
          rw [ha] at HA
          clear he hc ht ha
          go_enter Tryd.func59, Tryd.ntmps59
          go_wp2_with (first | (go_at_call 68; refine cC.mono ?_; rintro e w1 ⟨rfl, hB1⟩) | (go_at_call 76; refine (cE _).mono ?_; rintro e w2 ⟨rfl, rfl⟩) | (go_at_call 77; refine (cT _).mono ?_; rintro e w3 ⟨rfl, rfl⟩) | (go_at_call 78; refine (HA.out _ (HT.out.below (below_more (below_more hB1 _) _) (Nat.le_refl _))).mono ?_; rintro e w4 ⟨rfl, rfl⟩))
          go_ret2
          exact ⟨none, 0, by rw [HE.out.1, HE.out.2]; rfl, by rw [HE.out.2]; exact RowT.nil _ _, below_more (below_more hB1 _) _⟩
        | true =>
          have hP : putB m ts t v win = true := by unfold putB; rw [hc, he, ht, ha]; rfl
          have HE : Hid (_ ∧ _) := putE_yes hP
          have hwin := timeB_iff.1 ht
          obtain ⟨L1, hL1⟩ : ∃ L1, ts.filter (newB t win) = L1 := ⟨_, rfl⟩
          obtain ⟨n1, hn1⟩ : ∃ n1, L1.length = n1 := ⟨_, rfl⟩
          obtain ⟨L2, hL2⟩ : ∃ L2, L1.filter (fun x => beatB x.2 v m) = L2 := ⟨_, rfl⟩
          obtain ⟨n2, hn2⟩ : ∃ n2, L2.length = n2 := ⟨_, rfl⟩
          have hle : n2 ≤ n := by
            have h1 := List.length_filter_le (newB t win) ts
            have h2 := List.length_filter_le (fun x => beatB x.2 v m) L1
            rw [hL1] at h1; rw [hL2] at h2
            have := HN.out
            omega
          have HQ : Hid (ts.filter (stayB m t v win) = L2) := by unfold Hid; rw [stay_two, hL1, hL2]
          have hpw := pair_new hc (newB t win)
          rw [hL1] at hpw
          have HL : Hid (∀ W0 U, TimsAt W0 A ts → Below W0.heap.size W0 U → Calls Tryd.prog 80 #[.slice A n cap, .int .i64 t, .int .i64 win] U fun e w' => (∃ va, e = .returned (.slice va n1 n1) ∧ TimsAt W0 va L1) ∧ w' = U) := fun W0 U h0 hU =>
            late_any A cap ts m t win U W0 (h0.below hU (Nat.le_refl _)) h0 (by rw [HN.out]; exact hcap) HC.out hwin L1 hL1 n1 hn1 n HN.out
          have HT2 : Hid (∀ W0 U va, TimsAt W0 va L1 → Below W0.heap.size W0 U → Calls Tryd.prog 79 #[.slice va n1 n1, .int .i64 v, .bool m] U fun e w' => (∃ va, e = .returned (.slice va n2 n2) ∧ TimsAt W0 va L2) ∧ w' = U) := fun W0 U va h0 hU =>
            better_any va n1 L1 m v U W0 (h0.below hU (Nat.le_refl _)) h0 (by rw [hn1]; exact Nat.le_refl _) hpw L2 hL2 n2 hn2 n1 hn1
          have HN2 : Hid (L2.length = n2) := hn2
          rw [he] at cE
          rw [ht] at cT
          rw [ha] at HA
          clear he hc ht ha hP hwin hL1 hn1 hL2 hpw hn2
          go_enter Tryd.func59, Tryd.ntmps59
          go_upto_region 7 with (first | (go_at_call 68; refine cC.mono ?_; rintro e w1 ⟨rfl, hB1⟩) | (go_at_call 76; refine (cE _).mono ?_; rintro e w2 ⟨rfl, rfl⟩) | (go_at_call 77; refine (cT _).mono ?_; rintro e w3 ⟨rfl, rfl⟩) | (go_at_call 78; refine (HA.out _ (HT.out.below (below_more (below_more hB1 _) _) (Nat.le_refl _))).mono ?_; rintro e w4 ⟨rfl, rfl⟩))
          have bX := (BoxT.new w1 (t, v)).alloc (.cells #[.int .i64 t, .int .i64 v] 61)
          have hB2 : Below w.heap.size w ((w1.alloc (.cells #[.int .i64 t, .int .i64 v] 61)).alloc (.cells #[.int .i64 t, .int .i64 v] 61)) := below_more (below_more hB1 _) _
          obtain ⟨W0, hW0⟩ : ∃ W0, (w1.alloc (.cells #[.int .i64 t, .int .i64 v] 61)).alloc (.cells #[.int .i64 t, .int .i64 v] 61) = W0 := ⟨_, rfl⟩
          rw [hW0] at bX hB2 ⊢
          have HB2 : Hid (Below w.heap.size w W0) := hB2
          have HT0 : Hid (TimsAt W0 A ts) := HT.out.below hB2 (Nat.le_refl _)
          have BX : Hid (∀ U, Below W0.heap.size W0 U → U.cell? ⟨w1.heap.size, 0, none⟩ = some (.int .i64 t) ∧ U.cell? ⟨w1.heap.size, 1, none⟩ = some (.int .i64 v) ∧ Below W0.heap.size W0 U) := fun U hU => by
            have := bX.below hU bX.lt
            exact ⟨this.cell0, this.cell1, hU⟩
          obtain ⟨x0, x1, _⟩ := BX.out W0 (Below.refl _ _)
          clear hW0 bX hB2 cC cE cT HA hB1
          go_cut [10, 11] (fun u z wx => ∃ va vc, u = .slice va (n2 + 1) vc ∧ z = .int .i64 0 ∧ Hid (RowT wx W0.heap.size va (n2 + 1) vc (L2 ++ [(t, v)]) ∧ Below W0.heap.size W0 wx))
          case first =>
            go_region_held3 (fun W => W.cell? ⟨w1.heap.size, 0, none⟩ = some (.int .i64 t) ∧ W.cell? ⟨w1.heap.size, 1, none⟩ = some (.int .i64 v) ∧ Below W0.heap.size W0 W)
              (refine BX.out _ ?_ <;> (repeat (first | with_reducible exact Below.refl _ _ | with_reducible assumption | with_reducible refine below_drew1 ?_ | with_reducible refine below_drewN ?_ _ | with_reducible refine below_more ?_ _)))
              (first
                | (go_at_call 80; refine (HL.out W0 _ HT0.out (by repeat (first | with_reducible exact Below.refl _ _ | with_reducible assumption | with_reducible refine below_drew1 ?_ | with_reducible refine below_drewN ?_ _ | with_reducible refine below_more ?_ _))).mono ?_; rintro e w5 ⟨⟨va1, rfl, hv1⟩, rfl⟩)
                | (go_at_call 79; refine (HT2.out W0 _ va1 hv1 (by repeat (first | with_reducible exact Below.refl _ _ | with_reducible assumption | with_reducible refine below_drew1 ?_ | with_reducible refine below_drewN ?_ _ | with_reducible refine below_more ?_ _))).mono ?_; rintro e w6 ⟨⟨va2, rfl, hv2⟩, rfl⟩)
                | (refine step_full rfl (.tmp 43) (.tmp 45) rfl va2 n2 L2 _ (t, v) rfl rfl (hv2.below (B := W0.heap.size) (by repeat (first | with_reducible exact Below.refl _ _ | with_reducible assumption | with_reducible refine below_drew1 ?_ | with_reducible refine below_drewN ?_ _ | with_reducible refine below_more ?_ _)) (Nat.le_refl _)) HN2.out (by first | exact tims_one _ (t, v) | exact TimsAt.of_heap (tims_one W0.drew (t, v)) rfl | exact TimsAt.of_heap (tims_one W0 (t, v)) rfl) (by omega) ?_; intro va3 vc3 w7 hR3 hb3; have hb4 : Below W0.heap.size W0 w7 := Below.on (by repeat (first | with_reducible exact Below.refl _ _ | with_reducible assumption | with_reducible refine below_drew1 ?_ | with_reducible refine below_drewN ?_ _ | with_reducible refine below_more ?_ _)) hb3; have hR4 : RowT w7 W0.heap.size va3 (n2 + 1) vc3 (L2 ++ [(t, v)]) := hR3.mono (Below.size (B := W0.heap.size) (w := W0) (by repeat (first | with_reducible exact Below.refl _ _ | with_reducible assumption | with_reducible refine below_drew1 ?_ | with_reducible refine below_drewN ?_ _ | with_reducible refine below_more ?_ _)))))
            all_goals (
              go_wp2_with fail
              go_meet
              exact ⟨va3, vc3, rfl, rfl, hR4, hb4⟩)
          case rest =>
            obtain ⟨va, vc, rfl, rfl, HR⟩ := hcut
            go_wp2_with fail
            go_ret2
            have hlen : (putL m ts t v win).length = n2 + 1 := by rw [HE.out.2, HQ.out, List.length_append, HN2.out]; rfl
            refine ⟨va, vc, by rw [HE.out.1, hlen]; rfl, ?_, Below.on HB2.out HR.out.2⟩
            rw [hlen, HE.out.2, HQ.out]
            exact HR.out.1.mono HB2.out.size
end Go.Proofs.YtagmighcofllhaaDoor.Fil
