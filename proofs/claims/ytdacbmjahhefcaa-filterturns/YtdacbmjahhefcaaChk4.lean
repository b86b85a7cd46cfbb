/- Check: the region that draws. -/
import Derived.Test.YtdacbmjahhefcaaLeaf
import Derived.Test.YtdacbmjahhefcaaDet
namespace Go.Proofs.Ytdacbmjahhefcaa
open Go.ChangeShapes Go.WideShapes Go.ChangeAt Go.RowKit Go.Shelf
set_option linter.unusedVariables false
set_option linter.unusedSimpArgs false

theorem enter15 (args : Array Value) (w : World) : (callFunc 15 args).run Try.prog w = .ok (.enter 15 args) w := by kernel_rfl
theorem enter22 (args : Array Value) (w : World) : (callFunc 22 args).run Try.prog w = .ok (.enter 22 args) w := by kernel_rfl
theorem isEntry_below (x : Tm) (w : World) (b : Bool) (hb : entB x = b) : Calls Try.prog 15 #[.agg #[.int .i64 x.1, .int .i64 x.2]] w fun e w' => e = .returned (.bool b) ∧ Below w.heap.size w w' := by
  subst hb
  refine (isEntry_walk x w).mono ?_
  rintro e w' ⟨rfl, rfl⟩
  exact ⟨rfl, (Below.refl _ w).alloc (Nat.le_refl _) _⟩
theorem mayFollow_is (x y : Tm) (m : Bool) (w : World) (b : Bool) (hb : folB x y m = b) : Calls Try.prog 22 #[.agg #[.int .i64 x.1, .int .i64 x.2], .agg #[.int .i64 y.1, .int .i64 y.2], .bool m] w fun e w' => e = .returned (.bool b) ∧ Below w.heap.size w w' := by
  subst hb
  exact mayFollow_walk x y m w
def chk4O0 (ps : String) : Oper := { dst := some 14, op := .load 28 (.tmp 6), type := 28, pos := ps, after := #[], guard := none }
def chk4O1 (ps : String) : Oper := { dst := some 15, op := .call { callee := .value (.func 15), args := #[.tmp 14], argTypes := #[28] }, type := 4, pos := ps, after := #[{ on := 0, ground := .data }], guard := none }
def chk4O2 (ps : String) : Oper := { dst := some 16, op := .unOp .not 4 (.tmp 15), type := 4, pos := ps, after := #[{ on := 1, ground := .data }], guard := none }
def chk4O3 (ps : String) : Oper := { dst := some 17, op := .move (.tmp 16), type := 4, pos := ps, after := #[{ on := 2, ground := .data }, { on := 1, ground := .chain }], guard := none }
def chk4O4 (ps : String) : Oper := { dst := some 18, op := .move (.tmp 5), type := 3, pos := ps, after := #[{ on := 3, ground := .guard }], guard := some (3, false) }
def chk4O5 (ps : String) : Oper := { dst := some 19, op := .binOp .gtr 3 (.tmp 18) (.const (.int .i64 0)) 3, type := 4, pos := ps, after := #[{ on := 4, ground := .data }, { on := 3, ground := .guard }], guard := some (3, false) }
def chk4O6 (ps : String) : Oper := { dst := some 20, op := .move (.tmp 19), type := 4, pos := ps, after := #[{ on := 5, ground := .data }, { on := 3, ground := .chain }, { on := 3, ground := .guard }], guard := some (3, false) }
def chk4O7 (ps : String) : Oper := { dst := some 21, op := .move (.tmp 0), type := 22, pos := ps, after := #[{ on := 6, ground := .guard }], guard := some (6, true) }
def chk4O8 (ps : String) : Oper := { dst := some 22, op := .move (.tmp 5), type := 3, pos := ps, after := #[{ on := 6, ground := .guard }], guard := some (6, true) }
def chk4O9 (ps : String) : Oper := { dst := some 23, op := .binOp .sub 3 (.tmp 22) (.const (.int .i64 1)) 3, type := 3, pos := ps, after := #[{ on := 8, ground := .data }, { on := 6, ground := .guard }], guard := some (6, true) }
def chk4O10 (ps : String) : Oper := { dst := some 24, op := .indexAddr 22 (.tmp 21) (.tmp 23), type := 0, pos := ps, after := #[{ on := 7, ground := .data }, { on := 9, ground := .data }, { on := 6, ground := .guard }], guard := some (6, true) }
def chk4O11 (ps : String) : Oper := { dst := some 25, op := .load 28 (.tmp 24), type := 28, pos := ps, after := #[{ on := 10, ground := .data }, { on := 6, ground := .guard }], guard := some (6, true) }
def chk4O12 (ps : String) : Oper := { dst := some 26, op := .load 28 (.tmp 6), type := 28, pos := ps, after := #[{ on := 6, ground := .guard }], guard := some (6, true) }
def chk4O13 (ps : String) : Oper := { dst := some 27, op := .move (.tmp 1), type := 4, pos := ps, after := #[{ on := 6, ground := .guard }], guard := some (6, true) }
def chk4O14 (ps : String) : Oper := { dst := some 28, op := .call { callee := .value (.func 22), args := #[.tmp 25, .tmp 26, .tmp 27], argTypes := #[28, 28, 4] }, type := 4, pos := ps, after := #[{ on := 11, ground := .data }, { on := 12, ground := .data }, { on := 13, ground := .data }, { on := 6, ground := .chain }, { on := 6, ground := .guard }], guard := some (6, true) }
def chk4O15 (ps : String) : Oper := { dst := some 29, op := .unOp .not 4 (.tmp 28), type := 4, pos := ps, after := #[{ on := 14, ground := .data }, { on := 6, ground := .guard }], guard := some (6, true) }
def chk4O16 (ps : String) : Oper := { dst := some 30, op := .pick (.tmp 20) (.tmp 29) (.const (.bool false)), type := 4, pos := ps, after := #[{ on := 6, ground := .data }, { on := 15, ground := .data }, { on := 3, ground := .guard }], guard := some (3, false) }
def chk4O17 (ps : String) : Oper := { dst := some 31, op := .pick (.tmp 17) (.const (.bool true)) (.tmp 30), type := 4, pos := ps, after := #[{ on := 3, ground := .data }, { on := 16, ground := .data }], guard := none }
def chk4 (ps : String) : Array Oper := #[chk4O0 ps, chk4O1 ps, chk4O2 ps, chk4O3 ps, chk4O4 ps, chk4O5 ps, chk4O6 ps, chk4O7 ps, chk4O8 ps, chk4O9 ps, chk4O10 ps, chk4O11 ps, chk4O12 ps, chk4O13 ps, chk4O14 ps, chk4O15 ps, chk4O16 ps, chk4O17 ps]
theorem chk4_0 (ps : String) : (chk4 ps)[0]? = some (chk4O0 ps) := rfl
theorem chk4_1 (ps : String) : (chk4 ps)[1]? = some (chk4O1 ps) := rfl
theorem chk4_2 (ps : String) : (chk4 ps)[2]? = some (chk4O2 ps) := rfl
theorem chk4_3 (ps : String) : (chk4 ps)[3]? = some (chk4O3 ps) := rfl
theorem chk4_4 (ps : String) : (chk4 ps)[4]? = some (chk4O4 ps) := rfl
theorem chk4_5 (ps : String) : (chk4 ps)[5]? = some (chk4O5 ps) := rfl
theorem chk4_6 (ps : String) : (chk4 ps)[6]? = some (chk4O6 ps) := rfl
theorem chk4_7 (ps : String) : (chk4 ps)[7]? = some (chk4O7 ps) := rfl
theorem chk4_8 (ps : String) : (chk4 ps)[8]? = some (chk4O8 ps) := rfl
theorem chk4_9 (ps : String) : (chk4 ps)[9]? = some (chk4O9 ps) := rfl
theorem chk4_10 (ps : String) : (chk4 ps)[10]? = some (chk4O10 ps) := rfl
theorem chk4_11 (ps : String) : (chk4 ps)[11]? = some (chk4O11 ps) := rfl
theorem chk4_12 (ps : String) : (chk4 ps)[12]? = some (chk4O12 ps) := rfl
theorem chk4_13 (ps : String) : (chk4 ps)[13]? = some (chk4O13 ps) := rfl
theorem chk4_14 (ps : String) : (chk4 ps)[14]? = some (chk4O14 ps) := rfl
theorem chk4_15 (ps : String) : (chk4 ps)[15]? = some (chk4O15 ps) := rfl
theorem chk4_16 (ps : String) : (chk4 ps)[16]? = some (chk4O16 ps) := rfl
theorem chk4_17 (ps : String) : (chk4 ps)[17]? = some (chk4O17 ps) := rfl
def chk4D : Nat → Option Tmp
  | 0 => some 14
  | 1 => some 15
  | 2 => some 16
  | 3 => some 17
  | 4 => some 18
  | 5 => some 19
  | 6 => some 20
  | 7 => some 21
  | 8 => some 22
  | 9 => some 23
  | 10 => some 24
  | 11 => some 25
  | 12 => some 26
  | 13 => some 27
  | 14 => some 28
  | 15 => some 29
  | 16 => some 30
  | 17 => some 31
  | _ => none
def chk4T (g b o j n c : Nat) (i : Int) (x p : Tm) (m : Bool) (b101 b102 d2 b5 d15 d16 d17 : Bool) : Nat → Value
  | 0 => .agg #[.int .i64 x.1, .int .i64 x.2]
  | 1 => .bool b101
  | 2 => .bool d2
  | 3 => .bool d2
  | 4 => cond (!d2) (.int .i64 i) undef
  | 5 => cond (!d2) (.bool b5) undef
  | 6 => cond (!d2) (.bool b5) undef
  | 7 => cond (!d2 && b5) (.slice (some ⟨b, o, none⟩) n c) undef
  | 8 => cond (!d2 && b5) (.int .i64 i) undef
  | 9 => cond (!d2 && b5) (.int .i64 (j : Int)) undef
  | 10 => cond (!d2 && b5) (.pointer (some ⟨b, o + j * 2, none⟩)) undef
  | 11 => cond (!d2 && b5) (.agg #[.int .i64 p.1, .int .i64 p.2]) undef
  | 12 => cond (!d2 && b5) (.agg #[.int .i64 x.1, .int .i64 x.2]) undef
  | 13 => cond (!d2 && b5) (.bool m) undef
  | 14 => cond (!d2 && b5) (.bool b102) undef
  | 15 => cond (!d2 && b5) (.bool d15) undef
  | 16 => cond (!d2) (.bool d16) undef
  | 17 => .bool d17
  | _ => undef
set_option maxRecDepth 100000 in
set_option maxHeartbeats 4000000 in
theorem chk4_reg {ps : String} {Q : Exit → Act → World → Prop} {a0 : Act} {W0 : World} (sz : a0.tmps.size = 33) (g b o j n c : Nat) (i : Int) (x p : Tm) (m : Bool)
    (e0 : a0.eval (.tmp 0) = .slice (some ⟨b, o, none⟩) n c) (e1 : a0.eval (.tmp 1) = .bool m) (e5 : a0.eval (.tmp 5) = .int .i64 i) (e6 : a0.eval (.tmp 6) = .pointer (some ⟨g, 0, none⟩))
    {b101 b102 : Bool} (hb101 : entB x = b101) (hb102 : folB p x m = b102) (hj : decide (0 < i) = true → IntKind.i64.wrap (i - 1) = (j : Int) ∧ (j : Int) < (n : Int)) (hS : (fun w => BoxT w g x ∧ Below W0.heap.size W0 w ∧ (decide (0 < i) = true → w.cell? ⟨b, o + j * 2, none⟩ = some (.int .i64 p.1) ∧ w.cell? ⟨b, o + j * 2 + 1, none⟩ = some (.int .i64 p.2))) W0.drew)
    {d2 b5 d15 d16 d17 : Bool} (hd2 : (!b101) = d2)
    (hb5 : decide (0 < i) = b5)
    (hd15 : (!b102) = d15)
    (hd16 : (b5 && d15) = d16)
    (hd17 : (d2 || d16) = d17)
    (hfin : ∀ (T : Nat → Value) w, T 17 = .bool d17 → (fun w => BoxT w g x ∧ Below W0.heap.size W0 w ∧ (decide (0 < i) = true → w.cell? ⟨b, o + j * 2, none⟩ = some (.int .i64 p.1) ∧ w.cell? ⟨b, o + j * 2 + 1, none⟩ = some (.int .i64 p.2))) w → Q .normal ((((((((((((((((((a0.put (some 14) (T 0)).put (some 15) (T 1)).put (some 16) (T 2)).put (some 17) (T 3)).put (some 18) (T 4)).put (some 19) (T 5)).put (some 20) (T 6)).put (some 21) (T 7)).put (some 22) (T 8)).put (some 23) (T 9)).put (some 24) (T 10)).put (some 25) (T 11)).put (some 26) (T 12)).put (some 27) (T 13)).put (some 28) (T 14)).put (some 29) (T 15)).put (some 30) (T 16)).put (some 31) (T 17)) w) :
    (Code.region 4 (chk4 ps) true).wp Try.prog Q a0 W0 := by
  refine wp_region_det (by kernel_rfl) 18 rfl chk4D ?_ (by decide) (chk4T g b o j n c i x p m b101 b102 d2 b5 d15 d16 d17) (fun w => BoxT w g x ∧ Below W0.heap.size W0 w ∧ (decide (0 < i) = true → w.cell? ⟨b, o + j * 2, none⟩ = some (.int .i64 p.1) ∧ w.cell? ⟨b, o + j * 2 + 1, none⟩ = some (.int .i64 p.2))) hS ?_ (by rfl) (fun w hSw => hfin (chk4T g b o j n c i x p m b101 b102 d2 b5 d15 d16 d17) w rfl hSw)
  · intro jq t hj ht
    have : ∀ j, j < 18 → (chk4D j).all (· < 33) = true := by decide
    have := this jq hj
    rw [ht] at this
    rw [sz]
    simpa using this
  · intro iq o ho a w hSw hs hel K hK
    have hin : iq < 18 := (Array.getElem?_eq_some_iff.1 ho).1
    match iq, hin, ho with
    | 0, _, ho =>
    obtain rfl := Option.some.inj (ho.symm.trans (chk4_0 ps))
    have u6 : a.eval (.tmp 6) = .pointer (some ⟨g, 0, none⟩) := (hel 6 (by decide)).trans e6
    have hcl := And.intro hSw.1.cell0 hSw.1.cell1
    skip
    exact op_valW (chk4_0 ps) rfl (by unfold chk4O0 execOp; simp only [u6, chk4T, cond_true, cond_false, Bool.not_true, Bool.not_false, Bool.and_true, Bool.true_and, Bool.and_false, Bool.false_and]; first | (go_simp; done) | (go_simp; with_reducible rfl)) (hK w hSw)
    | 1, _, ho =>
    obtain rfl := Option.some.inj (ho.symm.trans (chk4_1 ps))
    have s0 := hs 0 14 (by rfl) rfl
    (try simp only [chk4T, cond_true, cond_false, Bool.not_true, Bool.not_false, Bool.and_true, Bool.true_and, Bool.and_false, Bool.false_and] at s0)
    exact op_enterW (chk4_1 ps) rfl (f := 15) (args := #[.agg #[.int .i64 x.1, .int .i64 x.2]]) (by rw [run_call rfl enter15]; simp only [List.map_toArray, List.map_cons, List.map_nil, s0]; try rfl) ((isEntry_below x w b101 hb101).mono (fun e w' hh => ⟨_, hh.1, hK w' ⟨hSw.1.below hh.2 hSw.1.lt, Below.on hSw.2.1 hh.2, fun q => ⟨(hh.2.cell (p := ⟨b, o + j * 2, none⟩) (lt_of_cell (hSw.2.2 q).1)).trans (hSw.2.2 q).1, (hh.2.cell (p := ⟨b, o + j * 2 + 1, none⟩) (lt_of_cell (hSw.2.2 q).2)).trans (hSw.2.2 q).2⟩⟩⟩))
    | 2, _, ho =>
    obtain rfl := Option.some.inj (ho.symm.trans (chk4_2 ps))
    have s1 := hs 1 15 (by rfl) rfl
    (try simp only [chk4T, cond_true, cond_false, Bool.not_true, Bool.not_false, Bool.and_true, Bool.true_and, Bool.and_false, Bool.false_and] at s1)
    subst hd2
    exact op_valW (chk4_2 ps) rfl (by unfold chk4O2 execOp; simp only [s1, chk4T, cond_true, cond_false, Bool.not_true, Bool.not_false, Bool.and_true, Bool.true_and, Bool.and_false, Bool.false_and]; first | (go_simp; done) | (go_simp; with_reducible rfl)) (hK w hSw)
    | 3, _, ho =>
    obtain rfl := Option.some.inj (ho.symm.trans (chk4_3 ps))
    have s2 := hs 2 16 (by rfl) rfl
    (try simp only [chk4T, cond_true, cond_false, Bool.not_true, Bool.not_false, Bool.and_true, Bool.true_and, Bool.and_false, Bool.false_and] at s2)
    exact op_valW (chk4_3 ps) rfl (by unfold chk4O3 execOp; simp only [s2, chk4T, cond_true, cond_false, Bool.not_true, Bool.not_false, Bool.and_true, Bool.true_and, Bool.and_false, Bool.false_and]; first | (go_simp; done) | (go_simp; with_reducible rfl)) (hK w hSw)
    | 4, _, ho =>
    obtain rfl := Option.some.inj (ho.symm.trans (chk4_4 ps))
    have s3 := hs 3 17 (by rfl) rfl
    have u5 : a.eval (.tmp 5) = .int .i64 i := (hel 5 (by decide)).trans e5
    cases d2
    all_goals ((try simp only [chk4T, cond_true, cond_false, Bool.not_true, Bool.not_false, Bool.and_true, Bool.true_and, Bool.and_false, Bool.false_and] at s3); first | (exact op_skip (chk4_4 ps) (by rw [wanted_of rfl (chk4_3 ps) rfl s3]; rfl) (hK w hSw)) | (exact op_valW (chk4_4 ps) (by rw [wanted_of rfl (chk4_3 ps) rfl s3]; rfl) (by unfold chk4O4 execOp; simp only [u5, chk4T, cond_true, cond_false, Bool.not_true, Bool.not_false, Bool.and_true, Bool.true_and, Bool.and_false, Bool.false_and]; first | (go_simp; done) | (go_simp; with_reducible rfl)) (hK w hSw)))
    | 5, _, ho =>
    obtain rfl := Option.some.inj (ho.symm.trans (chk4_5 ps))
    have s4 := hs 4 18 (by rfl) rfl
    have s3 := hs 3 17 (by rfl) rfl
    cases d2
    all_goals ((try simp only [chk4T, cond_true, cond_false, Bool.not_true, Bool.not_false, Bool.and_true, Bool.true_and, Bool.and_false, Bool.false_and] at s4 s3); first | (exact op_skip (chk4_5 ps) (by rw [wanted_of rfl (chk4_3 ps) rfl s3]; rfl) (hK w hSw)) | (exact op_valW (chk4_5 ps) (by rw [wanted_of rfl (chk4_3 ps) rfl s3]; rfl) (by unfold chk4O5 execOp; simp only [s4, chk4T, cond_true, cond_false, Bool.not_true, Bool.not_false, Bool.and_true, Bool.true_and, Bool.and_false, Bool.false_and]; first | (go_simp; done) | (go_simp; with_reducible rfl)) (hK w hSw)))
    | 6, _, ho =>
    obtain rfl := Option.some.inj (ho.symm.trans (chk4_6 ps))
    have s5 := hs 5 19 (by rfl) rfl
    have s3 := hs 3 17 (by rfl) rfl
    cases d2
    all_goals ((try simp only [chk4T, cond_true, cond_false, Bool.not_true, Bool.not_false, Bool.and_true, Bool.true_and, Bool.and_false, Bool.false_and] at s5 s3); first | (exact op_skip (chk4_6 ps) (by rw [wanted_of rfl (chk4_3 ps) rfl s3]; rfl) (hK w hSw)) | (exact op_valW (chk4_6 ps) (by rw [wanted_of rfl (chk4_3 ps) rfl s3]; rfl) (by unfold chk4O6 execOp; simp only [s5, chk4T, cond_true, cond_false, Bool.not_true, Bool.not_false, Bool.and_true, Bool.true_and, Bool.and_false, Bool.false_and]; first | (go_simp; done) | (go_simp; with_reducible rfl)) (hK w hSw)))
    | 7, _, ho =>
    obtain rfl := Option.some.inj (ho.symm.trans (chk4_7 ps))
    have s6 := hs 6 20 (by rfl) rfl
    have u0 : a.eval (.tmp 0) = .slice (some ⟨b, o, none⟩) n c := (hel 0 (by decide)).trans e0
    cases d2 <;> cases b5
    all_goals ((try simp only [chk4T, cond_true, cond_false, Bool.not_true, Bool.not_false, Bool.and_true, Bool.true_and, Bool.and_false, Bool.false_and] at s6); first | (exact op_skip (chk4_7 ps) (by rw [wanted_of rfl (chk4_6 ps) rfl s6]; rfl) (hK w hSw)) | (exact op_valW (chk4_7 ps) (by rw [wanted_of rfl (chk4_6 ps) rfl s6]; rfl) (by unfold chk4O7 execOp; simp only [u0, chk4T, cond_true, cond_false, Bool.not_true, Bool.not_false, Bool.and_true, Bool.true_and, Bool.and_false, Bool.false_and]; first | (go_simp; done) | (go_simp; with_reducible rfl)) (hK w hSw)))
    | 8, _, ho =>
    obtain rfl := Option.some.inj (ho.symm.trans (chk4_8 ps))
    have s6 := hs 6 20 (by rfl) rfl
    have u5 : a.eval (.tmp 5) = .int .i64 i := (hel 5 (by decide)).trans e5
    cases d2 <;> cases b5
    all_goals ((try simp only [chk4T, cond_true, cond_false, Bool.not_true, Bool.not_false, Bool.and_true, Bool.true_and, Bool.and_false, Bool.false_and] at s6); first | (exact op_skip (chk4_8 ps) (by rw [wanted_of rfl (chk4_6 ps) rfl s6]; rfl) (hK w hSw)) | (exact op_valW (chk4_8 ps) (by rw [wanted_of rfl (chk4_6 ps) rfl s6]; rfl) (by unfold chk4O8 execOp; simp only [u5, chk4T, cond_true, cond_false, Bool.not_true, Bool.not_false, Bool.and_true, Bool.true_and, Bool.and_false, Bool.false_and]; first | (go_simp; done) | (go_simp; with_reducible rfl)) (hK w hSw)))
    | 9, _, ho =>
    obtain rfl := Option.some.inj (ho.symm.trans (chk4_9 ps))
    have s8 := hs 8 22 (by rfl) rfl
    have s6 := hs 6 20 (by rfl) rfl
    cases d2 <;> cases b5
    all_goals ((try simp only [chk4T, cond_true, cond_false, Bool.not_true, Bool.not_false, Bool.and_true, Bool.true_and, Bool.and_false, Bool.false_and] at s8 s6); first | (exact op_skip (chk4_9 ps) (by rw [wanted_of rfl (chk4_6 ps) rfl s6]; rfl) (hK w hSw)) | (have hcl := (hj hb5).1; exact op_valW (chk4_9 ps) (by rw [wanted_of rfl (chk4_6 ps) rfl s6]; rfl) (by unfold chk4O9 execOp; simp only [s8, chk4T, cond_true, cond_false, Bool.not_true, Bool.not_false, Bool.and_true, Bool.true_and, Bool.and_false, Bool.false_and]; first | (go_simp; done) | (go_simp; with_reducible rfl)) (hK w hSw)))
    | 10, _, ho =>
    obtain rfl := Option.some.inj (ho.symm.trans (chk4_10 ps))
    have s7 := hs 7 21 (by rfl) rfl
    have s9 := hs 9 23 (by rfl) rfl
    have s6 := hs 6 20 (by rfl) rfl
    cases d2 <;> cases b5
    all_goals ((try simp only [chk4T, cond_true, cond_false, Bool.not_true, Bool.not_false, Bool.and_true, Bool.true_and, Bool.and_false, Bool.false_and] at s7 s9 s6); first | (exact op_skip (chk4_10 ps) (by rw [wanted_of rfl (chk4_6 ps) rfl s6]; rfl) (hK w hSw)) | (have hcl := (hj hb5).2; exact op_valW (chk4_10 ps) (by rw [wanted_of rfl (chk4_6 ps) rfl s6]; rfl) (by unfold chk4O10 execOp; simp only [s7, s9, chk4T, cond_true, cond_false, Bool.not_true, Bool.not_false, Bool.and_true, Bool.true_and, Bool.and_false, Bool.false_and]; first | (go_simp; done) | (go_simp; with_reducible rfl)) (hK w hSw)))
    | 11, _, ho =>
    obtain rfl := Option.some.inj (ho.symm.trans (chk4_11 ps))
    have s10 := hs 10 24 (by rfl) rfl
    have s6 := hs 6 20 (by rfl) rfl
    cases d2 <;> cases b5
    all_goals ((try simp only [chk4T, cond_true, cond_false, Bool.not_true, Bool.not_false, Bool.and_true, Bool.true_and, Bool.and_false, Bool.false_and] at s10 s6); first | (exact op_skip (chk4_11 ps) (by rw [wanted_of rfl (chk4_6 ps) rfl s6]; rfl) (hK w hSw)) | (have hcl := hSw.2.2 hb5; exact op_valW (chk4_11 ps) (by rw [wanted_of rfl (chk4_6 ps) rfl s6]; rfl) (by unfold chk4O11 execOp; simp only [s10, chk4T, cond_true, cond_false, Bool.not_true, Bool.not_false, Bool.and_true, Bool.true_and, Bool.and_false, Bool.false_and]; first | (go_simp; done) | (go_simp; with_reducible rfl)) (hK w hSw)))
    | 12, _, ho =>
    obtain rfl := Option.some.inj (ho.symm.trans (chk4_12 ps))
    have s6 := hs 6 20 (by rfl) rfl
    have u6 : a.eval (.tmp 6) = .pointer (some ⟨g, 0, none⟩) := (hel 6 (by decide)).trans e6
    have hcl := And.intro hSw.1.cell0 hSw.1.cell1
    cases d2 <;> cases b5
    all_goals ((try simp only [chk4T, cond_true, cond_false, Bool.not_true, Bool.not_false, Bool.and_true, Bool.true_and, Bool.and_false, Bool.false_and] at s6); first | (exact op_skip (chk4_12 ps) (by rw [wanted_of rfl (chk4_6 ps) rfl s6]; rfl) (hK w hSw)) | (exact op_valW (chk4_12 ps) (by rw [wanted_of rfl (chk4_6 ps) rfl s6]; rfl) (by unfold chk4O12 execOp; simp only [u6, chk4T, cond_true, cond_false, Bool.not_true, Bool.not_false, Bool.and_true, Bool.true_and, Bool.and_false, Bool.false_and]; first | (go_simp; done) | (go_simp; with_reducible rfl)) (hK w hSw)))
    | 13, _, ho =>
    obtain rfl := Option.some.inj (ho.symm.trans (chk4_13 ps))
    have s6 := hs 6 20 (by rfl) rfl
    have u1 : a.eval (.tmp 1) = .bool m := (hel 1 (by decide)).trans e1
    cases d2 <;> cases b5
    all_goals ((try simp only [chk4T, cond_true, cond_false, Bool.not_true, Bool.not_false, Bool.and_true, Bool.true_and, Bool.and_false, Bool.false_and] at s6); first | (exact op_skip (chk4_13 ps) (by rw [wanted_of rfl (chk4_6 ps) rfl s6]; rfl) (hK w hSw)) | (exact op_valW (chk4_13 ps) (by rw [wanted_of rfl (chk4_6 ps) rfl s6]; rfl) (by unfold chk4O13 execOp; simp only [u1, chk4T, cond_true, cond_false, Bool.not_true, Bool.not_false, Bool.and_true, Bool.true_and, Bool.and_false, Bool.false_and]; first | (go_simp; done) | (go_simp; with_reducible rfl)) (hK w hSw)))
    | 14, _, ho =>
    obtain rfl := Option.some.inj (ho.symm.trans (chk4_14 ps))
    have s11 := hs 11 25 (by rfl) rfl
    have s12 := hs 12 26 (by rfl) rfl
    have s13 := hs 13 27 (by rfl) rfl
    have s6 := hs 6 20 (by rfl) rfl
    cases d2 <;> cases b5
    all_goals ((try simp only [chk4T, cond_true, cond_false, Bool.not_true, Bool.not_false, Bool.and_true, Bool.true_and, Bool.and_false, Bool.false_and] at s11 s12 s13 s6); first | (exact op_skip (chk4_14 ps) (by rw [wanted_of rfl (chk4_6 ps) rfl s6]; rfl) (hK w hSw)) | (exact op_enterW (chk4_14 ps) (by rw [wanted_of rfl (chk4_6 ps) rfl s6]; rfl) (f := 22) (args := #[.agg #[.int .i64 p.1, .int .i64 p.2], .agg #[.int .i64 x.1, .int .i64 x.2], .bool m]) (by rw [run_call rfl enter22]; simp only [List.map_toArray, List.map_cons, List.map_nil, s11, s12, s13]; try rfl) ((mayFollow_is p x m w b102 hb102).mono (fun e w' hh => ⟨_, hh.1, hK w' ⟨hSw.1.below hh.2 hSw.1.lt, Below.on hSw.2.1 hh.2, fun q => ⟨(hh.2.cell (p := ⟨b, o + j * 2, none⟩) (lt_of_cell (hSw.2.2 q).1)).trans (hSw.2.2 q).1, (hh.2.cell (p := ⟨b, o + j * 2 + 1, none⟩) (lt_of_cell (hSw.2.2 q).2)).trans (hSw.2.2 q).2⟩⟩⟩))))
    | 15, _, ho =>
    obtain rfl := Option.some.inj (ho.symm.trans (chk4_15 ps))
    have s14 := hs 14 28 (by rfl) rfl
    have s6 := hs 6 20 (by rfl) rfl
    cases d2 <;> cases b5
    all_goals ((try simp only [chk4T, cond_true, cond_false, Bool.not_true, Bool.not_false, Bool.and_true, Bool.true_and, Bool.and_false, Bool.false_and] at s14 s6); subst hd15; first | (exact op_skip (chk4_15 ps) (by rw [wanted_of rfl (chk4_6 ps) rfl s6]; rfl) (hK w hSw)) | (exact op_valW (chk4_15 ps) (by rw [wanted_of rfl (chk4_6 ps) rfl s6]; rfl) (by unfold chk4O15 execOp; simp only [s14, chk4T, cond_true, cond_false, Bool.not_true, Bool.not_false, Bool.and_true, Bool.true_and, Bool.and_false, Bool.false_and]; first | (go_simp; done) | (go_simp; with_reducible rfl)) (hK w hSw)))
    | 16, _, ho =>
    obtain rfl := Option.some.inj (ho.symm.trans (chk4_16 ps))
    have s6 := hs 6 20 (by rfl) rfl
    have s15 := hs 15 29 (by rfl) rfl
    have s3 := hs 3 17 (by rfl) rfl
    cases d2 <;> cases b5
    all_goals ((try simp only [chk4T, cond_true, cond_false, Bool.not_true, Bool.not_false, Bool.and_true, Bool.true_and, Bool.and_false, Bool.false_and] at s6 s15 s3); (try (simp only [Bool.true_or, Bool.false_or, Bool.true_and, Bool.false_and] at hd16; subst hd16)); first | (exact op_skip (chk4_16 ps) (by rw [wanted_of rfl (chk4_3 ps) rfl s3]; rfl) (hK w hSw)) | (exact op_valW (chk4_16 ps) (by rw [wanted_of rfl (chk4_3 ps) rfl s3]; rfl) (by unfold chk4O16 execOp; simp only [s6, s15, chk4T, cond_true, cond_false, Bool.not_true, Bool.not_false, Bool.and_true, Bool.true_and, Bool.and_false, Bool.false_and]; first | (go_simp; done) | (go_simp; with_reducible rfl)) (hK w hSw)))
    | 17, _, ho =>
    obtain rfl := Option.some.inj (ho.symm.trans (chk4_17 ps))
    have s3 := hs 3 17 (by rfl) rfl
    have s16 := hs 16 30 (by rfl) rfl
    cases d2
    all_goals ((try simp only [chk4T, cond_true, cond_false, Bool.not_true, Bool.not_false, Bool.and_true, Bool.true_and, Bool.and_false, Bool.false_and] at s3 s16); (try (simp only [Bool.true_or, Bool.false_or, Bool.true_and, Bool.false_and] at hd17; subst hd17)); exact op_valW (chk4_17 ps) rfl (by unfold chk4O17 execOp; simp only [s3, s16, chk4T, cond_true, cond_false, Bool.not_true, Bool.not_false, Bool.and_true, Bool.true_and, Bool.and_false, Bool.false_and]; first | (go_simp; done) | (go_simp; with_reducible rfl)) (hK w hSw))
    | iq + 18, hin, _ => exact absurd hin (by omega)
end Go.Proofs.Ytdacbmjahhefcaa
