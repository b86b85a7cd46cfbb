/- Texts: KLrt, KLr -/
import Derived.Test.YtagmighcofllhaaDoorGD
import Derived.Test.YtagmighcofllhaaDoorGC
namespace Go.Proofs.YtagmighcofllhaaDoor
open Go.ChangeShapes Go.WideShapes Go.ChangeAt Go.RowKit
set_option linter.unusedVariables false
set_option linter.unusedSimpArgs false

open Fil
def lr1O0 (ps : String) : Oper := { dst := some 7, op := .fieldAddr 28 (.tmp 3) 3, type := 0, pos := ps, after := #[], guard := none }
def lr1O1 (ps : String) : Oper := { dst := some 8, op := .load 3 (.tmp 7), type := 3, pos := ps, after := #[{ on := 0, ground := .data }], guard := none }
def lr1O2 (ps : String) : Oper := { dst := some 9, op := .binOp .eql 3 (.tmp 8) (.const (.int .i64 0)) 3, type := 4, pos := ps, after := #[{ on := 1, ground := .data }], guard := none }
def lr1O3 (ps : String) : Oper := { dst := some 10, op := .move (.tmp 9), type := 4, pos := ps, after := #[{ on := 2, ground := .data }], guard := none }
def lr1O4 (ps : String) : Oper := { dst := some 11, op := .fieldAddr 28 (.tmp 3) 4, type := 0, pos := ps, after := #[{ on := 3, ground := .guard }], guard := some (3, false) }
def lr1O5 (ps : String) : Oper := { dst := some 12, op := .load 4 (.tmp 11), type := 4, pos := ps, after := #[{ on := 4, ground := .data }, { on := 3, ground := .guard }], guard := some (3, false) }
def lr1O6 (ps : String) : Oper := { dst := some 13, op := .move (.tmp 12), type := 4, pos := ps, after := #[{ on := 5, ground := .data }, { on := 3, ground := .chain }, { on := 3, ground := .guard }], guard := some (3, false) }
def lr1O7 (ps : String) : Oper := { dst := some 14, op := .fieldAddr 28 (.tmp 3) 3, type := 0, pos := ps, after := #[{ on := 6, ground := .guard }], guard := some (6, true) }
def lr1O8 (ps : String) : Oper := { dst := some 15, op := .load 3 (.tmp 14), type := 3, pos := ps, after := #[{ on := 7, ground := .data }, { on := 6, ground := .guard }], guard := some (6, true) }
def lr1O9 (ps : String) : Oper := { dst := some 16, op := .move (.tmp 0), type := 70, pos := ps, after := #[{ on := 6, ground := .guard }], guard := some (6, true) }
def lr1O10 (ps : String) : Oper := { dst := some 17, op := .nilCheck (.tmp 16), type := 0, pos := ps, after := #[{ on := 9, ground := .data }, { on := 6, ground := .guard }], guard := some (6, true) }
def lr1O11 (ps : String) : Oper := { dst := some 18, op := .load 48 (.tmp 17), type := 48, pos := ps, after := #[{ on := 10, ground := .data }, { on := 6, ground := .guard }], guard := some (6, true) }
def lr1O12 (ps : String) : Oper := { dst := some 19, op := .call { callee := .value (.func 51), args := #[.tmp 18], argTypes := #[70] }, type := 3, pos := ps, after := #[{ on := 11, ground := .data }, { on := 6, ground := .chain }, { on := 6, ground := .guard }], guard := some (6, true) }
def lr1O13 (ps : String) : Oper := { dst := some 20, op := .binOp .lss 3 (.tmp 15) (.tmp 19) 3, type := 4, pos := ps, after := #[{ on := 8, ground := .data }, { on := 12, ground := .data }, { on := 6, ground := .guard }], guard := some (6, true) }
def lr1O14 (ps : String) : Oper := { dst := some 21, op := .pick (.tmp 13) (.tmp 20) (.const (.bool false)), type := 4, pos := ps, after := #[{ on := 6, ground := .data }, { on := 13, ground := .data }, { on := 3, ground := .guard }], guard := some (3, false) }
def lr1O15 (ps : String) : Oper := { dst := some 22, op := .pick (.tmp 10) (.const (.bool true)) (.tmp 21), type := 4, pos := ps, after := #[{ on := 3, ground := .data }, { on := 14, ground := .data }], guard := none }
def lr1 (ps : String) : Array Oper := #[lr1O0 ps, lr1O1 ps, lr1O2 ps, lr1O3 ps, lr1O4 ps, lr1O5 ps, lr1O6 ps, lr1O7 ps, lr1O8 ps, lr1O9 ps, lr1O10 ps, lr1O11 ps, lr1O12 ps, lr1O13 ps, lr1O14 ps, lr1O15 ps]
theorem lr1_0 (ps : String) : (lr1 ps)[0]? = some (lr1O0 ps) := rfl
theorem lr1_1 (ps : String) : (lr1 ps)[1]? = some (lr1O1 ps) := rfl
theorem lr1_2 (ps : String) : (lr1 ps)[2]? = some (lr1O2 ps) := rfl
theorem lr1_3 (ps : String) : (lr1 ps)[3]? = some (lr1O3 ps) := rfl
theorem lr1_4 (ps : String) : (lr1 ps)[4]? = some (lr1O4 ps) := rfl
theorem lr1_5 (ps : String) : (lr1 ps)[5]? = some (lr1O5 ps) := rfl
theorem lr1_6 (ps : String) : (lr1 ps)[6]? = some (lr1O6 ps) := rfl
theorem lr1_7 (ps : String) : (lr1 ps)[7]? = some (lr1O7 ps) := rfl
theorem lr1_8 (ps : String) : (lr1 ps)[8]? = some (lr1O8 ps) := rfl
theorem lr1_9 (ps : String) : (lr1 ps)[9]? = some (lr1O9 ps) := rfl
theorem lr1_10 (ps : String) : (lr1 ps)[10]? = some (lr1O10 ps) := rfl
theorem lr1_11 (ps : String) : (lr1 ps)[11]? = some (lr1O11 ps) := rfl
theorem lr1_12 (ps : String) : (lr1 ps)[12]? = some (lr1O12 ps) := rfl
theorem lr1_13 (ps : String) : (lr1 ps)[13]? = some (lr1O13 ps) := rfl
theorem lr1_14 (ps : String) : (lr1 ps)[14]? = some (lr1O14 ps) := rfl
theorem lr1_15 (ps : String) : (lr1 ps)[15]? = some (lr1O15 ps) := rfl
def lr1D : Nat → Option Tmp
  | 0 => some 7
  | 1 => some 8
  | 2 => some 9
  | 3 => some 10
  | 4 => some 11
  | 5 => some 12
  | 6 => some 13
  | 7 => some 14
  | 8 => some 15
  | 9 => some 16
  | 10 => some 17
  | 11 => some 18
  | 12 => some 19
  | 13 => some 20
  | 14 => some 21
  | 15 => some 22
  | _ => none
def lr1T (c : Cc) (s : Sm) (g p : Nat) (b : Int) (bt : Bool) : Nat → Value
  | 0 => .pointer (some ⟨p, 3, none⟩)
  | 1 => .int .i64 s.rr
  | 2 => .bool false
  | 3 => .bool false
  | 4 => .pointer (some ⟨p, 4, none⟩)
  | 5 => .bool true
  | 6 => .bool true
  | 7 => .pointer (some ⟨p, 3, none⟩)
  | 8 => .int .i64 s.rr
  | 9 => .pointer (some ⟨g, 0, none⟩)
  | 10 => .pointer (some ⟨g, 0, none⟩)
  | 11 => ccv c
  | 12 => .int .i64 b
  | 13 => .bool bt
  | 14 => .bool bt
  | 15 => .bool bt
  | _ => undef
set_option maxRecDepth 100000 in
set_option maxHeartbeats 4000000 in
theorem lr1_reg {ps : String} {Q : Exit → Act → World → Prop} {a0 : Act} {W0 : World} (sz : a0.tmps.size = 74) (c : Cc) (s : Sm) (g p : Nat) (b : Int) (bt : Bool)
    (e0 : a0.eval (.tmp 0) = .pointer (some ⟨g, 0, none⟩)) (e3 : a0.eval (.tmp 3) = .pointer (some ⟨p, 0, none⟩))
    (hb : Box W0 g 48 (ccL c)) (hs : Box W0 p 28 (smL s)) (hne : p ≠ g) (hz : (s.rr == 0) = false) (hi : s.idl = true) (hP : decide (s.rr < b) = bt) (c1 : ∀ W, Chg W0 g W → Calls Tryd.prog 51 #[ccv c] W fun e w' => e = .returned (.int .i64 b) ∧ Below W.heap.size W w')
    (hfin : ∀ (T : Nat → Value) w, T 15 = .bool bt → Chg W0 g w ∧ Box w g 48 (ccL c) ∧ Box w p 28 (smL s) → Q .normal ((((((((((((((((a0.put (some 7) (T 0)).put (some 8) (T 1)).put (some 9) (T 2)).put (some 10) (T 3)).put (some 11) (T 4)).put (some 12) (T 5)).put (some 13) (T 6)).put (some 14) (T 7)).put (some 15) (T 8)).put (some 16) (T 9)).put (some 17) (T 10)).put (some 18) (T 11)).put (some 19) (T 12)).put (some 20) (T 13)).put (some 21) (T 14)).put (some 22) (T 15)) w) :
    (Code.region 1 (lr1 ps) true).wp Tryd.prog Q a0 W0 := by
  refine wp_region_dets (by kernel_rfl) 16 rfl lr1D ?_ (by decide) (lr1T c s g p b bt) (fun D w => Chg W0 g w ∧ Box w g 48 (ccL c) ∧ Box w p 28 (smL s)) (fun D _ => ⟨(Chg.refl W0 g).drew, hb.drew, hs.drew⟩) ?_ (by rfl) (fun w D _ hSw => hfin (lr1T c s g p b bt) w rfl hSw)
  · intro jq t hj ht
    have : ∀ j, j < 16 → (lr1D j).all (· < 74) = true := by decide
    have := this jq hj
    rw [ht] at this
    rw [sz]
    simpa using this
  · intro iq o ho D a w hSw hDi hcl hs hel K hK
    have hin : iq < 16 := (Array.getElem?_eq_some_iff.1 ho).1
    match iq, hin, ho with
    | 0, _, ho =>
      obtain rfl := Option.some.inj (ho.symm.trans (lr1_0 ps))
      have u3 : a.eval (.tmp 3) = .pointer (some ⟨p, 0, none⟩) := (hel 3 (by decide)).trans e3
      exact op_valW (lr1_0 ps) rfl (v := .pointer (some ⟨p, 3, none⟩)) (by unfold lr1O0 execOp; simp only [u3]; first | (go_simp; done) | (go_simp; with_reducible rfl)) (hK w (fun D' _ _ => hSw))
    | 1, _, ho =>
      obtain rfl := Option.some.inj (ho.symm.trans (lr1_1 ps))
      have s0 : a.eval (.tmp 7) = .pointer (some ⟨p, 3, none⟩) := hs 0 7 (by rfl) rfl
      have hcl : w.cell? ⟨p, 3, none⟩ = some (.int .i64 s.rr) := Box.cell hSw.2.2 3 rfl
      exact op_valW (lr1_1 ps) rfl (v := .int .i64 s.rr) (by unfold lr1O1 execOp; simp only [s0]; first | (go_simp; done) | (go_simp; with_reducible rfl)) (hK w (fun D' _ _ => hSw))
    | 2, _, ho =>
      obtain rfl := Option.some.inj (ho.symm.trans (lr1_2 ps))
      have s1 : a.eval (.tmp 8) = .int .i64 s.rr := hs 1 8 (by rfl) rfl
      have hcl : (s.rr == 0) = false := hz
      exact op_valW (lr1_2 ps) rfl (v := .bool false) (by unfold lr1O2 execOp; simp only [s1]; first | (go_simp; done) | (go_simp; with_reducible rfl)) (hK w (fun D' _ _ => hSw))
    | 3, _, ho =>
      obtain rfl := Option.some.inj (ho.symm.trans (lr1_3 ps))
      have s2 : a.eval (.tmp 9) = .bool false := hs 2 9 (by rfl) rfl
      exact op_valW (lr1_3 ps) rfl (v := .bool false) (by unfold lr1O3 execOp; simp only [s2]; first | (go_simp; done) | (go_simp; with_reducible rfl)) (hK w (fun D' _ _ => hSw))
    | 4, _, ho =>
      obtain rfl := Option.some.inj (ho.symm.trans (lr1_4 ps))
      have s3 : a.eval (.tmp 10) = .bool false := hs 3 10 (by rfl) rfl
      have u3 : a.eval (.tmp 3) = .pointer (some ⟨p, 0, none⟩) := (hel 3 (by decide)).trans e3
      exact op_valW (lr1_4 ps) (by rw [wanted_of rfl (lr1_3 ps) rfl s3]; rfl) (v := .pointer (some ⟨p, 4, none⟩)) (by unfold lr1O4 execOp; simp only [u3]; first | (go_simp; done) | (go_simp; with_reducible rfl)) (hK w (fun D' _ _ => hSw))
    | 5, _, ho =>
      obtain rfl := Option.some.inj (ho.symm.trans (lr1_5 ps))
      have s4 : a.eval (.tmp 11) = .pointer (some ⟨p, 4, none⟩) := hs 4 11 (by rfl) rfl
      have s3 : a.eval (.tmp 10) = .bool false := hs 3 10 (by rfl) rfl
      have hcl : w.cell? ⟨p, 4, none⟩ = some (.bool true) := by
        have := Box.cell hSw.2.2 4 rfl
        rw [hi] at this
        exact this
      exact op_valW (lr1_5 ps) (by rw [wanted_of rfl (lr1_3 ps) rfl s3]; rfl) (v := .bool true) (by unfold lr1O5 execOp; simp only [s4]; first | (go_simp; done) | (go_simp; with_reducible rfl)) (hK w (fun D' _ _ => hSw))
    | 6, _, ho =>
      obtain rfl := Option.some.inj (ho.symm.trans (lr1_6 ps))
      have s5 : a.eval (.tmp 12) = .bool true := hs 5 12 (by rfl) rfl
      have s3 : a.eval (.tmp 10) = .bool false := hs 3 10 (by rfl) rfl
      exact op_valW (lr1_6 ps) (by rw [wanted_of rfl (lr1_3 ps) rfl s3]; rfl) (v := .bool true) (by unfold lr1O6 execOp; simp only [s5]; first | (go_simp; done) | (go_simp; with_reducible rfl)) (hK w (fun D' _ _ => hSw))
    | 7, _, ho =>
      obtain rfl := Option.some.inj (ho.symm.trans (lr1_7 ps))
      have s6 : a.eval (.tmp 13) = .bool true := hs 6 13 (by rfl) rfl
      have u3 : a.eval (.tmp 3) = .pointer (some ⟨p, 0, none⟩) := (hel 3 (by decide)).trans e3
      exact op_valW (lr1_7 ps) (by rw [wanted_of rfl (lr1_6 ps) rfl s6]; rfl) (v := .pointer (some ⟨p, 3, none⟩)) (by unfold lr1O7 execOp; simp only [u3]; first | (go_simp; done) | (go_simp; with_reducible rfl)) (hK w (fun D' _ _ => hSw))
    | 8, _, ho =>
      obtain rfl := Option.some.inj (ho.symm.trans (lr1_8 ps))
      have s7 : a.eval (.tmp 14) = .pointer (some ⟨p, 3, none⟩) := hs 7 14 (by rfl) rfl
      have s6 : a.eval (.tmp 13) = .bool true := hs 6 13 (by rfl) rfl
      have hcl : w.cell? ⟨p, 3, none⟩ = some (.int .i64 s.rr) := Box.cell hSw.2.2 3 rfl
      exact op_valW (lr1_8 ps) (by rw [wanted_of rfl (lr1_6 ps) rfl s6]; rfl) (v := .int .i64 s.rr) (by unfold lr1O8 execOp; simp only [s7]; first | (go_simp; done) | (go_simp; with_reducible rfl)) (hK w (fun D' _ _ => hSw))
    | 9, _, ho =>
      obtain rfl := Option.some.inj (ho.symm.trans (lr1_9 ps))
      have s6 : a.eval (.tmp 13) = .bool true := hs 6 13 (by rfl) rfl
      have u0 : a.eval (.tmp 0) = .pointer (some ⟨g, 0, none⟩) := (hel 0 (by decide)).trans e0
      exact op_valW (lr1_9 ps) (by rw [wanted_of rfl (lr1_6 ps) rfl s6]; rfl) (v := .pointer (some ⟨g, 0, none⟩)) (by unfold lr1O9 execOp; simp only [u0]; first | (go_simp; done) | (go_simp; with_reducible rfl)) (hK w (fun D' _ _ => hSw))
    | 10, _, ho =>
      obtain rfl := Option.some.inj (ho.symm.trans (lr1_10 ps))
      have s9 : a.eval (.tmp 16) = .pointer (some ⟨g, 0, none⟩) := hs 9 16 (by rfl) rfl
      have s6 : a.eval (.tmp 13) = .bool true := hs 6 13 (by rfl) rfl
      exact op_valW (lr1_10 ps) (by rw [wanted_of rfl (lr1_6 ps) rfl s6]; rfl) (v := .pointer (some ⟨g, 0, none⟩)) (by unfold lr1O10 execOp; simp only [s9]; first | (go_simp; done) | (go_simp; with_reducible rfl)) (hK w (fun D' _ _ => hSw))
    | 11, _, ho =>
      obtain rfl := Option.some.inj (ho.symm.trans (lr1_11 ps))
      have s10 : a.eval (.tmp 17) = .pointer (some ⟨g, 0, none⟩) := hs 10 17 (by rfl) rfl
      have s6 : a.eval (.tmp 13) = .bool true := hs 6 13 (by rfl) rfl
      exact op_valW (lr1_11 ps) (by rw [wanted_of rfl (lr1_6 ps) rfl s6]; rfl) (v := ccv c) (run_loadC isC48 rfl s10 hSw.2.1) (hK w (fun D' _ _ => hSw))
    | 12, _, ho =>
      obtain rfl := Option.some.inj (ho.symm.trans (lr1_12 ps))
      have s11 : a.eval (.tmp 18) = ccv c := hs 11 18 (by rfl) rfl
      have s6 : a.eval (.tmp 13) = .bool true := hs 6 13 (by rfl) rfl
      exact op_enterW (lr1_12 ps) (by rw [wanted_of rfl (lr1_6 ps) rfl s6]; rfl) (f := 51) (args := #[ccv c]) (by rw [run_call rfl enter51]; simp only [List.map_toArray, List.map_cons, List.map_nil, s11]; try rfl) ((c1 w hSw.1).mono (fun e w' hh => ⟨_, hh.1, hK w' (fun D' _ _ => ⟨hSw.1.later hSw.2.1.lt hh.2, hSw.2.1.later hh.2, hSw.2.2.later hh.2⟩)⟩))
    | 13, _, ho =>
      obtain rfl := Option.some.inj (ho.symm.trans (lr1_13 ps))
      have s8 : a.eval (.tmp 15) = .int .i64 s.rr := hs 8 15 (by rfl) rfl
      have s12 : a.eval (.tmp 19) = .int .i64 b := hs 12 19 (by rfl) rfl
      have s6 : a.eval (.tmp 13) = .bool true := hs 6 13 (by rfl) rfl
      have hcl : decide (s.rr < b) = bt := hP
      exact op_valW (lr1_13 ps) (by rw [wanted_of rfl (lr1_6 ps) rfl s6]; rfl) (v := .bool bt) (by unfold lr1O13 execOp; simp only [s8, s12]; first | (go_simp; done) | (go_simp; with_reducible rfl)) (hK w (fun D' _ _ => hSw))
    | 14, _, ho =>
      obtain rfl := Option.some.inj (ho.symm.trans (lr1_14 ps))
      have s6 : a.eval (.tmp 13) = .bool true := hs 6 13 (by rfl) rfl
      have s13 : a.eval (.tmp 20) = .bool bt := hs 13 20 (by rfl) rfl
      have s3 : a.eval (.tmp 10) = .bool false := hs 3 10 (by rfl) rfl
      exact op_valW (lr1_14 ps) (by rw [wanted_of rfl (lr1_3 ps) rfl s3]; rfl) (v := .bool bt) (by unfold lr1O14 execOp; simp only [s6, s13]; first | (go_simp; done) | (go_simp; with_reducible rfl)) (hK w (fun D' _ _ => hSw))
    | 15, _, ho =>
      obtain rfl := Option.some.inj (ho.symm.trans (lr1_15 ps))
      have s3 : a.eval (.tmp 10) = .bool false := hs 3 10 (by rfl) rfl
      have s14 : a.eval (.tmp 21) = .bool bt := hs 14 21 (by rfl) rfl
      exact op_valW (lr1_15 ps) rfl (v := .bool bt) (by unfold lr1O15 execOp; simp only [s3, s14]; first | (go_simp; done) | (go_simp; with_reducible rfl)) (hK w (fun D' _ _ => hSw))
    | iq + 16, hin, _ => exact absurd hin (by omega)

set_option maxRecDepth 100000 in
set_option maxHeartbeats 4000000 in
theorem lrat_z (c : Cc) (s : Sm) (g : Nat) (w : World) (es : List Tm) (HB : Hid (Box w g 48 (ccL c))) (HR : Hid (Fil.RowT w 0 c.ba c.bn c.bc es)) (hz : (s.rr == 0) = true) (hb : Box w g 48 (ccL c)) : Calls Tryd.prog 27 #[.pointer (some ⟨g, 0, none⟩), agv (smL s)] w fun e w' => ∃ va vk, e = .returned (.tuple #[]) ∧ Chg w g w' ∧ Box w' g 48 (ccL (rowed c va c.bn vk)) ∧ Fil.RowT w' 0 va c.bn vk es := by
  have HF : Hid (Chg w g w ∧ Box w g 48 (ccL c)) := ⟨Chg.refl w g, hb⟩
  clear hb
  go_enter Tryd.func27, Tryd.ntmps27
  go_wp2_with (first | (refine wpS_box rfl rfl rfl ?_))
  intro X1 p HN
  have HG : Hid (Chg w g X1 ∧ Box X1 g 48 (ccL c)) := ⟨HF.out.1.later HF.out.2.lt HN.out.2.1, HF.out.2.later HN.out.2.1⟩
  have HS : Hid (Box X1 p 28 (smL s) ∧ g < p ∧ w.heap.size ≤ p) := ⟨HN.out.2.2, by have := HF.out.2.lt; rw [HN.out.1]; exact this, by rw [HN.out.1]; exact HF.out.1.size⟩
  clear HF HN
  have HF := HG
  clear HG
  have hne : p ≠ g := by have := HS.out.2.1; omega
  have hlp := HS.out.1.lt
  have j3 := Box.cell HS.out.1 3 rfl
  have fz := fun i => Box.frozen HF.out.2 i
  have hlt := HF.out.2.lt
  go_upto_region 1 with fail
  go_quiet (fail)
  go_wp2_with fail
  first | go_end0 | ((try simp only [Exit.inBlock, Exit.then]); refine bodyPost_ret (results_none rfl _ _ _) rfl ?_)
  refine ⟨c.ba, c.bc, rfl, ?hs, ?hx, ?hr⟩
  case hr => exact Fil.RowT.chg HR.out HB.out (by decide) (by repeat (first | with_reducible exact HF.out.1 | with_reducible refine Chg.set ?_ _ _ | with_reducible refine Chg.drewN ?_ _ | with_reducible refine Chg.drew ?_))
  case hs => repeat (first | with_reducible exact HF.out.1 | with_reducible refine Chg.set ?_ _ _ | with_reducible refine Chg.drewN ?_ _ | with_reducible refine Chg.drew ?_)
  case hx =>
    apply box_to
    · repeat (first | with_reducible exact HF.out.2 | with_reducible apply Box.set | with_reducible apply Box.drewN | with_reducible apply Box.drew)
    · rfl

set_option maxRecDepth 100000 in
set_option maxHeartbeats 4000000 in
theorem lrat_y (c : Cc) (s : Sm) (g : Nat) (w : World) (es : List Tm) (HB : Hid (Box w g 48 (ccL c))) (HR : Hid (Fil.RowT w 0 c.ba c.bn c.bc es)) (hz : (s.rr == 0) = false) (b : Int) (HI : Hid (s.idl = true)) (hP : Hid (decide (s.rr < b) = true)) (c1 : ∀ W, Chg w g W → Calls Tryd.prog 51 #[ccv c] W fun e w' => e = .returned (.int .i64 b) ∧ Below W.heap.size W w') (hb : Box w g 48 (ccL c)) : Calls Tryd.prog 27 #[.pointer (some ⟨g, 0, none⟩), agv (smL s)] w fun e w' => ∃ va vk, e = .returned (.tuple #[]) ∧ Chg w g w' ∧ Box w' g 48 (ccL (rowed c va c.bn vk)) ∧ Fil.RowT w' 0 va c.bn vk es := by
  have HF : Hid (Chg w g w ∧ Box w g 48 (ccL c)) := ⟨Chg.refl w g, hb⟩
  clear hb
  go_enter Tryd.func27, Tryd.ntmps27
  go_wp2_with (first | (refine wpS_box rfl rfl rfl ?_))
  intro X1 p HN
  have HG : Hid (Chg w g X1 ∧ Box X1 g 48 (ccL c)) := ⟨HF.out.1.later HF.out.2.lt HN.out.2.1, HF.out.2.later HN.out.2.1⟩
  have HS : Hid (Box X1 p 28 (smL s) ∧ g < p ∧ w.heap.size ≤ p) := ⟨HN.out.2.2, by have := HF.out.2.lt; rw [HN.out.1]; exact this, by rw [HN.out.1]; exact HF.out.1.size⟩
  clear HF HN
  have HF := HG
  clear HG
  have hne : p ≠ g := by have := HS.out.2.1; omega
  have hlp := HS.out.1.lt
  have j3 := Box.cell HS.out.1 3 rfl
  have fz := fun i => Box.frozen HF.out.2 i
  have hlt := HF.out.2.lt
  clear j3 fz hlt
  go_upto_region 1 with fail
  refine lr1_reg (by rfl) c s g p b true rfl rfl HF.out.2 HS.out.1 hne hz HI.out hP.out (fun W hW => c1 W (HF.out.1.trans hW)) ?_
  intro T w9 hT hS
  simp only [Act.put, List.setIfInBounds_toArray, List.set_cons_zero, List.set_cons_succ]
  simp only [hT]
  have HG : Hid (Chg w g w9 ∧ Box w9 g 48 (ccL c)) := ⟨HF.out.1.trans hS.1, hS.2.1⟩
  have HS2 : Hid (Box w9 p 28 (smL s) ∧ g < p ∧ w.heap.size ≤ p) := ⟨hS.2.2, HS.out.2⟩
  clear HS
  have HS := HS2
  clear HS2
  clear hS HF hT
  have HF := HG
  clear HG
  clear c1 hP HI
  have j3 := Box.cell HS.out.1 3 rfl
  have fz := fun i => Box.frozen HF.out.2 i
  have hlt := HF.out.2.lt
  go_wp2_with fail
  first | go_end0 | ((try simp only [Exit.inBlock, Exit.then]); refine bodyPost_ret (results_none rfl _ _ _) rfl ?_)
  refine ⟨c.ba, c.bc, rfl, ?hs, ?hx, ?hr⟩
  case hr => exact Fil.RowT.chg HR.out HB.out (by decide) (by repeat (first | with_reducible exact HF.out.1 | with_reducible refine Chg.set ?_ _ _ | with_reducible refine Chg.drewN ?_ _ | with_reducible refine Chg.drew ?_))
  case hs => repeat (first | with_reducible exact HF.out.1 | with_reducible refine Chg.set ?_ _ _ | with_reducible refine Chg.drewN ?_ _ | with_reducible refine Chg.drew ?_)
  case hx =>
    apply box_to
    · repeat (first | with_reducible exact HF.out.2 | with_reducible apply Box.set | with_reducible apply Box.drewN | with_reducible apply Box.drew)
    · rfl

set_option maxRecDepth 100000 in
set_option maxHeartbeats 4000000 in
theorem lrat_ne (c : Cc) (s : Sm) (g : Nat) (w : World) (es : List Tm) (HB : Hid (Box w g 48 (ccL c))) (HR : Hid (Fil.RowT w 0 c.ba c.bn c.bc es)) (hz : (s.rr == 0) = false) (HI : Hid (s.idl = false)) (v2 q : Int) (S_ : List Tm) (L n k : Nat) (HL : Hid (c.bn = n ∧ n = 0)) (c3 : ∀ W, Chg w g W → Calls Tryd.prog 59 #[.slice c.ba n c.bc, .int .i64 c.rd, .int .i64 s.rr, .int .i64 10, .bool true] W fun e w' => ∃ va vc, e = .returned (.tuple #[.slice va L vc, .int .i64 q]) ∧ Fil.RowT w' W.heap.size va L vc S_ ∧ Below W.heap.size W w') (hb : Box w g 48 (ccL c)) : Calls Tryd.prog 27 #[.pointer (some ⟨g, 0, none⟩), agv (smL s)] w fun e w' => ∃ va vk, e = .returned (.tuple #[]) ∧ Chg w g w' ∧ Box w' g 48 (ccL (rowed c va L vk)) ∧ Fil.RowT w' 0 va L vk S_ := by
  have HF : Hid (Chg w g w ∧ Box w g 48 (ccL c)) := ⟨Chg.refl w g, hb⟩
  clear hb
  go_enter Tryd.func27, Tryd.ntmps27
  go_wp2_with (first | (refine wpS_box rfl rfl rfl ?_))
  intro X1 p HN
  have HG : Hid (Chg w g X1 ∧ Box X1 g 48 (ccL c)) := ⟨HF.out.1.later HF.out.2.lt HN.out.2.1, HF.out.2.later HN.out.2.1⟩
  have HS : Hid (Box X1 p 28 (smL s) ∧ g < p ∧ w.heap.size ≤ p) := ⟨HN.out.2.2, by have := HF.out.2.lt; rw [HN.out.1]; exact this, by rw [HN.out.1]; exact HF.out.1.size⟩
  clear HF HN
  have HF := HG
  clear HG
  have hne : p ≠ g := by have := HS.out.2.1; omega
  have hlp := HS.out.1.lt
  have k14 := Box.cell HF.out.2 14 rfl
  have j3 := Box.cell HS.out.1 3 rfl
  have fz := fun i => Box.frozen HF.out.2 i
  have hlt := HF.out.2.lt
  have j4 := Box.cell HS.out.1 4 rfl
  rw [HI.out] at j4
  go_upto_region 1 with fail
  go_quiet (fail)
  have k11 := Box.cell HF.out.2 11 rfl
  rw [HL.out.1] at k11
  have hs1 : IntKind.i64.wrap ((n : Int) - 1) = -1 := by have := HL.out.2; rw [IntKind.wrap_i64]; omega
  have hn0 : (n : Int) ≤ 9223372036854775807 := by have := HL.out.2; omega
  clear HL
  go_upto_region 2 with fail
  go_quiet (fail)
  go_upto_region 4 with fail
  go_quiet (fail)
  go_wp2_with fail
  refine (c3 _ (by repeat (first | with_reducible exact HF.out.1 | with_reducible refine Chg.set ?_ _ _ | with_reducible refine Chg.drewN ?_ _ | with_reducible refine Chg.drew ?_))).mono ?_
  rintro e w5 ⟨va, vc, rfl, hR, hB⟩
  have HG : Hid (Chg w g w5 ∧ Box w5 g 48 (ccL c)) := by
    refine ⟨Chg.later ?h1 (by simpa using hlt) hB, Box.later ?h2 hB⟩
    case h1 => repeat (first | with_reducible exact HF.out.1 | with_reducible refine Chg.set ?_ _ _ | with_reducible refine Chg.drewN ?_ _ | with_reducible refine Chg.drew ?_)
    case h2 =>
      apply box_to
      · repeat (first | with_reducible exact HF.out.2 | with_reducible apply Box.set | with_reducible apply Box.drewN | with_reducible apply Box.drew)
      · rfl
  clear HF
  have HF := HG
  clear HG
  have m11 := Box.cell HF.out.2 11 rfl
  have fz2 := fun i => Box.frozen HF.out.2 i
  have hlt2 := HF.out.2.lt
  have HQ : Hid (Fil.RowT w5 0 va L vc S_) := hR.mono (Nat.zero_le _)
  clear hR hB c3
  go_wp2_with fail
  go_end0
  refine ⟨va, vc, rfl, ?hs, ?hx, ?hr⟩
  case hr => exact HQ.out.set HF.out.2 (by decide) 11 _
  case hs => repeat (first | with_reducible exact HF.out.1 | with_reducible refine Chg.set ?_ _ _ | with_reducible refine Chg.drewN ?_ _ | with_reducible refine Chg.drew ?_)
  case hx =>
    apply box_to
    · repeat (first | with_reducible exact HF.out.2 | with_reducible apply Box.set | with_reducible apply Box.drewN | with_reducible apply Box.drew)
    · rfl

set_option maxRecDepth 100000 in
set_option maxHeartbeats 4000000 in
theorem lrat_na (c : Cc) (s : Sm) (g : Nat) (w : World) (es : List Tm) (HB : Hid (Box w g 48 (ccL c))) (HR : Hid (Fil.RowT w 0 c.ba c.bn c.bc es)) (hz : (s.rr == 0) = false) (HI : Hid (s.idl = false)) (v2 q : Int) (S_ : List Tm) (L n k : Nat) (x : Tm) (HX : Hid (es[k]?.getD (0, 0) = x)) (HK : Hid (c.bn = n ∧ k < es.length)) (HL : Hid (n = k + 1 ∧ n ≤ c.bc ∧ n ≤ 9223372036854775807)) (at1 : (x.1 == c.rd) = true) (hmx : (if s.rr < x.2 then x.2 else s.rr) = v2) (c3 : ∀ W A, Chg w g W → c.ba = A → Calls Tryd.prog 59 #[.slice A k k, .int .i64 c.rd, .int .i64 v2, .int .i64 10, .bool true] W fun e w' => ∃ va vc, e = .returned (.tuple #[.slice va L vc, .int .i64 q]) ∧ Fil.RowT w' W.heap.size va L vc S_ ∧ Below W.heap.size W w') (hb : Box w g 48 (ccL c)) : Calls Tryd.prog 27 #[.pointer (some ⟨g, 0, none⟩), agv (smL s)] w fun e w' => ∃ va vk, e = .returned (.tuple #[]) ∧ Chg w g w' ∧ Box w' g 48 (ccL (rowed c va L vk)) ∧ Fil.RowT w' 0 va L vk S_ := by
  have HF : Hid (Chg w g w ∧ Box w g 48 (ccL c)) := ⟨Chg.refl w g, hb⟩
  clear hb
  go_enter Tryd.func27, Tryd.ntmps27
  go_wp2_with (first | (refine wpS_box rfl rfl rfl ?_))
  intro X1 p HN
  have HG : Hid (Chg w g X1 ∧ Box X1 g 48 (ccL c)) := ⟨HF.out.1.later HF.out.2.lt HN.out.2.1, HF.out.2.later HN.out.2.1⟩
  have HS : Hid (Box X1 p 28 (smL s) ∧ g < p ∧ w.heap.size ≤ p) := ⟨HN.out.2.2, by have := HF.out.2.lt; rw [HN.out.1]; exact this, by rw [HN.out.1]; exact HF.out.1.size⟩
  clear HF HN
  have HF := HG
  clear HG
  have hne : p ≠ g := by have := HS.out.2.1; omega
  have hlp := HS.out.1.lt
  have k14 := Box.cell HF.out.2 14 rfl
  have j3 := Box.cell HS.out.1 3 rfl
  have fz := fun i => Box.frozen HF.out.2 i
  have hlt := HF.out.2.lt
  have j4 := Box.cell HS.out.1 4 rfl
  rw [HI.out] at j4
  go_upto_region 1 with fail
  go_quiet (fail)
  obtain ⟨b_, o_, hba, ht, hv⟩ := (Fil.RowT.chg HR.out HB.out (by decide) HF.out.1).tims.2 k HK.out.2
  rw [HX.out] at ht hv
  have k11 := Box.cell HF.out.2 11 rfl
  rw [hba, HK.out.1] at k11
  have hs1 : IntKind.i64.wrap ((n : Int) - 1) = (k : Int) := by have := HL.out; rw [IntKind.wrap_i64]; omega
  have hkn : (k : Int) < (n : Int) := by have := HL.out.1; omega
  have hk0 : (0 : Int) ≤ (k : Int) := by omega
  have e1 := sl_hm (some ⟨b_, o_, none⟩) n c.bc k (k : Int) rfl (by have := HL.out; omega)
  have HA : Hid (c.ba = some ⟨b_, o_, none⟩) := hba
  clear hba HX HL HK
  go_upto_region 2 with fail
  go_quiet (fail)
  go_upto_region 4 with fail
  go_quiet (fail)
  go_upto_region 5 with fail
  go_region
  go_wp2_with fail
  refine (c3 _ _ (by repeat (first | with_reducible exact HF.out.1 | with_reducible refine Chg.set ?_ _ _ | with_reducible refine Chg.drewN ?_ _ | with_reducible refine Chg.drew ?_)) HA.out).mono ?_
  rintro e w5 ⟨va, vc, rfl, hR, hB⟩
  have HG : Hid (Chg w g w5 ∧ Box w5 g 48 (ccL c)) := by
    refine ⟨Chg.later ?h1 (by simpa using hlt) hB, Box.later ?h2 hB⟩
    case h1 => repeat (first | with_reducible exact HF.out.1 | with_reducible refine Chg.set ?_ _ _ | with_reducible refine Chg.drewN ?_ _ | with_reducible refine Chg.drew ?_)
    case h2 =>
      apply box_to
      · repeat (first | with_reducible exact HF.out.2 | with_reducible apply Box.set | with_reducible apply Box.drewN | with_reducible apply Box.drew)
      · rfl
  clear HF
  have HF := HG
  clear HG
  have m11 := Box.cell HF.out.2 11 rfl
  have fz2 := fun i => Box.frozen HF.out.2 i
  have hlt2 := HF.out.2.lt
  have HQ : Hid (Fil.RowT w5 0 va L vc S_) := hR.mono (Nat.zero_le _)
  clear hR hB c3
  go_wp2_with fail
  go_end0
  refine ⟨va, vc, rfl, ?hs, ?hx, ?hr⟩
  case hr => exact HQ.out.set HF.out.2 (by decide) 11 _
  case hs => repeat (first | with_reducible exact HF.out.1 | with_reducible refine Chg.set ?_ _ _ | with_reducible refine Chg.drewN ?_ _ | with_reducible refine Chg.drew ?_)
  case hx =>
    apply box_to
    · repeat (first | with_reducible exact HF.out.2 | with_reducible apply Box.set | with_reducible apply Box.drewN | with_reducible apply Box.drew)
    · rfl

set_option maxRecDepth 100000 in
set_option maxHeartbeats 4000000 in
theorem lrat_no (c : Cc) (s : Sm) (g : Nat) (w : World) (es : List Tm) (HB : Hid (Box w g 48 (ccL c))) (HR : Hid (Fil.RowT w 0 c.ba c.bn c.bc es)) (hz : (s.rr == 0) = false) (HI : Hid (s.idl = false)) (v2 q : Int) (S_ : List Tm) (L n k : Nat) (x : Tm) (HX : Hid (es[k]?.getD (0, 0) = x)) (HK : Hid (c.bn = n ∧ k < es.length)) (HL : Hid (n = k + 1 ∧ n ≤ c.bc ∧ n ≤ 9223372036854775807)) (at1 : (x.1 == c.rd) = false) (c3 : ∀ W A, Chg w g W → c.ba = A → Calls Tryd.prog 59 #[.slice A n c.bc, .int .i64 c.rd, .int .i64 s.rr, .int .i64 10, .bool true] W fun e w' => ∃ va vc, e = .returned (.tuple #[.slice va L vc, .int .i64 q]) ∧ Fil.RowT w' W.heap.size va L vc S_ ∧ Below W.heap.size W w') (hb : Box w g 48 (ccL c)) : Calls Tryd.prog 27 #[.pointer (some ⟨g, 0, none⟩), agv (smL s)] w fun e w' => ∃ va vk, e = .returned (.tuple #[]) ∧ Chg w g w' ∧ Box w' g 48 (ccL (rowed c va L vk)) ∧ Fil.RowT w' 0 va L vk S_ := by
  have HF : Hid (Chg w g w ∧ Box w g 48 (ccL c)) := ⟨Chg.refl w g, hb⟩
  clear hb
  go_enter Tryd.func27, Tryd.ntmps27
  go_wp2_with (first | (refine wpS_box rfl rfl rfl ?_))
  intro X1 p HN
  have HG : Hid (Chg w g X1 ∧ Box X1 g 48 (ccL c)) := ⟨HF.out.1.later HF.out.2.lt HN.out.2.1, HF.out.2.later HN.out.2.1⟩
  have HS : Hid (Box X1 p 28 (smL s) ∧ g < p ∧ w.heap.size ≤ p) := ⟨HN.out.2.2, by have := HF.out.2.lt; rw [HN.out.1]; exact this, by rw [HN.out.1]; exact HF.out.1.size⟩
  clear HF HN
  have HF := HG
  clear HG
  have hne : p ≠ g := by have := HS.out.2.1; omega
  have hlp := HS.out.1.lt
  have k14 := Box.cell HF.out.2 14 rfl
  have j3 := Box.cell HS.out.1 3 rfl
  have fz := fun i => Box.frozen HF.out.2 i
  have hlt := HF.out.2.lt
  have j4 := Box.cell HS.out.1 4 rfl
  rw [HI.out] at j4
  go_upto_region 1 with fail
  go_quiet (fail)
  obtain ⟨b_, o_, hba, ht, hv⟩ := (Fil.RowT.chg HR.out HB.out (by decide) HF.out.1).tims.2 k HK.out.2
  rw [HX.out] at ht hv
  have k11 := Box.cell HF.out.2 11 rfl
  rw [hba, HK.out.1] at k11
  have hs1 : IntKind.i64.wrap ((n : Int) - 1) = (k : Int) := by have := HL.out; rw [IntKind.wrap_i64]; omega
  have hkn : (k : Int) < (n : Int) := by have := HL.out.1; omega
  have hk0 : (0 : Int) ≤ (k : Int) := by omega
  have HA : Hid (c.ba = some ⟨b_, o_, none⟩) := hba
  clear hba HX HL HK
  go_upto_region 2 with fail
  go_quiet (fail)
  go_upto_region 4 with fail
  go_quiet (fail)
  go_wp2_with fail
  refine (c3 _ _ (by repeat (first | with_reducible exact HF.out.1 | with_reducible refine Chg.set ?_ _ _ | with_reducible refine Chg.drewN ?_ _ | with_reducible refine Chg.drew ?_)) HA.out).mono ?_
  rintro e w5 ⟨va, vc, rfl, hR, hB⟩
  have HG : Hid (Chg w g w5 ∧ Box w5 g 48 (ccL c)) := by
    refine ⟨Chg.later ?h1 (by simpa using hlt) hB, Box.later ?h2 hB⟩
    case h1 => repeat (first | with_reducible exact HF.out.1 | with_reducible refine Chg.set ?_ _ _ | with_reducible refine Chg.drewN ?_ _ | with_reducible refine Chg.drew ?_)
    case h2 =>
      apply box_to
      · repeat (first | with_reducible exact HF.out.2 | with_reducible apply Box.set | with_reducible apply Box.drewN | with_reducible apply Box.drew)
      · rfl
  clear HF
  have HF := HG
  clear HG
  have m11 := Box.cell HF.out.2 11 rfl
  have fz2 := fun i => Box.frozen HF.out.2 i
  have hlt2 := HF.out.2.lt
  have HQ : Hid (Fil.RowT w5 0 va L vc S_) := hR.mono (Nat.zero_le _)
  clear hR hB c3
  go_wp2_with fail
  go_end0
  refine ⟨va, vc, rfl, ?hs, ?hx, ?hr⟩
  case hr => exact HQ.out.set HF.out.2 (by decide) 11 _
  case hs => repeat (first | with_reducible exact HF.out.1 | with_reducible refine Chg.set ?_ _ _ | with_reducible refine Chg.drewN ?_ _ | with_reducible refine Chg.drew ?_)
  case hx =>
    apply box_to
    · repeat (first | with_reducible exact HF.out.2 | with_reducible apply Box.set | with_reducible apply Box.drewN | with_reducible apply Box.drew)
    · rfl

set_option maxRecDepth 100000 in
set_option maxHeartbeats 4000000 in
theorem lrat_ye (c : Cc) (s : Sm) (g : Nat) (w : World) (es : List Tm) (HB : Hid (Box w g 48 (ccL c))) (HR : Hid (Fil.RowT w 0 c.ba c.bn c.bc es)) (hz : (s.rr == 0) = false) (b : Int) (HI : Hid (s.idl = true)) (hP : Hid (decide (s.rr < b) = false)) (c1 : ∀ W, Chg w g W → Calls Tryd.prog 51 #[ccv c] W fun e w' => e = .returned (.int .i64 b) ∧ Below W.heap.size W w') (v2 q : Int) (S_ : List Tm) (L n k : Nat) (HL : Hid (c.bn = n ∧ n = 0)) (c3 : ∀ W, Chg w g W → Calls Tryd.prog 59 #[.slice c.ba n c.bc, .int .i64 c.rd, .int .i64 s.rr, .int .i64 10, .bool true] W fun e w' => ∃ va vc, e = .returned (.tuple #[.slice va L vc, .int .i64 q]) ∧ Fil.RowT w' W.heap.size va L vc S_ ∧ Below W.heap.size W w') (hb : Box w g 48 (ccL c)) : Calls Tryd.prog 27 #[.pointer (some ⟨g, 0, none⟩), agv (smL s)] w fun e w' => ∃ va vk, e = .returned (.tuple #[]) ∧ Chg w g w' ∧ Box w' g 48 (ccL (rowed c va L vk)) ∧ Fil.RowT w' 0 va L vk S_ := by
  have HF : Hid (Chg w g w ∧ Box w g 48 (ccL c)) := ⟨Chg.refl w g, hb⟩
  clear hb
  go_enter Tryd.func27, Tryd.ntmps27
  go_wp2_with (first | (refine wpS_box rfl rfl rfl ?_))
  intro X1 p HN
  have HG : Hid (Chg w g X1 ∧ Box X1 g 48 (ccL c)) := ⟨HF.out.1.later HF.out.2.lt HN.out.2.1, HF.out.2.later HN.out.2.1⟩
  have HS : Hid (Box X1 p 28 (smL s) ∧ g < p ∧ w.heap.size ≤ p) := ⟨HN.out.2.2, by have := HF.out.2.lt; rw [HN.out.1]; exact this, by rw [HN.out.1]; exact HF.out.1.size⟩
  clear HF HN
  have HF := HG
  clear HG
  have hne : p ≠ g := by have := HS.out.2.1; omega
  have hlp := HS.out.1.lt
  have j3 := Box.cell HS.out.1 3 rfl
  have fz := fun i => Box.frozen HF.out.2 i
  have hlt := HF.out.2.lt
  clear j3 fz hlt
  go_upto_region 1 with fail
  refine lr1_reg (by rfl) c s g p b false rfl rfl HF.out.2 HS.out.1 hne hz HI.out hP.out (fun W hW => c1 W (HF.out.1.trans hW)) ?_
  intro T w9 hT hS
  simp only [Act.put, List.setIfInBounds_toArray, List.set_cons_zero, List.set_cons_succ]
  simp only [hT]
  have HG : Hid (Chg w g w9 ∧ Box w9 g 48 (ccL c)) := ⟨HF.out.1.trans hS.1, hS.2.1⟩
  have HS2 : Hid (Box w9 p 28 (smL s) ∧ g < p ∧ w.heap.size ≤ p) := ⟨hS.2.2, HS.out.2⟩
  clear HS
  have HS := HS2
  clear HS2
  clear hS HF hT
  have HF := HG
  clear HG
  clear c1 hP HI
  have j3 := Box.cell HS.out.1 3 rfl
  have fz := fun i => Box.frozen HF.out.2 i
  have hlt := HF.out.2.lt
  have k11 := Box.cell HF.out.2 11 rfl
  rw [HL.out.1] at k11
  have hs1 : IntKind.i64.wrap ((n : Int) - 1) = -1 := by have := HL.out.2; rw [IntKind.wrap_i64]; omega
  have hn0 : (n : Int) ≤ 9223372036854775807 := by have := HL.out.2; omega
  clear HL
  have k14 := Box.cell HF.out.2 14 rfl
  go_upto_region 2 with fail
  go_quiet (fail)
  go_upto_region 4 with fail
  go_quiet (fail)
  go_wp2_with fail
  refine (c3 _ (by repeat (first | with_reducible exact HF.out.1 | with_reducible refine Chg.set ?_ _ _ | with_reducible refine Chg.drewN ?_ _ | with_reducible refine Chg.drew ?_))).mono ?_
  rintro e w5 ⟨va, vc, rfl, hR, hB⟩
  have HG : Hid (Chg w g w5 ∧ Box w5 g 48 (ccL c)) := by
    refine ⟨Chg.later ?h1 (by simpa using hlt) hB, Box.later ?h2 hB⟩
    case h1 => repeat (first | with_reducible exact HF.out.1 | with_reducible refine Chg.set ?_ _ _ | with_reducible refine Chg.drewN ?_ _ | with_reducible refine Chg.drew ?_)
    case h2 =>
      apply box_to
      · repeat (first | with_reducible exact HF.out.2 | with_reducible apply Box.set | with_reducible apply Box.drewN | with_reducible apply Box.drew)
      · rfl
  clear HF
  have HF := HG
  clear HG
  have m11 := Box.cell HF.out.2 11 rfl
  have fz2 := fun i => Box.frozen HF.out.2 i
  have hlt2 := HF.out.2.lt
  have HQ : Hid (Fil.RowT w5 0 va L vc S_) := hR.mono (Nat.zero_le _)
  clear hR hB c3
  go_wp2_with fail
  go_end0
  refine ⟨va, vc, rfl, ?hs, ?hx, ?hr⟩
  case hr => exact HQ.out.set HF.out.2 (by decide) 11 _
  case hs => repeat (first | with_reducible exact HF.out.1 | with_reducible refine Chg.set ?_ _ _ | with_reducible refine Chg.drewN ?_ _ | with_reducible refine Chg.drew ?_)
  case hx =>
    apply box_to
    · repeat (first | with_reducible exact HF.out.2 | with_reducible apply Box.set | with_reducible apply Box.drewN | with_reducible apply Box.drew)
    · rfl

set_option maxRecDepth 100000 in
set_option maxHeartbeats 4000000 in
theorem lrat_ya (c : Cc) (s : Sm) (g : Nat) (w : World) (es : List Tm) (HB : Hid (Box w g 48 (ccL c))) (HR : Hid (Fil.RowT w 0 c.ba c.bn c.bc es)) (hz : (s.rr == 0) = false) (b : Int) (HI : Hid (s.idl = true)) (hP : Hid (decide (s.rr < b) = false)) (c1 : ∀ W, Chg w g W → Calls Tryd.prog 51 #[ccv c] W fun e w' => e = .returned (.int .i64 b) ∧ Below W.heap.size W w') (v2 q : Int) (S_ : List Tm) (L n k : Nat) (x : Tm) (HX : Hid (es[k]?.getD (0, 0) = x)) (HK : Hid (c.bn = n ∧ k < es.length)) (HL : Hid (n = k + 1 ∧ n ≤ c.bc ∧ n ≤ 9223372036854775807)) (at1 : (x.1 == c.rd) = true) (hmx : (if s.rr < x.2 then x.2 else s.rr) = v2) (c3 : ∀ W A, Chg w g W → c.ba = A → Calls Tryd.prog 59 #[.slice A k k, .int .i64 c.rd, .int .i64 v2, .int .i64 10, .bool true] W fun e w' => ∃ va vc, e = .returned (.tuple #[.slice va L vc, .int .i64 q]) ∧ Fil.RowT w' W.heap.size va L vc S_ ∧ Below W.heap.size W w') (hb : Box w g 48 (ccL c)) : Calls Tryd.prog 27 #[.pointer (some ⟨g, 0, none⟩), agv (smL s)] w fun e w' => ∃ va vk, e = .returned (.tuple #[]) ∧ Chg w g w' ∧ Box w' g 48 (ccL (rowed c va L vk)) ∧ Fil.RowT w' 0 va L vk S_ := by
  have HF : Hid (Chg w g w ∧ Box w g 48 (ccL c)) := ⟨Chg.refl w g, hb⟩
  clear hb
  go_enter Tryd.func27, Tryd.ntmps27
  go_wp2_with (first | (refine wpS_box rfl rfl rfl ?_))
  intro X1 p HN
  have HG : Hid (Chg w g X1 ∧ Box X1 g 48 (ccL c)) := ⟨HF.out.1.later HF.out.2.lt HN.out.2.1, HF.out.2.later HN.out.2.1⟩
  have HS : Hid (Box X1 p 28 (smL s) ∧ g < p ∧ w.heap.size ≤ p) := ⟨HN.out.2.2, by have := HF.out.2.lt; rw [HN.out.1]; exact this, by rw [HN.out.1]; exact HF.out.1.size⟩
  clear HF HN
  have HF := HG
  clear HG
  have hne : p ≠ g := by have := HS.out.2.1; omega
  have hlp := HS.out.1.lt
  have j3 := Box.cell HS.out.1 3 rfl
  have fz := fun i => Box.frozen HF.out.2 i
  have hlt := HF.out.2.lt
  clear j3 fz hlt
  go_upto_region 1 with fail
  refine lr1_reg (by rfl) c s g p b false rfl rfl HF.out.2 HS.out.1 hne hz HI.out hP.out (fun W hW => c1 W (HF.out.1.trans hW)) ?_
  intro T w9 hT hS
  simp only [Act.put, List.setIfInBounds_toArray, List.set_cons_zero, List.set_cons_succ]
  simp only [hT]
  have HG : Hid (Chg w g w9 ∧ Box w9 g 48 (ccL c)) := ⟨HF.out.1.trans hS.1, hS.2.1⟩
  have HS2 : Hid (Box w9 p 28 (smL s) ∧ g < p ∧ w.heap.size ≤ p) := ⟨hS.2.2, HS.out.2⟩
  clear HS
  have HS := HS2
  clear HS2
  clear hS HF hT
  have HF := HG
  clear HG
  clear c1 hP HI
  have j3 := Box.cell HS.out.1 3 rfl
  have fz := fun i => Box.frozen HF.out.2 i
  have hlt := HF.out.2.lt
  obtain ⟨b_, o_, hba, ht, hv⟩ := (Fil.RowT.chg HR.out HB.out (by decide) HF.out.1).tims.2 k HK.out.2
  rw [HX.out] at ht hv
  have k11 := Box.cell HF.out.2 11 rfl
  rw [hba, HK.out.1] at k11
  have hs1 : IntKind.i64.wrap ((n : Int) - 1) = (k : Int) := by have := HL.out; rw [IntKind.wrap_i64]; omega
  have hkn : (k : Int) < (n : Int) := by have := HL.out.1; omega
  have hk0 : (0 : Int) ≤ (k : Int) := by omega
  have e1 := sl_hm (some ⟨b_, o_, none⟩) n c.bc k (k : Int) rfl (by have := HL.out; omega)
  have HA : Hid (c.ba = some ⟨b_, o_, none⟩) := hba
  clear hba HX HL HK
  have k14 := Box.cell HF.out.2 14 rfl
  go_upto_region 2 with fail
  go_quiet (fail)
  go_upto_region 4 with fail
  go_quiet (fail)
  go_upto_region 5 with fail
  go_region
  go_wp2_with fail
  refine (c3 _ _ (by repeat (first | with_reducible exact HF.out.1 | with_reducible refine Chg.set ?_ _ _ | with_reducible refine Chg.drewN ?_ _ | with_reducible refine Chg.drew ?_)) HA.out).mono ?_
  rintro e w5 ⟨va, vc, rfl, hR, hB⟩
  have HG : Hid (Chg w g w5 ∧ Box w5 g 48 (ccL c)) := by
    refine ⟨Chg.later ?h1 (by simpa using hlt) hB, Box.later ?h2 hB⟩
    case h1 => repeat (first | with_reducible exact HF.out.1 | with_reducible refine Chg.set ?_ _ _ | with_reducible refine Chg.drewN ?_ _ | with_reducible refine Chg.drew ?_)
    case h2 =>
      apply box_to
      · repeat (first | with_reducible exact HF.out.2 | with_reducible apply Box.set | with_reducible apply Box.drewN | with_reducible apply Box.drew)
      · rfl
  clear HF
  have HF := HG
  clear HG
  have m11 := Box.cell HF.out.2 11 rfl
  have fz2 := fun i => Box.frozen HF.out.2 i
  have hlt2 := HF.out.2.lt
  have HQ : Hid (Fil.RowT w5 0 va L vc S_) := hR.mono (Nat.zero_le _)
  clear hR hB c3
  go_wp2_with fail
  go_end0
  refine ⟨va, vc, rfl, ?hs, ?hx, ?hr⟩
  case hr => exact HQ.out.set HF.out.2 (by decide) 11 _
  case hs => repeat (first | with_reducible exact HF.out.1 | with_reducible refine Chg.set ?_ _ _ | with_reducible refine Chg.drewN ?_ _ | with_reducible refine Chg.drew ?_)
  case hx =>
    apply box_to
    · repeat (first | with_reducible exact HF.out.2 | with_reducible apply Box.set | with_reducible apply Box.drewN | with_reducible apply Box.drew)
    · rfl

set_option maxRecDepth 100000 in
set_option maxHeartbeats 4000000 in
theorem lrat_yo (c : Cc) (s : Sm) (g : Nat) (w : World) (es : List Tm) (HB : Hid (Box w g 48 (ccL c))) (HR : Hid (Fil.RowT w 0 c.ba c.bn c.bc es)) (hz : (s.rr == 0) = false) (b : Int) (HI : Hid (s.idl = true)) (hP : Hid (decide (s.rr < b) = false)) (c1 : ∀ W, Chg w g W → Calls Tryd.prog 51 #[ccv c] W fun e w' => e = .returned (.int .i64 b) ∧ Below W.heap.size W w') (v2 q : Int) (S_ : List Tm) (L n k : Nat) (x : Tm) (HX : Hid (es[k]?.getD (0, 0) = x)) (HK : Hid (c.bn = n ∧ k < es.length)) (HL : Hid (n = k + 1 ∧ n ≤ c.bc ∧ n ≤ 9223372036854775807)) (at1 : (x.1 == c.rd) = false) (c3 : ∀ W A, Chg w g W → c.ba = A → Calls Tryd.prog 59 #[.slice A n c.bc, .int .i64 c.rd, .int .i64 s.rr, .int .i64 10, .bool true] W fun e w' => ∃ va vc, e = .returned (.tuple #[.slice va L vc, .int .i64 q]) ∧ Fil.RowT w' W.heap.size va L vc S_ ∧ Below W.heap.size W w') (hb : Box w g 48 (ccL c)) : Calls Tryd.prog 27 #[.pointer (some ⟨g, 0, none⟩), agv (smL s)] w fun e w' => ∃ va vk, e = .returned (.tuple #[]) ∧ Chg w g w' ∧ Box w' g 48 (ccL (rowed c va L vk)) ∧ Fil.RowT w' 0 va L vk S_ := by
  have HF : Hid (Chg w g w ∧ Box w g 48 (ccL c)) := ⟨Chg.refl w g, hb⟩
  clear hb
  go_enter Tryd.func27, Tryd.ntmps27
  go_wp2_with (first | (refine wpS_box rfl rfl rfl ?_))
  intro X1 p HN
  have HG : Hid (Chg w g X1 ∧ Box X1 g 48 (ccL c)) := ⟨HF.out.1.later HF.out.2.lt HN.out.2.1, HF.out.2.later HN.out.2.1⟩
  have HS : Hid (Box X1 p 28 (smL s) ∧ g < p ∧ w.heap.size ≤ p) := ⟨HN.out.2.2, by have := HF.out.2.lt; rw [HN.out.1]; exact this, by rw [HN.out.1]; exact HF.out.1.size⟩
  clear HF HN
  have HF := HG
  clear HG
  have hne : p ≠ g := by have := HS.out.2.1; omega
  have hlp := HS.out.1.lt
  have j3 := Box.cell HS.out.1 3 rfl
  have fz := fun i => Box.frozen HF.out.2 i
  have hlt := HF.out.2.lt
  clear j3 fz hlt
  go_upto_region 1 with fail
  refine lr1_reg (by rfl) c s g p b false rfl rfl HF.out.2 HS.out.1 hne hz HI.out hP.out (fun W hW => c1 W (HF.out.1.trans hW)) ?_
  intro T w9 hT hS
  simp only [Act.put, List.setIfInBounds_toArray, List.set_cons_zero, List.set_cons_succ]
  simp only [hT]
  have HG : Hid (Chg w g w9 ∧ Box w9 g 48 (ccL c)) := ⟨HF.out.1.trans hS.1, hS.2.1⟩
  have HS2 : Hid (Box w9 p 28 (smL s) ∧ g < p ∧ w.heap.size ≤ p) := ⟨hS.2.2, HS.out.2⟩
  clear HS
  have HS := HS2
  clear HS2
  clear hS HF hT
  have HF := HG
  clear HG
  clear c1 hP HI
  have j3 := Box.cell HS.out.1 3 rfl
  have fz := fun i => Box.frozen HF.out.2 i
  have hlt := HF.out.2.lt
  obtain ⟨b_, o_, hba, ht, hv⟩ := (Fil.RowT.chg HR.out HB.out (by decide) HF.out.1).tims.2 k HK.out.2
  rw [HX.out] at ht hv
  have k11 := Box.cell HF.out.2 11 rfl
  rw [hba, HK.out.1] at k11
  have hs1 : IntKind.i64.wrap ((n : Int) - 1) = (k : Int) := by have := HL.out; rw [IntKind.wrap_i64]; omega
  have hkn : (k : Int) < (n : Int) := by have := HL.out.1; omega
  have hk0 : (0 : Int) ≤ (k : Int) := by omega
  have HA : Hid (c.ba = some ⟨b_, o_, none⟩) := hba
  clear hba HX HL HK
  have k14 := Box.cell HF.out.2 14 rfl
  go_upto_region 2 with fail
  go_quiet (fail)
  go_upto_region 4 with fail
  go_quiet (fail)
  go_wp2_with fail
  refine (c3 _ _ (by repeat (first | with_reducible exact HF.out.1 | with_reducible refine Chg.set ?_ _ _ | with_reducible refine Chg.drewN ?_ _ | with_reducible refine Chg.drew ?_)) HA.out).mono ?_
  rintro e w5 ⟨va, vc, rfl, hR, hB⟩
  have HG : Hid (Chg w g w5 ∧ Box w5 g 48 (ccL c)) := by
    refine ⟨Chg.later ?h1 (by simpa using hlt) hB, Box.later ?h2 hB⟩
    case h1 => repeat (first | with_reducible exact HF.out.1 | with_reducible refine Chg.set ?_ _ _ | with_reducible refine Chg.drewN ?_ _ | with_reducible refine Chg.drew ?_)
    case h2 =>
      apply box_to
      · repeat (first | with_reducible exact HF.out.2 | with_reducible apply Box.set | with_reducible apply Box.drewN | with_reducible apply Box.drew)
      · rfl
  clear HF
  have HF := HG
  clear HG
  have m11 := Box.cell HF.out.2 11 rfl
  have fz2 := fun i => Box.frozen HF.out.2 i
  have hlt2 := HF.out.2.lt
  have HQ : Hid (Fil.RowT w5 0 va L vc S_) := hR.mono (Nat.zero_le _)
  clear hR hB c3
  go_wp2_with fail
  go_end0
  refine ⟨va, vc, rfl, ?hs, ?hx, ?hr⟩
  case hr => exact HQ.out.set HF.out.2 (by decide) 11 _
  case hs => repeat (first | with_reducible exact HF.out.1 | with_reducible refine Chg.set ?_ _ _ | with_reducible refine Chg.drewN ?_ _ | with_reducible refine Chg.drew ?_)
  case hx =>
    apply box_to
    · repeat (first | with_reducible exact HF.out.2 | with_reducible apply Box.set | with_reducible apply Box.drewN | with_reducible apply Box.drew)
    · rfl
end Go.Proofs.YtagmighcofllhaaDoor

/- The contract of learnRate. -/
namespace Go.Proofs.YtagmighcofllhaaDoor
open Go.ChangeShapes Go.WideShapes Go.ChangeAt Go.RowKit
set_option linter.unusedVariables false
set_option linter.unusedSimpArgs false

open Fil

theorem take_len {es : List Tm} {k : Nat} (h : k ≤ es.length) : (es.take k).length = k := by simp; omega
theorem lrt_is (c : Cc) (s : Sm) (g : Nat) (es : List Tm) (w : World) (hr : 0 ≤ s.rr) (hsz : c.bn * 16 ≤ 140737488351232) (hR : Fil.RowT w 0 c.ba c.bn c.bc es) (c1 : ∀ W, Chg w g W → Calls Tryd.prog 51 #[ccv c] W fun e w' => e = .returned (.int .i64 (bestV es)) ∧ Below W.heap.size W w') (hb : Box w g 48 (ccL c)) :
    Calls Tryd.prog 27 #[.pointer (some ⟨g, 0, none⟩), agv (smL s)] w fun e w' => ∃ va vk, e = .returned (.tuple #[]) ∧ Chg w g w' ∧ Box w' g 48 (ccL (rowed c va (bwL es c.rd s).length vk)) ∧ Fil.RowT w' 0 va (bwL es c.rd s).length vk (bwL es c.rd s) := by
  have T : ∀ W, Chg w g W → TimsAt W c.ba es := fun W hW => (Fil.RowT.chg hR hb (by decide) hW).tims
  have hn := hR.len
  have hM := hR.max
  by_cases hz : s.rr = 0
  · have e : bwL es c.rd s = es := by unfold bwL ratP; rw [if_neg (by simp [hz])]
    rw [e, hn]
    exact lrat_z c s g w es hb hR (by simpa using hz) hb
  have hz' : (s.rr == 0) = false := by simpa using hz
  cases hi : s.idl with
  | false =>
    have hp : ratP es s = true := by unfold ratP; simp [hz, hi]
    have e : bwL es c.rd s = putL true (cutL es c.rd) c.rd (cutV es c.rd s.rr) 10 := by unfold bwL; rw [if_pos hp]
    rw [e]
    rcases Nat.eq_zero_or_pos es.length with h0 | h0
    · obtain rfl := List.eq_nil_of_length_eq_zero h0
      have ec : cutL [] c.rd = [] := rfl
      have ev : cutV [] c.rd s.rr = s.rr := rfl
      rw [ec, ev]
      have hn0 : c.bn = 0 := by simpa using hn.symm
      exact lrat_ne c s g w [] hb hR hz' hi 0 _ _ _ 0 0 ⟨hn0, rfl⟩ (fun W hW => put_is c.ba c.bc [] c.rd s.rr 10 true W (T W hW) 0 rfl (Nat.zero_le _) (by decide) _ rfl _ rfl _ rfl) hb
    · obtain ⟨k, hk⟩ : ∃ k, es.length = k + 1 := ⟨es.length - 1, by omega⟩
      have hml : es.length ≤ 9223372036854775807 := (T w (Chg.refl w g)).1
      have hat : atB es c.rd = decide ((es[k]?.getD (0, 0)).1 = c.rd) := by
        unfold atB
        have e0 : es.isEmpty = false := by
          cases es with
          | nil => simp at h0
          | cons a r => rfl
        rw [show es.length - 1 = k by omega, e0, Bool.not_false, Bool.true_and]
      by_cases ha : (es[k]?.getD (0, 0)).1 = c.rd
      · have ec : cutL es c.rd = es.take k := by unfold cutL; rw [hat, if_pos (decide_eq_true ha), show es.length - 1 = k by omega]
        have ev : cutV es c.rd s.rr = max s.rr (es[k]?.getD (0, 0)).2 := by unfold cutV; rw [hat, if_pos (decide_eq_true ha), show es.length - 1 = k by omega]
        rw [ec, ev]
        exact lrat_na c s g w es hb hR hz' hi _ _ _ _ c.bn k _ rfl ⟨rfl, by omega⟩ ⟨by omega, hM.1, by omega⟩ (by simpa using ha) (by split <;> omega) (fun W A hW hA => put_is A k (es.take k) c.rd _ 10 true W (hA ▸ (T W hW).take k) k (take_len (by omega)) (Nat.le_refl _) (by omega) _ rfl _ rfl _ rfl) hb
      · have ec : cutL es c.rd = es := by unfold cutL; rw [hat, if_neg (by simpa using ha)]
        have ev : cutV es c.rd s.rr = s.rr := by unfold cutV; rw [hat, if_neg (by simpa using ha)]
        rw [ec, ev]
        exact lrat_no c s g w es hb hR hz' hi 0 _ _ _ c.bn k _ rfl ⟨rfl, by omega⟩ ⟨by omega, hM.1, by omega⟩ (by simpa using ha) (fun W A hW hA => put_is A c.bc es c.rd s.rr 10 true W (hA ▸ T W hW) c.bn hn hM.1 hsz _ rfl _ rfl _ rfl) hb
  | true =>
    by_cases hP : s.rr < bestV es
    · have e : bwL es c.rd s = es := by unfold bwL ratP; rw [if_neg (by simp [hi, hP])]
      rw [e, hn]
      exact lrat_y c s g w es hb hR hz' _ hi (decide_eq_true hP) c1 hb
    have hp : ratP es s = true := by unfold ratP; simp [hz, hi, hP]
    have e : bwL es c.rd s = putL true (cutL es c.rd) c.rd (cutV es c.rd s.rr) 10 := by unfold bwL; rw [if_pos hp]
    rw [e]
    rcases Nat.eq_zero_or_pos es.length with h0 | h0
    · obtain rfl := List.eq_nil_of_length_eq_zero h0
      have ec : cutL [] c.rd = [] := rfl
      have ev : cutV [] c.rd s.rr = s.rr := rfl
      rw [ec, ev]
      have hn0 : c.bn = 0 := by simpa using hn.symm
      exact lrat_ye c s g w [] hb hR hz' _ hi (decide_eq_false hP) c1 0 _ _ _ 0 0 ⟨hn0, rfl⟩ (fun W hW => put_is c.ba c.bc [] c.rd s.rr 10 true W (T W hW) 0 rfl (Nat.zero_le _) (by decide) _ rfl _ rfl _ rfl) hb
    · obtain ⟨k, hk⟩ : ∃ k, es.length = k + 1 := ⟨es.length - 1, by omega⟩
      have hml : es.length ≤ 9223372036854775807 := (T w (Chg.refl w g)).1
      have hat : atB es c.rd = decide ((es[k]?.getD (0, 0)).1 = c.rd) := by
        unfold atB
        have e0 : es.isEmpty = false := by
          cases es with
          | nil => simp at h0
          | cons a r => rfl
        rw [show es.length - 1 = k by omega, e0, Bool.not_false, Bool.true_and]
      by_cases ha : (es[k]?.getD (0, 0)).1 = c.rd
      · have ec : cutL es c.rd = es.take k := by unfold cutL; rw [hat, if_pos (decide_eq_true ha), show es.length - 1 = k by omega]
        have ev : cutV es c.rd s.rr = max s.rr (es[k]?.getD (0, 0)).2 := by unfold cutV; rw [hat, if_pos (decide_eq_true ha), show es.length - 1 = k by omega]
        rw [ec, ev]
        exact lrat_ya c s g w es hb hR hz' _ hi (decide_eq_false hP) c1 _ _ _ _ c.bn k _ rfl ⟨rfl, by omega⟩ ⟨by omega, hM.1, by omega⟩ (by simpa using ha) (by split <;> omega) (fun W A hW hA => put_is A k (es.take k) c.rd _ 10 true W (hA ▸ (T W hW).take k) k (take_len (by omega)) (Nat.le_refl _) (by omega) _ rfl _ rfl _ rfl) hb
      · have ec : cutL es c.rd = es := by unfold cutL; rw [hat, if_neg (by simpa using ha)]
        have ev : cutV es c.rd s.rr = s.rr := by unfold cutV; rw [hat, if_neg (by simpa using ha)]
        rw [ec, ev]
        exact lrat_yo c s g w es hb hR hz' _ hi (decide_eq_false hP) c1 0 _ _ _ c.bn k _ rfl ⟨rfl, by omega⟩ ⟨by omega, hM.1, by omega⟩ (by simpa using ha) (fun W A hW hA => put_is A c.bc es c.rd s.rr 10 true W (hA ▸ T W hW) c.bn hn hM.1 hsz _ rfl _ rfl _ rfl) hb
end Go.Proofs.YtagmighcofllhaaDoor
