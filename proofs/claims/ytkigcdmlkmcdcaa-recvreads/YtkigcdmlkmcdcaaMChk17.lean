/- The document's Check: region 17. -/
import Derived.Test.YtkigcdmlkmcdcaaZ
import Derived.Test.YtkigcdmlkmcdcaaMChk10
namespace Go.Proofs.Ytkigcdmlkmcdcaa
open Go.ChangeShapes Go.WideShapes Go.ChangeAt Go.RowKit
set_option linter.unusedVariables false
set_option linter.unusedSimpArgs false

theorem enter_in (args : Array Value) (w : World) : (callFunc 47 args).run Try.prog w = .ok (.enter 47 args) w := by kernel_rfl
def chk17O0 (ps : String) : Oper := { dst := some 161, op := .fieldAddr 27 (.tmp 1) 11, type := 0, pos := ps, after := #[], guard := none }
def chk17O1 (ps : String) : Oper := { dst := some 162, op := .load 25 (.tmp 161), type := 25, pos := ps, after := #[{ on := 0, ground := .data }], guard := none }
def chk17O2 (ps : String) : Oper := { dst := some 163, op := .move (.tmp 7), type := 3, pos := ps, after := #[], guard := none }
def chk17O3 (ps : String) : Oper := { dst := some 164, op := .indexAddr 25 (.tmp 162) (.tmp 163), type := 0, pos := ps, after := #[{ on := 1, ground := .data }, { on := 2, ground := .data }], guard := none }
def chk17O4 (ps : String) : Oper := { dst := some 165, op := .load 78 (.tmp 164), type := 78, pos := ps, after := #[{ on := 3, ground := .data }], guard := none }
def chk17O5 (ps : String) : Oper := { dst := some 166, op := .move (.tmp 6), type := 25, pos := ps, after := #[], guard := none }
def chk17O6 (ps : String) : Oper := { dst := some 167, op := .call { callee := .value (.func 47), args := #[.tmp 165, .tmp 166], argTypes := #[78, 25] }, type := 4, pos := ps, after := #[{ on := 4, ground := .data }, { on := 5, ground := .data }], guard := none }
def chk17O7 (ps : String) : Oper := { dst := some 168, op := .unOp .not 4 (.tmp 167), type := 4, pos := ps, after := #[{ on := 6, ground := .data }], guard := none }
def chk17O8 (ps : String) : Oper := { dst := some 169, op := .move (.tmp 168), type := 4, pos := ps, after := #[{ on := 7, ground := .data }, { on := 6, ground := .chain }], guard := none }
def chk17O9 (ps : String) : Oper := { dst := some 170, op := .fieldAddr 27 (.tmp 1) 11, type := 0, pos := ps, after := #[{ on := 8, ground := .guard }], guard := some (8, false) }
def zhj (ps : String) : Oper := { dst := some 171, op := .load 25 (.tmp 170), type := 25, pos := ps, after := #[{ on := 9, ground := .data }, { on := 8, ground := .guard }], guard := some (8, false) }
def zhi (ps : String) : Oper := { dst := some 172, op := .move (.tmp 7), type := 3, pos := ps, after := #[{ on := 8, ground := .guard }], guard := some (8, false) }
def zhh (ps : String) : Oper := { dst := some 173, op := .indexAddr 25 (.tmp 171) (.tmp 172), type := 0, pos := ps, after := #[{ on := 10, ground := .data }, { on := 11, ground := .data }, { on := 8, ground := .guard }], guard := some (8, false) }
def zhg (ps : String) : Oper := { dst := some 174, op := .load 78 (.tmp 173), type := 78, pos := ps, after := #[{ on := 12, ground := .data }, { on := 8, ground := .guard }], guard := some (8, false) }
def zhf (ps : String) : Oper := { dst := some 175, op := .fieldAddr 27 (.tmp 1) 11, type := 0, pos := ps, after := #[{ on := 8, ground := .guard }], guard := some (8, false) }
def zhe (ps : String) : Oper := { dst := some 176, op := .load 25 (.tmp 175), type := 25, pos := ps, after := #[{ on := 14, ground := .data }, { on := 8, ground := .guard }], guard := some (8, false) }
def zhd (ps : String) : Oper := { dst := some 177, op := .move (.tmp 7), type := 3, pos := ps, after := #[{ on := 8, ground := .guard }], guard := some (8, false) }
def chk17O17 (ps : String) : Oper := { dst := some 178, op := .slice 25 (.tmp 176) none (some (.tmp 177)) none, type := 25, pos := ps, after := #[{ on := 15, ground := .data }, { on := 16, ground := .data }, { on := 8, ground := .guard }], guard := some (8, false) }
def chk17O18 (ps : String) : Oper := { dst := some 179, op := .call { callee := .value (.func 47), args := #[.tmp 174, .tmp 178], argTypes := #[78, 25] }, type := 4, pos := ps, after := #[{ on := 13, ground := .data }, { on := 17, ground := .data }, { on := 8, ground := .chain }, { on := 8, ground := .guard }], guard := some (8, false) }
def zhc (ps : String) : Oper := { dst := some 180, op := .pick (.tmp 169) (.const (.bool true)) (.tmp 179), type := 4, pos := ps, after := #[{ on := 8, ground := .data }, { on := 18, ground := .data }], guard := none }
def chk17 (ps : String) : Array Oper := #[chk17O0 ps, chk17O1 ps, chk17O2 ps, chk17O3 ps, chk17O4 ps, chk17O5 ps, chk17O6 ps, chk17O7 ps, chk17O8 ps, chk17O9 ps, zhj ps, zhi ps, zhh ps, zhg ps, zhf ps, zhe ps, zhd ps, chk17O17 ps, chk17O18 ps, zhc ps]
theorem chk17_0 (ps : String) : (chk17 ps)[0]? = some (chk17O0 ps) := rfl
theorem chk17_1 (ps : String) : (chk17 ps)[1]? = some (chk17O1 ps) := rfl
theorem chk17_2 (ps : String) : (chk17 ps)[2]? = some (chk17O2 ps) := rfl
theorem chk17_3 (ps : String) : (chk17 ps)[3]? = some (chk17O3 ps) := rfl
theorem chk17_4 (ps : String) : (chk17 ps)[4]? = some (chk17O4 ps) := rfl
theorem chk17_5 (ps : String) : (chk17 ps)[5]? = some (chk17O5 ps) := rfl
theorem chk17_6 (ps : String) : (chk17 ps)[6]? = some (chk17O6 ps) := rfl
theorem chk17_7 (ps : String) : (chk17 ps)[7]? = some (chk17O7 ps) := rfl
theorem zba (ps : String) : (chk17 ps)[8]? = some (chk17O8 ps) := rfl
theorem chk17_9 (ps : String) : (chk17 ps)[9]? = some (chk17O9 ps) := rfl
theorem zhb (ps : String) : (chk17 ps)[10]? = some (zhj ps) := rfl
theorem zha (ps : String) : (chk17 ps)[11]? = some (zhi ps) := rfl
theorem zg9 (ps : String) : (chk17 ps)[12]? = some (zhh ps) := rfl
theorem zg8 (ps : String) : (chk17 ps)[13]? = some (zhg ps) := rfl
theorem zg7 (ps : String) : (chk17 ps)[14]? = some (zhf ps) := rfl
theorem zg6 (ps : String) : (chk17 ps)[15]? = some (zhe ps) := rfl
theorem zg5 (ps : String) : (chk17 ps)[16]? = some (zhd ps) := rfl
theorem zg4 (ps : String) : (chk17 ps)[17]? = some (chk17O17 ps) := rfl
theorem zg3 (ps : String) : (chk17 ps)[18]? = some (chk17O18 ps) := rfl
theorem chk17_19 (ps : String) : (chk17 ps)[19]? = some (zhc ps) := rfl
def chk17D : Nat → Option Tmp
 | 0 => some 161
 | 1 => some 162
 | 2 => some 163
 | 3 => some 164
 | 4 => some 165
 | 5 => some 166
 | 6 => some 167
 | 7 => some 168
 | 8 => some 169
 | 9 => some 170
 | 10 => some 171
 | 11 => some 172
 | 12 => some 173
 | 13 => some 174
 | 14 => some 175
 | 15 => some 176
 | 16 => some 177
 | 17 => some 178
 | 18 => some 179
 | 19 => some 180
 | _ => none
def za3 (r : Pl.Rv) (h : Hd) (g fb fo j sn sc : Nat) (sa : Option Addr) (x : Tm) (b101 b102 d7 d19 : Bool) : Nat → Value
 | 0 => .pointer (some ⟨g, 11, none⟩)
 | 1 => .slice (some ⟨fb, fo, none⟩) r.first.length h.fc
 | 2 => .int .i64 (j : Int)
 | 3 => .pointer (some ⟨fb, fo + j * 2, none⟩)
 | 4 => .agg #[.int .i64 x.1, .int .i64 x.2]
 | 5 => .slice sa sn sc
 | 6 => .bool b101
 | 7 => .bool d7
 | 8 => .bool d7
 | 9 => cond (!d7) (.pointer (some ⟨g, 11, none⟩)) undef
 | 10 => cond (!d7) (.slice (some ⟨fb, fo, none⟩) r.first.length h.fc) undef
 | 11 => cond (!d7) (.int .i64 (j : Int)) undef
 | 12 => cond (!d7) (.pointer (some ⟨fb, fo + j * 2, none⟩)) undef
 | 13 => cond (!d7) (.agg #[.int .i64 x.1, .int .i64 x.2]) undef
 | 14 => cond (!d7) (.pointer (some ⟨g, 11, none⟩)) undef
 | 15 => cond (!d7) (.slice (some ⟨fb, fo, none⟩) r.first.length h.fc) undef
 | 16 => cond (!d7) (.int .i64 (j : Int)) undef
 | 17 => cond (!d7) (.slice (some ⟨fb, fo, none⟩) j h.fc) undef
 | 18 => cond (!d7) (.bool b102) undef
 | 19 => .bool d19
 | _ => undef
set_option maxRecDepth 100000 in
set_option maxHeartbeats 4000000 in
theorem chk17_reg {ps : String} {Q : Exit → Act → World → Prop} {a0 : Act} {W0 : World} (sz : a0.tmps.size = 199) (r : Pl.Rv) (h : Hd) (g fb fo j sn sc : Nat) (sa : Option Addr) (x : Tm)
 (e1 : a0.eval (.tmp 1) = .pointer (some ⟨g, 0, none⟩)) (e6 : a0.eval (.tmp 6) = .slice sa sn sc) (e7 : a0.eval (.tmp 7) = .int .i64 (j : Int))
 (sp : List Tm) {b101 b102 : Bool} (hb : Box W0 g 27 (rvL r h)) (hfa : h.fa = some ⟨fb, fo, none⟩) (hj : (j : Int) < (r.first.length : Int)) (hjc : j ≤ h.fc) (hc1 : W0.cell? ⟨fb, fo + j * 2, none⟩ = some (.int .i64 x.1)) (hc2 : W0.cell? ⟨fb, fo + j * 2 + 1, none⟩ = some (.int .i64 x.2)) (hts : za1 W0 sa sp) (htf : za1 W0 (some ⟨fb, fo, none⟩) (r.first.take j)) (hsn : sp.length = sn) (hjn : (r.first.take j).length = j) (hsl : ∀ W, (Instr.slice 25 (.slice (some ⟨fb, fo, none⟩) r.first.length h.fc) none (some (.int .i64 (j : Int))) none).run Try.prog W = .ok (.slice (some ⟨fb, fo, none⟩) j h.fc) W)
 (hb101 : decide (x ∈ sp) = b101) (hb102 : decide (x ∈ r.first.take j) = b102) {d7 d19 : Bool} (hd7 : (!b101) = d7)
 (hd19 : (d7 || b102) = d19)
 (hfin : ∀ (T : Nat → Value) w, T 19 = .bool d19 → (fun w => Box w g 27 (rvL r h) ∧ Below W0.heap.size W0 w ∧ w.cell? ⟨fb, fo + j * 2, none⟩ = some (.int .i64 x.1) ∧ w.cell? ⟨fb, fo + j * 2 + 1, none⟩ = some (.int .i64 x.2) ∧ za1 w sa sp ∧ za1 w (some ⟨fb, fo, none⟩) (r.first.take j)) w → Q .normal ((((((((((((((((((((a0.put (some 161) (T 0)).put (some 162) (T 1)).put (some 163) (T 2)).put (some 164) (T 3)).put (some 165) (T 4)).put (some 166) (T 5)).put (some 167) (T 6)).put (some 168) (T 7)).put (some 169) (T 8)).put (some 170) (T 9)).put (some 171) (T 10)).put (some 172) (T 11)).put (some 173) (T 12)).put (some 174) (T 13)).put (some 175) (T 14)).put (some 176) (T 15)).put (some 177) (T 16)).put (some 178) (T 17)).put (some 179) (T 18)).put (some 180) (T 19)) w) :
 (Code.region 17 (chk17 ps) true).wp Try.prog Q a0 W0 := by
 refine zb5 (by kernel_rfl) 20 rfl chk17D ?_ (by decide) (za3 r h g fb fo j sn sc sa x b101 b102 d7 d19) (fun w => Box w g 27 (rvL r h) ∧ Below W0.heap.size W0 w ∧ w.cell? ⟨fb, fo + j * 2, none⟩ = some (.int .i64 x.1) ∧ w.cell? ⟨fb, fo + j * 2 + 1, none⟩ = some (.int .i64 x.2) ∧ za1 w sa sp ∧ za1 w (some ⟨fb, fo, none⟩) (r.first.take j)) ⟨hb.of_heap rfl, Below.drew (Below.refl _ _), hc1, hc2, hts.later (Below.drew (Below.refl _ _)), htf.later (Below.drew (Below.refl _ _))⟩ ?_ (by rfl) (fun w hSw => hfin (za3 r h g fb fo j sn sc sa x b101 b102 d7 d19) w rfl hSw)
 · intro jq t hj ht
   have : ∀ j, j < 20 → (chk17D j).all (· < 199) = true := by decide
   have := this jq hj
   rw [ht] at this
   rw [sz]
   simpa using this
 · intro iq o ho a w hSw hs hel K hK
   have hin : iq < 20 := (Array.getElem?_eq_some_iff.1 ho).1
   match iq, hin, ho with
   | 0, _, ho =>
   obtain rfl := Option.some.inj (ho.symm.trans (chk17_0 ps))
   have u1 : a.eval (.tmp 1) = .pointer (some ⟨g, 0, none⟩) := (hel 1 (by decide)).trans e1
   skip
   exact zae (chk17_0 ps) rfl (by unfold chk17O0 execOp; simp only [u1, za3, cond_true, cond_false, Bool.not_true, Bool.not_false, Bool.and_true, Bool.true_and, Bool.and_false, Bool.false_and]; first | (go_simp; done) | (go_simp; with_reducible rfl)) (hK w hSw)
   | 1, _, ho =>
   obtain rfl := Option.some.inj (ho.symm.trans (chk17_1 ps))
   have s0 := hs 0 161 (by rfl) rfl
   have hcl := (hSw.1.cell 11 rfl).trans (by rw [hfa])
   (try simp only [za3, cond_true, cond_false, Bool.not_true, Bool.not_false, Bool.and_true, Bool.true_and, Bool.and_false, Bool.false_and] at s0)
   exact zae (chk17_1 ps) rfl (by unfold chk17O1 execOp; simp only [s0, za3, cond_true, cond_false, Bool.not_true, Bool.not_false, Bool.and_true, Bool.true_and, Bool.and_false, Bool.false_and]; first | (go_simp; done) | (go_simp; with_reducible rfl)) (hK w hSw)
   | 2, _, ho =>
   obtain rfl := Option.some.inj (ho.symm.trans (chk17_2 ps))
   have u7 : a.eval (.tmp 7) = .int .i64 (j : Int) := (hel 7 (by decide)).trans e7
   skip
   exact zae (chk17_2 ps) rfl (by unfold chk17O2 execOp; simp only [u7, za3, cond_true, cond_false, Bool.not_true, Bool.not_false, Bool.and_true, Bool.true_and, Bool.and_false, Bool.false_and]; first | (go_simp; done) | (go_simp; with_reducible rfl)) (hK w hSw)
   | 3, _, ho =>
   obtain rfl := Option.some.inj (ho.symm.trans (chk17_3 ps))
   have s1 := hs 1 162 (by rfl) rfl
   have s2 := hs 2 163 (by rfl) rfl
   (try simp only [za3, cond_true, cond_false, Bool.not_true, Bool.not_false, Bool.and_true, Bool.true_and, Bool.and_false, Bool.false_and] at s1 s2)
   exact zae (chk17_3 ps) rfl (by unfold chk17O3 execOp; simp only [s1, s2, za3, cond_true, cond_false, Bool.not_true, Bool.not_false, Bool.and_true, Bool.true_and, Bool.and_false, Bool.false_and]; first | (go_simp; done) | (go_simp; with_reducible rfl)) (hK w hSw)
   | 4, _, ho =>
   obtain rfl := Option.some.inj (ho.symm.trans (chk17_4 ps))
   have s3 := hs 3 164 (by rfl) rfl
   have hcl := And.intro hSw.2.2.1 hSw.2.2.2.1
   (try simp only [za3, cond_true, cond_false, Bool.not_true, Bool.not_false, Bool.and_true, Bool.true_and, Bool.and_false, Bool.false_and] at s3)
   exact zae (chk17_4 ps) rfl (by unfold chk17O4 execOp; simp only [s3, za3, cond_true, cond_false, Bool.not_true, Bool.not_false, Bool.and_true, Bool.true_and, Bool.and_false, Bool.false_and]; first | (go_simp; done) | (go_simp; with_reducible rfl)) (hK w hSw)
   | 5, _, ho =>
   obtain rfl := Option.some.inj (ho.symm.trans (chk17_5 ps))
   have u6 : a.eval (.tmp 6) = .slice sa sn sc := (hel 6 (by decide)).trans e6
   skip
   exact zae (chk17_5 ps) rfl (by unfold chk17O5 execOp; simp only [u6, za3, cond_true, cond_false, Bool.not_true, Bool.not_false, Bool.and_true, Bool.true_and, Bool.and_false, Bool.false_and]; first | (go_simp; done) | (go_simp; with_reducible rfl)) (hK w hSw)
   | 6, _, ho =>
   obtain rfl := Option.some.inj (ho.symm.trans (chk17_6 ps))
   have s4 := hs 4 165 (by rfl) rfl
   have s5 := hs 5 166 (by rfl) rfl
   (try simp only [za3, cond_true, cond_false, Bool.not_true, Bool.not_false, Bool.and_true, Bool.true_and, Bool.and_false, Bool.false_and] at s4 s5)
   exact zbh (chk17_6 ps) rfl (f := 47) (args := #[.agg #[.int .i64 x.1, .int .i64 x.2], .slice sa sn sc]) (by rw [zbp rfl enter_in]; simp only [List.map_toArray, List.map_cons, List.map_nil, s4, s5]; try rfl) ((refIn_any x sa sc sp w hSw.2.2.2.2.1 sn hsn b101 hb101).mono (fun e w' hh => ⟨_, hh.1, hK w' ⟨hSw.1.later hh.2, Below.on hSw.2.1 hh.2, (hh.2.cell (p := ⟨fb, fo + j * 2, none⟩) (zac hSw.2.2.1)).trans hSw.2.2.1, (hh.2.cell (p := ⟨fb, fo + j * 2 + 1, none⟩) (zac hSw.2.2.2.1)).trans hSw.2.2.2.1, hSw.2.2.2.2.1.later hh.2, hSw.2.2.2.2.2.later hh.2⟩⟩))
   | 7, _, ho =>
   obtain rfl := Option.some.inj (ho.symm.trans (chk17_7 ps))
   have s6 := hs 6 167 (by rfl) rfl
   (try simp only [za3, cond_true, cond_false, Bool.not_true, Bool.not_false, Bool.and_true, Bool.true_and, Bool.and_false, Bool.false_and] at s6)
   subst hd7
   exact zae (chk17_7 ps) rfl (by unfold chk17O7 execOp; simp only [s6, za3, cond_true, cond_false, Bool.not_true, Bool.not_false, Bool.and_true, Bool.true_and, Bool.and_false, Bool.false_and]; first | (go_simp; done) | (go_simp; with_reducible rfl)) (hK w hSw)
   | 8, _, ho =>
   obtain rfl := Option.some.inj (ho.symm.trans (zba ps))
   have s7 := hs 7 168 (by rfl) rfl
   (try simp only [za3, cond_true, cond_false, Bool.not_true, Bool.not_false, Bool.and_true, Bool.true_and, Bool.and_false, Bool.false_and] at s7)
   exact zae (zba ps) rfl (by unfold chk17O8 execOp; simp only [s7, za3, cond_true, cond_false, Bool.not_true, Bool.not_false, Bool.and_true, Bool.true_and, Bool.and_false, Bool.false_and]; first | (go_simp; done) | (go_simp; with_reducible rfl)) (hK w hSw)
   | 9, _, ho =>
   obtain rfl := Option.some.inj (ho.symm.trans (chk17_9 ps))
   have s8 := hs 8 169 (by rfl) rfl
   have u1 : a.eval (.tmp 1) = .pointer (some ⟨g, 0, none⟩) := (hel 1 (by decide)).trans e1
   cases d7
   all_goals ((try simp only [za3, cond_true, cond_false, Bool.not_true, Bool.not_false, Bool.and_true, Bool.true_and, Bool.and_false, Bool.false_and] at s8); first | (exact zaj (chk17_9 ps) (by rw [zab rfl (zba ps) rfl s8]; rfl) (hK w hSw)) | (exact zae (chk17_9 ps) (by rw [zab rfl (zba ps) rfl s8]; rfl) (by unfold chk17O9 execOp; simp only [u1, za3, cond_true, cond_false, Bool.not_true, Bool.not_false, Bool.and_true, Bool.true_and, Bool.and_false, Bool.false_and]; first | (go_simp; done) | (go_simp; with_reducible rfl)) (hK w hSw)))
   | 10, _, ho =>
   obtain rfl := Option.some.inj (ho.symm.trans (zhb ps))
   have s9 := hs 9 170 (by rfl) rfl
   have s8 := hs 8 169 (by rfl) rfl
   have hcl := (hSw.1.cell 11 rfl).trans (by rw [hfa])
   cases d7
   all_goals ((try simp only [za3, cond_true, cond_false, Bool.not_true, Bool.not_false, Bool.and_true, Bool.true_and, Bool.and_false, Bool.false_and] at s9 s8); first | (exact zaj (zhb ps) (by rw [zab rfl (zba ps) rfl s8]; rfl) (hK w hSw)) | (exact zae (zhb ps) (by rw [zab rfl (zba ps) rfl s8]; rfl) (by unfold zhj execOp; simp only [s9, za3, cond_true, cond_false, Bool.not_true, Bool.not_false, Bool.and_true, Bool.true_and, Bool.and_false, Bool.false_and]; first | (go_simp; done) | (go_simp; with_reducible rfl)) (hK w hSw)))
   | 11, _, ho =>
   obtain rfl := Option.some.inj (ho.symm.trans (zha ps))
   have s8 := hs 8 169 (by rfl) rfl
   have u7 : a.eval (.tmp 7) = .int .i64 (j : Int) := (hel 7 (by decide)).trans e7
   cases d7
   all_goals ((try simp only [za3, cond_true, cond_false, Bool.not_true, Bool.not_false, Bool.and_true, Bool.true_and, Bool.and_false, Bool.false_and] at s8); first | (exact zaj (zha ps) (by rw [zab rfl (zba ps) rfl s8]; rfl) (hK w hSw)) | (exact zae (zha ps) (by rw [zab rfl (zba ps) rfl s8]; rfl) (by unfold zhi execOp; simp only [u7, za3, cond_true, cond_false, Bool.not_true, Bool.not_false, Bool.and_true, Bool.true_and, Bool.and_false, Bool.false_and]; first | (go_simp; done) | (go_simp; with_reducible rfl)) (hK w hSw)))
   | 12, _, ho =>
   obtain rfl := Option.some.inj (ho.symm.trans (zg9 ps))
   have s10 := hs 10 171 (by rfl) rfl
   have s11 := hs 11 172 (by rfl) rfl
   have s8 := hs 8 169 (by rfl) rfl
   cases d7
   all_goals ((try simp only [za3, cond_true, cond_false, Bool.not_true, Bool.not_false, Bool.and_true, Bool.true_and, Bool.and_false, Bool.false_and] at s10 s11 s8); first | (exact zaj (zg9 ps) (by rw [zab rfl (zba ps) rfl s8]; rfl) (hK w hSw)) | (exact zae (zg9 ps) (by rw [zab rfl (zba ps) rfl s8]; rfl) (by unfold zhh execOp; simp only [s10, s11, za3, cond_true, cond_false, Bool.not_true, Bool.not_false, Bool.and_true, Bool.true_and, Bool.and_false, Bool.false_and]; first | (go_simp; done) | (go_simp; with_reducible rfl)) (hK w hSw)))
   | 13, _, ho =>
   obtain rfl := Option.some.inj (ho.symm.trans (zg8 ps))
   have s12 := hs 12 173 (by rfl) rfl
   have s8 := hs 8 169 (by rfl) rfl
   have hcl := And.intro hSw.2.2.1 hSw.2.2.2.1
   cases d7
   all_goals ((try simp only [za3, cond_true, cond_false, Bool.not_true, Bool.not_false, Bool.and_true, Bool.true_and, Bool.and_false, Bool.false_and] at s12 s8); first | (exact zaj (zg8 ps) (by rw [zab rfl (zba ps) rfl s8]; rfl) (hK w hSw)) | (exact zae (zg8 ps) (by rw [zab rfl (zba ps) rfl s8]; rfl) (by unfold zhg execOp; simp only [s12, za3, cond_true, cond_false, Bool.not_true, Bool.not_false, Bool.and_true, Bool.true_and, Bool.and_false, Bool.false_and]; first | (go_simp; done) | (go_simp; with_reducible rfl)) (hK w hSw)))
   | 14, _, ho =>
   obtain rfl := Option.some.inj (ho.symm.trans (zg7 ps))
   have s8 := hs 8 169 (by rfl) rfl
   have u1 : a.eval (.tmp 1) = .pointer (some ⟨g, 0, none⟩) := (hel 1 (by decide)).trans e1
   cases d7
   all_goals ((try simp only [za3, cond_true, cond_false, Bool.not_true, Bool.not_false, Bool.and_true, Bool.true_and, Bool.and_false, Bool.false_and] at s8); first | (exact zaj (zg7 ps) (by rw [zab rfl (zba ps) rfl s8]; rfl) (hK w hSw)) | (exact zae (zg7 ps) (by rw [zab rfl (zba ps) rfl s8]; rfl) (by unfold zhf execOp; simp only [u1, za3, cond_true, cond_false, Bool.not_true, Bool.not_false, Bool.and_true, Bool.true_and, Bool.and_false, Bool.false_and]; first | (go_simp; done) | (go_simp; with_reducible rfl)) (hK w hSw)))
   | 15, _, ho =>
   obtain rfl := Option.some.inj (ho.symm.trans (zg6 ps))
   have s14 := hs 14 175 (by rfl) rfl
   have s8 := hs 8 169 (by rfl) rfl
   have hcl := (hSw.1.cell 11 rfl).trans (by rw [hfa])
   cases d7
   all_goals ((try simp only [za3, cond_true, cond_false, Bool.not_true, Bool.not_false, Bool.and_true, Bool.true_and, Bool.and_false, Bool.false_and] at s14 s8); first | (exact zaj (zg6 ps) (by rw [zab rfl (zba ps) rfl s8]; rfl) (hK w hSw)) | (exact zae (zg6 ps) (by rw [zab rfl (zba ps) rfl s8]; rfl) (by unfold zhe execOp; simp only [s14, za3, cond_true, cond_false, Bool.not_true, Bool.not_false, Bool.and_true, Bool.true_and, Bool.and_false, Bool.false_and]; first | (go_simp; done) | (go_simp; with_reducible rfl)) (hK w hSw)))
   | 16, _, ho =>
   obtain rfl := Option.some.inj (ho.symm.trans (zg5 ps))
   have s8 := hs 8 169 (by rfl) rfl
   have u7 : a.eval (.tmp 7) = .int .i64 (j : Int) := (hel 7 (by decide)).trans e7
   cases d7
   all_goals ((try simp only [za3, cond_true, cond_false, Bool.not_true, Bool.not_false, Bool.and_true, Bool.true_and, Bool.and_false, Bool.false_and] at s8); first | (exact zaj (zg5 ps) (by rw [zab rfl (zba ps) rfl s8]; rfl) (hK w hSw)) | (exact zae (zg5 ps) (by rw [zab rfl (zba ps) rfl s8]; rfl) (by unfold zhd execOp; simp only [u7, za3, cond_true, cond_false, Bool.not_true, Bool.not_false, Bool.and_true, Bool.true_and, Bool.and_false, Bool.false_and]; first | (go_simp; done) | (go_simp; with_reducible rfl)) (hK w hSw)))
   | 17, _, ho =>
   obtain rfl := Option.some.inj (ho.symm.trans (zg4 ps))
   have s15 := hs 15 176 (by rfl) rfl
   have s16 := hs 16 177 (by rfl) rfl
   have s8 := hs 8 169 (by rfl) rfl
   have hcl := hsl
   cases d7
   all_goals ((try simp only [za3, cond_true, cond_false, Bool.not_true, Bool.not_false, Bool.and_true, Bool.true_and, Bool.and_false, Bool.false_and] at s15 s16 s8); first | (exact zaj (zg4 ps) (by rw [zab rfl (zba ps) rfl s8]; rfl) (hK w hSw)) | (exact zae (zg4 ps) (by rw [zab rfl (zba ps) rfl s8]; rfl) (run_sliceH (e := 78) (by kernel_rfl) rfl s15 s16 hsl w) (hK w hSw)))
   | 18, _, ho =>
   obtain rfl := Option.some.inj (ho.symm.trans (zg3 ps))
   have s13 := hs 13 174 (by rfl) rfl
   have s17 := hs 17 178 (by rfl) rfl
   have s8 := hs 8 169 (by rfl) rfl
   cases d7
   all_goals ((try simp only [za3, cond_true, cond_false, Bool.not_true, Bool.not_false, Bool.and_true, Bool.true_and, Bool.and_false, Bool.false_and] at s13 s17 s8); first | (exact zaj (zg3 ps) (by rw [zab rfl (zba ps) rfl s8]; rfl) (hK w hSw)) | (exact zbh (zg3 ps) (by rw [zab rfl (zba ps) rfl s8]; rfl) (f := 47) (args := #[.agg #[.int .i64 x.1, .int .i64 x.2], .slice (some ⟨fb, fo, none⟩) j h.fc]) (by rw [zbp rfl enter_in]; simp only [List.map_toArray, List.map_cons, List.map_nil, s13, s17]; try rfl) ((refIn_any x (some ⟨fb, fo, none⟩) h.fc (r.first.take j) w hSw.2.2.2.2.2 j hjn b102 hb102).mono (fun e w' hh => ⟨_, hh.1, hK w' ⟨hSw.1.later hh.2, Below.on hSw.2.1 hh.2, (hh.2.cell (p := ⟨fb, fo + j * 2, none⟩) (zac hSw.2.2.1)).trans hSw.2.2.1, (hh.2.cell (p := ⟨fb, fo + j * 2 + 1, none⟩) (zac hSw.2.2.2.1)).trans hSw.2.2.2.1, hSw.2.2.2.2.1.later hh.2, hSw.2.2.2.2.2.later hh.2⟩⟩))))
   | 19, _, ho =>
   obtain rfl := Option.some.inj (ho.symm.trans (chk17_19 ps))
   have s8 := hs 8 169 (by rfl) rfl
   have s18 := hs 18 179 (by rfl) rfl
   cases d7
   all_goals ((try simp only [za3, cond_true, cond_false, Bool.not_true, Bool.not_false, Bool.and_true, Bool.true_and, Bool.and_false, Bool.false_and] at s8 s18); (try (simp only [Bool.true_or, Bool.false_or, Bool.true_and, Bool.false_and] at hd19; subst hd19)); exact zae (chk17_19 ps) rfl (by unfold zhc execOp; simp only [s8, s18, za3, cond_true, cond_false, Bool.not_true, Bool.not_false, Bool.and_true, Bool.true_and, Bool.and_false, Bool.false_and]; first | (go_simp; done) | (go_simp; with_reducible rfl)) (hK w hSw))
   | iq + 20, hin, _ => exact absurd hin (by omega)
end Go.Proofs.Ytkigcdmlkmcdcaa

