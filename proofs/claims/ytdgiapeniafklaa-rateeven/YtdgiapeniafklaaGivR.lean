/- Given's regions that draw their order. -/
import Derived.Test.YtdgiapeniafklaaDets
import Derived.Test.YtdgiapeniafklaaFits
namespace Go.Proofs.Ytdgiapeniafklaa
open Go.ChangeShapes Go.WideShapes Go.ChangeAt Go.RowKit Go.Shelf
set_option linter.unusedVariables false
set_option linter.unusedSimpArgs false
attribute [local go_sem] Oper.semAt_some


/-- A block of deferred calls, empty. -/
def Def (W : World) (d : Nat) : Prop := W.heap[d]? = some (.deferred (some []))
theorem Def.lt {W : World} {d : Nat} (h : Def W d) : d < W.heap.size := (Array.getElem?_eq_some_iff.1 h).1
theorem Def.later {W X : World} {d : Nat} (h : Def W d) (hb : Below W.heap.size W X) : Def X d := (hb.block d h.lt).trans h
theorem Def.sto {W X : World} {d g : Nat} (h : Def W d) (hs : Sto W g X) (hk : d ≠ g) : Def X d := (hs.other d hk).trans h
theorem Def.aside {W : World} {d : Nat} (h : Def W d) (g i : Nat) (v : Value) (hk : d ≠ g) : Def (W.setCell ⟨g, i, none⟩ v) d := h.sto ((Sto.refl W g).set i v) hk

theorem built26a (now gv : Int) : Try.prog.built 26 [(0, .int .i64 now), (5, .int .i64 gv)] = some (smL ⟨now, 0, 0, 0, false, gv, 0, 0⟩).toArray := by kernel_rfl
theorem built26b (now ak rt rate : Int) (i : Bool) (gv bf : Int) : Try.prog.built 26 [(0, .int .i64 now), (1, .int .i64 ak), (2, .int .i64 rt), (3, .int .i64 rate), (4, .bool i), (5, .int .i64 gv), (6, .int .i64 bf)] = some (smL ⟨now, ak, rt, rate, i, gv, bf, 0⟩).toArray := by kernel_rfl
def gv15O0 (ps : String) : Oper := { dst := some 58, op := .load 23 (.tmp 4), type := 23, pos := ps, after := #[], guard := none }
def gv15O1 (ps : String) : Oper := { dst := some 59, op := .move (.tmp 2), type := 3, pos := ps, after := #[], guard := none }
def gv15O2 (ps : String) : Oper := { dst := some 60, op := .fieldAddr 23 (.tmp 4) 0, type := 0, pos := ps, after := #[], guard := none }
def gv15O3 (ps : String) : Oper := { dst := some 61, op := .load 3 (.tmp 60), type := 3, pos := ps, after := #[{ on := 2, ground := .data }], guard := none }
def gv15O4 (ps : String) : Oper := { dst := some 62, op := .build 26 #[(0, .tmp 59), (5, .tmp 61)], type := 26, pos := ps, after := #[{ on := 1, ground := .data }, { on := 3, ground := .data }], guard := none }
def gv15O5 (ps : String) : Oper := { dst := none, op := .store 23 (.tmp 8) (.tmp 58), type := 0, pos := ps, after := #[{ on := 0, ground := .data }, { on := 0, ground := .phase }, { on := 1, ground := .textOnly .lateStores }, { on := 2, ground := .textOnly .lateStores }, { on := 3, ground := .textOnly .lateStores }, { on := 4, ground := .textOnly .inlinedCapture }], guard := none }
def gv15O6 (ps : String) : Oper := { dst := none, op := .store 26 (.tmp 9) (.tmp 62), type := 0, pos := ps, after := #[{ on := 4, ground := .data }, { on := 5, ground := .chain }, { on := 0, ground := .phase }, { on := 1, ground := .phase }, { on := 2, ground := .phase }, { on := 3, ground := .phase }, { on := 4, ground := .phase }, { on := 5, ground := .phase }], guard := none }
def gv15O7 (ps : String) : Oper := { dst := none, op := .store 27 (.tmp 10) (.const (.int .i64 0)), type := 0, pos := ps, after := #[{ on := 6, ground := .chain }, { on := 0, ground := .phase }, { on := 1, ground := .phase }, { on := 2, ground := .phase }, { on := 3, ground := .phase }, { on := 4, ground := .phase }, { on := 5, ground := .phase }, { on := 6, ground := .phase }], guard := none }
def gv15 (ps : String) : Array Oper := #[gv15O0 ps, gv15O1 ps, gv15O2 ps, gv15O3 ps, gv15O4 ps, gv15O5 ps, gv15O6 ps, gv15O7 ps]
theorem gv15_0 (ps : String) : (gv15 ps)[0]? = some (gv15O0 ps) := rfl
theorem gv15_1 (ps : String) : (gv15 ps)[1]? = some (gv15O1 ps) := rfl
theorem gv15_2 (ps : String) : (gv15 ps)[2]? = some (gv15O2 ps) := rfl
theorem gv15_3 (ps : String) : (gv15 ps)[3]? = some (gv15O3 ps) := rfl
theorem gv15_4 (ps : String) : (gv15 ps)[4]? = some (gv15O4 ps) := rfl
theorem gv15_5 (ps : String) : (gv15 ps)[5]? = some (gv15O5 ps) := rfl
theorem gv15_6 (ps : String) : (gv15 ps)[6]? = some (gv15O6 ps) := rfl
theorem gv15_7 (ps : String) : (gv15 ps)[7]? = some (gv15O7 ps) := rfl
def gv15D : Nat → Option Tmp
  | 0 => some 58
  | 1 => some 59
  | 2 => some 60
  | 3 => some 61
  | 4 => some 62
  | 5 => none
  | 6 => none
  | 7 => none
  | _ => none
def gv15T (q : Rt) (x : Rc) (now low ak : Int) (bp br bs be ba bo bd B0 : Nat) (WW : World) : Nat → Value
  | 0 => agv (rtL q)
  | 1 => .int .i64 now
  | 2 => .pointer (some ⟨bp, 0, none⟩)
  | 3 => .int .i64 q.gv
  | 4 => agv (smL (⟨now, 0, 0, 0, false, q.gv, 0, 0⟩ : Sm))
  | 5 => undef
  | 6 => undef
  | 7 => undef
  | _ => undef
set_option maxRecDepth 100000 in
set_option maxHeartbeats 4000000 in
theorem gv15_reg {ps : String} {Q : Exit → Act → World → Prop} {a0 : Act} {W0 : World} (sz : a0.tmps.size = 99) (q : Rt) (x : Rc) (now low ak : Int) (bp br bs be ba bo bd B0 : Nat) (WW : World)
    (e2 : a0.eval (.tmp 2) = .int .i64 now) (e4 : a0.eval (.tmp 4) = .pointer (some ⟨bp, 0, none⟩)) (e8 : a0.eval (.tmp 8) = .pointer (some ⟨br, 0, none⟩)) (e9 : a0.eval (.tmp 9) = .pointer (some ⟨bs, 0, none⟩)) (e10 : a0.eval (.tmp 10) = .pointer (some ⟨be, 0, none⟩))
    (l0 : B0 ≤ bp) (l1 : bp < br) (l2 : br < bs) (l3 : bs < be) (l4 : be < ba) (l5 : ba < bo) (l6 : bo < bd) (hS0 : Below B0 WW W0 ∧ Box W0 bp 23 (rtL q) ∧ Box W0 br 23 (rtL (if false = true then q else rtZ)) ∧ Box W0 bs 26 (smL (if false = true then (⟨now, 0, 0, 0, false, q.gv, 0, 0⟩ : Sm) else smZ)) ∧ Box W0 be 27 ([.int .i64 (if false = true then 0 else 0)]) ∧ Box W0 ba 3 ([.int .i64 ak]) ∧ Box W0 bo 33 (rcL x) ∧ Def W0 bd ∧ True)
    (hfin : ∀ (T : Nat → Value) w, Below B0 WW w ∧ Box w bp 23 (rtL q) ∧ Box w br 23 (rtL q) ∧ Box w bs 26 (smL (⟨now, 0, 0, 0, false, q.gv, 0, 0⟩ : Sm)) ∧ Box w be 27 ([.int .i64 0]) ∧ Box w ba 3 ([.int .i64 ak]) ∧ Box w bo 33 (rcL x) ∧ Def w bd ∧ True → Q .normal (((((a0.put (some 58) (T 0)).put (some 59) (T 1)).put (some 60) (T 2)).put (some 61) (T 3)).put (some 62) (T 4)) w) :
    (Code.region 15 (gv15 ps) true).wp Try.prog Q a0 W0 := by
  refine wp_region_dets (by kernel_rfl) 8 rfl gv15D ?_ (by decide) (gv15T q x now low ak bp br bs be ba bo bd B0 WW) (fun D w => Below B0 WW w ∧ Box w bp 23 (rtL q) ∧ Box w br 23 (rtL (if D 5 = true then q else rtZ)) ∧ Box w bs 26 (smL (if D 6 = true then (⟨now, 0, 0, 0, false, q.gv, 0, 0⟩ : Sm) else smZ)) ∧ Box w be 27 ([.int .i64 (if D 7 = true then 0 else 0)]) ∧ Box w ba 3 ([.int .i64 ak]) ∧ Box w bo 33 (rcL x) ∧ Def w bd ∧ True) (fun D hD => by
    show Below B0 WW W0.drew ∧ Box W0.drew bp 23 (rtL q) ∧ Box W0.drew br 23 (rtL (if D 5 = true then q else rtZ)) ∧ Box W0.drew bs 26 (smL (if D 6 = true then (⟨now, 0, 0, 0, false, q.gv, 0, 0⟩ : Sm) else smZ)) ∧ Box W0.drew be 27 ([.int .i64 (if D 7 = true then 0 else 0)]) ∧ Box W0.drew ba 3 ([.int .i64 ak]) ∧ Box W0.drew bo 33 (rcL x) ∧ Def W0.drew bd ∧ True
    rw [hD 5, hD 6, hD 7]
    exact ⟨hS0.1.drew, hS0.2.1, hS0.2.2.1, hS0.2.2.2.1, hS0.2.2.2.2.1, hS0.2.2.2.2.2.1, hS0.2.2.2.2.2.2.1, hS0.2.2.2.2.2.2.2.1, trivial⟩) ?_ (by rfl) (fun w D hD hSw => by
    have hSw' : Below B0 WW w ∧ Box w bp 23 (rtL q) ∧ Box w br 23 (rtL (if D 5 = true then q else rtZ)) ∧ Box w bs 26 (smL (if D 6 = true then (⟨now, 0, 0, 0, false, q.gv, 0, 0⟩ : Sm) else smZ)) ∧ Box w be 27 ([.int .i64 (if D 7 = true then 0 else 0)]) ∧ Box w ba 3 ([.int .i64 ak]) ∧ Box w bo 33 (rcL x) ∧ Def w bd ∧ True := hSw
    rw [hD 5 (by decide), hD 6 (by decide), hD 7 (by decide)] at hSw'
    exact hfin (gv15T q x now low ak bp br bs be ba bo bd B0 WW) w  hSw')
  · intro jq t hj ht
    have : ∀ j, j < 8 → (gv15D j).all (· < 99) = true := by decide
    have := this jq hj
    rw [ht] at this
    rw [sz]
    simpa using this
  · intro iq o ho D a w hSw hDi hcl hs hel K hK
    have hin : iq < 8 := (Array.getElem?_eq_some_iff.1 ho).1
    match iq, hin, ho with
    | 0, _, ho =>
      obtain rfl := Option.some.inj (ho.symm.trans (gv15_0 ps))
      have u4 : a.eval (.tmp 4) = .pointer (some ⟨bp, 0, none⟩) := (hel 4 (by decide)).trans e4
      exact op_valW (gv15_0 ps) rfl (v := agv (rtL q)) (run_loadS isS23 rfl u4 hSw.2.1) (hK w (fun D' hi' hj' => by
        have hd5 : D' 5 = D 5 := hj' 5 (by decide)
        have hd6 : D' 6 = D 6 := hj' 6 (by decide)
        have hd7 : D' 7 = D 7 := hj' 7 (by decide)
        show Below B0 WW w ∧ Box w bp 23 (rtL q) ∧ Box w br 23 (rtL (if D' 5 = true then q else rtZ)) ∧ Box w bs 26 (smL (if D' 6 = true then (⟨now, 0, 0, 0, false, q.gv, 0, 0⟩ : Sm) else smZ)) ∧ Box w be 27 ([.int .i64 (if D' 7 = true then 0 else 0)]) ∧ Box w ba 3 ([.int .i64 ak]) ∧ Box w bo 33 (rcL x) ∧ Def w bd ∧ True
        rw [hd5, hd6, hd7]
        exact hSw))
    | 1, _, ho =>
      obtain rfl := Option.some.inj (ho.symm.trans (gv15_1 ps))
      have u2 : a.eval (.tmp 2) = .int .i64 now := (hel 2 (by decide)).trans e2
      exact op_valW (gv15_1 ps) rfl (v := .int .i64 now) (by unfold gv15O1 execOp; simp only [u2]; first | (go_simp; done) | (go_simp; with_reducible rfl)) (hK w (fun D' hi' hj' => by
        have hd5 : D' 5 = D 5 := hj' 5 (by decide)
        have hd6 : D' 6 = D 6 := hj' 6 (by decide)
        have hd7 : D' 7 = D 7 := hj' 7 (by decide)
        show Below B0 WW w ∧ Box w bp 23 (rtL q) ∧ Box w br 23 (rtL (if D' 5 = true then q else rtZ)) ∧ Box w bs 26 (smL (if D' 6 = true then (⟨now, 0, 0, 0, false, q.gv, 0, 0⟩ : Sm) else smZ)) ∧ Box w be 27 ([.int .i64 (if D' 7 = true then 0 else 0)]) ∧ Box w ba 3 ([.int .i64 ak]) ∧ Box w bo 33 (rcL x) ∧ Def w bd ∧ True
        rw [hd5, hd6, hd7]
        exact hSw))
    | 2, _, ho =>
      obtain rfl := Option.some.inj (ho.symm.trans (gv15_2 ps))
      have u4 : a.eval (.tmp 4) = .pointer (some ⟨bp, 0, none⟩) := (hel 4 (by decide)).trans e4
      exact op_valW (gv15_2 ps) rfl (v := .pointer (some ⟨bp, 0, none⟩)) (by unfold gv15O2 execOp; simp only [u4]; first | (go_simp; done) | (go_simp; with_reducible rfl)) (hK w (fun D' hi' hj' => by
        have hd5 : D' 5 = D 5 := hj' 5 (by decide)
        have hd6 : D' 6 = D 6 := hj' 6 (by decide)
        have hd7 : D' 7 = D 7 := hj' 7 (by decide)
        show Below B0 WW w ∧ Box w bp 23 (rtL q) ∧ Box w br 23 (rtL (if D' 5 = true then q else rtZ)) ∧ Box w bs 26 (smL (if D' 6 = true then (⟨now, 0, 0, 0, false, q.gv, 0, 0⟩ : Sm) else smZ)) ∧ Box w be 27 ([.int .i64 (if D' 7 = true then 0 else 0)]) ∧ Box w ba 3 ([.int .i64 ak]) ∧ Box w bo 33 (rcL x) ∧ Def w bd ∧ True
        rw [hd5, hd6, hd7]
        exact hSw))
    | 3, _, ho =>
      obtain rfl := Option.some.inj (ho.symm.trans (gv15_3 ps))
      have s2 : a.eval (.tmp 60) = .pointer (some ⟨bp, 0, none⟩) := hs 2 60 (by rfl) rfl
      have hcl : w.cell? ⟨bp, 0, none⟩ = some (.int .i64 q.gv) := Box.cell hSw.2.1 0 rfl
      exact op_valW (gv15_3 ps) rfl (v := .int .i64 q.gv) (by unfold gv15O3 execOp; simp only [s2]; first | (go_simp; done) | (go_simp; with_reducible rfl)) (hK w (fun D' hi' hj' => by
        have hd5 : D' 5 = D 5 := hj' 5 (by decide)
        have hd6 : D' 6 = D 6 := hj' 6 (by decide)
        have hd7 : D' 7 = D 7 := hj' 7 (by decide)
        show Below B0 WW w ∧ Box w bp 23 (rtL q) ∧ Box w br 23 (rtL (if D' 5 = true then q else rtZ)) ∧ Box w bs 26 (smL (if D' 6 = true then (⟨now, 0, 0, 0, false, q.gv, 0, 0⟩ : Sm) else smZ)) ∧ Box w be 27 ([.int .i64 (if D' 7 = true then 0 else 0)]) ∧ Box w ba 3 ([.int .i64 ak]) ∧ Box w bo 33 (rcL x) ∧ Def w bd ∧ True
        rw [hd5, hd6, hd7]
        exact hSw))
    | 4, _, ho =>
      obtain rfl := Option.some.inj (ho.symm.trans (gv15_4 ps))
      have s1 : a.eval (.tmp 59) = .int .i64 now := hs 1 59 (by rfl) rfl
      have s3 : a.eval (.tmp 61) = .int .i64 q.gv := hs 3 61 (by rfl) rfl
      exact op_valW (gv15_4 ps) rfl (v := agv (smL (⟨now, 0, 0, 0, false, q.gv, 0, 0⟩ : Sm))) (run_buildS rfl (by simp only [List.map_cons, List.map_nil, s1, s3]; exact built26a now q.gv)) (hK w (fun D' hi' hj' => by
        have hd5 : D' 5 = D 5 := hj' 5 (by decide)
        have hd6 : D' 6 = D 6 := hj' 6 (by decide)
        have hd7 : D' 7 = D 7 := hj' 7 (by decide)
        show Below B0 WW w ∧ Box w bp 23 (rtL q) ∧ Box w br 23 (rtL (if D' 5 = true then q else rtZ)) ∧ Box w bs 26 (smL (if D' 6 = true then (⟨now, 0, 0, 0, false, q.gv, 0, 0⟩ : Sm) else smZ)) ∧ Box w be 27 ([.int .i64 (if D' 7 = true then 0 else 0)]) ∧ Box w ba 3 ([.int .i64 ak]) ∧ Box w bo 33 (rcL x) ∧ Def w bd ∧ True
        rw [hd5, hd6, hd7]
        exact hSw))
    | 5, _, ho =>
      obtain rfl := Option.some.inj (ho.symm.trans (gv15_5 ps))
      have s0 : a.eval (.tmp 58) = agv (rtL q) := hs 0 58 (by rfl) rfl
      have u8 : a.eval (.tmp 8) = .pointer (some ⟨br, 0, none⟩) := (hel 8 (by decide)).trans e8
      exact op_stoW (gv15_5 ps) rfl rfl (w' := (w.setRow br (rtL q).toArray)) (run_storeS rfl u8 s0 hSw.2.2.1 rfl isS23 (rtL_one _)) (hK _ (fun D' hi' hj' => by
        have hd5 : D' 5 = true := hi'
        have hd6 : D' 6 = D 6 := hj' 6 (by decide)
        have hd7 : D' 7 = D 7 := hj' 7 (by decide)
        show Below B0 WW (w.setRow br (rtL q).toArray) ∧ Box (w.setRow br (rtL q).toArray) bp 23 (rtL q) ∧ Box (w.setRow br (rtL q).toArray) br 23 (rtL (if D' 5 = true then q else rtZ)) ∧ Box (w.setRow br (rtL q).toArray) bs 26 (smL (if D' 6 = true then (⟨now, 0, 0, 0, false, q.gv, 0, 0⟩ : Sm) else smZ)) ∧ Box (w.setRow br (rtL q).toArray) be 27 ([.int .i64 (if D' 7 = true then 0 else 0)]) ∧ Box (w.setRow br (rtL q).toArray) ba 3 ([.int .i64 ak]) ∧ Box (w.setRow br (rtL q).toArray) bo 33 (rcL x) ∧ Def (w.setRow br (rtL q).toArray) bd ∧ True
        rw [hd5, hd6, hd7]
        exact ⟨(stoR (rtL q) hSw.2.2.1).1.below _ _ (by omega) hSw.1, hSw.2.1.sto (stoR (rtL q) hSw.2.2.1).1 (by omega), (stoR (rtL q) hSw.2.2.1).2, hSw.2.2.2.1.sto (stoR (rtL q) hSw.2.2.1).1 (by omega), hSw.2.2.2.2.1.sto (stoR (rtL q) hSw.2.2.1).1 (by omega), hSw.2.2.2.2.2.1.sto (stoR (rtL q) hSw.2.2.1).1 (by omega), hSw.2.2.2.2.2.2.1.sto (stoR (rtL q) hSw.2.2.1).1 (by omega), hSw.2.2.2.2.2.2.2.1.sto (stoR (rtL q) hSw.2.2.1).1 (by omega), trivial⟩))
    | 6, _, ho =>
      obtain rfl := Option.some.inj (ho.symm.trans (gv15_6 ps))
      have s4 : a.eval (.tmp 62) = agv (smL (⟨now, 0, 0, 0, false, q.gv, 0, 0⟩ : Sm)) := hs 4 62 (by rfl) rfl
      have u9 : a.eval (.tmp 9) = .pointer (some ⟨bs, 0, none⟩) := (hel 9 (by decide)).trans e9
      exact op_stoW (gv15_6 ps) rfl rfl (w' := (w.setRow bs (smL (⟨now, 0, 0, 0, false, q.gv, 0, 0⟩ : Sm)).toArray)) (run_storeS rfl u9 s4 hSw.2.2.2.1 rfl isS26 (smL_one _)) (hK _ (fun D' hi' hj' => by
        have hd5 : D' 5 = D 5 := hj' 5 (by decide)
        have hd6 : D' 6 = true := hi'
        have hd7 : D' 7 = D 7 := hj' 7 (by decide)
        show Below B0 WW (w.setRow bs (smL (⟨now, 0, 0, 0, false, q.gv, 0, 0⟩ : Sm)).toArray) ∧ Box (w.setRow bs (smL (⟨now, 0, 0, 0, false, q.gv, 0, 0⟩ : Sm)).toArray) bp 23 (rtL q) ∧ Box (w.setRow bs (smL (⟨now, 0, 0, 0, false, q.gv, 0, 0⟩ : Sm)).toArray) br 23 (rtL (if D' 5 = true then q else rtZ)) ∧ Box (w.setRow bs (smL (⟨now, 0, 0, 0, false, q.gv, 0, 0⟩ : Sm)).toArray) bs 26 (smL (if D' 6 = true then (⟨now, 0, 0, 0, false, q.gv, 0, 0⟩ : Sm) else smZ)) ∧ Box (w.setRow bs (smL (⟨now, 0, 0, 0, false, q.gv, 0, 0⟩ : Sm)).toArray) be 27 ([.int .i64 (if D' 7 = true then 0 else 0)]) ∧ Box (w.setRow bs (smL (⟨now, 0, 0, 0, false, q.gv, 0, 0⟩ : Sm)).toArray) ba 3 ([.int .i64 ak]) ∧ Box (w.setRow bs (smL (⟨now, 0, 0, 0, false, q.gv, 0, 0⟩ : Sm)).toArray) bo 33 (rcL x) ∧ Def (w.setRow bs (smL (⟨now, 0, 0, 0, false, q.gv, 0, 0⟩ : Sm)).toArray) bd ∧ True
        rw [hd5, hd6, hd7]
        exact ⟨(stoR (smL (⟨now, 0, 0, 0, false, q.gv, 0, 0⟩ : Sm)) hSw.2.2.2.1).1.below _ _ (by omega) hSw.1, hSw.2.1.sto (stoR (smL (⟨now, 0, 0, 0, false, q.gv, 0, 0⟩ : Sm)) hSw.2.2.2.1).1 (by omega), hSw.2.2.1.sto (stoR (smL (⟨now, 0, 0, 0, false, q.gv, 0, 0⟩ : Sm)) hSw.2.2.2.1).1 (by omega), (stoR (smL (⟨now, 0, 0, 0, false, q.gv, 0, 0⟩ : Sm)) hSw.2.2.2.1).2, hSw.2.2.2.2.1.sto (stoR (smL (⟨now, 0, 0, 0, false, q.gv, 0, 0⟩ : Sm)) hSw.2.2.2.1).1 (by omega), hSw.2.2.2.2.2.1.sto (stoR (smL (⟨now, 0, 0, 0, false, q.gv, 0, 0⟩ : Sm)) hSw.2.2.2.1).1 (by omega), hSw.2.2.2.2.2.2.1.sto (stoR (smL (⟨now, 0, 0, 0, false, q.gv, 0, 0⟩ : Sm)) hSw.2.2.2.1).1 (by omega), hSw.2.2.2.2.2.2.2.1.sto (stoR (smL (⟨now, 0, 0, 0, false, q.gv, 0, 0⟩ : Sm)) hSw.2.2.2.1).1 (by omega), trivial⟩))
    | 7, _, ho =>
      obtain rfl := Option.some.inj (ho.symm.trans (gv15_7 ps))
      have u10 : a.eval (.tmp 10) = .pointer (some ⟨be, 0, none⟩) := (hel 10 (by decide)).trans e10
      have hfz := Box.frozen hSw.2.2.2.2.1 0
      have hcx := Box.cell hSw.2.2.2.2.1 0 rfl
      exact op_stoW (gv15_7 ps) rfl rfl (w' := (w.setCell ⟨be, 0, none⟩ (.int .i64 0))) (by unfold gv15O7 execOp; simp only [u10]; first | (go_simp; done) | (go_simp; with_reducible rfl)) (hK _ (fun D' hi' hj' => by
        have hd5 : D' 5 = D 5 := hj' 5 (by decide)
        have hd6 : D' 6 = D 6 := hj' 6 (by decide)
        have hd7 : D' 7 = true := hi'
        show Below B0 WW (w.setCell ⟨be, 0, none⟩ (.int .i64 0)) ∧ Box (w.setCell ⟨be, 0, none⟩ (.int .i64 0)) bp 23 (rtL q) ∧ Box (w.setCell ⟨be, 0, none⟩ (.int .i64 0)) br 23 (rtL (if D' 5 = true then q else rtZ)) ∧ Box (w.setCell ⟨be, 0, none⟩ (.int .i64 0)) bs 26 (smL (if D' 6 = true then (⟨now, 0, 0, 0, false, q.gv, 0, 0⟩ : Sm) else smZ)) ∧ Box (w.setCell ⟨be, 0, none⟩ (.int .i64 0)) be 27 ([.int .i64 (if D' 7 = true then 0 else 0)]) ∧ Box (w.setCell ⟨be, 0, none⟩ (.int .i64 0)) ba 3 ([.int .i64 ak]) ∧ Box (w.setCell ⟨be, 0, none⟩ (.int .i64 0)) bo 33 (rcL x) ∧ Def (w.setCell ⟨be, 0, none⟩ (.int .i64 0)) bd ∧ True
        rw [hd5, hd6, hd7]
        exact ⟨((Sto.refl w be).set 0 (.int .i64 0)).below _ _ (by omega) hSw.1, hSw.2.1.sto ((Sto.refl w be).set 0 (.int .i64 0)) (by omega), hSw.2.2.1.sto ((Sto.refl w be).set 0 (.int .i64 0)) (by omega), hSw.2.2.2.1.sto ((Sto.refl w be).set 0 (.int .i64 0)) (by omega), hSw.2.2.2.2.1.set 0 (.int .i64 0), hSw.2.2.2.2.2.1.sto ((Sto.refl w be).set 0 (.int .i64 0)) (by omega), hSw.2.2.2.2.2.2.1.sto ((Sto.refl w be).set 0 (.int .i64 0)) (by omega), hSw.2.2.2.2.2.2.2.1.sto ((Sto.refl w be).set 0 (.int .i64 0)) (by omega), trivial⟩))
    | iq + 8, hin, _ => exact absurd hin (by omega)
def gv17O0 (ps : String) : Oper := { dst := some 69, op := .move (.tmp 2), type := 3, pos := ps, after := #[], guard := none }
def gv17O1 (ps : String) : Oper := { dst := some 70, op := .fieldAddr 33 (.tmp 13) 3, type := 0, pos := ps, after := #[{ on := 4, ground := .gcOnly .lateStores }], guard := none }
def gv17O2 (ps : String) : Oper := { dst := some 71, op := .load 3 (.tmp 70), type := 3, pos := ps, after := #[{ on := 1, ground := .data }, { on := 4, ground := .gcOnly .lateStores }], guard := none }
def gv17O3 (ps : String) : Oper := { dst := some 72, op := .fieldAddr 23 (.tmp 4) 1, type := 0, pos := ps, after := #[{ on := 0, ground := .phase }, { on := 1, ground := .textOnly .lateStores }, { on := 2, ground := .textOnly .lateStores }], guard := none }
def gv17O4 (ps : String) : Oper := { dst := none, op := .store 3 (.tmp 72) (.tmp 69), type := 0, pos := ps, after := #[{ on := 3, ground := .data }, { on := 0, ground := .data }, { on := 0, ground := .phase }, { on := 1, ground := .textOnly .lateStores }, { on := 2, ground := .textOnly .lateStores }], guard := none }
def gv17O5 (ps : String) : Oper := { dst := some 73, op := .fieldAddr 23 (.tmp 4) 2, type := 0, pos := ps, after := #[{ on := 0, ground := .phase }, { on := 1, ground := .phase }, { on := 2, ground := .phase }, { on := 3, ground := .phase }, { on := 4, ground := .phase }], guard := none }
def gv17O6 (ps : String) : Oper := { dst := none, op := .store 3 (.tmp 73) (.tmp 71), type := 0, pos := ps, after := #[{ on := 5, ground := .data }, { on := 2, ground := .data }, { on := 4, ground := .chain }, { on := 0, ground := .phase }, { on := 1, ground := .phase }, { on := 2, ground := .phase }, { on := 3, ground := .phase }, { on := 4, ground := .phase }], guard := none }
def gv17 (ps : String) : Array Oper := #[gv17O0 ps, gv17O1 ps, gv17O2 ps, gv17O3 ps, gv17O4 ps, gv17O5 ps, gv17O6 ps]
theorem gv17_0 (ps : String) : (gv17 ps)[0]? = some (gv17O0 ps) := rfl
theorem gv17_1 (ps : String) : (gv17 ps)[1]? = some (gv17O1 ps) := rfl
theorem gv17_2 (ps : String) : (gv17 ps)[2]? = some (gv17O2 ps) := rfl
theorem gv17_3 (ps : String) : (gv17 ps)[3]? = some (gv17O3 ps) := rfl
theorem gv17_4 (ps : String) : (gv17 ps)[4]? = some (gv17O4 ps) := rfl
theorem gv17_5 (ps : String) : (gv17 ps)[5]? = some (gv17O5 ps) := rfl
theorem gv17_6 (ps : String) : (gv17 ps)[6]? = some (gv17O6 ps) := rfl
def gv17D : Nat → Option Tmp
  | 0 => some 69
  | 1 => some 70
  | 2 => some 71
  | 3 => some 72
  | 4 => none
  | 5 => some 73
  | 6 => none
  | _ => none
def gv17T (q : Rt) (x : Rc) (now low ak : Int) (bp br bs be ba bo bd B0 : Nat) (WW : World) : Nat → Value
  | 0 => .int .i64 now
  | 1 => .pointer (some ⟨bo, 3, none⟩)
  | 2 => .int .i64 x.sent
  | 3 => .pointer (some ⟨bp, 1, none⟩)
  | 4 => undef
  | 5 => .pointer (some ⟨bp, 2, none⟩)
  | 6 => undef
  | _ => undef
set_option maxRecDepth 100000 in
set_option maxHeartbeats 4000000 in
theorem gv17_reg {ps : String} {Q : Exit → Act → World → Prop} {a0 : Act} {W0 : World} (sz : a0.tmps.size = 99) (q : Rt) (x : Rc) (now low ak : Int) (bp br bs be ba bo bd B0 : Nat) (WW : World)
    (e2 : a0.eval (.tmp 2) = .int .i64 now) (e4 : a0.eval (.tmp 4) = .pointer (some ⟨bp, 0, none⟩)) (e13 : a0.eval (.tmp 13) = .pointer (some ⟨bo, 0, none⟩))
    (l0 : B0 ≤ bp) (l1 : bp < br) (l2 : br < bs) (l3 : bs < be) (l4 : be < ba) (l5 : ba < bo) (l6 : bo < bd) (hS0 : Below B0 WW W0 ∧ Box W0 bp 23 (rtL ⟨q.gv, (if false = true then now else q.ga), (if false = true then x.sent else q.fa), q.idt⟩) ∧ Box W0 br 23 (rtL rtZ) ∧ Box W0 bs 26 (smL smZ) ∧ Box W0 be 27 ([.int .i64 0]) ∧ Box W0 ba 3 ([.int .i64 ak]) ∧ Box W0 bo 33 (rcL x) ∧ Def W0 bd ∧ True)
    (hfin : ∀ (T : Nat → Value) w, Below B0 WW w ∧ Box w bp 23 (rtL ⟨q.gv, now, x.sent, q.idt⟩) ∧ Box w br 23 (rtL rtZ) ∧ Box w bs 26 (smL smZ) ∧ Box w be 27 ([.int .i64 0]) ∧ Box w ba 3 ([.int .i64 ak]) ∧ Box w bo 33 (rcL x) ∧ Def w bd ∧ True → Q .normal (((((a0.put (some 69) (T 0)).put (some 70) (T 1)).put (some 71) (T 2)).put (some 72) (T 3)).put (some 73) (T 5)) w) :
    (Code.region 17 (gv17 ps) true).wp Try.prog Q a0 W0 := by
  refine wp_region_dets (by kernel_rfl) 7 rfl gv17D ?_ (by decide) (gv17T q x now low ak bp br bs be ba bo bd B0 WW) (fun D w => Below B0 WW w ∧ Box w bp 23 (rtL ⟨q.gv, (if D 4 = true then now else q.ga), (if D 6 = true then x.sent else q.fa), q.idt⟩) ∧ Box w br 23 (rtL rtZ) ∧ Box w bs 26 (smL smZ) ∧ Box w be 27 ([.int .i64 0]) ∧ Box w ba 3 ([.int .i64 ak]) ∧ Box w bo 33 (rcL x) ∧ Def w bd ∧ True) (fun D hD => by
    show Below B0 WW W0.drew ∧ Box W0.drew bp 23 (rtL ⟨q.gv, (if D 4 = true then now else q.ga), (if D 6 = true then x.sent else q.fa), q.idt⟩) ∧ Box W0.drew br 23 (rtL rtZ) ∧ Box W0.drew bs 26 (smL smZ) ∧ Box W0.drew be 27 ([.int .i64 0]) ∧ Box W0.drew ba 3 ([.int .i64 ak]) ∧ Box W0.drew bo 33 (rcL x) ∧ Def W0.drew bd ∧ True
    rw [hD 4, hD 6]
    exact ⟨hS0.1.drew, hS0.2.1, hS0.2.2.1, hS0.2.2.2.1, hS0.2.2.2.2.1, hS0.2.2.2.2.2.1, hS0.2.2.2.2.2.2.1, hS0.2.2.2.2.2.2.2.1, trivial⟩) ?_ (by rfl) (fun w D hD hSw => by
    have hSw' : Below B0 WW w ∧ Box w bp 23 (rtL ⟨q.gv, (if D 4 = true then now else q.ga), (if D 6 = true then x.sent else q.fa), q.idt⟩) ∧ Box w br 23 (rtL rtZ) ∧ Box w bs 26 (smL smZ) ∧ Box w be 27 ([.int .i64 0]) ∧ Box w ba 3 ([.int .i64 ak]) ∧ Box w bo 33 (rcL x) ∧ Def w bd ∧ True := hSw
    rw [hD 4 (by decide), hD 6 (by decide)] at hSw'
    exact hfin (gv17T q x now low ak bp br bs be ba bo bd B0 WW) w  hSw')
  · intro jq t hj ht
    have : ∀ j, j < 7 → (gv17D j).all (· < 99) = true := by decide
    have := this jq hj
    rw [ht] at this
    rw [sz]
    simpa using this
  · intro iq o ho D a w hSw hDi hcl hs hel K hK
    have hin : iq < 7 := (Array.getElem?_eq_some_iff.1 ho).1
    match iq, hin, ho with
    | 0, _, ho =>
      obtain rfl := Option.some.inj (ho.symm.trans (gv17_0 ps))
      have u2 : a.eval (.tmp 2) = .int .i64 now := (hel 2 (by decide)).trans e2
      exact op_valW (gv17_0 ps) rfl (v := .int .i64 now) (by unfold gv17O0 execOp; simp only [u2]; first | (go_simp; done) | (go_simp; with_reducible rfl)) (hK w (fun D' hi' hj' => by
        have hd4 : D' 4 = D 4 := hj' 4 (by decide)
        have hd6 : D' 6 = D 6 := hj' 6 (by decide)
        show Below B0 WW w ∧ Box w bp 23 (rtL ⟨q.gv, (if D' 4 = true then now else q.ga), (if D' 6 = true then x.sent else q.fa), q.idt⟩) ∧ Box w br 23 (rtL rtZ) ∧ Box w bs 26 (smL smZ) ∧ Box w be 27 ([.int .i64 0]) ∧ Box w ba 3 ([.int .i64 ak]) ∧ Box w bo 33 (rcL x) ∧ Def w bd ∧ True
        rw [hd4, hd6]
        exact hSw))
    | 1, _, ho =>
      obtain rfl := Option.some.inj (ho.symm.trans (gv17_1 ps))
      have u13 : a.eval (.tmp 13) = .pointer (some ⟨bo, 0, none⟩) := (hel 13 (by decide)).trans e13
      exact op_valW (gv17_1 ps) rfl (v := .pointer (some ⟨bo, 3, none⟩)) (by unfold gv17O1 execOp; simp only [u13]; first | (go_simp; done) | (go_simp; with_reducible rfl)) (hK w (fun D' hi' hj' => by
        have hd4 : D' 4 = D 4 := hj' 4 (by decide)
        have hd6 : D' 6 = D 6 := hj' 6 (by decide)
        show Below B0 WW w ∧ Box w bp 23 (rtL ⟨q.gv, (if D' 4 = true then now else q.ga), (if D' 6 = true then x.sent else q.fa), q.idt⟩) ∧ Box w br 23 (rtL rtZ) ∧ Box w bs 26 (smL smZ) ∧ Box w be 27 ([.int .i64 0]) ∧ Box w ba 3 ([.int .i64 ak]) ∧ Box w bo 33 (rcL x) ∧ Def w bd ∧ True
        rw [hd4, hd6]
        exact hSw))
    | 2, _, ho =>
      obtain rfl := Option.some.inj (ho.symm.trans (gv17_2 ps))
      have s1 : a.eval (.tmp 70) = .pointer (some ⟨bo, 3, none⟩) := hs 1 70 (by rfl) rfl
      have hcl : w.cell? ⟨bo, 3, none⟩ = some (.int .i64 x.sent) := Box.cell hSw.2.2.2.2.2.2.1 3 rfl
      exact op_valW (gv17_2 ps) rfl (v := .int .i64 x.sent) (by unfold gv17O2 execOp; simp only [s1]; first | (go_simp; done) | (go_simp; with_reducible rfl)) (hK w (fun D' hi' hj' => by
        have hd4 : D' 4 = D 4 := hj' 4 (by decide)
        have hd6 : D' 6 = D 6 := hj' 6 (by decide)
        show Below B0 WW w ∧ Box w bp 23 (rtL ⟨q.gv, (if D' 4 = true then now else q.ga), (if D' 6 = true then x.sent else q.fa), q.idt⟩) ∧ Box w br 23 (rtL rtZ) ∧ Box w bs 26 (smL smZ) ∧ Box w be 27 ([.int .i64 0]) ∧ Box w ba 3 ([.int .i64 ak]) ∧ Box w bo 33 (rcL x) ∧ Def w bd ∧ True
        rw [hd4, hd6]
        exact hSw))
    | 3, _, ho =>
      obtain rfl := Option.some.inj (ho.symm.trans (gv17_3 ps))
      have u4 : a.eval (.tmp 4) = .pointer (some ⟨bp, 0, none⟩) := (hel 4 (by decide)).trans e4
      exact op_valW (gv17_3 ps) rfl (v := .pointer (some ⟨bp, 1, none⟩)) (by unfold gv17O3 execOp; simp only [u4]; first | (go_simp; done) | (go_simp; with_reducible rfl)) (hK w (fun D' hi' hj' => by
        have hd4 : D' 4 = D 4 := hj' 4 (by decide)
        have hd6 : D' 6 = D 6 := hj' 6 (by decide)
        show Below B0 WW w ∧ Box w bp 23 (rtL ⟨q.gv, (if D' 4 = true then now else q.ga), (if D' 6 = true then x.sent else q.fa), q.idt⟩) ∧ Box w br 23 (rtL rtZ) ∧ Box w bs 26 (smL smZ) ∧ Box w be 27 ([.int .i64 0]) ∧ Box w ba 3 ([.int .i64 ak]) ∧ Box w bo 33 (rcL x) ∧ Def w bd ∧ True
        rw [hd4, hd6]
        exact hSw))
    | 4, _, ho =>
      obtain rfl := Option.some.inj (ho.symm.trans (gv17_4 ps))
      have s3 : a.eval (.tmp 72) = .pointer (some ⟨bp, 1, none⟩) := hs 3 72 (by rfl) rfl
      have s0 : a.eval (.tmp 69) = .int .i64 now := hs 0 69 (by rfl) rfl
      have hfz := Box.frozen hSw.2.1 1
      have hcx := Box.cell hSw.2.1 1 rfl
      exact op_stoW (gv17_4 ps) rfl rfl (w' := (w.setCell ⟨bp, 1, none⟩ (.int .i64 now))) (by unfold gv17O4 execOp; simp only [s3, s0]; first | (go_simp; done) | (go_simp; with_reducible rfl)) (hK _ (fun D' hi' hj' => by
        have hd4 : D' 4 = true := hi'
        have hd6 : D' 6 = D 6 := hj' 6 (by decide)
        show Below B0 WW (w.setCell ⟨bp, 1, none⟩ (.int .i64 now)) ∧ Box (w.setCell ⟨bp, 1, none⟩ (.int .i64 now)) bp 23 (rtL ⟨q.gv, (if D' 4 = true then now else q.ga), (if D' 6 = true then x.sent else q.fa), q.idt⟩) ∧ Box (w.setCell ⟨bp, 1, none⟩ (.int .i64 now)) br 23 (rtL rtZ) ∧ Box (w.setCell ⟨bp, 1, none⟩ (.int .i64 now)) bs 26 (smL smZ) ∧ Box (w.setCell ⟨bp, 1, none⟩ (.int .i64 now)) be 27 ([.int .i64 0]) ∧ Box (w.setCell ⟨bp, 1, none⟩ (.int .i64 now)) ba 3 ([.int .i64 ak]) ∧ Box (w.setCell ⟨bp, 1, none⟩ (.int .i64 now)) bo 33 (rcL x) ∧ Def (w.setCell ⟨bp, 1, none⟩ (.int .i64 now)) bd ∧ True
        rw [hd4, hd6]
        exact ⟨((Sto.refl w bp).set 1 (.int .i64 now)).below _ _ (by omega) hSw.1, hSw.2.1.set 1 (.int .i64 now), hSw.2.2.1.sto ((Sto.refl w bp).set 1 (.int .i64 now)) (by omega), hSw.2.2.2.1.sto ((Sto.refl w bp).set 1 (.int .i64 now)) (by omega), hSw.2.2.2.2.1.sto ((Sto.refl w bp).set 1 (.int .i64 now)) (by omega), hSw.2.2.2.2.2.1.sto ((Sto.refl w bp).set 1 (.int .i64 now)) (by omega), hSw.2.2.2.2.2.2.1.sto ((Sto.refl w bp).set 1 (.int .i64 now)) (by omega), hSw.2.2.2.2.2.2.2.1.sto ((Sto.refl w bp).set 1 (.int .i64 now)) (by omega), trivial⟩))
    | 5, _, ho =>
      obtain rfl := Option.some.inj (ho.symm.trans (gv17_5 ps))
      have u4 : a.eval (.tmp 4) = .pointer (some ⟨bp, 0, none⟩) := (hel 4 (by decide)).trans e4
      exact op_valW (gv17_5 ps) rfl (v := .pointer (some ⟨bp, 2, none⟩)) (by unfold gv17O5 execOp; simp only [u4]; first | (go_simp; done) | (go_simp; with_reducible rfl)) (hK w (fun D' hi' hj' => by
        have hd4 : D' 4 = D 4 := hj' 4 (by decide)
        have hd6 : D' 6 = D 6 := hj' 6 (by decide)
        show Below B0 WW w ∧ Box w bp 23 (rtL ⟨q.gv, (if D' 4 = true then now else q.ga), (if D' 6 = true then x.sent else q.fa), q.idt⟩) ∧ Box w br 23 (rtL rtZ) ∧ Box w bs 26 (smL smZ) ∧ Box w be 27 ([.int .i64 0]) ∧ Box w ba 3 ([.int .i64 ak]) ∧ Box w bo 33 (rcL x) ∧ Def w bd ∧ True
        rw [hd4, hd6]
        exact hSw))
    | 6, _, ho =>
      obtain rfl := Option.some.inj (ho.symm.trans (gv17_6 ps))
      have s5 : a.eval (.tmp 73) = .pointer (some ⟨bp, 2, none⟩) := hs 5 73 (by rfl) rfl
      have s2 : a.eval (.tmp 71) = .int .i64 x.sent := hs 2 71 (by rfl) rfl
      have hfz := Box.frozen hSw.2.1 2
      have hcx := Box.cell hSw.2.1 2 rfl
      exact op_stoW (gv17_6 ps) rfl rfl (w' := (w.setCell ⟨bp, 2, none⟩ (.int .i64 x.sent))) (by unfold gv17O6 execOp; simp only [s5, s2]; first | (go_simp; done) | (go_simp; with_reducible rfl)) (hK _ (fun D' hi' hj' => by
        have hd4 : D' 4 = D 4 := hj' 4 (by decide)
        have hd6 : D' 6 = true := hi'
        show Below B0 WW (w.setCell ⟨bp, 2, none⟩ (.int .i64 x.sent)) ∧ Box (w.setCell ⟨bp, 2, none⟩ (.int .i64 x.sent)) bp 23 (rtL ⟨q.gv, (if D' 4 = true then now else q.ga), (if D' 6 = true then x.sent else q.fa), q.idt⟩) ∧ Box (w.setCell ⟨bp, 2, none⟩ (.int .i64 x.sent)) br 23 (rtL rtZ) ∧ Box (w.setCell ⟨bp, 2, none⟩ (.int .i64 x.sent)) bs 26 (smL smZ) ∧ Box (w.setCell ⟨bp, 2, none⟩ (.int .i64 x.sent)) be 27 ([.int .i64 0]) ∧ Box (w.setCell ⟨bp, 2, none⟩ (.int .i64 x.sent)) ba 3 ([.int .i64 ak]) ∧ Box (w.setCell ⟨bp, 2, none⟩ (.int .i64 x.sent)) bo 33 (rcL x) ∧ Def (w.setCell ⟨bp, 2, none⟩ (.int .i64 x.sent)) bd ∧ True
        rw [hd4, hd6]
        exact ⟨((Sto.refl w bp).set 2 (.int .i64 x.sent)).below _ _ (by omega) hSw.1, hSw.2.1.set 2 (.int .i64 x.sent), hSw.2.2.1.sto ((Sto.refl w bp).set 2 (.int .i64 x.sent)) (by omega), hSw.2.2.2.1.sto ((Sto.refl w bp).set 2 (.int .i64 x.sent)) (by omega), hSw.2.2.2.2.1.sto ((Sto.refl w bp).set 2 (.int .i64 x.sent)) (by omega), hSw.2.2.2.2.2.1.sto ((Sto.refl w bp).set 2 (.int .i64 x.sent)) (by omega), hSw.2.2.2.2.2.2.1.sto ((Sto.refl w bp).set 2 (.int .i64 x.sent)) (by omega), hSw.2.2.2.2.2.2.2.1.sto ((Sto.refl w bp).set 2 (.int .i64 x.sent)) (by omega), trivial⟩))
    | iq + 7, hin, _ => exact absurd hin (by omega)
theorem enter21 (args : Array Value) (w : World) : (callFunc 21 args).run Try.prog w = .ok (.enter 21 args) w := by kernel_rfl
theorem enter22 (args : Array Value) (w : World) : (callFunc 22 args).run Try.prog w = .ok (.enter 22 args) w := by kernel_rfl
def gv20O0 (psA psB psC : String) : Oper := { dst := some 80, op := .load 23 (.tmp 4), type := 23, pos := psA, after := #[], guard := none }
def gv20O1 (psA psB psC : String) : Oper := { dst := some 81, op := .move (.tmp 2), type := 3, pos := psA, after := #[], guard := none }
def gv20O2 (psA psB psC : String) : Oper := { dst := some 82, op := .load 3 (.tmp 12), type := 3, pos := psA, after := #[], guard := none }
def gv20O3 (psA psB psC : String) : Oper := { dst := some 83, op := .load 33 (.tmp 13), type := 33, pos := psA, after := #[], guard := none }
def gv20O4 (psA psB psC : String) : Oper := { dst := some 84, op := .move (.tmp 2), type := 3, pos := psA, after := #[], guard := none }
def gv20O5 (psA psB psC : String) : Oper := { dst := some 85, op := .call { callee := .value (.func 21), args := #[.tmp 83, .tmp 84], argTypes := #[33, 3] }, type := 3, pos := psB, after := #[{ on := 3, ground := .data }, { on := 4, ground := .data }], guard := none }
def gv20O6 (psA psB psC : String) : Oper := { dst := some 86, op := .load 33 (.tmp 13), type := 33, pos := psA, after := #[], guard := none }
def gv20O7 (psA psB psC : String) : Oper := { dst := some 87, op := .fieldAddr 23 (.tmp 4) 0, type := 0, pos := psA, after := #[], guard := none }
def gv20O8 (psA psB psC : String) : Oper := { dst := some 88, op := .load 3 (.tmp 87), type := 3, pos := psA, after := #[{ on := 7, ground := .data }], guard := none }
def gv20O9 (psA psB psC : String) : Oper := { dst := some 89, op := .move (.tmp 2), type := 3, pos := psA, after := #[], guard := none }
def gv20O10 (psA psB psC : String) : Oper := { dst := some 90, op := .move (.tmp 3), type := 3, pos := psA, after := #[], guard := none }
def gv20O11 (psA psB psC : String) : Oper := { dst := some 91, op := .call { callee := .value (.func 22), args := #[.tmp 86, .tmp 88, .tmp 89, .tmp 90], argTypes := #[33, 3, 3, 3] }, type := 3, pos := psC, after := #[{ on := 6, ground := .data }, { on := 8, ground := .data }, { on := 9, ground := .data }, { on := 10, ground := .data }, { on := 5, ground := .chain }], guard := none }
def gv20O12 (psA psB psC : String) : Oper := { dst := some 92, op := .fieldAddr 33 (.tmp 13) 11, type := 0, pos := psA, after := #[], guard := none }
def gv20O13 (psA psB psC : String) : Oper := { dst := some 93, op := .load 4 (.tmp 92), type := 4, pos := psA, after := #[{ on := 12, ground := .data }], guard := none }
def gv20O14 (psA psB psC : String) : Oper := { dst := some 94, op := .fieldAddr 23 (.tmp 4) 0, type := 0, pos := psA, after := #[], guard := none }
def gv20O15 (psA psB psC : String) : Oper := { dst := some 95, op := .load 3 (.tmp 94), type := 3, pos := psA, after := #[{ on := 14, ground := .data }], guard := none }
def gv20O16 (psA psB psC : String) : Oper := { dst := some 96, op := .fieldAddr 33 (.tmp 13) 8, type := 0, pos := psA, after := #[], guard := none }
def gv20O17 (psA psB psC : String) : Oper := { dst := some 97, op := .load 3 (.tmp 96), type := 3, pos := psA, after := #[{ on := 16, ground := .data }], guard := none }
def gv20O18 (psA psB psC : String) : Oper := { dst := some 98, op := .build 26 #[(0, .tmp 81), (1, .tmp 82), (2, .tmp 85), (3, .tmp 91), (4, .tmp 93), (5, .tmp 95), (6, .tmp 97)], type := 26, pos := psA, after := #[{ on := 1, ground := .data }, { on := 2, ground := .data }, { on := 5, ground := .data }, { on := 11, ground := .data }, { on := 13, ground := .data }, { on := 15, ground := .data }, { on := 17, ground := .data }], guard := none }
def gv20O19 (psA psB psC : String) : Oper := { dst := none, op := .store 23 (.tmp 8) (.tmp 80), type := 0, pos := psA, after := #[{ on := 0, ground := .data }, { on := 11, ground := .chain }, { on := 0, ground := .phase }, { on := 1, ground := .textOnly .lateStores }, { on := 2, ground := .textOnly .inlinedCapture }, { on := 3, ground := .textOnly .inlinedCapture }, { on := 4, ground := .textOnly .lateStores }, { on := 5, ground := .textOnly .lateStoresUnsure }, { on := 6, ground := .textOnly .inlinedCapture }, { on := 7, ground := .textOnly .lateStores }, { on := 8, ground := .textOnly .lateStores }, { on := 9, ground := .textOnly .lateStores }, { on := 10, ground := .textOnly .lateStores }, { on := 11, ground := .textOnly .lateStoresUnsure }, { on := 12, ground := .textOnly .lateStores }, { on := 13, ground := .textOnly .inlinedCapture }, { on := 14, ground := .textOnly .lateStores }, { on := 15, ground := .textOnly .lateStores }, { on := 16, ground := .textOnly .lateStores }, { on := 17, ground := .textOnly .inlinedCapture }, { on := 18, ground := .textOnly .inlinedCapture }], guard := none }
def gv20O20 (psA psB psC : String) : Oper := { dst := none, op := .store 26 (.tmp 9) (.tmp 98), type := 0, pos := psA, after := #[{ on := 18, ground := .data }, { on := 19, ground := .chain }, { on := 0, ground := .phase }, { on := 1, ground := .phase }, { on := 2, ground := .phase }, { on := 3, ground := .phase }, { on := 4, ground := .phase }, { on := 5, ground := .phase }, { on := 6, ground := .phase }, { on := 7, ground := .phase }, { on := 8, ground := .phase }, { on := 9, ground := .phase }, { on := 10, ground := .phase }, { on := 11, ground := .phase }, { on := 12, ground := .phase }, { on := 13, ground := .phase }, { on := 14, ground := .phase }, { on := 15, ground := .phase }, { on := 16, ground := .phase }, { on := 17, ground := .phase }, { on := 18, ground := .phase }, { on := 19, ground := .phase }], guard := none }
def gv20O21 (psA psB psC : String) : Oper := { dst := none, op := .store 27 (.tmp 10) (.const (.int .i64 0)), type := 0, pos := psA, after := #[{ on := 20, ground := .chain }, { on := 0, ground := .phase }, { on := 1, ground := .phase }, { on := 2, ground := .phase }, { on := 3, ground := .phase }, { on := 4, ground := .phase }, { on := 5, ground := .phase }, { on := 6, ground := .phase }, { on := 7, ground := .phase }, { on := 8, ground := .phase }, { on := 9, ground := .phase }, { on := 10, ground := .phase }, { on := 11, ground := .phase }, { on := 12, ground := .phase }, { on := 13, ground := .phase }, { on := 14, ground := .phase }, { on := 15, ground := .phase }, { on := 16, ground := .phase }, { on := 17, ground := .phase }, { on := 18, ground := .phase }, { on := 19, ground := .phase }, { on := 20, ground := .phase }], guard := none }
def gv20 (psA psB psC : String) : Array Oper := #[gv20O0 psA psB psC, gv20O1 psA psB psC, gv20O2 psA psB psC, gv20O3 psA psB psC, gv20O4 psA psB psC, gv20O5 psA psB psC, gv20O6 psA psB psC, gv20O7 psA psB psC, gv20O8 psA psB psC, gv20O9 psA psB psC, gv20O10 psA psB psC, gv20O11 psA psB psC, gv20O12 psA psB psC, gv20O13 psA psB psC, gv20O14 psA psB psC, gv20O15 psA psB psC, gv20O16 psA psB psC, gv20O17 psA psB psC, gv20O18 psA psB psC, gv20O19 psA psB psC, gv20O20 psA psB psC, gv20O21 psA psB psC]
theorem gv20_0 (psA psB psC : String) : (gv20 psA psB psC)[0]? = some (gv20O0 psA psB psC) := rfl
theorem gv20_1 (psA psB psC : String) : (gv20 psA psB psC)[1]? = some (gv20O1 psA psB psC) := rfl
theorem gv20_2 (psA psB psC : String) : (gv20 psA psB psC)[2]? = some (gv20O2 psA psB psC) := rfl
theorem gv20_3 (psA psB psC : String) : (gv20 psA psB psC)[3]? = some (gv20O3 psA psB psC) := rfl
theorem gv20_4 (psA psB psC : String) : (gv20 psA psB psC)[4]? = some (gv20O4 psA psB psC) := rfl
theorem gv20_5 (psA psB psC : String) : (gv20 psA psB psC)[5]? = some (gv20O5 psA psB psC) := rfl
theorem gv20_6 (psA psB psC : String) : (gv20 psA psB psC)[6]? = some (gv20O6 psA psB psC) := rfl
theorem gv20_7 (psA psB psC : String) : (gv20 psA psB psC)[7]? = some (gv20O7 psA psB psC) := rfl
theorem gv20_8 (psA psB psC : String) : (gv20 psA psB psC)[8]? = some (gv20O8 psA psB psC) := rfl
theorem gv20_9 (psA psB psC : String) : (gv20 psA psB psC)[9]? = some (gv20O9 psA psB psC) := rfl
theorem gv20_10 (psA psB psC : String) : (gv20 psA psB psC)[10]? = some (gv20O10 psA psB psC) := rfl
theorem gv20_11 (psA psB psC : String) : (gv20 psA psB psC)[11]? = some (gv20O11 psA psB psC) := rfl
theorem gv20_12 (psA psB psC : String) : (gv20 psA psB psC)[12]? = some (gv20O12 psA psB psC) := rfl
theorem gv20_13 (psA psB psC : String) : (gv20 psA psB psC)[13]? = some (gv20O13 psA psB psC) := rfl
theorem gv20_14 (psA psB psC : String) : (gv20 psA psB psC)[14]? = some (gv20O14 psA psB psC) := rfl
theorem gv20_15 (psA psB psC : String) : (gv20 psA psB psC)[15]? = some (gv20O15 psA psB psC) := rfl
theorem gv20_16 (psA psB psC : String) : (gv20 psA psB psC)[16]? = some (gv20O16 psA psB psC) := rfl
theorem gv20_17 (psA psB psC : String) : (gv20 psA psB psC)[17]? = some (gv20O17 psA psB psC) := rfl
theorem gv20_18 (psA psB psC : String) : (gv20 psA psB psC)[18]? = some (gv20O18 psA psB psC) := rfl
theorem gv20_19 (psA psB psC : String) : (gv20 psA psB psC)[19]? = some (gv20O19 psA psB psC) := rfl
theorem gv20_20 (psA psB psC : String) : (gv20 psA psB psC)[20]? = some (gv20O20 psA psB psC) := rfl
theorem gv20_21 (psA psB psC : String) : (gv20 psA psB psC)[21]? = some (gv20O21 psA psB psC) := rfl
def gv20D : Nat → Option Tmp
  | 0 => some 80
  | 1 => some 81
  | 2 => some 82
  | 3 => some 83
  | 4 => some 84
  | 5 => some 85
  | 6 => some 86
  | 7 => some 87
  | 8 => some 88
  | 9 => some 89
  | 10 => some 90
  | 11 => some 91
  | 12 => some 92
  | 13 => some 93
  | 14 => some 94
  | 15 => some 95
  | 16 => some 96
  | 17 => some 97
  | 18 => some 98
  | 19 => none
  | 20 => none
  | 21 => none
  | _ => none
def gv20T (q : Rt) (x : Rc) (now low ak : Int) (bp br bs be ba bo bd B0 : Nat) (WW : World) (rt rate : Int) : Nat → Value
  | 0 => agv (rtL q)
  | 1 => .int .i64 now
  | 2 => .int .i64 ak
  | 3 => agv (rcL x)
  | 4 => .int .i64 now
  | 5 => .int .i64 rt
  | 6 => agv (rcL x)
  | 7 => .pointer (some ⟨bp, 0, none⟩)
  | 8 => .int .i64 q.gv
  | 9 => .int .i64 now
  | 10 => .int .i64 low
  | 11 => .int .i64 rate
  | 12 => .pointer (some ⟨bo, 11, none⟩)
  | 13 => .bool x.idl
  | 14 => .pointer (some ⟨bp, 0, none⟩)
  | 15 => .int .i64 q.gv
  | 16 => .pointer (some ⟨bo, 8, none⟩)
  | 17 => .int .i64 x.gv
  | 18 => agv (smL (⟨now, ak, rt, rate, x.idl, q.gv, x.gv, 0⟩ : Sm))
  | 19 => undef
  | 20 => undef
  | 21 => undef
  | _ => undef
set_option maxRecDepth 100000 in
set_option maxHeartbeats 4000000 in
theorem gv20_reg {psA psB psC : String} {Q : Exit → Act → World → Prop} {a0 : Act} {W0 : World} (sz : a0.tmps.size = 99) (q : Rt) (x : Rc) (now low ak : Int) (bp br bs be ba bo bd B0 : Nat) (WW : World) (rt rate : Int)
    (e2 : a0.eval (.tmp 2) = .int .i64 now) (e3 : a0.eval (.tmp 3) = .int .i64 low) (e4 : a0.eval (.tmp 4) = .pointer (some ⟨bp, 0, none⟩)) (e8 : a0.eval (.tmp 8) = .pointer (some ⟨br, 0, none⟩)) (e9 : a0.eval (.tmp 9) = .pointer (some ⟨bs, 0, none⟩)) (e10 : a0.eval (.tmp 10) = .pointer (some ⟨be, 0, none⟩)) (e12 : a0.eval (.tmp 12) = .pointer (some ⟨ba, 0, none⟩)) (e13 : a0.eval (.tmp 13) = .pointer (some ⟨bo, 0, none⟩))
    (l0 : B0 ≤ bp) (l1 : bp < br) (l2 : br < bs) (l3 : bs < be) (l4 : be < ba) (l5 : ba < bo) (l6 : bo < bd) (hS0 : Below B0 WW W0 ∧ Box W0 bp 23 (rtL q) ∧ Box W0 br 23 (rtL (if false = true then q else rtZ)) ∧ Box W0 bs 26 (smL (if false = true then (⟨now, ak, rt, rate, x.idl, q.gv, x.gv, 0⟩ : Sm) else smZ)) ∧ Box W0 be 27 ([.int .i64 (if false = true then 0 else 0)]) ∧ Box W0 ba 3 ([.int .i64 ak]) ∧ Box W0 bo 33 (rcL x) ∧ Def W0 bd ∧ True)(c1 : ∀ W, Calls Try.prog 21 #[agv (rcL x), .int .i64 now] W fun e w' => e = .returned (.int .i64 rt) ∧ Below W.heap.size W w') (c2 : ∀ W, Calls Try.prog 22 #[agv (rcL x), .int .i64 q.gv, .int .i64 now, .int .i64 low] W fun e w' => e = .returned (.int .i64 rate) ∧ Below W.heap.size W w') 
    (hfin : ∀ (T : Nat → Value) w, Below B0 WW w ∧ Box w bp 23 (rtL q) ∧ Box w br 23 (rtL q) ∧ Box w bs 26 (smL (⟨now, ak, rt, rate, x.idl, q.gv, x.gv, 0⟩ : Sm)) ∧ Box w be 27 ([.int .i64 0]) ∧ Box w ba 3 ([.int .i64 ak]) ∧ Box w bo 33 (rcL x) ∧ Def w bd ∧ True → Q .normal (((((((((((((((((((a0.put (some 80) (T 0)).put (some 81) (T 1)).put (some 82) (T 2)).put (some 83) (T 3)).put (some 84) (T 4)).put (some 85) (T 5)).put (some 86) (T 6)).put (some 87) (T 7)).put (some 88) (T 8)).put (some 89) (T 9)).put (some 90) (T 10)).put (some 91) (T 11)).put (some 92) (T 12)).put (some 93) (T 13)).put (some 94) (T 14)).put (some 95) (T 15)).put (some 96) (T 16)).put (some 97) (T 17)).put (some 98) (T 18)) w) :
    (Code.region 20 (gv20 psA psB psC) true).wp Try.prog Q a0 W0 := by
  refine wp_region_dets (by kernel_rfl) 22 rfl gv20D ?_ (by decide) (gv20T q x now low ak bp br bs be ba bo bd B0 WW rt rate) (fun D w => Below B0 WW w ∧ Box w bp 23 (rtL q) ∧ Box w br 23 (rtL (if D 19 = true then q else rtZ)) ∧ Box w bs 26 (smL (if D 20 = true then (⟨now, ak, rt, rate, x.idl, q.gv, x.gv, 0⟩ : Sm) else smZ)) ∧ Box w be 27 ([.int .i64 (if D 21 = true then 0 else 0)]) ∧ Box w ba 3 ([.int .i64 ak]) ∧ Box w bo 33 (rcL x) ∧ Def w bd ∧ True) (fun D hD => by
    show Below B0 WW W0.drew ∧ Box W0.drew bp 23 (rtL q) ∧ Box W0.drew br 23 (rtL (if D 19 = true then q else rtZ)) ∧ Box W0.drew bs 26 (smL (if D 20 = true then (⟨now, ak, rt, rate, x.idl, q.gv, x.gv, 0⟩ : Sm) else smZ)) ∧ Box W0.drew be 27 ([.int .i64 (if D 21 = true then 0 else 0)]) ∧ Box W0.drew ba 3 ([.int .i64 ak]) ∧ Box W0.drew bo 33 (rcL x) ∧ Def W0.drew bd ∧ True
    rw [hD 19, hD 20, hD 21]
    exact ⟨hS0.1.drew, hS0.2.1, hS0.2.2.1, hS0.2.2.2.1, hS0.2.2.2.2.1, hS0.2.2.2.2.2.1, hS0.2.2.2.2.2.2.1, hS0.2.2.2.2.2.2.2.1, trivial⟩) ?_ (by rfl) (fun w D hD hSw => by
    have hSw' : Below B0 WW w ∧ Box w bp 23 (rtL q) ∧ Box w br 23 (rtL (if D 19 = true then q else rtZ)) ∧ Box w bs 26 (smL (if D 20 = true then (⟨now, ak, rt, rate, x.idl, q.gv, x.gv, 0⟩ : Sm) else smZ)) ∧ Box w be 27 ([.int .i64 (if D 21 = true then 0 else 0)]) ∧ Box w ba 3 ([.int .i64 ak]) ∧ Box w bo 33 (rcL x) ∧ Def w bd ∧ True := hSw
    rw [hD 19 (by decide), hD 20 (by decide), hD 21 (by decide)] at hSw'
    exact hfin (gv20T q x now low ak bp br bs be ba bo bd B0 WW rt rate) w  hSw')
  · intro jq t hj ht
    have : ∀ j, j < 22 → (gv20D j).all (· < 99) = true := by decide
    have := this jq hj
    rw [ht] at this
    rw [sz]
    simpa using this
  · intro iq o ho D a w hSw hDi hcl hs hel K hK
    have hin : iq < 22 := (Array.getElem?_eq_some_iff.1 ho).1
    match iq, hin, ho with
    | 0, _, ho =>
      obtain rfl := Option.some.inj (ho.symm.trans (gv20_0 psA psB psC))
      have u4 : a.eval (.tmp 4) = .pointer (some ⟨bp, 0, none⟩) := (hel 4 (by decide)).trans e4
      exact op_valW (gv20_0 psA psB psC) rfl (v := agv (rtL q)) (run_loadS isS23 rfl u4 hSw.2.1) (hK w (fun D' hi' hj' => by
        have hd19 : D' 19 = D 19 := hj' 19 (by decide)
        have hd20 : D' 20 = D 20 := hj' 20 (by decide)
        have hd21 : D' 21 = D 21 := hj' 21 (by decide)
        show Below B0 WW w ∧ Box w bp 23 (rtL q) ∧ Box w br 23 (rtL (if D' 19 = true then q else rtZ)) ∧ Box w bs 26 (smL (if D' 20 = true then (⟨now, ak, rt, rate, x.idl, q.gv, x.gv, 0⟩ : Sm) else smZ)) ∧ Box w be 27 ([.int .i64 (if D' 21 = true then 0 else 0)]) ∧ Box w ba 3 ([.int .i64 ak]) ∧ Box w bo 33 (rcL x) ∧ Def w bd ∧ True
        rw [hd19, hd20, hd21]
        exact hSw))
    | 1, _, ho =>
      obtain rfl := Option.some.inj (ho.symm.trans (gv20_1 psA psB psC))
      have u2 : a.eval (.tmp 2) = .int .i64 now := (hel 2 (by decide)).trans e2
      exact op_valW (gv20_1 psA psB psC) rfl (v := .int .i64 now) (by unfold gv20O1 execOp; simp only [u2]; first | (go_simp; done) | (go_simp; with_reducible rfl)) (hK w (fun D' hi' hj' => by
        have hd19 : D' 19 = D 19 := hj' 19 (by decide)
        have hd20 : D' 20 = D 20 := hj' 20 (by decide)
        have hd21 : D' 21 = D 21 := hj' 21 (by decide)
        show Below B0 WW w ∧ Box w bp 23 (rtL q) ∧ Box w br 23 (rtL (if D' 19 = true then q else rtZ)) ∧ Box w bs 26 (smL (if D' 20 = true then (⟨now, ak, rt, rate, x.idl, q.gv, x.gv, 0⟩ : Sm) else smZ)) ∧ Box w be 27 ([.int .i64 (if D' 21 = true then 0 else 0)]) ∧ Box w ba 3 ([.int .i64 ak]) ∧ Box w bo 33 (rcL x) ∧ Def w bd ∧ True
        rw [hd19, hd20, hd21]
        exact hSw))
    | 2, _, ho =>
      obtain rfl := Option.some.inj (ho.symm.trans (gv20_2 psA psB psC))
      have u12 : a.eval (.tmp 12) = .pointer (some ⟨ba, 0, none⟩) := (hel 12 (by decide)).trans e12
      have hcl : w.cell? ⟨ba, 0, none⟩ = some (.int .i64 ak) := Box.cell hSw.2.2.2.2.2.1 0 rfl
      exact op_valW (gv20_2 psA psB psC) rfl (v := .int .i64 ak) (by unfold gv20O2 execOp; simp only [u12]; first | (go_simp; done) | (go_simp; with_reducible rfl)) (hK w (fun D' hi' hj' => by
        have hd19 : D' 19 = D 19 := hj' 19 (by decide)
        have hd20 : D' 20 = D 20 := hj' 20 (by decide)
        have hd21 : D' 21 = D 21 := hj' 21 (by decide)
        show Below B0 WW w ∧ Box w bp 23 (rtL q) ∧ Box w br 23 (rtL (if D' 19 = true then q else rtZ)) ∧ Box w bs 26 (smL (if D' 20 = true then (⟨now, ak, rt, rate, x.idl, q.gv, x.gv, 0⟩ : Sm) else smZ)) ∧ Box w be 27 ([.int .i64 (if D' 21 = true then 0 else 0)]) ∧ Box w ba 3 ([.int .i64 ak]) ∧ Box w bo 33 (rcL x) ∧ Def w bd ∧ True
        rw [hd19, hd20, hd21]
        exact hSw))
    | 3, _, ho =>
      obtain rfl := Option.some.inj (ho.symm.trans (gv20_3 psA psB psC))
      have u13 : a.eval (.tmp 13) = .pointer (some ⟨bo, 0, none⟩) := (hel 13 (by decide)).trans e13
      exact op_valW (gv20_3 psA psB psC) rfl (v := agv (rcL x)) (run_loadS isS33 rfl u13 hSw.2.2.2.2.2.2.1) (hK w (fun D' hi' hj' => by
        have hd19 : D' 19 = D 19 := hj' 19 (by decide)
        have hd20 : D' 20 = D 20 := hj' 20 (by decide)
        have hd21 : D' 21 = D 21 := hj' 21 (by decide)
        show Below B0 WW w ∧ Box w bp 23 (rtL q) ∧ Box w br 23 (rtL (if D' 19 = true then q else rtZ)) ∧ Box w bs 26 (smL (if D' 20 = true then (⟨now, ak, rt, rate, x.idl, q.gv, x.gv, 0⟩ : Sm) else smZ)) ∧ Box w be 27 ([.int .i64 (if D' 21 = true then 0 else 0)]) ∧ Box w ba 3 ([.int .i64 ak]) ∧ Box w bo 33 (rcL x) ∧ Def w bd ∧ True
        rw [hd19, hd20, hd21]
        exact hSw))
    | 4, _, ho =>
      obtain rfl := Option.some.inj (ho.symm.trans (gv20_4 psA psB psC))
      have u2 : a.eval (.tmp 2) = .int .i64 now := (hel 2 (by decide)).trans e2
      exact op_valW (gv20_4 psA psB psC) rfl (v := .int .i64 now) (by unfold gv20O4 execOp; simp only [u2]; first | (go_simp; done) | (go_simp; with_reducible rfl)) (hK w (fun D' hi' hj' => by
        have hd19 : D' 19 = D 19 := hj' 19 (by decide)
        have hd20 : D' 20 = D 20 := hj' 20 (by decide)
        have hd21 : D' 21 = D 21 := hj' 21 (by decide)
        show Below B0 WW w ∧ Box w bp 23 (rtL q) ∧ Box w br 23 (rtL (if D' 19 = true then q else rtZ)) ∧ Box w bs 26 (smL (if D' 20 = true then (⟨now, ak, rt, rate, x.idl, q.gv, x.gv, 0⟩ : Sm) else smZ)) ∧ Box w be 27 ([.int .i64 (if D' 21 = true then 0 else 0)]) ∧ Box w ba 3 ([.int .i64 ak]) ∧ Box w bo 33 (rcL x) ∧ Def w bd ∧ True
        rw [hd19, hd20, hd21]
        exact hSw))
    | 5, _, ho =>
      obtain rfl := Option.some.inj (ho.symm.trans (gv20_5 psA psB psC))
      have s3 : a.eval (.tmp 83) = agv (rcL x) := hs 3 83 (by rfl) rfl
      have s4 : a.eval (.tmp 84) = .int .i64 now := hs 4 84 (by rfl) rfl
      exact op_enterW (gv20_5 psA psB psC) rfl (f := 21) (args := #[agv (rcL x), .int .i64 now]) (by rw [run_call rfl enter21]; simp only [List.map_toArray, List.map_cons, List.map_nil, s3, s4]; try rfl) ((c1 w).mono (fun e w' hh => ⟨_, hh.1, hK w' (fun D' hi' hj' => by
        have hd19 : D' 19 = D 19 := hj' 19 (by decide)
        have hd20 : D' 20 = D 20 := hj' 20 (by decide)
        have hd21 : D' 21 = D 21 := hj' 21 (by decide)
        show Below B0 WW w' ∧ Box w' bp 23 (rtL q) ∧ Box w' br 23 (rtL (if D' 19 = true then q else rtZ)) ∧ Box w' bs 26 (smL (if D' 20 = true then (⟨now, ak, rt, rate, x.idl, q.gv, x.gv, 0⟩ : Sm) else smZ)) ∧ Box w' be 27 ([.int .i64 (if D' 21 = true then 0 else 0)]) ∧ Box w' ba 3 ([.int .i64 ak]) ∧ Box w' bo 33 (rcL x) ∧ Def w' bd ∧ True
        rw [hd19, hd20, hd21]
        exact ⟨hSw.1.trans (hh.2.mono (Nat.le_trans l0 (Nat.le_of_lt hSw.2.1.lt))), hSw.2.1.later hh.2, hSw.2.2.1.later hh.2, hSw.2.2.2.1.later hh.2, hSw.2.2.2.2.1.later hh.2, hSw.2.2.2.2.2.1.later hh.2, hSw.2.2.2.2.2.2.1.later hh.2, hSw.2.2.2.2.2.2.2.1.later hh.2, trivial⟩)⟩))
    | 6, _, ho =>
      obtain rfl := Option.some.inj (ho.symm.trans (gv20_6 psA psB psC))
      have u13 : a.eval (.tmp 13) = .pointer (some ⟨bo, 0, none⟩) := (hel 13 (by decide)).trans e13
      exact op_valW (gv20_6 psA psB psC) rfl (v := agv (rcL x)) (run_loadS isS33 rfl u13 hSw.2.2.2.2.2.2.1) (hK w (fun D' hi' hj' => by
        have hd19 : D' 19 = D 19 := hj' 19 (by decide)
        have hd20 : D' 20 = D 20 := hj' 20 (by decide)
        have hd21 : D' 21 = D 21 := hj' 21 (by decide)
        show Below B0 WW w ∧ Box w bp 23 (rtL q) ∧ Box w br 23 (rtL (if D' 19 = true then q else rtZ)) ∧ Box w bs 26 (smL (if D' 20 = true then (⟨now, ak, rt, rate, x.idl, q.gv, x.gv, 0⟩ : Sm) else smZ)) ∧ Box w be 27 ([.int .i64 (if D' 21 = true then 0 else 0)]) ∧ Box w ba 3 ([.int .i64 ak]) ∧ Box w bo 33 (rcL x) ∧ Def w bd ∧ True
        rw [hd19, hd20, hd21]
        exact hSw))
    | 7, _, ho =>
      obtain rfl := Option.some.inj (ho.symm.trans (gv20_7 psA psB psC))
      have u4 : a.eval (.tmp 4) = .pointer (some ⟨bp, 0, none⟩) := (hel 4 (by decide)).trans e4
      exact op_valW (gv20_7 psA psB psC) rfl (v := .pointer (some ⟨bp, 0, none⟩)) (by unfold gv20O7 execOp; simp only [u4]; first | (go_simp; done) | (go_simp; with_reducible rfl)) (hK w (fun D' hi' hj' => by
        have hd19 : D' 19 = D 19 := hj' 19 (by decide)
        have hd20 : D' 20 = D 20 := hj' 20 (by decide)
        have hd21 : D' 21 = D 21 := hj' 21 (by decide)
        show Below B0 WW w ∧ Box w bp 23 (rtL q) ∧ Box w br 23 (rtL (if D' 19 = true then q else rtZ)) ∧ Box w bs 26 (smL (if D' 20 = true then (⟨now, ak, rt, rate, x.idl, q.gv, x.gv, 0⟩ : Sm) else smZ)) ∧ Box w be 27 ([.int .i64 (if D' 21 = true then 0 else 0)]) ∧ Box w ba 3 ([.int .i64 ak]) ∧ Box w bo 33 (rcL x) ∧ Def w bd ∧ True
        rw [hd19, hd20, hd21]
        exact hSw))
    | 8, _, ho =>
      obtain rfl := Option.some.inj (ho.symm.trans (gv20_8 psA psB psC))
      have s7 : a.eval (.tmp 87) = .pointer (some ⟨bp, 0, none⟩) := hs 7 87 (by rfl) rfl
      have hcl : w.cell? ⟨bp, 0, none⟩ = some (.int .i64 q.gv) := Box.cell hSw.2.1 0 rfl
      exact op_valW (gv20_8 psA psB psC) rfl (v := .int .i64 q.gv) (by unfold gv20O8 execOp; simp only [s7]; first | (go_simp; done) | (go_simp; with_reducible rfl)) (hK w (fun D' hi' hj' => by
        have hd19 : D' 19 = D 19 := hj' 19 (by decide)
        have hd20 : D' 20 = D 20 := hj' 20 (by decide)
        have hd21 : D' 21 = D 21 := hj' 21 (by decide)
        show Below B0 WW w ∧ Box w bp 23 (rtL q) ∧ Box w br 23 (rtL (if D' 19 = true then q else rtZ)) ∧ Box w bs 26 (smL (if D' 20 = true then (⟨now, ak, rt, rate, x.idl, q.gv, x.gv, 0⟩ : Sm) else smZ)) ∧ Box w be 27 ([.int .i64 (if D' 21 = true then 0 else 0)]) ∧ Box w ba 3 ([.int .i64 ak]) ∧ Box w bo 33 (rcL x) ∧ Def w bd ∧ True
        rw [hd19, hd20, hd21]
        exact hSw))
    | 9, _, ho =>
      obtain rfl := Option.some.inj (ho.symm.trans (gv20_9 psA psB psC))
      have u2 : a.eval (.tmp 2) = .int .i64 now := (hel 2 (by decide)).trans e2
      exact op_valW (gv20_9 psA psB psC) rfl (v := .int .i64 now) (by unfold gv20O9 execOp; simp only [u2]; first | (go_simp; done) | (go_simp; with_reducible rfl)) (hK w (fun D' hi' hj' => by
        have hd19 : D' 19 = D 19 := hj' 19 (by decide)
        have hd20 : D' 20 = D 20 := hj' 20 (by decide)
        have hd21 : D' 21 = D 21 := hj' 21 (by decide)
        show Below B0 WW w ∧ Box w bp 23 (rtL q) ∧ Box w br 23 (rtL (if D' 19 = true then q else rtZ)) ∧ Box w bs 26 (smL (if D' 20 = true then (⟨now, ak, rt, rate, x.idl, q.gv, x.gv, 0⟩ : Sm) else smZ)) ∧ Box w be 27 ([.int .i64 (if D' 21 = true then 0 else 0)]) ∧ Box w ba 3 ([.int .i64 ak]) ∧ Box w bo 33 (rcL x) ∧ Def w bd ∧ True
        rw [hd19, hd20, hd21]
        exact hSw))
    | 10, _, ho =>
      obtain rfl := Option.some.inj (ho.symm.trans (gv20_10 psA psB psC))
      have u3 : a.eval (.tmp 3) = .int .i64 low := (hel 3 (by decide)).trans e3
      exact op_valW (gv20_10 psA psB psC) rfl (v := .int .i64 low) (by unfold gv20O10 execOp; simp only [u3]; first | (go_simp; done) | (go_simp; with_reducible rfl)) (hK w (fun D' hi' hj' => by
        have hd19 : D' 19 = D 19 := hj' 19 (by decide)
        have hd20 : D' 20 = D 20 := hj' 20 (by decide)
        have hd21 : D' 21 = D 21 := hj' 21 (by decide)
        show Below B0 WW w ∧ Box w bp 23 (rtL q) ∧ Box w br 23 (rtL (if D' 19 = true then q else rtZ)) ∧ Box w bs 26 (smL (if D' 20 = true then (⟨now, ak, rt, rate, x.idl, q.gv, x.gv, 0⟩ : Sm) else smZ)) ∧ Box w be 27 ([.int .i64 (if D' 21 = true then 0 else 0)]) ∧ Box w ba 3 ([.int .i64 ak]) ∧ Box w bo 33 (rcL x) ∧ Def w bd ∧ True
        rw [hd19, hd20, hd21]
        exact hSw))
    | 11, _, ho =>
      obtain rfl := Option.some.inj (ho.symm.trans (gv20_11 psA psB psC))
      have s6 : a.eval (.tmp 86) = agv (rcL x) := hs 6 86 (by rfl) rfl
      have s8 : a.eval (.tmp 88) = .int .i64 q.gv := hs 8 88 (by rfl) rfl
      have s9 : a.eval (.tmp 89) = .int .i64 now := hs 9 89 (by rfl) rfl
      have s10 : a.eval (.tmp 90) = .int .i64 low := hs 10 90 (by rfl) rfl
      exact op_enterW (gv20_11 psA psB psC) rfl (f := 22) (args := #[agv (rcL x), .int .i64 q.gv, .int .i64 now, .int .i64 low]) (by rw [run_call rfl enter22]; simp only [List.map_toArray, List.map_cons, List.map_nil, s6, s8, s9, s10]; try rfl) ((c2 w).mono (fun e w' hh => ⟨_, hh.1, hK w' (fun D' hi' hj' => by
        have hd19 : D' 19 = D 19 := hj' 19 (by decide)
        have hd20 : D' 20 = D 20 := hj' 20 (by decide)
        have hd21 : D' 21 = D 21 := hj' 21 (by decide)
        show Below B0 WW w' ∧ Box w' bp 23 (rtL q) ∧ Box w' br 23 (rtL (if D' 19 = true then q else rtZ)) ∧ Box w' bs 26 (smL (if D' 20 = true then (⟨now, ak, rt, rate, x.idl, q.gv, x.gv, 0⟩ : Sm) else smZ)) ∧ Box w' be 27 ([.int .i64 (if D' 21 = true then 0 else 0)]) ∧ Box w' ba 3 ([.int .i64 ak]) ∧ Box w' bo 33 (rcL x) ∧ Def w' bd ∧ True
        rw [hd19, hd20, hd21]
        exact ⟨hSw.1.trans (hh.2.mono (Nat.le_trans l0 (Nat.le_of_lt hSw.2.1.lt))), hSw.2.1.later hh.2, hSw.2.2.1.later hh.2, hSw.2.2.2.1.later hh.2, hSw.2.2.2.2.1.later hh.2, hSw.2.2.2.2.2.1.later hh.2, hSw.2.2.2.2.2.2.1.later hh.2, hSw.2.2.2.2.2.2.2.1.later hh.2, trivial⟩)⟩))
    | 12, _, ho =>
      obtain rfl := Option.some.inj (ho.symm.trans (gv20_12 psA psB psC))
      have u13 : a.eval (.tmp 13) = .pointer (some ⟨bo, 0, none⟩) := (hel 13 (by decide)).trans e13
      exact op_valW (gv20_12 psA psB psC) rfl (v := .pointer (some ⟨bo, 11, none⟩)) (by unfold gv20O12 execOp; simp only [u13]; first | (go_simp; done) | (go_simp; with_reducible rfl)) (hK w (fun D' hi' hj' => by
        have hd19 : D' 19 = D 19 := hj' 19 (by decide)
        have hd20 : D' 20 = D 20 := hj' 20 (by decide)
        have hd21 : D' 21 = D 21 := hj' 21 (by decide)
        show Below B0 WW w ∧ Box w bp 23 (rtL q) ∧ Box w br 23 (rtL (if D' 19 = true then q else rtZ)) ∧ Box w bs 26 (smL (if D' 20 = true then (⟨now, ak, rt, rate, x.idl, q.gv, x.gv, 0⟩ : Sm) else smZ)) ∧ Box w be 27 ([.int .i64 (if D' 21 = true then 0 else 0)]) ∧ Box w ba 3 ([.int .i64 ak]) ∧ Box w bo 33 (rcL x) ∧ Def w bd ∧ True
        rw [hd19, hd20, hd21]
        exact hSw))
    | 13, _, ho =>
      obtain rfl := Option.some.inj (ho.symm.trans (gv20_13 psA psB psC))
      have s12 : a.eval (.tmp 92) = .pointer (some ⟨bo, 11, none⟩) := hs 12 92 (by rfl) rfl
      have hcl : w.cell? ⟨bo, 11, none⟩ = some (.bool x.idl) := Box.cell hSw.2.2.2.2.2.2.1 11 rfl
      exact op_valW (gv20_13 psA psB psC) rfl (v := .bool x.idl) (by unfold gv20O13 execOp; simp only [s12]; first | (go_simp; done) | (go_simp; with_reducible rfl)) (hK w (fun D' hi' hj' => by
        have hd19 : D' 19 = D 19 := hj' 19 (by decide)
        have hd20 : D' 20 = D 20 := hj' 20 (by decide)
        have hd21 : D' 21 = D 21 := hj' 21 (by decide)
        show Below B0 WW w ∧ Box w bp 23 (rtL q) ∧ Box w br 23 (rtL (if D' 19 = true then q else rtZ)) ∧ Box w bs 26 (smL (if D' 20 = true then (⟨now, ak, rt, rate, x.idl, q.gv, x.gv, 0⟩ : Sm) else smZ)) ∧ Box w be 27 ([.int .i64 (if D' 21 = true then 0 else 0)]) ∧ Box w ba 3 ([.int .i64 ak]) ∧ Box w bo 33 (rcL x) ∧ Def w bd ∧ True
        rw [hd19, hd20, hd21]
        exact hSw))
    | 14, _, ho =>
      obtain rfl := Option.some.inj (ho.symm.trans (gv20_14 psA psB psC))
      have u4 : a.eval (.tmp 4) = .pointer (some ⟨bp, 0, none⟩) := (hel 4 (by decide)).trans e4
      exact op_valW (gv20_14 psA psB psC) rfl (v := .pointer (some ⟨bp, 0, none⟩)) (by unfold gv20O14 execOp; simp only [u4]; first | (go_simp; done) | (go_simp; with_reducible rfl)) (hK w (fun D' hi' hj' => by
        have hd19 : D' 19 = D 19 := hj' 19 (by decide)
        have hd20 : D' 20 = D 20 := hj' 20 (by decide)
        have hd21 : D' 21 = D 21 := hj' 21 (by decide)
        show Below B0 WW w ∧ Box w bp 23 (rtL q) ∧ Box w br 23 (rtL (if D' 19 = true then q else rtZ)) ∧ Box w bs 26 (smL (if D' 20 = true then (⟨now, ak, rt, rate, x.idl, q.gv, x.gv, 0⟩ : Sm) else smZ)) ∧ Box w be 27 ([.int .i64 (if D' 21 = true then 0 else 0)]) ∧ Box w ba 3 ([.int .i64 ak]) ∧ Box w bo 33 (rcL x) ∧ Def w bd ∧ True
        rw [hd19, hd20, hd21]
        exact hSw))
    | 15, _, ho =>
      obtain rfl := Option.some.inj (ho.symm.trans (gv20_15 psA psB psC))
      have s14 : a.eval (.tmp 94) = .pointer (some ⟨bp, 0, none⟩) := hs 14 94 (by rfl) rfl
      have hcl : w.cell? ⟨bp, 0, none⟩ = some (.int .i64 q.gv) := Box.cell hSw.2.1 0 rfl
      exact op_valW (gv20_15 psA psB psC) rfl (v := .int .i64 q.gv) (by unfold gv20O15 execOp; simp only [s14]; first | (go_simp; done) | (go_simp; with_reducible rfl)) (hK w (fun D' hi' hj' => by
        have hd19 : D' 19 = D 19 := hj' 19 (by decide)
        have hd20 : D' 20 = D 20 := hj' 20 (by decide)
        have hd21 : D' 21 = D 21 := hj' 21 (by decide)
        show Below B0 WW w ∧ Box w bp 23 (rtL q) ∧ Box w br 23 (rtL (if D' 19 = true then q else rtZ)) ∧ Box w bs 26 (smL (if D' 20 = true then (⟨now, ak, rt, rate, x.idl, q.gv, x.gv, 0⟩ : Sm) else smZ)) ∧ Box w be 27 ([.int .i64 (if D' 21 = true then 0 else 0)]) ∧ Box w ba 3 ([.int .i64 ak]) ∧ Box w bo 33 (rcL x) ∧ Def w bd ∧ True
        rw [hd19, hd20, hd21]
        exact hSw))
    | 16, _, ho =>
      obtain rfl := Option.some.inj (ho.symm.trans (gv20_16 psA psB psC))
      have u13 : a.eval (.tmp 13) = .pointer (some ⟨bo, 0, none⟩) := (hel 13 (by decide)).trans e13
      exact op_valW (gv20_16 psA psB psC) rfl (v := .pointer (some ⟨bo, 8, none⟩)) (by unfold gv20O16 execOp; simp only [u13]; first | (go_simp; done) | (go_simp; with_reducible rfl)) (hK w (fun D' hi' hj' => by
        have hd19 : D' 19 = D 19 := hj' 19 (by decide)
        have hd20 : D' 20 = D 20 := hj' 20 (by decide)
        have hd21 : D' 21 = D 21 := hj' 21 (by decide)
        show Below B0 WW w ∧ Box w bp 23 (rtL q) ∧ Box w br 23 (rtL (if D' 19 = true then q else rtZ)) ∧ Box w bs 26 (smL (if D' 20 = true then (⟨now, ak, rt, rate, x.idl, q.gv, x.gv, 0⟩ : Sm) else smZ)) ∧ Box w be 27 ([.int .i64 (if D' 21 = true then 0 else 0)]) ∧ Box w ba 3 ([.int .i64 ak]) ∧ Box w bo 33 (rcL x) ∧ Def w bd ∧ True
        rw [hd19, hd20, hd21]
        exact hSw))
    | 17, _, ho =>
      obtain rfl := Option.some.inj (ho.symm.trans (gv20_17 psA psB psC))
      have s16 : a.eval (.tmp 96) = .pointer (some ⟨bo, 8, none⟩) := hs 16 96 (by rfl) rfl
      have hcl : w.cell? ⟨bo, 8, none⟩ = some (.int .i64 x.gv) := Box.cell hSw.2.2.2.2.2.2.1 8 rfl
      exact op_valW (gv20_17 psA psB psC) rfl (v := .int .i64 x.gv) (by unfold gv20O17 execOp; simp only [s16]; first | (go_simp; done) | (go_simp; with_reducible rfl)) (hK w (fun D' hi' hj' => by
        have hd19 : D' 19 = D 19 := hj' 19 (by decide)
        have hd20 : D' 20 = D 20 := hj' 20 (by decide)
        have hd21 : D' 21 = D 21 := hj' 21 (by decide)
        show Below B0 WW w ∧ Box w bp 23 (rtL q) ∧ Box w br 23 (rtL (if D' 19 = true then q else rtZ)) ∧ Box w bs 26 (smL (if D' 20 = true then (⟨now, ak, rt, rate, x.idl, q.gv, x.gv, 0⟩ : Sm) else smZ)) ∧ Box w be 27 ([.int .i64 (if D' 21 = true then 0 else 0)]) ∧ Box w ba 3 ([.int .i64 ak]) ∧ Box w bo 33 (rcL x) ∧ Def w bd ∧ True
        rw [hd19, hd20, hd21]
        exact hSw))
    | 18, _, ho =>
      obtain rfl := Option.some.inj (ho.symm.trans (gv20_18 psA psB psC))
      have s1 : a.eval (.tmp 81) = .int .i64 now := hs 1 81 (by rfl) rfl
      have s2 : a.eval (.tmp 82) = .int .i64 ak := hs 2 82 (by rfl) rfl
      have s5 : a.eval (.tmp 85) = .int .i64 rt := hs 5 85 (by rfl) rfl
      have s11 : a.eval (.tmp 91) = .int .i64 rate := hs 11 91 (by rfl) rfl
      have s13 : a.eval (.tmp 93) = .bool x.idl := hs 13 93 (by rfl) rfl
      have s15 : a.eval (.tmp 95) = .int .i64 q.gv := hs 15 95 (by rfl) rfl
      have s17 : a.eval (.tmp 97) = .int .i64 x.gv := hs 17 97 (by rfl) rfl
      exact op_valW (gv20_18 psA psB psC) rfl (v := agv (smL (⟨now, ak, rt, rate, x.idl, q.gv, x.gv, 0⟩ : Sm))) (run_buildS rfl (by simp only [List.map_cons, List.map_nil, s1, s2, s5, s11, s13, s15, s17]; exact built26b now ak rt rate x.idl q.gv x.gv)) (hK w (fun D' hi' hj' => by
        have hd19 : D' 19 = D 19 := hj' 19 (by decide)
        have hd20 : D' 20 = D 20 := hj' 20 (by decide)
        have hd21 : D' 21 = D 21 := hj' 21 (by decide)
        show Below B0 WW w ∧ Box w bp 23 (rtL q) ∧ Box w br 23 (rtL (if D' 19 = true then q else rtZ)) ∧ Box w bs 26 (smL (if D' 20 = true then (⟨now, ak, rt, rate, x.idl, q.gv, x.gv, 0⟩ : Sm) else smZ)) ∧ Box w be 27 ([.int .i64 (if D' 21 = true then 0 else 0)]) ∧ Box w ba 3 ([.int .i64 ak]) ∧ Box w bo 33 (rcL x) ∧ Def w bd ∧ True
        rw [hd19, hd20, hd21]
        exact hSw))
    | 19, _, ho =>
      obtain rfl := Option.some.inj (ho.symm.trans (gv20_19 psA psB psC))
      have s0 : a.eval (.tmp 80) = agv (rtL q) := hs 0 80 (by rfl) rfl
      have u8 : a.eval (.tmp 8) = .pointer (some ⟨br, 0, none⟩) := (hel 8 (by decide)).trans e8
      exact op_stoW (gv20_19 psA psB psC) rfl rfl (w' := (w.setRow br (rtL q).toArray)) (run_storeS rfl u8 s0 hSw.2.2.1 rfl isS23 (rtL_one _)) (hK _ (fun D' hi' hj' => by
        have hd19 : D' 19 = true := hi'
        have hd20 : D' 20 = D 20 := hj' 20 (by decide)
        have hd21 : D' 21 = D 21 := hj' 21 (by decide)
        show Below B0 WW (w.setRow br (rtL q).toArray) ∧ Box (w.setRow br (rtL q).toArray) bp 23 (rtL q) ∧ Box (w.setRow br (rtL q).toArray) br 23 (rtL (if D' 19 = true then q else rtZ)) ∧ Box (w.setRow br (rtL q).toArray) bs 26 (smL (if D' 20 = true then (⟨now, ak, rt, rate, x.idl, q.gv, x.gv, 0⟩ : Sm) else smZ)) ∧ Box (w.setRow br (rtL q).toArray) be 27 ([.int .i64 (if D' 21 = true then 0 else 0)]) ∧ Box (w.setRow br (rtL q).toArray) ba 3 ([.int .i64 ak]) ∧ Box (w.setRow br (rtL q).toArray) bo 33 (rcL x) ∧ Def (w.setRow br (rtL q).toArray) bd ∧ True
        rw [hd19, hd20, hd21]
        exact ⟨(stoR (rtL q) hSw.2.2.1).1.below _ _ (by omega) hSw.1, hSw.2.1.sto (stoR (rtL q) hSw.2.2.1).1 (by omega), (stoR (rtL q) hSw.2.2.1).2, hSw.2.2.2.1.sto (stoR (rtL q) hSw.2.2.1).1 (by omega), hSw.2.2.2.2.1.sto (stoR (rtL q) hSw.2.2.1).1 (by omega), hSw.2.2.2.2.2.1.sto (stoR (rtL q) hSw.2.2.1).1 (by omega), hSw.2.2.2.2.2.2.1.sto (stoR (rtL q) hSw.2.2.1).1 (by omega), hSw.2.2.2.2.2.2.2.1.sto (stoR (rtL q) hSw.2.2.1).1 (by omega), trivial⟩))
    | 20, _, ho =>
      obtain rfl := Option.some.inj (ho.symm.trans (gv20_20 psA psB psC))
      have s18 : a.eval (.tmp 98) = agv (smL (⟨now, ak, rt, rate, x.idl, q.gv, x.gv, 0⟩ : Sm)) := hs 18 98 (by rfl) rfl
      have u9 : a.eval (.tmp 9) = .pointer (some ⟨bs, 0, none⟩) := (hel 9 (by decide)).trans e9
      exact op_stoW (gv20_20 psA psB psC) rfl rfl (w' := (w.setRow bs (smL (⟨now, ak, rt, rate, x.idl, q.gv, x.gv, 0⟩ : Sm)).toArray)) (run_storeS rfl u9 s18 hSw.2.2.2.1 rfl isS26 (smL_one _)) (hK _ (fun D' hi' hj' => by
        have hd19 : D' 19 = D 19 := hj' 19 (by decide)
        have hd20 : D' 20 = true := hi'
        have hd21 : D' 21 = D 21 := hj' 21 (by decide)
        show Below B0 WW (w.setRow bs (smL (⟨now, ak, rt, rate, x.idl, q.gv, x.gv, 0⟩ : Sm)).toArray) ∧ Box (w.setRow bs (smL (⟨now, ak, rt, rate, x.idl, q.gv, x.gv, 0⟩ : Sm)).toArray) bp 23 (rtL q) ∧ Box (w.setRow bs (smL (⟨now, ak, rt, rate, x.idl, q.gv, x.gv, 0⟩ : Sm)).toArray) br 23 (rtL (if D' 19 = true then q else rtZ)) ∧ Box (w.setRow bs (smL (⟨now, ak, rt, rate, x.idl, q.gv, x.gv, 0⟩ : Sm)).toArray) bs 26 (smL (if D' 20 = true then (⟨now, ak, rt, rate, x.idl, q.gv, x.gv, 0⟩ : Sm) else smZ)) ∧ Box (w.setRow bs (smL (⟨now, ak, rt, rate, x.idl, q.gv, x.gv, 0⟩ : Sm)).toArray) be 27 ([.int .i64 (if D' 21 = true then 0 else 0)]) ∧ Box (w.setRow bs (smL (⟨now, ak, rt, rate, x.idl, q.gv, x.gv, 0⟩ : Sm)).toArray) ba 3 ([.int .i64 ak]) ∧ Box (w.setRow bs (smL (⟨now, ak, rt, rate, x.idl, q.gv, x.gv, 0⟩ : Sm)).toArray) bo 33 (rcL x) ∧ Def (w.setRow bs (smL (⟨now, ak, rt, rate, x.idl, q.gv, x.gv, 0⟩ : Sm)).toArray) bd ∧ True
        rw [hd19, hd20, hd21]
        exact ⟨(stoR (smL (⟨now, ak, rt, rate, x.idl, q.gv, x.gv, 0⟩ : Sm)) hSw.2.2.2.1).1.below _ _ (by omega) hSw.1, hSw.2.1.sto (stoR (smL (⟨now, ak, rt, rate, x.idl, q.gv, x.gv, 0⟩ : Sm)) hSw.2.2.2.1).1 (by omega), hSw.2.2.1.sto (stoR (smL (⟨now, ak, rt, rate, x.idl, q.gv, x.gv, 0⟩ : Sm)) hSw.2.2.2.1).1 (by omega), (stoR (smL (⟨now, ak, rt, rate, x.idl, q.gv, x.gv, 0⟩ : Sm)) hSw.2.2.2.1).2, hSw.2.2.2.2.1.sto (stoR (smL (⟨now, ak, rt, rate, x.idl, q.gv, x.gv, 0⟩ : Sm)) hSw.2.2.2.1).1 (by omega), hSw.2.2.2.2.2.1.sto (stoR (smL (⟨now, ak, rt, rate, x.idl, q.gv, x.gv, 0⟩ : Sm)) hSw.2.2.2.1).1 (by omega), hSw.2.2.2.2.2.2.1.sto (stoR (smL (⟨now, ak, rt, rate, x.idl, q.gv, x.gv, 0⟩ : Sm)) hSw.2.2.2.1).1 (by omega), hSw.2.2.2.2.2.2.2.1.sto (stoR (smL (⟨now, ak, rt, rate, x.idl, q.gv, x.gv, 0⟩ : Sm)) hSw.2.2.2.1).1 (by omega), trivial⟩))
    | 21, _, ho =>
      obtain rfl := Option.some.inj (ho.symm.trans (gv20_21 psA psB psC))
      have u10 : a.eval (.tmp 10) = .pointer (some ⟨be, 0, none⟩) := (hel 10 (by decide)).trans e10
      have hfz := Box.frozen hSw.2.2.2.2.1 0
      have hcx := Box.cell hSw.2.2.2.2.1 0 rfl
      exact op_stoW (gv20_21 psA psB psC) rfl rfl (w' := (w.setCell ⟨be, 0, none⟩ (.int .i64 0))) (by unfold gv20O21 execOp; simp only [u10]; first | (go_simp; done) | (go_simp; with_reducible rfl)) (hK _ (fun D' hi' hj' => by
        have hd19 : D' 19 = D 19 := hj' 19 (by decide)
        have hd20 : D' 20 = D 20 := hj' 20 (by decide)
        have hd21 : D' 21 = true := hi'
        show Below B0 WW (w.setCell ⟨be, 0, none⟩ (.int .i64 0)) ∧ Box (w.setCell ⟨be, 0, none⟩ (.int .i64 0)) bp 23 (rtL q) ∧ Box (w.setCell ⟨be, 0, none⟩ (.int .i64 0)) br 23 (rtL (if D' 19 = true then q else rtZ)) ∧ Box (w.setCell ⟨be, 0, none⟩ (.int .i64 0)) bs 26 (smL (if D' 20 = true then (⟨now, ak, rt, rate, x.idl, q.gv, x.gv, 0⟩ : Sm) else smZ)) ∧ Box (w.setCell ⟨be, 0, none⟩ (.int .i64 0)) be 27 ([.int .i64 (if D' 21 = true then 0 else 0)]) ∧ Box (w.setCell ⟨be, 0, none⟩ (.int .i64 0)) ba 3 ([.int .i64 ak]) ∧ Box (w.setCell ⟨be, 0, none⟩ (.int .i64 0)) bo 33 (rcL x) ∧ Def (w.setCell ⟨be, 0, none⟩ (.int .i64 0)) bd ∧ True
        rw [hd19, hd20, hd21]
        exact ⟨((Sto.refl w be).set 0 (.int .i64 0)).below _ _ (by omega) hSw.1, hSw.2.1.sto ((Sto.refl w be).set 0 (.int .i64 0)) (by omega), hSw.2.2.1.sto ((Sto.refl w be).set 0 (.int .i64 0)) (by omega), hSw.2.2.2.1.sto ((Sto.refl w be).set 0 (.int .i64 0)) (by omega), hSw.2.2.2.2.1.set 0 (.int .i64 0), hSw.2.2.2.2.2.1.sto ((Sto.refl w be).set 0 (.int .i64 0)) (by omega), hSw.2.2.2.2.2.2.1.sto ((Sto.refl w be).set 0 (.int .i64 0)) (by omega), hSw.2.2.2.2.2.2.2.1.sto ((Sto.refl w be).set 0 (.int .i64 0)) (by omega), trivial⟩))
    | iq + 22, hin, _ => exact absurd hin (by omega)
end Go.Proofs.Ytdgiapeniafklaa
