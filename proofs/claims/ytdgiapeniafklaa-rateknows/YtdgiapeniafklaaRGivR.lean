/- The document's Given: regions that draw their order. -/
import Derived.Test.YtdgiapeniafklaaDets
import Derived.Test.YtdgiapeniafklaaFits
namespace Go.Proofs.Ytdgiapeniafklaa
open Go.ChangeShapes Go.WideShapes Go.ChangeAt Go.RowKit Go.Shelf
set_option linter.unusedVariables false
set_option linter.unusedSimpArgs false
attribute [local go_sem] Oper.semAt_some

def rgv22O0 (ps : String) : Oper := { dst := some 99, op := .load 23 (.tmp 4), type := 23, pos := ps, after := #[], guard := none }
def rgv22O1 (ps : String) : Oper := { dst := some 100, op := .load 26 (.tmp 12), type := 26, pos := ps, after := #[{ on := 2, ground := .gcOnly .lateStores }], guard := none }
def rgv22O2 (ps : String) : Oper := { dst := none, op := .store 23 (.tmp 8) (.tmp 99), type := 0, pos := ps, after := #[{ on := 0, ground := .data }, { on := 0, ground := .phase }, { on := 1, ground := .textOnly .lateStores }], guard := none }
def rgv22O3 (ps : String) : Oper := { dst := none, op := .store 26 (.tmp 9) (.tmp 100), type := 0, pos := ps, after := #[{ on := 1, ground := .data }, { on := 2, ground := .chain }, { on := 0, ground := .phase }, { on := 1, ground := .phase }, { on := 2, ground := .phase }], guard := none }
def rgv22O4 (ps : String) : Oper := { dst := some 10, op := .assign (.const (.int .i64 0)), type := 3, pos := ps, after := #[{ on := 3, ground := .chain }, { on := 0, ground := .phase }, { on := 1, ground := .phase }, { on := 2, ground := .phase }, { on := 3, ground := .phase }], guard := none }
def rgv22 (ps : String) : Array Oper := #[rgv22O0 ps, rgv22O1 ps, rgv22O2 ps, rgv22O3 ps, rgv22O4 ps]
theorem rgv22_0 (ps : String) : (rgv22 ps)[0]? = some (rgv22O0 ps) := rfl
theorem rgv22_1 (ps : String) : (rgv22 ps)[1]? = some (rgv22O1 ps) := rfl
theorem rgv22_2 (ps : String) : (rgv22 ps)[2]? = some (rgv22O2 ps) := rfl
theorem rgv22_3 (ps : String) : (rgv22 ps)[3]? = some (rgv22O3 ps) := rfl
theorem rgv22_4 (ps : String) : (rgv22 ps)[4]? = some (rgv22O4 ps) := rfl
def rgv22D : Nat → Option Tmp
  | 0 => some 99
  | 1 => some 100
  | 2 => none
  | 3 => none
  | 4 => some 10
  | _ => none
def rgv22T (q : Rt) (s : Sm) (bp br bs bt B0 : Nat) (WW : World) : Nat → Value
  | 0 => agv (rtL q)
  | 1 => agv (smL s)
  | 2 => undef
  | 3 => undef
  | 4 => .int .i64 0
  | _ => undef
set_option maxRecDepth 100000 in
set_option maxHeartbeats 4000000 in
theorem rgv22_reg {ps : String} {Q : Exit → Act → World → Prop} {a0 : Act} {W0 : World} (sz : a0.tmps.size = 173) (q : Rt) (s : Sm) (bp br bs bt B0 : Nat) (WW : World)
    (e4 : a0.eval (.tmp 4) = .pointer (some ⟨bp, 0, none⟩)) (e8 : a0.eval (.tmp 8) = .pointer (some ⟨br, 0, none⟩)) (e9 : a0.eval (.tmp 9) = .pointer (some ⟨bs, 0, none⟩)) (e12 : a0.eval (.tmp 12) = .pointer (some ⟨bt, 0, none⟩))
    (l0 : B0 ≤ bp) (l1 : bp < br) (l2 : br < bs) (l3 : bs < bt) (hS0 : Below B0 WW W0 ∧ Box W0 bp 23 (rtL q) ∧ Box W0 br 23 (rtL (if false = true then q else rtZ)) ∧ Box W0 bs 26 (smL (if false = true then s else smZ)) ∧ Box W0 bt 26 (smL s) ∧ True)
    (hfin : ∀ (T : Nat → Value) w, T 4 = .int .i64 0 → Below B0 WW w ∧ Box w bp 23 (rtL q) ∧ Box w br 23 (rtL q) ∧ Box w bs 26 (smL s) ∧ Box w bt 26 (smL s) ∧ True → Q .normal (((a0.put (some 99) (T 0)).put (some 100) (T 1)).put (some 10) (T 4)) w) :
    (Code.region 22 (rgv22 ps) true).wp Try.prog Q a0 W0 := by
  refine wp_region_dets (by kernel_rfl) 5 rfl rgv22D ?_ (by decide) (rgv22T q s bp br bs bt B0 WW) (fun D w => Below B0 WW w ∧ Box w bp 23 (rtL q) ∧ Box w br 23 (rtL (if D 2 = true then q else rtZ)) ∧ Box w bs 26 (smL (if D 3 = true then s else smZ)) ∧ Box w bt 26 (smL s) ∧ True) (fun D hD => by
    show Below B0 WW W0.drew ∧ Box W0.drew bp 23 (rtL q) ∧ Box W0.drew br 23 (rtL (if D 2 = true then q else rtZ)) ∧ Box W0.drew bs 26 (smL (if D 3 = true then s else smZ)) ∧ Box W0.drew bt 26 (smL s) ∧ True
    rw [hD 2, hD 3]
    exact ⟨hS0.1.drew, hS0.2.1, hS0.2.2.1, hS0.2.2.2.1, hS0.2.2.2.2.1, trivial⟩) ?_ (by rfl) (fun w D hD hSw => by
    have hSw' : Below B0 WW w ∧ Box w bp 23 (rtL q) ∧ Box w br 23 (rtL (if D 2 = true then q else rtZ)) ∧ Box w bs 26 (smL (if D 3 = true then s else smZ)) ∧ Box w bt 26 (smL s) ∧ True := hSw
    rw [hD 2 (by decide), hD 3 (by decide)] at hSw'
    exact hfin (rgv22T q s bp br bs bt B0 WW) w rfl hSw')
  · intro jq t hj ht
    have : ∀ j, j < 5 → (rgv22D j).all (· < 173) = true := by decide
    have := this jq hj
    rw [ht] at this
    rw [sz]
    simpa using this
  · intro iq o ho D a w hSw hDi hcl hs hel K hK
    have hin : iq < 5 := (Array.getElem?_eq_some_iff.1 ho).1
    match iq, hin, ho with
    | 0, _, ho =>
      obtain rfl := Option.some.inj (ho.symm.trans (rgv22_0 ps))
      have u4 : a.eval (.tmp 4) = .pointer (some ⟨bp, 0, none⟩) := (hel 4 (by decide)).trans e4
      exact op_valW (rgv22_0 ps) rfl (v := agv (rtL q)) (run_loadS isS23 rfl u4 hSw.2.1) (hK w (fun D' hi' hj' => by
        have hd2 : D' 2 = D 2 := hj' 2 (by decide)
        have hd3 : D' 3 = D 3 := hj' 3 (by decide)
        show Below B0 WW w ∧ Box w bp 23 (rtL q) ∧ Box w br 23 (rtL (if D' 2 = true then q else rtZ)) ∧ Box w bs 26 (smL (if D' 3 = true then s else smZ)) ∧ Box w bt 26 (smL s) ∧ True
        rw [hd2, hd3]
        exact hSw))
    | 1, _, ho =>
      obtain rfl := Option.some.inj (ho.symm.trans (rgv22_1 ps))
      have u12 : a.eval (.tmp 12) = .pointer (some ⟨bt, 0, none⟩) := (hel 12 (by decide)).trans e12
      exact op_valW (rgv22_1 ps) rfl (v := agv (smL s)) (run_loadS isS26 rfl u12 hSw.2.2.2.2.1) (hK w (fun D' hi' hj' => by
        have hd2 : D' 2 = D 2 := hj' 2 (by decide)
        have hd3 : D' 3 = D 3 := hj' 3 (by decide)
        show Below B0 WW w ∧ Box w bp 23 (rtL q) ∧ Box w br 23 (rtL (if D' 2 = true then q else rtZ)) ∧ Box w bs 26 (smL (if D' 3 = true then s else smZ)) ∧ Box w bt 26 (smL s) ∧ True
        rw [hd2, hd3]
        exact hSw))
    | 2, _, ho =>
      obtain rfl := Option.some.inj (ho.symm.trans (rgv22_2 ps))
      have s0 : a.eval (.tmp 99) = agv (rtL q) := hs 0 99 (by rfl) rfl
      have u8 : a.eval (.tmp 8) = .pointer (some ⟨br, 0, none⟩) := (hel 8 (by decide)).trans e8
      exact op_stoW (rgv22_2 ps) rfl rfl (w' := (w.setRow br (rtL q).toArray)) (run_storeS rfl u8 s0 hSw.2.2.1 rfl isS23 (rtL_one _)) (hK _ (fun D' hi' hj' => by
        have hd2 : D' 2 = true := hi'
        have hd3 : D' 3 = D 3 := hj' 3 (by decide)
        show Below B0 WW (w.setRow br (rtL q).toArray) ∧ Box (w.setRow br (rtL q).toArray) bp 23 (rtL q) ∧ Box (w.setRow br (rtL q).toArray) br 23 (rtL (if D' 2 = true then q else rtZ)) ∧ Box (w.setRow br (rtL q).toArray) bs 26 (smL (if D' 3 = true then s else smZ)) ∧ Box (w.setRow br (rtL q).toArray) bt 26 (smL s) ∧ True
        rw [hd2, hd3]
        exact ⟨(stoR (rtL q) hSw.2.2.1).1.below _ _ (by omega) hSw.1, hSw.2.1.sto (stoR (rtL q) hSw.2.2.1).1 (by omega), (stoR (rtL q) hSw.2.2.1).2, hSw.2.2.2.1.sto (stoR (rtL q) hSw.2.2.1).1 (by omega), hSw.2.2.2.2.1.sto (stoR (rtL q) hSw.2.2.1).1 (by omega), trivial⟩))
    | 3, _, ho =>
      obtain rfl := Option.some.inj (ho.symm.trans (rgv22_3 ps))
      have s1 : a.eval (.tmp 100) = agv (smL s) := hs 1 100 (by rfl) rfl
      have u9 : a.eval (.tmp 9) = .pointer (some ⟨bs, 0, none⟩) := (hel 9 (by decide)).trans e9
      exact op_stoW (rgv22_3 ps) rfl rfl (w' := (w.setRow bs (smL s).toArray)) (run_storeS rfl u9 s1 hSw.2.2.2.1 rfl isS26 (smL_one _)) (hK _ (fun D' hi' hj' => by
        have hd2 : D' 2 = D 2 := hj' 2 (by decide)
        have hd3 : D' 3 = true := hi'
        show Below B0 WW (w.setRow bs (smL s).toArray) ∧ Box (w.setRow bs (smL s).toArray) bp 23 (rtL q) ∧ Box (w.setRow bs (smL s).toArray) br 23 (rtL (if D' 2 = true then q else rtZ)) ∧ Box (w.setRow bs (smL s).toArray) bs 26 (smL (if D' 3 = true then s else smZ)) ∧ Box (w.setRow bs (smL s).toArray) bt 26 (smL s) ∧ True
        rw [hd2, hd3]
        exact ⟨(stoR (smL s) hSw.2.2.2.1).1.below _ _ (by omega) hSw.1, hSw.2.1.sto (stoR (smL s) hSw.2.2.2.1).1 (by omega), hSw.2.2.1.sto (stoR (smL s) hSw.2.2.2.1).1 (by omega), (stoR (smL s) hSw.2.2.2.1).2, hSw.2.2.2.2.1.sto (stoR (smL s) hSw.2.2.2.1).1 (by omega), trivial⟩))
    | 4, _, ho =>
      obtain rfl := Option.some.inj (ho.symm.trans (rgv22_4 ps))
      exact op_valW (rgv22_4 ps) rfl (v := .int .i64 0) (by unfold rgv22O4 execOp; skip; first | (go_simp; done) | (go_simp; with_reducible rfl)) (hK w (fun D' hi' hj' => by
        have hd2 : D' 2 = D 2 := hj' 2 (by decide)
        have hd3 : D' 3 = D 3 := hj' 3 (by decide)
        show Below B0 WW w ∧ Box w bp 23 (rtL q) ∧ Box w br 23 (rtL (if D' 2 = true then q else rtZ)) ∧ Box w bs 26 (smL (if D' 3 = true then s else smZ)) ∧ Box w bt 26 (smL s) ∧ True
        rw [hd2, hd3]
        exact hSw))
    | iq + 5, hin, _ => exact absurd hin (by omega)
def rgv35O0 (ps : String) : Oper := { dst := some 171, op := .load 23 (.tmp 4), type := 23, pos := ps, after := #[], guard := none }
def rgv35O1 (ps : String) : Oper := { dst := some 172, op := .load 26 (.tmp 12), type := 26, pos := ps, after := #[{ on := 2, ground := .gcOnly .lateStores }], guard := none }
def rgv35O2 (ps : String) : Oper := { dst := none, op := .store 23 (.tmp 8) (.tmp 171), type := 0, pos := ps, after := #[{ on := 0, ground := .data }, { on := 0, ground := .phase }, { on := 1, ground := .textOnly .lateStores }], guard := none }
def rgv35O3 (ps : String) : Oper := { dst := none, op := .store 26 (.tmp 9) (.tmp 172), type := 0, pos := ps, after := #[{ on := 1, ground := .data }, { on := 2, ground := .chain }, { on := 0, ground := .phase }, { on := 1, ground := .phase }, { on := 2, ground := .phase }], guard := none }
def rgv35O4 (ps : String) : Oper := { dst := some 10, op := .assign (.const (.int .i64 0)), type := 3, pos := ps, after := #[{ on := 3, ground := .chain }, { on := 0, ground := .phase }, { on := 1, ground := .phase }, { on := 2, ground := .phase }, { on := 3, ground := .phase }], guard := none }
def rgv35 (ps : String) : Array Oper := #[rgv35O0 ps, rgv35O1 ps, rgv35O2 ps, rgv35O3 ps, rgv35O4 ps]
theorem rgv35_0 (ps : String) : (rgv35 ps)[0]? = some (rgv35O0 ps) := rfl
theorem rgv35_1 (ps : String) : (rgv35 ps)[1]? = some (rgv35O1 ps) := rfl
theorem rgv35_2 (ps : String) : (rgv35 ps)[2]? = some (rgv35O2 ps) := rfl
theorem rgv35_3 (ps : String) : (rgv35 ps)[3]? = some (rgv35O3 ps) := rfl
theorem rgv35_4 (ps : String) : (rgv35 ps)[4]? = some (rgv35O4 ps) := rfl
def rgv35D : Nat → Option Tmp
  | 0 => some 171
  | 1 => some 172
  | 2 => none
  | 3 => none
  | 4 => some 10
  | _ => none
def rgv35T (q : Rt) (s : Sm) (x : Rc) (bp br bs bt bx B0 : Nat) (WW : World) : Nat → Value
  | 0 => agv (rtL q)
  | 1 => agv (smL s)
  | 2 => undef
  | 3 => undef
  | 4 => .int .i64 0
  | _ => undef
set_option maxRecDepth 100000 in
set_option maxHeartbeats 4000000 in
theorem rgv35_reg {ps : String} {Q : Exit → Act → World → Prop} {a0 : Act} {W0 : World} (sz : a0.tmps.size = 173) (q : Rt) (s : Sm) (x : Rc) (bp br bs bt bx B0 : Nat) (WW : World)
    (e4 : a0.eval (.tmp 4) = .pointer (some ⟨bp, 0, none⟩)) (e8 : a0.eval (.tmp 8) = .pointer (some ⟨br, 0, none⟩)) (e9 : a0.eval (.tmp 9) = .pointer (some ⟨bs, 0, none⟩)) (e12 : a0.eval (.tmp 12) = .pointer (some ⟨bt, 0, none⟩))
    (l0 : B0 ≤ bp) (l1 : bp < br) (l2 : br < bs) (l3 : bs < bt) (l4 : bt < bx) (hS0 : Below B0 WW W0 ∧ Box W0 bp 23 (rtL q) ∧ Box W0 br 23 (rtL (if false = true then q else rtZ)) ∧ Box W0 bs 26 (smL (if false = true then s else smZ)) ∧ Box W0 bt 26 (smL s) ∧ Box W0 bx 33 (rcL x) ∧ True)
    (hfin : ∀ (T : Nat → Value) w, T 4 = .int .i64 0 → Below B0 WW w ∧ Box w bp 23 (rtL q) ∧ Box w br 23 (rtL q) ∧ Box w bs 26 (smL s) ∧ Box w bt 26 (smL s) ∧ Box w bx 33 (rcL x) ∧ True → Q .normal (((a0.put (some 171) (T 0)).put (some 172) (T 1)).put (some 10) (T 4)) w) :
    (Code.region 35 (rgv35 ps) true).wp Try.prog Q a0 W0 := by
  refine wp_region_dets (by kernel_rfl) 5 rfl rgv35D ?_ (by decide) (rgv35T q s x bp br bs bt bx B0 WW) (fun D w => Below B0 WW w ∧ Box w bp 23 (rtL q) ∧ Box w br 23 (rtL (if D 2 = true then q else rtZ)) ∧ Box w bs 26 (smL (if D 3 = true then s else smZ)) ∧ Box w bt 26 (smL s) ∧ Box w bx 33 (rcL x) ∧ True) (fun D hD => by
    show Below B0 WW W0.drew ∧ Box W0.drew bp 23 (rtL q) ∧ Box W0.drew br 23 (rtL (if D 2 = true then q else rtZ)) ∧ Box W0.drew bs 26 (smL (if D 3 = true then s else smZ)) ∧ Box W0.drew bt 26 (smL s) ∧ Box W0.drew bx 33 (rcL x) ∧ True
    rw [hD 2, hD 3]
    exact ⟨hS0.1.drew, hS0.2.1, hS0.2.2.1, hS0.2.2.2.1, hS0.2.2.2.2.1, hS0.2.2.2.2.2.1, trivial⟩) ?_ (by rfl) (fun w D hD hSw => by
    have hSw' : Below B0 WW w ∧ Box w bp 23 (rtL q) ∧ Box w br 23 (rtL (if D 2 = true then q else rtZ)) ∧ Box w bs 26 (smL (if D 3 = true then s else smZ)) ∧ Box w bt 26 (smL s) ∧ Box w bx 33 (rcL x) ∧ True := hSw
    rw [hD 2 (by decide), hD 3 (by decide)] at hSw'
    exact hfin (rgv35T q s x bp br bs bt bx B0 WW) w rfl hSw')
  · intro jq t hj ht
    have : ∀ j, j < 5 → (rgv35D j).all (· < 173) = true := by decide
    have := this jq hj
    rw [ht] at this
    rw [sz]
    simpa using this
  · intro iq o ho D a w hSw hDi hcl hs hel K hK
    have hin : iq < 5 := (Array.getElem?_eq_some_iff.1 ho).1
    match iq, hin, ho with
    | 0, _, ho =>
      obtain rfl := Option.some.inj (ho.symm.trans (rgv35_0 ps))
      have u4 : a.eval (.tmp 4) = .pointer (some ⟨bp, 0, none⟩) := (hel 4 (by decide)).trans e4
      exact op_valW (rgv35_0 ps) rfl (v := agv (rtL q)) (run_loadS isS23 rfl u4 hSw.2.1) (hK w (fun D' hi' hj' => by
        have hd2 : D' 2 = D 2 := hj' 2 (by decide)
        have hd3 : D' 3 = D 3 := hj' 3 (by decide)
        show Below B0 WW w ∧ Box w bp 23 (rtL q) ∧ Box w br 23 (rtL (if D' 2 = true then q else rtZ)) ∧ Box w bs 26 (smL (if D' 3 = true then s else smZ)) ∧ Box w bt 26 (smL s) ∧ Box w bx 33 (rcL x) ∧ True
        rw [hd2, hd3]
        exact hSw))
    | 1, _, ho =>
      obtain rfl := Option.some.inj (ho.symm.trans (rgv35_1 ps))
      have u12 : a.eval (.tmp 12) = .pointer (some ⟨bt, 0, none⟩) := (hel 12 (by decide)).trans e12
      exact op_valW (rgv35_1 ps) rfl (v := agv (smL s)) (run_loadS isS26 rfl u12 hSw.2.2.2.2.1) (hK w (fun D' hi' hj' => by
        have hd2 : D' 2 = D 2 := hj' 2 (by decide)
        have hd3 : D' 3 = D 3 := hj' 3 (by decide)
        show Below B0 WW w ∧ Box w bp 23 (rtL q) ∧ Box w br 23 (rtL (if D' 2 = true then q else rtZ)) ∧ Box w bs 26 (smL (if D' 3 = true then s else smZ)) ∧ Box w bt 26 (smL s) ∧ Box w bx 33 (rcL x) ∧ True
        rw [hd2, hd3]
        exact hSw))
    | 2, _, ho =>
      obtain rfl := Option.some.inj (ho.symm.trans (rgv35_2 ps))
      have s0 : a.eval (.tmp 171) = agv (rtL q) := hs 0 171 (by rfl) rfl
      have u8 : a.eval (.tmp 8) = .pointer (some ⟨br, 0, none⟩) := (hel 8 (by decide)).trans e8
      exact op_stoW (rgv35_2 ps) rfl rfl (w' := (w.setRow br (rtL q).toArray)) (run_storeS rfl u8 s0 hSw.2.2.1 rfl isS23 (rtL_one _)) (hK _ (fun D' hi' hj' => by
        have hd2 : D' 2 = true := hi'
        have hd3 : D' 3 = D 3 := hj' 3 (by decide)
        show Below B0 WW (w.setRow br (rtL q).toArray) ∧ Box (w.setRow br (rtL q).toArray) bp 23 (rtL q) ∧ Box (w.setRow br (rtL q).toArray) br 23 (rtL (if D' 2 = true then q else rtZ)) ∧ Box (w.setRow br (rtL q).toArray) bs 26 (smL (if D' 3 = true then s else smZ)) ∧ Box (w.setRow br (rtL q).toArray) bt 26 (smL s) ∧ Box (w.setRow br (rtL q).toArray) bx 33 (rcL x) ∧ True
        rw [hd2, hd3]
        exact ⟨(stoR (rtL q) hSw.2.2.1).1.below _ _ (by omega) hSw.1, hSw.2.1.sto (stoR (rtL q) hSw.2.2.1).1 (by omega), (stoR (rtL q) hSw.2.2.1).2, hSw.2.2.2.1.sto (stoR (rtL q) hSw.2.2.1).1 (by omega), hSw.2.2.2.2.1.sto (stoR (rtL q) hSw.2.2.1).1 (by omega), hSw.2.2.2.2.2.1.sto (stoR (rtL q) hSw.2.2.1).1 (by omega), trivial⟩))
    | 3, _, ho =>
      obtain rfl := Option.some.inj (ho.symm.trans (rgv35_3 ps))
      have s1 : a.eval (.tmp 172) = agv (smL s) := hs 1 172 (by rfl) rfl
      have u9 : a.eval (.tmp 9) = .pointer (some ⟨bs, 0, none⟩) := (hel 9 (by decide)).trans e9
      exact op_stoW (rgv35_3 ps) rfl rfl (w' := (w.setRow bs (smL s).toArray)) (run_storeS rfl u9 s1 hSw.2.2.2.1 rfl isS26 (smL_one _)) (hK _ (fun D' hi' hj' => by
        have hd2 : D' 2 = D 2 := hj' 2 (by decide)
        have hd3 : D' 3 = true := hi'
        show Below B0 WW (w.setRow bs (smL s).toArray) ∧ Box (w.setRow bs (smL s).toArray) bp 23 (rtL q) ∧ Box (w.setRow bs (smL s).toArray) br 23 (rtL (if D' 2 = true then q else rtZ)) ∧ Box (w.setRow bs (smL s).toArray) bs 26 (smL (if D' 3 = true then s else smZ)) ∧ Box (w.setRow bs (smL s).toArray) bt 26 (smL s) ∧ Box (w.setRow bs (smL s).toArray) bx 33 (rcL x) ∧ True
        rw [hd2, hd3]
        exact ⟨(stoR (smL s) hSw.2.2.2.1).1.below _ _ (by omega) hSw.1, hSw.2.1.sto (stoR (smL s) hSw.2.2.2.1).1 (by omega), hSw.2.2.1.sto (stoR (smL s) hSw.2.2.2.1).1 (by omega), (stoR (smL s) hSw.2.2.2.1).2, hSw.2.2.2.2.1.sto (stoR (smL s) hSw.2.2.2.1).1 (by omega), hSw.2.2.2.2.2.1.sto (stoR (smL s) hSw.2.2.2.1).1 (by omega), trivial⟩))
    | 4, _, ho =>
      obtain rfl := Option.some.inj (ho.symm.trans (rgv35_4 ps))
      exact op_valW (rgv35_4 ps) rfl (v := .int .i64 0) (by unfold rgv35O4 execOp; skip; first | (go_simp; done) | (go_simp; with_reducible rfl)) (hK w (fun D' hi' hj' => by
        have hd2 : D' 2 = D 2 := hj' 2 (by decide)
        have hd3 : D' 3 = D 3 := hj' 3 (by decide)
        show Below B0 WW w ∧ Box w bp 23 (rtL q) ∧ Box w br 23 (rtL (if D' 2 = true then q else rtZ)) ∧ Box w bs 26 (smL (if D' 3 = true then s else smZ)) ∧ Box w bt 26 (smL s) ∧ Box w bx 33 (rcL x) ∧ True
        rw [hd2, hd3]
        exact hSw))
    | iq + 5, hin, _ => exact absurd hin (by omega)
end Go.Proofs.Ytdgiapeniafklaa
