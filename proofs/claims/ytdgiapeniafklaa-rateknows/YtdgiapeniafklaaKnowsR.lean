/- RateKnows: its region that draws its order. -/
import Derived.Test.YtdgiapeniafklaaEq
import Derived.Test.YtdgiapeniafklaaDets
namespace Go.Proofs.Ytdgiapeniafklaa
open Go.ChangeShapes Go.WideShapes Go.ChangeAt Go.RowKit Go.Shelf
set_option linter.unusedVariables false
set_option linter.unusedSimpArgs false
attribute [local go_sem] Oper.semAt_some


theorem run_cmpS {ev : Operand → Value} {o : Oper} {w : World} {op : BinOp} {t z : TypeId} {x y : Operand} (ho : o.op = .binOp op t x y z) {cs : List Value} (hx : ev x = agv cs) (hy : ev y = agv cs) (hop : op = .eql ∨ op = .neq) (hE : EqS t cs) : (execOp ev o).run Try.prog w = .ok (.value (.bool (op == .eql))) w := by
  unfold execOp
  obtain ⟨h1, h2⟩ := hE w op x y hop
  simp only [ho, hx, hy, Sem.run_bind, h1, h2, Result.andThen_ok, Sem.run_pure]
theorem enter13 (args : Array Value) (w : World) : (callFunc 13 args).run Try.prog w = .ok (.enter 13 args) w := by kernel_rfl
theorem enter14 (args : Array Value) (w : World) : (callFunc 14 args).run Try.prog w = .ok (.enter 14 args) w := by kernel_rfl
def kn3O0 (ps : String) : Oper := { dst := some 44, op := .load 23 (.tmp 9), type := 23, pos := ps, after := #[], guard := none }
def kn3O1 (ps : String) : Oper := { dst := some 45, op := .load 23 (.tmp 12), type := 23, pos := ps, after := #[], guard := none }
def kn3O2 (ps : String) : Oper := { dst := some 46, op := .binOp .neq 23 (.tmp 44) (.tmp 45) 23, type := 4, pos := ps, after := #[{ on := 0, ground := .data }, { on := 1, ground := .data }], guard := none }
def kn3O3 (ps : String) : Oper := { dst := some 47, op := .move (.tmp 46), type := 4, pos := ps, after := #[{ on := 2, ground := .data }], guard := none }
def kn3O4 (ps : String) : Oper := { dst := some 48, op := .load 26 (.tmp 10), type := 26, pos := ps, after := #[{ on := 3, ground := .guard }], guard := some (3, false) }
def kn3O5 (ps : String) : Oper := { dst := some 49, op := .load 26 (.tmp 13), type := 26, pos := ps, after := #[{ on := 3, ground := .guard }], guard := some (3, false) }
def kn3O6 (ps : String) : Oper := { dst := some 50, op := .binOp .neq 26 (.tmp 48) (.tmp 49) 26, type := 4, pos := ps, after := #[{ on := 4, ground := .data }, { on := 5, ground := .data }, { on := 3, ground := .guard }], guard := some (3, false) }
def kn3O7 (ps : String) : Oper := { dst := some 51, op := .pick (.tmp 47) (.const (.bool true)) (.tmp 50), type := 4, pos := ps, after := #[{ on := 3, ground := .data }, { on := 6, ground := .data }], guard := none }
def kn3O8 (ps : String) : Oper := { dst := some 52, op := .move (.tmp 51), type := 4, pos := ps, after := #[{ on := 7, ground := .data }, { on := 3, ground := .chain }], guard := none }
def kn3O9 (ps : String) : Oper := { dst := some 53, op := .move (.tmp 11), type := 27, pos := ps, after := #[{ on := 8, ground := .guard }], guard := some (8, false) }
def kn3O10 (ps : String) : Oper := { dst := some 54, op := .move (.tmp 14), type := 3, pos := ps, after := #[{ on := 8, ground := .guard }], guard := some (8, false) }
def kn3O11 (ps : String) : Oper := { dst := some 55, op := .binOp .neq 3 (.tmp 53) (.tmp 54) 3, type := 4, pos := ps, after := #[{ on := 9, ground := .data }, { on := 10, ground := .data }, { on := 8, ground := .guard }], guard := some (8, false) }
def kn3O12 (ps : String) : Oper := { dst := some 56, op := .pick (.tmp 52) (.const (.bool true)) (.tmp 55), type := 4, pos := ps, after := #[{ on := 8, ground := .data }, { on := 11, ground := .data }], guard := none }
def kn3O13 (ps : String) : Oper := { dst := some 57, op := .move (.tmp 56), type := 4, pos := ps, after := #[{ on := 12, ground := .data }, { on := 8, ground := .chain }], guard := none }
def kn3O14 (ps : String) : Oper := { dst := some 58, op := .load 23 (.tmp 4), type := 23, pos := ps, after := #[{ on := 13, ground := .guard }], guard := some (13, false) }
def kn3O15 (ps : String) : Oper := { dst := some 59, op := .call { callee := .value (.func 13), args := #[.tmp 58], argTypes := #[23] }, type := 27, pos := ps, after := #[{ on := 14, ground := .data }, { on := 13, ground := .chain }, { on := 13, ground := .guard }], guard := some (13, false) }
def kn3O16 (ps : String) : Oper := { dst := some 60, op := .load 23 (.tmp 4), type := 23, pos := ps, after := #[{ on := 13, ground := .guard }], guard := some (13, false) }
def kn3O17 (ps : String) : Oper := { dst := some 61, op := .call { callee := .value (.func 14), args := #[.tmp 60], argTypes := #[23] }, type := 3, pos := ps, after := #[{ on := 16, ground := .data }, { on := 15, ground := .chain }, { on := 13, ground := .guard }], guard := some (13, false) }
def kn3O18 (ps : String) : Oper := { dst := some 62, op := .binOp .neq 3 (.tmp 59) (.tmp 61) 3, type := 4, pos := ps, after := #[{ on := 15, ground := .data }, { on := 17, ground := .data }, { on := 13, ground := .guard }], guard := some (13, false) }
def kn3O19 (ps : String) : Oper := { dst := some 63, op := .pick (.tmp 57) (.const (.bool true)) (.tmp 62), type := 4, pos := ps, after := #[{ on := 13, ground := .data }, { on := 18, ground := .data }], guard := none }
def kn3 (ps : String) : Array Oper := #[kn3O0 ps, kn3O1 ps, kn3O2 ps, kn3O3 ps, kn3O4 ps, kn3O5 ps, kn3O6 ps, kn3O7 ps, kn3O8 ps, kn3O9 ps, kn3O10 ps, kn3O11 ps, kn3O12 ps, kn3O13 ps, kn3O14 ps, kn3O15 ps, kn3O16 ps, kn3O17 ps, kn3O18 ps, kn3O19 ps]
theorem kn3_0 (ps : String) : (kn3 ps)[0]? = some (kn3O0 ps) := rfl
theorem kn3_1 (ps : String) : (kn3 ps)[1]? = some (kn3O1 ps) := rfl
theorem kn3_2 (ps : String) : (kn3 ps)[2]? = some (kn3O2 ps) := rfl
theorem kn3_3 (ps : String) : (kn3 ps)[3]? = some (kn3O3 ps) := rfl
theorem kn3_4 (ps : String) : (kn3 ps)[4]? = some (kn3O4 ps) := rfl
theorem kn3_5 (ps : String) : (kn3 ps)[5]? = some (kn3O5 ps) := rfl
theorem kn3_6 (ps : String) : (kn3 ps)[6]? = some (kn3O6 ps) := rfl
theorem kn3_7 (ps : String) : (kn3 ps)[7]? = some (kn3O7 ps) := rfl
theorem kn3_8 (ps : String) : (kn3 ps)[8]? = some (kn3O8 ps) := rfl
theorem kn3_9 (ps : String) : (kn3 ps)[9]? = some (kn3O9 ps) := rfl
theorem kn3_10 (ps : String) : (kn3 ps)[10]? = some (kn3O10 ps) := rfl
theorem kn3_11 (ps : String) : (kn3 ps)[11]? = some (kn3O11 ps) := rfl
theorem kn3_12 (ps : String) : (kn3 ps)[12]? = some (kn3O12 ps) := rfl
theorem kn3_13 (ps : String) : (kn3 ps)[13]? = some (kn3O13 ps) := rfl
theorem kn3_14 (ps : String) : (kn3 ps)[14]? = some (kn3O14 ps) := rfl
theorem kn3_15 (ps : String) : (kn3 ps)[15]? = some (kn3O15 ps) := rfl
theorem kn3_16 (ps : String) : (kn3 ps)[16]? = some (kn3O16 ps) := rfl
theorem kn3_17 (ps : String) : (kn3 ps)[17]? = some (kn3O17 ps) := rfl
theorem kn3_18 (ps : String) : (kn3 ps)[18]? = some (kn3O18 ps) := rfl
theorem kn3_19 (ps : String) : (kn3 ps)[19]? = some (kn3O19 ps) := rfl
def kn3D : Nat → Option Tmp
  | 0 => some 44
  | 1 => some 45
  | 2 => some 46
  | 3 => some 47
  | 4 => some 48
  | 5 => some 49
  | 6 => some 50
  | 7 => some 51
  | 8 => some 52
  | 9 => some 53
  | 10 => some 54
  | 11 => some 55
  | 12 => some 56
  | 13 => some 57
  | 14 => some 58
  | 15 => some 59
  | 16 => some 60
  | 17 => some 61
  | 18 => some 62
  | 19 => some 63
  | _ => none
def kn3T (q qa : Rt) (sa : Sm) (r1 ck : Int) (gp ga gs gb gt B0 : Nat) (WW : World) : Nat → Value
  | 0 => agv (rtL qa)
  | 1 => agv (rtL qa)
  | 2 => .bool false
  | 3 => .bool false
  | 4 => agv (smL sa)
  | 5 => agv (smL sa)
  | 6 => .bool false
  | 7 => .bool false
  | 8 => .bool false
  | 9 => .int .i64 r1
  | 10 => .int .i64 r1
  | 11 => .bool false
  | 12 => .bool false
  | 13 => .bool false
  | 14 => agv (rtL q)
  | 15 => .int .i64 ck
  | 16 => agv (rtL q)
  | 17 => .int .i64 ck
  | 18 => .bool false
  | 19 => .bool false
  | _ => undef
set_option maxRecDepth 100000 in
set_option maxHeartbeats 4000000 in
theorem kn3_reg {ps : String} {Q : Exit → Act → World → Prop} {a0 : Act} {W0 : World} (sz : a0.tmps.size = 131) (q qa : Rt) (sa : Sm) (r1 ck : Int) (gp ga gs gb gt B0 : Nat) (WW : World)
    (e4 : a0.eval (.tmp 4) = .pointer (some ⟨gp, 0, none⟩)) (e9 : a0.eval (.tmp 9) = .pointer (some ⟨ga, 0, none⟩)) (e10 : a0.eval (.tmp 10) = .pointer (some ⟨gs, 0, none⟩)) (e12 : a0.eval (.tmp 12) = .pointer (some ⟨gb, 0, none⟩)) (e13 : a0.eval (.tmp 13) = .pointer (some ⟨gt, 0, none⟩)) (e11 : a0.eval (.tmp 11) = .int .i64 r1) (e14 : a0.eval (.tmp 14) = .int .i64 r1)
    (l0 : B0 ≤ gp) (l1 : gp < ga) (l2 : ga < gs) (l3 : gs < gb) (l4 : gb < gt) (hS0 : Below B0 WW W0 ∧ Box W0 gp 23 (rtL q) ∧ Box W0 ga 23 (rtL qa) ∧ Box W0 gs 26 (smL sa) ∧ Box W0 gb 23 (rtL qa) ∧ Box W0 gt 26 (smL sa) ∧ True) (c3 : ∀ W, Calls Try.prog 13 #[agv (rtL q)] W fun e w' => e = .returned (.int .i64 ck) ∧ Below W.heap.size W w') (c4 : ∀ W, Calls Try.prog 14 #[agv (rtL q)] W fun e w' => e = .returned (.int .i64 ck) ∧ Below W.heap.size W w') 
    (hfin : ∀ (T : Nat → Value) w, T 19 = .bool false → Below B0 WW w ∧ Box w gp 23 (rtL q) ∧ Box w ga 23 (rtL qa) ∧ Box w gs 26 (smL sa) ∧ Box w gb 23 (rtL qa) ∧ Box w gt 26 (smL sa) ∧ True → Q .normal ((((((((((((((((((((a0.put (some 44) (T 0)).put (some 45) (T 1)).put (some 46) (T 2)).put (some 47) (T 3)).put (some 48) (T 4)).put (some 49) (T 5)).put (some 50) (T 6)).put (some 51) (T 7)).put (some 52) (T 8)).put (some 53) (T 9)).put (some 54) (T 10)).put (some 55) (T 11)).put (some 56) (T 12)).put (some 57) (T 13)).put (some 58) (T 14)).put (some 59) (T 15)).put (some 60) (T 16)).put (some 61) (T 17)).put (some 62) (T 18)).put (some 63) (T 19)) w) :
    (Code.region 3 (kn3 ps) true).wp Try.prog Q a0 W0 := by
  refine wp_region_dets (by kernel_rfl) 20 rfl kn3D ?_ (by decide) (kn3T q qa sa r1 ck gp ga gs gb gt B0 WW) (fun D w => Below B0 WW w ∧ Box w gp 23 (rtL q) ∧ Box w ga 23 (rtL qa) ∧ Box w gs 26 (smL sa) ∧ Box w gb 23 (rtL qa) ∧ Box w gt 26 (smL sa) ∧ True) (fun D _ => ⟨hS0.1.drew, hS0.2.1, hS0.2.2.1, hS0.2.2.2.1, hS0.2.2.2.2.1, hS0.2.2.2.2.2.1, trivial⟩) ?_ (by rfl) (fun w D _ hSw => hfin (kn3T q qa sa r1 ck gp ga gs gb gt B0 WW) w rfl hSw)
  · intro jq t hj ht
    have : ∀ j, j < 20 → (kn3D j).all (· < 131) = true := by decide
    have := this jq hj
    rw [ht] at this
    rw [sz]
    simpa using this
  · intro iq o ho D a w hSw hDi hcl hs hel K hK
    have hin : iq < 20 := (Array.getElem?_eq_some_iff.1 ho).1
    match iq, hin, ho with
    | 0, _, ho =>
      obtain rfl := Option.some.inj (ho.symm.trans (kn3_0 ps))
      have u9 : a.eval (.tmp 9) = .pointer (some ⟨ga, 0, none⟩) := (hel 9 (by decide)).trans e9
      exact op_valW (kn3_0 ps) rfl (v := agv (rtL qa)) (run_loadS isS23 rfl u9 hSw.2.2.1) (hK w (fun D' _ _ => hSw))
    | 1, _, ho =>
      obtain rfl := Option.some.inj (ho.symm.trans (kn3_1 ps))
      have u12 : a.eval (.tmp 12) = .pointer (some ⟨gb, 0, none⟩) := (hel 12 (by decide)).trans e12
      exact op_valW (kn3_1 ps) rfl (v := agv (rtL qa)) (run_loadS isS23 rfl u12 hSw.2.2.2.2.1) (hK w (fun D' _ _ => hSw))
    | 2, _, ho =>
      obtain rfl := Option.some.inj (ho.symm.trans (kn3_2 ps))
      have s0 : a.eval (.tmp 44) = agv (rtL qa) := hs 0 44 (by rfl) rfl
      have s1 : a.eval (.tmp 45) = agv (rtL qa) := hs 1 45 (by rfl) rfl
      exact op_valW (kn3_2 ps) rfl (v := .bool false) (run_cmpS rfl s0 s1 (.inr rfl) (eqS23 _)) (hK w (fun D' _ _ => hSw))
    | 3, _, ho =>
      obtain rfl := Option.some.inj (ho.symm.trans (kn3_3 ps))
      have s2 : a.eval (.tmp 46) = .bool false := hs 2 46 (by rfl) rfl
      exact op_valW (kn3_3 ps) rfl (v := .bool false) (by unfold kn3O3 execOp; simp only [s2]; first | (go_simp; done) | (go_simp; with_reducible rfl)) (hK w (fun D' _ _ => hSw))
    | 4, _, ho =>
      obtain rfl := Option.some.inj (ho.symm.trans (kn3_4 ps))
      have s3 : a.eval (.tmp 47) = .bool false := hs 3 47 (by rfl) rfl
      have u10 : a.eval (.tmp 10) = .pointer (some ⟨gs, 0, none⟩) := (hel 10 (by decide)).trans e10
      exact op_valW (kn3_4 ps) (by rw [wanted_of rfl (kn3_3 ps) rfl s3]; rfl) (v := agv (smL sa)) (run_loadS isS26 rfl u10 hSw.2.2.2.1) (hK w (fun D' _ _ => hSw))
    | 5, _, ho =>
      obtain rfl := Option.some.inj (ho.symm.trans (kn3_5 ps))
      have s3 : a.eval (.tmp 47) = .bool false := hs 3 47 (by rfl) rfl
      have u13 : a.eval (.tmp 13) = .pointer (some ⟨gt, 0, none⟩) := (hel 13 (by decide)).trans e13
      exact op_valW (kn3_5 ps) (by rw [wanted_of rfl (kn3_3 ps) rfl s3]; rfl) (v := agv (smL sa)) (run_loadS isS26 rfl u13 hSw.2.2.2.2.2.1) (hK w (fun D' _ _ => hSw))
    | 6, _, ho =>
      obtain rfl := Option.some.inj (ho.symm.trans (kn3_6 ps))
      have s4 : a.eval (.tmp 48) = agv (smL sa) := hs 4 48 (by rfl) rfl
      have s5 : a.eval (.tmp 49) = agv (smL sa) := hs 5 49 (by rfl) rfl
      have s3 : a.eval (.tmp 47) = .bool false := hs 3 47 (by rfl) rfl
      exact op_valW (kn3_6 ps) (by rw [wanted_of rfl (kn3_3 ps) rfl s3]; rfl) (v := .bool false) (run_cmpS rfl s4 s5 (.inr rfl) (eqS26 _)) (hK w (fun D' _ _ => hSw))
    | 7, _, ho =>
      obtain rfl := Option.some.inj (ho.symm.trans (kn3_7 ps))
      have s3 : a.eval (.tmp 47) = .bool false := hs 3 47 (by rfl) rfl
      have s6 : a.eval (.tmp 50) = .bool false := hs 6 50 (by rfl) rfl
      exact op_valW (kn3_7 ps) rfl (v := .bool false) (by unfold kn3O7 execOp; simp only [s3, s6]; first | (go_simp; done) | (go_simp; with_reducible rfl)) (hK w (fun D' _ _ => hSw))
    | 8, _, ho =>
      obtain rfl := Option.some.inj (ho.symm.trans (kn3_8 ps))
      have s7 : a.eval (.tmp 51) = .bool false := hs 7 51 (by rfl) rfl
      exact op_valW (kn3_8 ps) rfl (v := .bool false) (by unfold kn3O8 execOp; simp only [s7]; first | (go_simp; done) | (go_simp; with_reducible rfl)) (hK w (fun D' _ _ => hSw))
    | 9, _, ho =>
      obtain rfl := Option.some.inj (ho.symm.trans (kn3_9 ps))
      have s8 : a.eval (.tmp 52) = .bool false := hs 8 52 (by rfl) rfl
      have u11 : a.eval (.tmp 11) = .int .i64 r1 := (hel 11 (by decide)).trans e11
      exact op_valW (kn3_9 ps) (by rw [wanted_of rfl (kn3_8 ps) rfl s8]; rfl) (v := .int .i64 r1) (by unfold kn3O9 execOp; simp only [u11]; first | (go_simp; done) | (go_simp; with_reducible rfl)) (hK w (fun D' _ _ => hSw))
    | 10, _, ho =>
      obtain rfl := Option.some.inj (ho.symm.trans (kn3_10 ps))
      have s8 : a.eval (.tmp 52) = .bool false := hs 8 52 (by rfl) rfl
      have u14 : a.eval (.tmp 14) = .int .i64 r1 := (hel 14 (by decide)).trans e14
      exact op_valW (kn3_10 ps) (by rw [wanted_of rfl (kn3_8 ps) rfl s8]; rfl) (v := .int .i64 r1) (by unfold kn3O10 execOp; simp only [u14]; first | (go_simp; done) | (go_simp; with_reducible rfl)) (hK w (fun D' _ _ => hSw))
    | 11, _, ho =>
      obtain rfl := Option.some.inj (ho.symm.trans (kn3_11 ps))
      have s9 : a.eval (.tmp 53) = .int .i64 r1 := hs 9 53 (by rfl) rfl
      have s10 : a.eval (.tmp 54) = .int .i64 r1 := hs 10 54 (by rfl) rfl
      have s8 : a.eval (.tmp 52) = .bool false := hs 8 52 (by rfl) rfl
      exact op_valW (kn3_11 ps) (by rw [wanted_of rfl (kn3_8 ps) rfl s8]; rfl) (v := .bool false) (by unfold kn3O11 execOp; simp only [s9, s10]; first | (go_simp; done) | (go_simp; with_reducible rfl)) (hK w (fun D' _ _ => hSw))
    | 12, _, ho =>
      obtain rfl := Option.some.inj (ho.symm.trans (kn3_12 ps))
      have s8 : a.eval (.tmp 52) = .bool false := hs 8 52 (by rfl) rfl
      have s11 : a.eval (.tmp 55) = .bool false := hs 11 55 (by rfl) rfl
      exact op_valW (kn3_12 ps) rfl (v := .bool false) (by unfold kn3O12 execOp; simp only [s8, s11]; first | (go_simp; done) | (go_simp; with_reducible rfl)) (hK w (fun D' _ _ => hSw))
    | 13, _, ho =>
      obtain rfl := Option.some.inj (ho.symm.trans (kn3_13 ps))
      have s12 : a.eval (.tmp 56) = .bool false := hs 12 56 (by rfl) rfl
      exact op_valW (kn3_13 ps) rfl (v := .bool false) (by unfold kn3O13 execOp; simp only [s12]; first | (go_simp; done) | (go_simp; with_reducible rfl)) (hK w (fun D' _ _ => hSw))
    | 14, _, ho =>
      obtain rfl := Option.some.inj (ho.symm.trans (kn3_14 ps))
      have s13 : a.eval (.tmp 57) = .bool false := hs 13 57 (by rfl) rfl
      have u4 : a.eval (.tmp 4) = .pointer (some ⟨gp, 0, none⟩) := (hel 4 (by decide)).trans e4
      exact op_valW (kn3_14 ps) (by rw [wanted_of rfl (kn3_13 ps) rfl s13]; rfl) (v := agv (rtL q)) (run_loadS isS23 rfl u4 hSw.2.1) (hK w (fun D' _ _ => hSw))
    | 15, _, ho =>
      obtain rfl := Option.some.inj (ho.symm.trans (kn3_15 ps))
      have s14 : a.eval (.tmp 58) = agv (rtL q) := hs 14 58 (by rfl) rfl
      have s13 : a.eval (.tmp 57) = .bool false := hs 13 57 (by rfl) rfl
      exact op_enterW (kn3_15 ps) (by rw [wanted_of rfl (kn3_13 ps) rfl s13]; rfl) (f := 13) (args := #[agv (rtL q)]) (by rw [run_call rfl enter13]; simp only [List.map_toArray, List.map_cons, List.map_nil, s14]; try rfl) ((c3 w).mono (fun e w' hh => ⟨_, hh.1, hK w' (fun D' _ _ => ⟨hSw.1.trans (hh.2.mono (Nat.le_trans l0 (Nat.le_of_lt hSw.2.1.lt))), hSw.2.1.later hh.2, hSw.2.2.1.later hh.2, hSw.2.2.2.1.later hh.2, hSw.2.2.2.2.1.later hh.2, hSw.2.2.2.2.2.1.later hh.2, trivial⟩)⟩))
    | 16, _, ho =>
      obtain rfl := Option.some.inj (ho.symm.trans (kn3_16 ps))
      have s13 : a.eval (.tmp 57) = .bool false := hs 13 57 (by rfl) rfl
      have u4 : a.eval (.tmp 4) = .pointer (some ⟨gp, 0, none⟩) := (hel 4 (by decide)).trans e4
      exact op_valW (kn3_16 ps) (by rw [wanted_of rfl (kn3_13 ps) rfl s13]; rfl) (v := agv (rtL q)) (run_loadS isS23 rfl u4 hSw.2.1) (hK w (fun D' _ _ => hSw))
    | 17, _, ho =>
      obtain rfl := Option.some.inj (ho.symm.trans (kn3_17 ps))
      have s16 : a.eval (.tmp 60) = agv (rtL q) := hs 16 60 (by rfl) rfl
      have s13 : a.eval (.tmp 57) = .bool false := hs 13 57 (by rfl) rfl
      exact op_enterW (kn3_17 ps) (by rw [wanted_of rfl (kn3_13 ps) rfl s13]; rfl) (f := 14) (args := #[agv (rtL q)]) (by rw [run_call rfl enter14]; simp only [List.map_toArray, List.map_cons, List.map_nil, s16]; try rfl) ((c4 w).mono (fun e w' hh => ⟨_, hh.1, hK w' (fun D' _ _ => ⟨hSw.1.trans (hh.2.mono (Nat.le_trans l0 (Nat.le_of_lt hSw.2.1.lt))), hSw.2.1.later hh.2, hSw.2.2.1.later hh.2, hSw.2.2.2.1.later hh.2, hSw.2.2.2.2.1.later hh.2, hSw.2.2.2.2.2.1.later hh.2, trivial⟩)⟩))
    | 18, _, ho =>
      obtain rfl := Option.some.inj (ho.symm.trans (kn3_18 ps))
      have s15 : a.eval (.tmp 59) = .int .i64 ck := hs 15 59 (by rfl) rfl
      have s17 : a.eval (.tmp 61) = .int .i64 ck := hs 17 61 (by rfl) rfl
      have s13 : a.eval (.tmp 57) = .bool false := hs 13 57 (by rfl) rfl
      exact op_valW (kn3_18 ps) (by rw [wanted_of rfl (kn3_13 ps) rfl s13]; rfl) (v := .bool false) (by unfold kn3O18 execOp; simp only [s15, s17]; first | (go_simp; done) | (go_simp; with_reducible rfl)) (hK w (fun D' _ _ => hSw))
    | 19, _, ho =>
      obtain rfl := Option.some.inj (ho.symm.trans (kn3_19 ps))
      have s13 : a.eval (.tmp 57) = .bool false := hs 13 57 (by rfl) rfl
      have s18 : a.eval (.tmp 62) = .bool false := hs 18 62 (by rfl) rfl
      exact op_valW (kn3_19 ps) rfl (v := .bool false) (by unfold kn3O19 execOp; simp only [s13, s18]; first | (go_simp; done) | (go_simp; with_reducible rfl)) (hK w (fun D' _ _ => hSw))
    | iq + 20, hin, _ => exact absurd hin (by omega)
end Go.Proofs.Ytdgiapeniafklaa
