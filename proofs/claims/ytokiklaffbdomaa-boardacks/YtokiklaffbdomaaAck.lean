/- The contract of Ack. -/
import Derived.Test.YtokiklaffbdomaaStore
import Derived.Laws.StructEq
import Derived.Deep.QuietTactic
import Derived.BigQuiet
import Derived.Deep.RegionWith
import Derived.Deep.RegionHeld3
import Derived.Deep.DeepCutAuto
import Derived.BigRegion
namespace Go.Proofs.Ytokiklaffbdomaa
open Go.ChangeShapes Go.WideShapes Go.ChangeAt Go.RowKit Go.Shelf
set_option linter.unusedVariables false
attribute [local go_sem] Oper.semAt_some

def cutR (una : Int) (x : Rc) : Rc := ⟨max x.f una, x.t, x.fin, x.sent, x.tx, x.sk, x.lo, x.ag, x.gv, x.ga, x.fa, x.idl⟩
def headMax (una : Int) : List Rc → List Rc
  | [] => []
  | x :: r => cutR una x :: r
def beyB (ts : List Rc) (una : Int) : Bool := decide (0 < ts.length ∧ (nth ts (ts.length - 1)).t < una)
def ackE (ts : List Rc) (una : Int) : Int := if okB ts = true then (if beyB ts una = true then 2 else 0) else 100
def leftL (ts : List Rc) (una : Int) : List Rc := if okB ts = true then (if beyB ts una = true then [] else headMax una (ts.filter (fun x => !goneB una x))) else []
def goneL (ts : List Rc) (una : Int) : List Rc := if okB ts = true then (if beyB ts una = true then [] else ts.filter (goneB una)) else []
theorem headMax_len (una : Int) (l : List Rc) : (headMax una l).length = l.length := by cases l <;> rfl
def AckSays (ts : List Rc) (una : Int) (w : World) (e : Ending) (W' : World) : Prop :=
  ∃ va vc vb vd, e = .returned (.tuple #[.slice va (leftL ts una).length vc, .slice vb (goneL ts una).length vd, .int .i64 (ackE ts una)]) ∧ RowR W' w.heap.size va (leftL ts una).length vc (leftL ts una) ∧ RowR W' w.heap.size vb (goneL ts una).length vd (goneL ts una) ∧ Below w.heap.size w W'
set_option maxRecDepth 100000 in
set_option maxHeartbeats 4000000 in
theorem ack_go (A : Option Addr) (cap : Nat) (ts : List Rc) (una : Int) (w w1 : World) (hT : RecsAt w A ts) (hc : okB ts = true) (hb : beyB ts una = false) (hB : Below w.heap.size w w1) (hu : Boxed w1 w.heap.size 3 (.int .i64 una)) (n : Nat) (hn : ts.length = n) :
    Calls Try.prog 39 #[.slice A n cap, .func (.func 40) #[] #[.pointer (some ⟨w.heap.size, 0, none⟩)]] w1 fun e W' => ∃ va vc vb vd n1 n2, e = .returned (.tuple #[.slice va n1 vc, .slice vb n2 vd]) ∧ (ts.filter (goneB una)).length = n1 ∧ (ts.filter (fun x => !goneB una x)).length = n2 ∧
      RowR W' w.heap.size va n1 vc (ts.filter (goneB una)) ∧ RowR W' w.heap.size vb n2 vd (ts.filter (fun x => !goneB una x)) ∧ (∀ k, lies va k → ¬ lies vb k) ∧ (∀ k, lies vb k → w.heap.size + 1 ≤ k) ∧ Below w.heap.size w W' ∧ Boxed W' w.heap.size 3 (.int .i64 una) := by
  subst hn
  have hlen := (okB_iff.1 hc).1
  have hlt := hu.lt
  refine (part_any 40 #[.pointer (some ⟨w.heap.size, 0, none⟩)] (goneB una) A cap ts w1 (hT.later hB) (by omega) (enters_of Try.func40 (by kernel_rfl) rfl) (fun x W hW => (ack1_any x w.heap.size una W ((hW.cell (p := ⟨w.heap.size, 0, none⟩) hlt).trans hu.cell)).mono fun e W' ⟨he, hw⟩ => ⟨he, by rw [hw]; exact below_new _ _⟩)).mono ?_
  rintro e W' ⟨va, vc, vb, vd, he, h1, h2, h3, h4⟩
  exact ⟨va, vc, vb, vd, _, _, he, rfl, rfl, h1.mono hB.size, h2.mono hB.size, h3, fun k hk => by have := (h2.ge hk).1; omega, Below.on hB h4, boxed_bel hu h4 hlt⟩
set_option maxRecDepth 100000 in
set_option maxHeartbeats 4000000 in
theorem ack_any (A : Option Addr) (cap : Nat) (ts : List Rc) (una : Int) (w : World) (hT : RecsAt w A ts) :
    Calls Try.prog 21 #[.slice A ts.length cap, .int .i64 una] w fun e W' => AckSays ts una w e W' := by
  have b0 := Boxed.new w 3 (.int .i64 una)
  have hB0 : Below w.heap.size w (w.alloc (.cells #[.int .i64 una] 3)) := below_new w _
  have HB0 : Hid (Below w.heap.size w (w.alloc (.cells #[.int .i64 una] 3)) ∧ Boxed (w.alloc (.cells #[.int .i64 una] 3)) w.heap.size 3 (.int .i64 una)) := ⟨hB0, b0⟩
  cases hc : okB ts with
  | false =>
    have HS : Hid (leftL ts una = [] ∧ goneL ts una = [] ∧ ackE ts una = 100) := by unfold Hid leftL goneL ackE; rw [hc]; exact ⟨rfl, rfl, rfl⟩
    have c1 := check_no A cap ts _ (hT.later hB0) hc
    clear hc hT b0 hB0
    go_enter Try.func21, Try.ntmps21
    go_wp2_with fail
    refine c1.mono ?_
    rintro e w1 ⟨rfl, hB1⟩
    go_wp2_with fail
    go_ret3
    unfold AckSays
    rw [HS.out.1, HS.out.2.1, HS.out.2.2]
    exact ⟨none, 0, none, 0, rfl, RowR.nil _ _, RowR.nil _ _, Below.on HB0.out.1 hB1⟩
  | true =>
    have c1 := check_ok A cap ts _ (hT.later hB0) hc
    cases hb : beyB ts una with
    | true =>
      have HS : Hid (leftL ts una = [] ∧ goneL ts una = [] ∧ ackE ts una = 2) := by unfold Hid leftL goneL ackE; rw [hc, hb]; exact ⟨rfl, rfl, rfl⟩
      have hb' := of_decide_eq_true hb
      obtain ⟨m, hm⟩ : ∃ m, ts.length = m + 1 := ⟨ts.length - 1, by omega⟩
      rw [hm] at hb'
      obtain ⟨b, o, rfl, hl0⟩ := hT.2 m (by omega)
      have hml : ts.length ≤ 65536 := (okB_iff.1 hc).1
      rw [hm] at hml
      obtain ⟨y, hy⟩ : ∃ y, nth ts m = y := ⟨_, rfl⟩
      rw [hy] at hl0
      simp only [Nat.add_sub_cancel] at hb'
      rw [hy] at hb'
      have ht := hb'.2
      have hd : decide (y.t < una) = true := decide_eq_true ht
      rw [hm] at c1 ⊢
      have HL : Hid (RecCells w b (o + m * 12) y) := hl0
      clear hc hT b0 hB0 hb hm hb' hl0 hy
      go_enter Try.func21, Try.ntmps21
      go_wp2_with fail
      refine c1.mono ?_
      rintro e w1 ⟨rfl, hB1⟩
      have hl1 := ((HL.out.below HB0.out.1 HL.out.lt).below hB1 (by have := HL.out.lt; simp; omega)).out.2.1
      have cu := (boxed_bel HB0.out.2 hB1 (by simp)).cell
      have HB1 : Hid (Below w.heap.size w w1) := Below.on HB0.out.1 hB1
      have hwm : IntKind.i64.wrap (m : Int) = m := by simp [IntKind.wrap, IntKind.bits, IntKind.signed]; omega
      clear c1 hB1
      go_upto_region 4 with fail
      go_quiet (fail)
      go_wp2_with fail
      go_ret3
      unfold AckSays
      rw [HS.out.1, HS.out.2.1, HS.out.2.2]
      exact ⟨none, 0, none, 0, rfl, RowR.nil _ _, RowR.nil _ _, below_drewN HB1.out _⟩
    | false =>
      have HS : Hid (leftL ts una = headMax una (ts.filter (fun x => !goneB una x)) ∧ goneL ts una = ts.filter (goneB una) ∧ ackE ts una = 0) := by unfold Hid leftL goneL ackE; rw [hc, hb]; exact ⟨rfl, rfl, rfl⟩
      have HC : Hid (RecsAt w A ts ∧ okB ts = true ∧ beyB ts una = false) := ⟨hT, hc, hb⟩
      have hml : ts.length ≤ 65536 := (okB_iff.1 hc).1
      obtain ⟨n, hn⟩ : ∃ n, ts.length = n := ⟨_, rfl⟩
      have HN : Hid (ts.length = n) := hn
      have H4 : Hid (n = 0 ∨ ∃ m b o y, n = m + 1 ∧ A = some ⟨b, o, none⟩ ∧ RecCells w b (o + m * 12) y ∧ una ≤ y.t) := by
        cases n with
        | zero => exact .inl rfl
        | succ m =>
          obtain ⟨b, o, e, hl⟩ := hT.2 m (by omega)
          refine .inr ⟨m, b, o, _, rfl, e, hl, ?_⟩
          have h1 := of_decide_eq_false hb
          rw [hn] at h1
          simp at h1
          omega
      rw [hn] at c1 hml ⊢
      clear hc hb hT b0 hB0 hn
      go_enter Try.func21, Try.ntmps21
      go_wp2_with fail
      refine c1.mono ?_
      rintro e w1 ⟨rfl, hB1⟩
      have HB1 : Hid (Below w.heap.size w w1 ∧ Boxed w1 w.heap.size 3 (.int .i64 una)) := ⟨Below.on HB0.out.1 hB1, boxed_bel HB0.out.2 hB1 (by simp)⟩
      clear c1 hB1 HB0
      go_upto_region 4 with fail
      rcases H4.out with rfl | ⟨m, b, o, y, rfl, rfl, hl, hle⟩
      case' inl => (have cu := HB1.out.2.cell; clear H4; go_quiet (fail); clear cu)
      case' inr => (
        have cu := HB1.out.2.cell
        have hl1 := (hl.below HB1.out.1 hl.lt).out.2.1
        have hd : decide (y.t < una) = false := decide_eq_false (by omega)
        have hwm : IntKind.i64.wrap (m : Int) = m := by simp [IntKind.wrap, IntKind.bits, IntKind.signed]; omega
        clear H4 hl
        go_quiet (fail)
        clear cu hl1 hd hwm hle)
      all_goals (
        go_wp2_with fail
        refine (ack_go _ _ ts una w _ HC.out.1 HC.out.2.1 HC.out.2.2 (below_drewN HB1.out.1 _) (show Boxed (w1.drewN _) _ _ _ from HB1.out.2) _ HN.out).mono ?_
        rintro e W2 ⟨va, vc, vb, vd, n1, n2, rfl, e1, e2, hG, hL, hD, hlo, hB2, hU2⟩
        have HE : Hid ((ts.filter (goneB una)).length = n1 ∧ (ts.filter (fun x => !goneB una x)).length = n2) := ⟨e1, e2⟩
        have HR : Hid (RowR W2 w.heap.size va n1 vc (ts.filter (goneB una)) ∧ RowR W2 w.heap.size vb n2 vd (ts.filter (fun x => !goneB una x)) ∧ (∀ k, lies va k → ¬ lies vb k) ∧ (∀ k, lies vb k → w.heap.size + 1 ≤ k) ∧ Below w.heap.size w W2 ∧ Boxed W2 w.heap.size 3 (.int .i64 una)) := ⟨hG, hL, hD, hlo, hB2, hU2⟩
        clear e1 e2 hG hL hD hlo hB2 hU2 HB1 HC
        cases hfl : ts.filter (fun x => !goneB una x) with
        | nil =>
          rw [hfl] at HE HS HR
          obtain ⟨h1, h2⟩ := HE.out
          obtain rfl : n2 = 0 := h2.symm
          have HN1 : Hid ((ts.filter (goneB una)).length = n1) := h1
          clear hfl HE h1 h2
          go_wp2_with fail
          go_ret3
          unfold AckSays
          rw [HS.out.1, HS.out.2.1, HS.out.2.2, HN1.out]
          exact ⟨vb, vd, va, vc, rfl, HR.out.2.1, HR.out.1, HR.out.2.2.2.2.1⟩
        | cons x r =>
          rw [hfl] at HE HS HR
          obtain ⟨h1, h2⟩ := HE.out
          obtain ⟨k, hk⟩ : ∃ k, n2 = k + 1 := ⟨r.length, by rw [← h2]; rfl⟩
          subst hk
          have HN1 : Hid ((ts.filter (goneB una)).length = n1 ∧ (headMax una (x :: r)).length = k + 1) := ⟨h1, by rw [headMax_len]; exact h2⟩
          obtain ⟨g, rfl, hg1, hg2⟩ := row_some HR.out.2.1 (by omega)
          have hg0 := HR.out.2.2.2.1 g rfl
          have c0 := (row_cells HR.out.2.1 0 (by omega)).out.1
          have hx0 : nth (x :: r) 0 = x := rfl
          rw [hx0, Nat.zero_mul] at c0
          have cu := HR.out.2.2.2.2.2.cell
          have fr := row_frozen HR.out.2.1 0
          have r1 := row_set HR.out.2.1 0 0 (by omega) (by omega) (.int .i64 (max x.f una)) (cutR una x) (by rw [hx0]; rfl)
          simp only [Nat.zero_mul, Nat.add_zero, List.set_cons_zero] at r1
          have HF : Hid (RowR (W2.setCell ⟨g, 0, none⟩ (.int .i64 (max x.f una))) w.heap.size (some ⟨g, 0, none⟩) (k + 1) vd (headMax una (x :: r)) ∧ RowR (W2.setCell ⟨g, 0, none⟩ (.int .i64 (max x.f una))) w.heap.size va n1 vc (ts.filter (goneB una)) ∧ Below w.heap.size w (W2.setCell ⟨g, 0, none⟩ (.int .i64 (max x.f una)))) :=
            ⟨r1, HR.out.1.of_block (fun g' e => Below.heap_setCell _ _ _ g' (fun e2 => HR.out.2.2.1 g' e (by rw [lies, e2]))), below_set HR.out.2.2.2.2.1 hg1 _ _⟩
          clear r1 hx0 HR HE h1 h2 hfl
          by_cases hmx : x.f < una
          · rw [show max x.f una = una from by omega] at HF
            go_upto_region 8 with fail
            go_region
            go_wp2_with fail
            go_ret3
            unfold AckSays
            rw [HS.out.1, HS.out.2.1, HS.out.2.2, HN1.out.1, HN1.out.2]
            exact ⟨_, vd, va, vc, rfl, HF.out.1, HF.out.2.1, HF.out.2.2.drew⟩
          · rw [show max x.f una = x.f from by omega] at HF
            go_upto_region 8 with fail
            go_region
            go_wp2_with fail
            go_ret3
            unfold AckSays
            rw [HS.out.1, HS.out.2.1, HS.out.2.2, HN1.out.1, HN1.out.2]
            exact ⟨_, vd, va, vc, rfl, HF.out.1, HF.out.2.1, HF.out.2.2.drew⟩)
end Go.Proofs.Ytokiklaffbdomaa
