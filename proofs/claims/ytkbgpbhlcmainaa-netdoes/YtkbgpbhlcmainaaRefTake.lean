/- The contract of the document's Take. -/
import Derived.Test.YtkbgpbhlcmainaaRefSend
import Derived.Test.YtkbgpbhlcmainaaNet
namespace Go.Proofs.Ytkbgpbhlcmainaa
open Go.ChangeShapes Go.WideShapes Go.ChangeAt Go.RowKit
set_option linter.unusedVariables false

/-- Datagrams appended to none, at a step of a region that draws. -/
theorem step_own0 {w : World} {ops : Array Oper} {o : Oper} {a : Act} {K : Act → World → Prop} {Q : Exit → Act → World → Prop} {E : Prop} (hgd : o.guard = none) (s x : Operand)
    (ho : o.op = .call { callee := .builtin .append, args := #[s, x], argTypes := #[22, 22] })
    (B : Nat) (va : Option Addr) (vc : Nat) (A : Option Addr) (m c : Nat) (l : List En) (hs : a.eval s = .slice va 0 vc) (hx : a.eval x = .slice A m c)
    (hO : RowE w B va 0 vc []) (hB : B ≤ w.heap.size) (hT : EntsAt w A l) (hl : l.length = m) (hA : A = none → c = 0) (hb : m * 32 ≤ 140737488355328)
    (h : ∀ va' vc' w', RowE w' B va' m vc' l → Below B w w' → K (a.put o.dst (.slice va' m vc')) w') :
    if Region.wanted o (yielded ops a.tmps) = true then Oper.wp Try.prog o a w K Q else E :=
  step_own hgd s x ho B va 0 vc [] A m c l hs hx hO hB hT hl hA (by omega) (fun va' vc' w' h1 h2 h3 => by
    have hz : 0 + m = m := Nat.zero_add m
    rw [hz] at h1 ⊢
    exact h va' vc' w' (by simpa using h1) h3)
/-- 'x[:k]'. -/
theorem sl_upto (a : Option Addr) (n c k : Nat) (ki : Int) (hk : ki = (k : Int)) (h : k ≤ c) (w : World) :
    (Instr.slice 22 (.slice a n c) none (some (.int .i64 ki)) none).run Try.prog w = .ok (.slice a k c) w := by
  subst hk
  rw [run_slice_h w 22 a n c under22 .i64 k (by omega) (by omega), size26]
  cases a with
  | none => simp [sliced]
  | some x => simp [sliced, Addr.add]
theorem cell_set2 (W : World) (p : Nat) (u v : Value) (q : Addr) (h : q.block ≠ p) : ((W.setCell ⟨p, 0, none⟩ u).setCell ⟨p, 1, none⟩ v).cell? q = W.cell? q :=
  (World.cell?_of_block (Below.heap_setCell _ ⟨p, 1, none⟩ v q.block h)).trans (World.cell?_of_block (Below.heap_setCell W ⟨p, 0, none⟩ u q.block h))

set_option maxRecDepth 100000 in
set_option maxHeartbeats 4000000 in
theorem refTake_any (A : Option Addr) (n c : Nat) (l : List Dg) (k : Int) (w : World) (hD : DatsAt w A n c l) (hk : I64 k) (S : List Dg) (hS : takeL l k = S) (m : Nat) (hm : S.length = m) (r : Int) (hr : takeE l k = r) (d : Dg) (hd : takeD l k = d) :
    Calls Try.prog 15 #[.slice A n c, .int .i64 k] w fun e w' => ∃ da dc va vc, e = .returned (.tuple #[.agg #[.slice da d.1.length dc, .int .i64 d.2], .slice va m vc, .int .i64 r]) ∧ En.ok w' ⟨da, dc, d.1, d.2⟩ ∧ DatsAt w' va m vc S ∧ Below w.heap.size w w' := by
  have hln := hD.len
  have hrc := hD.reach
  unfold I64 at hk
  have b0 : Below w.heap.size w (w.alloc (.cells #[.slice none 0 0, .int .i64 0] 26)) := below_more (Below.refl _ _) _
  have hX := BoxD.new w (.slice none 0 0) (.int .i64 0)
  cases hp : plB n k with
  | false =>
    obtain rfl : S = [] := by rw [← hS, takeL, hln, hp]; simp
    obtain rfl : r = 50 := by rw [← hr, takeE, hln, hp]; simp
    obtain rfl : d = z0 := by rw [← hd, takeD, hln, hp]; simp
    obtain rfl : m = 0 := by rw [← hm]; rfl
    have HX : Hid (BoxD (w.alloc (.cells #[.slice none 0 0, .int .i64 0] 26)) w.heap.size (.slice none 0 0) (.int .i64 0)) := hX
    have HB : Hid (Below w.heap.size w (w.alloc (.cells #[.slice none 0 0, .int .i64 0] 26))) := b0
    rcases (show k < 0 ∨ (0 ≤ k ∧ (n : Int) ≤ k) from by simp [plB] at hp; omega) with h | ⟨h, h2⟩
    all_goals (
      clear hS hr hm hD hd hln hX b0 hp
      go_enter Try.func15, Try.ntmps15
      go_wp2_with fail
      refine bodyPost_ret (results_box3 rfl _ _ w.heap.size _ _ rfl HX.out) rfl ?_
      exact ⟨none, 0, none, 0, rfl, ⟨BytesAt.nil _ _, fun _ => rfl, by unfold I64 z0; simp⟩, DatsAt.nil _, HB.out⟩)
  | true =>
    obtain ⟨j, rfl⟩ : ∃ j : Nat, k = (j : Int) := ⟨k.toNat, by simp [plB] at hp; omega⟩
    have hj : j < n := by simp [plB] at hp; exact hp
    have hj' : (j : Int) < (n : Int) := by omega
    have hSl : S = l.take j ++ l.drop (j + 1) := by rw [← hS, takeL, hln, hp]; simp
    obtain rfl : r = 0 := by rw [← hr, takeE, hln, hp]; simp
    have hmn : j + (n - (j + 1)) = m := by rw [← hm, hSl]; simp [hln]; omega
    have hdl : l[j]?.getD z0 = d := by rw [← hd, takeD, hln, hp]; simp
    have HD : Hid (S = l.take j ++ l.drop (j + 1) ∧ l[j]?.getD z0 = d ∧ l.length = n ∧ j + (n - (j + 1)) = m) := ⟨hSl, hdl, hln, hmn⟩
    have cC := copy_any A n c l (w.alloc (.cells #[.slice none 0 0, .int .i64 0] 26)) (hD.later b0)
    have HX : Hid (BoxD (w.alloc (.cells #[.slice none 0 0, .int .i64 0] 26)) w.heap.size (.slice none 0 0) (.int .i64 0)) := hX
    have HB : Hid (Below w.heap.size w (w.alloc (.cells #[.slice none 0 0, .int .i64 0] 26))) := b0
    have hw : IntKind.i64.wrap ((j : Int) + 1) = (j : Int) + 1 := by rw [IntKind.wrap_i64]; omega
    clear hS hr hm hD hd hln hX b0 hSl hdl hp hmn
    go_enter Try.func15, Try.ntmps15
    go_wp2_with fail
    refine cC.mono ?_
    rintro e w1 ⟨va, vc, rfl, hT, hB1⟩
    obtain ⟨es, he, hn32, hE, hmi, hpt⟩ := hT
    have hel := hE.len
    have hmx := hE.max
    obtain ⟨y, hy⟩ : ∃ y, es[j]? = some y := ⟨_, List.getElem?_eq_getElem (by omega)⟩
    have hyd : y.dg = d := by rw [← HD.out.2.1, ← he]; simp [hy]
    obtain ⟨g, o, rfl, hc0, hc1⟩ := hE.ents j y hy
    rcases hE.at with e' | ⟨g', e', hgB, hglt, _⟩
    · cases e'
    cases e'
    have hX1 : BoxD w1 w.heap.size (.slice none 0 0) (.int .i64 0) := HX.out.later hB1
    have hgp : g ≠ w.heap.size := by have : w.heap.size < (w.alloc (.cells #[.slice none 0 0, .int .i64 0] 26)).heap.size := HX.out.lt; omega
    have hp1 : w.heap.size < w1.heap.size := hX1.lt
    rw [Nat.zero_add] at hc0 hc1
    have HC : Hid (∀ W, Below w1.heap.size w1 W → W.cell? ⟨g, j * 2, none⟩ = some (.slice y.a y.bs.length y.c) ∧ W.cell? ⟨g, j * 2 + 1, none⟩ = some (.int .i64 y.t)) := fun W hW =>
      ⟨(hW.cell (p := ⟨g, j * 2, none⟩) (lt_of_cell hc0)).trans hc0, (hW.cell (p := ⟨g, j * 2 + 1, none⟩) (lt_of_cell hc1)).trans hc1⟩
    have e1 := sl_upto (some ⟨g, 0, none⟩) n vc j (j : Int) rfl (by omega)
    have e2 := sl_cut (some ⟨g, 0, none⟩) n vc (j + 1) ((j : Int) + 1) (by omega) (by omega)
    obtain ⟨A2, hA2⟩ : ∃ A2, cutE (some ⟨g, 0, none⟩) vc (j + 1) = A2 := ⟨_, rfl⟩
    obtain ⟨m', hm'⟩ : ∃ m', n - (j + 1) = m' := ⟨_, rfl⟩
    obtain ⟨c2, hc2⟩ : ∃ c2, vc - (j + 1) = c2 := ⟨_, rfl⟩
    rw [hA2, hm', hc2] at e2
    have HE : Hid (EntsAt w1 (some ⟨g, 0, none⟩) (es.take j) ∧ (es.take j).length = j ∧ EntsAt w1 A2 (es.drop (j + 1)) ∧ (es.drop (j + 1)).length = m' ∧ (A2 = none → c2 = 0)) :=
      ⟨hE.ents.take j, by simp; omega, by rw [← hA2]; exact hE.ents.cut (j + 1) vc (by omega) (by omega), by simp; omega, by rw [← hA2, ← hc2]; exact cutE_none (fun h => by cases h)⟩
    have hjm : j + m' = m := by have := HD.out.2.2.2; omega
    have hm32 : (j + m') * 32 ≤ 140737488355328 := by omega
    have HJ : Hid (j + m' = m) := hjm
    clear hjm
    have HM : Hid (es.map En.dg = l ∧ (∀ x ∈ es, En.mine w1 (w.alloc (.cells #[.slice none 0 0, .int .i64 0] 26)).heap.size x) ∧ y ∈ es ∧ y.dg = d ∧ BoxD w1 w.heap.size (.slice none 0 0) (.int .i64 0) ∧ Below w.heap.size w w1) := ⟨he, hmi, List.mem_of_getElem? hy, hyd, hX1, Below.on HB.out hB1⟩
    clear cC hE hmi hpt hy hyd hB1 hA2 hm' hc2 hc0 hc1 he hX1 hgB HB HX
    go_upto_region 4 with fail
    go_region_held3 (fun W => W.cell? ⟨g, j * 2, none⟩ = some (.slice y.a y.bs.length y.c) ∧ W.cell? ⟨g, j * 2 + 1, none⟩ = some (.int .i64 y.t))
      (refine ⟨?_, ?_⟩ <;> first
        | (refine (cell_set2 _ w.heap.size _ _ _ hgp).trans (HC.out _ ?_).1; (repeat (first | with_reducible exact Below.refl _ _ | with_reducible assumption | with_reducible refine Below.drew ?_ | with_reducible refine below_drewN ?_ _ | with_reducible refine below_more ?_ _)); done)
        | (refine (cell_set2 _ w.heap.size _ _ _ hgp).trans (HC.out _ ?_).2; (repeat (first | with_reducible exact Below.refl _ _ | with_reducible assumption | with_reducible refine Below.drew ?_ | with_reducible refine below_drewN ?_ _ | with_reducible refine below_more ?_ _)); done)
        | (refine (HC.out _ ?_).1; (repeat (first | with_reducible exact Below.refl _ _ | with_reducible assumption | with_reducible refine Below.drew ?_ | with_reducible refine below_drewN ?_ _ | with_reducible refine below_more ?_ _)); done)
        | (refine (HC.out _ ?_).2; (repeat (first | with_reducible exact Below.refl _ _ | with_reducible assumption | with_reducible refine Below.drew ?_ | with_reducible refine below_drewN ?_ _ | with_reducible refine below_more ?_ _)); done))
      (first
        | (refine step_own0 rfl (.tmp 23) (.tmp 26) rfl w1.heap.size (some ⟨w1.heap.size, 0, none⟩) 0 (some ⟨g, 0, none⟩) j vc (es.take j) rfl rfl (RowE.of_heap (rowE_empty w1 w1.heap.size (Nat.le_refl _)) (by rfl)) (Below.size (B := w1.heap.size) (w := w1) (by repeat (first | with_reducible exact Below.refl _ _ | with_reducible assumption | with_reducible refine Below.drew ?_ | with_reducible refine below_drewN ?_ _ | with_reducible refine below_more ?_ _))) (HE.out.1.below (B := w1.heap.size) (by repeat (first | with_reducible exact Below.refl _ _ | with_reducible assumption | with_reducible refine Below.drew ?_ | with_reducible refine below_drewN ?_ _ | with_reducible refine below_more ?_ _)) (Nat.le_refl _)) HE.out.2.1 (fun h => by cases h) (by omega) ?_; intro a2 c2' w2 hE2 hb2'; have hb2 : Below w1.heap.size w1 w2 := Below.trans (by repeat (first | with_reducible exact Below.refl _ _ | with_reducible assumption | with_reducible refine Below.drew ?_ | with_reducible refine below_drewN ?_ _ | with_reducible refine below_more ?_ _)) hb2')
        | (refine step_own rfl (.tmp 27) (.tmp 31) rfl w1.heap.size a2 j c2' (es.take j) A2 m' c2 (es.drop (j + 1)) rfl rfl (by first | exact hE2 | exact RowE.of_heap hE2 (by rfl)) (Below.size (B := w1.heap.size) (w := w1) (by repeat (first | with_reducible assumption | with_reducible refine Below.drew ?_ | with_reducible refine below_drewN ?_ _ | with_reducible refine below_more ?_ _))) (HE.out.2.2.1.below (B := w1.heap.size) (by repeat (first | with_reducible assumption | with_reducible refine Below.drew ?_ | with_reducible refine below_drewN ?_ _ | with_reducible refine below_more ?_ _)) (Nat.le_refl _)) HE.out.2.2.2.1 HE.out.2.2.2.2 hm32 ?_; intro a3 c3 w3 hE3 _ hb3'; have hb3 : Below w1.heap.size w1 w3 := Below.trans (by repeat (first | with_reducible assumption | with_reducible refine Below.drew ?_ | with_reducible refine below_drewN ?_ _ | with_reducible refine below_more ?_ _)) hb3'; have hX3 := HM.out.2.2.2.2.1.later hb3; have k0 := hX3.cell0; have k1 := hX3.cell1; have f0 := hX3.frozen 0; have f1 := hX3.frozen 1))
    have HF : Hid (BoxD w3 w.heap.size (.slice none 0 0) (.int .i64 0) ∧ RowE w3 w1.heap.size a3 (j + m') c3 (es.take j ++ es.drop (j + 1)) ∧ Below w1.heap.size w1 w3 ∧ w.heap.size < w1.heap.size) := ⟨hX3, hE3, hb3, hp1⟩
    clear hE2 hb2' hb2 hE3 hb3' hb3 hX3 k0 k1 f0 f1 hp1 hgp hglt
    go_wp2_with fail
    refine bodyPost_ret (results_box3 rfl _ _ w.heap.size _ _ rfl (HF.out.1.put _ _)) rfl ?_
    obtain ⟨he, hmi, hym, hyd, _, hb1⟩ := HM.out
    obtain ⟨_, hE3, hb3, hp1⟩ := HF.out
    subst hyd
    have hB0 : w.heap.size < (w.alloc (.cells #[.slice none 0 0, .int .i64 0] 26)).heap.size := by simp
    have hall : ∀ x ∈ es, En.ok ((w3.setCell ⟨w.heap.size, 0, none⟩ (.slice y.a y.bs.length y.c)).setCell ⟨w.heap.size, 1, none⟩ (.int .i64 y.t)) x := fun x hx => by
      have h1 := (hmi x hx).later hb3
      exact En.mine.ok (B := (w.alloc (.cells #[.slice none 0 0, .int .i64 0] 26)).heap.size) ⟨(h1.1.aside ⟨w.heap.size, 0, none⟩ _ hB0).aside ⟨w.heap.size, 1, none⟩ _ hB0, h1.2⟩
    have hE4 := (hE3.aside ⟨w.heap.size, 0, none⟩ (.slice y.a y.bs.length y.c) hp1).aside ⟨w.heap.size, 1, none⟩ (.int .i64 y.t) hp1
    have hjm := HJ.out
    refine ⟨y.a, y.c, a3, c3, by rw [hjm]; rfl, hall y hym, ?_, ((Below.on hb1 hb3).setCell (Nat.le_refl _) _).setCell (Nat.le_refl _) _⟩
    rw [hjm] at hE4
    refine ⟨es.take j ++ es.drop (j + 1), by rw [List.map_append, List.map_take, List.map_drop, he, HD.out.1], ?_, by have := HD.out.2.2.2; omega, hE4.max.1, hE4.max.2, hE4.nil0, hE4.ents, fun x hx => ?_⟩
    · rw [HD.out.1, ← hjm, List.length_append, List.length_take, List.length_drop]
      have := HD.out.2.2.1
      have := HD.out.2.2.2
      omega
    · rcases List.mem_append.1 hx with hx | hx
      · exact hall x (List.mem_of_mem_take hx)
      · exact hall x (List.mem_of_mem_drop hx)
end Go.Proofs.Ytkbgpbhlcmainaa
