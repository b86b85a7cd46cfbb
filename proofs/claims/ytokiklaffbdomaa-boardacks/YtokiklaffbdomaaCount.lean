/- The contract of count, whatever the test; of Pipe and Sacked. -/
import Derived.Test.YtokiklaffbdomaaPlain2
namespace Go.Proofs.Ytokiklaffbdomaa
open Go.ChangeShapes Go.WideShapes Go.ChangeAt Go.RowKit Go.Shelf
set_option linter.unusedVariables false
attribute [local go_sem] Oper.semAt_some

theorem boxed_apart {X Y : World} {B b : Nat} {t : TypeId} {v : Value} {Z : Nat → Prop} (h : Boxed X B t v) (hA : Apart b Z X Y) (hb : B < b ∨ Z B) : Boxed Y B t v := (hA.same B h.lt hb).trans h
theorem below_apart {m b : Nat} {w X Y : World} {Z : Nat → Prop} (h : Below m w X) (hm : m ≤ w.heap.size) (hb : m ≤ b) (hA : Apart b Z X Y) : Below m w Y :=
  ⟨hA.flat.os.trans h.os, hA.flat.tape.trans h.tape, hA.flat.output.trans h.output, Nat.le_trans h.size hA.flat.size, fun k hk => (hA.same k (by have := h.size; omega) (.inl (by omega))).trans (h.block k hk)⟩
theorem below_grown {m : Nat} {w X Y : World} {row : Option Nat} (h : Below m w X) (hm : m ≤ w.heap.size) (hg : X.grownBy Y row) (hr : ∀ k, row = some k → m ≤ k) : Below m w Y := h.grown hg (Nat.le_trans hm h.size) hr
theorem mine_set {b : Nat} {R Z : Nat → Prop} {X : World} (hZ : ∀ k, Z k → k < X.heap.size) {B : Nat} (j : Nat) (v : Value) (hb : B < b) (hR : ¬ R B) : Mine b R Z X Z (X.setCell ⟨B, j, none⟩ v) :=
  Mine.of_grown (grownBy_setAt X B j v) hZ (fun k e => by cases e; exact .inr ⟨hb, hR⟩)
theorem boxed_put {W : World} {B : Nat} {t : TypeId} {v : Value} (h : Boxed W B t v) {l : Nat} {o : Obj} (o' : Obj) (hl : W.heap[l]? = some o) (ho : o.isCells = false) : Boxed (W.putObj l o') B t v :=
  boxed_own B t (fun (_ : Unit) => v) () W _ (some l) h (grownBy_putObj' W l o') (fun r e => by cases e; exact ⟨o, hl, ho⟩)
theorem boxed_other {W : World} {B B' : Nat} {t : TypeId} {v : Value} (h : Boxed W B t v) (hne : B ≠ B') (j : Nat) (u : Value) : Boxed (W.setCell ⟨B', j, none⟩ u) B t v := h.kept (grownBy_setAt W B' j u) (fun e => hne (by cases e; rfl))
theorem size_set (W : World) (B j : Nat) (v : Value) : (W.setCell ⟨B, j, none⟩ v).heap.size = W.heap.size := by simp [World.setCell]

/-- The blocks that the iterator over a slice reads. -/
def readsA (A : Option Addr) (n Bt : Nat) (k : Nat) : Prop := (∃ o, A = some ⟨k, o, none⟩ ∧ 0 < n) ∨ k = Bt
theorem reads_lt {w : World} {A : Option Addr} {ts : List Rc} (hT : RecsAt w A ts) {k Bt : Nat} (h : readsA A ts.length Bt k) : k < w.heap.size ∨ k = Bt := by
  rcases h with ⟨o, e, h0⟩ | h
  · obtain ⟨b, o', e', hc⟩ := hT.2 0 h0
    rw [e] at e'; cases e'
    exact .inl hc.lt
  · exact .inr h
set_option maxRecDepth 100000 in
set_option maxHeartbeats 4000000 in
theorem count_any (g : Nat) (p : Rc → Bool) (A : Option Addr) (cap : Nat) (ts : List Rc) (w : World) (hT : RecsAt w A ts)
    (eg : ∀ args w, (callFunc g args).run Try.prog w = .ok (.enter g args) w)
    (ht : ∀ x W, Calls Try.prog g #[.agg #[.int .i64 x.f, .int .i64 x.t, .bool x.fin, .int .i64 x.sent, .int .i64 x.tx, .bool x.sk, .bool x.lo, .bool x.ag, .int .i64 x.gv, .int .i64 x.ga, .int .i64 x.fa, .bool x.idl]] W fun e W' => e = .returned (.bool (p x)) ∧ Below W.heap.size W W') :
    Calls Try.prog 34 #[.slice A ts.length cap, .func (.func g) #[] #[]] w fun e W' => e = .returned (.tuple #[.int .i64 (cntN p ts), .int .i64 (cntB p ts)]) ∧ Below w.heap.size w W' := by
  refine (callsIn_wide (n := 6)).1 ?_
  refine callsIn_of_wp_marks Try.func34 rfl trivial ?_ rfl
  simp only [Try.ntmps34, List.size_toArray, List.length_cons, List.length_nil, Nat.reduceAdd, Nat.reduceSub, Array.replicate_succ, Array.replicate_zero, List.push_toArray, List.append_toArray, List.nil_append, List.cons_append]
  have b0 := (Boxed.new w 3 (.int .i64 0)).alloc (.cells #[.int .i64 0] 3)
  have b1 := Boxed.new (w.alloc (.cells #[.int .i64 0] 3)) 3 (.int .i64 0)
  simp only [World.size_alloc] at b1
  have hB0 : Below w.heap.size w ((w.alloc (.cells #[.int .i64 0] 3)).alloc (.cells #[.int .i64 0] 3)) := below_more (below_new w _) _
  have cC := check_any A cap ts _ (hT.later hB0)
  cases hc : okB ts with
  | false =>
    have hE : chkI ts = 100 := chk_no hc
    have hN : Hid (cntN p ts = 0 ∧ cntB p ts = 0) := by unfold Hid cntN cntB; rw [hc]; exact ⟨rfl, rfl⟩
    rw [hE] at cC
    clear hE hc
    gi_wp2_with fail
    refine ⟨trivial, ?_⟩
    gi_at_call 12
    refine (callsIn_wide.2 cC).mono ?_
    rintro e w1 ⟨rfl, hB1⟩
    have d0 := boxed_bel b0 hB1 (by simp; omega)
    have d1 := boxed_bel b1 hB1 (by simp)
    have e0 := d0.cell
    have e1 := d1.cell
    have f0 := d0.frozen
    have f1 := d1.frozen
    gi_wp2_with fail
    have g0 := (boxed_other (d0.set (.int .i64 0)) (show w.heap.size ≠ w.heap.size + 1 by omega) 0 (.int .i64 0)).cell
    have g1 := ((boxed_other d1 (show w.heap.size + 1 ≠ w.heap.size by omega) 0 (.int .i64 0)).set (.int .i64 0)).cell
    refine ⟨.tuple #[.int .i64 0, .int .i64 0], ?_, by rw [hN.out.1, hN.out.2], ((hB0.trans (hB1.mono hB0.size)).setCell (p := ⟨w.heap.size, 0, none⟩) (by simp) _).setCell (p := ⟨w.heap.size + 1, 0, none⟩) (by simp) _⟩
    simp [results, Try.f34, go_sem, g0, g1]
  | true =>
    have hE : chkI ts = 0 := chk_yes hc
    have HC : Hid (okB ts = true) := hc
    have hN : Hid (cntN p ts = ((ts.filter p).length : Int) ∧ cntB p ts = sizeL (ts.filter p)) := by unfold Hid cntN cntB; rw [hc]; exact ⟨rfl, rfl⟩
    rw [hE] at cC
    clear hE hc
    gi_wp2_with fail
    refine ⟨trivial, ?_⟩
    gi_at_call 12
    refine (callsIn_wide.2 cC).mono ?_
    rintro e w1 ⟨rfl, hB1⟩
    gi_wp2_with fail
    refine ⟨trivial, ?_⟩
    gi_at_call 44
    refine (those_in Fence.wide _ trivial rfl _ _ _ _ _ _).mono ?_
    rintro e w2 ⟨rfl, rfl⟩
    gi_wp2_with fail
    have hs1 : w.heap.size + 2 ≤ w1.heap.size := by have := hB1.size; simp at this; omega
    have d0 := ((boxed_bel b0 hB1 (by simp; omega)).alloc (.cells #[.slice A ts.length cap] 22)).alloc (.cells #[.func (.func g) #[] #[]] 57)
    have d1 := ((boxed_bel b1 hB1 (by simp)).alloc (.cells #[.slice A ts.length cap] 22)).alloc (.cells #[.func (.func g) #[] #[]] 57)
    have dS := (Boxed.new w1 22 (.slice A ts.length cap)).alloc (.cells #[.func (.func g) #[] #[]] 57)
    have dT := Boxed.new (w1.alloc (.cells #[.slice A ts.length cap] 22)) 57 (.func (.func g) #[] #[])
    simp only [World.size_alloc] at dT
    have hB2 : Below w.heap.size w ((w1.alloc (.cells #[.slice A ts.length cap] 22)).alloc (.cells #[.func (.func g) #[] #[]] 57)) := below_more (below_more (hB0.trans (hB1.mono hB0.size)) _) _
    have hsz : ((w1.alloc (.cells #[.slice A ts.length cap] 22)).alloc (.cells #[.func (.func g) #[] #[]] 57)).heap.size = w1.heap.size + 2 := by simp
    obtain ⟨W0, hW0⟩ : ∃ W0, (w1.alloc (.cells #[.slice A ts.length cap] 22)).alloc (.cells #[.func (.func g) #[] #[]] 57) = W0 := ⟨_, rfl⟩
    rw [hW0] at d0 d1 dS dT hB2 hsz ⊢
    have hRn : ∀ k, readsA A ts.length (w1.heap.size + 1) k → k < w.heap.size ∨ k = w1.heap.size + 1 := fun k hk => reads_lt hT hk
    clear hW0 hB1 cC b0 b1 hB0
    refine wpIn_deep (F := Fence.wide) (n := 6) rfl (by omega) (gf := 54) (lb := #[.pointer (some ⟨w1.heap.size, 0, none⟩), .pointer (some ⟨w1.heap.size + 1, 0, none⟩)]) rfl trivial (enters_of Try.func54 (by kernel_rfl) rfl)
      (those_deep 5 g #[] p w1.heap.size (w1.heap.size + 1) cap A ts W0 (readsA A ts.length (w1.heap.size + 1)) (fun k hk => by have := hRn k hk; omega) (hT.later hB2) (fun b o e h0 => .inl ⟨o, e, h0⟩) (.inr rfl) dS.cell dT.cell eg (fun x W _ _ => by simpa using ht x W))
      (Below.refl _ _) (fun _ => rfl) (fun k hk => by have := hRn k hk; omega)
      (fun pre Z V => Boxed V w.heap.size 3 (.int .i64 (pre.length : Nat)) ∧ Boxed V (w.heap.size + 1) 3 (.int .i64 (sizeL (pre.map (·.2)))) ∧ Below w.heap.size w V)
      (fun c pre Z V => False)
      ?hI (fun _ _ _ _ _ h _ => h) ⟨d0, d1, hB2⟩ ?round ?done ?stop
    case hI =>
      rintro pre Z X Y ⟨h1, h2, h5⟩ hA
      exact ⟨boxed_apart h1 hA (.inl (by omega)), boxed_apart h2 hA (.inl (by omega)), below_apart h5 (Nat.le_refl _) (by omega) hA⟩
    case round =>
      rintro l pre q Z W1 hl hll hz ⟨bO1, bP1, hB1⟩ hG
      have HZ : Hid (∀ k, Z k → W0.heap.size ≤ k ∧ k < W1.heap.size ∧ k ≠ l) := hz
      obtain ⟨h1, h2, h3, h4⟩ := pre_out HC.out hG
      have hq := okR_out (h4 q (by simp)).1
      have HSN : Hid (sizeL ((pre ++ [q]).map (·.2)) = sizeL (pre.map (·.2)) + (q.2.t - q.2.f) ∧ (pre ++ [q]).length = pre.length + 1) := by
        unfold Hid; rw [List.map_append, List.map_cons, List.map_nil, sizeL_snoc]; simp
      rw [HSN.out.1] at h1 h2
      rw [HSN.out.2] at h3
      have hpre : pre <+: sel p 0 ts := (List.prefix_append pre [q]).trans hG
      obtain ⟨g1, g2, _, _⟩ := pre_out HC.out hpre
      obtain ⟨sp, hsp⟩ : ∃ sp, sizeL (pre.map (·.2)) = sp := ⟨_, rfl⟩
      obtain ⟨np, hnp⟩ : ∃ np, pre.length = np := ⟨_, rfl⟩
      rw [hsp] at h1 h2 g1 g2 bP1 HSN
      rw [hnp] at h3 bO1 HSN
      obtain ⟨qi, x⟩ := q
      simp only at h1 h2 hq HSN
      obtain ⟨hx1, hx2, hx3, _⟩ := hq
      clear hz hG h4 hsp hnp d0 d1 dS dT hB2 hpre
      unfold RoundOwes
      gi_wp2
      refine ⟨Mine.alloc (fun k hk => (HZ.out k hk).2.1) _, ?_⟩
      intro W2 hg2 hr2
      have bX := (Box.new W1 28 (rv x)).kept hg2 (fun e => by cases e; omega)
      have bO2 := (bO1.alloc (.cells #[.int .i64 x.f, .int .i64 x.t, .bool x.fin, .int .i64 x.sent, .int .i64 x.tx, .bool x.sk, .bool x.lo, .bool x.ag, .int .i64 x.gv, .int .i64 x.ga, .int .i64 x.fa, .bool x.idl] 28)).kept hg2 (fun e => by cases e; omega)
      have bP2 := (bP1.alloc (.cells #[.int .i64 x.f, .int .i64 x.t, .bool x.fin, .int .i64 x.sent, .int .i64 x.tx, .bool x.sk, .bool x.lo, .bool x.ag, .int .i64 x.gv, .int .i64 x.ga, .int .i64 x.fa, .bool x.idl] 28)).kept hg2 (fun e => by cases e; omega)
      have hB2 : Hid (Below w.heap.size w W2) := below_grown (hB1.alloc (Nat.le_trans (Nat.le_refl _) hB1.size) _) (Nat.le_refl _) hg2 (fun k e => by cases e; omega)
      have HZ2 : Hid (∀ k, Z k → k < W2.heap.size) := fun k hk => by have h1 := (HZ.out k hk).2.1; have h2 := hg2.size; simp at h2; omega
      have HX : Hid (Box W2 W1.heap.size 28 (rv x)) := bX
      have hlt1 : w.heap.size + 2 ≤ W1.heap.size := by omega
      have cO := bO2.cell
      have fO := bO2.frozen
      have cP := (boxed_other bP2 (show w.heap.size + 1 ≠ w.heap.size by omega) 0 (.int .i64 ((np : Int) + 1))).cell
      have fP := (boxed_other bP2 (show w.heap.size + 1 ≠ w.heap.size by omega) 0 (.int .i64 ((np : Int) + 1))).frozen
      have y0 := (bX.aside w.heap.size 0 (.int .i64 ((np : Int) + 1)) (by omega)).rc.1
      have y1 := (bX.aside w.heap.size 0 (.int .i64 ((np : Int) + 1)) (by omega)).rc.2.1
      have HOP : Hid (Boxed W2 w.heap.size 3 (.int .i64 (np : Int)) ∧ Boxed W2 (w.heap.size + 1) 3 (.int .i64 sp)) := ⟨bO2, bP2⟩
      clear bX bO1 bP1 hB1 hg2 hr2 bO2 bP2 HX
      gi_wp2
      refine ⟨Z, Mine.trans (mine_set HZ2.out 0 _ (by omega) (fun h => by have := hRn _ h; omega)) (mine_set (fun k hk => by rw [size_set]; exact HZ2.out k hk) 0 _ (by omega) (fun h => by have := hRn _ h; omega)), ?_, ?_, ?_⟩
      · rw [HSN.out.2]
        exact boxed_other (by simpa using HOP.out.1.set (.int .i64 ((np : Int) + 1))) (by omega) _ _
      · rw [HSN.out.1]
        exact (boxed_other HOP.out.2 (by omega) _ _).set _
      · exact (hB2.out.setCell (p := ⟨w.heap.size, 0, none⟩) (by simp) _).setCell (p := ⟨w.heap.size + 1, 0, none⟩) (by simp) _
    case done =>
      rintro D ys Z W hD hz rfl ⟨bO1, bP1, hB1⟩ hK
      have hmap : Hid (((sel p 0 ts).length : Int) = ((ts.filter p).length : Int) ∧ sizeL ((sel p 0 ts).map (·.2)) = sizeL (ts.filter p)) := by
        unfold Hid
        rw [← sel_map p ts 0]; simp
      rw [hmap.out.1] at bO1
      rw [hmap.out.2] at bP1
      obtain ⟨sp, hsp⟩ : ∃ sp, sizeL (ts.filter p) = sp := ⟨_, rfl⟩
      obtain ⟨np, hnp⟩ : ∃ np : Int, ((ts.filter p).length : Int) = np := ⟨_, rfl⟩
      rw [hsp] at bP1 hN
      rw [hnp] at bO1 hN
      have cO := bO1.cell
      have fO := bO1.frozen
      have cP := bP1.cell
      have fP := bP1.frozen
      clear d0 d1 dS dT hB2 hsp hnp
      gi_wp2_with fail
      gi_region
      gi_wp2_with fail
      have hK1 := (KeepsOthers.setCell W ⟨w.heap.size, 0, none⟩ (.int .i64 np)).same D _ hK rfl
      have hK2 := (KeepsOthers.setCell _ ⟨w.heap.size + 1, 0, none⟩ (.int .i64 sp)).same D _ hK1 rfl
      have m0 : Boxed ((W.setCell ⟨w.heap.size, 0, none⟩ (.int .i64 np)).setCell ⟨w.heap.size + 1, 0, none⟩ (.int .i64 sp)) w.heap.size 3 (.int .i64 np) := boxed_other (bO1.set _) (by omega) _ _
      have m1 : Boxed ((W.setCell ⟨w.heap.size, 0, none⟩ (.int .i64 np)).setCell ⟨w.heap.size + 1, 0, none⟩ (.int .i64 sp)) (w.heap.size + 1) 3 (.int .i64 sp) := (boxed_other bP1 (by omega) _ _).set _
      have hB3 : Below w.heap.size w ((W.setCell ⟨w.heap.size, 0, none⟩ (.int .i64 np)).setCell ⟨w.heap.size + 1, 0, none⟩ (.int .i64 sp)) := (hB1.setCell (p := ⟨w.heap.size, 0, none⟩) (by simp) _).setCell (p := ⟨w.heap.size + 1, 0, none⟩) (by simp) _
      obtain ⟨V, hV⟩ : ∃ V, (W.setCell ⟨w.heap.size, 0, none⟩ (.int .i64 np)).setCell ⟨w.heap.size + 1, 0, none⟩ (.int .i64 sp) = V := ⟨_, rfl⟩
      rw [hV] at hK2 m0 m1 hB3 ⊢
      have hK3 : V.drew.heap[D]? = some (.deferred (some [])) := hK2
      have m2 : Boxed V.drew w.heap.size 3 (.int .i64 np) := m0
      have m3 : Boxed V.drew (w.heap.size + 1) 3 (.int .i64 sp) := m1
      have hB4 : Below w.heap.size w V.drew := hB3.drew
      refine ⟨by simp, .inl ⟨_, _, rfl, run_takeDeferred hK3, ?_⟩⟩
      have hc4 := (boxed_put m2 (.deferred none) hK3 rfl).cell
      have hc5 := (boxed_put m3 (.deferred none) hK3 rfl).cell
      refine ⟨.tuple #[.int .i64 np, .int .i64 sp], ?_, by rw [hN.out.1, hN.out.2], hB4.trans (belowK_b (w := w) (Nat.le_refl _) _ D _ _ (by omega) hK3 rfl rfl)⟩
      simp [results, Try.f34, go_sem, hc4, hc5]
    case stop =>
      rintro D c pre Z W hD hz hpre h hK
      exact h.elim

set_option maxRecDepth 100000 in
set_option maxHeartbeats 4000000 in
theorem pipe_any (A : Option Addr) (cap : Nat) (ts : List Rc) (w : World) (hT : RecsAt w A ts) :
    Calls Try.prog 11 #[.slice A ts.length cap] w fun e W' => e = .returned (.int .i64 (cntB pipeB ts)) ∧ Below w.heap.size w W' := by
  have c := count_any 35 pipeB A cap ts w hT (enters_of Try.func35 (by kernel_rfl) rfl) (fun x W => (pipe1_any x W).mono fun e W' ⟨he, hw⟩ => ⟨he, by rw [hw]; exact below_new _ _⟩)
  go_enter Try.func11, Try.ntmps11
  go_wp2_with fail
  refine c.mono ?_
  rintro e w1 ⟨rfl, hB1⟩
  go_wp2_with fail
  go_ret
  exact ⟨rfl, hB1⟩
set_option maxRecDepth 100000 in
set_option maxHeartbeats 4000000 in
theorem sacked_any (A : Option Addr) (cap : Nat) (ts : List Rc) (w : World) (hT : RecsAt w A ts) :
    Calls Try.prog 30 #[.slice A ts.length cap] w fun e W' => e = .returned (.int .i64 (cntN sackB ts)) ∧ Below w.heap.size w W' := by
  have c := count_any 46 sackB A cap ts w hT (enters_of Try.func46 (by kernel_rfl) rfl) (fun x W => (sacked1_any x W).mono fun e W' ⟨he, hw⟩ => ⟨he, by rw [hw]; exact below_new _ _⟩)
  go_enter Try.func30, Try.ntmps30
  go_wp2_with fail
  refine c.mono ?_
  rintro e w1 ⟨rfl, hB1⟩
  go_wp2_with fail
  go_ret
  exact ⟨rfl, hB1⟩
end Go.Proofs.Ytokiklaffbdomaa
