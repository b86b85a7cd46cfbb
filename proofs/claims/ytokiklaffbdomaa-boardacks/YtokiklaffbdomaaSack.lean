/- The contract of Sack. -/
import Derived.Test.YtokiklaffbdomaaSackP
import Derived.Test.YtokiklaffbdomaaFar
import Derived.Test.YtokiklaffbdomaaRnd
namespace Go.Proofs.Ytokiklaffbdomaa
open Go.ChangeShapes Go.WideShapes Go.ChangeAt Go.RowKit Go.Shelf
set_option linter.unusedVariables false
attribute [local go_sem] Oper.semAt_some

open Sp (Tm)
/-- The blocks that Sack's iterator reads. -/
def readsS (A : Option Addr) (n Bt Br : Nat) (va : Option Addr) (m k : Nat) : Prop := (∃ o, A = some ⟨k, o, none⟩ ∧ 0 < n) ∨ k = Bt ∨ k = Br ∨ (∃ o, va = some ⟨k, o, none⟩ ∧ 0 < m)
set_option maxRecDepth 100000 in
set_option maxHeartbeats 4000000 in
theorem sack_no (A : Option Addr) (cap : Nat) (ts : List Rc) (C : Option Addr) (cd : Nat) (sp : List Tm) (w : World) (hT : RecsAt w A ts) (hc : okB ts = false) :
    Calls Try.prog 23 #[.slice A ts.length cap, .slice C sp.length cd] w fun e W' => SackSays ts sp w e W' := by
  have HS : Hid (sackL ts sp = [] ∧ freshL ts sp = [] ∧ chkI ts = 100) := by unfold Hid sackL freshL chkI; rw [hc]; exact ⟨rfl, rfl, rfl⟩
  have c1 := check_no A cap ts _ hT hc
  clear hc hT
  go_enter Try.func23, Try.ntmps23
  go_wp2_with fail
  refine c1.mono ?_
  rintro e w1 ⟨rfl, hB1⟩
  go_wp2_with fail
  go_ret3
  unfold SackSays
  rw [HS.out.1, HS.out.2.1, HS.out.2.2]
  exact ⟨none, 0, none, 0, rfl, RowR.nil _ _, RowR.nil _ _, hB1⟩
set_option maxRecDepth 100000 in
set_option maxHeartbeats 4000000 in
theorem sack_yes (A : Option Addr) (cap : Nat) (ts : List Rc) (C : Option Addr) (cd : Nat) (sp : List Tm) (w : World) (hT : RecsAt w A ts) (hA : A = none → cap = 0) (hS : Sp.TimsAt w C sp) (hC : C = none → cd = 0) (hb : sp.length * 16 ≤ 140737488355328) (hc : okB ts = true) :
    Calls Try.prog 23 #[.slice A ts.length cap, .slice C sp.length cd] w fun e W' => SackSays ts sp w e W' := by
  have HS : Hid (sackL ts sp = ts.map (sackF sp) ∧ freshL ts sp = ts.filter (freshB sp) ∧ chkI ts = 0) := by unfold Hid sackL freshL chkI; rw [hc]; exact ⟨rfl, rfl, rfl⟩
  have hlen := (okB_iff.1 hc).1
  have c1 := check_ok A cap ts _ hT hc
  have HT : Hid (RecsAt w A ts ∧ (A = none → cap = 0) ∧ Sp.TimsAt w C sp ∧ (C = none → cd = 0) ∧ sp.length * 16 ≤ 140737488355328) := ⟨hT, hA, hS, hC, hb⟩
  clear hc hT hA hS hC
  refine (callsIn_wide (n := 6)).1 ?_
  refine callsIn_of_wp_marks Try.func23 rfl trivial ?_ rfl
  simp only [Try.ntmps23, List.size_toArray, List.length_cons, List.length_nil, Nat.reduceAdd, Nat.reduceSub, Array.replicate_succ, Array.replicate_zero, List.push_toArray, List.append_toArray, List.nil_append, List.cons_append]
  gi_wp2_with fail
  refine ⟨trivial, ?_⟩
  gi_at_call 12
  refine (callsIn_wide.2 c1).mono ?_
  rintro e w1 ⟨rfl, hB1⟩
  have c2 := far_any C cd sp w1 (HT.out.2.2.1.later hB1) HT.out.2.2.2.1 hb
  clear c1
  gi_wp2_with fail
  refine ⟨trivial, ?_⟩
  gi_at_call 41
  refine (callsIn_wide.2 c2).mono ?_
  rintro e w2 ⟨va, vc, rs, rfl, hR2, hRe, hB2⟩
  have hB2' := Below.on hB1 hB2
  have hB3 : RowKit.Below w.heap.size w (w2.alloc (.cells #[.slice va sp.length vc] 41)) := below_more hB2' _
  have c3 := clone_any A cap ts (w2.alloc (.cells #[.slice va sp.length vc] 41)) (HT.out.1.later hB3) HT.out.2.1 (by omega)
  clear c2
  gi_wp2_with fail
  refine ⟨trivial, ?_⟩
  gi_at_call 33
  refine (callsIn_wide.2 c3).mono ?_
  rintro e w3 ⟨vr, vrc, rfl, hR3, hB4⟩
  rw [World.size_alloc] at hR3
  clear c3
  gi_wp2_with fail
  refine ⟨trivial, ?_⟩
  gi_at_call 44
  refine (those_in Fence.wide _ trivial rfl _ _ _ _ _ _).mono ?_
  rintro e w4 ⟨rfl, rfl⟩
  gi_wp2_with fail
  have hs2 : w.heap.size ≤ w2.heap.size := hB2'.size
  have hs3 : w2.heap.size + 1 ≤ w3.heap.size := by have := hB4.size; simpa using this
  have HW0 : ∃ W0, ((w3.alloc (.cells #[.slice vr ts.length vrc] 22)).alloc (.cells #[.slice A ts.length cap] 22)).alloc (.cells #[.func (.func 42) #[] #[.pointer (some ⟨w2.heap.size, 0, none⟩)]] 57) = W0 ∧
      RowKit.Below w.heap.size w W0 ∧ W0.heap.size = w3.heap.size + 3 ∧ Boxed W0 w3.heap.size 22 (.slice vr ts.length vrc) ∧ Boxed W0 (w3.heap.size + 1) 22 (.slice A ts.length cap) ∧ Boxed W0 (w3.heap.size + 1 + 1) 57 (.func (.func 42) #[] #[.pointer (some ⟨w2.heap.size, 0, none⟩)]) ∧
      RowR W0 (w2.heap.size + 1) vr ts.length vrc ts ∧ Boxed W0 w2.heap.size 41 (.slice va sp.length vc) ∧ Sp.TimsAt W0 va rs := by
    refine ⟨_, rfl, below_more (below_more (below_more (Below.on hB3 hB4) _) _) _, by simp, ((Boxed.new w3 22 _).alloc _).alloc _, ?_, ?_, ((hR3.alloc _).alloc _).alloc _, (((boxed_bel (Boxed.new w2 41 _) hB4 (by simp)).alloc _).alloc _).alloc _, ?_⟩
    · have := (Boxed.new (w3.alloc (.cells #[.slice vr ts.length vrc] 22)) 22 (.slice A ts.length cap)).alloc (.cells #[.func (.func 42) #[] #[.pointer (some ⟨w2.heap.size, 0, none⟩)]] 57)
      simpa only [World.size_alloc] using this
    · have := Boxed.new ((w3.alloc (.cells #[.slice vr ts.length vrc] 22)).alloc (.cells #[.slice A ts.length cap] 22)) 57 (.func (.func 42) #[] #[.pointer (some ⟨w2.heap.size, 0, none⟩)])
      simpa only [World.size_alloc] using this
    · exact ((((hR2.alloc _).later hB4).alloc _).alloc _).alloc _
  obtain ⟨W0, hW0, hBW, hsz, dQ, dS, dT, dR, dE, dV⟩ := HW0
  rw [hW0]
  have hvb : ∀ b o, va = some ⟨b, o, none⟩ → 0 < rs.length → b < w2.heap.size := fun b o e h0 => tims_lt hR2 e h0
  have hRn : ∀ k, readsS A ts.length (w3.heap.size + 1 + 1) w2.heap.size va rs.length k → k < w2.heap.size + 1 ∨ k = w3.heap.size + 1 + 1 := fun k hk => by
    rcases hk with ⟨o, e, h0⟩ | h | h | ⟨o, e, h0⟩
    · have := reads_lt HT.out.1 (k := k) (Bt := k + 1) (.inl ⟨o, e, h0⟩); omega
    · exact .inr h
    · omega
    · have := hvb k o e h0; omega
  have hrl : rs.length = sp.length := hRe.len
  clear hW0 hB1 hB2 hB2' hB3 hB4 hR3 hR2
  have HRE : Hid (Reach rs sp ∧ rs.length ≤ 4611686018427387903 ∧ rs.length = sp.length) := ⟨hRe, by omega, hrl⟩
  refine wpIn_deep (F := Fence.wide) (n := 6) rfl (by omega) (gf := 54) (lb := #[.pointer (some ⟨w3.heap.size + 1, 0, none⟩), .pointer (some ⟨w3.heap.size + 1 + 1, 0, none⟩)]) rfl trivial (enters_of Try.func54 (by kernel_rfl) rfl)
    (those_deep 5 42 #[.pointer (some ⟨w2.heap.size, 0, none⟩)] (freshB sp) (w3.heap.size + 1) (w3.heap.size + 1 + 1) cap A ts W0 (readsS A ts.length (w3.heap.size + 1 + 1) w2.heap.size va rs.length) (fun k hk => by have := hRn k hk; omega) (HT.out.1.later hBW) (fun b o e h0 => .inl ⟨o, e, h0⟩) (.inr (.inl rfl)) dS.cell dT.cell (enters_of Try.func42 (by kernel_rfl) rfl)
      (fun x W _ hk => fresh_any w2.heap.size sp.length vc va rs sp x W (tims_same dV (fun b o e h0 => hk b (.inr (.inr (.inr ⟨o, e, h0⟩))))) HRE.out.1 HRE.out.2.1 HRE.out.2.2 ((World.cell?_of_block (w := W0) (a := ⟨w2.heap.size, 0, none⟩) (hk w2.heap.size (.inr (.inr (.inl rfl))))).trans dE.cell)))
    (Below.refl _ _) (fun _ => rfl) (fun k hk => by have := hRn k hk; omega)
    (fun pre Z V => Boxed V w3.heap.size 22 (.slice vr ts.length vrc) ∧ RowR V (w2.heap.size + 1) vr ts.length vrc (mark pre ts) ∧ Boxed V w2.heap.size 41 (.slice va sp.length vc) ∧ Sp.TimsAt V va rs ∧ RowKit.Below w.heap.size w V)
    (fun c pre Z V => False)
    ?hI (fun _ _ _ _ _ h _ => h) ⟨dQ, dR, dE, dV, hBW⟩ ?round ?done ?stop
  case hI =>
    rintro pre Z X Y ⟨h1, h2, h3, h4, h5⟩ hA
    have hg : ∀ g, vr = some ⟨g, 0, none⟩ → g < W0.heap.size ∧ g < X.heap.size := fun g e => ⟨(dR.ge (k := g) e).2, (h2.ge (k := g) e).2⟩
    refine ⟨boxed_apart h1 hA (.inl (by omega)), h2.of_block (fun g e => hA.same g (hg g e).2 (.inl (hg g e).1)), boxed_apart h3 hA (.inl (by omega)), tims_same h4 (fun b o e h0 => hA.same b (tims_lt h4 e h0) (.inl (by have := hvb b o e h0; omega))), below_apart h5 (Nat.le_refl _) (by omega) hA⟩
  case round =>
    rintro l pre q Z W1 hl hll hz ⟨bQ1, hR1, bE1, hV1, hB1⟩ hG
    have HZ : Hid (∀ k, Z k → W0.heap.size ≤ k ∧ k < W1.heap.size ∧ k ≠ l) := hz
    obtain ⟨i, x⟩ := q
    have hi := (sel_mem (hG.subset (List.mem_append_right pre List.mem_cons_self))).2
    simp only [Nat.zero_add] at hi
    have HM : Hid (mark (pre ++ [(i, x)]) ts = (mark pre ts).set i (sackR (nth (mark pre ts) i))) := mark_snoc _ _ _
    have hml := mark_len pre ts
    have hmx : ts.length ≤ 65536 := hlen
    obtain ⟨g, rfl, hg1, _⟩ := row_some hR1 (by omega)
    have hg2 := (dR.ge (k := g) rfl)
    have hgW : g < w3.heap.size ∨ True := .inr trivial
    have hRg : ¬ readsS A ts.length (w3.heap.size + 1 + 1) w2.heap.size va rs.length g := fun h => by
      have h1 := hRn g h
      have h2 := hg2.1
      rcases h1 with h1 | h1
      · omega
      · subst h1
        have h3 : Boxed W0 (w3.heap.size + 1 + 1) 57 _ := dT
        have h4 := row_cells dR i hi 0 _ rfl
        obtain ⟨_, cur, e, _, hh, _⟩ := row_at dR (by omega)
        cases e
        rw [show W0.heap[w3.heap.size + 1 + 1]? = _ from h3] at hh
        cases hh
    have hgQ : g ≠ w3.heap.size := fun e => by
      subst e
      obtain ⟨_, cur, e, _, hh, _⟩ := row_at dR (by omega)
      cases e
      rw [show W0.heap[w3.heap.size]? = _ from dQ] at hh
      cases hh
    obtain ⟨z, hzz⟩ : ∃ z, nth (mark pre ts) i = z := ⟨_, rfl⟩
    rw [hzz] at HM
    have HRR : Hid (RowR W1 (w2.heap.size + 1) (some ⟨g, 0, none⟩) ts.length vrc (mark pre ts) ∧ nth (mark pre ts) i = z) := ⟨hR1, hzz⟩
    have hgb : g < W0.heap.size := hg2.2
    have hg0 : w2.heap.size + 1 ≤ g := hg2.1
    clear hz hG dQ dS dT dE dV hBW hmx hR1 hzz dR hg1 hg2
    unfold RoundOwes
    gi_wp2
    refine ⟨Mine.refl (fun k hk => (HZ.out k hk).2.1), ?_⟩
    intro W2 hg2' hr2
    have bQ2 := bQ1.kept hg2' (fun e => by cases e; omega)
    have bE2 := bE1.kept hg2' (fun e => by cases e; omega)
    have r0 : RowR W2 (w2.heap.size + 1) (some ⟨g, 0, none⟩) ts.length vrc (mark pre ts) := HRR.out.1.of_block (fun g' e => by cases e; exact hg2'.block g (HRR.out.1.ge (k := g) rfl).2 (fun e => by cases e; omega))
    have hV2 : Sp.TimsAt W2 va rs := tims_same hV1 (fun b o e h0 => hg2'.block b (tims_lt hV1 e h0) (fun e' => by have := hvb b o e h0; cases e'; omega))
    have hB2 : RowKit.Below w.heap.size w W2 := below_grown hB1 (Nat.le_refl _) hg2' (fun k e => by cases e; omega)
    have HZ2 : Hid (∀ k, Z k → k < W2.heap.size) := fun k hk => by have h1 := (HZ.out k hk).2.1; have h2 := hg2'.size; omega
    obtain ⟨V, hV⟩ : ∃ V, W2.drew = V := ⟨_, rfl⟩
    have bQ3 : Boxed V w3.heap.size 22 (.slice (some ⟨g, 0, none⟩) ts.length vrc) := by rw [← hV]; exact bQ2
    have bE3 : Boxed V w2.heap.size 41 (.slice va sp.length vc) := by rw [← hV]; exact bE2
    have r0V : RowR V (w2.heap.size + 1) (some ⟨g, 0, none⟩) ts.length vrc (mark pre ts) := by rw [← hV]; exact r0
    have hV3 : Sp.TimsAt V va rs := by rw [← hV]; exact hV2
    have hB3 : RowKit.Below w.heap.size w V := by rw [← hV]; exact hB2.drew
    have HZ3 : Hid (∀ k, Z k → k < V.heap.size) := by rw [← hV]; exact HZ2.out
    have HM3 : Hid (Mine W0.heap.size (readsS A ts.length (w3.heap.size + 1 + 1) w2.heap.size va rs.length) Z W2 Z V) := by
      rw [← hV]; exact ⟨⟨rfl, rfl, rfl, Nat.le_refl _, fun _ _ => rfl⟩, fun _ h => .inl h, HZ2.out, fun _ _ _ _ => rfl⟩
    have r1 := row_set r0V i 5 hi (by omega) (.bool true) ⟨z.f, z.t, z.fin, z.sent, z.tx, true, z.lo, z.ag, z.gv, z.ga, z.fa, z.idl⟩ (by rw [HRR.out.2]; rfl)
    have r2 := row_set r1 i 6 hi (by omega) (.bool false) ⟨z.f, z.t, z.fin, z.sent, z.tx, true, false, z.ag, z.gv, z.ga, z.fa, z.idl⟩ (by rw [nth_set_self (by omega)]; rfl)
    have r3 := row_set r2 i 7 hi (by omega) (.bool false) (sackR z) (by rw [nth_set_self (by simp; omega)]; rfl)
    have k5 := (row_cells r0V i hi).out.2.2.2.2.2.1
    have k6 := (row_cells r1 i hi).out.2.2.2.2.2.2.1
    have k7 := (row_cells r2 i hi).out.2.2.2.2.2.2.2.1
    have f1 := row_frozen r0V (i * 12 + 5)
    have f2 := row_frozen r1 (i * 12 + 6)
    have f3 := row_frozen r2 (i * 12 + 7)
    have q1 : Boxed (V.setCell ⟨g, i * 12 + 5, none⟩ (.bool true)) w3.heap.size 22 (.slice (some ⟨g, 0, none⟩) ts.length vrc) := boxed_other bQ3 (fun e => hgQ e.symm) _ _
    have q2 : Boxed ((V.setCell ⟨g, i * 12 + 5, none⟩ (.bool true)).setCell ⟨g, i * 12 + 6, none⟩ (.bool false)) w3.heap.size 22 (.slice (some ⟨g, 0, none⟩) ts.length vrc) := boxed_other q1 (fun e => hgQ e.symm) _ _
    have HF : Hid (Boxed (((V.setCell ⟨g, i * 12 + 5, none⟩ (.bool true)).setCell ⟨g, i * 12 + 6, none⟩ (.bool false)).setCell ⟨g, i * 12 + 7, none⟩ (.bool false)) w3.heap.size 22 (.slice (some ⟨g, 0, none⟩) ts.length vrc) ∧
        RowR (((V.setCell ⟨g, i * 12 + 5, none⟩ (.bool true)).setCell ⟨g, i * 12 + 6, none⟩ (.bool false)).setCell ⟨g, i * 12 + 7, none⟩ (.bool false)) (w2.heap.size + 1) (some ⟨g, 0, none⟩) ts.length vrc (mark (pre ++ [(i, x)]) ts) ∧
        Boxed (((V.setCell ⟨g, i * 12 + 5, none⟩ (.bool true)).setCell ⟨g, i * 12 + 6, none⟩ (.bool false)).setCell ⟨g, i * 12 + 7, none⟩ (.bool false)) w2.heap.size 41 (.slice va sp.length vc) ∧
        Sp.TimsAt (((V.setCell ⟨g, i * 12 + 5, none⟩ (.bool true)).setCell ⟨g, i * 12 + 6, none⟩ (.bool false)).setCell ⟨g, i * 12 + 7, none⟩ (.bool false)) va rs ∧
        RowKit.Below w.heap.size w (((V.setCell ⟨g, i * 12 + 5, none⟩ (.bool true)).setCell ⟨g, i * 12 + 6, none⟩ (.bool false)).setCell ⟨g, i * 12 + 7, none⟩ (.bool false)) ∧
        Mine W0.heap.size (readsS A ts.length (w3.heap.size + 1 + 1) w2.heap.size va rs.length) Z W2 Z (((V.setCell ⟨g, i * 12 + 5, none⟩ (.bool true)).setCell ⟨g, i * 12 + 6, none⟩ (.bool false)).setCell ⟨g, i * 12 + 7, none⟩ (.bool false))) := by
      refine ⟨boxed_other q2 (fun e => hgQ e.symm) _ _, ?_, boxed_other (boxed_other (boxed_other bE3 (by omega) _ _) (by omega) _ _) (by omega) _ _, ?_, below_set (below_set (below_set hB3 (by omega) _ _) (by omega) _ _) (by omega) _ _, ?_⟩
      · rw [HM.out]
        rw [List.set_set, List.set_set] at r3
        exact r3
      · refine tims_same hV3 (fun b o e h0 => ?_)
        have := hvb b o e h0
        rw [Below.heap_setCell _ _ _ b (by show b ≠ g; omega), Below.heap_setCell _ _ _ b (by show b ≠ g; omega), Below.heap_setCell _ _ _ b (by show b ≠ g; omega)]
      · exact Mine.trans HM3.out (Mine.trans (mine_set HZ3.out _ _ hgb hRg) (Mine.trans (mine_set (fun k hk => by rw [size_set]; exact HZ3.out k hk) _ _ hgb hRg) (mine_set (fun k hk => by rw [size_set, size_set]; exact HZ3.out k hk) _ _ hgb hRg)))
    obtain ⟨S, hS⟩ : ∃ S : World → Prop, S = fun W => W.cell? ⟨w3.heap.size, 0, none⟩ = some (.slice (some ⟨g, 0, none⟩) ts.length vrc) := ⟨_, rfl⟩
    have hS0 : S W2.drew := by rw [hS]; exact bQ2.cell
    have hS1 : S (V.setCell ⟨g, i * 12 + 5, none⟩ (.bool true)) := by rw [hS]; exact q1.cell
    have hS2 : S ((V.setCell ⟨g, i * 12 + 5, none⟩ (.bool true)).setCell ⟨g, i * 12 + 6, none⟩ (.bool false)) := by rw [hS]; exact q2.cell
    clear r0 r0V r1 r2 r3 bQ1 bE1 hV1 hB1 hg2' hr2 bE2 hV2 hB2 bQ2 bQ3 bE3 hV3 hB3 HRR HM HZ HZ2 HZ3 HM3 q1 q2
    gi_wp2_with fail
    have y0 : ∀ {ps : String} (ev : Operand → Value), ev (.tmp 10) = .pointer (some ⟨w3.heap.size, 0, none⟩) → ∀ W, S W → (execOp ev { dst := some 29, op := Go.Op.load 22 (Go.Operand.tmp 10), type := 22, pos := ps, after := #[], guard := none }).run Try.prog W = .ok (.value (.slice (some ⟨g, 0, none⟩) ts.length vrc)) W := by
      intro ps ev h0 W hSw
      rw [hS] at hSw
      try dsimp only at hSw
      first | (go_simp; done) | (go_simp; with_reducible rfl)
    have y1 : ∀ {ps : String} (ev : Operand → Value), ev (.tmp 11) = .int .i64 (i : Int) → ∀ W, S W → (execOp ev { dst := some 30, op := Go.Op.move (Go.Operand.tmp 11), type := 3, pos := ps, after := #[], guard := none }).run Try.prog W = .ok (.value (.int .i64 (i : Int))) W := by
      intro ps ev h0 W hSw
      rw [hS] at hSw
      try dsimp only at hSw
      first | (go_simp; done) | (go_simp; with_reducible rfl)
    have y2 : ∀ {ps : String} (ev : Operand → Value), ev (.tmp 10) = .pointer (some ⟨w3.heap.size, 0, none⟩) → ∀ W, S W → (execOp ev { dst := some 31, op := Go.Op.load 22 (Go.Operand.tmp 10), type := 22, pos := ps, after := #[{ on := 8, ground := Go.Ground.gcOnly Go.Departure.lateStores }], guard := none }).run Try.prog W = .ok (.value (.slice (some ⟨g, 0, none⟩) ts.length vrc)) W := by
      intro ps ev h0 W hSw
      rw [hS] at hSw
      try dsimp only at hSw
      first | (go_simp; done) | (go_simp; with_reducible rfl)
    have y3 : ∀ {ps : String} (ev : Operand → Value), ev (.tmp 11) = .int .i64 (i : Int) → ∀ W, S W → (execOp ev { dst := some 32, op := Go.Op.move (Go.Operand.tmp 11), type := 3, pos := ps, after := #[{ on := 8, ground := Go.Ground.gcOnly Go.Departure.lateStores }], guard := none }).run Try.prog W = .ok (.value (.int .i64 (i : Int))) W := by
      intro ps ev h0 W hSw
      rw [hS] at hSw
      try dsimp only at hSw
      first | (go_simp; done) | (go_simp; with_reducible rfl)
    have y4 : ∀ {ps : String} (ev : Operand → Value), ev (.tmp 10) = .pointer (some ⟨w3.heap.size, 0, none⟩) → ∀ W, S W → (execOp ev { dst := some 33, op := Go.Op.load 22 (Go.Operand.tmp 10), type := 22, pos := ps, after := #[{ on := 11, ground := Go.Ground.gcOnly Go.Departure.lateStores }], guard := none }).run Try.prog W = .ok (.value (.slice (some ⟨g, 0, none⟩) ts.length vrc)) W := by
      intro ps ev h0 W hSw
      rw [hS] at hSw
      try dsimp only at hSw
      first | (go_simp; done) | (go_simp; with_reducible rfl)
    have y5 : ∀ {ps : String} (ev : Operand → Value), ev (.tmp 11) = .int .i64 (i : Int) → ∀ W, S W → (execOp ev { dst := some 34, op := Go.Op.move (Go.Operand.tmp 11), type := 3, pos := ps, after := #[{ on := 11, ground := Go.Ground.gcOnly Go.Departure.lateStores }], guard := none }).run Try.prog W = .ok (.value (.int .i64 (i : Int))) W := by
      intro ps ev h0 W hSw
      rw [hS] at hSw
      try dsimp only at hSw
      first | (go_simp; done) | (go_simp; with_reducible rfl)
    refine wpIn_round_X S 14 (by kernel_rfl) (by kernel_rfl) hS0 (fun hHeld => ?_)
    rw [hV] at hHeld ⊢
    clear hV hS0
    refine wpX_take (i := 0) (oi := { dst := some 29, op := Go.Op.load 22 (Go.Operand.tmp 10), type := 22, pos := _, after := #[], guard := none }) (v := .slice (some ⟨g, 0, none⟩) ts.length vrc) rfl (by kernel_rfl) (by kernel_rfl) (by kernel_rfl) (fun _ _ _ h => h) ⟨_, rfl, { on := 0, ground := Go.Ground.phase }, by simp, by rfl, rfl⟩ (by decide) (Or.inl ⟨by rfl, y0 _ rfl⟩) (by assumption) ?_
    try simp only [Act.put, List.setIfInBounds_toArray, List.set_cons_zero, List.set_cons_succ]
    refine wpX_take (i := 1) (oi := { dst := some 30, op := Go.Op.move (Go.Operand.tmp 11), type := 3, pos := _, after := #[], guard := none }) (v := .int .i64 (i : Int)) rfl (by kernel_rfl) (by kernel_rfl) (by kernel_rfl) (fun _ _ _ h => h) ⟨_, rfl, { on := 1, ground := Go.Ground.phase }, by simp, by rfl, rfl⟩ (by decide) (Or.inl ⟨by rfl, y1 _ rfl⟩) (by assumption) ?_
    try simp only [Act.put, List.setIfInBounds_toArray, List.set_cons_zero, List.set_cons_succ]
    refine wpX_take (i := 2) (oi := { dst := some 31, op := Go.Op.load 22 (Go.Operand.tmp 10), type := 22, pos := _, after := #[{ on := 8, ground := Go.Ground.gcOnly Go.Departure.lateStores }], guard := none }) (v := .slice (some ⟨g, 0, none⟩) ts.length vrc) rfl (by kernel_rfl) (by kernel_rfl) (by kernel_rfl) (fun _ _ _ h => h) ⟨_, rfl, { on := 2, ground := Go.Ground.phase }, by simp, by rfl, rfl⟩ (by decide) (Or.inl ⟨by rfl, y2 _ rfl⟩) (by assumption) ?_
    try simp only [Act.put, List.setIfInBounds_toArray, List.set_cons_zero, List.set_cons_succ]
    refine wpX_take (i := 3) (oi := { dst := some 32, op := Go.Op.move (Go.Operand.tmp 11), type := 3, pos := _, after := #[{ on := 8, ground := Go.Ground.gcOnly Go.Departure.lateStores }], guard := none }) (v := .int .i64 (i : Int)) rfl (by kernel_rfl) (by kernel_rfl) (by kernel_rfl) (fun _ _ _ h => h) ⟨_, rfl, { on := 3, ground := Go.Ground.phase }, by simp, by rfl, rfl⟩ (by decide) (Or.inl ⟨by rfl, y3 _ rfl⟩) (by assumption) ?_
    try simp only [Act.put, List.setIfInBounds_toArray, List.set_cons_zero, List.set_cons_succ]
    refine wpX_take (i := 4) (oi := { dst := some 33, op := Go.Op.load 22 (Go.Operand.tmp 10), type := 22, pos := _, after := #[{ on := 11, ground := Go.Ground.gcOnly Go.Departure.lateStores }], guard := none }) (v := .slice (some ⟨g, 0, none⟩) ts.length vrc) rfl (by kernel_rfl) (by kernel_rfl) (by kernel_rfl) (fun _ _ _ h => h) ⟨_, rfl, { on := 4, ground := Go.Ground.phase }, by simp, by rfl, rfl⟩ (by decide) (Or.inl ⟨by rfl, y4 _ rfl⟩) (by assumption) ?_
    try simp only [Act.put, List.setIfInBounds_toArray, List.set_cons_zero, List.set_cons_succ]
    refine wpX_take (i := 5) (oi := { dst := some 34, op := Go.Op.move (Go.Operand.tmp 11), type := 3, pos := _, after := #[{ on := 11, ground := Go.Ground.gcOnly Go.Departure.lateStores }], guard := none }) (v := .int .i64 (i : Int)) rfl (by kernel_rfl) (by kernel_rfl) (by kernel_rfl) (fun _ _ _ h => h) ⟨_, rfl, { on := 5, ground := Go.Ground.phase }, by simp, by rfl, rfl⟩ (by decide) (Or.inl ⟨by rfl, y5 _ rfl⟩) (by assumption) ?_
    try simp only [Act.put, List.setIfInBounds_toArray, List.set_cons_zero, List.set_cons_succ]
    refine wpX_one (i := 6) (o := { dst := some 35, op := Go.Op.indexAddr 22 (Go.Operand.tmp 29) (Go.Operand.tmp 30), type := 0, pos := _, after := #[{ on := 0, ground := Go.Ground.data }, { on := 1, ground := Go.Ground.data }, { on := 0, ground := Go.Ground.phase }, { on := 1, ground := Go.Ground.phase }, { on := 2, ground := Go.Ground.textOnly Go.Departure.lateStores }, { on := 3, ground := Go.Ground.textOnly Go.Departure.lateStores }, { on := 4, ground := Go.Ground.textOnly Go.Departure.lateStores }, { on := 5, ground := Go.Ground.textOnly Go.Departure.lateStores }], guard := none }) (by kernel_rfl) rfl (fun K hK => ?_)
    rw [if_pos (by rfl)]
    go_simp
    refine hK.out _ _ ⟨fun _ => hHeld, ?_⟩
    clear hK K
    try simp only [Act.put, List.setIfInBounds_toArray, List.set_cons_zero, List.set_cons_succ]
    refine wpX_one (i := 7) (o := { dst := some 36, op := Go.Op.fieldAddr 28 (Go.Operand.tmp 35) 5, type := 0, pos := _, after := #[{ on := 6, ground := Go.Ground.data }, { on := 0, ground := Go.Ground.phase }, { on := 1, ground := Go.Ground.phase }, { on := 2, ground := Go.Ground.textOnly Go.Departure.lateStores }, { on := 3, ground := Go.Ground.textOnly Go.Departure.lateStores }, { on := 4, ground := Go.Ground.textOnly Go.Departure.lateStores }, { on := 5, ground := Go.Ground.textOnly Go.Departure.lateStores }], guard := none }) (by kernel_rfl) rfl (fun K hK => ?_)
    rw [if_pos (by rfl)]
    go_simp
    refine hK.out _ _ ⟨fun _ => hHeld, ?_⟩
    clear hK K
    try simp only [Act.put, List.setIfInBounds_toArray, List.set_cons_zero, List.set_cons_succ]
    refine wpX_one (i := 8) (o := { dst := none, op := Go.Op.store 4 (Go.Operand.tmp 36) (Go.Operand.const (Go.Value.bool true)), type := 0, pos := _, after := #[{ on := 7, ground := Go.Ground.data }, { on := 0, ground := Go.Ground.phase }, { on := 1, ground := Go.Ground.phase }, { on := 2, ground := Go.Ground.textOnly Go.Departure.lateStores }, { on := 3, ground := Go.Ground.textOnly Go.Departure.lateStores }, { on := 4, ground := Go.Ground.textOnly Go.Departure.lateStores }, { on := 5, ground := Go.Ground.textOnly Go.Departure.lateStores }], guard := none }) (by kernel_rfl) rfl (fun K hK => ?_)
    rw [if_pos (by rfl)]
    go_simp
    refine hK.out _ _ ⟨fun _ => hS1, ?_⟩
    clear hK K
    try simp only [Act.put, List.setIfInBounds_toArray, List.set_cons_zero, List.set_cons_succ]
    refine wpX_one (i := 9) (o := { dst := some 37, op := Go.Op.indexAddr 22 (Go.Operand.tmp 31) (Go.Operand.tmp 32), type := 0, pos := _, after := #[{ on := 2, ground := Go.Ground.data }, { on := 3, ground := Go.Ground.data }, { on := 0, ground := Go.Ground.phase }, { on := 1, ground := Go.Ground.phase }, { on := 2, ground := Go.Ground.phase }, { on := 3, ground := Go.Ground.phase }, { on := 4, ground := Go.Ground.textOnly Go.Departure.lateStores }, { on := 5, ground := Go.Ground.textOnly Go.Departure.lateStores }, { on := 6, ground := Go.Ground.phase }, { on := 7, ground := Go.Ground.phase }, { on := 8, ground := Go.Ground.phase }], guard := none }) (by kernel_rfl) rfl (fun K hK => ?_)
    rw [if_pos (by rfl)]
    go_simp
    refine hK.out _ _ ⟨fun _ => hS1, ?_⟩
    clear hK K
    try simp only [Act.put, List.setIfInBounds_toArray, List.set_cons_zero, List.set_cons_succ]
    refine wpX_one (i := 10) (o := { dst := some 38, op := Go.Op.fieldAddr 28 (Go.Operand.tmp 37) 6, type := 0, pos := _, after := #[{ on := 9, ground := Go.Ground.data }, { on := 0, ground := Go.Ground.phase }, { on := 1, ground := Go.Ground.phase }, { on := 2, ground := Go.Ground.phase }, { on := 3, ground := Go.Ground.phase }, { on := 4, ground := Go.Ground.textOnly Go.Departure.lateStores }, { on := 5, ground := Go.Ground.textOnly Go.Departure.lateStores }, { on := 6, ground := Go.Ground.phase }, { on := 7, ground := Go.Ground.phase }, { on := 8, ground := Go.Ground.phase }], guard := none }) (by kernel_rfl) rfl (fun K hK => ?_)
    rw [if_pos (by rfl)]
    go_simp
    refine hK.out _ _ ⟨fun _ => hS1, ?_⟩
    clear hK K
    try simp only [Act.put, List.setIfInBounds_toArray, List.set_cons_zero, List.set_cons_succ]
    refine wpX_one (i := 11) (o := { dst := none, op := Go.Op.store 4 (Go.Operand.tmp 38) (Go.Operand.const (Go.Value.bool false)), type := 0, pos := _, after := #[{ on := 10, ground := Go.Ground.data }, { on := 8, ground := Go.Ground.chain }, { on := 0, ground := Go.Ground.phase }, { on := 1, ground := Go.Ground.phase }, { on := 2, ground := Go.Ground.phase }, { on := 3, ground := Go.Ground.phase }, { on := 4, ground := Go.Ground.textOnly Go.Departure.lateStores }, { on := 5, ground := Go.Ground.textOnly Go.Departure.lateStores }, { on := 6, ground := Go.Ground.phase }, { on := 7, ground := Go.Ground.phase }, { on := 8, ground := Go.Ground.phase }], guard := none }) (by kernel_rfl) rfl (fun K hK => ?_)
    rw [if_pos (by rfl)]
    go_simp
    refine hK.out _ _ ⟨fun _ => hS2, ?_⟩
    clear hK K
    try simp only [Act.put, List.setIfInBounds_toArray, List.set_cons_zero, List.set_cons_succ]
    refine wpX_one (i := 12) (o := { dst := some 39, op := Go.Op.indexAddr 22 (Go.Operand.tmp 33) (Go.Operand.tmp 34), type := 0, pos := _, after := #[{ on := 4, ground := Go.Ground.data }, { on := 5, ground := Go.Ground.data }, { on := 0, ground := Go.Ground.phase }, { on := 1, ground := Go.Ground.phase }, { on := 2, ground := Go.Ground.phase }, { on := 3, ground := Go.Ground.phase }, { on := 4, ground := Go.Ground.phase }, { on := 5, ground := Go.Ground.phase }, { on := 6, ground := Go.Ground.phase }, { on := 7, ground := Go.Ground.phase }, { on := 8, ground := Go.Ground.phase }, { on := 9, ground := Go.Ground.phase }, { on := 10, ground := Go.Ground.phase }, { on := 11, ground := Go.Ground.phase }], guard := none }) (by kernel_rfl) rfl (fun K hK => ?_)
    rw [if_pos (by rfl)]
    go_simp
    refine hK.out _ _ ⟨fun _ => hS2, ?_⟩
    clear hK K
    try simp only [Act.put, List.setIfInBounds_toArray, List.set_cons_zero, List.set_cons_succ]
    refine wpX_one (i := 13) (o := { dst := some 40, op := Go.Op.fieldAddr 28 (Go.Operand.tmp 39) 7, type := 0, pos := _, after := #[{ on := 12, ground := Go.Ground.data }, { on := 0, ground := Go.Ground.phase }, { on := 1, ground := Go.Ground.phase }, { on := 2, ground := Go.Ground.phase }, { on := 3, ground := Go.Ground.phase }, { on := 4, ground := Go.Ground.phase }, { on := 5, ground := Go.Ground.phase }, { on := 6, ground := Go.Ground.phase }, { on := 7, ground := Go.Ground.phase }, { on := 8, ground := Go.Ground.phase }, { on := 9, ground := Go.Ground.phase }, { on := 10, ground := Go.Ground.phase }, { on := 11, ground := Go.Ground.phase }], guard := none }) (by kernel_rfl) rfl (fun K hK => ?_)
    rw [if_pos (by rfl)]
    go_simp
    refine hK.out _ _ ⟨fun _ => hS2, ?_⟩
    clear hK K
    try simp only [Act.put, List.setIfInBounds_toArray, List.set_cons_zero, List.set_cons_succ]
    refine wpX_one (i := 14) (o := { dst := none, op := Go.Op.store 4 (Go.Operand.tmp 40) (Go.Operand.const (Go.Value.bool false)), type := 0, pos := _, after := #[{ on := 13, ground := Go.Ground.data }, { on := 11, ground := Go.Ground.chain }, { on := 0, ground := Go.Ground.phase }, { on := 1, ground := Go.Ground.phase }, { on := 2, ground := Go.Ground.phase }, { on := 3, ground := Go.Ground.phase }, { on := 4, ground := Go.Ground.phase }, { on := 5, ground := Go.Ground.phase }, { on := 6, ground := Go.Ground.phase }, { on := 7, ground := Go.Ground.phase }, { on := 8, ground := Go.Ground.phase }, { on := 9, ground := Go.Ground.phase }, { on := 10, ground := Go.Ground.phase }, { on := 11, ground := Go.Ground.phase }], guard := none }) (by kernel_rfl) rfl (fun K hK => ?_)
    rw [if_pos (by rfl)]
    go_simp
    refine hK.out _ _ ⟨fun h => absurd rfl h, ?_⟩
    clear hK K
    try simp only [Act.put, List.setIfInBounds_toArray, List.set_cons_zero, List.set_cons_succ]
    refine wpXN_done (by kernel_rfl) ?_ _
    try simp only [Act.put, List.setIfInBounds_toArray, List.set_cons_zero, List.set_cons_succ]
    clear y0 y1 y2 y3 y4 y5 k5 k6 k7 f1 f2 f3 hS1 hS2 hHeld hS
    gi_wp2
    exact ⟨Z, HF.out.2.2.2.2.2, HF.out.1, HF.out.2.1, HF.out.2.2.1, HF.out.2.2.2.1, HF.out.2.2.2.2.1⟩
  case done =>
    rintro D ys Z W hD hz rfl ⟨bQ1, hR1, bE1, hV1, hB1⟩ hK
    have HM : Hid (mark (sel (freshB sp) 0 ts) ts = ts.map (sackF sp)) := mark_all sp ts
    rw [HM.out] at hR1
    have hDW : D < W.heap.size := (Array.getElem?_eq_some_iff.1 hK).1
    have hDw : w.heap.size ≤ D := by omega
    have cp := part_any 42 #[.pointer (some ⟨w2.heap.size, 0, none⟩)] (freshB sp) A cap ts W (HT.out.1.later hB1) (by omega) (enters_of Try.func42 (by kernel_rfl) rfl)
      (fun x W' hW' => fresh_any w2.heap.size sp.length vc va rs sp x W' (hV1.later hW') HRE.out.1 HRE.out.2.1 HRE.out.2.2 ((hW'.cell (p := ⟨w2.heap.size, 0, none⟩) bE1.lt).trans bE1.cell))
    have HH : Hid (Boxed W w3.heap.size 22 (.slice vr ts.length vrc) ∧ RowR W (w2.heap.size + 1) vr ts.length vrc (ts.map (sackF sp)) ∧ RowKit.Below w.heap.size w W) := ⟨bQ1, hR1, hB1⟩
    clear dQ dS dT dR dE dV hBW bQ1 hR1 bE1 hV1 hB1 hRn hRe hz hvb hsz
    gi_wp2_with fail
    refine ⟨trivial, ?_⟩
    gi_at_call 39
    refine (callsIn_wide.2 cp).mono ?_
    rintro e W3 ⟨pa, pc, pb, pd, rfl, hP1, hP2, _, hB3⟩
    have cQ := (boxed_bel HH.out.1 hB3 HH.out.1.lt).cell
    have hK3 : W3.heap[D]? = some (.deferred (some [])) := (hB3.block D hDW).trans hK
    have HF : Hid (RowR W3 w.heap.size vr ts.length vrc (ts.map (sackF sp)) ∧ RowR W3 w.heap.size pa (ts.filter (freshB sp)).length pc (ts.filter (freshB sp)) ∧ RowKit.Below w.heap.size w W3) :=
      ⟨(HH.out.2.1.later hB3).mono (by omega), hP1.mono HH.out.2.2.size, Below.on HH.out.2.2 hB3⟩
    clear hP1 hP2 hB3 HH cp
    gi_wp2_with fail
    refine ⟨by simp, .inl ⟨_, _, rfl, run_takeDeferred hK3, ?_⟩⟩
    have hbK := belowK_b (w := w) (Nat.le_refl _) W3 D _ (.deferred none) hDw hK3 rfl rfl
    have hput : ∀ {B : Nat} {v1 : Option Addr} {L1 c1 : Nat} {l1 : List Rc}, RowR W3 B v1 L1 c1 l1 → RowR (W3.putObj D (.deferred none)) B v1 L1 c1 l1 := fun h => h.of_block (fun g e => World.putObj_heap_other (fun e2 => by
      subst e2
      rcases row_case h with ⟨e3, _⟩ | ⟨g', e3, _, _, _, cur, c, hh⟩
      · rw [e3] at e; cases e
      · rw [e3] at e; cases e
        rw [hK3] at hh; cases hh))
    refine ⟨_, results_tmp3 rfl _ _ _, ?_⟩
    unfold SackSays
    rw [HS.out.1, HS.out.2.1, HS.out.2.2]
    refine ⟨vr, vrc, pa, pc, by simp, ?_, hput HF.out.2.1, HF.out.2.2.trans hbK⟩
    rw [List.length_map]
    exact hput HF.out.1
  case stop =>
    rintro D c pre Z W hD hz hpre h hK
    exact h.elim
end Go.Proofs.Ytokiklaffbdomaa
