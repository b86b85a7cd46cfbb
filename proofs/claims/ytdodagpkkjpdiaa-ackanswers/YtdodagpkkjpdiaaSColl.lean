/- A row that grows in a loop's rounds; what slices.Collect makes of what is missing; Gaps. -/
import Derived.Test.YtdodagpkkjpdiaaSCheck
import Derived.Maps.OwnIn
namespace Go.Proofs.Ytdodagpkkjpdiaa
open Go.ChangeShapes Go.WideShapes Go.ChangeAt Go.RowKit Go.Shelf
set_option linter.unusedVariables false
attribute [local go_sem] Oper.semAt_some

theorem row_case {w : World} {B : Nat} {va : Option Addr} {L vc : Nat} {l : List Tm} (h : RowT w B va L vc l) : (va = none ∧ (Value.slice va L vc).ownBlock = none) ∨ ∃ g, va = some ⟨g, 0, none⟩ ∧ (Value.slice va L vc).ownBlock = some g ∧ B ≤ g ∧ g < w.heap.size ∧ (∃ cur c, w.heap[g]? = some (.cells cur 39 c)) := by
  rcases h.2 with ⟨e, h0⟩ | ⟨g, cap, cur, e, hg, hh, r⟩
  · cases e; exact .inl ⟨rfl, rfl⟩
  · cases e; exact .inr ⟨g, rfl, rfl, hg, (Array.getElem?_eq_some_iff.1 hh).1, _, _, hh⟩
theorem RowT.moved {X Y : World} {B : Nat} {va : Option Addr} {L vc : Nat} {l : List Tm} (h : RowT X B va L vc l) (hs : ∀ k, k < X.heap.size → lies va k → Y.heap[k]? = X.heap[k]?) : RowT Y B va L vc l := by
  refine ⟨h.1, ?_⟩
  rcases h.2 with h' | ⟨g, c, cur, e, hB, hh, r⟩
  · exact .inl h'
  · cases e
    exact .inr ⟨g, _, cur, rfl, hB, (hs g (Array.getElem?_eq_some_iff.1 hh).1 ⟨_, _, rfl⟩).trans hh, r⟩
theorem RowT.apart {X Y : World} {B b : Nat} {Z : Nat → Prop} {va : Option Addr} {L vc : Nat} {l : List Tm} (h : RowT X B va L vc l) (hA : Apart b Z X Y) (hin : ∀ k, lies va k → Z k ∨ k < b) : RowT Y B va L vc l :=
  h.moved (fun k hk hl => hA.same k hk (hin k hl).symm)
theorem RowT.turned {X Y : World} {B l0 : Nat} {va : Option Addr} {L vc : Nat} {l : List Tm} (h : RowT X B va L vc l) (hg : X.grownBy Y (some l0)) (hne : ∀ k, lies va k → k ≠ l0) : RowT Y B va L vc l :=
  h.moved (fun k hk hl => hg.block k hk (fun e => hne k hl (by cases e; rfl)))

/-- One span appended to the row that a box holds. -/
theorem coll_step {V w2 : World} {tmp : Obj} {b B Bx L : Nat} {va : Option Addr} {vc : Nat} {l : List Tm} {x : Tm} {R Z : Nat → Prop} {v' : Value}
    (hbox : Boxed V Bx 29 (.slice va L vc)) (hbx : Bx < b) (hRx : ¬ R Bx) (hrow : RowT V B va L vc l) (hin : ∀ k, lies va k → Z k ∨ (k < b ∧ ¬ R k)) (hZ : ∀ k, Z k → k < V.heap.size)
    (hown : w2.ownsRow B 39 2 v' (L + 1) (tcells l ++ [.int .i64 x.1, .int .i64 x.2])) (hgrow : (V.alloc tmp).grownBy w2 (Value.slice va L vc).ownBlock)
    (hat : v'.ownBlock = (Value.slice va L vc).ownBlock ∨ v'.ownBlock = some (V.alloc tmp).heap.size) :
    ∃ va' vc', v' = .slice va' (L + 1) vc' ∧ Boxed w2 Bx 29 (.slice va L vc) ∧ Boxed (w2.setCell ⟨Bx, 0, none⟩ v') Bx 29 (.slice va' (L + 1) vc') ∧ RowT (w2.setCell ⟨Bx, 0, none⟩ v') B va' (L + 1) vc' (l ++ [x]) ∧
      Mine b R Z V (fun k => Z k ∨ (lies va' k ∧ V.heap.size ≤ k)) (w2.setCell ⟨Bx, 0, none⟩ v') ∧ (∀ k, lies va' k → (Z k ∨ (lies va' k ∧ V.heap.size ≤ k)) ∨ (k < b ∧ ¬ R k)) ∧ V.grownBy w2 (Value.slice va L vc).ownBlock ∧ (∀ k, lies va' k → lies va k ∨ V.heap.size ≤ k) := by
  rw [← tcells_snoc] at hown
  obtain ⟨va', vc', rfl, hR⟩ := rowT_of hown
  have hga : V.grownBy w2 (Value.slice va L vc).ownBlock := ⟨hgrow.os, hgrow.tape, hgrow.output, by have := hgrow.size; simp at this; omega, fun k hk hne => (hgrow.block k (by simp; omega) hne).trans (Below.heap_alloc _ _ _ hk)⟩
  have hbox2 : Boxed w2 Bx 29 (.slice va L vc) := hbox.kept hga (hbox.not_row (by decide) hrow)
  have hset := grownBy_setCell' w2 Bx (.slice va' (L + 1) vc')
  have hneB : ∀ k, lies va' k → k ≠ Bx := fun k hk e => by
    subst e
    rcases row_case hR with ⟨e, _⟩ | ⟨g, e, _, _, _, cur, c, hh⟩
    · obtain ⟨_, _, e'⟩ := hk; rw [e] at e'; cases e'
    · obtain ⟨_, _, e'⟩ := hk; rw [e] at e'; cases e'
      rw [show w2.heap[k]? = _ from hbox2] at hh; cases hh
  have hold : ∀ k, (Value.slice va L vc).ownBlock = some k → Z k ∨ (k < b ∧ ¬ R k) := fun k hk => by
    rcases row_case hrow with ⟨_, e⟩ | ⟨g, e, e2, _⟩
    · rw [e] at hk; cases hk
    · rw [e2] at hk; cases hk; exact hin k ⟨_, _, e⟩
  have hnew0 : ∀ k, lies va' k → lies va k ∨ V.heap.size ≤ k := fun k hk => by
    rcases row_case hR with ⟨e, _⟩ | ⟨g, e, e2, _⟩
    · obtain ⟨_, _, e'⟩ := hk; rw [e] at e'; cases e'
    · obtain ⟨_, _, e'⟩ := hk; rw [e] at e'; cases e'
      rw [e2] at hat
      rcases hat with h | h
      · rcases row_case hrow with ⟨_, e3⟩ | ⟨g, e3, e4, _⟩
        · rw [e3] at h; cases h
        · rw [e4] at h; cases h; exact .inl ⟨_, _, e3⟩
      · cases h; exact .inr (by simp)
  have hnew : ∀ k, lies va' k → (Z k ∨ (k < b ∧ ¬ R k)) ∨ V.heap.size ≤ k := fun k hk => (hnew0 k hk).imp (hin k) id
  refine ⟨va', vc', rfl, hbox2, hbox2.set _, hR.turned hset hneB, ⟨Below.trans ⟨hga.os, hga.tape, hga.output, hga.size, fun k hk => by omega⟩ ⟨hset.os, hset.tape, hset.output, hset.size, fun k hk => by omega⟩, fun k hk => hk.imp id (fun h => h.2), fun k hk => ?_, fun k hk hRk hzk => ?_⟩, fun k hk => ?_, hga, hnew0⟩
  · rcases hk with h | ⟨h, _⟩
    · have := hZ k h; have := hga.size; have := hset.size; omega
    · rcases row_case hR with ⟨e, _⟩ | ⟨g, e, _, _, hlt, _⟩
      · obtain ⟨_, _, e'⟩ := h; rw [e] at e'; cases e'
      · obtain ⟨_, _, e'⟩ := h; rw [e] at e'; cases e'
        have := hset.size; omega
  · refine (hset.block k (by have := hga.size; omega) (fun e => ?_)).trans (hga.block k hk (fun e => ?_))
    · cases e
      rcases hRk with h | h
      · exact hRx h
      · omega
    · rcases hold k e.symm with h | ⟨h1, h2⟩
      · exact hzk h
      · rcases hRk with h | h
        · exact h2 h
        · omega
  · rcases hnew k hk with (h | h) | h
    · exact .inl (.inl h)
    · exact .inr h
    · exact .inl (.inr ⟨hk, h⟩)

theorem RowT.ge {w : World} {B : Nat} {va : Option Addr} {L vc : Nat} {l : List Tm} (h : RowT w B va L vc l) {k : Nat} (hk : lies va k) : B ≤ k ∧ k < w.heap.size := by
  rcases row_case h with ⟨e, _⟩ | ⟨g, e, _, hBg, hlt, _⟩
  · obtain ⟨_, _, e'⟩ := hk; rw [e] at e'; cases e'
  · obtain ⟨_, _, e'⟩ := hk; rw [e] at e'; cases e'; exact ⟨hBg, hlt⟩
/-- Another row than the one that grew. -/
theorem row_other {V w2 : World} {B B' Bx : Nat} {va vb : Option Addr} {L vc Lb vd : Nat} {l lb : List Tm} {u v' : Value} (hb : RowT V B vb Lb vd lb) (hrow : RowT V B' va L vc l) (hga : V.grownBy w2 (Value.slice va L vc).ownBlock) (hdis : ∀ k, lies va k → ¬ lies vb k) (hbox : Boxed w2 Bx 29 u) : RowT (w2.setCell ⟨Bx, 0, none⟩ v') B vb Lb vd lb := by
  have h1 : RowT w2 B vb Lb vd lb := hb.moved (fun k hk hl => hga.block k hk (fun e => by
    rcases row_case hrow with ⟨_, e'⟩ | ⟨g, e1, e', _⟩
    · rw [e'] at e; cases e
    · rw [e'] at e; cases e; exact hdis k ⟨_, _, e1⟩ hl))
  refine h1.turned (grownBy_setCell' w2 Bx v') (fun k hk e => ?_)
  subst e
  rcases row_case h1 with ⟨e, _⟩ | ⟨g, e, _, _, _, cur, c, hh⟩
  · obtain ⟨_, _, e'⟩ := hk; rw [e] at e'; cases e'
  · obtain ⟨_, _, e'⟩ := hk; rw [e] at e'; cases e'
    rw [show w2.heap[k]? = _ from hbox] at hh; cases hh

set_option maxRecDepth 100000 in
set_option maxHeartbeats 2000000 in
theorem appendSeq_any (Bs Bl : Nat) (gs : List Tm) (R : Nat → Prop) (Sp : List Tm → Prop) (w : World) (hlen : gs.length * 16 ≤ 140737488355328) (hRw : ∀ k, R k → k < w.heap.size)
    (hseq : SeqDeep Fence.wide 5 Try.prog 81 #[.pointer (some ⟨Bs, 0, none⟩), .pointer (some ⟨Bl, 0, none⟩)] (fun x : Tm => #[Value.agg #[.int .i64 x.1, .int .i64 x.2]]) R (fun ys => ys = gs) Sp (fun q => q <+: gs) w) :
    Calls Try.prog 80 #[.slice none 0 0, .func (.func 81) #[] #[.pointer (some ⟨Bs, 0, none⟩), .pointer (some ⟨Bl, 0, none⟩)]] w fun e W' => ∃ va vc, e = .returned (.slice va gs.length vc) ∧ RowT W' w.heap.size va gs.length vc gs ∧ Below w.heap.size w W' := by
  refine (callsIn_wide (n := 6)).1 ?_
  refine callsIn_of_wp_marks Try.func80 rfl trivial ?_ rfl
  simp only [Try.ntmps80, List.size_toArray, List.length_cons, List.length_nil, Nat.reduceAdd, Nat.reduceSub, Array.replicate_succ, Array.replicate_zero, List.push_toArray, List.append_toArray, List.nil_append, List.cons_append]
  obtain ⟨i0, hi, hz0, hz1, hz2⟩ := info_parts Try.info39
  gi_wp2
  have bO2 := Boxed.new w 29 (.slice none 0 0)
  have hB2 : Below w.heap.size w (w.alloc (.cells #[.slice none 0 0] 29)) := (Below.refl _ w).alloc (Nat.le_refl _) _
  have hsz : (w.alloc (.cells #[.slice none 0 0] 29)).heap.size = w.heap.size + 1 := by simp
  obtain ⟨W0, hW0⟩ : ∃ W0, w.alloc (.cells #[.slice none 0 0] 29) = W0 := ⟨_, rfl⟩
  rw [hW0] at bO2 hB2 hsz ⊢
  clear hW0
  refine wpIn_deep (F := Fence.wide) (n := 6) rfl (by omega) (gf := 81) (lb := #[.pointer (some ⟨Bs, 0, none⟩), .pointer (some ⟨Bl, 0, none⟩)]) rfl trivial (enters_of Try.func81 (by kernel_rfl) rfl) hseq hB2 (fun _ => rfl)
    (fun k hk => by have := hRw k hk; omega)
    (fun pre Z V => ∃ va vc, Boxed V w.heap.size 29 (.slice va pre.length vc) ∧ RowT V w.heap.size va pre.length vc pre ∧ (∀ k, lies va k → Z k) ∧ Below w.heap.size w V)
    (fun c pre Z V => False)
    ?hI (fun _ _ _ _ _ h _ => h) ⟨none, 0, bO2, RowT.nil _ _, fun k hk => (by obtain ⟨_, _, e⟩ := hk; cases e), hB2⟩ ?round ?done ?stop
  case hI =>
    rintro pre Z X Y ⟨va, vc, h1, h2, h3, h5⟩ hA
    exact ⟨va, vc, boxed_apart h1 hA (.inl (by omega)), h2.apart hA (fun k hk => .inl (h3 k hk)), h3, below_apart h5 (Nat.le_refl _) (by omega) hA⟩
  case round =>
    rintro l pre x Z W1 hl hll hz ⟨va, vc, bO1, hR1, hin, hB1⟩ hG
    have HZ : Hid (∀ k, Z k → W0.heap.size ≤ k ∧ k < W1.heap.size ∧ k ≠ l) := hz
    have HIN : Hid (∀ k, lies va k → Z k) := hin
    have hgl : pre.length + 1 ≤ gs.length := by have := hG.length_le; simpa using this
    obtain ⟨L, hL⟩ : ∃ L, pre.length = L := ⟨_, rfl⟩
    have HLN : Hid ((pre ++ [x]).length = L + 1) := by simp [Hid, hL]
    have HRW : Hid (∀ k, R k → k < w.heap.size) := hRw
    rw [hL] at bO1 hR1 hgl
    clear hz hG hin hseq bO2 hB2 hL hRw
    unfold RoundOwes
    gi_wp2
    refine ⟨Mine.alloc (fun k hk => (HZ.out k hk).2.1) _, ?_⟩
    intro W2 hg2 hr2
    have bX := (BoxT.new W1 x).kept hg2 (fun e => by cases e; omega)
    have bO2 := (bO1.alloc (.cells #[.int .i64 x.1, .int .i64 x.2] 39)).kept hg2 (fun e => by cases e; omega)
    have hR2 : Hid (RowT W2 w.heap.size va L vc pre) := (hR1.alloc _).turned hg2 (fun k hk => (HZ.out k (HIN.out k hk)).2.2)
    have hB2 : Hid (Below w.heap.size w W2) := below_grown (hB1.alloc (Nat.le_trans (Nat.le_refl _) hB1.size) _) (Nat.le_refl _) hg2 (fun k e => by cases e; omega)
    have HZ2 : Hid (∀ k, Z k → k < W2.heap.size) := fun k hk => by have h1 := (HZ.out k hk).2.1; have h2 := hg2.size; simp at h2; omega
    have hws : w.heap.size ≤ W2.heap.size := hB2.out.size
    clear bO1 hB1 hg2 hr2 hR1
    have cO := bO2.cell
    have c0 := bX.cell0
    have c1 := bX.cell1
    gi_wp2_with (gi_at_builtin; refine wpListIn_append_own_at _ rfl _ _ 29 rfl w.heap.size 39 i0 (.agg #[.int .i64 0, .int .i64 0]) 2 16 Try.underlying29 hi hz0 hz1 hz2 rfl (by decide) (.slice va L vc) L (tcells pre) rfl (hR2.out.alloc _) ⟨W2.heap.size, 0, none⟩ 1 1 [.int .i64 x.1, .int .i64 x.2] rfl rfl (cells_new W2 [.int .i64 x.1, .int .i64 x.2] 39) two_one (by unfold maxLen; omega) (by omega) (by simp; omega) ?_; intro v' w2 hown' hgrow _ hat; obtain ⟨va', vc', rfl, hv1, hv2, hr2, hM, hin2, hga, _⟩ := coll_step (R := R) (Z := Z) (b := W0.heap.size) bO2 (by omega) (fun h => by have := HRW.out _ h; omega) hR2.out (fun k hk => .inl (HIN.out k hk)) HZ2.out hown' hgrow hat; have hc1 := hv1.cell; have hf1 := hv1.frozen; have HG : Hid (W2.grownBy w2 (Value.slice va L vc).ownBlock) := hga; have HV : Hid (_ ∧ _ ∧ _ ∧ _) := ⟨hv2, hr2, hM, hin2⟩; clear hown' hgrow hat hga hv2 hr2 hM hin2)
    obtain ⟨g1, g2, g3, g4⟩ := HV.out
    refine ⟨_, g3, va', vc', by rw [HLN.out]; exact g1, by rw [HLN.out]; exact g2, fun k hk => ?_, (below_grown hB2.out (Nat.le_refl _) HG.out (fun k e => ?_)).setCell (p := ⟨w.heap.size, 0, none⟩) (Nat.le_refl _) _⟩
    · rcases g4 k hk with h | h
      · exact h
      · rcases row_case g2 with ⟨e, _⟩ | ⟨g, e, _, hBg, hlt, cur, c, hh⟩
        · obtain ⟨_, _, e'⟩ := hk; rw [e] at e'; cases e'
        · obtain ⟨_, _, e'⟩ := hk; rw [e] at e'; cases e'
          have h3 : k = w.heap.size := by omega
          subst h3
          rw [show (w2.setCell _ _).heap[w.heap.size]? = _ from g1] at hh; cases hh
    · rcases row_case hR2.out with ⟨_, e'⟩ | ⟨g, _, e', hBg, _⟩
      · rw [e'] at e; cases e
      · rw [e'] at e; cases e; exact hBg
  case done =>
    rintro D ys Z W hD hz rfl ⟨va, vc, bO1, hR1, hin, hB1⟩ hK
    have cO := bO1.cell
    clear bO2 hB2
    gi_wp2
    refine ⟨by simp, .inl ⟨_, _, rfl, run_takeDeferred hK, ?_⟩⟩
    refine ⟨_, results_tmp rfl _ _ _, va, vc, rfl, ?_, hB1.trans (belowK_b (w := w) (Nat.le_refl _) _ D _ _ (by omega) hK rfl rfl)⟩
    exact ownsRow_putObj hR1 _ hK rfl
  case stop =>
    rintro D c pre Z W hD hz hpre h hK
    exact h.elim

set_option maxRecDepth 100000 in
set_option maxHeartbeats 2000000 in
theorem collect_any (Bs Bl : Nat) (gs : List Tm) (R : Nat → Prop) (Sp : List Tm → Prop) (w : World) (hlen : gs.length * 16 ≤ 140737488355328) (hRw : ∀ k, R k → k < w.heap.size)
    (hseq : SeqDeep Fence.wide 5 Try.prog 81 #[.pointer (some ⟨Bs, 0, none⟩), .pointer (some ⟨Bl, 0, none⟩)] (fun x : Tm => #[Value.agg #[.int .i64 x.1, .int .i64 x.2]]) R (fun ys => ys = gs) Sp (fun q => q <+: gs) w) :
    Calls Try.prog 76 #[.func (.func 81) #[] #[.pointer (some ⟨Bs, 0, none⟩), .pointer (some ⟨Bl, 0, none⟩)]] w fun e W' => ∃ va vc, e = .returned (.slice va gs.length vc) ∧ RowT W' w.heap.size va gs.length vc gs ∧ Below w.heap.size w W' := by
  have c := appendSeq_any Bs Bl gs R Sp w hlen hRw hseq
  clear hseq
  go_enter Try.func76, Try.ntmps76
  go_wp2_with (go_at_call 80; refine c.mono ?_; rintro e w1 ⟨va, vc, rfl, hR, hB1⟩)
  go_ret
  exact ⟨va, vc, rfl, hR, hB1⟩

set_option maxRecDepth 100000 in
set_option maxHeartbeats 2000000 in
theorem gaps_any (A : Option Addr) (cap : Nat) (ts : List Tm) (s : Tm) (w : World) (hT : TimsAt w A ts) (hlen : (ts.length + 1) * 16 ≤ 140737488355328) :
    Calls Try.prog 67 #[.slice A ts.length cap, tmV s] w fun e W' => ∃ va vc, e = .returned (.slice va (gapsV ts s).length vc) ∧ RowT W' w.heap.size va (gapsV ts s).length vc (gapsV ts s) ∧ Below w.heap.size w W' := by
  have bS := BoxT.new w s
  have hB0 : Below w.heap.size w (w.alloc (.cells #[.int .i64 s.1, .int .i64 s.2] 39)) := (Below.refl _ w).alloc (Nat.le_refl _) _
  have cC := check_any A cap ts _ (hT.later hB0)
  cases hc : chk (-1) ts with
  | false =>
    have hE : errI ts = 60 := by simp [errI, hc]
    have hN : Hid (gapsV ts s = []) := by unfold Hid gapsV; rw [if_neg (by rw [hc]; decide)]
    rw [hE] at cC
    clear hE hc
    go_enter Try.func67, Try.ntmps67
    go_wp2_with (go_at_call 12; refine cC.mono ?_; rintro e w1 ⟨rfl, hB1⟩)
    go_ret
    exact ⟨none, 0, by rw [hN.out]; rfl, by rw [hN.out]; exact RowT.nil _ _, hB0.trans (hB1.mono (by simp))⟩
  | true =>
    have hE : errI ts = 0 := by simp [errI, hc]
    have hN : Hid (gapsV ts s = gapsL ts s.1 s.2) := by unfold Hid gapsV; rw [if_pos hc]
    rw [hE] at cC
    clear hE hc
    obtain ⟨gs, hgs⟩ : ∃ gs, gapsL ts s.1 s.2 = gs := ⟨_, rfl⟩
    have hgl : gs.length * 16 ≤ 140737488355328 := by have := gaps_len ts s.1 s.2; rw [hgs] at this; omega
    have cG : ∀ w1, Below w.heap.size w w1 → Calls Try.prog 76 #[.func (.func 81) #[] #[.pointer (some ⟨w1.heap.size + 1, 0, none⟩), .pointer (some ⟨w1.heap.size, 0, none⟩)]] ((w1.alloc (.cells #[.slice A ts.length cap] 29)).alloc (.cells #[.int .i64 s.1, .int .i64 s.2] 39)) fun e W' => ∃ va vc, e = .returned (.slice va gs.length vc) ∧ RowT W' w.heap.size va gs.length vc gs ∧ Below w.heap.size w W' := by
      intro w1 hB1
      have hs1 := hB1.size
      have bL2 := (Boxed.new w1 29 (.slice A ts.length cap)).alloc (.cells #[.int .i64 s.1, .int .i64 s.2] 39)
      have bS2 := BoxT.new (w1.alloc (.cells #[.slice A ts.length cap] 29)) s
      have hB2 : Below w.heap.size w ((w1.alloc (.cells #[.slice A ts.length cap] 29)).alloc (.cells #[.int .i64 s.1, .int .i64 s.2] 39)) := (hB1.alloc (by omega) _).alloc (by simp; omega) _
      have bS3 : BoxT ((w1.alloc (.cells #[.slice A ts.length cap] 29)).alloc (.cells #[.int .i64 s.1, .int .i64 s.2] 39)) (w1.heap.size + 1) s := by simpa using bS2
      have hm := miss_deep 5 (w1.heap.size + 1) w1.heap.size cap A ts s w _ hT hB2 bL2.cell bS3
      rw [hgs] at hm
      refine (collect_any (w1.heap.size + 1) w1.heap.size gs _ _ _ hgl (fun k hk => ?_) hm).mono ?_
      · simp only [World.size_alloc]; rcases hk with hk | hk <;> omega
      · rintro e W' ⟨va, vc, rfl, hR, hB⟩
        exact ⟨va, vc, rfl, hR.mono (by simp; omega), hB2.trans (hB.mono (by simp; omega))⟩
    have HGS : Hid (gapsL ts s.1 s.2 = gs) := hgs
    clear hgs
    go_enter Try.func67, Try.ntmps67
    go_wp2_with (first
      | (go_at_call 12; refine cC.mono ?_; rintro e w1 ⟨rfl, hB1⟩; have bS1 := bS.below hB1 (by simp <;> omega); have s0 := bS1.cell0; have s1 := bS1.cell1; have HB1 : Hid (Below w.heap.size w w1) := hB0.trans (hB1.mono (by simp)))
      | (go_at_call 77; refine (callsIn_wide.1 (missing_in Fence.wide 3 trivial rfl _ _ _ s _)).mono ?_; rintro e w' ⟨rfl, rfl⟩)
      | (go_at_call 76; refine (cG _ HB1.out).mono ?_; rintro e w3 ⟨va, vc, rfl, hR, hB3⟩))
    go_ret
    exact ⟨va, vc, by rw [hN.out, HGS.out]; rfl, by rw [hN.out, HGS.out]; exact hR, hB3⟩
end Go.Proofs.Ytdodagpkkjpdiaa
