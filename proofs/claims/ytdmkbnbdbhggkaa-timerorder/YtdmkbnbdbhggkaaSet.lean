/- The contract of Set. -/
import Derived.Test.YtdmkbnbdbhggkaaIns2
namespace Go.Proofs.Ytdmkbnbdbhggkaa
open Go.ChangeShapes Go.WideShapes Go.ChangeAt Go.RowKit Go.Shelf
set_option linter.unusedVariables false
attribute [local go_sem] Oper.semAt_some

def setE (l : List Tm) (k t : Int) : Int := if chk 0 l = true then (if kindB k = true ∧ timeB t = true then 0 else 2) else 40
def setL (l : List Tm) (k t : Int) : List Tm := if chk 0 l = true ∧ kindB k = true ∧ timeB t = true then setI l k t else []

theorem row_block {w : World} {B : Nat} {va : Option Addr} {L vc : Nat} {l : List Tm} (h : RowT w B va L vc l) : ∀ a, va = some a → B ≤ a.block ∧ a.block < w.heap.size := by
  intro a ha
  rcases h.2 with ⟨e, h0⟩ | ⟨g, cap, cur, e, hg, hh, _⟩
  · cases e; cases ha
  · cases e; cases ha
    exact ⟨hg, (Array.getElem?_eq_some_iff.1 hh).1⟩
theorem row_own {w w' : World} {B : Nat} {va : Option Addr} {L vc : Nat} {l : List Tm} (h : RowT w B va L vc l) (hb : Below w.heap.size w w') : RowT w' B va L vc l := h.below hb (Nat.le_refl _)

set_option maxRecDepth 100000 in
set_option maxHeartbeats 4000000 in
theorem set_any (A : Option Addr) (cap : Nat) (ts : List Tm) (k t : Int) (w : World) (hT : TimsAt w A ts) :
    Calls Try.prog 9 #[.slice A ts.length cap, .int .i64 k, .int .i64 t] w fun e W' => ∃ va vc, e = .returned (.tuple #[.slice va (setL ts k t).length vc, .int .i64 (setE ts k t)]) ∧ RowT W' w.heap.size va (setL ts k t).length vc (setL ts k t) ∧ Below w.heap.size w W' := by
  refine (callsIn_wide (n := 3)).1 ?_
  refine callsIn_of_wp_marks Try.func9 rfl trivial ?_ rfl
  simp only [Try.ntmps9, List.size_toArray, List.length_cons, List.length_nil, Nat.reduceAdd, Nat.reduceSub, Array.replicate_succ, Array.replicate_zero, List.push_toArray, List.append_toArray, List.nil_append, List.cons_append]
  have bK := Boxed.new w 23 (.int .i64 k)
  have hB0 : Below w.heap.size w (w.alloc (.cells #[.int .i64 k] 23)) := (Below.refl _ w).alloc (Nat.le_refl _) _
  have cS := stop_any A cap ts k _ (hT.below hB0 (Nat.le_refl _))
  by_cases hok : chk 0 ts = true ∧ kindB k = true
  · obtain ⟨hc, hk⟩ := hok
    have hE : stopE ts k = 0 ∧ stopL ts k = wo ts k := by unfold stopE stopL; simp [hc, hk]
    rw [hE.1, hE.2] at cS
    clear hE
    have hwl : (wo ts k).length ≤ 5 := Nat.le_trans (wo_len _ _) (chk0_len hc)
    cases ht : timeB t with
    | false =>
      have HE : Hid (setE ts k t = 2 ∧ setL ts k t = []) := by unfold Hid setE setL; simp [hc, ht]
      clear hc hk
      gi_wp2_with (first
        | (refine ⟨trivial, ?_⟩; gi_at_call 13; refine (callsIn_wide.2 cS).mono ?_; rintro e w1 ⟨va, vc, rfl, hR, hB1⟩)
        | (refine ⟨trivial, ?_⟩; gi_at_call 20; refine (callsIn_wide.2 (isTime_walk _ _)).mono ?_; rintro e w1 ⟨rfl, rfl⟩))
      refine ⟨_, results_tmp2 rfl _ _ _, none, 0, by rw [HE.out.1, HE.out.2]; rfl, by rw [HE.out.2]; exact RowT.nil _ _, hB0.trans (hB1.mono (by simp))⟩
    | true =>
      have HE : Hid (setE ts k t = 0 ∧ setL ts k t = insI (wo ts k) (placeI (wo ts k) k) (k, t)) := by unfold Hid setE setL; rw [ins_set hc]; simp [hc, hk, ht]
      clear hc hk
      obtain ⟨os, hos⟩ : ∃ os, wo ts k = os := ⟨_, rfl⟩
      rw [hos] at cS hwl HE
      clear hos
      gi_wp2_with (first
        | (refine ⟨trivial, ?_⟩; gi_at_call 13; refine (callsIn_wide.2 cS).mono ?_; rintro e w1 ⟨va, vc, rfl, hR, hB1⟩; have bK1 := boxed_bel bK hB1 (by simp); have cK := bK1.cell)
        | (refine ⟨trivial, ?_⟩; gi_at_call 20; refine (callsIn_wide.2 (isTime_walk _ _)).mono ?_; rintro e w1 ⟨rfl, rfl⟩)
        | (refine ⟨trivial, ?_⟩; gi_at_call 19; refine (each_in Fence.wide _ trivial rfl _ _ _ _).mono ?_; rintro e w' ⟨rfl, rfl⟩))
      have hBw : Below w.heap.size w w1 := hB0.trans (hB1.mono (by simp))
      have hs1 : w.heap.size < w1.heap.size := by have := hB1.size; simp at this; omega
      have hR1 : RowT w1 w.heap.size va os.length vc os := hR.mono (by simp)
      have bK2 := (bK1.alloc (.cells #[.int .i64 0] 3)).alloc (.cells #[.slice va os.length vc] 22)
      have bP2 := (Boxed.new w1 3 (.int .i64 0)).alloc (.cells #[.slice va os.length vc] 22)
      have bN2 := Boxed.new (w1.alloc (.cells #[.int .i64 0] 3)) 22 (.slice va os.length vc)
      simp only [World.size_alloc] at bN2
      have hB2 : Below w1.heap.size w1 ((w1.alloc (.cells #[.int .i64 0] 3)).alloc (.cells #[.slice va os.length vc] 22)) := ((Below.refl _ w1).alloc (Nat.le_refl _) _).alloc (by simp) _
      have hsz : ((w1.alloc (.cells #[.int .i64 0] 3)).alloc (.cells #[.slice va os.length vc] 22)).heap.size = w1.heap.size + 2 := by simp
      obtain ⟨W0, hW0⟩ : ∃ W0, (w1.alloc (.cells #[.int .i64 0] 3)).alloc (.cells #[.slice va os.length vc] 22) = W0 := ⟨_, rfl⟩
      rw [hW0] at bK2 bP2 bN2 hB2 hsz ⊢
      clear hW0 bK1 hB1 cS cK hR
      obtain ⟨m, hm⟩ : ∃ m, w1.heap.size = m := ⟨_, rfl⟩
      have hRl := row_block hR1
      have tail : ∀ (W : World) (n : Nat) (D : Nat), m + 2 ≤ D → Boxed W w.heap.size 23 (.int .i64 k) → Boxed W m 3 (.int .i64 n) → Below w1.heap.size w1 W → n ≤ os.length → W.heap[D]? = some (.deferred (some [])) →
          Calls Try.prog 21 #[.slice va os.length vc, .int .i64 n, .slice (some ⟨W.heap.size, 0, none⟩) 1 1] (W.alloc (.cells #[.int .i64 k, .int .i64 t] 31)) fun e w' => ∃ va' vc', e = .returned (.slice va' (os.length + 1) vc') ∧
            RowT w' w.heap.size va' (os.length + 1) vc' (insI os n (k, t)) ∧ Below w.heap.size w w' ∧ w'.heap[D]? = some (.deferred (some [])) := fun W n D hD bK bP hB hn hK => by
        have hlt := (Array.getElem?_eq_some_iff.1 hK).1
        have hRW : RowT (W.alloc (.cells #[.int .i64 k, .int .i64 t] 31)) w.heap.size va os.length vc os := (row_own hR1 hB).alloc _
        have hBW : Below w.heap.size w W := hBw.trans (hB.mono (by omega))
        refine (insert_any _ w.heap.size va os.length vc W.heap.size n os (k, t) hRW (by have := hBW.size; simp; omega) hwl (BoxT.new W (k, t)) (fun a ha => by have := hRl a ha; have := hB.size; omega) hn).mono ?_
        rintro e w' ⟨va', vc', he, hr, hg⟩
        refine ⟨va', vc', he, hr, below_append (hBW.alloc (hBW.size) _) (by have := hBW.size; simp; omega) hRW hg, ?_⟩
        refine (hg.block D (by simp; omega) ?_).trans ((Below.heap_alloc _ _ _ hlt).trans hK)
        cases va with
        | none => simp [Value.ownBlock]
        | some a =>
          have := (hRl a rfl).2
          simp [Value.ownBlock]
          omega
      have TAIL : Hid (∀ _, _) := tail
      clear tail hRl
      rw [hm] at bP2 bN2 hsz hs1 ⊢
      refine wpIn_rangeFunc_ownH (F := Fence.wide) (n := 3) rfl (by omega) (gf := 26) (lb := #[.pointer (some ⟨m + 1, 0, none⟩)]) rfl trivial (enters_of Try.func26 (by kernel_rfl) rfl)
        (each_stops Fence.wide 2 trivial rfl (by omega) (m + 1) vc va os w1 W0 (by omega) hB2 hR1.tims bN2.cell) belowK_t (belowK_b (by omega)) (Below.refl _ _) (fun _ => rfl)
        (fun pre W => ((Boxed W w.heap.size 23 (.int .i64 k) ∧ Boxed W m 3 (.int .i64 pre.length)) ∧ (∀ y ∈ pre, y.1 ≤ k)) ∧ Below w1.heap.size w1 W)
        (fun c pre W => (∃ p x, (Boxed W w.heap.size 23 (.int .i64 k) ∧ Boxed W m 3 (.int .i64 p.length)) ∧ (c = .exit 0 ∧ pre = p ++ [x] ∧ (∀ y ∈ p, y.1 ≤ k) ∧ k < x.1)) ∧ Below w1.heap.size w1 W)
        (OwnFrom.and (OwnFrom.and (OwnFrom.and (Own.from (boxed_own _ _ (fun _ => _)) _) (Own.from (boxed_own _ _ _) _)) (ownFrom_pure _ _)) (ownFrom_below (Nat.le_refl _) (by omega)))
        (fun c => OwnFrom.and (fun s X Y row ⟨p, x, ⟨h1, h2⟩, h3⟩ hg hr => ⟨p, x, ⟨boxed_turn h1 hg hr, boxed_turn h2 hg hr⟩, h3⟩) (ownFrom_below (Nat.le_refl _) (by omega)))
        ⟨⟨⟨bK2, bP2⟩, fun y hy => by cases hy⟩, hB2⟩
        (fun x a' W => ∃ Bx, m < Bx ∧ BoxT W Bx x ∧ a' = { tmps := #[.slice A ts.length cap, .int .i64 k, .int .i64 t, undef, .pointer (some ⟨w.heap.size, 0, none⟩), undef, .slice none 0 0, .int .i64 0, .slice va os.length vc, .int .i64 0, .pointer (some ⟨m, 0, none⟩), .pointer (some ⟨Bx, 0, none⟩), .tuple #[.slice va os.length vc, .int .i64 0], .slice A ts.length cap, .int .i64 k, .tuple #[.slice va os.length vc, .int .i64 0], .slice va os.length vc, .int .i64 0, .int .i64 0, .bool false, undef, .int .i64 t, .bool true, .bool false, .slice va os.length vc, .func (.func 26) #[] #[.pointer (some ⟨m + 1, 0, none⟩)], .agg #[.int .i64 x.1, .int .i64 x.2], undef, undef, undef, undef, undef, undef, undef, undef, undef, undef, undef, undef, undef], defers := [] })
        (fun x a' _ X Y row hs hg hr => by obtain ⟨Bx, h1, h2, h3⟩ := hs; exact ⟨Bx, h1, boxT_turn h2 hg hr, h3⟩)
        ?assign ?body ?done ?stop
      case assign =>
        rintro l pre x W K ⟨⟨⟨bK, bP⟩, hp⟩, hB⟩ hK
        gi_wp2
        exact hK _ _ ((KeepsOthers.alloc _ _).from _) ((Below.refl _ W).alloc hB.size _) ⟨⟨⟨bK.alloc _, bP.alloc _⟩, hp⟩, hB.alloc hB.size _⟩ ⟨W.heap.size, bP.lt, BoxT.new W x, rfl⟩
      case body =>
        rintro l pre x a' W hl ⟨r, hr⟩ ⟨⟨⟨bK, bP⟩, hp⟩, hB⟩ ⟨Bx, hBx, bY, rfl⟩ hlt
        have cK := bK.cell
        have cP := bP.cell
        have fP := bP.frozen
        have y0 := bY.cell0
        have HP : Hid (∀ y ∈ pre, y.1 ≤ k) := hp
        have HM : Hid (w1.heap.size = m) := hm
        clear hp hm
        by_cases hx : k < x.1
        · gi_wp2
          exact ⟨KeepsFrom.refl _ _, ⟨pre, x, ⟨bK, bP⟩, rfl, rfl, HP.out, hx⟩, hB⟩
        · gi_wp2
          refine ⟨(KeepsOthers.setCell _ _ _).from _, (Below.refl _ _).setCell (p := ⟨m, 0, none⟩) (by have := HM.out; show w1.heap.size ≤ m; omega) _, ⟨⟨bK.other (by omega) _, ?_⟩, fun a b hy => place_go HP.out (by omega) (a, b) hy⟩, hB.setCell (p := ⟨m, 0, none⟩) (by have := HM.out; show w1.heap.size ≤ m; omega) _⟩
          have e : ((pre ++ [x]).length : Int) = (pre.length : Int) + 1 := by simp
          rw [e]
          exact bP.set _
      case done =>
        rintro D ys W hD rfl ⟨⟨⟨bK, bP⟩, hp⟩, hB⟩ hK
        have cK := bK.cell
        have cP := bP.cell
        have HN : Hid (placeI ys k = ys.length) := place_all hp
        have cI := TAIL.out W ys.length D (by omega) bK bP hB (Nat.le_refl _) hK
        clear hp hm
        gi_wp2_with (refine ⟨trivial, ?_⟩; gi_at_call 21; refine (callsIn_wide.2 cI).mono ?_; rintro e w5 ⟨va5, vc5, rfl, hR5, hB5, hK5⟩)
        refine ⟨by simp, .inl ⟨_, _, rfl, run_takeDeferred hK5, ?_⟩⟩
        refine ⟨_, results_tmp2 rfl _ _ _, va5, vc5, by rw [HE.out.1, HE.out.2, insI_len (placeI_le _ _)]; rfl, ?_, hB5.trans (belowK_b (w := w) (Nat.le_refl _) _ D _ _ (by omega) hK5 rfl rfl)⟩
        rw [HE.out.2, insI_len (placeI_le _ _), HN.out]
        exact ownsRow_putObj hR5 _ hK5 rfl
      case stop =>
        rintro D c pre W hD hpre ⟨⟨p, x, ⟨bK, bP⟩, rfl, rfl, hp, hx⟩, hB⟩ hK
        have cK := bK.cell
        have cP := bP.cell
        have HN : Hid (placeI os k = p.length) := place_stop hpre hp hx
        have cI := TAIL.out W p.length D (by omega) bK bP hB (by rw [← HN.out]; exact placeI_le _ _) hK
        clear hp hm
        gi_wp2_with (refine ⟨trivial, ?_⟩; gi_at_call 21; refine (callsIn_wide.2 cI).mono ?_; rintro e w5 ⟨va5, vc5, rfl, hR5, hB5, hK5⟩)
        refine ⟨by simp, .inl ⟨_, _, rfl, run_takeDeferred hK5, ?_⟩⟩
        refine ⟨_, results_tmp2 rfl _ _ _, va5, vc5, by rw [HE.out.1, HE.out.2, insI_len (placeI_le _ _)]; rfl, ?_, hB5.trans (belowK_b (w := w) (Nat.le_refl _) _ D _ _ (by omega) hK5 rfl rfl)⟩
        rw [HE.out.2, insI_len (placeI_le _ _), HN.out]
        exact ownsRow_putObj hR5 _ hK5 rfl
  · obtain ⟨ee, hee⟩ : ∃ ee, stopE ts k = ee := ⟨_, rfl⟩
    have hne : (ee != 0) = true := by
      rw [← hee]; unfold stopE
      by_cases hc : chk 0 ts = true
      · have hk : ¬ kindB k = true := fun h => hok ⟨hc, h⟩
        simp [hc, hk]
      · simp [hc]
    have HE : Hid (setE ts k t = ee ∧ setL ts k t = []) := by
      rw [← hee]
      unfold Hid setE setL stopE
      by_cases hc : chk 0 ts = true
      · have hk : ¬ kindB k = true := fun h => hok ⟨hc, h⟩
        simp [hc, hk]
      · simp [hc]
    rw [hee] at cS
    clear hee hok
    gi_wp2_with (first
      | (refine ⟨trivial, ?_⟩; gi_at_call 13; refine (callsIn_wide.2 cS).mono ?_; rintro e w1 ⟨va, vc, rfl, hR, hB1⟩; have bK1 := boxed_bel bK hB1 (by simp); have cK := bK1.cell))
    refine ⟨_, results_tmp2 rfl _ _ _, none, 0, by rw [HE.out.1, HE.out.2]; rfl, by rw [HE.out.2]; exact RowT.nil _ _, hB0.trans (hB1.mono (by simp))⟩
end Go.Proofs.Ytdmkbnbdbhggkaa
