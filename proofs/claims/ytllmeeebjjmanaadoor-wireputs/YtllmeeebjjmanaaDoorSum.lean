/- The contracts of sum.Sum and sum.Valid: every parts; nothing that lay has turned. -/
import Derived.Test.YtllmeeebjjmanaaDoorIter
namespace Go.Proofs.YtllmeeebjjmanaaDoor
open Go.ChangeShapes Go.WideShapes Go.ChangeAt Go.RowKit Go.Shelf
set_option linter.unusedVariables false
attribute [local go_sem] Oper.semAt_some

set_option maxHeartbeats 1000000 in
theorem words_in (F : Fence) (n : Nat) (h19 : F.fn 39) (hro : F.round = none) (a : Option Addr) (len cap : Nat) (w : World) :
    CallsIn F n Tryd.prog 39 #[.slice a len cap] w fun e w' => e = .returned (.func (.func 50) #[] #[.pointer (some ⟨w.heap.size, 0, none⟩)]) ∧ w' = w.alloc (.cells #[.slice a len cap] 69) := by
  refine callsIn_of_wp Tryd.func39 rfl h19 ?_ hro
  simp only [Tryd.ntmps39, List.size_toArray, List.length_cons, List.length_nil, Nat.reduceAdd, Nat.reduceSub, Array.replicate_succ, Array.replicate_zero, List.push_toArray, List.append_toArray, List.nil_append, List.cons_append]
  gi_wp2
  go_ret
  exact ⟨rfl, rfl⟩

theorem words_stops (F : Fence) (n : Nat) (h21 : F.fn 50) (hro : F.round = none) (hn : 1 ≤ n) (Bs n₀ cap : Nat) (A : Option Addr) (parts : List (List Int)) (W0 w : World) (hBs : Bs < w.heap.size) (hn₀ : n₀ ≤ w.heap.size)
    (hW0 : W0.heap.size ≤ n₀) (hb0 : Below n₀ W0 w) (hP : PartsAt W0 A parts) (hc : w.cell? ⟨Bs, 0, none⟩ = some (.slice A parts.length cap)) :
    SeqStopsK F n Tryd.prog 50 #[.pointer (some ⟨Bs, 0, none⟩)] (fun x : W16 => #[Value.int .u16 x.1]) (Below n₀) (fun ys => ys.map (·.1) = wordsI parts.flatten)
      (fun _ => True) (parts.flatten.length + 1) w := fun l J Jx W hW _ _ hY h0 =>
  words1_in F n h21 hro hn l Bs n₀ cap A parts J Jx hY W W0 hW0 (hb0.trans (hW.mono hn₀)) hP ((hW.cell (p := ⟨Bs, 0, none⟩) hBs).trans hc) h0

theorem foldl_snoc (pre : List W16) (x : W16) : ((pre ++ [x]).map (·.1)).foldl joinI 0 = joinI ((pre.map (·.1)).foldl joinI 0) x.1 := by simp

set_option maxRecDepth 100000 in
set_option maxHeartbeats 2000000 in
theorem sum_any (A : Option Addr) (cap : Nat) (parts : List (List Int)) (w : World) (hP : PartsAt w A parts) :
    Calls Tryd.prog 24 #[.slice A parts.length cap] w fun e W' => e = .returned (.int .u16 (sumI parts.flatten)) ∧ Below w.heap.size w W' := by
  refine (callsIn_wide (n := 3)).1 ?_
  refine callsIn_of_wp_marks Tryd.func24 rfl trivial ?_ rfl
  simp only [Tryd.ntmps24, List.size_toArray, List.length_cons, List.length_nil, Nat.reduceAdd, Nat.reduceSub, Array.replicate_succ, Array.replicate_zero, List.push_toArray, List.append_toArray, List.nil_append, List.cons_append]
  gi_wp2_with (refine ⟨trivial, ?_⟩; gi_at_call 39; refine (words_in Fence.wide _ trivial rfl _ _ _ _).mono ?_; rintro e w' ⟨rfl, rfl⟩)
  have bS := Boxed.new w 44 (.int .u16 0)
  have bN := Boxed.new (w.alloc (.cells #[.int .u16 0] 44)) 69 (.slice A parts.length cap)
  rw [World.size_alloc] at bN
  have hB0 : Below w.heap.size w ((w.alloc (.cells #[.int .u16 0] 44)).alloc (.cells #[.slice A parts.length cap] 69)) := ((Below.refl _ w).alloc (Nat.le_refl _) _).alloc (by simp) _
  refine wpIn_rangeFunc_ownG (F := Fence.wide) (n := 3) rfl (by omega) (gf := 50) (lb := #[.pointer (some ⟨w.heap.size + 1, 0, none⟩)]) rfl trivial (enters_of Tryd.func50 (by kernel_rfl) rfl)
    (words_stops Fence.wide 2 trivial rfl (by omega) (w.heap.size + 1) w.heap.size cap A parts w _ (by simp) (by simp; omega) (Nat.le_refl _) hB0 hP bN.cell) belowK_t (belowK_b (by simp; omega)) (Below.refl _ _) (fun _ => rfl)
    (fun pre W => (W.cell? ⟨w.heap.size, 0, none⟩ = some (.int .u16 ((pre.map (·.1)).foldl joinI 0)) ∧ W.frozen? ⟨w.heap.size, 0, none⟩ = false) ∧ Below w.heap.size w W)
    (fun _ _ _ => False)
    (OwnFrom.and (Own.from (fun s A B row hs hg hr => ⟨cell_kept hs.1 hg hr, (frozen_kept hs.1 hg hr).trans hs.2⟩) _) (ownFrom_below (Nat.le_refl _) (by simp; omega)))
    (fun _ _ _ _ _ hs _ _ => hs)
    ⟨⟨(bS.alloc _).cell, (bS.alloc _).frozen⟩, hB0⟩
    (fun x => { tmps := #[.slice A parts.length cap, undef, .int .u16 0, .pointer (some ⟨w.heap.size, 0, none⟩), .int .u16 x.1, .slice A parts.length cap, .func (.func 50) #[] #[.pointer (some ⟨w.heap.size + 1, 0, none⟩)], .int .u16 x.1, undef, undef, undef, undef, undef], defers := [] }) ?assign ?body ?done ?stop
  case assign =>
    intro l x W K hK
    gi_wp2
    exact hK
  case body =>
    rintro l pre x W ⟨⟨hc, hf⟩, hB⟩ _
    have hxb := x.2
    obtain ⟨t, ht0⟩ : ∃ t, (pre.map (·.1)).foldl joinI 0 = t := ⟨_, rfl⟩
    have htb : 0 ≤ t ∧ t ≤ 65535 := by
      rw [← ht0]
      refine fold_bd _ _ (by omega) (fun y hy => ?_)
      obtain ⟨v, _, rfl⟩ := List.mem_map.1 hy
      exact v.2
    rw [ht0] at hc
    have ht : Hid ((pre.map (·.1)).foldl joinI 0 = t) := ht0
    clear ht0
    gi_wp2_with (refine ⟨trivial, ?_⟩; gi_at_call 40; refine (CallsIn.inRound l (callsIn_wide.2 (join_walk _ _ htb hxb _))).mono ?_; rintro e w' ⟨rfl, rfl⟩)
    exact ⟨(KeepsOthers.setCell _ _ _).from _, (Below.refl w.heap.size _).setCell (p := ⟨w.heap.size, 0, none⟩) (Nat.le_refl _) _, ⟨by rw [foldl_snoc, ht.out]; exact World.cell?_setCell_same' _ _ _ (by rw [hc]; rfl), by rw [World.frozen?_setCell]; exact hf⟩, hB.setCell (p := ⟨w.heap.size, 0, none⟩) (Nat.le_refl _) _⟩
  case done =>
    rintro D ys W hD hys ⟨⟨hc, _⟩, hB⟩ hK
    rw [hys] at hc
    have hb : 0 ≤ accI parts.flatten ∧ accI parts.flatten ≤ 65535 := by
      refine acc_bd ?_
      intro x hx
      obtain ⟨p, hp, hxp⟩ := List.mem_flatten.1 hx
      obtain ⟨i, hi, rfl⟩ := List.getElem_of_mem hp
      obtain ⟨_, _, _, _, _, _, hba⟩ := hP.2 i hi
      exact hba.2.1 x (by simpa [hi] using hxp)
    have hc' : W.cell? ⟨w.heap.size, 0, none⟩ = some (.int .u16 (accI parts.flatten)) := hc
    clear hc hys
    gi_wp2
    refine ⟨by simp, .inl ⟨_, _, rfl, run_takeDeferred hK, ?_⟩⟩
    exact ⟨_, results_tmp rfl _ _ _, rfl, hB.trans (belowK_b (w := w) (Nat.le_refl _) W D _ _ (by simp at hD; omega) hK rfl rfl)⟩
  case stop =>
    rintro D c pre W _ _ h _
    exact h.elim

theorem valid_any (A : Option Addr) (cap : Nat) (parts : List (List Int)) (w : World) (hP : PartsAt w A parts) :
    Calls Tryd.prog 44 #[.slice A parts.length cap] w fun e W' => e = .returned (.bool (sumI parts.flatten == 0)) ∧ Below w.heap.size w W' := by
  go_enter Tryd.func44, Tryd.ntmps44
  go_wp2_with (go_at_call 24; refine (sum_any _ _ _ _ hP).mono ?_; rintro e w' ⟨rfl, hB⟩)
  go_ret
  exact ⟨rfl, hB⟩
end Go.Proofs.YtllmeeebjjmanaaDoor
