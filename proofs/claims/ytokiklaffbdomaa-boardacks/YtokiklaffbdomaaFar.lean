/- The contract of farthest. -/
import Derived.Test.YtokiklaffbdomaaSort
import Derived.Shelf.SlSortCmp.NoneTotal
import Derived.Laws.StructEq
import Derived.Deep.QuietTactic
import Derived.BigQuiet
import Derived.Deep.RegionWith
import Derived.Deep.RegionHeld3
import Derived.Deep.DeepCutAuto
import Derived.BigRegion
namespace Go.Proofs.Ytokiklaffbdomaa
open Go.Shelf Go.RowKit Go.Lib Go.Sort
set_option linter.unusedVariables false
attribute [local go_sem] Oper.semAt_some

open Sp (Tm)
theorem sort_all (B L vc : Nat) (va : Option Addr) (sp : List Tm) (w : World) (h : Sp.RowT w B va L vc sp) (hL : L ≤ 4611686018427387903) (hB : B ≤ w.heap.size) :
    Calls Try.prog 49 #[.slice va L vc, .func (.func 50) #[] #[]] w fun e W' => e = .returned (.tuple #[]) ∧ ∃ d : List Tm, d.Perm sp ∧ (∀ i j, i < j → j < d.length → (nthS d i).1 ≤ (nthS d j).1) ∧ (∀ g, va = some ⟨g, 0, none⟩ → FarAt W' g L (nthS d) 0) ∧ RowKit.Below B w W' := by
  rcases Nat.eq_zero_or_pos L with rfl | h0
  · have hl : sp = [] := List.eq_nil_of_length_eq_zero h.len
    subst hl
    have hc := AnyF.slices_SortFunc_none sortL va vc (.func (.func 50) #[] #[]) w
    change Calls Try.prog 49 _ _ _ at hc
    refine hc.mono ?_
    rintro e W' ⟨he, rfl⟩
    exact ⟨he, [], List.Perm.refl _, fun i j _ h => by simp at h, fun g _ j hj => by omega, Below.refl _ _⟩
  · obtain ⟨g, cur, rfl, _⟩ := Sp.row_at h h0
    refine (sort_any g B L vc sp w h hL hB).mono ?_
    rintro e W' ⟨he, d, h1, h2, h3, h4, _⟩
    exact ⟨he, d, h1, h2, fun g' e => by cases e; exact h3, h4⟩
theorem FarAt.step {W : World} {g L : Nat} {d : Nat → Tm} {m : Nat} (h : FarAt W g L d (m + 1)) (hm : m + 1 < L) (v : Int) (hv : v = far d (m + 1)) : FarAt (W.setCell ⟨g, (m + 1) * 2 + 1, none⟩ (.int .i64 v)) g L d (m + 1 + 1) := by
  subst hv
  intro j hj
  have ⟨c0, c1, fr⟩ := h j hj
  refine ⟨?_, ?_, by rw [World.frozen?_setCell]; exact fr⟩
  · have hne : (⟨g, (m + 1) * 2 + 1, none⟩ : Addr) ≠ ⟨g, j * 2, none⟩ := by intro e; injection e with _ e2; omega
    rw [World.cell?_setCell_other (h := hne)]; exact c0
  · by_cases e : j = m + 1
    · subst e
      rw [World.cell?_setCell_same (h := (h (m + 1) hm).2.1), if_pos (by omega)]
    · have hne : (⟨g, (m + 1) * 2 + 1, none⟩ : Addr) ≠ ⟨g, j * 2 + 1, none⟩ := by intro e'; injection e' with _ e2; omega
      rw [World.cell?_setCell_other (h := hne), c1]
      by_cases h1 : j < m + 1
      · rw [if_pos h1, if_pos (by omega)]
      · rw [if_neg h1, if_neg (by omega)]
set_option maxRecDepth 100000 in
set_option maxHeartbeats 4000000 in
theorem far_any (A : Option Addr) (cap : Nat) (sp : List Tm) (w : World) (hT : Sp.TimsAt w A sp) (hA : A = none → cap = 0) (hb : sp.length * 16 ≤ 140737488355328) :
    Calls Try.prog 41 #[.slice A sp.length cap] w fun e W' => ∃ va vc rs, e = .returned (.slice va sp.length vc) ∧ Sp.TimsAt W' va rs ∧ Reach rs sp ∧ RowKit.Below w.heap.size w W' := by
  have cC := cloneS_any A cap sp w hT hA hb
  obtain ⟨L, hL⟩ : ∃ L, sp.length = L := ⟨_, rfl⟩
  have HL : Hid (sp.length = L) := hL
  rw [hL] at cC hb ⊢
  clear hT hA hL
  go_enter Try.func41, Try.ntmps41
  go_wp2_with fail
  refine cC.mono ?_
  rintro e w1 ⟨va, vc, rfl, hR1, hB1⟩
  have c2 := sort_all w.heap.size L vc va sp w1 hR1 (by omega) hB1.size
  have HG : Hid (0 < L → ∃ g, va = some ⟨g, 0, none⟩ ∧ w.heap.size ≤ g) := fun h0 => by
    obtain ⟨g, cur, e, hg, _⟩ := Sp.row_at hR1 h0
    exact ⟨g, e, hg⟩
  clear cC hR1
  go_wp2_with fail
  refine c2.mono ?_
  rintro e w2 ⟨rfl, d, hp, hs, hF, hB2⟩
  have HP : Hid (Reach (reachL d) sp) := reach_of hp hs
  have HD : Hid (d.length = L) := by unfold Hid; rw [hp.length_eq, HL.out]
  have HB2 : Hid (RowKit.Below w.heap.size w w2) := hB1.trans hB2
  have HF : Hid (∀ g, va = some ⟨g, 0, none⟩ → FarAt w2 g L (nthS d) 1) := fun g e j hj => by
    obtain ⟨h1, h2, h3⟩ := hF g e j hj
    refine ⟨h1, ?_, h3⟩
    rw [h2, if_neg (by omega)]
    by_cases h : j < 1
    · obtain rfl : j = 0 := by omega
      rw [if_pos h]; rfl
    · rw [if_neg h]
  clear c2 hp hs hF hB1 hB2
  go_wp2_with fail
  go_loopw [4] (fun vi wr => ∃ (i : Nat), 1 ≤ i ∧ (i ≤ L ∨ L = 0) ∧ i ≤ 4611686018427387904 ∧ vi = .int .i64 i ∧ Hid (∀ g, va = some ⟨g, 0, none⟩ → FarAt wr g L (nthS d) i) ∧ Hid (RowKit.Below w.heap.size w wr))
    (fun vi _ => L - (intOf vi).toNat)
  case atStart => exact ⟨1, Nat.le_refl _, by omega, by omega, rfl, HF.out, HB2.out⟩
  case round =>
    obtain ⟨i, hi1, hi2, hi3, rfl, HFi, HB⟩ := hrel
    by_cases hlt : i < L
    · obtain ⟨g, rfl, hg⟩ := HG.out (by omega)
      have hfa := HFi.out g rfl
      obtain ⟨m, rfl⟩ : ∃ m, i = m + 1 := ⟨i - 1, by omega⟩
      obtain ⟨_, c1, f1⟩ := hfa (m + 1) hlt
      obtain ⟨_, c0, _⟩ := hfa m (by omega)
      rw [if_neg (by omega)] at c1
      rw [if_pos (by omega)] at c0
      have hfs : far (nthS d) (m + 1) = max (nthS d (m + 1)).2 (far (nthS d) m) := rfl
      obtain ⟨a, ha⟩ : ∃ a, (nthS d (m + 1)).2 = a := ⟨_, rfl⟩
      obtain ⟨c, hc⟩ : ∃ c, far (nthS d) m = c := ⟨_, rfl⟩
      rw [ha] at c1 hfs
      rw [hc] at c0 hfs
      have HS : Hid (∀ v, v = max a c → FarAt (wr.setCell ⟨g, (m + 1) * 2 + 1, none⟩ (.int .i64 v)) g L (nthS d) (m + 1 + 1)) := fun v hv => hfa.step hlt v (by rw [hfs]; exact hv)
      have HB3 : Hid (∀ v, RowKit.Below w.heap.size w (wr.setCell ⟨g, (m + 1) * 2 + 1, none⟩ v)) := fun v => below_set HB.out hg _ _
      have hwm : IntKind.i64.wrap (m : Int) = m := by simp [IntKind.wrap, IntKind.bits, IntKind.signed]; omega
      clear hfa HFi HB hfs ha hc
      by_cases hmx : a < c
      · go_upto_region 6 with fail
        go_region
        go_wp2_with fail
        go_roundw
        case rel => exact ⟨m + 1 + 1, by omega, by omega, by omega, by go_num, fun g' e => (by cases e; exact HS.out _ (by omega)), (HB3.out _).drew⟩
        case measure => simp [intOf]; omega
      · go_upto_region 6 with fail
        go_region
        go_wp2_with fail
        go_roundw
        case rel => exact ⟨m + 1 + 1, by omega, by omega, by omega, by go_num, fun g' e => (by cases e; exact HS.out _ (by omega)), (HB3.out _).drew⟩
        case measure => simp [intOf]; omega
    · have HT : Hid (Sp.TimsAt wr va (reachL d)) := by
        have hlr : (reachL d).length = L := by simp [reachL, HD.out]
        refine ⟨by rw [hlr]; unfold maxLen; omega, fun j hj => ?_⟩
        rw [hlr] at hj
        obtain ⟨g, e, _⟩ := HG.out (by omega)
        obtain ⟨h1, h2, _⟩ := HFi.out g e j hj
        rw [if_pos (by omega)] at h2
        have e2 : (reachL d)[j]?.getD (0, 0) = ((nthS d j).1, far (nthS d) j) := reachL_nth (by rw [HD.out]; exact hj)
        rw [e2]
        exact ⟨g, 0, e, by rw [Nat.zero_add]; exact h1, by rw [Nat.zero_add]; exact h2⟩
      go_wp2_with fail
      go_ret
      exact ⟨va, vc, _, rfl, HT.out, HP.out, HB.out⟩
end Go.Proofs.Ytokiklaffbdomaa
