/- slices.SortFunc, slices.Clone at spans. -/
import Derived.Test.YtokiklaffbdomaaFarP
import Derived.Test.YtokiklaffbdomaaShelf
import Derived.Shelf.SlSortCmp.WholeK
import Derived.Shelf.SlicesG.Cmp
import Derived.Lib.SliceRun
namespace Go.Proofs.Ytokiklaffbdomaa
open Go.Shelf Go.RowKit Go.Lib Go.Sort
set_option linter.unusedVariables false
attribute [local go_sem] Oper.semAt_some

open Sp (Tm)
def encS (x : Tm) : List Value := [.int .i64 x.1, .int .i64 x.2]
set_option maxRecDepth 100000 in
set_option maxHeartbeats 4000000 in
theorem cmp_any (x y : Tm) (W : World) : Calls Try.prog 50 #[.agg #[.int .i64 x.1, .int .i64 x.2], .agg #[.int .i64 y.1, .int .i64 y.2]] W fun e w' => e = .returned (.int .i64 (Lib.compareInt x.1 y.1)) ∧ ∃ q os', w' = grow (W.drewN q) os' := by
  have hcon := fun W' => AnyG.cmp_Compare_int cmpL x.1 y.1 W'
  change ∀ W', Calls Try.prog 51 _ _ _ at hcon
  generalize Lib.compareInt x.1 y.1 = r at hcon ⊢
  go_enter Try.func50, Try.ntmps50
  go_wp2_with (go_at_call 51; refine (hcon _).mono ?_; rintro e w' ⟨rfl, rfl⟩)
  go_ret
  exact ⟨rfl, 0, _, by rw [alloc_eq_grow, alloc_eq_grow, grow_grow]; rfl⟩
theorem ltS (x y : Tm) : ltOf (fun x y : Tm => Lib.compareInt x.1 y.1) x y = decide (x.1 < y.1) := by
  unfold ltOf Lib.compareInt
  by_cases h1 : x.1 < y.1
  · simp [h1]
  · by_cases h2 : y.1 < x.1 <;> simp [h1, h2]
theorem swoS : SWO (ltOf fun x y : Tm => Lib.compareInt x.1 y.1) := {
  irrefl := fun x => by rw [ltS]; simp
  trans := fun x y z h1 h2 => by rw [ltS] at *; simp at *; omega
  ntrans := fun x y z h1 h2 => by rw [ltS] at *; simp at *; omega }
theorem sortW_heap {w : World} {blk off n : Nat} {dk : Array Tm} {os : Array Obj} {j : Nat} (hj : j < w.heap.size) (hne : j ≠ blk) : (sortWorldK encS 2 w blk off n dk os).heap[j]? = w.heap[j]? := by
  show ((w.heap.modify blk _) ++ os)[j]? = _
  rw [Array.getElem?_append_left (by simpa using hj), Array.getElem?_modify, if_neg (fun e => hne e.symm)]
theorem sortW_below {w : World} {blk off n B : Nat} {dk : Array Tm} {os : Array Obj} (hB : B ≤ blk) (hs : B ≤ w.heap.size) : RowKit.Below B w (sortWorldK encS 2 w blk off n dk os) :=
  ⟨rfl, rfl, rfl, by show w.heap.size ≤ ((w.heap.modify blk _) ++ os).size; simp, fun j hj => sortW_heap (by omega) (by omega)⟩
/-- Spans at a block. -/
def FarAt (W : World) (g L : Nat) (d : Nat → Tm) (i : Nat) : Prop := ∀ j, j < L → W.cell? ⟨g, j * 2, none⟩ = some (.int .i64 (d j).1) ∧ W.cell? ⟨g, j * 2 + 1, none⟩ = some (.int .i64 (if j < i then far d j else (d j).2)) ∧ W.frozen? ⟨g, j * 2 + 1, none⟩ = false
set_option maxRecDepth 100000 in
set_option maxHeartbeats 4000000 in
theorem sort_any (g B L vc : Nat) (sp : List Tm) (w : World) (h : Sp.RowT w B (some ⟨g, 0, none⟩) L vc sp) (hL : L ≤ 4611686018427387903) (hB : B ≤ w.heap.size) :
    Calls Try.prog 49 #[.slice (some ⟨g, 0, none⟩) L vc, .func (.func 50) #[] #[]] w fun e W' => e = .returned (.tuple #[]) ∧ ∃ d : List Tm, d.Perm sp ∧ (∀ i j, i < j → j < d.length → (nthS d i).1 ≤ (nthS d j).1) ∧ FarAt W' g L (nthS d) 0 ∧ RowKit.Below B w W' ∧ g < W'.heap.size := by
  have hl := h.len
  have hrec := h.tims
  have hgB : B ≤ g ∧ g < w.heap.size ∧ ∀ k, w.frozen? ⟨g, k, none⟩ = false := by
    rcases h.2 with ⟨e, _⟩ | ⟨g', cap, cur, e, hg, hh, r⟩
    · cases e
    · cases e; exact ⟨hg, (Array.getElem?_eq_some_iff.1 hh).1, fun k => by simp [World.frozen?, hh]⟩
  have hH : HoldsK encS 2 w g 0 sp.toArray := by
    intro t ht
    rw [size_flatK] at ht
    simp only [List.size_toArray] at ht
    rw [get_flatK _ _ _ t (by simpa using ht)]
    obtain ⟨b, o, e, hc, hd⟩ := hrec.2 (t / 2) (by omega)
    cases e
    have hx : sp.toArray[t / 2]! = sp[t / 2]?.getD (0, 0) := by
      simp only [List.getElem!_toArray]
      rw [List.getElem!_eq_getElem?_getD]; rfl
    refine ⟨?_, hgB.2.2 _⟩
    rw [hx]
    rcases Nat.mod_two_eq_zero_or_one t with h0 | h0
    · rw [h0]
      have e2 : 0 + t = 0 + t / 2 * 2 := by omega
      rw [e2, hc]; rfl
    · rw [h0]
      have e2 : 0 + t = 0 + t / 2 * 2 + 1 := by omega
      rw [e2, hd]; rfl
  have eg : ∀ args w, (callFunc 50 args).run Try.prog w = .ok (.enter 50 args) w := enters_of Try.func50 (by kernel_rfl) rfl
  have hcon := AnyQ.slices_SortFunc sortL 2 Try.isAgg54 Try.sizeOf54 encS (fun _ => rfl) (fun x v hv => by simp [encS] at hv; rcases hv with rfl | rfl <;> rfl) (fun x y => Lib.compareInt x.1 y.1) swoS 50 #[] g 0 vc sp.toArray w eg (fun _ _ _ _ x y => cmp_any x y _) hH hgB.2.1 (by simp; omega)
  change Calls Try.prog 49 _ _ _ at hcon
  simp only [List.size_toArray] at hcon
  rw [hl] at hcon
  refine hcon.mono ?_
  rintro e W' ⟨he, d', n, os, hp, hs, rfl⟩
  have hd's : d'.size = L := by have := hp.1; simp at this; omega
  have hX : ∀ j, j < L → d'[j]! = nthS d'.toList j := fun j hj => by
    rw [getElem!_pos d' j (by omega)]; simp [nthS, hd's, hj]
  refine ⟨he, d'.toList, ?_, ?_, ?_, sortW_below hgB.1 hB, Nat.lt_of_lt_of_le hgB.2.1 (size_sortWorldK_c encS 2 w g 0 n d' os)⟩
  · have := hp.2.2
    have e1 : d'.extract 0 L = d' := by rw [← hd's]; simp
    have e2 : sp.toArray.extract 0 L = sp.toArray := by rw [← hl]; simp
    rw [e1, e2] at this
    simpa using this
  · intro i j hij hj
    have := hs i j (Nat.zero_le _) hij (by simpa [hd's] using hj)
    rw [ltS, hX i (by simp [hd's] at hj; omega), hX j (by simpa [hd's] using hj)] at this
    simp at this; exact this
  · have hH' := holdsK_sortWorldK_c encS 2 w g 0 sp.toArray d' n os hH hgB.2.1 (by simp; omega)
    intro j hj
    have c0 := hH'.cell (i := j) (c := 0) (by omega) (by omega)
    have c1 := hH'.cell (i := j) (c := 1) (by omega) (by omega)
    rw [hX j hj] at c0 c1
    simp only [Nat.zero_add, Nat.add_zero] at c0 c1
    exact ⟨c0.1, by simpa [encS] using c1.1, c1.2⟩
set_option maxRecDepth 100000 in
set_option maxHeartbeats 4000000 in
theorem cloneS_any (A : Option Addr) (cap : Nat) (ts : List Tm) (w : World) (hT : Sp.TimsAt w A ts) (hA : A = none → cap = 0) (hb : ts.length * 16 ≤ 140737488355328) :
    Calls Try.prog 48 #[.slice A ts.length cap] w fun e W' => ∃ va vc, e = .returned (.slice va ts.length vc) ∧ Sp.RowT W' w.heap.size va ts.length vc ts ∧ RowKit.Below w.heap.size w W' := by
  have q41 : ∀ (w : World) (a : Option Addr) (n c n' c' : Nat), (binOp .eql 41 (.slice a n c) (.slice none n' c')).run Try.prog w = .ok (.bool a.isNone) w := fun w a n c n' c' => Lib.run_eql_slice_nil w _ _ a n c n' c' Try.underlying41
  cases A with
  | none =>
    have hl : ts = [] := by
      cases ts with
      | nil => rfl
      | cons a r => obtain ⟨_, _, e, _⟩ := hT.2 0 (by simp); cases e
    subst hl
    clear hT hb
    go_enter Try.func48, Try.ntmps48
    go_wp2_with fail
    go_ret
    exact ⟨none, 0, rfl, Sp.RowT.nil _ _, Below.refl _ _⟩
  | some ad =>
    obtain ⟨va', vc', w', hr, hR, hg⟩ := Sp.app_row (w.alloc (.cells #[] 54)) w.heap.size (some ⟨w.heap.size, 0, none⟩) 0 0 [] (Sp.owns_empty w _ (Nat.le_refl _)) (by simp) (some ad) cap ts (hT.alloc _) (fun h => by cases h) (by omega)
    have HB : Hid (RowKit.Below w.heap.size w w') := Sp.below_append (below_new w _) (by simp) (Sp.owns_empty w _ (Nat.le_refl _)) hg
    have HR : Hid (Sp.RowT w' w.heap.size va' ts.length vc' ts) := by simpa [Hid] using hR
    have HRN : Hid ((Builtin.append_ #[41, 41] 41 #[.slice (some ⟨w.heap.size, 0, none⟩) 0 0, .slice (some ad) ts.length cap]).run Try.prog (w.alloc (.cells #[] 54)) = .ok (.slice va' ts.length vc') w') := by
      unfold Hid; rw [hr, Nat.zero_add]
    clear hT hA hb hr hR hg
    obtain ⟨n, hn⟩ : ∃ n, ts.length = n := ⟨_, rfl⟩
    rw [hn] at HR HRN ⊢
    go_enter Try.func48, Try.ntmps48
    go_wp2_with (at_builtin; refine Lib.wpList_append_run (w.alloc (.cells #[] 54)) rfl (.tmp 5) (.tmp 6) 41 41 rfl (.slice (some ⟨w.heap.size, 0, none⟩) 0 0) (.slice (some ad) n cap) rfl rfl (.slice va' n vc') w' HRN.out ?_)
    go_ret
    exact ⟨va', vc', rfl, HR.out, HB.out⟩
end Go.Proofs.Ytokiklaffbdomaa
