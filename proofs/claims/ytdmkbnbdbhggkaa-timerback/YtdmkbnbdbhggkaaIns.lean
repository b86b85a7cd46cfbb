/- The contract of slices.Insert at timers, one timer laid in. -/
import Derived.Test.YtdmkbnbdbhggkaaLay
namespace Go.Proofs.Ytdmkbnbdbhggkaa
open Go.ChangeShapes Go.WideShapes Go.ChangeAt Go.RowKit Go.Shelf
set_option linter.unusedVariables false

theorem grown_drew (w : World) (row : Option Nat) : w.grownBy w.drew row := ⟨rfl, rfl, rfl, Nat.le_refl _, fun _ _ _ => rfl⟩
theorem grown_rows {w w1 : World} {g : Nat} (h : w.grownBy w1 (some g)) (cs : Array Value) : w.grownBy (w1.setRow g cs) (some g) :=
  ⟨h.os, h.tape, h.output, Nat.le_trans h.size (by simp [World.setRow]), fun k hk hne => (setRow_other w1 g k cs (fun e => hne (by rw [e]))).trans (h.block k hk hne)⟩

set_option maxRecDepth 100000 in
set_option maxHeartbeats 2000000 in
/-- At the end. -/
theorem ins_end (w : World) (B : Nat) (va : Option Addr) (L vc vb : Nat) (l : List Tm) (x : Tm) (hO : RowT w B va L vc l) (hB : B ≤ w.heap.size) (hL : L ≤ 5) (hv : BoxT w vb x) :
    Calls Try.prog 21 #[.slice va L vc, .int .i64 L, .slice (some ⟨vb, 0, none⟩) 1 1] w fun e w' => ∃ va' vc', e = .returned (.slice va' (L + 1) vc') ∧ RowT w' B va' (L + 1) vc' (insI l L x) ∧ w.grownBy w' (Value.slice va L vc).ownBlock := by
  obtain ⟨i0, hi, hz0, hz1, hz2⟩ := info_parts Try.info31
  have hm := hO.max
  have hlen := hO.len
  have HI : Hid (insI l L x = l ++ [x]) := by unfold Hid insI; rw [← hlen]; simp
  have hnews := World.news_of_block hv
  clear hlen
  go_enter Try.func21, Try.ntmps21
  go_wp2_with (at_builtin; refine wpList_append_lies _ rfl (.tmp 23) (.tmp 24) 22 rfl B 31 i0 (.agg #[.int .i64 0, .int .i64 0]) 2 16 Try.underlying22 hi hz0 hz1 hz2 rfl (by decide) (.slice va L vc) L _ rfl hO ⟨vb, 0, none⟩ 1 1 [.int .i64 x.1, .int .i64 x.2] rfl rfl hnews two_one (by decide) (by unfold maxLen; omega) (by omega) hB _ rfl ?_; intro g1 c1 w1 hown1 hg1 hat1 _; have hgr : Hid (w.grownBy w1 (Value.slice va L vc).ownBlock) := hg1; rw [← tcells_snoc] at hown1; have hR : RowT w1 B (some ⟨g1, 0, none⟩) (L + 1) c1 (l ++ [x]) := hown1; clear hat1 hg1 hown1)
  all_goals (go_ret; exact ⟨_, _, rfl, by rw [HI.out]; exact hR, by cases va <;> exact hgr.out⟩)

theorem nat_i (i : Nat) : ((i : Int) + 1) = ((i + 1 : Nat) : Int) := by omega

set_option maxRecDepth 100000 in
set_option maxHeartbeats 4000000 in
/-- There is room: in place. -/
theorem ins_shift (w : World) (B : Nat) (va : Option Addr) (L vc vb i : Nat) (l : List Tm) (x : Tm) (hO : RowT w B va L vc l) (hL : L ≤ 5) (hv : BoxT w vb x) (hvb : ∀ a, va = some a → a.block ≠ vb) (hi : i < L) (hroom : L + 1 ≤ vc) :
    Calls Try.prog 21 #[.slice va L vc, .int .i64 i, .slice (some ⟨vb, 0, none⟩) 1 1] w fun e w' => ∃ va' vc', e = .returned (.slice va' (L + 1) vc') ∧ RowT w' B va' (L + 1) vc' (insI l i x) ∧ w.grownBy w' (Value.slice va L vc).ownBlock := by
  obtain ⟨g, cur, rfl, hBg, hg, hLc, hcm, hcl, hct⟩ := row_at hO (by omega)
  have hne : vb ≠ g := fun e => hvb _ rfl e.symm
  have hlen := hO.len
  have hTl : (tcells l).length = L * 2 := by rw [tcells_len, hlen]
  have e1 := sl_from g 0 L vc i (i : Int) rfl (by omega) (by omega)
  have e2 := sl_upto (some ⟨g, 0, none⟩) L vc (L + 1) ((L : Int) + 1) (by omega) (by omega)
  have e3 := sl_from g 0 (L + 1) vc (i + 1) ((i : Int) + 1) (by omega) (by omega) (by omega)
  have e4 := sl_from g 0 (L + 1) vc i (i : Int) rfl (by omega) (by omega)
  rw [Nat.zero_add] at e1 e3 e4
  obtain ⟨p0, hp0⟩ : ∃ p0, i * 2 = p0 := ⟨_, rfl⟩
  obtain ⟨p1, hp1⟩ : ∃ p1, (i + 1) * 2 = p1 := ⟨_, rfl⟩
  obtain ⟨n0, hn0⟩ : ∃ n0, L + 1 - i = n0 := ⟨_, rfl⟩
  obtain ⟨n1, hn1⟩ : ∃ n1, L + 1 - (i + 1) = n1 := ⟨_, rfl⟩
  obtain ⟨c0, hc0⟩ : ∃ c0, vc - i = c0 := ⟨_, rfl⟩
  obtain ⟨c1, hc1⟩ : ∃ c1, vc - (i + 1) = c1 := ⟨_, rfl⟩
  obtain ⟨n2, hn2⟩ : ∃ n2, L - i = n2 := ⟨_, rfl⟩
  rw [hp0, hc0, hn2] at e1
  rw [hp1, hn1, hc1] at e3
  rw [hp0, hn0, hc0] at e4
  have hov : (callFunc 27 #[.slice (some ⟨vb, 0, none⟩) 1 1, .slice (some ⟨g, p1, none⟩) n1 c1]).run Try.prog w = .ok (.value (.bool false)) w := by
    rw [run_callFunc_extern Try.func27 (by kernel_rfl) (by kernel_rfl) (by kernel_rfl) (e := Extern.SlicesOverlaps.overlaps #[22, 22] #[4]) (by kernel_rfl),
      Lib.run_overlaps_apart w 22 4 31 Try.underlying22 2 (fun w => by have := size31 w; rw [elem22] at this; exact this) ⟨vb, 0, none⟩ ⟨g, p1, none⟩ 1 1 n1 c1 hne 31 31 2 (vc * 2)
        (by simp [World.shape?, show w.heap[vb]? = _ from hv]) (by simp [World.shape?, hg, hcl]) (by omega) (hv.frozen 0) (hv.frozen 2)]
    rfl
  obtain ⟨T, hT⟩ : ∃ T, tcells l = T := ⟨_, rfl⟩
  rw [hT] at hct hTl
  obtain ⟨D, hD⟩ : ∃ D, T.drop p0 = D := ⟨_, rfl⟩
  have hDl : D.length = n1 * 2 := by rw [← hD, List.length_drop, hTl]; omega
  have h1D : ∀ u ∈ D, u.oneCell' = true := fun u hu => by rw [← hD, ← hT] at hu; exact tcells_one l u (List.mem_of_mem_drop hu)
  have cD : ∀ j v, D[j]? = some v → cur[p0 + j]? = some v := fun j v hj => by
    rw [← hD, List.getElem?_drop, ← hct, List.getElem?_take] at hj
    split at hj
    · exact hj
    · cases hj
  have hcp1 : ∀ ty, (Builtin.copy_ #[22, 22] ty #[.slice (some ⟨g, p1, none⟩) n1 c1, .slice (some ⟨g, p0, none⟩) n0 c0]).run Try.prog w.drew = .ok (goInt n1) (w.drew.setRow g (lay cur p1 D).toArray) := fun ty =>
    run_copy_lay w.drew 22 22 ty 31 g p1 n1 c1 ⟨g, p0, none⟩ n0 c0 n1 2 cur D 31 Try.underlying22 size31' (by simp only [Nat.min_def]; split <;> omega) hDl hg (cell_row (w := w.drew) hg p0 D cD) (by omega) h1D
  obtain ⟨cur1, hcur1⟩ : ∃ c, lay cur p1 D = c := ⟨_, rfl⟩
  have hl1 : cur1.length = vc * 2 := by rw [← hcur1, lay_len (by omega)]; exact hcl
  rw [hcur1] at hcp1
  obtain ⟨w1, hw1⟩ : ∃ w1, w.drew.setRow g cur1.toArray = w1 := ⟨_, rfl⟩
  have hg1 : w1.heap[g]? = some (.cells cur1.toArray 31 (0, 0)) := by rw [← hw1]; exact setRow_heap w.drew g _ _ 31 _ hg
  have hv1 : BoxT w1 vb x := by
    unfold BoxT
    rw [← hw1, setRow_other w.drew g vb _ hne]
    exact hv
  have hgr1 : w.grownBy w1 (some g) := by rw [← hw1]; exact grown_rows (w := w) (grown_drew w _) _
  rw [hw1] at hcp1
  have hcp2 : ∀ ty, (Builtin.copy_ #[22, 22] ty #[.slice (some ⟨g, p0, none⟩) n0 c0, .slice (some ⟨vb, 0, none⟩) 1 1]).run Try.prog w1 = .ok (goInt 1) (w1.setRow g (lay cur1 p0 [.int .i64 x.1, .int .i64 x.2]).toArray) := fun ty =>
    run_copy_lay w1 22 22 ty 31 g p0 n0 c0 ⟨vb, 0, none⟩ 1 1 1 2 cur1 [.int .i64 x.1, .int .i64 x.2] 31 Try.underlying22 size31' (by simp only [Nat.min_def]; split <;> omega) rfl hg1 (World.news_of_block hv1) (by simp; omega) two_one
  obtain ⟨w2, hw2⟩ : ∃ w2, w1.setRow g (lay cur1 p0 [.int .i64 x.1, .int .i64 x.2]).toArray = w2 := ⟨_, rfl⟩
  rw [hw2] at hcp2
  have HF : Hid (RowT w2 B (some ⟨g, 0, none⟩) (L + 1) vc (insI l i x) ∧ w.grownBy w2 (some g)) := by
    refine ⟨row_mk (cur := lay cur1 p0 [.int .i64 x.1, .int .i64 x.2]) hBg (by rw [← hw2]; exact setRow_heap w1 g _ _ 31 _ hg1) (by omega) hcm (by rw [lay_len (by simp; omega)]; exact hl1) (by rw [insI_len (by omega)]; omega) ?_, by rw [← hw2]; exact grown_rows hgr1 _⟩
    rw [tcells_ins, hT, hp0, ← hcur1, ← hD, show (L + 1) * 2 = L * 2 + 2 from by omega, show p1 = p0 + 2 from by omega]
    exact lay_shift hct hTl rfl (by omega) (by omega)
  have HC1 : Hid (∀ ty, (Builtin.copy_ #[22, 22] ty #[.slice (some ⟨g, p1, none⟩) n1 c1, .slice (some ⟨g, p0, none⟩) n0 c0]).run Try.prog w.drew = .ok (goInt n1) w1) := hcp1
  have HC2 : Hid (∀ ty, (Builtin.copy_ #[22, 22] ty #[.slice (some ⟨g, p0, none⟩) n0 c0, .slice (some ⟨vb, 0, none⟩) 1 1]).run Try.prog w1 = .ok (goInt 1) w2) := hcp2
  clear hcp1 hcp2 hw1 hw2 hcur1 hD cD h1D hDl hT hg hg1 hv hv1 hl1 hct hcl hTl hO hvb hp0 hp1 hn0 hn1 hn2 hc0 hc1 hgr1 hlen
  go_enter Try.func21, Try.ntmps21
  go_wp2_with (simp only [hov])
  have hwr : IntKind.i64.wrap ((i : Int) + 1) = (i : Int) + 1 := by rw [IntKind.wrap_i64]; omega
  go_region_law (refine step_copy_is rfl _ _ 22 22 rfl _ _ (by simp [Act.eval, Act.put]) (by simp [Act.eval, Act.put]) (HC1.out _) ?_)
  have hcp2 := HC2.out
  go_wp2_with fail
  go_ret
  exact ⟨_, _, rfl, HF.out⟩
end Go.Proofs.Ytdmkbnbdbhggkaa
