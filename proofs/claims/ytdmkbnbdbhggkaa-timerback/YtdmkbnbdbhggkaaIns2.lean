/- slices.Insert at timers, where there is no room: a new row; and all ways together. -/
import Derived.Test.YtdmkbnbdbhggkaaIns
namespace Go.Proofs.Ytdmkbnbdbhggkaa
open Go.ChangeShapes Go.WideShapes Go.ChangeAt Go.RowKit Go.Shelf
set_option linter.unusedVariables false

theorem zeroCells_len (z : Array Value) (n : Nat) : (Builtin.zeroCells z n).size = n * z.size := by simp [Builtin.zeroCells]

set_option maxRecDepth 100000 in
set_option maxHeartbeats 4000000 in
/-- There is no room: a new row. -/
theorem ins_grow (w : World) (B : Nat) (va : Option Addr) (L vc vb i : Nat) (l : List Tm) (x : Tm) (hO : RowT w B va L vc l) (hB : B ≤ w.heap.size) (hL : L ≤ 5) (hv : BoxT w vb x) (hi : i < L) (hroom : vc < L + 1) :
    Calls Try.prog 21 #[.slice va L vc, .int .i64 i, .slice (some ⟨vb, 0, none⟩) 1 1] w fun e w' => ∃ va' vc', e = .returned (.slice va' (L + 1) vc') ∧ RowT w' B va' (L + 1) vc' (insI l i x) ∧ w.grownBy w' (Value.slice va L vc).ownBlock := by
  obtain ⟨g, cur, rfl, hBg, hg, hLc, hcm, hcl, hct⟩ := row_at hO (by omega)
  obtain ⟨i0, hi0, hz0, hz1, hz2⟩ := info_parts Try.info31
  have hlen := hO.len
  have hTl : (tcells l).length = L * 2 := by rw [tcells_len, hlen]
  have hgw : g < w.heap.size := (Array.getElem?_eq_some_iff.1 hg).1
  have hvw : vb < w.heap.size := hv.lt
  obtain ⟨T, hT⟩ : ∃ T, tcells l = T := ⟨_, rfl⟩
  rw [hT] at hct hTl
  have hold : (Builtin.firstCells i0.size i (.slice (some ⟨g, 0, none⟩) i vc)).run Try.prog w.drew = .ok (T.take (i * 2)).toArray w.drew := by
    rw [hz1]
    have hld := run_loadCells_list (P := Try.prog) w.drew ⟨g, 0, none⟩ (T.take (i * 2)) (cell_row (w := w.drew) hg 0 _ (fun j v hj => by
      rw [List.getElem?_take] at hj
      split at hj
      · rw [← hct, List.getElem?_take] at hj
        split at hj
        · rw [Nat.zero_add]; exact hj
        · cases hj
      · cases hj))
    rw [show (T.take (i * 2)).length = i * 2 from by rw [List.length_take]; omega] at hld
    exact hld
  obtain ⟨G, hG⟩ : ∃ G, grownCap w (L + 1) vc 31 = G := ⟨_, rfl⟩
  have hGn : L + 1 ≤ G := by rw [← hG]; exact grownCap_ge w _ _ _
  have hGm : G ≤ maxLen := by
    rw [← hG]; exact grownCap_le_maxLen w (L + 1) vc 31 (by unfold maxLen; omega)
  obtain ⟨ROW, hROW⟩ : ∃ ROW : List Value, (T.take (i * 2)).toArray ++ Builtin.zeroCells (Value.agg #[.int .i64 0, .int .i64 0]).cells (L + 1 - i) ++ Builtin.zeroCells (Value.agg #[.int .i64 0, .int .i64 0]).cells (G - (L + 1)) = ROW.toArray := ⟨_, rfl⟩
  have hRl : ROW.length = G * 2 := by
    have h1 := congrArg Array.size hROW
    simp only [Array.size_append, zeroCells_len, List.size_toArray, List.length_take, hTl] at h1
    have h2 : (Value.agg #[.int .i64 0, .int .i64 0]).cells.size = 2 := rfl
    rw [h2] at h1
    omega
  have hRt : ROW.take (i * 2) = T.take (i * 2) := by
    have h1 : ROW = (ROW.toArray).toList := rfl
    rw [h1, ← hROW]
    simp only [Array.toList_append]
    rw [List.append_assoc, List.take_append_of_le_length (by simp; omega), List.take_of_length_le (by simp; omega)]
  have hrz : ∀ ty, (Builtin.append_ #[22, 3] ty #[.slice (some ⟨g, 0, none⟩) i vc, .int .i64 ((L : Int) + 1 - (i : Int))]).run Try.prog w = .ok (.slice (some ⟨w.heap.size, 0, none⟩) (L + 1) G) (w.drew.alloc (.cells ROW.toArray 31)) := fun ty => by
    have h := Lib.run_append_grow_zeros w 22 3 ty 31 i0 _ .i64 .i64 Try.underlying22 Try.underlying3 hi0 hz0 (some ⟨g, 0, none⟩) i vc (T.take (i * 2)) hold (L + 1 - i) (by omega) (by omega) (by omega) (by omega) (by rw [hz2]; omega) (by rw [hz2, show i + (L + 1 - i) = L + 1 from by omega]; exact growslice_fits hroom (by omega))
    rw [show i + (L + 1 - i) = L + 1 from by omega, hG, hROW] at h
    rw [show (L : Int) + 1 - (i : Int) = ((L + 1 - i : Nat) : Int) from by omega]
    exact h
  obtain ⟨W1, hW1⟩ : ∃ W1, w.drew.alloc (.cells ROW.toArray 31) = W1 := ⟨_, rfl⟩
  rw [hW1] at hrz
  have hN1 : W1.heap[w.heap.size]? = some (.cells ROW.toArray 31 (0, 0)) := by rw [← hW1]; exact World.alloc_heap_new w.drew _
  have hBo : Below w.heap.size w W1 := by rw [← hW1]; exact ((Below.refl _ w).drew).alloc (Nat.le_refl _) _
  have hv1 : BoxT W1 vb x := hv.below hBo hvw
  have hg1 : W1.heap[g]? = some (.cells cur.toArray 31 (0, 0)) := (hBo.block g hgw).trans hg
  obtain ⟨N, hN⟩ : ∃ N, w.heap.size = N := ⟨_, rfl⟩
  rw [hN] at hrz hN1 hgw hvw hB
  have e1 := sl_from g 0 L vc i (i : Int) rfl (by omega) (by omega)
  have e2 := sl_upto (some ⟨g, 0, none⟩) L vc i (i : Int) rfl (by omega)
  have e3 := sl_from N 0 (L + 1) G i (i : Int) rfl (by omega) (by omega)
  have e4 := sl_from N 0 (L + 1) G (i + 1) ((i : Int) + 1) (by omega) (by omega) (by omega)
  rw [Nat.zero_add] at e1 e3 e4
  obtain ⟨p0, hp0⟩ : ∃ p0, i * 2 = p0 := ⟨_, rfl⟩
  obtain ⟨p1, hp1⟩ : ∃ p1, (i + 1) * 2 = p1 := ⟨_, rfl⟩
  obtain ⟨n0, hn0⟩ : ∃ n0, L + 1 - i = n0 := ⟨_, rfl⟩
  obtain ⟨n1, hn1⟩ : ∃ n1, L + 1 - (i + 1) = n1 := ⟨_, rfl⟩
  obtain ⟨c0, hc0⟩ : ∃ c0, G - i = c0 := ⟨_, rfl⟩
  obtain ⟨c1, hc1⟩ : ∃ c1, G - (i + 1) = c1 := ⟨_, rfl⟩
  obtain ⟨n2, hn2⟩ : ∃ n2, L - i = n2 := ⟨_, rfl⟩
  obtain ⟨c2, hc2⟩ : ∃ c2, vc - i = c2 := ⟨_, rfl⟩
  rw [hp0, hn2, hc2] at e1
  rw [hp0, hn0, hc0] at e3
  rw [hp1, hn1, hc1] at e4
  rw [hp0] at hRt
  have hcp1 : ∀ ty, (Builtin.copy_ #[22, 22] ty #[.slice (some ⟨N, p0, none⟩) n0 c0, .slice (some ⟨vb, 0, none⟩) 1 1]).run Try.prog W1 = .ok (goInt 1) (W1.setRow N (lay ROW p0 [.int .i64 x.1, .int .i64 x.2]).toArray) := fun ty =>
    run_copy_lay W1 22 22 ty 31 N p0 n0 c0 ⟨vb, 0, none⟩ 1 1 1 2 ROW [.int .i64 x.1, .int .i64 x.2] 31 Try.underlying22 size31' (by simp only [Nat.min_def]; split <;> omega) rfl hN1 (World.news_of_block hv1) (by simp; omega) two_one
  obtain ⟨R1, hR1⟩ : ∃ c, lay ROW p0 [.int .i64 x.1, .int .i64 x.2] = c := ⟨_, rfl⟩
  have hl1 : R1.length = G * 2 := by rw [← hR1, lay_len (by simp; omega)]; exact hRl
  rw [hR1] at hcp1
  obtain ⟨W2, hW2⟩ : ∃ W2, W1.setRow N R1.toArray = W2 := ⟨_, rfl⟩
  rw [hW2] at hcp1
  have hN2 : W2.heap[N]? = some (.cells R1.toArray 31 (0, 0)) := by rw [← hW2]; exact setRow_heap W1 N _ _ 31 _ hN1
  have hg2 : W2.heap[g]? = some (.cells cur.toArray 31 (0, 0)) := by rw [← hW2, setRow_other W1 N g _ (by omega)]; exact hg1
  have hB2 : Below w.heap.size w W2 := by rw [← hW2]; exact below_row hBo (by omega) _
  obtain ⟨D, hD⟩ : ∃ D, T.drop p0 = D := ⟨_, rfl⟩
  have hDl : D.length = n1 * 2 := by rw [← hD, List.length_drop, hTl]; omega
  have h1D : ∀ u ∈ D, u.oneCell' = true := fun u hu => by rw [← hD, ← hT] at hu; exact tcells_one l u (List.mem_of_mem_drop hu)
  have cD : ∀ j v, D[j]? = some v → cur[p0 + j]? = some v := fun j v hj => by
    rw [← hD, List.getElem?_drop, ← hct, List.getElem?_take] at hj
    split at hj
    · exact hj
    · cases hj
  have hcp2 : ∀ ty, (Builtin.copy_ #[22, 22] ty #[.slice (some ⟨N, p1, none⟩) n1 c1, .slice (some ⟨g, p0, none⟩) n2 c2]).run Try.prog W2.drew = .ok (goInt n1) (W2.drew.setRow N (lay R1 p1 D).toArray) := fun ty =>
    run_copy_lay W2.drew 22 22 ty 31 N p1 n1 c1 ⟨g, p0, none⟩ n2 c2 n1 2 R1 D 31 Try.underlying22 size31' (by simp only [Nat.min_def]; split <;> omega) hDl hN2 (cell_row (w := W2.drew) hg2 p0 D cD) (by omega) h1D
  obtain ⟨W3, hW3⟩ : ∃ W3, W2.drew.setRow N (lay R1 p1 D).toArray = W3 := ⟨_, rfl⟩
  rw [hW3] at hcp2
  have hgr3 : w.grownBy W3 (some g) := by
    have hb3 : Below w.heap.size w W3 := by rw [← hW3]; exact below_row hB2.drew (by omega) _
    exact ⟨hb3.os, hb3.tape, hb3.output, hb3.size, fun k hk _ => hb3.block k hk⟩
  have HF : Hid (RowT W3 B (some ⟨N, 0, none⟩) (L + 1) G (insI l i x) ∧ w.grownBy W3 (some g)) := by
    refine ⟨row_mk (cur := lay R1 p1 D) (by omega) (by rw [← hW3]; exact setRow_heap W2.drew N _ _ 31 _ hN2) (by omega) hGm (by rw [lay_len (by omega)]; exact hl1) (by rw [insI_len (by omega)]; omega) ?_, hgr3⟩
    rw [tcells_ins, hT, hp0, ← hR1, ← hD, show (L + 1) * 2 = L * 2 + 2 from by omega, show p1 = p0 + 2 from by omega]
    exact lay_grow hRt hTl rfl (by omega) (by omega)
  have HZ : Hid (∀ ty, (Builtin.append_ #[22, 3] ty #[.slice (some ⟨g, 0, none⟩) i vc, .int .i64 ((L : Int) + 1 - (i : Int))]).run Try.prog w = .ok (.slice (some ⟨N, 0, none⟩) (L + 1) G) W1) := hrz
  have HC2 : Hid (∀ ty, (Builtin.copy_ #[22, 22] ty #[.slice (some ⟨N, p1, none⟩) n1 c1, .slice (some ⟨g, p0, none⟩) n2 c2]).run Try.prog W2.drew = .ok (goInt n1) W3) := hcp2
  clear hcp2 hrz hW1 hW2 hW3 hR1 hD cD h1D hDl hT hg hg1 hg2 hv hv1 hl1 hct hcl hTl hO hp0 hp1 hn0 hn1 hn2 hc0 hc1 hc2 hgr3 hB2 hBo hlen hN hN1 hN2 hG hGm hold hROW hRl hRt hz0 hz1 hz2 hi0
  go_enter Try.func21, Try.ntmps21
  go_wp2_with (at_builtin; refine Lib.wpList_append_run _ rfl _ _ _ _ rfl _ _ rfl rfl _ _ (HZ.out _) ?_)
  have hwr : IntKind.i64.wrap ((i : Int) + 1) = (i : Int) + 1 := by rw [IntKind.wrap_i64]; omega
  go_region_law (refine step_copy_is rfl _ _ 22 22 rfl _ _ (by simp [Act.eval, Act.put]) (by simp [Act.eval, Act.put]) (HC2.out _) ?_)
  go_wp2_with fail
  go_ret
  exact ⟨_, _, rfl, HF.out⟩

/-- One timer laid in, wherever. -/
theorem insert_any (w : World) (B : Nat) (va : Option Addr) (L vc vb i : Nat) (l : List Tm) (x : Tm) (hO : RowT w B va L vc l) (hB : B ≤ w.heap.size) (hL : L ≤ 5) (hv : BoxT w vb x) (hvb : ∀ a, va = some a → a.block ≠ vb) (hi : i ≤ L) :
    Calls Try.prog 21 #[.slice va L vc, .int .i64 i, .slice (some ⟨vb, 0, none⟩) 1 1] w fun e w' => ∃ va' vc', e = .returned (.slice va' (L + 1) vc') ∧ RowT w' B va' (L + 1) vc' (insI l i x) ∧ w.grownBy w' (Value.slice va L vc).ownBlock := by
  by_cases h : i < L
  · by_cases hr : L + 1 ≤ vc
    · exact ins_shift w B va L vc vb i l x hO hL hv hvb h hr
    · exact ins_grow w B va L vc vb i l x hO hB hL hv h (by omega)
  · obtain rfl : i = L := by omega
    exact ins_end w B va i vc vb l x hO hB hL hv
end Go.Proofs.Ytdmkbnbdbhggkaa
