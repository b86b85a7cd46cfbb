/- The document's Gaps and Covers. -/
import Derived.Test.YtiigipfcagmgnaaRef1
import Derived.Test.YtiigipfcagmgnaaPlain2
namespace Go.Proofs.Ytiigipfcagmgnaa
open Go.ChangeShapes Go.WideShapes Go.ChangeAt Go.RowKit Go.Shelf
set_option linter.unusedVariables false

theorem below_more {V W : World} (h : Below V.heap.size V W) (o : Obj) : Below V.heap.size V (W.alloc o) := h.alloc h.size o
theorem RowT.of_heap {w w' : World} {B : Nat} {va : Option Addr} {L vc : Nat} {l : List Tm} (h : RowT w B va L vc l) (e : w'.heap = w.heap) : RowT w' B va L vc l := by
  refine ⟨h.1, ?_⟩
  rcases h.2 with h' | ⟨g, c, cur, e', hB, hh, r⟩
  · exact .inl h'
  · exact .inr ⟨g, c, cur, e', hB, by rw [e]; exact hh, r⟩

/-- One span more in a row of one's own. -/
theorem app_one (W : World) (B : Nat) (va : Option Addr) (L vc : Nat) (row : List Tm) (hR : RowT W B va L vc row) (hB : B ≤ W.heap.size) (g : Tm) (hb : (L + 1) * 16 ≤ 140737488355328) :
    ∃ va' vc' w', (Builtin.append_ #[22, 22] 22 #[.slice va L vc, .slice (some ⟨W.heap.size, 0, none⟩) 1 1]).run Try.prog (W.alloc (.cells #[.int .i64 g.1, .int .i64 g.2] 24)) = .ok (.slice va' (L + 1) vc') w' ∧ RowT w' B va' (L + 1) vc' (row ++ [g]) ∧ (∀ {V : World}, Below B V W → Below B V w') := by
  obtain ⟨va', vc', w', h1, h2, h3⟩ := app_row (W.alloc (.cells #[.int .i64 g.1, .int .i64 g.2] 24)) B va L vc row (hR.alloc _) (by simp; omega) (some ⟨W.heap.size, 0, none⟩) 1 [g] (lit_tims W [g] (by simp [maxLen])) (fun e => by cases e) hb
  exact ⟨va', vc', w', h1, h2, fun hV => below_append (hV.alloc hB _) (by simp; omega) (hR.alloc _) h3⟩

/-- The document's way to the gaps. -/
def rgStep (t : Int) (q : List Tm × Int) (x : Tm) : List Tm × Int := (if q.2 < x.1 ∧ q.2 < min x.1 t then q.1 ++ [(q.2, min x.1 t)] else q.1, max q.2 x.2)
def rgAll (l : List Tm) (f t : Int) : List Tm × Int := l.foldl (rgStep t) ([], f)
theorem rgAll_snoc (l : List Tm) (f t : Int) (x : Tm) : rgAll (l ++ [x]) f t = rgStep t (rgAll l f t) x := by simp [rgAll]
theorem rg_far : ∀ (l : List Tm) (o : List Tm) (f t : Int), t ≤ f → (l.foldl (rgStep t) (o, f)).1 = o ∧ t ≤ (l.foldl (rgStep t) (o, f)).2
  | [], o, f, t, h => ⟨rfl, h⟩
  | x :: r, o, f, t, h => by
    rw [List.foldl_cons]
    have e1 : rgStep t (o, f) x = (o, max f x.2) := by unfold rgStep; rw [if_neg (by simp only; omega)]
    rw [e1]
    exact rg_far r o (max f x.2) t (by omega)
theorem rg_near : ∀ (l : List Tm) (e : Int) (o : List Tm) (f t : Int), chk e l = true → (l.foldl (rgStep t) (o, f)).1 ++ fin (l.foldl (rgStep t) (o, f)).2 t = o ++ gapsL l f t
  | [], e, o, f, t, _ => by simp [gapsL]
  | x :: r, e, o, f, t, h => by
    rw [chk_cons] at h
    rw [List.foldl_cons]
    by_cases c1 : t ≤ x.1
    · rw [gaps_stop c1]
      have h2 : t ≤ (rgStep t (o, f) x).2 := by show t ≤ max f x.2; omega
      obtain ⟨g1, g2⟩ := rg_far r (rgStep t (o, f) x).1 (rgStep t (o, f) x).2 t h2
      have e0 : ((rgStep t (o, f) x).1, (rgStep t (o, f) x).2) = rgStep t (o, f) x := rfl
      rw [e0] at g1 g2
      rw [g1]
      have e3 : fin (List.foldl (rgStep t) (rgStep t (o, f) x) r).2 t = [] := by unfold fin; rw [if_neg (by omega)]
      rw [e3, List.append_nil]
      unfold rgStep fin
      by_cases c2 : f < t
      · rw [if_pos (by simp only; omega), if_pos c2]
        have : min x.1 t = t := by omega
        rw [this]
      · rw [if_neg (by simp only; omega), if_neg c2, List.append_nil]
    · by_cases c2 : x.2 ≤ f
      · have e1 : rgStep t (o, f) x = (o, f) := by unfold rgStep; rw [if_neg (by simp only; omega)]; exact Prod.ext rfl (by simp only; omega)
        rw [e1, gaps_le c1 c2]
        exact rg_near r x.2 o f t h.2
      · rw [gaps_gt c1 c2]
        by_cases c3 : f < x.1
        · have e1 : rgStep t (o, f) x = (o ++ [(f, x.1)], x.2) := by
            unfold rgStep
            have hm : min x.1 t = x.1 := by omega
            rw [hm, if_pos (by simp only; omega)]; exact Prod.ext rfl (by simp only; omega)
          rw [e1, rg_near r x.2 _ x.2 t h.2, if_pos c3, List.append_assoc]
        · have e1 : rgStep t (o, f) x = (o, x.2) := by
            unfold rgStep; rw [if_neg (by simp only; omega)]; exact Prod.ext rfl (by simp only; omega)
          rw [e1, rg_near r x.2 _ x.2 t h.2, if_neg c3, List.nil_append]
theorem rg_is {l : List Tm} {f t : Int} (h : chk (-1) l = true) : (rgAll l f t).1 ++ fin (rgAll l f t).2 t = gapsL l f t := rg_near l (-1) [] f t h
theorem rgAll_len (l : List Tm) (f t : Int) : (rgAll l f t).1.length ≤ l.length := by
  have : ∀ (l : List Tm) (q : List Tm × Int), (l.foldl (rgStep t) q).1.length ≤ q.1.length + l.length := by
    intro l
    induction l with
    | nil => intro q; simp
    | cons x r ih =>
      intro q
      have h1 := ih (rgStep t q x)
      have h2 : (rgStep t q x).1.length ≤ q.1.length + 1 := by unfold rgStep; simp only; split <;> simp
      simp only [List.foldl_cons, List.length_cons]; omega
  simpa [rgAll] using this l ([], f)

set_option maxRecDepth 100000 in
set_option maxHeartbeats 8000000 in
theorem refGaps_is (A : Option Addr) (cap : Nat) (ts : List Tm) (s : Tm) (w : World) (hT : Got w A cap ts) (n : Nat) (hn : ts.length = n) (hlen : (n + 1) * 16 ≤ 140737488355328) (S : List Tm) (hS : gapsV ts s = S) (m : Nat) (hm : S.length = m) :
    Calls Try.prog 24 #[.slice A n cap, tmV s] w fun e W' => ∃ va vc, e = .returned (.slice va m vc) ∧ Got W' va vc S ∧ Below w.heap.size w W' := by
  have bS := BoxT.new w s
  have hB0 : Below w.heap.size w (w.alloc (.cells #[.int .i64 s.1, .int .i64 s.2] 24)) := (Below.refl _ w).alloc (Nat.le_refl _) _
  cases hc : chk (-1) ts with
  | false =>
    have hS0 : S = [] := by rw [← hS]; unfold gapsV; rw [if_neg (by rw [hc]; decide)]
    subst hS0
    have hm0 : m = 0 := hm.symm
    subst hm0
    have cC := refCheck_is A cap ts _ (hT.later hB0) n hn 60 (by unfold errI; rw [if_neg (by rw [hc]; decide)])
    clear hc hS hm hT hn
    go_enter Try.func24, Try.ntmps24
    go_wp2_with (go_at_call 19; refine cC.mono ?_; rintro e w1 ⟨rfl, hB1⟩)
    go_ret
    exact ⟨none, 0, rfl, ⟨TimsAt.nil _ _, fun _ => rfl⟩, below_next hB0 hB1⟩
  | true =>
    have cC := refCheck_is A cap ts _ (hT.later hB0) n hn 0 (by unfold errI; rw [if_pos hc])
    have hgl : gapsL ts s.1 s.2 = S := by rw [← hS]; unfold gapsV; rw [if_pos hc]
    by_cases hs : s.2 ≤ s.1
    · have hS0 : S = [] := by rw [← hgl]; exact gaps_empty hc (fun o h1 h2 => by omega)
      subst hS0
      have hm0 : m = 0 := hm.symm
      subst hm0
      have hd : decide (s.2 ≤ s.1) = true := by simpa using hs
      clear hc hS hm hT hn hgl hs
      go_enter Try.func24, Try.ntmps24
      go_wp2_with (go_at_call 19; refine cC.mono ?_; rintro e w1 ⟨rfl, hB1⟩; have bS1 := bS.on hB1; have k0 := bS1.cell0; have k1 := bS1.cell1)
      go_ret
      exact ⟨none, 0, rfl, ⟨TimsAt.nil _ _, fun _ => rfl⟩, below_next hB0 hB1⟩
    · have hd : decide (s.2 ≤ s.1) = false := by simpa using hs
      have HRG : Hid ((rgAll ts s.1 s.2).1 ++ fin (rgAll ts s.1 s.2).2 s.2 = S ∧ S.length = m ∧ ts.length = n) := ⟨by rw [rg_is hc, hgl], hm, hn⟩
      have hml : n ≤ 9223372036854775807 := by omega
      obtain ⟨i0, hi, hz0, hz1, hz2⟩ := info_parts Try.info24
      have hGV := hT.later hB0
      obtain ⟨V, hV⟩ : ∃ V, w.alloc (.cells #[.int .i64 s.1, .int .i64 s.2] 24) = V := ⟨_, rfl⟩
      have HVS : Hid (w.alloc (.cells #[.int .i64 s.1, .int .i64 s.2] 24) = V) := hV
      rw [hV] at bS hB0 cC hGV
      have HV : Hid (BoxT V w.heap.size s ∧ Got V A cap ts ∧ Below w.heap.size w V) := ⟨bS, hGV, hB0⟩
      clear hc hS hm hT hn hgl hs hV bS hB0 hGV
      go_enter Try.func24, Try.ntmps24
      go_upto_region 1 with fail
      rw [HVS.out]
      go_wp2_with (go_at_call 19; refine cC.mono ?_; rintro e w1 ⟨rfl, hB1⟩; have bS1 := HV.out.1.on hB1; have k0 := bS1.cell0; have k1 := bS1.cell1)
      go_loopw [5, 6, 7] (fun v va vi wr => ∃ (i L : Nat) (a : Int) (A2 : Option Addr) (c : Nat), vi = .int .i64 i ∧ va = .int .i64 a ∧ v = .slice A2 L c ∧ i ≤ n ∧ L ≤ i ∧ Hid ((rgAll (ts.take i) s.1 s.2).2 = a ∧ (rgAll (ts.take i) s.1 s.2).1.length = L ∧ RowT wr V.heap.size A2 L c (rgAll (ts.take i) s.1 s.2).1 ∧ Below V.heap.size V wr))
        (fun _ _ vi _ => n - (intOf vi).toNat)
      case atStart => exact ⟨0, 0, s.1, none, 0, rfl, rfl, rfl, Nat.zero_le _, Nat.le_refl _, by simp [rgAll], by simp [rgAll], by simpa [rgAll] using RowT.nil _ _, hB1⟩
      case round =>
        obtain ⟨i, L, a, va, vc, rfl, rfl, rfl, hin, hLi, HL⟩ := hrel
        clear bS1 k0 k1 hB1 cC
        obtain ⟨og, hog⟩ : ∃ og, (rgAll (ts.take i) s.1 s.2).1 = og := ⟨_, rfl⟩
        rw [hog] at HL
        have hsz := HL.out.2.2.2.size
        by_cases hlt : i < n
        · have hi' : i < ts.length := by have := HRG.out.2.2; omega
          obtain ⟨kb, ko, e3, hc0, hc1⟩ := HV.out.2.1.1.2 i hi'
          obtain ⟨x, hx⟩ : ∃ x, ts[i]?.getD (0, 0) = x := ⟨_, rfl⟩
          rw [hx] at hc0 hc1
          have HCC : Hid (∀ W, Below V.heap.size V W → W.cell? ⟨kb, ko + i * 2, none⟩ = some (.int .i64 x.1) ∧ W.cell? ⟨kb, ko + i * 2 + 1, none⟩ = some (.int .i64 x.2) ∧ W.cell? ⟨w.heap.size, 0, none⟩ = some (.int .i64 s.1) ∧ W.cell? ⟨w.heap.size, 1, none⟩ = some (.int .i64 s.2)) := fun W hW =>
            ⟨(hW.cell (p := ⟨kb, ko + i * 2, none⟩) (lt_of_cell hc0)).trans hc0, (hW.cell (p := ⟨kb, ko + i * 2 + 1, none⟩) (lt_of_cell hc1)).trans hc1, (HV.out.1.on hW).cell0, (HV.out.1.on hW).cell1⟩
          have htk : ts.take (i + 1) = ts.take i ++ [x] := take_snoc hi' hx
          have HST : Hid (rgAll (ts.take (i + 1)) s.1 s.2 = (if a < x.1 ∧ a < min x.1 s.2 then og ++ [(a, min x.1 s.2)] else og, max a x.2)) := by
            unfold Hid; rw [htk, rgAll_snoc]; unfold rgStep; rw [HL.out.1, hog]
          obtain ⟨p0, p1, p2, p3⟩ := HCC.out wr HL.out.2.2.2
          have hlt' : (i : Int) < (n : Int) := by omega
          obtain ⟨mx, hmx⟩ : ∃ mx, (if a < x.2 then x.2 else a) = mx := ⟨_, rfl⟩
          obtain ⟨mn, hmn⟩ : ∃ mn, (if s.2 < x.1 then s.2 else x.1) = mn := ⟨_, rfl⟩
          have emx : max a x.2 = mx := by rw [← hmx]; split <;> omega
          have emn : min x.1 s.2 = mn := by rw [← hmn]; split <;> omega
          rw [emx, emn] at HST
          have HBW : Hid (Below V.heap.size V wr) := HL.out.2.2.2
          have HRW : Hid (RowT wr V.heap.size va L vc og ∧ og.length = L) := ⟨HL.out.2.2.1, HL.out.2.1⟩
          subst e3
          clear hx htk hi' hc0 hc1 hog emx emn HL
          by_cases h1 : a < x.1
          · by_cases h2 : a < mn
            · have HS2 : Hid (rgAll (ts.take (i + 1)) s.1 s.2 = (og ++ [(a, mn)], mx)) := by unfold Hid; rw [HST.out, if_pos ⟨h1, h2⟩]
              have hbw := HBW.out
              go_upto_region 9 with fail
              go_region_held3 (fun W => W.cell? ⟨kb, ko + i * 2, none⟩ = some (.int .i64 x.1) ∧ W.cell? ⟨kb, ko + i * 2 + 1, none⟩ = some (.int .i64 x.2) ∧ W.cell? ⟨w.heap.size, 0, none⟩ = some (.int .i64 s.1) ∧ W.cell? ⟨w.heap.size, 1, none⟩ = some (.int .i64 s.2) ∧ Below V.heap.size V W)
                (refine ⟨?_, ?_, ?_, ?_, ?_⟩ <;> first | (refine (HCC.out _ ?_).1; (repeat (first | with_reducible exact Below.refl _ _ | with_reducible assumption | with_reducible refine Below.drew ?_ | with_reducible refine below_drewN ?_ _ | with_reducible refine below_more ?_ _)); done) | (refine (HCC.out _ ?_).2.1; (repeat (first | with_reducible exact Below.refl _ _ | with_reducible assumption | with_reducible refine Below.drew ?_ | with_reducible refine below_drewN ?_ _ | with_reducible refine below_more ?_ _)); done) | (refine (HCC.out _ ?_).2.2.1; (repeat (first | with_reducible exact Below.refl _ _ | with_reducible assumption | with_reducible refine Below.drew ?_ | with_reducible refine below_drewN ?_ _ | with_reducible refine below_more ?_ _)); done) | (refine (HCC.out _ ?_).2.2.2; (repeat (first | with_reducible exact Below.refl _ _ | with_reducible assumption | with_reducible refine Below.drew ?_ | with_reducible refine below_drewN ?_ _ | with_reducible refine below_more ?_ _)); done) | ((repeat (first | with_reducible exact Below.refl _ _ | with_reducible assumption | with_reducible refine Below.drew ?_ | with_reducible refine below_drewN ?_ _ | with_reducible refine below_more ?_ _)); done))
                (fail)
              all_goals (
                clear hbw
                have bW : Below V.heap.size V ((wr.alloc (.cells #[.int .i64 a, .int .i64 mn] 24)).drew) := Below.drew (below_more HBW.out _)
                have bG : BoxT ((wr.alloc (.cells #[.int .i64 a, .int .i64 mn] 24)).drew) wr.heap.size (a, mn) := BoxT.new wr (a, mn)
                have HBW2 : Hid (Below V.heap.size V ((wr.alloc (.cells #[.int .i64 a, .int .i64 mn] 24)).drew)) := bW
                have HR2 : Hid (RowT ((wr.alloc (.cells #[.int .i64 a, .int .i64 mn] 24)).drew) V.heap.size va L vc og) := RowT.of_heap (HRW.out.1.alloc (.cells #[.int .i64 a, .int .i64 mn] 24)) (by rfl)
                have hsz2 : ((wr.alloc (.cells #[.int .i64 a, .int .i64 mn] 24)).drew).heap.size = wr.heap.size + 1 := by show (wr.alloc _).heap.size = _; simp
                obtain ⟨W2, hW2⟩ : ∃ W2, (wr.alloc (.cells #[.int .i64 a, .int .i64 mn] 24)).drew = W2 := ⟨_, rfl⟩
                rw [hW2] at bG HBW2 HR2 hsz2 ⊢
                have hsz3 : wr.heap.size < W2.heap.size := by omega
                have g0 := bG.cell0
                have g1 := bG.cell1
                clear bW hW2 hsz2
                obtain ⟨va3, vc3, w3, hrun3, hR3, hb3⟩ := app_one W2 V.heap.size va L vc og HR2.out (by have := HBW2.out.size; omega) (a, mn) (by omega)
                have HRUN : Hid ((Builtin.append_ #[22, 22] 22 #[.slice va L vc, .slice (some ⟨W2.heap.size, 0, none⟩) 1 1]).run Try.prog (W2.alloc (.cells #[.int .i64 a, .int .i64 mn] 24)) = .ok (.slice va3 (L + 1) vc3) w3) := hrun3
                have HR1 : Hid (RowT w3 V.heap.size va3 (L + 1) vc3 (og ++ [(a, mn)])) := hR3
                have HB1 : Hid (Below V.heap.size V w3) := hb3 HBW2.out
                clear hrun3 hR3 hb3
                obtain ⟨q0, q1, q2, q3⟩ := HCC.out w3 HB1.out
                go_wp2_with (at_builtin; refine Lib.wpList_append_run (W2.alloc (.cells #[.int .i64 a, .int .i64 mn] 24)) rfl (.tmp 49) (.tmp 51) 22 22 rfl (.slice va L vc) (.slice (some ⟨W2.heap.size, 0, none⟩) 1 1) rfl rfl (.slice va3 (L + 1) vc3) w3 HRUN.out ?_)
                go_roundw
                case rel => exact ⟨i + 1, L + 1, mx, va3, vc3, by go_num, by first | rfl | trivial, rfl, by omega, by omega, by rw [HS2.out], by rw [HS2.out]; simp [HRW.out.2], by rw [HS2.out]; exact HR1.out, HB1.out⟩
                case measure => simp [intOf]; omega)
            · have HS2 : Hid (rgAll (ts.take (i + 1)) s.1 s.2 = (og, mx)) := by unfold Hid; rw [HST.out, if_neg (fun h => h2 h.2)]
              have hbw := HBW.out
              go_upto_region 9 with fail
              go_region_held3 (fun W => W.cell? ⟨kb, ko + i * 2, none⟩ = some (.int .i64 x.1) ∧ W.cell? ⟨kb, ko + i * 2 + 1, none⟩ = some (.int .i64 x.2) ∧ W.cell? ⟨w.heap.size, 0, none⟩ = some (.int .i64 s.1) ∧ W.cell? ⟨w.heap.size, 1, none⟩ = some (.int .i64 s.2) ∧ Below V.heap.size V W)
                (refine ⟨?_, ?_, ?_, ?_, ?_⟩ <;> first | (refine (HCC.out _ ?_).1; (repeat (first | with_reducible exact Below.refl _ _ | with_reducible assumption | with_reducible refine Below.drew ?_ | with_reducible refine below_drewN ?_ _ | with_reducible refine below_more ?_ _)); done) | (refine (HCC.out _ ?_).2.1; (repeat (first | with_reducible exact Below.refl _ _ | with_reducible assumption | with_reducible refine Below.drew ?_ | with_reducible refine below_drewN ?_ _ | with_reducible refine below_more ?_ _)); done) | (refine (HCC.out _ ?_).2.2.1; (repeat (first | with_reducible exact Below.refl _ _ | with_reducible assumption | with_reducible refine Below.drew ?_ | with_reducible refine below_drewN ?_ _ | with_reducible refine below_more ?_ _)); done) | (refine (HCC.out _ ?_).2.2.2; (repeat (first | with_reducible exact Below.refl _ _ | with_reducible assumption | with_reducible refine Below.drew ?_ | with_reducible refine below_drewN ?_ _ | with_reducible refine below_more ?_ _)); done) | ((repeat (first | with_reducible exact Below.refl _ _ | with_reducible assumption | with_reducible refine Below.drew ?_ | with_reducible refine below_drewN ?_ _ | with_reducible refine below_more ?_ _)); done))
                (fail)
              all_goals (
                clear hbw
                have bW : Below V.heap.size V ((wr.alloc (.cells #[.int .i64 a, .int .i64 mn] 24)).drew) := Below.drew (below_more HBW.out _)
                have bG : BoxT ((wr.alloc (.cells #[.int .i64 a, .int .i64 mn] 24)).drew) wr.heap.size (a, mn) := BoxT.new wr (a, mn)
                have HBW2 : Hid (Below V.heap.size V ((wr.alloc (.cells #[.int .i64 a, .int .i64 mn] 24)).drew)) := bW
                have HR2 : Hid (RowT ((wr.alloc (.cells #[.int .i64 a, .int .i64 mn] 24)).drew) V.heap.size va L vc og) := RowT.of_heap (HRW.out.1.alloc (.cells #[.int .i64 a, .int .i64 mn] 24)) (by rfl)
                obtain ⟨q0, q1, q2, q3⟩ := HCC.out _ bW
                obtain ⟨W2, hW2⟩ : ∃ W2, (wr.alloc (.cells #[.int .i64 a, .int .i64 mn] 24)).drew = W2 := ⟨_, rfl⟩
                rw [hW2] at bG HBW2 HR2 q0 q1 q2 q3 ⊢
                have g0 := bG.cell0
                have g1 := bG.cell1
                clear bW hW2
                go_wp2_with fail
                go_roundw
                case rel => exact ⟨i + 1, L, mx, va, vc, by go_num, by first | rfl | trivial, rfl, by omega, by omega, by rw [HS2.out], by rw [HS2.out]; exact HRW.out.2, by rw [HS2.out]; exact HR2.out, HBW2.out⟩
                case measure => simp [intOf]; omega)
          · have HS2 : Hid (rgAll (ts.take (i + 1)) s.1 s.2 = (og, mx)) := by unfold Hid; rw [HST.out, if_neg (fun h => h1 h.1)]
            go_wp2_with fail
            go_roundw
            case rel => exact ⟨i + 1, L, mx, va, vc, by go_num, by first | rfl | trivial, rfl, by omega, by omega, by rw [HS2.out], by rw [HS2.out]; exact HRW.out.2, by rw [HS2.out]; exact HRW.out.1, HBW.out⟩
            case measure => simp [intOf]; omega
        · obtain rfl : i = n := by omega
          have hall : ts.take i = ts := by rw [← HRG.out.2.2]; exact List.take_length
          rw [hall] at HL hog
          have HEND : Hid (og ++ fin a s.2 = S) := by unfold Hid; rw [← hog, ← HL.out.1]; exact HRG.out.1
          obtain ⟨k0, k1⟩ := HV.out.1.on HL.out.2.2.2 |> fun b => (⟨b.cell0, b.cell1⟩ : _ ∧ _)
          have HBW : Hid (Below V.heap.size V wr) := HL.out.2.2.2
          have HRW : Hid (RowT wr V.heap.size va L vc og ∧ og.length = L) := ⟨HL.out.2.2.1, HL.out.2.1⟩
          clear hall hog HL
          by_cases h2 : a < s.2
          · have HS3 : Hid (og ++ [(a, s.2)] = S ∧ L + 1 = m) := by
              have h := HEND.out; unfold fin at h; rw [if_pos h2] at h
              exact ⟨h, by rw [← HRG.out.2.1, ← h]; simp [HRW.out.2]⟩
            obtain ⟨va3, vc3, w3, hrun3, hR3, hb3⟩ := app_one wr V.heap.size va L vc og HRW.out.1 (by have := HBW.out.size; omega) (a, s.2) (by omega)
            have HRUN : Hid ((Builtin.append_ #[22, 22] 22 #[.slice va L vc, .slice (some ⟨wr.heap.size, 0, none⟩) 1 1]).run Try.prog (wr.alloc (.cells #[.int .i64 a, .int .i64 s.2] 24)) = .ok (.slice va3 (L + 1) vc3) w3) := hrun3
            have HR1 : Hid (RowT w3 V.heap.size va3 (L + 1) vc3 (og ++ [(a, s.2)])) := hR3
            have HB1 : Hid (Below V.heap.size V w3) := hb3 HBW.out
            clear hrun3 hR3 hb3
            go_wp2_with (at_builtin; refine Lib.wpList_append_run (wr.alloc (.cells #[.int .i64 a, .int .i64 s.2] 24)) rfl (.tmp 64) (.tmp 69) 22 22 rfl (.slice va L vc) (.slice (some ⟨wr.heap.size, 0, none⟩) 1 1) rfl rfl (.slice va3 (L + 1) vc3) w3 HRUN.out ?_)
            go_ret
            exact ⟨va3, vc3, by rw [← HS3.out.2]; rfl, by have := HR1.out.got; rwa [HS3.out.1] at this, below_next HV.out.2.2 HB1.out⟩
          · have HS3 : Hid (og = S ∧ L = m) := by
              have h := HEND.out; unfold fin at h; rw [if_neg h2, List.append_nil] at h
              exact ⟨h, by rw [← HRG.out.2.1, ← h]; exact HRW.out.2.symm⟩
            go_wp2_with fail
            go_ret
            exact ⟨va, vc, by rw [← HS3.out.2]; rfl, by have := HRW.out.1.got; rwa [HS3.out.1] at this, below_next HV.out.2.2 HBW.out⟩

set_option maxRecDepth 100000 in
set_option maxHeartbeats 2000000 in
theorem refCovers_is (A : Option Addr) (cap : Nat) (ts : List Tm) (s : Tm) (w : World) (hT : Got w A cap ts) (n : Nat) (hn : ts.length = n) (hlen : (n + 1) * 16 ≤ 140737488355328) (b : Bool) (hb : coversV ts s = b) :
    Calls Try.prog 22 #[.slice A n cap, tmV s] w fun e W' => e = .returned (.bool b) ∧ Below w.heap.size w W' := by
  have bS := BoxT.new w s
  have hB0 : Below w.heap.size w (w.alloc (.cells #[.int .i64 s.1, .int .i64 s.2] 24)) := (Below.refl _ w).alloc (Nat.le_refl _) _
  cases hc : chk (-1) ts with
  | false =>
    have hb0 : b = false := by rw [← hb]; unfold coversV; rw [hc, Bool.false_and]
    subst hb0
    have cC := refCheck_is A cap ts _ (hT.later hB0) n hn 60 (by unfold errI; rw [if_neg (by rw [hc]; decide)])
    clear hc hb hT hn
    go_enter Try.func22, Try.ntmps22
    go_wp2_with (go_at_call 19; refine cC.mono ?_; rintro e w1 ⟨rfl, hB1⟩)
    go_ret
    exact ⟨rfl, below_next hB0 hB1⟩
  | true =>
    have cC := refCheck_is A cap ts _ (hT.later hB0) n hn 0 (by unfold errI; rw [if_pos hc])
    obtain ⟨S, hS⟩ : ∃ S, gapsV ts s = S := ⟨_, rfl⟩
    obtain ⟨m, hm⟩ : ∃ m, S.length = m := ⟨_, rfl⟩
    have hb1 : b = (m == 0) := by
      rw [← hb, ← hm, ← hS]; unfold coversV gapsV; rw [if_pos hc, hc, Bool.true_and]
      cases gapsL ts s.1 s.2 <;> rfl
    have HG : Hid (∀ W, Below w.heap.size w W → Calls Try.prog 24 #[.slice A n cap, tmV s] W fun e W' => ∃ va vc, e = .returned (.slice va m vc) ∧ Got W' va vc S ∧ Below W.heap.size W W') := fun W hW => refGaps_is A cap ts s W (hT.later hW) n hn hlen S hS m hm
    clear hc hT hn hS hm hb
    by_cases h0 : m = 0
    · subst h0
      have hb2 : b = true := hb1
      subst hb2
      clear hb1
      go_enter Try.func22, Try.ntmps22
      go_wp2_with (first | (go_at_call 19; refine cC.mono ?_; rintro e w1 ⟨rfl, hB1⟩; have bS1 := bS.on hB1; have k0 := bS1.cell0; have k1 := bS1.cell1) | (go_at_call 24; refine (HG.out _ (below_next hB0 hB1)).mono ?_; rintro e w2 ⟨va, vc, rfl, _, hB2⟩))
      go_ret
      exact ⟨rfl, below_next (below_next hB0 hB1) hB2⟩
    · have hb2 : b = false := by rw [hb1]; simpa using h0
      subst hb2
      have hm1 : 0 < m := by omega
      have hm0 : ((m : Int) == 0) = false := by simp; omega
      clear hb1 h0
      go_enter Try.func22, Try.ntmps22
      go_wp2_with (first | (go_at_call 19; refine cC.mono ?_; rintro e w1 ⟨rfl, hB1⟩; have bS1 := bS.on hB1; have k0 := bS1.cell0; have k1 := bS1.cell1) | (go_at_call 24; refine (HG.out _ (below_next hB0 hB1)).mono ?_; rintro e w2 ⟨va, vc, rfl, _, hB2⟩))
      go_ret
      exact ⟨rfl, below_next (below_next hB0 hB1) hB2⟩
end Go.Proofs.Ytiigipfcagmgnaa
