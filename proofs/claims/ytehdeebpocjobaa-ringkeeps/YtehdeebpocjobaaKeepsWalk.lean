/- The walk of RingKeeps. -/
import Derived.Test.YtehdeebpocjobaaKeep
namespace Go.Proofs.Ytehdeebpocjobaa
open Go.ChangeShapes Go.WideShapes Go.ChangeAt Go.RowKit
set_option linter.unusedVariables false

set_option maxRecDepth 100000 in
set_option maxHeartbeats 4000000 in
theorem keeps_walk (K : Int) (A : Option Addr) (n c : Nat) (ps : List Pt) (D : Option Addr) (dn dc : Nat) (xs : List Int) (w : World) (hK : I64 K) (hP : PtsAt w A ps) (hn : ps.length = n) (hnb : n ≤ 140737488351232) (hX : IntsAt w D xs) (hx : xs.length = dn) (hxb : dn ≤ 9223372036854775807) :
    Calls Try.prog 5 #[.int .i64 K, .slice A n c, .slice D dn dc] w fun e w' => e = .returned (.bool true) ∧ Below w.heap.size w w' := by
  have HP : Hid (PtsAt w A ps ∧ ps.length = n ∧ IntsAt w D xs ∧ xs.length = dn) := ⟨hP, hn, hX, hx⟩
  unfold I64 at hK
  clear hP hn hX hx
  rcases (show K < 0 ∨ (0 ≤ K ∧ 1000 < K) ∨ (0 ≤ K ∧ K ≤ 1000 ∧ (100 : Int) < (n : Int)) ∨ (0 ≤ K ∧ K ≤ 1000 ∧ n ≤ 100) from by omega) with h1 | ⟨h1, h2⟩ | ⟨h1, h2, h3⟩ | ⟨h1, h2, h3⟩
  · go_enter Try.func5, Try.ntmps5
    go_wp2_with fail
    refine (heads_any _).mono ?_
    rintro e w1 ⟨rfl, hB1⟩
    go_wp2_with fail
    go_ret
    exact ⟨rfl, hB1⟩
  · go_enter Try.func5, Try.ntmps5
    go_wp2_with fail
    refine (heads_any _).mono ?_
    rintro e w1 ⟨rfl, hB1⟩
    go_wp2_with fail
    go_ret
    exact ⟨rfl, hB1⟩
  · go_enter Try.func5, Try.ntmps5
    go_wp2_with fail
    refine (heads_any _).mono ?_
    rintro e w1 ⟨rfl, hB1⟩
    go_wp2_with fail
    go_ret
    exact ⟨rfl, hB1⟩
  · have h3' : ¬ (100 : Int) < (n : Int) := by omega
    have HST : Hid (Kept w (w.alloc (.cells #[.int .i64 0, .slice none 0 0, .int .i64 K, .bool false] 24)) K 0 0 0 none 0 none 0 []) := ⟨BoxR.new w (.int .i64 0) (.slice none 0 0) (.int .i64 K) (.bool false), World.ownsRow_nil _ _ _ _, SlAt.nil _, fun x hx => (by simp at hx), rfl, by omega, below_more (Below.refl _ _) _⟩
    go_enter Try.func5, Try.ntmps5
    go_wp2_with fail
    go_loopw [8, 9] (fun vl vi wr => ∃ (i L b m : Nat) (ra : Option Addr) (rc : Nat) (va : Option Addr) (vc : Nat) (al : List Int), vi = .int .i64 i ∧ vl = .slice va L vc ∧ i ≤ n ∧ L ≤ 1000 * i ∧ Hid (Kept w wr K b m L ra rc va vc al))
      (fun _ vi _ => n - (intOf vi).toNat)
    case atStart => exact ⟨0, 0, 0, 0, none, 0, none, 0, [], rfl, rfl, Nat.zero_le _, Nat.zero_le _, HST⟩
    case round =>
      clear HST
      obtain ⟨i, L, b, m, ra, rc, va, vc, al, rfl, rfl, hin, hLi, HKT⟩ := hrel
      by_cases hlt : i < n
      · have hlt' : (i : Int) < (n : Int) := by omega
        have hbm : b + m = L := HKT.out.2.2.2.2.1
        have hmK : (m : Int) ≤ K := HKT.out.2.2.2.2.2.1
        obtain ⟨p, hp⟩ : ∃ p, ps[i]? = some p := ⟨_, List.getElem?_eq_getElem (by rw [HP.out.2.1]; exact hlt)⟩
        obtain ⟨pb, po, rfl, hpc, hsl⟩ := HP.out.1.later HKT.out.2.2.2.2.2.2 i p hp
        obtain ⟨wl, hwl⟩ : ∃ wl, p.bs.length = wl := ⟨_, rfl⟩
        rw [hwl] at hpc
        obtain ⟨mn, e1, e2, e3, e4, e5, e6⟩ := k_write (b := b) h2 hmK (by omega) HKT.out.len.2 hwl
        have hwlb : wl ≤ 140737488351232 := by have := hsl.1.1; omega
        have htl : (p.bs.take mn).length = mn := by rw [List.length_take]; omega
        have HW : Hid (∀ W, Below wr.heap.size wr W → Calls Try.prog 8 #[.agg #[.int .i64 (b : Int), .slice ra m rc, .int .i64 K, .bool false], .slice p.a wl p.c] W fun e w' => ∃ na nc, e = .returned (.tuple #[.agg #[.int .i64 (b : Int), .slice na (m + mn) nc, .int .i64 K, .bool false], .int .i64 (mn : Int), .int .i64 0]) ∧ OwnS w' W.heap.size na (m + mn) nc (al.drop b ++ p.bs.take mn) ∧ Below W.heap.size W w') := fun W hW => write_is (b : Int) ra m rc K false (al.drop b) p.a wl p.c p.bs W (HKT.out.2.2.1.later hW) HKT.out.len.2 (by unfold I64; omega) (by unfold I64; omega) (hsl.later hW) hwl _ e1 (m + mn) (by simp only [List.length_append, HKT.out.len.2, htl]) (mn : Int) e2 0 e3
        have HQ : Hid (p.bs.length = wl ∧ (p.bs.take mn).length = mn ∧ ((m + mn : Nat) : Int) ≤ K ∧ (mn < wl → ((m + mn : Nat) : Int) = K) ∧ SlAt wr p.a p.c p.bs ∧ w.heap.size < wr.heap.size) := ⟨hwl, htl, e5, e6, hsl, HKT.out.1.lt⟩
        have hmn2 : m + mn ≤ 1000 := by omega
        have HC : Hid (∀ W, Below wr.heap.size wr W → W.cell? ⟨w.heap.size, 0, none⟩ = some (.int .i64 (b : Int)) ∧ W.cell? ⟨w.heap.size, 1, none⟩ = some (.slice ra m rc) ∧ W.cell? ⟨w.heap.size, 2, none⟩ = some (.int .i64 K) ∧ W.cell? ⟨w.heap.size, 3, none⟩ = some (.bool false) ∧ W.cell? ⟨pb, po + i, none⟩ = some (.slice p.a wl p.c)) := fun W hW => ⟨(HKT.out.1.later hW).cells.1, (HKT.out.1.later hW).cells.2.1, (HKT.out.1.later hW).cells.2.2.1, (HKT.out.1.later hW).cells.2.2.2, (hW.cell (p := ⟨pb, po + i, none⟩) (lt_of_cell hpc)).trans hpc⟩
        have hwz : w.heap.size < wr.heap.size := HKT.out.1.lt
        clear hp hsl hwl e1 e2 e3 e5 e6 htl hpc
        go_upto_region 8 with fail
        go_cut [10, 11, 12] (fun v10 v11 v12 wx => ∃ (pp : Nat) (na : Option Addr) (nc : Nat), v10 = .pointer (some ⟨pp, 0, none⟩) ∧ v11 = .int .i64 (mn : Int) ∧ v12 = .int .i64 0 ∧ Hid (Wrote w wr wx K b m L ra rc va vc al pp na nc mn p.bs))
        case first =>
          go_region_held3 (fun W => W.cell? ⟨w.heap.size, 0, none⟩ = some (.int .i64 (b : Int)) ∧ W.cell? ⟨w.heap.size, 1, none⟩ = some (.slice ra m rc) ∧ W.cell? ⟨w.heap.size, 2, none⟩ = some (.int .i64 K) ∧ W.cell? ⟨w.heap.size, 3, none⟩ = some (.bool false) ∧ W.cell? ⟨pb, po + i, none⟩ = some (.slice p.a wl p.c) ∧ Below wr.heap.size wr W)
            (refine ⟨(HC.out _ ?_).1, (HC.out _ ?_).2.1, (HC.out _ ?_).2.2.1, (HC.out _ ?_).2.2.2.1, (HC.out _ ?_).2.2.2.2, ?_⟩ <;> (repeat (first | with_reducible exact Below.refl _ _ | with_reducible assumption | with_reducible refine Below.drew ?_ | with_reducible refine below_drewN ?_ _ | with_reducible refine below_more ?_ _ | with_reducible refine below_set ?_ _ _ _ (Nat.le_refl _))))
            (first
              | (go_at_call 8; refine (HW.out _ (by repeat (first | with_reducible exact Below.refl _ _ | with_reducible assumption | with_reducible refine Below.drew ?_ | with_reducible refine below_drewN ?_ _ | with_reducible refine below_more ?_ _))).mono ?_; rintro e x1 ⟨na, nc, rfl, hO, hcx1⟩; (try (have hz0 := BoxR.later (g := wr.heap.size) (x0 := .int .i64 0) (x1 := .slice none 0 0) (x2 := .int .i64 0) (x3 := .bool false) (by exact (BoxR.new wr (.int .i64 0) (.slice none 0 0) (.int .i64 0) (.bool false))) hcx1; have z0 := hz0.cells; have z1 := hz0.frozen; have z2 := hz0.lt)); have hbx1 : Below wr.heap.size wr x1 := Below.on (by repeat (first | with_reducible exact Below.refl _ _ | with_reducible assumption | with_reducible refine Below.drew ?_ | with_reducible refine below_drewN ?_ _ | with_reducible refine below_more ?_ _)) hcx1))
          · have hO1 := hO.mono (B' := wr.heap.size) (Below.size (B := wr.heap.size) (w := wr) (by repeat (first | with_reducible exact Below.refl _ _ | with_reducible assumption | with_reducible refine Below.drew ?_ | with_reducible refine below_drewN ?_ _ | with_reducible refine below_more ?_ _)))
            have HN : Hid (Wrote w wr (x1.alloc (.cells #[.int .i64 (b : Int), .slice na (m + mn) nc, .int .i64 K, .bool false] 24)) K b m L ra rc va vc al x1.heap.size na nc mn p.bs) := Wrote.later (wx := x1.alloc (.cells #[.int .i64 (b : Int), .slice na (m + mn) nc, .int .i64 K, .bool false] 24)) ⟨(HKT.out.1.later hbx1).alloc _, BoxR.new _ _ _ _ _, hO1.later (below_more (Below.refl _ _) _), (HKT.out.2.1.later hbx1).later (below_more (Below.refl _ _) _), below_more hbx1 _, by have := hbx1.size; omega⟩ (Below.refl _ _)
            clear hO hO1 hcx1 hbx1
            go_wp2_with fail
            go_meet
            exact ⟨_, na, nc, rfl, rfl, rfl, HN⟩
          · have hO1 := (hO.mono (B' := wr.heap.size + 1) (by simp)).put wr.heap.size (by omega) (.int .i64 (b : Int)) (.slice na (m + mn) nc) (.int .i64 K) (.bool false)
            have HN : Hid (Wrote w wr ((((x1.setCell ⟨wr.heap.size, 0, none⟩ (.int .i64 (b : Int))).setCell ⟨wr.heap.size, 1, none⟩ (.slice na (m + mn) nc)).setCell ⟨wr.heap.size, 2, none⟩ (.int .i64 K)).setCell ⟨wr.heap.size, 3, none⟩ (.bool false)) K b m L ra rc va vc al wr.heap.size na nc mn p.bs) := by
              have hbx := below_put hbx1 wr.heap.size (Nat.le_refl _) (.int .i64 (b : Int)) (.slice na (m + mn) nc) (.int .i64 K) (.bool false)
              exact ⟨HKT.out.1.later hbx, hz0.put _ _ _ _, hO1.mono (Nat.le_succ _), HKT.out.2.1.later hbx, hbx, hwz⟩
            clear hO hO1 hcx1 hbx1 z0 z1 z2 hz0
            go_wp2_with fail
            go_meet
            exact ⟨_, na, nc, rfl, rfl, rfl, HN⟩
        case rest =>
          obtain ⟨pp, na, nc, rfl, rfl, rfl, HWR⟩ := hcut
          clear HW
          have HRM : Hid (mn < wl → ∀ W, Calls Try.prog 17 #[.agg #[.int .i64 (b : Int), .slice na (m + mn) nc, .int .i64 K, .bool false]] W fun e w' => e = .returned (.int .i64 0) ∧ Below W.heap.size W w') := fun h W => room_is (b : Int) na (m + mn) nc K false W (by unfold I64; omega) (by unfold I64; omega) (by omega) 0 (by
            have hmm := HQ.out.2.2.2.1 h
            rw [k_room h2 (by omega) (by omega)]; omega)
          have hpc := (HC.out _ HWR.out.2.2.2.2.1).2.2.2.2
          obtain ⟨q0, q1, q2, q3⟩ := HWR.out.2.1.cells
          have hn0 : ¬ ((mn : Int) < 0) := by omega
          have hn1 : ¬ (wl < mn) := by omega
          go_upto_region 9 with fail
          go_cut [76] (fun v wx => v = .bool false ∧ Hid (Wrote w wr wx K b m L ra rc va vc al pp na nc mn p.bs))
          case first =>
            by_cases hml : mn < wl
            · have hml' : (mn : Int) < (wl : Int) := by omega
              have c5 := HRM.out hml
              go_wp2_with (first | (go_at_call 17; refine (c5 _).mono ?_; rintro e x5 ⟨rfl, hB5⟩))
              go_meet
              exact ⟨by first | rfl | rw [show decide ((mn : Int) < 0) = false from decide_eq_false (by omega), show decide (wl < mn) = false from decide_eq_false (by omega)]; rfl, HWR.out.later hB5⟩
            · have hml' : ¬ (mn : Int) < (wl : Int) := by omega
              go_wp2_with fail
              go_meet
              exact ⟨by first | rfl | rw [show decide ((mn : Int) < 0) = false from decide_eq_false (by omega), show decide (wl < mn) = false from decide_eq_false (by omega)]; rfl, HWR⟩
          case rest =>
            clear HWR HRM hpc q0 q1 q2 q3 hn0 hn1
            obtain ⟨rfl, HWR⟩ := hcut
            have hpc := (HC.out _ HWR.out.2.2.2.2.1).2.2.2.2
            have hplt := lt_of_cell hpc
            have e9 := sl_h p.a wl p.c mn (mn : Int) rfl (by have := HQ.out.2.2.2.2.1.2.2; have := HQ.out.1; omega)
            go_upto_if 89 with (first | (at_builtin; refine list_app rfl (.tmp 77) (.tmp 83) rfl (w.heap.size + 1) va L vc al p.a mn p.c (p.bs.take mn) rfl rfl HWR.out.2.2.2.1 ((HQ.out.2.2.2.2.1.later HWR.out.2.2.2.2.1).1.take mn) HQ.out.2.1 HQ.out.2.2.2.2.1.2.1 (by omega) (by have := HWR.out.1.lt; omega) ?_; intro va2 vc2 wa hRa hBa hga; obtain ⟨y1, y2, y3, y4⟩ := wrote_next HKT.out HWR.out HQ.out.2.2.2.2.1.1.2.1 HQ.out.2.1 HQ.out.2.2.1 hRa hBa hga; obtain ⟨q0, q1, q2, q3⟩ := y1.cells; obtain ⟨j0, j1, j2, j3⟩ := y2.cells; obtain ⟨f0, f1, f2, f3⟩ := y2.frozen; have HY4 : Hid _ := y4; clear y1 y2 y4 hRa hBa hga))
            obtain ⟨X12, hX12⟩ : ∃ X12, ((((wa.setCell ⟨w.heap.size, 0, none⟩ (.int .i64 (b : Int))).setCell ⟨w.heap.size, 1, none⟩ (.slice na (m + mn) nc)).setCell ⟨w.heap.size, 2, none⟩ (.int .i64 K)).setCell ⟨w.heap.size, 3, none⟩ (.bool false)) = X12 := ⟨_, rfl⟩
            rw [hX12] at HY4 ⊢
            have HK4 : Hid (Kept w X12 K b (m + mn) (L + mn) na nc va2 vc2 (al ++ p.bs.take mn)) := HY4
            have hmK2 : ((m + mn : Nat) : Int) ≤ K := HK4.out.2.2.2.2.2.1
            clear hX12 HY4 q0 q1 q2 q3 j0 j1 j2 j3 f0 f1 f2 f3 HWR hpc hplt e9
            go_cut [8] (fun v wx => v = .slice va2 (L + mn) vc2 ∧ ∃ (b2 m2 : Nat) (ra2 : Option Addr) (rc2 : Nat), Hid (Kept w wx K b2 m2 (L + mn) ra2 rc2 va2 vc2 (al ++ p.bs.take mn)))
            case first =>
              obtain ⟨q0, q1, q2, q3⟩ := HK4.out.1.cells
              by_cases hrl : i < dn
              · have hrl' : (i : Int) < (dn : Int) := by omega
                obtain ⟨db, dp, rfl, hdc, hdI⟩ := HP.out.2.2.1.later HK4.out.2.2.2.2.2.2 i (by rw [HP.out.2.2.2]; exact hrl)
                obtain ⟨y, hy⟩ : ∃ y, xs[i]?.getD 0 = y := ⟨_, rfl⟩
                rw [hy] at hdc hdI
                obtain ⟨j8, hj8, hj7⟩ := low3 y
                have HEN : Hid (∀ W, Calls Try.prog 15 #[.agg #[.int .i64 (b : Int), .slice na (m + mn) nc, .int .i64 K, .bool false]] W fun e w' => e = .returned (.int .i64 ((L + mn : Nat) : Int)) ∧ Below W.heap.size W w') := fun W => end_is (b : Int) na (m + mn) nc K false W (by unfold I64; omega) (by unfold I64; omega) (by omega) _ (by rw [k_end h2 (by omega) (by omega)]; congr 1; omega)
                clear hy hdI
                by_cases hjm : j8 ≤ m + mn
                · obtain ⟨g1, g2⟩ := k_rel (b := b) (j := j8) h2 (by omega) (by omega) HK4.out.len.2 hjm
                  obtain ⟨xl, hxl⟩ : ∃ xl, (((al ++ p.bs.take mn).drop b).drop j8).length = xl := ⟨_, rfl⟩
                  have HRL : Hid (∀ W, Below X12.heap.size X12 W → Calls Try.prog 20 #[.agg #[.int .i64 (b : Int), .slice na (m + mn) nc, .int .i64 K, .bool false], .int .i64 ((b : Int) + (j8 : Int))] W fun e w' => ∃ xa xc, e = .returned (.tuple #[.agg #[.int .i64 ((b : Int) + (j8 : Int)), .slice xa xl xc, .int .i64 K, .bool false], .int .i64 0]) ∧ OwnS w' W.heap.size xa xl xc (((al ++ p.bs.take mn).drop b).drop j8) ∧ Below W.heap.size W w') := fun W hW => release_is (b : Int) na (m + mn) nc K false ((al ++ p.bs.take mn).drop b) ((b : Int) + (j8 : Int)) W (HK4.out.2.2.1.later hW) HK4.out.len.2 (by unfold I64; omega) (by unfold I64; omega) (by unfold I64; omega) _ g1 xl hxl 0 g2
                  have hdE : decide ((b : Int) + (j8 : Int) ≤ ((L + mn : Nat) : Int)) = true := decide_eq_true (by omega)
                  have hdE2 : decide ((b : Int) + (j8 : Int) ≤ (L : Int) + (mn : Int)) = true := decide_eq_true (by omega)
                  clear g1 g2 hxl
                  go_wp2_with fail
                  go_quiet (fail)
                  go_wp2_with fail
                  refine (HRL.out _ (below_drewN (Below.refl _ _) _)).mono ?_
                  rintro e w15 ⟨xa, xc, rfl, hO, hB15⟩
                  have hB15' : Below X12.heap.size X12 w15 := Below.on (below_drewN (Below.refl _ _) _) hB15
                  have hO' : OwnS w15 X12.heap.size xa xl xc (((al ++ p.bs.take mn).drop b).drop j8) := hO.mono (by exact Nat.le_refl _)
                  have hbb := below_more hB15' (.cells #[.int .i64 ((b : Int) + (j8 : Int)), .slice xa xl xc, .int .i64 K, .bool false] 24)
                  obtain ⟨r0, r1, r2, r3⟩ := (HK4.out.1.later hbb).cells
                  have hl15 : w.heap.size < w15.heap.size := (HK4.out.1.later hB15').lt
                  have HM : Hid (OwnS (w15.alloc (.cells #[.int .i64 ((b : Int) + (j8 : Int)), .slice xa xl xc, .int .i64 K, .bool false] 24)) X12.heap.size xa xl xc (((al ++ p.bs.take mn).drop b).drop j8) ∧ Below X12.heap.size X12 (w15.alloc (.cells #[.int .i64 ((b : Int) + (j8 : Int)), .slice xa xl xc, .int .i64 K, .bool false] 24)) ∧ BoxR (w15.alloc (.cells #[.int .i64 ((b : Int) + (j8 : Int)), .slice xa xl xc, .int .i64 K, .bool false] 24)) w15.heap.size (.int .i64 ((b : Int) + (j8 : Int))) (.slice xa xl xc) (.int .i64 K) (.bool false)) := ⟨hO'.later (below_more (Below.refl _ _) _), hbb, BoxR.new _ _ _ _ _⟩
                  clear q0 q1 q2 q3 hO hB15 hB15' hO' hbb hdc
                  go_wp2_with fail
                  refine (HEN.out _).mono ?_
                  rintro e w16 ⟨rfl, hB16⟩
                  have hb16 := Below.on HM.out.2.1 hB16
                  have hx16 := HM.out.2.2.later hB16
                  have hr16 := HK4.out.1.later hb16
                  have HF : Hid (OwnS w16 X12.heap.size xa xl xc (((al ++ p.bs.take mn).drop b).drop j8) ∧ Below X12.heap.size X12 w16) := ⟨HM.out.1.later hB16, hb16⟩
                  clear r0 r1 r2 r3
                  obtain ⟨q0, q1, q2, q3⟩ := hx16.cells
                  obtain ⟨j0, j1, j2, j3⟩ := hr16.cells
                  obtain ⟨f0, f1, f2, f3⟩ := hr16.frozen
                  clear hB16 hb16 hx16 hr16 HM
                  go_wp2_with fail
                  go_meet
                  exact ⟨rfl, b + j8, m + mn - j8, xa, xc, rel_next HK4.out hjm HF.out.1 HF.out.2⟩
                · obtain ⟨g1, g2⟩ := k_not (b := b) (K := K) (j := j8) HK4.out.len.2 (by omega)
                  have HRL : Hid (∀ W, Below X12.heap.size X12 W → Calls Try.prog 20 #[.agg #[.int .i64 (b : Int), .slice na (m + mn) nc, .int .i64 K, .bool false], .int .i64 ((b : Int) + (j8 : Int))] W fun e w' => ∃ xa xc, e = .returned (.tuple #[.agg #[.int .i64 0, .slice xa 0 xc, .int .i64 0, .bool false], .int .i64 2]) ∧ OwnS w' W.heap.size xa 0 xc [] ∧ Below W.heap.size W w') := fun W hW => release_is (b : Int) na (m + mn) nc K false ((al ++ p.bs.take mn).drop b) ((b : Int) + (j8 : Int)) W (HK4.out.2.2.1.later hW) HK4.out.len.2 (by unfold I64; omega) (by unfold I64; omega) (by unfold I64; omega) ⟨0, [], 0, false⟩ g1 0 rfl 2 g2
                  have hdE : decide ((b : Int) + (j8 : Int) ≤ ((L + mn : Nat) : Int)) = false := decide_eq_false (by omega)
                  have hdE2 : decide ((b : Int) + (j8 : Int) ≤ (L : Int) + (mn : Int)) = false := decide_eq_false (by omega)
                  clear g1 g2
                  go_wp2_with fail
                  go_quiet (fail)
                  go_wp2_with fail
                  refine (HRL.out _ (below_drewN (Below.refl _ _) _)).mono ?_
                  rintro e w15 ⟨xa, xc, rfl, hO, hB15⟩
                  have hB15' : Below X12.heap.size X12 w15 := Below.on (below_drewN (Below.refl _ _) _) hB15
                  have hbb := below_more hB15' (.cells #[.int .i64 0, .slice xa 0 xc, .int .i64 0, .bool false] 24)
                  obtain ⟨r0, r1, r2, r3⟩ := (HK4.out.1.later hbb).cells
                  have hl15 : w.heap.size < w15.heap.size := (HK4.out.1.later hB15').lt
                  have HM : Hid (Below X12.heap.size X12 (w15.alloc (.cells #[.int .i64 0, .slice xa 0 xc, .int .i64 0, .bool false] 24))) := hbb
                  clear q0 q1 q2 q3 hO hB15 hB15' hbb hdc
                  go_wp2_with fail
                  refine (HEN.out _).mono ?_
                  rintro e w16 ⟨rfl, hB16⟩
                  have HF : Hid (Below X12.heap.size X12 w16) := Below.on HM.out hB16
                  clear r0 r1 r2 r3 hB16 HM
                  go_wp2_with fail
                  go_meet
                  exact ⟨rfl, b, m + mn, na, nc, HK4.out.later HF.out⟩
              · have hrl' : ¬ (i : Int) < (dn : Int) := by omega
                go_wp2_with fail
                go_meet
                exact ⟨rfl, b, m + mn, na, nc, HK4⟩
            case rest =>
              obtain ⟨rfl, b2, m2, ra2, rc2, HK2⟩ := hcut
              clear HK4 hmK2
              have hl2 : (al ++ p.bs.take mn).length = L + mn := HK2.out.len.1
              have hd2 : ((al ++ p.bs.take mn).drop b2).length = m2 := HK2.out.len.2
              have hbm2 : b2 + m2 = L + mn := HK2.out.2.2.2.2.1
              have hmK2 : (m2 : Int) ≤ K := HK2.out.2.2.2.2.2.1
              obtain ⟨al2, hal2⟩ : ∃ al2, (al ++ p.bs.take mn) = al2 := ⟨_, rfl⟩
              rw [hal2] at HK2 hl2 hd2
              have HEN : Hid (∀ W, Calls Try.prog 15 #[.agg #[.int .i64 (b2 : Int), .slice ra2 m2 rc2, .int .i64 K, .bool false]] W fun e w' => e = .returned (.int .i64 ((L + mn : Nat) : Int)) ∧ Below W.heap.size W w') := fun W => end_is (b2 : Int) ra2 m2 rc2 K false W (by unfold I64; omega) (by unfold I64; omega) (by omega) _ (by rw [k_end h2 hmK2 (by omega), hbm2])
              obtain ⟨g1, g2⟩ := k_slice (b := b2) h2 hmK2 (by omega) hd2
              have HSL : Hid (∀ V, Kept w V K b2 m2 (L + mn) ra2 rc2 va2 vc2 al2 → ∀ W, Below V.heap.size V W → Calls Try.prog 22 #[.agg #[.int .i64 (b2 : Int), .slice ra2 m2 rc2, .int .i64 K, .bool false], .int .i64 (b2 : Int), .int .i64 ((L + mn : Nat) : Int)] W fun e w' => ∃ sa sc, e = .returned (.tuple #[.slice sa m2 sc, .int .i64 0]) ∧ OwnS w' W.heap.size sa m2 sc (al2.drop b2) ∧ Below W.heap.size W w') := fun V hV W hW => slice_is (b2 : Int) ra2 m2 rc2 K false (al2.drop b2) (b2 : Int) ((L + mn : Nat) : Int) W (hV.2.2.1.later hW) hd2 (by unfold I64; omega) (by unfold I64; omega) (by unfold I64; omega) (by unfold I64; omega) _ (by rw [hbm2] at g1; exact g1) m2 hd2 0 (by rw [hbm2] at g2; exact g2)
              have HL : Hid ((al ++ p.bs.take mn) = al2 ∧ al2.length = L + mn ∧ (al2.drop b2).length = m2) := ⟨hal2, hl2, hd2⟩
              clear hal2 hl2 hd2 g1 g2
              obtain ⟨q0, q1, q2, q3⟩ := HK2.out.1.cells
              have hn0 : ¬ (L + mn < b2) := by omega
              have hn1 : ¬ (K < (m2 : Int)) := by omega
              go_upto_region 20 with fail
              go_cut [132] (fun v wx => v = .bool false ∧ Hid (Kept w wx K b2 m2 (L + mn) ra2 rc2 va2 vc2 al2))
              case first =>
                go_wp2_with fail
                refine (HEN.out _).mono ?_
                rintro e x20 ⟨rfl, hB20⟩
                clear q0 q1 q2 q3
                obtain ⟨q0, q1, q2, q3⟩ := (HK2.out.1.later hB20).cells
                go_wp2_with fail
                go_meet
                exact ⟨by first | rfl | simp_all, HK2.out.later hB20⟩
              case rest =>
                clear HK2 q0 q1 q2 q3 hn0 hn1
                obtain ⟨rfl, HK2⟩ := hcut
                have HK3 : Hid (∀ W, Below wc.heap.size wc W → W.cell? ⟨w.heap.size, 0, none⟩ = some (.int .i64 (b2 : Int)) ∧ W.cell? ⟨w.heap.size, 1, none⟩ = some (.slice ra2 m2 rc2) ∧ W.cell? ⟨w.heap.size, 2, none⟩ = some (.int .i64 K) ∧ W.cell? ⟨w.heap.size, 3, none⟩ = some (.bool false)) := fun W hW => (HK2.out.1.later hW).cells
                go_upto_region 22 with fail
                go_region_held3 (fun W => W.cell? ⟨w.heap.size, 0, none⟩ = some (.int .i64 (b2 : Int)) ∧ W.cell? ⟨w.heap.size, 1, none⟩ = some (.slice ra2 m2 rc2) ∧ W.cell? ⟨w.heap.size, 2, none⟩ = some (.int .i64 K) ∧ W.cell? ⟨w.heap.size, 3, none⟩ = some (.bool false) ∧ Below wc.heap.size wc W)
                  (refine ⟨(HK3.out _ ?_).1, (HK3.out _ ?_).2.1, (HK3.out _ ?_).2.2.1, (HK3.out _ ?_).2.2.2, ?_⟩ <;> (repeat (first | with_reducible exact Below.refl _ _ | with_reducible assumption | with_reducible refine Below.drew ?_ | with_reducible refine below_drewN ?_ _ | with_reducible refine below_more ?_ _)))
                  (first
                    | (go_at_call 15; refine (HEN.out _).mono ?_; rintro e x1 ⟨rfl, hcx1⟩; have hbx1 : Below wc.heap.size wc x1 := Below.on (by repeat (first | with_reducible exact Below.refl _ _ | with_reducible assumption | with_reducible refine Below.drew ?_ | with_reducible refine below_drewN ?_ _ | with_reducible refine below_more ?_ _)) hcx1)
                    | (go_at_call 22; refine (HSL.out wc HK2.out _ (by repeat (first | with_reducible exact Below.refl _ _ | with_reducible assumption | with_reducible refine Below.drew ?_ | with_reducible refine below_drewN ?_ _ | with_reducible refine below_more ?_ _))).mono ?_; rintro e x2 ⟨sa, sc, rfl, hsl2, hcx2⟩; have hbx2 : Below wc.heap.size wc x2 := Below.on (by repeat (first | with_reducible exact Below.refl _ _ | with_reducible assumption | with_reducible refine Below.drew ?_ | with_reducible refine below_drewN ?_ _ | with_reducible refine below_more ?_ _)) hcx2))
                have HN : Hid (Kept w x2 K b2 m2 (L + mn) ra2 rc2 va2 vc2 al2) := HK2.out.later hbx2
                have e23 := sl_l va2 (L + mn) vc2 b2 (b2 : Int) rfl (by omega)
                have hal : SlAt x2 va2 vc2 al2 := HN.out.2.1.sl HN.out.2.2.2.1 (by rw [HL.out.2.1]; omega)
                have hcd := hal.drop b2
                obtain ⟨A3, hA3⟩ : ∃ A3, cutB va2 vc2 b2 = A3 := ⟨_, rfl⟩
                obtain ⟨C3, hC3⟩ : ∃ C3, vc2 - b2 = C3 := ⟨_, rfl⟩
                have hm3 : L + mn - b2 = m2 := by omega
                rw [hA3, hC3] at hcd
                rw [hA3, hC3, hm3] at e23
                have c24 := same_is sa A3 sc C3 (al2.drop b2) x2 m2 HL.out.2.2 hsl2.sl.1 hcd.1
                obtain ⟨q0, q1, q2, q3⟩ := HN.out.1.cells
                clear hA3 hC3 hcd hal hsl2 hcx1 hcx2 hbx1 hbx2 hm3
                go_wp2_with (first | (go_at_call 24; refine c24.mono ?_; rintro e x3 ⟨rfl, rfl⟩))
                go_roundw
                case rel => exact ⟨i + 1, L + mn, b2, m2, ra2, rc2, va2, vc2, al2, by go_num, rfl, by omega, by omega, HN⟩
                case measure => simp [intOf]; omega
      · obtain rfl : i = n := by omega
        have HB : Hid (Below w.heap.size w wr) := HKT.out.2.2.2.2.2.2
        clear HKT
        go_wp2_with fail
        refine (heads_any _).mono ?_
        rintro e w1 ⟨rfl, hB1⟩
        go_wp2_with fail
        go_ret
        exact ⟨rfl, Below.on HB.out hB1⟩
end Go.Proofs.Ytehdeebpocjobaa
