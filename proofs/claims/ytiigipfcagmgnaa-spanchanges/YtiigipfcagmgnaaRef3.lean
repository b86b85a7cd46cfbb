/- The document's Cut. -/
import Derived.Test.YtiigipfcagmgnaaRef2
namespace Go.Proofs.Ytiigipfcagmgnaa
open Go.ChangeShapes Go.WideShapes Go.ChangeAt Go.RowKit Go.Shelf
set_option linter.unusedVariables false

/-- One span more in a row of one's own: what else lies as it lay. -/
theorem app_two (W : World) (B : Nat) (va : Option Addr) (L vc : Nat) (row : List Tm) (hR : RowT W B va L vc row) (hB : B ≤ W.heap.size) (g : Tm) (hb : (L + 1) * 16 ≤ 140737488355328) :
    ∃ va' vc' w', (Builtin.append_ #[22, 22] 22 #[.slice va L vc, .slice (some ⟨W.heap.size, 0, none⟩) 1 1]).run Try.prog (W.alloc (.cells #[.int .i64 g.1, .int .i64 g.2] 24)) = .ok (.slice va' (L + 1) vc') w' ∧ RowT w' B va' (L + 1) vc' (row ++ [g]) ∧ (∀ {b : Nat} {V : World}, b ≤ B → Below b V W → Below b V w') ∧ (∀ k, k < W.heap.size → ¬ lies va k → w'.heap[k]? = W.heap[k]?) := by
  obtain ⟨va', vc', w', h1, h2, h3⟩ := app_row (W.alloc (.cells #[.int .i64 g.1, .int .i64 g.2] 24)) B va L vc row (hR.alloc _) (by simp; omega) (some ⟨W.heap.size, 0, none⟩) 1 [g] (lit_tims W [g] (by simp [maxLen])) (fun e => by cases e) hb
  refine ⟨va', vc', w', h1, h2, fun hbB hV => ?_, fun k hk hl => ?_⟩
  · refine (hV.alloc (by omega) _).grown h3 (by simp; omega) (fun k e => ?_)
    rcases row_case hR with ⟨_, e'⟩ | ⟨g, _, e', hBg, _⟩
    · rw [e'] at e; cases e
    · rw [e'] at e; cases e; omega
  · refine (h3.block k (by simp; omega) (fun e => ?_)).trans (Below.heap_alloc _ _ _ hk)
    rcases row_case hR with ⟨_, e'⟩ | ⟨g, e1, e', _⟩
    · rw [e'] at e; cases e
    · rw [e'] at e; cases e; exact hl ⟨_, _, e1⟩

/-- The document's way to cut. -/
def rcL (l : List Tm) (s : Tm) : List Tm := l.flatMap fun x => refPart x s
theorem rcL_snoc (l : List Tm) (s x : Tm) : rcL (l ++ [x]) s = rcL l s ++ refPart x s := by simp [rcL]
theorem rcL_is : ∀ {l : List Tm} {e : Int} {s : Tm}, chk e l = true → s.1 < s.2 → rcL l s = cutL l s
  | [], _, _, _, _ => rfl
  | x :: r, e, s, h, hs => by
    rw [chk_cons] at h
    have ih := rcL_is h.2 hs
    have e1 : rcL (x :: r) s = refPart x s ++ rcL r s := by simp [rcL]
    rw [e1, ih, cutL_cons, refPart_is h.1.2.1 hs]

set_option maxRecDepth 100000 in
set_option maxHeartbeats 2000000 in
/-- A row or a span that may not be cut. -/
theorem refCut_not (A : Option Addr) (cap : Nat) (ts : List Tm) (s : Tm) (w : World) (hT : Got w A cap ts) (n : Nat) (hn : ts.length = n) (hok : ¬ (chk (-1) ts = true ∧ rightB s = true)) (e0 : Int) (he : bothI ts s = e0) :
    Calls Try.prog 16 #[.slice A n cap, tmV s] w fun e W' => e = .returned (.tuple #[.slice none 0 0, .int .i64 e0]) ∧ Below w.heap.size w W' := by
  have bS := BoxT.new w s
  have hB0 : Below w.heap.size w (w.alloc (.cells #[.int .i64 s.1, .int .i64 s.2] 24)) := (Below.refl _ w).alloc (Nat.le_refl _) _
  cases hc : chk (-1) ts with
  | false =>
    have he0 : e0 = 60 := by rw [← he]; unfold bothI; rw [if_neg (by rw [hc]; decide)]
    subst he0
    have cC := refCheck_is A cap ts _ (hT.later hB0) n hn 60 (by unfold errI; rw [if_neg (by rw [hc]; decide)])
    clear hc hT hn hok he
    go_enter Try.func16, Try.ntmps16
    go_wp2_with (go_at_call 19; refine cC.mono ?_; rintro e w1 ⟨rfl, hB1⟩)
    go_ret2
    exact ⟨rfl, below_next hB0 hB1⟩
  | true =>
    have hr : rightB s = false := by
      cases h : rightB s with
      | false => rfl
      | true => exact (hok ⟨hc, h⟩).elim
    have he0 : e0 = 2 := by rw [← he]; unfold bothI; rw [if_pos hc, if_neg (by rw [hr]; decide)]
    subst he0
    have cC := refCheck_is A cap ts _ (hT.later hB0) n hn 0 (by unfold errI; rw [if_pos hc])
    have cR : ∀ W, Calls Try.prog 33 #[tmV s] W fun e w' => e = .returned (.bool false) ∧ w' = W.alloc (.cells #[.int .i64 s.1, .int .i64 s.2] 24) := fun W => by
      have := right_any s W; rw [hr] at this; exact this
    clear hc hT hn hok he hr
    go_enter Try.func16, Try.ntmps16
    go_wp2_with (first | (go_at_call 19; refine cC.mono ?_; rintro e w1 ⟨rfl, hB1⟩; have bS1 := bS.on hB1; have k0 := bS1.cell0; have k1 := bS1.cell1) | (go_at_call 33; refine (cR _).mono ?_; rintro e w2 ⟨rfl, rfl⟩))
    go_ret2
    exact ⟨rfl, below_alloc (below_next hB0 hB1) _⟩

set_option maxRecDepth 100000 in
set_option maxHeartbeats 4000000 in
/-- Nothing is cut. -/
theorem refCut_none (A : Option Addr) (cap : Nat) (ts : List Tm) (s : Tm) (w : World) (hT : Got w A cap ts) (n : Nat) (hn : ts.length = n) (hlen : (n + 1) * 16 ≤ 140737488355328) (hc : chk (-1) ts = true) (hr : rightB s = true) (hem : s.1 = s.2) :
    Calls Try.prog 16 #[.slice A n cap, tmV s] w fun e W' => ∃ va vc, e = .returned (.tuple #[.slice va n vc, .int .i64 0]) ∧ Got W' va vc ts ∧ Below w.heap.size w W' := by
  have bS := BoxT.new w s
  have hB0 : Below w.heap.size w (w.alloc (.cells #[.int .i64 s.1, .int .i64 s.2] 24)) := (Below.refl _ w).alloc (Nat.le_refl _) _
  have cC := refCheck_is A cap ts _ (hT.later hB0) n hn 0 (by unfold errI; rw [if_pos hc])
  have cR : ∀ W, Calls Try.prog 33 #[tmV s] W fun e w' => e = .returned (.bool true) ∧ w' = W.alloc (.cells #[.int .i64 s.1, .int .i64 s.2] 24) := fun W => by
    have := right_any s W; rw [hr] at this; exact this
  have hd : decide (s.2 ≤ s.1) = true := by simp; omega
  have hml : n ≤ 9223372036854775807 := by omega
  have hGV := hT.later hB0
  obtain ⟨V, hV⟩ : ∃ V, w.alloc (.cells #[.int .i64 s.1, .int .i64 s.2] 24) = V := ⟨_, rfl⟩
  have HVS : Hid (w.alloc (.cells #[.int .i64 s.1, .int .i64 s.2] 24) = V) := hV
  rw [hV] at bS hB0 cC hGV
  have HV : Hid (BoxT V w.heap.size s ∧ Got V A cap ts ∧ Below w.heap.size w V) := ⟨bS, hGV, hB0⟩
  have HN : Hid (ts.length = n) := hn
  have h1 : s.2 ≤ s.1 := by omega
  clear hc hr hem hT hn hV bS hB0 hGV
  go_enter Try.func16, Try.ntmps16
  go_upto_region 1 with fail
  rw [HVS.out]
  go_wp2_with (first | (go_at_call 19; refine cC.mono ?_; rintro e w1 ⟨rfl, hB1⟩; have bS1 := HV.out.1.on hB1; have k0 := bS1.cell0; have k1 := bS1.cell1) | (go_at_call 33; refine (cR _).mono ?_; rintro e w2 ⟨rfl, rfl⟩))
  go_loopw [6, 7] (fun v vi wr => ∃ (i : Nat) (A2 : Option Addr) (c : Nat), vi = .int .i64 i ∧ v = .slice A2 i c ∧ i ≤ n ∧ Hid (RowT wr V.heap.size A2 i c (ts.take i) ∧ Below V.heap.size V wr))
    (fun _ vi _ => n - (intOf vi).toNat)
  case atStart => exact ⟨0, none, 0, rfl, rfl, Nat.zero_le _, by simpa using RowT.nil _ _, below_more hB1 _⟩
  case round =>
    obtain ⟨i, va, vc, rfl, rfl, hin, HL⟩ := hrel
    clear bS1 k0 k1 hB1 cC
    by_cases hlt : i < n
    · have hi' : i < ts.length := by have := HN.out; omega
      obtain ⟨kb, ko, e3, hc0, hc1⟩ := HV.out.2.1.1.2 i hi'
      obtain ⟨x, hx⟩ : ∃ x, ts[i]?.getD (0, 0) = x := ⟨_, rfl⟩
      rw [hx] at hc0 hc1
      have p0 := (HL.out.2.cell (p := ⟨kb, ko + i * 2, none⟩) (lt_of_cell hc0)).trans hc0
      have p1 := (HL.out.2.cell (p := ⟨kb, ko + i * 2 + 1, none⟩) (lt_of_cell hc1)).trans hc1
      have bS2 := HV.out.1.on HL.out.2
      have k0 := bS2.cell0
      have k1 := bS2.cell1
      have HTK : Hid (ts.take (i + 1) = ts.take i ++ [x]) := take_snoc hi' hx
      subst e3
      obtain ⟨va3, vc3, w3, hrun3, hR3, hb3, hk3⟩ := app_two wr V.heap.size va (i) vc (ts.take i) HL.out.1 (HL.out.2.size) x (by omega)
      have HRUN3 : Hid ((Builtin.append_ #[22, 22] 22 #[.slice va (i) vc, .slice (some ⟨wr.heap.size, 0, none⟩) 1 1]).run Try.prog (wr.alloc (.cells #[.int .i64 x.1, .int .i64 x.2] 24)) = .ok (.slice va3 (i + 1) vc3) w3) := hrun3
      have HR3 : Hid (RowT w3 V.heap.size va3 (i + 1) vc3 ((ts.take i) ++ [x])) := hR3
      have HB3 : Hid (Below V.heap.size V w3) := hb3 (Nat.le_refl _) HL.out.2
      clear hx hi' hc0 hc1 bS2 hrun3 hR3 hb3 hk3
      go_wp2_with (at_builtin; refine Lib.wpList_append_run (wr.alloc (.cells #[.int .i64 x.1, .int .i64 x.2] 24)) rfl (.tmp 27) (.tmp 32) 22 22 rfl (.slice va (i) vc) (.slice (some ⟨wr.heap.size, 0, none⟩) 1 1) rfl rfl (.slice va3 (i + 1) vc3) w3 HRUN3.out ?_)
      go_roundw
      case rel => exact ⟨i + 1, va3, vc3, by go_num, rfl, by omega, by rw [HTK.out]; exact HR3.out, HB3.out⟩
      case measure => simp [intOf]; omega
    · obtain rfl : i = n := by omega
      have hall : ts.take i = ts := by rw [← HN.out]; exact List.take_length
      rw [hall] at HL
      go_wp2_with fail
      go_ret2
      exact ⟨va, vc, rfl, HL.out.1.got, below_next HV.out.2.2 HL.out.2⟩

set_option maxRecDepth 100000 in
set_option maxHeartbeats 16000000 in
/-- Something is cut. -/
theorem refCut_some (A : Option Addr) (cap : Nat) (ts : List Tm) (s : Tm) (w : World) (hT : Got w A cap ts) (n : Nat) (hn : ts.length = n) (hlen : (n + 1) * 16 ≤ 140737488355328) (hc : chk (-1) ts = true) (hr : rightB s = true) (hem : s.1 < s.2) (m : Nat) (hm : (cutL ts s).length = m) :
    Calls Try.prog 16 #[.slice A n cap, tmV s] w fun e W' => ∃ va vc, e = .returned (.tuple #[.slice va m vc, .int .i64 0]) ∧ Got W' va vc (cutL ts s) ∧ Below w.heap.size w W' := by
  have bS := BoxT.new w s
  have hB0 : Below w.heap.size w (w.alloc (.cells #[.int .i64 s.1, .int .i64 s.2] 24)) := (Below.refl _ w).alloc (Nat.le_refl _) _
  have cC := refCheck_is A cap ts _ (hT.later hB0) n hn 0 (by unfold errI; rw [if_pos hc])
  have cR : ∀ W, Calls Try.prog 33 #[tmV s] W fun e w' => e = .returned (.bool true) ∧ w' = W.alloc (.cells #[.int .i64 s.1, .int .i64 s.2] 24) := fun W => by
    have := right_any s W; rw [hr] at this; exact this
  have hd : decide (s.2 ≤ s.1) = false := by simp; omega
  have hml : n ≤ 9223372036854775807 := by omega
  have hGV := hT.later hB0
  obtain ⟨V, hV⟩ : ∃ V, w.alloc (.cells #[.int .i64 s.1, .int .i64 s.2] 24) = V := ⟨_, rfl⟩
  have HVS : Hid (w.alloc (.cells #[.int .i64 s.1, .int .i64 s.2] 24) = V) := hV
  rw [hV] at bS hB0 cC hGV
  have HV : Hid (BoxT V w.heap.size s ∧ Got V A cap ts ∧ Below w.heap.size w V) := ⟨bS, hGV, hB0⟩
  have HN : Hid (ts.length = n ∧ chk (-1) ts = true ∧ (cutL ts s).length = m ∧ s.1 < s.2) := ⟨hn, hc, hm, hem⟩
  clear hc hr hT hn hV bS hB0 hGV hm
  go_enter Try.func16, Try.ntmps16
  go_upto_region 1 with fail
  rw [HVS.out]
  go_wp2_with (first | (go_at_call 19; refine cC.mono ?_; rintro e w1 ⟨rfl, hB1⟩; have bS1 := HV.out.1.on hB1; have k0 := bS1.cell0; have k1 := bS1.cell1) | (go_at_call 33; refine (cR _).mono ?_; rintro e w2 ⟨rfl, rfl⟩))
  go_loopw [6, 7] (fun v vi wr => ∃ (i L : Nat) (A2 : Option Addr) (c : Nat), vi = .int .i64 i ∧ v = .slice A2 L c ∧ i ≤ n ∧ Hid ((rcL (ts.take i) s).length = L ∧ RowT wr V.heap.size A2 L c (rcL (ts.take i) s) ∧ Below V.heap.size V wr))
    (fun _ vi _ => n - (intOf vi).toNat)
  case atStart => exact ⟨0, 0, none, 0, rfl, rfl, Nat.zero_le _, by simp [rcL], by simpa [rcL] using RowT.nil _ _, below_more hB1 _⟩
  case round =>
    obtain ⟨i, L, va, vc, rfl, rfl, hin, HL⟩ := hrel
    clear bS1 k0 k1 hB1 cC
    obtain ⟨og, hog⟩ : ∃ og, rcL (ts.take i) s = og := ⟨_, rfl⟩
    rw [hog] at HL
    have hsz := HL.out.2.2.size
    by_cases hlt : i < n
    · have hi' : i < ts.length := by have := HN.out.1; omega
      obtain ⟨kb, ko, e3, hc0, hc1⟩ := HV.out.2.1.1.2 i hi'
      obtain ⟨x, hx⟩ : ∃ x, ts[i]?.getD (0, 0) = x := ⟨_, rfl⟩
      rw [hx] at hc0 hc1
      have HCC : Hid (∀ W, Below V.heap.size V W → W.cell? ⟨kb, ko + i * 2, none⟩ = some (.int .i64 x.1) ∧ W.cell? ⟨kb, ko + i * 2 + 1, none⟩ = some (.int .i64 x.2) ∧ W.cell? ⟨w.heap.size, 0, none⟩ = some (.int .i64 s.1) ∧ W.cell? ⟨w.heap.size, 1, none⟩ = some (.int .i64 s.2)) := fun W hW =>
        ⟨(hW.cell (p := ⟨kb, ko + i * 2, none⟩) (lt_of_cell hc0)).trans hc0, (hW.cell (p := ⟨kb, ko + i * 2 + 1, none⟩) (lt_of_cell hc1)).trans hc1, (HV.out.1.on hW).cell0, (HV.out.1.on hW).cell1⟩
      have htk : ts.take (i + 1) = ts.take i ++ [x] := take_snoc hi' hx
      have hnx : rcL (ts.take (i + 1)) s = og ++ refPart x s := by rw [htk, rcL_snoc, hog]
      have hbd : L + (refPart x s).length ≤ n + 1 := by
        have h1 := congrArg List.length hnx
        rw [List.length_append, HL.out.1] at h1
        have hp := chk_prefix' (List.take_prefix (i + 1) ts) HN.out.2.1
        have h2 := cut_len (ts.take (i + 1)) (-1) s hp
        rw [← rcL_is hp HN.out.2.2.2, h1] at h2
        have h3 := List.length_take_le (i + 1) ts
        omega
      obtain ⟨mn, hmn⟩ : ∃ mn, (if s.1 < x.2 then s.1 else x.2) = mn := ⟨_, rfl⟩
      obtain ⟨mx, hmx⟩ : ∃ mx, (if x.1 < s.2 then s.2 else x.1) = mx := ⟨_, rfl⟩
      have emx : max x.1 s.2 = mx := by rw [← hmx]; split <;> omega
      have emn : min x.2 s.1 = mn := by rw [← hmn]; split <;> omega
      unfold refPart at hnx hbd
      rw [emx, emn] at hnx hbd
      obtain ⟨p0, p1, p2, p3⟩ := HCC.out wr HL.out.2.2
      have hlt' : (i : Int) < (n : Int) := by omega
      have HBW : Hid (Below V.heap.size V wr) := HL.out.2.2
      have HRW : Hid (RowT wr V.heap.size va L vc og ∧ og.length = L ∧ (∀ k, lies va k → k < wr.heap.size)) := ⟨HL.out.2.1, HL.out.1, fun k hk => (HL.out.2.1.ge hk).2⟩
      have HNX : Hid (_ = _) := hnx
      subst e3
      clear hx htk hi' hc0 hc1 hog emx emn HL hnx
      by_cases ha : x.1 < mn
      · by_cases hb : mx < x.2
        · have HS2 : Hid (rcL (ts.take (i + 1)) s = og ++ [(x.1, mn)] ++ [(mx, x.2)]) := by
            unfold Hid; rw [HNX.out, if_pos ha, if_pos hb]; simp
          have hbd2 : L + 2 ≤ n + 1 := by
            rw [if_pos ha, if_pos hb] at hbd; simpa using hbd
          have hbw := HBW.out
          go_upto_region 11 with fail
          go_region_held3 (fun W => W.cell? ⟨kb, ko + i * 2, none⟩ = some (.int .i64 x.1) ∧ W.cell? ⟨kb, ko + i * 2 + 1, none⟩ = some (.int .i64 x.2) ∧ W.cell? ⟨w.heap.size, 0, none⟩ = some (.int .i64 s.1) ∧ W.cell? ⟨w.heap.size, 1, none⟩ = some (.int .i64 s.2) ∧ Below V.heap.size V W)
            (refine ⟨?_, ?_, ?_, ?_, ?_⟩ <;> first | (refine (HCC.out _ ?_).1; (repeat (first | with_reducible exact Below.refl _ _ | with_reducible assumption | with_reducible refine Below.drew ?_ | with_reducible refine below_drewN ?_ _ | with_reducible refine below_more ?_ _)); done) | (refine (HCC.out _ ?_).2.1; (repeat (first | with_reducible exact Below.refl _ _ | with_reducible assumption | with_reducible refine Below.drew ?_ | with_reducible refine below_drewN ?_ _ | with_reducible refine below_more ?_ _)); done) | (refine (HCC.out _ ?_).2.2.1; (repeat (first | with_reducible exact Below.refl _ _ | with_reducible assumption | with_reducible refine Below.drew ?_ | with_reducible refine below_drewN ?_ _ | with_reducible refine below_more ?_ _)); done) | (refine (HCC.out _ ?_).2.2.2; (repeat (first | with_reducible exact Below.refl _ _ | with_reducible assumption | with_reducible refine Below.drew ?_ | with_reducible refine below_drewN ?_ _ | with_reducible refine below_more ?_ _)); done) | ((repeat (first | with_reducible exact Below.refl _ _ | with_reducible assumption | with_reducible refine Below.drew ?_ | with_reducible refine below_drewN ?_ _ | with_reducible refine below_more ?_ _)); done))
            (fail)
          all_goals (
            clear hbw
            have bW : Below V.heap.size V ((wr.alloc (.cells #[.int .i64 x.1, .int .i64 mn] 24)).drew) := Below.drew (below_more HBW.out _)
            have bA : BoxT ((wr.alloc (.cells #[.int .i64 x.1, .int .i64 mn] 24)).drew) wr.heap.size (x.1, mn) := BoxT.new wr (x.1, mn)
            have rA : RowT ((wr.alloc (.cells #[.int .i64 x.1, .int .i64 mn] 24)).drew) V.heap.size va L vc og := RowT.of_heap (HRW.out.1.alloc (.cells #[.int .i64 x.1, .int .i64 mn] 24)) (by rfl)
            have hsa : wr.heap.size < ((wr.alloc (.cells #[.int .i64 x.1, .int .i64 mn] 24)).drew).heap.size := bA.lt
            obtain ⟨Wa, hWa⟩ : ∃ Wa, (wr.alloc (.cells #[.int .i64 x.1, .int .i64 mn] 24)).drew = Wa := ⟨_, rfl⟩
            rw [hWa] at bW bA rA hsa ⊢
            have HA : Hid (Below V.heap.size V Wa ∧ BoxT Wa wr.heap.size (x.1, mn) ∧ RowT Wa V.heap.size va L vc og) := ⟨bW, bA, rA⟩
            obtain ⟨r0, r1, r2, r3⟩ := HCC.out Wa bW
            clear hWa bA rA
            go_upto_region 12 with fail
            go_region_held3 (fun W => W.cell? ⟨kb, ko + i * 2, none⟩ = some (.int .i64 x.1) ∧ W.cell? ⟨kb, ko + i * 2 + 1, none⟩ = some (.int .i64 x.2) ∧ W.cell? ⟨w.heap.size, 0, none⟩ = some (.int .i64 s.1) ∧ W.cell? ⟨w.heap.size, 1, none⟩ = some (.int .i64 s.2) ∧ Below V.heap.size V W)
              (refine ⟨?_, ?_, ?_, ?_, ?_⟩ <;> first | (refine (HCC.out _ ?_).1; (repeat (first | with_reducible exact Below.refl _ _ | with_reducible assumption | with_reducible refine Below.drew ?_ | with_reducible refine below_drewN ?_ _ | with_reducible refine below_more ?_ _)); done) | (refine (HCC.out _ ?_).2.1; (repeat (first | with_reducible exact Below.refl _ _ | with_reducible assumption | with_reducible refine Below.drew ?_ | with_reducible refine below_drewN ?_ _ | with_reducible refine below_more ?_ _)); done) | (refine (HCC.out _ ?_).2.2.1; (repeat (first | with_reducible exact Below.refl _ _ | with_reducible assumption | with_reducible refine Below.drew ?_ | with_reducible refine below_drewN ?_ _ | with_reducible refine below_more ?_ _)); done) | (refine (HCC.out _ ?_).2.2.2; (repeat (first | with_reducible exact Below.refl _ _ | with_reducible assumption | with_reducible refine Below.drew ?_ | with_reducible refine below_drewN ?_ _ | with_reducible refine below_more ?_ _)); done) | ((repeat (first | with_reducible exact Below.refl _ _ | with_reducible assumption | with_reducible refine Below.drew ?_ | with_reducible refine below_drewN ?_ _ | with_reducible refine below_more ?_ _)); done))
              (fail)
            all_goals (
              have bW2 : Below V.heap.size V ((Wa.alloc (.cells #[.int .i64 mx, .int .i64 x.2] 24)).drew) := Below.drew (below_more HA.out.1 _)
              have bB : BoxT ((Wa.alloc (.cells #[.int .i64 mx, .int .i64 x.2] 24)).drew) Wa.heap.size (mx, x.2) := BoxT.new Wa (mx, x.2)
              have bA2 : BoxT ((Wa.alloc (.cells #[.int .i64 mx, .int .i64 x.2] 24)).drew) wr.heap.size (x.1, mn) := HA.out.2.1.alloc (.cells #[.int .i64 mx, .int .i64 x.2] 24)
              have rB : RowT ((Wa.alloc (.cells #[.int .i64 mx, .int .i64 x.2] 24)).drew) V.heap.size va L vc og := RowT.of_heap (HA.out.2.2.alloc (.cells #[.int .i64 mx, .int .i64 x.2] 24)) (by rfl)
              have hsb : Wa.heap.size < ((Wa.alloc (.cells #[.int .i64 mx, .int .i64 x.2] 24)).drew).heap.size := bB.lt
              obtain ⟨Wb, hWb⟩ : ∃ Wb, (Wa.alloc (.cells #[.int .i64 mx, .int .i64 x.2] 24)).drew = Wb := ⟨_, rfl⟩
              rw [hWb] at bW2 bB bA2 rB hsb ⊢
              have HB : Hid (Below V.heap.size V Wb ∧ RowT Wb V.heap.size va L vc og) := ⟨bW2, rB⟩
              have a0 := bA2.cell0
              have a1 := bA2.cell1
              have b0 := bB.cell0
              have b1 := bB.cell1
              obtain ⟨va3, vc3, w3, hrun3, hR3, hb3, hk3⟩ := app_two Wb V.heap.size va (L) vc og HB.out.2 (by have := HB.out.1.size; omega) (x.1, mn) (by omega)
              have HRUN3 : Hid ((Builtin.append_ #[22, 22] 22 #[.slice va (L) vc, .slice (some ⟨Wb.heap.size, 0, none⟩) 1 1]).run Try.prog (Wb.alloc (.cells #[.int .i64 x.1, .int .i64 mn] 24)) = .ok (.slice va3 (L + 1) vc3) w3) := hrun3
              have HR3 : Hid (RowT w3 V.heap.size va3 (L + 1) vc3 (og ++ [(x.1, mn)])) := hR3
              have HB3 : Hid (Below V.heap.size V w3) := hb3 (Nat.le_refl _) HB.out.1
              have bB3 : BoxT w3 Wa.heap.size (mx, x.2) := (hk3 _ bB.lt (fun h => by have := HRW.out.2.2 _ h; omega)).trans bB
              have d0 := bB3.cell0
              have d1 := bB3.cell1
              obtain ⟨va4, vc4, w4, hrun4, hR4, hb4, hk4⟩ := app_two w3 V.heap.size va3 (L + 1) vc3 (og ++ [(x.1, mn)]) HR3.out (by have := HB3.out.size; omega) (mx, x.2) (by omega)
              have HRUN4 : Hid ((Builtin.append_ #[22, 22] 22 #[.slice va3 (L + 1) vc3, .slice (some ⟨w3.heap.size, 0, none⟩) 1 1]).run Try.prog (w3.alloc (.cells #[.int .i64 mx, .int .i64 x.2] 24)) = .ok (.slice va4 (L + 1 + 1) vc4) w4) := hrun4
              have HR4 : Hid (RowT w4 V.heap.size va4 (L + 1 + 1) vc4 ((og ++ [(x.1, mn)]) ++ [(mx, x.2)])) := hR4
              have HB4 : Hid (Below V.heap.size V w4) := hb4 (Nat.le_refl _) HB3.out
              clear bW bW2 bB bA2 rB hWb hrun3 hR3 hb3 hk3 bB3 hrun4 hR4 hb4 hk4
              go_wp2_with (first | (at_builtin; refine Lib.wpList_append_run (Wb.alloc (.cells #[.int .i64 x.1, .int .i64 mn] 24)) rfl (.tmp 67) (.tmp 69) 22 22 rfl (.slice va (L) vc) (.slice (some ⟨Wb.heap.size, 0, none⟩) 1 1) rfl rfl (.slice va3 (L + 1) vc3) w3 HRUN3.out ?_) | (at_builtin; refine Lib.wpList_append_run (w3.alloc (.cells #[.int .i64 mx, .int .i64 x.2] 24)) rfl (.tmp 76) (.tmp 78) 22 22 rfl (.slice va3 (L + 1) vc3) (.slice (some ⟨w3.heap.size, 0, none⟩) 1 1) rfl rfl (.slice va4 (L + 1 + 1) vc4) w4 HRUN4.out ?_))
              go_roundw
              case rel => exact ⟨i + 1, L + 1 + 1, va4, vc4, by go_num, rfl, by omega, by rw [HS2.out]; simp [HRW.out.2.1], by rw [HS2.out]; exact HR4.out, HB4.out⟩
              case measure => simp [intOf]; omega))
        · have HS2 : Hid (rcL (ts.take (i + 1)) s = og ++ [(x.1, mn)]) := by
            unfold Hid; rw [HNX.out, if_pos ha, if_neg hb]; simp
          have hbd2 : L + 1 ≤ n + 1 := by
            rw [if_pos ha, if_neg hb] at hbd; simpa using hbd
          have hbw := HBW.out
          go_upto_region 11 with fail
          go_region_held3 (fun W => W.cell? ⟨kb, ko + i * 2, none⟩ = some (.int .i64 x.1) ∧ W.cell? ⟨kb, ko + i * 2 + 1, none⟩ = some (.int .i64 x.2) ∧ W.cell? ⟨w.heap.size, 0, none⟩ = some (.int .i64 s.1) ∧ W.cell? ⟨w.heap.size, 1, none⟩ = some (.int .i64 s.2) ∧ Below V.heap.size V W)
            (refine ⟨?_, ?_, ?_, ?_, ?_⟩ <;> first | (refine (HCC.out _ ?_).1; (repeat (first | with_reducible exact Below.refl _ _ | with_reducible assumption | with_reducible refine Below.drew ?_ | with_reducible refine below_drewN ?_ _ | with_reducible refine below_more ?_ _)); done) | (refine (HCC.out _ ?_).2.1; (repeat (first | with_reducible exact Below.refl _ _ | with_reducible assumption | with_reducible refine Below.drew ?_ | with_reducible refine below_drewN ?_ _ | with_reducible refine below_more ?_ _)); done) | (refine (HCC.out _ ?_).2.2.1; (repeat (first | with_reducible exact Below.refl _ _ | with_reducible assumption | with_reducible refine Below.drew ?_ | with_reducible refine below_drewN ?_ _ | with_reducible refine below_more ?_ _)); done) | (refine (HCC.out _ ?_).2.2.2; (repeat (first | with_reducible exact Below.refl _ _ | with_reducible assumption | with_reducible refine Below.drew ?_ | with_reducible refine below_drewN ?_ _ | with_reducible refine below_more ?_ _)); done) | ((repeat (first | with_reducible exact Below.refl _ _ | with_reducible assumption | with_reducible refine Below.drew ?_ | with_reducible refine below_drewN ?_ _ | with_reducible refine below_more ?_ _)); done))
            (fail)
          all_goals (
            clear hbw
            have bW : Below V.heap.size V ((wr.alloc (.cells #[.int .i64 x.1, .int .i64 mn] 24)).drew) := Below.drew (below_more HBW.out _)
            have bA : BoxT ((wr.alloc (.cells #[.int .i64 x.1, .int .i64 mn] 24)).drew) wr.heap.size (x.1, mn) := BoxT.new wr (x.1, mn)
            have rA : RowT ((wr.alloc (.cells #[.int .i64 x.1, .int .i64 mn] 24)).drew) V.heap.size va L vc og := RowT.of_heap (HRW.out.1.alloc (.cells #[.int .i64 x.1, .int .i64 mn] 24)) (by rfl)
            have hsa : wr.heap.size < ((wr.alloc (.cells #[.int .i64 x.1, .int .i64 mn] 24)).drew).heap.size := bA.lt
            obtain ⟨Wa, hWa⟩ : ∃ Wa, (wr.alloc (.cells #[.int .i64 x.1, .int .i64 mn] 24)).drew = Wa := ⟨_, rfl⟩
            rw [hWa] at bW bA rA hsa ⊢
            have HA : Hid (Below V.heap.size V Wa ∧ BoxT Wa wr.heap.size (x.1, mn) ∧ RowT Wa V.heap.size va L vc og) := ⟨bW, bA, rA⟩
            obtain ⟨r0, r1, r2, r3⟩ := HCC.out Wa bW
            clear hWa bA rA
            go_upto_region 12 with fail
            go_region_held3 (fun W => W.cell? ⟨kb, ko + i * 2, none⟩ = some (.int .i64 x.1) ∧ W.cell? ⟨kb, ko + i * 2 + 1, none⟩ = some (.int .i64 x.2) ∧ W.cell? ⟨w.heap.size, 0, none⟩ = some (.int .i64 s.1) ∧ W.cell? ⟨w.heap.size, 1, none⟩ = some (.int .i64 s.2) ∧ Below V.heap.size V W)
              (refine ⟨?_, ?_, ?_, ?_, ?_⟩ <;> first | (refine (HCC.out _ ?_).1; (repeat (first | with_reducible exact Below.refl _ _ | with_reducible assumption | with_reducible refine Below.drew ?_ | with_reducible refine below_drewN ?_ _ | with_reducible refine below_more ?_ _)); done) | (refine (HCC.out _ ?_).2.1; (repeat (first | with_reducible exact Below.refl _ _ | with_reducible assumption | with_reducible refine Below.drew ?_ | with_reducible refine below_drewN ?_ _ | with_reducible refine below_more ?_ _)); done) | (refine (HCC.out _ ?_).2.2.1; (repeat (first | with_reducible exact Below.refl _ _ | with_reducible assumption | with_reducible refine Below.drew ?_ | with_reducible refine below_drewN ?_ _ | with_reducible refine below_more ?_ _)); done) | (refine (HCC.out _ ?_).2.2.2; (repeat (first | with_reducible exact Below.refl _ _ | with_reducible assumption | with_reducible refine Below.drew ?_ | with_reducible refine below_drewN ?_ _ | with_reducible refine below_more ?_ _)); done) | ((repeat (first | with_reducible exact Below.refl _ _ | with_reducible assumption | with_reducible refine Below.drew ?_ | with_reducible refine below_drewN ?_ _ | with_reducible refine below_more ?_ _)); done))
              (fail)
            all_goals (
              have bW2 : Below V.heap.size V ((Wa.alloc (.cells #[.int .i64 mx, .int .i64 x.2] 24)).drew) := Below.drew (below_more HA.out.1 _)
              have bB : BoxT ((Wa.alloc (.cells #[.int .i64 mx, .int .i64 x.2] 24)).drew) Wa.heap.size (mx, x.2) := BoxT.new Wa (mx, x.2)
              have bA2 : BoxT ((Wa.alloc (.cells #[.int .i64 mx, .int .i64 x.2] 24)).drew) wr.heap.size (x.1, mn) := HA.out.2.1.alloc (.cells #[.int .i64 mx, .int .i64 x.2] 24)
              have rB : RowT ((Wa.alloc (.cells #[.int .i64 mx, .int .i64 x.2] 24)).drew) V.heap.size va L vc og := RowT.of_heap (HA.out.2.2.alloc (.cells #[.int .i64 mx, .int .i64 x.2] 24)) (by rfl)
              have hsb : Wa.heap.size < ((Wa.alloc (.cells #[.int .i64 mx, .int .i64 x.2] 24)).drew).heap.size := bB.lt
              obtain ⟨Wb, hWb⟩ : ∃ Wb, (Wa.alloc (.cells #[.int .i64 mx, .int .i64 x.2] 24)).drew = Wb := ⟨_, rfl⟩
              rw [hWb] at bW2 bB bA2 rB hsb ⊢
              have HB : Hid (Below V.heap.size V Wb ∧ RowT Wb V.heap.size va L vc og) := ⟨bW2, rB⟩
              have a0 := bA2.cell0
              have a1 := bA2.cell1
              have b0 := bB.cell0
              have b1 := bB.cell1
              obtain ⟨va3, vc3, w3, hrun3, hR3, hb3, hk3⟩ := app_two Wb V.heap.size va (L) vc og HB.out.2 (by have := HB.out.1.size; omega) (x.1, mn) (by omega)
              have HRUN3 : Hid ((Builtin.append_ #[22, 22] 22 #[.slice va (L) vc, .slice (some ⟨Wb.heap.size, 0, none⟩) 1 1]).run Try.prog (Wb.alloc (.cells #[.int .i64 x.1, .int .i64 mn] 24)) = .ok (.slice va3 (L + 1) vc3) w3) := hrun3
              have HR3 : Hid (RowT w3 V.heap.size va3 (L + 1) vc3 (og ++ [(x.1, mn)])) := hR3
              have HB3 : Hid (Below V.heap.size V w3) := hb3 (Nat.le_refl _) HB.out.1
              have bB3 : BoxT w3 Wa.heap.size (mx, x.2) := (hk3 _ bB.lt (fun h => by have := HRW.out.2.2 _ h; omega)).trans bB
              have d0 := bB3.cell0
              have d1 := bB3.cell1
              clear bW bW2 bB bA2 rB hWb hrun3 hR3 hb3 hk3 bB3
              go_wp2_with (at_builtin; refine Lib.wpList_append_run (Wb.alloc (.cells #[.int .i64 x.1, .int .i64 mn] 24)) rfl (.tmp 67) (.tmp 69) 22 22 rfl (.slice va (L) vc) (.slice (some ⟨Wb.heap.size, 0, none⟩) 1 1) rfl rfl (.slice va3 (L + 1) vc3) w3 HRUN3.out ?_)
              go_roundw
              case rel => exact ⟨i + 1, L + 1, va3, vc3, by go_num, rfl, by omega, by rw [HS2.out]; simp [HRW.out.2.1], by rw [HS2.out]; exact HR3.out, HB3.out⟩
              case measure => simp [intOf]; omega))
      · by_cases hb : mx < x.2
        · have HS2 : Hid (rcL (ts.take (i + 1)) s = og ++ [(mx, x.2)]) := by
            unfold Hid; rw [HNX.out, if_neg ha, if_pos hb]; simp
          have hbd2 : L + 1 ≤ n + 1 := by
            rw [if_neg ha, if_pos hb] at hbd; simpa using hbd
          have hbw := HBW.out
          go_upto_region 11 with fail
          go_region_held3 (fun W => W.cell? ⟨kb, ko + i * 2, none⟩ = some (.int .i64 x.1) ∧ W.cell? ⟨kb, ko + i * 2 + 1, none⟩ = some (.int .i64 x.2) ∧ W.cell? ⟨w.heap.size, 0, none⟩ = some (.int .i64 s.1) ∧ W.cell? ⟨w.heap.size, 1, none⟩ = some (.int .i64 s.2) ∧ Below V.heap.size V W)
            (refine ⟨?_, ?_, ?_, ?_, ?_⟩ <;> first | (refine (HCC.out _ ?_).1; (repeat (first | with_reducible exact Below.refl _ _ | with_reducible assumption | with_reducible refine Below.drew ?_ | with_reducible refine below_drewN ?_ _ | with_reducible refine below_more ?_ _)); done) | (refine (HCC.out _ ?_).2.1; (repeat (first | with_reducible exact Below.refl _ _ | with_reducible assumption | with_reducible refine Below.drew ?_ | with_reducible refine below_drewN ?_ _ | with_reducible refine below_more ?_ _)); done) | (refine (HCC.out _ ?_).2.2.1; (repeat (first | with_reducible exact Below.refl _ _ | with_reducible assumption | with_reducible refine Below.drew ?_ | with_reducible refine below_drewN ?_ _ | with_reducible refine below_more ?_ _)); done) | (refine (HCC.out _ ?_).2.2.2; (repeat (first | with_reducible exact Below.refl _ _ | with_reducible assumption | with_reducible refine Below.drew ?_ | with_reducible refine below_drewN ?_ _ | with_reducible refine below_more ?_ _)); done) | ((repeat (first | with_reducible exact Below.refl _ _ | with_reducible assumption | with_reducible refine Below.drew ?_ | with_reducible refine below_drewN ?_ _ | with_reducible refine below_more ?_ _)); done))
            (fail)
          all_goals (
            clear hbw
            have bW : Below V.heap.size V ((wr.alloc (.cells #[.int .i64 x.1, .int .i64 mn] 24)).drew) := Below.drew (below_more HBW.out _)
            have bA : BoxT ((wr.alloc (.cells #[.int .i64 x.1, .int .i64 mn] 24)).drew) wr.heap.size (x.1, mn) := BoxT.new wr (x.1, mn)
            have rA : RowT ((wr.alloc (.cells #[.int .i64 x.1, .int .i64 mn] 24)).drew) V.heap.size va L vc og := RowT.of_heap (HRW.out.1.alloc (.cells #[.int .i64 x.1, .int .i64 mn] 24)) (by rfl)
            have hsa : wr.heap.size < ((wr.alloc (.cells #[.int .i64 x.1, .int .i64 mn] 24)).drew).heap.size := bA.lt
            obtain ⟨Wa, hWa⟩ : ∃ Wa, (wr.alloc (.cells #[.int .i64 x.1, .int .i64 mn] 24)).drew = Wa := ⟨_, rfl⟩
            rw [hWa] at bW bA rA hsa ⊢
            have HA : Hid (Below V.heap.size V Wa ∧ BoxT Wa wr.heap.size (x.1, mn) ∧ RowT Wa V.heap.size va L vc og) := ⟨bW, bA, rA⟩
            obtain ⟨r0, r1, r2, r3⟩ := HCC.out Wa bW
            clear hWa bA rA
            go_upto_region 12 with fail
            go_region_held3 (fun W => W.cell? ⟨kb, ko + i * 2, none⟩ = some (.int .i64 x.1) ∧ W.cell? ⟨kb, ko + i * 2 + 1, none⟩ = some (.int .i64 x.2) ∧ W.cell? ⟨w.heap.size, 0, none⟩ = some (.int .i64 s.1) ∧ W.cell? ⟨w.heap.size, 1, none⟩ = some (.int .i64 s.2) ∧ Below V.heap.size V W)
              (refine ⟨?_, ?_, ?_, ?_, ?_⟩ <;> first | (refine (HCC.out _ ?_).1; (repeat (first | with_reducible exact Below.refl _ _ | with_reducible assumption | with_reducible refine Below.drew ?_ | with_reducible refine below_drewN ?_ _ | with_reducible refine below_more ?_ _)); done) | (refine (HCC.out _ ?_).2.1; (repeat (first | with_reducible exact Below.refl _ _ | with_reducible assumption | with_reducible refine Below.drew ?_ | with_reducible refine below_drewN ?_ _ | with_reducible refine below_more ?_ _)); done) | (refine (HCC.out _ ?_).2.2.1; (repeat (first | with_reducible exact Below.refl _ _ | with_reducible assumption | with_reducible refine Below.drew ?_ | with_reducible refine below_drewN ?_ _ | with_reducible refine below_more ?_ _)); done) | (refine (HCC.out _ ?_).2.2.2; (repeat (first | with_reducible exact Below.refl _ _ | with_reducible assumption | with_reducible refine Below.drew ?_ | with_reducible refine below_drewN ?_ _ | with_reducible refine below_more ?_ _)); done) | ((repeat (first | with_reducible exact Below.refl _ _ | with_reducible assumption | with_reducible refine Below.drew ?_ | with_reducible refine below_drewN ?_ _ | with_reducible refine below_more ?_ _)); done))
              (fail)
            all_goals (
              have bW2 : Below V.heap.size V ((Wa.alloc (.cells #[.int .i64 mx, .int .i64 x.2] 24)).drew) := Below.drew (below_more HA.out.1 _)
              have bB : BoxT ((Wa.alloc (.cells #[.int .i64 mx, .int .i64 x.2] 24)).drew) Wa.heap.size (mx, x.2) := BoxT.new Wa (mx, x.2)
              have bA2 : BoxT ((Wa.alloc (.cells #[.int .i64 mx, .int .i64 x.2] 24)).drew) wr.heap.size (x.1, mn) := HA.out.2.1.alloc (.cells #[.int .i64 mx, .int .i64 x.2] 24)
              have rB : RowT ((Wa.alloc (.cells #[.int .i64 mx, .int .i64 x.2] 24)).drew) V.heap.size va L vc og := RowT.of_heap (HA.out.2.2.alloc (.cells #[.int .i64 mx, .int .i64 x.2] 24)) (by rfl)
              have hsb : Wa.heap.size < ((Wa.alloc (.cells #[.int .i64 mx, .int .i64 x.2] 24)).drew).heap.size := bB.lt
              obtain ⟨Wb, hWb⟩ : ∃ Wb, (Wa.alloc (.cells #[.int .i64 mx, .int .i64 x.2] 24)).drew = Wb := ⟨_, rfl⟩
              rw [hWb] at bW2 bB bA2 rB hsb ⊢
              have HB : Hid (Below V.heap.size V Wb ∧ RowT Wb V.heap.size va L vc og) := ⟨bW2, rB⟩
              have a0 := bA2.cell0
              have a1 := bA2.cell1
              have b0 := bB.cell0
              have b1 := bB.cell1
              obtain ⟨va3, vc3, w3, hrun3, hR3, hb3, hk3⟩ := app_two Wb V.heap.size va (L) vc og HB.out.2 (by have := HB.out.1.size; omega) (mx, x.2) (by omega)
              have HRUN3 : Hid ((Builtin.append_ #[22, 22] 22 #[.slice va (L) vc, .slice (some ⟨Wb.heap.size, 0, none⟩) 1 1]).run Try.prog (Wb.alloc (.cells #[.int .i64 mx, .int .i64 x.2] 24)) = .ok (.slice va3 (L + 1) vc3) w3) := hrun3
              have HR3 : Hid (RowT w3 V.heap.size va3 (L + 1) vc3 (og ++ [(mx, x.2)])) := hR3
              have HB3 : Hid (Below V.heap.size V w3) := hb3 (Nat.le_refl _) HB.out.1
              clear bW bW2 bB bA2 rB hWb hrun3 hR3 hb3 hk3
              go_wp2_with (at_builtin; refine Lib.wpList_append_run (Wb.alloc (.cells #[.int .i64 mx, .int .i64 x.2] 24)) rfl (.tmp 76) (.tmp 78) 22 22 rfl (.slice va (L) vc) (.slice (some ⟨Wb.heap.size, 0, none⟩) 1 1) rfl rfl (.slice va3 (L + 1) vc3) w3 HRUN3.out ?_)
              go_roundw
              case rel => exact ⟨i + 1, L + 1, va3, vc3, by go_num, rfl, by omega, by rw [HS2.out]; simp [HRW.out.2.1], by rw [HS2.out]; exact HR3.out, HB3.out⟩
              case measure => simp [intOf]; omega))
        · have HS2 : Hid (rcL (ts.take (i + 1)) s = og) := by
            unfold Hid; rw [HNX.out, if_neg ha, if_neg hb]; simp
          have hbd2 : L + 0 ≤ n + 1 := by
            rw [if_neg ha, if_neg hb] at hbd; simpa using hbd
          have hbw := HBW.out
          go_upto_region 11 with fail
          go_region_held3 (fun W => W.cell? ⟨kb, ko + i * 2, none⟩ = some (.int .i64 x.1) ∧ W.cell? ⟨kb, ko + i * 2 + 1, none⟩ = some (.int .i64 x.2) ∧ W.cell? ⟨w.heap.size, 0, none⟩ = some (.int .i64 s.1) ∧ W.cell? ⟨w.heap.size, 1, none⟩ = some (.int .i64 s.2) ∧ Below V.heap.size V W)
            (refine ⟨?_, ?_, ?_, ?_, ?_⟩ <;> first | (refine (HCC.out _ ?_).1; (repeat (first | with_reducible exact Below.refl _ _ | with_reducible assumption | with_reducible refine Below.drew ?_ | with_reducible refine below_drewN ?_ _ | with_reducible refine below_more ?_ _)); done) | (refine (HCC.out _ ?_).2.1; (repeat (first | with_reducible exact Below.refl _ _ | with_reducible assumption | with_reducible refine Below.drew ?_ | with_reducible refine below_drewN ?_ _ | with_reducible refine below_more ?_ _)); done) | (refine (HCC.out _ ?_).2.2.1; (repeat (first | with_reducible exact Below.refl _ _ | with_reducible assumption | with_reducible refine Below.drew ?_ | with_reducible refine below_drewN ?_ _ | with_reducible refine below_more ?_ _)); done) | (refine (HCC.out _ ?_).2.2.2; (repeat (first | with_reducible exact Below.refl _ _ | with_reducible assumption | with_reducible refine Below.drew ?_ | with_reducible refine below_drewN ?_ _ | with_reducible refine below_more ?_ _)); done) | ((repeat (first | with_reducible exact Below.refl _ _ | with_reducible assumption | with_reducible refine Below.drew ?_ | with_reducible refine below_drewN ?_ _ | with_reducible refine below_more ?_ _)); done))
            (fail)
          all_goals (
            clear hbw
            have bW : Below V.heap.size V ((wr.alloc (.cells #[.int .i64 x.1, .int .i64 mn] 24)).drew) := Below.drew (below_more HBW.out _)
            have bA : BoxT ((wr.alloc (.cells #[.int .i64 x.1, .int .i64 mn] 24)).drew) wr.heap.size (x.1, mn) := BoxT.new wr (x.1, mn)
            have rA : RowT ((wr.alloc (.cells #[.int .i64 x.1, .int .i64 mn] 24)).drew) V.heap.size va L vc og := RowT.of_heap (HRW.out.1.alloc (.cells #[.int .i64 x.1, .int .i64 mn] 24)) (by rfl)
            have hsa : wr.heap.size < ((wr.alloc (.cells #[.int .i64 x.1, .int .i64 mn] 24)).drew).heap.size := bA.lt
            obtain ⟨Wa, hWa⟩ : ∃ Wa, (wr.alloc (.cells #[.int .i64 x.1, .int .i64 mn] 24)).drew = Wa := ⟨_, rfl⟩
            rw [hWa] at bW bA rA hsa ⊢
            have HA : Hid (Below V.heap.size V Wa ∧ BoxT Wa wr.heap.size (x.1, mn) ∧ RowT Wa V.heap.size va L vc og) := ⟨bW, bA, rA⟩
            obtain ⟨r0, r1, r2, r3⟩ := HCC.out Wa bW
            clear hWa bA rA
            go_upto_region 12 with fail
            go_region_held3 (fun W => W.cell? ⟨kb, ko + i * 2, none⟩ = some (.int .i64 x.1) ∧ W.cell? ⟨kb, ko + i * 2 + 1, none⟩ = some (.int .i64 x.2) ∧ W.cell? ⟨w.heap.size, 0, none⟩ = some (.int .i64 s.1) ∧ W.cell? ⟨w.heap.size, 1, none⟩ = some (.int .i64 s.2) ∧ Below V.heap.size V W)
              (refine ⟨?_, ?_, ?_, ?_, ?_⟩ <;> first | (refine (HCC.out _ ?_).1; (repeat (first | with_reducible exact Below.refl _ _ | with_reducible assumption | with_reducible refine Below.drew ?_ | with_reducible refine below_drewN ?_ _ | with_reducible refine below_more ?_ _)); done) | (refine (HCC.out _ ?_).2.1; (repeat (first | with_reducible exact Below.refl _ _ | with_reducible assumption | with_reducible refine Below.drew ?_ | with_reducible refine below_drewN ?_ _ | with_reducible refine below_more ?_ _)); done) | (refine (HCC.out _ ?_).2.2.1; (repeat (first | with_reducible exact Below.refl _ _ | with_reducible assumption | with_reducible refine Below.drew ?_ | with_reducible refine below_drewN ?_ _ | with_reducible refine below_more ?_ _)); done) | (refine (HCC.out _ ?_).2.2.2; (repeat (first | with_reducible exact Below.refl _ _ | with_reducible assumption | with_reducible refine Below.drew ?_ | with_reducible refine below_drewN ?_ _ | with_reducible refine below_more ?_ _)); done) | ((repeat (first | with_reducible exact Below.refl _ _ | with_reducible assumption | with_reducible refine Below.drew ?_ | with_reducible refine below_drewN ?_ _ | with_reducible refine below_more ?_ _)); done))
              (fail)
            all_goals (
              have bW2 : Below V.heap.size V ((Wa.alloc (.cells #[.int .i64 mx, .int .i64 x.2] 24)).drew) := Below.drew (below_more HA.out.1 _)
              have bB : BoxT ((Wa.alloc (.cells #[.int .i64 mx, .int .i64 x.2] 24)).drew) Wa.heap.size (mx, x.2) := BoxT.new Wa (mx, x.2)
              have bA2 : BoxT ((Wa.alloc (.cells #[.int .i64 mx, .int .i64 x.2] 24)).drew) wr.heap.size (x.1, mn) := HA.out.2.1.alloc (.cells #[.int .i64 mx, .int .i64 x.2] 24)
              have rB : RowT ((Wa.alloc (.cells #[.int .i64 mx, .int .i64 x.2] 24)).drew) V.heap.size va L vc og := RowT.of_heap (HA.out.2.2.alloc (.cells #[.int .i64 mx, .int .i64 x.2] 24)) (by rfl)
              have hsb : Wa.heap.size < ((Wa.alloc (.cells #[.int .i64 mx, .int .i64 x.2] 24)).drew).heap.size := bB.lt
              obtain ⟨Wb, hWb⟩ : ∃ Wb, (Wa.alloc (.cells #[.int .i64 mx, .int .i64 x.2] 24)).drew = Wb := ⟨_, rfl⟩
              rw [hWb] at bW2 bB bA2 rB hsb ⊢
              have HB : Hid (Below V.heap.size V Wb ∧ RowT Wb V.heap.size va L vc og) := ⟨bW2, rB⟩
              have a0 := bA2.cell0
              have a1 := bA2.cell1
              have b0 := bB.cell0
              have b1 := bB.cell1
              clear bW bW2 bB bA2 rB hWb
              go_wp2_with fail
              go_roundw
              case rel => exact ⟨i + 1, L, va, vc, by go_num, rfl, by omega, by rw [HS2.out]; simp [HRW.out.2.1], by rw [HS2.out]; exact HB.out.2, HB.out.1⟩
              case measure => simp [intOf]; omega))
    · obtain rfl : i = n := by omega
      have hall : ts.take i = ts := by rw [← HN.out.1]; exact List.take_length
      rw [hall] at hog
      have HEND : Hid (og = cutL ts s ∧ L = m) := by
        have h1 : og = cutL ts s := by rw [← hog]; exact rcL_is HN.out.2.1 HN.out.2.2.2
        exact ⟨h1, by rw [← HL.out.1, h1]; exact HN.out.2.2.1⟩
      clear hall hog
      go_wp2_with fail
      go_ret2
      exact ⟨va, vc, by rw [← HEND.out.2]; rfl, by rw [← HEND.out.1]; exact HL.out.2.1.got, below_next HV.out.2.2 HL.out.2.2⟩

theorem refCut_is (A : Option Addr) (cap : Nat) (ts : List Tm) (s : Tm) (w : World) (hT : Got w A cap ts) (n : Nat) (hn : ts.length = n) (hlen : (n + 1) * 16 ≤ 140737488355328) (S : List Tm) (hS : cutV ts s = S) (m : Nat) (hm : S.length = m) (e0 : Int) (he : bothI ts s = e0) :
    Calls Try.prog 16 #[.slice A n cap, tmV s] w fun e W' => ∃ va vc, e = .returned (.tuple #[.slice va m vc, .int .i64 e0]) ∧ Got W' va vc S ∧ Below w.heap.size w W' := by
  by_cases hok : chk (-1) ts = true ∧ rightB s = true
  · obtain ⟨hc, hr⟩ := hok
    have hs := rightB_iff.1 hr
    have he0 : e0 = 0 := by rw [← he]; exact bothI_ok hc hr
    subst he0
    rw [cutV_is hc hr] at hS
    by_cases hem : s.1 = s.2
    · rw [if_pos hem] at hS
      subst hS
      rw [hn] at hm
      subst hm
      exact refCut_none A cap ts s w hT n hn hlen hc hr hem
    · rw [if_neg hem] at hS
      subst hS
      exact refCut_some A cap ts s w hT n hn hlen hc hr (by omega) m hm
  · have hS0 : S = [] := by
      rw [← hS]; unfold cutV
      by_cases hc : chk (-1) ts = true
      · have hk : ¬ rightB s = true := fun h => hok ⟨hc, h⟩
        rw [if_pos hc, if_neg hk]
      · rw [if_neg hc]
    subst hS0
    have hm0 : m = 0 := hm.symm
    subst hm0
    exact (refCut_not A cap ts s w hT n hn hok e0 he).mono (fun e W' ⟨h1, h2⟩ => ⟨none, 0, h1, ⟨TimsAt.nil _ _, fun _ => rfl⟩, h2⟩)
end Go.Proofs.Ytiigipfcagmgnaa
