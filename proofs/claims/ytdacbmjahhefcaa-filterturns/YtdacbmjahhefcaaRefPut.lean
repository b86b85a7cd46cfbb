/- The document's Put. -/
import Derived.Test.YtdacbmjahhefcaaRefCheck
import Derived.Test.YtdacbmjahhefcaaPut
import Derived.Lib.AppendZeros
namespace Go.Proofs.Ytdacbmjahhefcaa
open Go.ChangeShapes Go.WideShapes Go.ChangeAt Go.RowKit Go.Shelf
set_option linter.unusedVariables false
set_option linter.unusedSimpArgs false

theorem stay_iff (m : Bool) (t v win : Int) (x : Tm) : stayB m t v win x = (!decide (x.1 + win < t) && beatB x.2 v m) := by
  unfold stayB newB
  congr 1
  rw [← decide_not]
  congr 1
  simp
theorem filter_hit {f : Tm → Bool} {l : List Tm} {i : Nat} {x : Tm} (hi : i < l.length) (hx : l[i]?.getD (0, 0) = x) (h : f x = true) : (l.take (i + 1)).filter f = (l.take i).filter f ++ [x] := by
  rw [take_snoc hi hx, List.filter_append]; simp [h]
theorem filter_miss {f : Tm → Bool} {l : List Tm} {i : Nat} {x : Tm} (hi : i < l.length) (hx : l[i]?.getD (0, 0) = x) (h : f x = false) : (l.take (i + 1)).filter f = (l.take i).filter f := by
  rw [take_snoc hi hx, List.filter_append]; simp [h]
set_option maxRecDepth 100000 in
set_option maxHeartbeats 4000000 in
theorem refPut_yes (A : Option Addr) (cap : Nat) (ts : List Tm) (t v win : Int) (m : Bool) (w : World) (hT : TimsAt w A ts) (n : Nat) (hn : ts.length = n) (hr : n * 16 ≤ 140737488351232) (hP : putB m ts t v win = true) :
    Calls Try.prog 9 #[.slice A n cap, .int .i64 t, .int .i64 v, .int .i64 win, .bool m] w fun e w' => ∃ va vc, e = .returned (.tuple #[.slice va (putL m ts t v win).length vc, .int .i64 0]) ∧ RowT w' w.heap.size va (putL m ts t v win).length vc (putL m ts t v win) ∧ Below w.heap.size w w' := by
  have HE : Hid (_ ∧ _) := putE_yes hP
  obtain ⟨hc, he, ht, ha⟩ := putB_iff.1 hP
  simp only [entB, Bool.and_eq_true] at he
  have cC := refCheck_any A cap ts m w hT n hn 0 (by simp [errI, hc])
  have cV := fun u : World => refValue_is v u true he.2
  have cT1 := fun u : World => refTime_is t u true he.1
  have cT2 := fun u : World => refTime_is win u true ht
  have hwin := timeB_iff.1 ht
  have HT : Hid (TimsAt w A ts) := hT
  have HC : Hid (chk m none ts = true) := hc
  have HN : Hid (ts.length = n) := hn
  have hml : ts.length ≤ 9223372036854775807 := hT.1
  rw [hn] at hml
  have HA : Hid (∀ k, n = k + 1 → ∃ b o y, A = some ⟨b, o, none⟩ ∧ w.cell? ⟨b, o + k * 2, none⟩ = some (.int .i64 y) ∧ y < t) := fun k hk => by
    obtain ⟨b, o, e, h1, _⟩ := hT.2 k (by omega)
    refine ⟨b, o, _, e, h1, ?_⟩
    refine (above_iff hc).1 ha _ ?_
    have : k < ts.length := by omega
    rw [List.getElem?_eq_getElem this]
    exact List.getElem_mem this
  clear hP hc he ht ha hT hn
  go_enter Try.func9, Try.ntmps9
  go_upto_region 1 with fail
  go_cut [50] (fun u wx => u = .bool false ∧ Hid (Below w.heap.size w wx))
  case first =>
    go_wp2_with fail
    refine cC.mono ?_
    rintro e w1 ⟨rfl, hB1⟩
    have HB1 : Hid (Below w.heap.size w w1) := hB1
    clear cC hB1
    go_wp2_with fail
    refine (cT1 _).mono ?_
    rintro e w2 ⟨rfl, rfl⟩
    go_wp2_with fail
    refine (cV _).mono ?_
    rintro e w2 ⟨rfl, rfl⟩
    go_wp2_with fail
    refine (cT2 _).mono ?_
    rintro e w2 ⟨rfl, rfl⟩
    clear cT1 cT2 cV
    rcases Nat.eq_zero_or_pos n with h0 | h0
    · subst h0
      go_wp2_with fail
      go_meet
      exact ⟨rfl, HB1.out⟩
    · obtain ⟨k, hk⟩ : ∃ k, n = k + 1 := ⟨n - 1, by omega⟩
      obtain ⟨b, o, y, rfl, hc0, hy⟩ := HA.out k hk
      have hw0 : w2.cell? ⟨b, o + k * 2, none⟩ = some (.int .i64 y) := (HB1.out.cell (p := ⟨b, o + k * 2, none⟩) (lt_of_cell hc0)).trans hc0
      have hn0 : (0 : Int) < (n : Int) := by omega
      have hs : IntKind.i64.wrap ((n : Int) - 1) = (k : Int) := by rw [IntKind.wrap_i64]; omega
      have hkn : (k : Int) < (n : Int) := by omega
      have hyt : decide (t ≤ y) = false := by simp; omega
      clear hk hc0 hy
      go_wp2_with fail
      go_meet
      exact ⟨rfl, HB1.out⟩
  case rest =>
    obtain ⟨rfl, HB1⟩ := hcut
    clear cC cT1 cT2 cV HA
    go_wp2_with fail
    go_loopw [12, 13] (fun u vi wr => ∃ (i L : Nat) (va : Option Addr) (vc : Nat), vi = .int .i64 i ∧ u = .slice va L vc ∧ i ≤ n ∧ L ≤ i ∧ Hid (((ts.take i).filter (stayB m t v win)).length = L) ∧ Hid (RowT wr w.heap.size va L vc ((ts.take i).filter (stayB m t v win))) ∧ Hid (Below w.heap.size w wr))
      (fun _ vi _ => n - (intOf vi).toNat)
    case atStart => exact ⟨0, 0, none, 0, rfl, rfl, Nat.zero_le _, Nat.le_refl _, by simp [Hid], RowT.nil _ _, HB1.out⟩
    case round =>
      obtain ⟨i, L, va, vc, rfl, rfl, hin, hLi, HL, HR, HB⟩ := hrel
      by_cases hlt : i < n
      · have hi' : i < ts.length := by have := HN.out; omega
        obtain ⟨b, o, rfl, hc0, hc1⟩ := HT.out.2 i hi'
        obtain ⟨x, hx⟩ : ∃ x, ts[i]?.getD (0, 0) = x := ⟨_, rfl⟩
        rw [hx] at hc0 hc1
        have hw0 : wr.cell? ⟨b, o + i * 2, none⟩ = some (.int .i64 x.1) := (HB.out.cell (p := ⟨b, o + i * 2, none⟩) (lt_of_cell hc0)).trans hc0
        have hw1 : wr.cell? ⟨b, o + i * 2 + 1, none⟩ = some (.int .i64 x.2) := (HB.out.cell (p := ⟨b, o + i * 2 + 1, none⟩) (lt_of_cell hc1)).trans hc1
        have hgx : ts[i]? = some x := by rw [← hx, List.getElem?_eq_getElem hi']; rfl
        have hxe := entB_iff.1 (((chk_iff m ts none).1 HC.out).1 x (List.mem_of_getElem? hgx))
        have hs := HB.out.size
        have hlt' : (i : Int) < (n : Int) := by omega
        have hsw : IntKind.i64.wrap (x.1 + win) = x.1 + win := by rw [IntKind.wrap_i64]; omega
        have HST := stay_iff m t v win x
        by_cases ho : x.1 + win < t
        · have HX : Hid ((ts.take (i + 1)).filter (stayB m t v win) = (ts.take i).filter (stayB m t v win)) := filter_miss hi' hx (by rw [HST]; simp [ho])
          clear HST hx hc0 hc1 hi' hgx hxe
          have hcs : (m = true ∧ x.2 ≤ v) ∨ (m = true ∧ ¬ x.2 ≤ v) ∨ (m = false ∧ v ≤ x.2) ∨ (m = false ∧ ¬ v ≤ x.2) := by
            cases m <;> simp <;> omega
          rcases hcs with ⟨rfl, hv⟩ | ⟨rfl, hv⟩ | ⟨rfl, hv⟩ | ⟨rfl, hv⟩
          all_goals (
            go_wp2_with fail
            go_roundw
            case rel => exact ⟨i + 1, L, va, vc, by go_num, rfl, by omega, by omega, by unfold Hid; rw [HX.out]; exact HL.out, by unfold Hid; rw [HX.out]; exact HR.out, HB.out⟩
            case measure => simp [intOf]; omega)
        · by_cases hbt : beatB x.2 v m = true
          · have HX : Hid ((ts.take (i + 1)).filter (stayB m t v win) = (ts.take i).filter (stayB m t v win) ++ [x]) := filter_hit hi' hx (by rw [HST]; simp [ho, hbt])
            obtain ⟨va1, vc1, w1', r1, R1, g1⟩ := app_row (wr.alloc (.cells #[.int .i64 x.1, .int .i64 x.2] 28)) w.heap.size va L vc _ (HR.out.alloc _) (by simp; omega) (some ⟨wr.heap.size, 0, none⟩) 1 [x] (tims_one wr x) (fun h => by cases h) (by simp; omega)
            have HB' : Hid (Below w.heap.size w w1') := below_append (HB.out.alloc hs _) (by simp; omega) (HR.out.alloc _) g1
            have A1 : Hid ((Builtin.append_ #[22, 22] 22 #[.slice va L vc, .slice (some ⟨wr.heap.size, 0, none⟩) 1 1]).run Try.prog (wr.alloc (.cells #[.int .i64 x.1, .int .i64 x.2] 28)) = .ok (.slice va1 (L + 1) vc1) w1') := r1
            have HR1 : Hid (RowT w1' w.heap.size va1 (L + 1) vc1 ((ts.take i).filter (stayB m t v win) ++ [x])) := R1
            have hbt2 : (m = true ∧ decide (x.2 ≤ v) = false) ∨ (m = false ∧ decide (v ≤ x.2) = false) := by
              cases m
              · exact .inr ⟨rfl, by rw [beat_false] at hbt; simp; omega⟩
              · exact .inl ⟨rfl, by rw [beat_true] at hbt; simp; omega⟩
            clear HST hx hc0 hc1 hi' hgx hxe hbt r1 R1 g1
            rcases hbt2 with ⟨rfl, hv⟩ | ⟨rfl, hv⟩
            all_goals (
              go_wp2_with (at_builtin; refine Lib.wpList_append_run _ rfl (.tmp 95) (.tmp 100) 22 22 rfl (.slice va L vc) (.slice (some ⟨wr.heap.size, 0, none⟩) 1 1) rfl rfl (.slice va1 (L + 1) vc1) w1' A1.out ?_)
              go_roundw
              case rel => exact ⟨i + 1, L + 1, va1, vc1, by go_num, rfl, by omega, by omega, by unfold Hid; rw [HX.out, List.length_append, HL.out]; rfl, by unfold Hid; rw [HX.out]; exact HR1.out, HB'.out⟩
              case measure => simp [intOf]; omega)
          · have HX : Hid ((ts.take (i + 1)).filter (stayB m t v win) = (ts.take i).filter (stayB m t v win)) := filter_miss hi' hx (by rw [HST]; simp [hbt])
            have hbt2 : (m = true ∧ decide (x.2 ≤ v) = true) ∨ (m = false ∧ decide (v ≤ x.2) = true) := by
              cases m
              · exact .inr ⟨rfl, by rw [beat_false] at hbt; simp; omega⟩
              · exact .inl ⟨rfl, by rw [beat_true] at hbt; simp; omega⟩
            clear HST hx hc0 hc1 hi' hgx hxe hbt
            rcases hbt2 with ⟨rfl, hv⟩ | ⟨rfl, hv⟩
            all_goals (
              go_wp2_with fail
              go_roundw
              case rel => exact ⟨i + 1, L, va, vc, by go_num, rfl, by omega, by omega, by unfold Hid; rw [HX.out]; exact HL.out, by unfold Hid; rw [HX.out]; exact HR.out, HB.out⟩
              case measure => simp [intOf]; omega)
      · obtain rfl : i = n := by omega
        have hall : ts.take i = ts := by rw [← HN.out]; exact List.take_length
        rw [hall] at HL HR
        have hs := HB.out.size
        obtain ⟨va1, vc1, w1', r1, R1, g1⟩ := app_row (wr.alloc (.cells #[.int .i64 t, .int .i64 v] 28)) w.heap.size va L vc _ (HR.out.alloc _) (by simp; omega) (some ⟨wr.heap.size, 0, none⟩) 1 [(t, v)] (tims_one wr (t, v)) (fun h => by cases h) (by simp; omega)
        have HB' : Hid (Below w.heap.size w w1') := below_append (HB.out.alloc hs _) (by simp; omega) (HR.out.alloc _) g1
        have A1 : Hid ((Builtin.append_ #[22, 22] 22 #[.slice va L vc, .slice (some ⟨wr.heap.size, 0, none⟩) 1 1]).run Try.prog (wr.alloc (.cells #[.int .i64 t, .int .i64 v] 28)) = .ok (.slice va1 (L + 1) vc1) w1') := r1
        have HR1 : Hid (RowT w1' w.heap.size va1 (L + 1) vc1 (ts.filter (stayB m t v win) ++ [(t, v)])) := R1
        clear r1 R1 g1 hall
        go_wp2_with (at_builtin; refine Lib.wpList_append_run _ rfl (.tmp 102) (.tmp 106) 22 22 rfl (.slice va L vc) (.slice (some ⟨wr.heap.size, 0, none⟩) 1 1) rfl rfl (.slice va1 (L + 1) vc1) w1' A1.out ?_)
        go_ret2
        have hlen : (putL m ts t v win).length = L + 1 := by rw [HE.out.2, List.length_append, HL.out]; rfl
        refine ⟨va1, vc1, by rw [hlen]; rfl, ?_, HB'.out⟩
        rw [hlen, HE.out.2]
        exact HR1.out
set_option maxRecDepth 100000 in
set_option maxHeartbeats 4000000 in
theorem refPut_no (A : Option Addr) (cap : Nat) (ts : List Tm) (t v win : Int) (m : Bool) (w : World) (hT : TimsAt w A ts) (n : Nat) (hn : ts.length = n) (hP : putB m ts t v win = false) :
    Calls Try.prog 9 #[.slice A n cap, .int .i64 t, .int .i64 v, .int .i64 win, .bool m] w fun e w' => e = .returned (.tuple #[.slice none 0 0, .int .i64 2]) ∧ Below w.heap.size w w' := by
  cases hc : chk m none ts with
  | false =>
    have cC := refCheck_any A cap ts m w hT n hn 2 (by simp [errI, hc])
    clear hP hc hT hn
    go_enter Try.func9, Try.ntmps9
    go_wp2_with fail
    refine cC.mono ?_
    rintro e w1 ⟨rfl, hB1⟩
    clear cC
    go_wp2_with fail
    go_ret2
    exact ⟨rfl, hB1⟩
  | true =>
    have cC := refCheck_any A cap ts m w hT n hn 0 (by simp [errI, hc])
    obtain ⟨bt, ht⟩ : ∃ bt, timeB t = bt := ⟨_, rfl⟩
    obtain ⟨bv, hv⟩ : ∃ bv, valB v = bv := ⟨_, rfl⟩
    obtain ⟨bw, hw⟩ : ∃ bw, timeB win = bw := ⟨_, rfl⟩
    have cT1 := fun u : World => refTime_is t u bt ht
    have cV := fun u : World => refValue_is v u bv hv
    have cT2 := fun u : World => refTime_is win u bw hw
    have HA : Hid (bt = true → bv = true → bw = true → ∃ k b o y, n = k + 1 ∧ k < 9223372036854775807 ∧ A = some ⟨b, o, none⟩ ∧ w.cell? ⟨b, o + k * 2, none⟩ = some (.int .i64 y) ∧ t ≤ y) := fun e1 e2 e3 => by
      subst e1; subst e2; subst e3
      have ha : above ts t = false := by
        unfold putB entB at hP
        rw [hc, ht, hv, hw] at hP
        simpa using hP
      have hm : ts.length ≤ 9223372036854775807 := hT.1
      rcases Nat.eq_zero_or_pos n with h0 | h0
      · rw [h0] at hn
        obtain rfl := List.eq_nil_of_length_eq_zero hn
        simp [above, lastE] at ha
      · obtain ⟨k, hk⟩ : ∃ k, n = k + 1 := ⟨n - 1, by omega⟩
        obtain ⟨b, o, e, h1, _⟩ := hT.2 k (by omega)
        refine ⟨k, b, o, _, hk, by omega, e, h1, ?_⟩
        rw [above_end (last_at (n := k) (by omega))] at ha
        simpa using ha
    clear hP hc hT hn ht hv hw
    go_enter Try.func9, Try.ntmps9
    go_wp2_with fail
    refine cC.mono ?_
    rintro e w1 ⟨rfl, hB1⟩
    have HB1 : Hid (Below w.heap.size w w1) := hB1
    clear cC hB1
    go_wp2_with fail
    refine (cT1 _).mono ?_
    rintro e w2 ⟨rfl, rfl⟩
    clear cT1
    cases bt with
    | false =>
      go_wp2_with fail
      go_ret2
      exact ⟨rfl, HB1.out⟩
    | true =>
      go_wp2_with fail
      refine (cV _).mono ?_
      rintro e w2 ⟨rfl, rfl⟩
      clear cV
      cases bv with
      | false =>
        go_wp2_with fail
        go_ret2
        exact ⟨rfl, HB1.out⟩
      | true =>
        go_wp2_with fail
        refine (cT2 _).mono ?_
        rintro e w2 ⟨rfl, rfl⟩
        clear cT2
        cases bw with
        | false =>
          go_wp2_with fail
          go_ret2
          exact ⟨rfl, HB1.out⟩
        | true =>
          obtain ⟨k, b, o, y, hk, hkm, rfl, hc0, hy⟩ := HA.out (by simp) (by simp) (by simp)
          have hw0 : w2.cell? ⟨b, o + k * 2, none⟩ = some (.int .i64 y) := (HB1.out.cell (p := ⟨b, o + k * 2, none⟩) (lt_of_cell hc0)).trans hc0
          have hn0 : (0 : Int) < (n : Int) := by omega
          have hs : IntKind.i64.wrap ((n : Int) - 1) = (k : Int) := by rw [IntKind.wrap_i64]; omega
          have hkn : (k : Int) < (n : Int) := by omega
          have hyt : decide (t ≤ y) = true := by simpa using hy
          clear hk hc0 hy HA
          go_wp2_with fail
          go_ret2
          exact ⟨rfl, HB1.out⟩
theorem refPut_any (A : Option Addr) (cap : Nat) (ts : List Tm) (t v win : Int) (m : Bool) (w : World) (hT : TimsAt w A ts) (n : Nat) (hn : ts.length = n) (hr : n * 16 ≤ 140737488351232) :
    Calls Try.prog 9 #[.slice A n cap, .int .i64 t, .int .i64 v, .int .i64 win, .bool m] w fun e w' => ∃ va vc, e = .returned (.tuple #[.slice va (putL m ts t v win).length vc, .int .i64 (putE m ts t v win)]) ∧ RowT w' w.heap.size va (putL m ts t v win).length vc (putL m ts t v win) ∧ Below w.heap.size w w' := by
  cases hP : putB m ts t v win with
  | true => rw [(putE_yes hP).1]; exact refPut_yes A cap ts t v win m w hT n hn hr hP
  | false =>
    obtain ⟨e1, e2⟩ := putE_no hP
    rw [e1, e2]
    refine (refPut_no A cap ts t v win m w hT n hn hP).mono ?_
    rintro e w' ⟨rfl, hB⟩
    exact ⟨none, 0, rfl, RowT.nil _ _, hB⟩
end Go.Proofs.Ytdacbmjahhefcaa
