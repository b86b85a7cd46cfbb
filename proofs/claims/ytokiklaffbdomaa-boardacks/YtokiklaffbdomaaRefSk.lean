/- The contract of the document's Sack. -/
import Derived.Test.YtokiklaffbdomaaRefSkP
namespace Go.Proofs.Ytokiklaffbdomaa
open Go.ChangeShapes Go.WideShapes Go.ChangeAt Go.RowKit Go.Shelf
set_option linter.unusedVariables false
attribute [local go_sem] Oper.semAt_some

open Sp (Tm)
/-- What the rows are, in a loop of the document's Sack. -/
def SkAt (w : World) (wr : World) (va : Option Addr) (n vc : Nat) (vb : Option Addr) (f vd : Nat) (l r : List Rc) : Prop :=
  RowR wr w.heap.size va n vc l ∧ RowR wr w.heap.size vb f vd r ∧ (∀ k, lies vb k → ¬ lies va k) ∧ RowKit.Below w.heap.size w wr
set_option maxRecDepth 100000 in
set_option maxHeartbeats 4000000 in
theorem refSack_yes (A : Option Addr) (cap : Nat) (ts : List Rc) (C : Option Addr) (cd : Nat) (sp : List Tm) (w : World) (hT : RecsAt w A ts) (hA : A = none → cap = 0) (hS : Sp.TimsAt w C sp) (hok : okB ts = true) :
    Calls Try.prog 24 #[.slice A ts.length cap, .slice C sp.length cd] w fun e W' => SackSays ts sp w e W' := by
  have HS : Hid (sackL ts sp = ts.map (sackF sp) ∧ freshL ts sp = ts.filter (freshB sp) ∧ chkI ts = 0) := by unfold Hid sackL freshL chkI; rw [hok]; exact ⟨rfl, rfl, rfl⟩
  have hml := (okB_iff.1 hok).1
  have hsl : sp.length ≤ 9223372036854775807 := hS.1
  have c1 := refCheck_ok A cap ts w hT hok
  have HC2 : Hid (∀ U, RowKit.Below w.heap.size w U → Calls Try.prog 13 #[.slice A ts.length cap] U fun e W' => ∃ va vc, e = .returned (.slice va ts.length vc) ∧ RowR W' U.heap.size va ts.length vc ts ∧ RowKit.Below U.heap.size U W') := fun U hU => copy_any A cap ts U (hT.later hU) hA (by omega)
  have HT : Hid (RecsAt w A ts ∧ Sp.TimsAt w C sp) := ⟨hT, hS⟩
  obtain ⟨n, hn⟩ : ∃ n, ts.length = n := ⟨_, rfl⟩
  obtain ⟨p, hp⟩ : ∃ p, sp.length = p := ⟨_, rfl⟩
  have HN : Hid (ts.length = n ∧ sp.length = p) := ⟨hn, hp⟩
  rw [hn] at c1 hml HC2 ⊢
  rw [hp] at hsl ⊢
  clear hok hT hS hA hn hp
  go_enter Try.func24, Try.ntmps24
  go_wp2_with fail
  refine c1.mono ?_
  rintro e w1 ⟨rfl, hB1⟩
  have c2 := HC2.out w1 hB1
  clear c1 HC2
  go_wp2_with fail
  refine c2.mono ?_
  rintro e w2 ⟨va, vc, rfl, hR2, hB2⟩
  have HR0 : Hid (SkAt w w2 va n vc none 0 0 (miL sp ts 0) (fiL sp ts 0)) := ⟨by simpa [miL] using hR2.mono hB1.size, RowR.nil _ _, (fun k h => by cases h), Below.on hB1 hB2⟩
  clear c2 hB1 hB2 hR2
  go_wp2_with fail
  go_loopw [8, 9] (fun v8 vi wr => ∃ (i f : Nat) (vb : Option Addr) (vd : Nat), i ≤ n ∧ f ≤ i ∧ v8 = .slice vb f vd ∧ vi = .int .i64 i ∧ Hid (SkAt w wr va n vc vb f vd (miL sp ts i) (fiL sp ts i)))
    (fun _ vi _ => n - (intOf vi).toNat)
  case atStart => exact ⟨0, 0, none, 0, Nat.zero_le _, Nat.zero_le _, rfl, rfl, HR0.out⟩
  case round =>
    obtain ⟨i, f, vb, vd, hi, hfi, rfl, rfl, HR⟩ := hrel
    by_cases hlt : i < n
    · have hlt' : (i : Int) < (n : Int) := by omega
      have hlt0 : i < ts.length := by rw [HN.out.1]; exact hlt
      obtain ⟨g, rfl, hg1, _⟩ := row_some HR.out.1 (by omega)
      obtain ⟨x, hx⟩ : ∃ x, nth ts i = x := ⟨_, rfl⟩
      have HX : Hid (nth ts i = x) := hx
      clear hx HR0
      go_wp2_with fail
      go_loopw [8, 10] (fun v8 vk wq => ∃ (k f : Nat) (vb : Option Addr) (vd : Nat) (m : Bool), k ≤ p ∧ f ≤ i + 1 ∧ v8 = .slice vb f vd ∧ vk = .int .i64 k ∧
          Hid ((m = false ∧ f ≤ i ∧ SkAt w wq (some ⟨g, 0, none⟩) n vc vb f vd (miL sp ts i) (fiL sp ts i) ∧ covB (sp.take k) x.f x.t = false) ∨ (m = true ∧ freshB sp x = true ∧ SkAt w wq (some ⟨g, 0, none⟩) n vc vb f vd (miL sp ts (i + 1)) (fiL sp ts (i + 1)))))
        (fun _ vk _ => p - (intOf vk).toNat)
      case atStart => exact ⟨0, f, vb, vd, false, Nat.zero_le _, by omega, rfl, rfl, .inl ⟨rfl, hfi, HR.out, rfl⟩⟩
      case round =>
        obtain ⟨k, f, vb, vd, m, hk, hf, rfl, rfl, HQ⟩ := hrel
        have stop : ∀ {wq : World}, freshB sp x = false → SkAt w wq (some ⟨g, 0, none⟩) n vc vb f vd (miL sp ts i) (fiL sp ts i) → SkAt w wq (some ⟨g, 0, none⟩) n vc vb f vd (miL sp ts (i + 1)) (fiL sp ts (i + 1)) := fun hfr h => by
          rw [(mi_same hlt0 (by rw [HX.out]; exact hfr)).1, (mi_same hlt0 (by rw [HX.out]; exact hfr)).2]; exact h
        cases m with
        | true =>
          obtain ⟨hfr, hSk⟩ : freshB sp x = true ∧ SkAt w _ (some ⟨g, 0, none⟩) n vc vb f vd (miL sp ts (i + 1)) (fiL sp ts (i + 1)) := by
            rcases HQ.out with ⟨h, _⟩ | ⟨_, h1, h2⟩
            · cases h
            · exact ⟨h1, h2⟩
          have k5 := (row_cells hSk.1 i hlt).out.2.2.2.2.2.1
          rw [(mi_fresh hlt0 (by rw [HX.out]; exact hfr)).2.2] at k5
          have HSk : Hid (SkAt w _ (some ⟨g, 0, none⟩) n vc vb f vd (miL sp ts (i + 1)) (fiL sp ts (i + 1))) := hSk
          clear stop HQ hSk hfr
          by_cases hkp : k < p
          · have hkp' : (k : Int) < (p : Int) := by omega
            go_wp2_with fail
            go_roundw
            case rel => exact ⟨i + 1, f, vb, vd, by omega, hf, rfl, by go_num, HSk.out⟩
            case measure => simp [intOf]; omega
          · have hkp' : ¬ (k : Int) < (p : Int) := by omega
            go_wp2_with fail
            go_roundw
            case rel => exact ⟨i + 1, f, vb, vd, by omega, hf, rfl, by go_num, HSk.out⟩
            case measure => simp [intOf]; omega
        | false =>
          obtain ⟨hfi2, hSk, hcv⟩ : f ≤ i ∧ SkAt w _ (some ⟨g, 0, none⟩) n vc vb f vd (miL sp ts i) (fiL sp ts i) ∧ covB (sp.take k) x.f x.t = false := by
            rcases HQ.out with ⟨_, h0, h1, h2⟩ | ⟨h, _⟩
            · exact ⟨h0, h1, h2⟩
            · cases h
          have hrc := row_cells hSk.1 i hlt
          rw [miL_nth sp hlt0, HX.out] at hrc
          have HSk : Hid (SkAt w _ (some ⟨g, 0, none⟩) n vc vb f vd (miL sp ts i) (fiL sp ts i)) := hSk
          have ST : Hid (freshB sp x = false → SkAt w _ (some ⟨g, 0, none⟩) n vc vb f vd (miL sp ts (i + 1)) (fiL sp ts (i + 1))) := fun h => stop h hSk
          obtain ⟨r0, r1, _, _, _, r5, _⟩ := hrc.out
          clear stop HQ hrc
          by_cases hkp : k < p
          · have hkp' : (k : Int) < (p : Int) := by omega
            have hk0 : k < sp.length := by rw [HN.out.2]; exact hkp
            cases hsk : x.sk with
            | true =>
              rw [hsk] at r5
              have HE := ST.out (by unfold freshB; rw [hsk]; rfl)
              have HE' : Hid (SkAt w _ (some ⟨g, 0, none⟩) n vc vb f vd (miL sp ts (i + 1)) (fiL sp ts (i + 1))) := HE
              clear hsk HE ST HSk hSk hcv
              go_wp2_with fail
              go_roundw
              case rel => exact ⟨i + 1, f, vb, vd, by omega, hf, rfl, by go_num, HE'.out⟩
              case measure => simp [intOf]; omega
            | false =>
              rw [hsk] at r5
              obtain ⟨sb, so, rfl, s0, s1⟩ := (HT.out.2.later hSk.2.2.2).2 k hk0
              have hct := cov_take hk0 x.f x.t
              rw [hcv, Bool.false_or] at hct
              obtain ⟨q1, hq1⟩ : ∃ q1, (nthS sp k).1 = q1 := ⟨_, rfl⟩
              obtain ⟨q2, hq2⟩ : ∃ q2, (nthS sp k).2 = q2 := ⟨_, rfl⟩
              have s0' : _ = some (Value.int .i64 q1) := s0.trans (by rw [← hq1]; rfl)
              have s1' : _ = some (Value.int .i64 q2) := s1.trans (by rw [← hq2]; rfl)
              rw [hq1, hq2] at hct
              have HFR : Hid (q1 ≤ x.f → x.t ≤ q2 → freshB sp x = true) := fun h1 h2 => by
                unfold freshB; rw [hsk, cov_in hk0 (by rw [hq1]; exact h1) (by rw [hq2]; exact h2)]; rfl
              have HCT : Hid (covB (sp.take (k + 1)) x.f x.t = (decide (q1 ≤ x.f) && decide (x.t ≤ q2))) := hct
              clear s0 s1 hct hq1 hq2 hcv ST
              by_cases hd1 : q1 ≤ x.f
              · by_cases hd2 : x.t ≤ q2
                · have d1 : decide (q1 ≤ x.f) = true := decide_eq_true hd1
                  have d2 : decide (x.t ≤ q2) = true := decide_eq_true hd2
                  have hfr := HFR.out hd1 hd2
                  obtain ⟨b, o, rfl, hl⟩ := (HT.out.1.later hSk.2.2.2).2 i hlt0
                  rw [HX.out] at hl
                  clear hsk HFR HCT hSk
                  go_upto_region 11 with fail
                  go_quiet (fail)
                  obtain ⟨V, hV⟩ : ∃ V, wr.drewN nq = V := ⟨_, rfl⟩
                  have hSV : SkAt w V (some ⟨g, 0, none⟩) n vc vb f vd (miL sp ts i) (fiL sp ts i) := by rw [← hV]; exact ⟨HSk.out.1, HSk.out.2.1, HSk.out.2.2.1, below_drewN HSk.out.2.2.2 _⟩
                  have hlV : RecCells V b (o + i * 12) x := by rw [← hV]; exact hl
                  rw [hV]
                  clear hV r0 r1 r5 s0' s1' hl d1 d2
                  have hR0 := hSV.2.1.alloc (.cells (rv x).toArray 28)
                  have hM0 := hSV.1.alloc (.cells (rv x).toArray 28)
                  have hB2 := below_more hSV.2.2.2 (.cells (rv x).toArray 28)
                  obtain ⟨vb', vd', w', hr, hR, hg, hlz⟩ := app_one (V.alloc (.cells (rv x).toArray 28)) w.heap.size vb f vd _ hR0 hB2.size V.heap.size x (Box.new V 28 _) (by omega)
                  have hM1 : RowR w' w.heap.size (some ⟨g, 0, none⟩) n vc (miL sp ts i) := hM0.aside hR0 hg hSV.2.2.1
                  have hdis : ∀ k, lies vb' k → ¬ lies (some ⟨g, 0, none⟩) k := fun k h1 h2 => by
                    rcases hlz k h1 with h | h
                    · exact hSV.2.2.1 k h h2
                    · have := (hM0.ge (k := k) h2).2; omega
                  have hB3 : RowKit.Below w.heap.size w w' := below_append hB2 hB2.size hR0 hg
                  have HRN : Hid ((Builtin.append_ #[22, 22] 22 #[.slice vb f vd, .slice (some ⟨V.heap.size, 0, none⟩) 1 1]).run Try.prog (V.alloc (.cells #[.int .i64 x.f, .int .i64 x.t, .bool x.fin, .int .i64 x.sent, .int .i64 x.tx, .bool x.sk, .bool x.lo, .bool x.ag, .int .i64 x.gv, .int .i64 x.ga, .int .i64 x.fa, .bool x.idl] 28)) = .ok (.slice vb' (f + 1) vd') w') := hr
                  have hml2 := miL_len sp ts i
                  have e0 := miL_nth sp hlt0
                  rw [HX.out] at e0
                  have r1 := row_set hM1 i 5 hlt (by omega) (.bool true) ⟨x.f, x.t, x.fin, x.sent, x.tx, true, x.lo, x.ag, x.gv, x.ga, x.fa, x.idl⟩ (by rw [e0]; rfl)
                  have r2 := row_set r1 i 6 hlt (by omega) (.bool false) ⟨x.f, x.t, x.fin, x.sent, x.tx, true, false, x.ag, x.gv, x.ga, x.fa, x.idl⟩ (by rw [nth_set_self (by omega)]; rfl)
                  have r3 := row_set r2 i 7 hlt (by omega) (.bool false) (sackR x) (by rw [nth_set_self (by simp; omega)]; rfl)
                  have hmf := mi_fresh hlt0 (sp := sp) (by rw [HX.out]; exact hfr)
                  rw [HX.out] at hmf
                  have hgw : w.heap.size ≤ g := hg1
                  have HFIN : Hid (SkAt w (((w'.setCell ⟨g, i * 12 + 5, none⟩ (.bool true)).setCell ⟨g, i * 12 + 6, none⟩ (.bool false)).setCell ⟨g, i * 12 + 7, none⟩ (.bool false)) (some ⟨g, 0, none⟩) n vc vb' (f + 1) vd' (miL sp ts (i + 1)) (fiL sp ts (i + 1))) := by
                    refine ⟨?_, ?_, hdis, below_set (below_set (below_set hB3 hgw _ _) hgw _ _) hgw _ _⟩
                    · rw [List.set_set, List.set_set, hmf.1] at r3; exact r3
                    · rw [hmf.2.1]
                      refine hR.of_block (fun g' e => ?_)
                      have hne : g' ≠ g := fun e2 => hdis g' e (by rw [e2]; rfl)
                      rw [Below.heap_setCell _ _ _ g' hne, Below.heap_setCell _ _ _ g' hne, Below.heap_setCell _ _ _ g' hne]
                  have f1 := row_frozen hM1 (i * 12 + 5)
                  have f2 := row_frozen r1 (i * 12 + 6)
                  have f3 := row_frozen r2 (i * 12 + 7)
                  have z5 := (row_cells hM1 i hlt).out.2.2.2.2.2.1
                  have z6 := (row_cells r1 i hlt).out.2.2.2.2.2.2.1
                  have z7 := (row_cells r2 i hlt).out.2.2.2.2.2.2.2.1
                  obtain ⟨k0, k1, k2, k3, k4, k5, k6, k7, k8, k9, k10, k11⟩ := hlV.out
                  have HFR2 : Hid (freshB sp x = true) := hfr
                  clear hr hR hg hlz hR0 hM0 hB2 hM1 hdis hB3 r1 r2 r3 hmf hSV hlV HSk hfr e0 hml2
                  go_wp2_with (at_builtin; refine Lib.wpList_append_run (V.alloc (.cells #[.int .i64 x.f, .int .i64 x.t, .bool x.fin, .int .i64 x.sent, .int .i64 x.tx, .bool x.sk, .bool x.lo, .bool x.ag, .int .i64 x.gv, .int .i64 x.ga, .int .i64 x.fa, .bool x.idl] 28)) rfl (.tmp 60) (.tmp 65) 22 22 rfl (.slice vb f vd) (.slice (some ⟨V.heap.size, 0, none⟩) 1 1) rfl rfl (.slice vb' (f + 1) vd') w' HRN.out ?_)
                  go_roundw
                  case rel => exact ⟨k + 1, f + 1, vb', vd', true, by omega, by omega, rfl, by go_num, .inr ⟨rfl, HFR2.out, HFIN.out⟩⟩
                  case measure => simp [intOf]; omega
                · have d1 : decide (q1 ≤ x.f) = true := decide_eq_true hd1
                  have d2 : decide (x.t ≤ q2) = false := decide_eq_false hd2
                  have HC1 : Hid (covB (sp.take (k + 1)) x.f x.t = false) := by unfold Hid; rw [HCT.out, d2, Bool.and_false]
                  clear hsk HFR HCT hSk
                  go_upto_region 11 with fail
                  go_quiet (fail)
                  go_wp2_with fail
                  go_roundw
                  case rel => exact ⟨k + 1, f, vb, vd, false, by omega, hf, rfl, by go_num, .inl ⟨rfl, hfi2, ⟨HSk.out.1, HSk.out.2.1, HSk.out.2.2.1, below_drewN HSk.out.2.2.2 _⟩, HC1.out⟩⟩
                  case measure => simp [intOf]; omega
              · have d1 : decide (q1 ≤ x.f) = false := decide_eq_false hd1
                have HC1 : Hid (covB (sp.take (k + 1)) x.f x.t = false) := by unfold Hid; rw [HCT.out, d1, Bool.false_and]
                clear hsk HFR HCT hSk
                go_upto_region 11 with fail
                go_quiet (fail)
                go_wp2_with fail
                go_roundw
                case rel => exact ⟨k + 1, f, vb, vd, false, by omega, hf, rfl, by go_num, .inl ⟨rfl, hfi2, ⟨HSk.out.1, HSk.out.2.1, HSk.out.2.2.1, below_drewN HSk.out.2.2.2 _⟩, HC1.out⟩⟩
                case measure => simp [intOf]; omega
          · have hkp' : ¬ (k : Int) < (p : Int) := by omega
            obtain rfl : k = p := by omega
            have HE' : Hid (SkAt w _ (some ⟨g, 0, none⟩) n vc vb f vd (miL sp ts (i + 1)) (fiL sp ts (i + 1))) := ST.out (by
              have h9 : sp.take k = sp := by rw [← HN.out.2]; exact List.take_length
              rw [h9] at hcv
              unfold freshB; rw [hcv, Bool.and_false])
            clear hcv ST HSk hSk
            go_wp2_with fail
            go_roundw
            case rel => exact ⟨i + 1, f, vb, vd, by omega, hf, rfl, by go_num, HE'.out⟩
            case measure => simp [intOf]; omega
    · obtain rfl : i = n := by omega
      have hall : miL sp ts i = ts.map (sackF sp) ∧ fiL sp ts i = ts.filter (freshB sp) := by
        unfold miL fiL; rw [← HN.out.1, List.take_length, List.drop_length, List.append_nil]; exact ⟨rfl, rfl⟩
      have hSk := HR.out
      rw [hall.1, hall.2] at hSk
      have H1 : Hid ((ts.map (sackF sp)).length = i ∧ (ts.filter (freshB sp)).length = f) := ⟨hSk.1.len, hSk.2.1.len⟩
      have HSk : Hid (SkAt w _ va i vc vb f vd (ts.map (sackF sp)) (ts.filter (freshB sp))) := hSk
      clear hall hSk HR0 HR
      go_wp2_with fail
      go_ret3
      unfold SackSays
      rw [HS.out.1, HS.out.2.1, HS.out.2.2, H1.out.1, H1.out.2]
      exact ⟨va, vc, vb, vd, rfl, HSk.out.1, HSk.out.2.1, HSk.out.2.2.2⟩

set_option maxRecDepth 100000 in
set_option maxHeartbeats 4000000 in
theorem refSack_any (A : Option Addr) (cap : Nat) (ts : List Rc) (C : Option Addr) (cd : Nat) (sp : List Tm) (w : World) (hT : RecsAt w A ts) (hA : A = none → cap = 0) (hS : Sp.TimsAt w C sp) :
    Calls Try.prog 24 #[.slice A ts.length cap, .slice C sp.length cd] w fun e W' => SackSays ts sp w e W' := by
  cases hok : okB ts with
  | true => exact refSack_yes A cap ts C cd sp w hT hA hS hok
  | false =>
    have HS : Hid (sackL ts sp = [] ∧ freshL ts sp = [] ∧ chkI ts = 100) := by unfold Hid sackL freshL chkI; rw [hok]; exact ⟨rfl, rfl, rfl⟩
    have c1 := refCheck_no A cap ts w hT hok
    clear hok hT hS hA
    go_enter Try.func24, Try.ntmps24
    go_wp2_with fail
    refine c1.mono ?_
    rintro e w1 ⟨rfl, hB1⟩
    go_wp2_with fail
    go_ret3
    unfold SackSays
    rw [HS.out.1, HS.out.2.1, HS.out.2.2]
    exact ⟨none, 0, none, 0, rfl, RowR.nil _ _, RowR.nil _ _, hB1⟩
end Go.Proofs.Ytokiklaffbdomaa
