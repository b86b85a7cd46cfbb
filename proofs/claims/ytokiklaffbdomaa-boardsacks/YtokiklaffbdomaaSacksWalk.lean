/- The walk of BoardSacks. -/
import Derived.Test.YtokiklaffbdomaaSacksP
namespace Go.Proofs.Ytokiklaffbdomaa
open Go.ChangeShapes Go.WideShapes Go.ChangeAt Go.RowKit Go.Shelf
set_option linter.unusedVariables false
attribute [local go_sem] Oper.semAt_some

open Sp (Tm)
set_option maxRecDepth 100000 in
set_option maxHeartbeats 4000000 in
theorem sacks_walk (A : Option Addr) (cap : Nat) (ts : List Rc) (C : Option Addr) (cd : Nat) (sp : List Tm) (w : World) (hT : RecsAt w A ts) (hA : A = none → cap = 0) (hb : ts.length * 80 ≤ 140737488351232) (hS : Sp.TimsAt w C sp) (hC : C = none → cd = 0) (hbs : sp.length * 16 ≤ 140737488351232) :
    Calls Try.prog 7 #[.slice A ts.length cap, .slice C sp.length cd] w fun e W' => e = .returned (.bool true) ∧ RowKit.Below w.heap.size w W' := by
  have c1 := sack_any A cap ts C cd sp w hT hA hS hC (by omega)
  unfold SackSays at c1
  cases hok : okB ts with
  | false =>
    have e1 : sackL ts sp = [] ∧ freshL ts sp = [] := by unfold sackL freshL; rw [hok]; exact ⟨rfl, rfl⟩
    rw [e1.1, e1.2, chk_no hok] at c1
    clear e1 hok hT hA hb hS hC hbs
    go_enter Try.func7, Try.ntmps7
    go_wp2_with fail
    refine c1.mono ?_
    rintro e w1 ⟨va, vc, vb, vd, rfl, _, _, hB1⟩
    go_wp2_with fail
    refine (heads_walk _).mono ?_
    rintro e w3 ⟨rfl, hB3⟩
    go_wp2_with fail
    go_ret
    exact ⟨rfl, Below.on hB1 hB3⟩
  | true =>
    have e1 : sackL ts sp = ts.map (sackF sp) ∧ freshL ts sp = ts.filter (freshB sp) := by unfold sackL freshL; rw [hok]; exact ⟨rfl, rfl⟩
    have hlen := (okB_iff.1 hok).1
    obtain ⟨n, hn⟩ : ∃ n, ts.length = n := ⟨_, rfl⟩
    obtain ⟨f, hf⟩ : ∃ f, (ts.filter (freshB sp)).length = f := ⟨_, rfl⟩
    have hfn : f ≤ n := by rw [← hf, ← hn]; exact List.length_filter_le _ _
    rw [e1.1, e1.2, chk_yes hok, List.length_map, hn, hf] at c1
    have HN : Hid (ts.length = n ∧ (ts.filter (freshB sp)).length = f ∧ okB ts = true ∧ RecsAt w A ts) := ⟨hn, hf, hok, hT⟩
    have C2 : Hid (∀ (U : World) (va : Option Addr) (vc : Nat), RowKit.Below w.heap.size w U → RowR U w.heap.size va n vc (ts.map (sackF sp)) → Calls Try.prog 23 #[.slice va n vc, .slice C sp.length cd] U fun e W' => ∃ na nc za zc, e = .returned (.tuple #[.slice na n nc, .slice za 0 zc, .int .i64 0]) ∧ RecsAt W' na (ts.map (sackF sp)) ∧ RowKit.Below U.heap.size U W') := fun U va vc hU hR => by
      have := sack_any va vc (ts.map (sackF sp)) C cd sp U hR.recs hR.none0 (hS.later hU) hC (by omega)
      unfold SackSays at this
      rw [(sack_again hok sp).1, (sack_again hok sp).2, chk_yes (sack_ok hok sp), List.length_map, hn] at this
      refine this.mono ?_
      rintro e W' ⟨na, nc, za, zc, h1, h2, _, h4⟩
      exact ⟨na, nc, za, zc, h1, h2.recs, h4⟩
    have CK : Hid (∀ (U : World) (va : Option Addr) (vc : Nat), RecsAt U va (ts.map (sackF sp)) → Calls Try.prog 12 #[.slice va n vc] U fun e W' => e = .returned (.int .i64 0) ∧ RowKit.Below U.heap.size U W') := fun U va vc hU => by
      have := check_ok va vc _ U hU (sack_ok hok sp); rwa [List.length_map, hn] at this
    have CPm : Hid (∀ (U : World) (va : Option Addr) (vc : Nat), RecsAt U va (ts.map (sackF sp)) → Calls Try.prog 11 #[.slice va n vc] U fun e W' => e = .returned (.int .i64 (cntB pipeB ts - lessI (ts.filter (freshB sp)))) ∧ RowKit.Below U.heap.size U W') := fun U va vc hU => by
      have := pipe_any va vc _ U hU
      have e : cntB pipeB (ts.map (sackF sp)) = cntB pipeB ts - lessI (ts.filter (freshB sp)) := by
        unfold cntB lessI; rw [if_pos (sack_ok hok sp), if_pos hok]; exact sack_size sp ts
      rwa [List.length_map, hn, e] at this
    have CPl : Hid (∀ (U : World), RowKit.Below w.heap.size w U → Calls Try.prog 11 #[.slice A n cap] U fun e W' => e = .returned (.int .i64 (cntB pipeB ts)) ∧ RowKit.Below U.heap.size U W') := fun U hU => by
      have := pipe_any A cap ts U (hT.later hU); rwa [hn] at this
    have CSm : Hid (∀ (U : World) (va : Option Addr) (vc : Nat), RecsAt U va (ts.map (sackF sp)) → Calls Try.prog 30 #[.slice va n vc] U fun e W' => e = .returned (.int .i64 (cntN sackB ts + (f : Int))) ∧ RowKit.Below U.heap.size U W') := fun U va vc hU => by
      have := sacked_any va vc _ U hU
      have e : cntN sackB (ts.map (sackF sp)) = cntN sackB ts + (f : Int) := by
        unfold cntN; rw [if_pos (sack_ok hok sp), if_pos hok, sack_count, ← hf]; omega
      rwa [List.length_map, hn, e] at this
    have CSl : Hid (∀ (U : World), RowKit.Below w.heap.size w U → Calls Try.prog 30 #[.slice A n cap] U fun e W' => e = .returned (.int .i64 (cntN sackB ts)) ∧ RowKit.Below U.heap.size U W') := fun U hU => by
      have := sacked_any A cap ts U (hT.later hU); rwa [hn] at this
    have hpb : 0 ≤ cntB pipeB ts ∧ cntB pipeB ts ≤ 1125899906842625 := by
      have h1 := pre_out (p := pipeB) hok (List.prefix_refl (sel pipeB 0 ts))
      unfold cntB; rw [if_pos hok, ← sel_map pipeB ts 0]; exact ⟨h1.1, h1.2.1⟩
    have hsb : 0 ≤ cntN sackB ts ∧ cntN sackB ts ≤ 65536 := by
      unfold cntN; rw [if_pos hok]
      have := List.length_filter_le sackB ts
      omega
    rw [hn] at hlen ⊢
    clear e1 hok hT hA hb hn hf hS hC hbs
    go_enter Try.func7, Try.ntmps7
    go_wp2_with fail
    refine c1.mono ?_
    rintro e w1 ⟨va, vc, vb, vd, rfl, hR1, hR2, hB1⟩
    have HR1 : Hid (RowR w1 w.heap.size va n vc (ts.map (sackF sp)) ∧ RowR w1 w.heap.size vb f vd (ts.filter (freshB sp)) ∧ RowKit.Below w.heap.size w w1) := ⟨hR1, hR2, hB1⟩
    clear c1 hR1 hR2 hB1
    go_wp2_with fail
    refine (C2.out w1 va vc HR1.out.2.2 HR1.out.1).mono ?_
    rintro e w2 ⟨na, nc, za, zc, rfl, hn2, hB2⟩
    have cS := same_b na va nc vc (ts.map (sackF sp)) n (by rw [List.length_map]; exact HN.out.1) w2 hn2 (HR1.out.1.recs.later hB2)
    have HR2 : Hid (RowR w2 w.heap.size va n vc (ts.map (sackF sp)) ∧ RowR w2 w.heap.size vb f vd (ts.filter (freshB sp)) ∧ RowKit.Below w.heap.size w w2) := ⟨HR1.out.1.later hB2, HR1.out.2.1.later hB2, Below.on HR1.out.2.2 hB2⟩
    clear hn2 hB2 HR1 C2
    go_wp2_with fail
    refine cS.mono ?_
    rintro e w3 ⟨rfl, hB3⟩
    go_wp2_with fail
    refine (CK.out w3 va vc (HR2.out.1.recs.later hB3)).mono ?_
    rintro e w4 ⟨rfl, hB4⟩
    have HR4 : Hid (RowR w4 w.heap.size va n vc (ts.map (sackF sp)) ∧ RowR w4 w.heap.size vb f vd (ts.filter (freshB sp)) ∧ RowKit.Below w.heap.size w w4) := ⟨(HR2.out.1.later hB3).later hB4, (HR2.out.2.1.later hB3).later hB4, Below.on (Below.on HR2.out.2.2 hB3) hB4⟩
    clear cS hB3 hB4 HR2 CK
    go_wp2_with fail
    go_loopw [11, 12] (fun vl vi wr => ∃ (i : Nat), i ≤ f ∧ vi = .int .i64 i ∧ vl = .int .i64 (lessI ((ts.filter (freshB sp)).take i)) ∧ Hid (RowR wr w.heap.size va n vc (ts.map (sackF sp)) ∧ RowR wr w.heap.size vb f vd (ts.filter (freshB sp)) ∧ RowKit.Below w.heap.size w wr))
      (fun _ vi _ => f - (intOf vi).toNat)
    case atStart => exact ⟨0, Nat.zero_le _, rfl, rfl, HR4.out⟩
    case round =>
      obtain ⟨i, hi, rfl, rfl, HR⟩ := hrel
      by_cases hlt : i < f
      · obtain ⟨g, rfl, _, _⟩ := row_some HR.out.2.1 (by omega)
        have hc := row_cells HR.out.2.1 i hlt
        obtain ⟨hx1, hx2⟩ := fresh_at HN.out.2.2.1 (sp := sp) (i := i) (by rw [HN.out.2.1]; exact hlt)
        obtain ⟨b1, b2⟩ := less_bound HN.out.2.2.1 (freshB sp) i
        have hsn : lessI ((ts.filter (freshB sp)).take (i + 1)) = lessI ((ts.filter (freshB sp)).take i) + (if pipeB (nth (ts.filter (freshB sp)) i) = true then (nth (ts.filter (freshB sp)) i).t - (nth (ts.filter (freshB sp)) i).f else 0) := by
          rw [take_nth (by rw [HN.out.2.1]; exact hlt), less_snoc]
        obtain ⟨x, hx⟩ : ∃ x, nth (ts.filter (freshB sp)) i = x := ⟨_, rfl⟩
        obtain ⟨s0, hs0⟩ : ∃ s0, lessI ((ts.filter (freshB sp)).take i) = s0 := ⟨_, rfl⟩
        rw [hx] at hc hx1 hx2 hsn
        rw [hs0] at b1 b2 hsn ⊢
        obtain ⟨hx3, hx4, hx5, _⟩ := okR_out hx1
        have HSN : Hid (lessI ((ts.filter (freshB sp)).take (i + 1)) = s0 + (if pipeB x = true then x.t - x.f else 0)) := hsn
        have HRa : Hid (∀ ob, RowR (wr.alloc ob) w.heap.size va n vc (ts.map (sackF sp)) ∧ RowR (wr.alloc ob) w.heap.size (some ⟨g, 0, none⟩) f vd (ts.filter (freshB sp)) ∧ RowKit.Below w.heap.size w (wr.alloc ob)) := fun ob => ⟨HR.out.1.alloc _, HR.out.2.1.alloc _, below_more HR.out.2.2 _⟩
        obtain ⟨k0, k1, k2, k3, k4, k5, k6, k7, k8, k9, k10, k11⟩ := hc.out
        rw [hx2] at k5
        clear hx hs0 hsn hc hx1
        cases hlo : x.lo with
        | false =>
          rw [hlo] at k6
          have HP : Hid (pipeB x = true) := by unfold Hid pipeB; rw [hx2, hlo]; rfl
          clear hlo hx2
          go_wp2_with fail
          go_roundw
          case rel => exact ⟨i + 1, by omega, by go_num, (by rw [HSN.out, if_pos HP.out]; congr 1; omega), HRa.out _⟩
          case measure => simp [intOf]; omega
        | true =>
          rw [hlo] at k6
          cases hag : x.ag with
          | true =>
            rw [hag] at k7
            have HP : Hid (pipeB x = true) := by unfold Hid pipeB; rw [hx2, hlo, hag]; rfl
            clear hlo hx2 hag
            go_wp2_with fail
            go_roundw
            case rel => exact ⟨i + 1, by omega, by go_num, (by rw [HSN.out, if_pos HP.out]; congr 1; omega), HRa.out _⟩
            case measure => simp [intOf]; omega
          | false =>
            rw [hag] at k7
            have HP : Hid (pipeB x = false) := by unfold Hid pipeB; rw [hx2, hlo, hag]; rfl
            clear hlo hx2 hag
            go_wp2_with fail
            go_roundw
            case rel => exact ⟨i + 1, by omega, by go_num, (by rw [HSN.out, HP.out]; simp), HRa.out _⟩
            case measure => simp [intOf]; omega
      · obtain rfl : i = f := by omega
        have hall : (ts.filter (freshB sp)).take i = ts.filter (freshB sp) := by rw [← HN.out.2.1]; exact List.take_length
        obtain ⟨b1, b2⟩ := less_bound HN.out.2.2.1 (freshB sp) i
        rw [hall] at b1 b2 ⊢
        obtain ⟨lf, hlf⟩ : ∃ lf, lessI (ts.filter (freshB sp)) = lf := ⟨_, rfl⟩
        rw [hlf] at b1 b2 CPm ⊢
        clear hall hlf
        go_wp2_with fail
        go_loopw [14] (fun vi wr' => ∃ (c : Nat), c ≤ n ∧ vi = .int .i64 c ∧ wr' = wr)
          (fun vi _ => n - (intOf vi).toNat)
        case atStart => exact ⟨0, Nat.zero_le _, rfl, rfl⟩
        case round =>
          obtain ⟨c, hc, rfl, rfl⟩ := hrel
          by_cases hlt2 : c < n
          · obtain ⟨b, o, rfl, hl⟩ := (HN.out.2.2.2.later HR.out.2.2).2 c (by rw [HN.out.1]; exact hlt2)
            obtain ⟨g, rfl, _, _⟩ := row_some HR.out.1 (by omega)
            have hm := row_cells HR.out.1 c hlt2
            rw [nth_map (by rw [HN.out.1]; exact hlt2)] at hm
            obtain ⟨x, hx⟩ : ∃ x, nth ts c = x := ⟨_, rfl⟩
            rw [hx] at hl hm
            have k5 := hl.out.2.2.2.2.2.1
            have q5 := hm.out.2.2.2.2.2.1
            cases hsk : x.sk with
            | true =>
              rw [hsk] at k5
              rw [sackF_sk sp x hsk] at q5
              clear hx hl hm hsk
              go_wp2_with fail
              go_roundw
              case rel => exact ⟨c + 1, by omega, by go_num, by first | rfl | trivial⟩
              case measure => simp [intOf]; omega
            | false =>
              rw [hsk] at k5
              clear hx hl hm hsk q5
              go_wp2_with fail
              go_roundw
              case rel => exact ⟨c + 1, by omega, by go_num, by first | rfl | trivial⟩
              case measure => simp [intOf]; omega
          · obtain rfl : c = n := by omega
            obtain ⟨pp, hpp⟩ : ∃ pp, cntB pipeB ts = pp := ⟨_, rfl⟩
            obtain ⟨ss, hss⟩ : ∃ ss, cntN sackB ts = ss := ⟨_, rfl⟩
            rw [hpp] at CPm CPl hpb
            rw [hss] at CSm CSl hsb
            clear hpp hss
            go_wp2_with fail
            refine (CPm.out _ va vc HR.out.1.recs).mono ?_
            rintro e W1 ⟨rfl, hB1⟩
            go_wp2_with fail
            refine (CPl.out W1 (Below.on HR.out.2.2 hB1)).mono ?_
            rintro e W2 ⟨rfl, hB2⟩
            go_wp2_with fail
            refine (CSm.out W2 va vc ((HR.out.1.recs.later hB1).later hB2)).mono ?_
            rintro e W3 ⟨rfl, hB3⟩
            go_wp2_with fail
            refine (CSl.out W3 (Below.on (Below.on (Below.on HR.out.2.2 hB1) hB2) hB3)).mono ?_
            rintro e W4 ⟨rfl, hB4⟩
            go_wp2_with fail
            refine (heads_walk _).mono ?_
            rintro e W5 ⟨rfl, hB5⟩
            go_wp2_with fail
            go_ret
            exact ⟨rfl, Below.on (Below.on (Below.on (Below.on (Below.on HR.out.2.2 hB1) hB2) hB3) hB4) hB5⟩
end Go.Proofs.Ytokiklaffbdomaa
