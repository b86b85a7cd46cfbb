/- The walk of NetOrder. -/
import Derived.Test.YtkbgpbhlcmainaaHeads
import Derived.Test.YtkbgpbhlcmainaaRefSame
namespace Go.Proofs.Ytkbgpbhlcmainaa
open Go.ChangeShapes Go.WideShapes Go.ChangeAt Go.RowKit
set_option linter.unusedVariables false

/-- The slice at A holds slices that hold the parts. -/
def PartsAt (w : World) (A : Option Addr) (parts : List (List Int)) : Prop :=
  ∀ i, i < parts.length → ∃ b o a c, A = some ⟨b, o, none⟩ ∧ w.cell? ⟨b, o + i, none⟩ = some (.slice a (parts[i]?.getD []).length c) ∧ BytesAt w a (parts[i]?.getD []) ∧ (a = none → c = 0)
theorem PartsAt.later {w w' : World} {A : Option Addr} {parts : List (List Int)} (h : PartsAt w A parts) (hb : Below w.heap.size w w') : PartsAt w' A parts := fun i hi => by
  obtain ⟨b, o, a, c, e, hc, hB, h0⟩ := h i hi
  exact ⟨b, o, a, c, e, (hb.cell (p := ⟨b, o + i, none⟩) (lt_of_cell hc)).trans hc, hB.later hb, h0⟩

/-- The parts, as they were sent. -/
def ordL (parts : List (List Int)) : List Dg := parts.zipIdx.map fun p => (p.1, (p.2 : Int))
theorem ord_len (parts : List (List Int)) : (ordL parts).length = parts.length := by simp [ordL]
theorem ord_at {parts : List (List Int)} {i : Nat} (h : i < parts.length) : (ordL parts)[i]?.getD z0 = (parts[i]?.getD [], (i : Int)) := by
  simp [ordL, h]
theorem ord_drop {parts : List (List Int)} {i : Nat} (h : i < parts.length) : (ordL parts).drop i = (parts[i]?.getD [], (i : Int)) :: (ordL parts).drop (i + 1) := by
  have h' : i < (ordL parts).length := by rw [ord_len]; exact h
  rw [List.drop_eq_getElem_cons h']
  have := ord_at h
  rw [List.getElem?_eq_getElem h'] at this
  exact congrArg (· :: _) this
theorem ord_send {parts : List (List Int)} {i : Nat} (h : i < parts.length) (hs : i < 65536) : sendL ((ordL parts).take i) (parts[i]?.getD []) (i : Int) = (ordL parts).take (i + 1) ∧ sendE ((ordL parts).take i) = 0 ∧ ((ordL parts).take (i + 1)).length = i + 1 := by
  have hl : ((ordL parts).take i).length = i := by rw [List.length_take, ord_len]; omega
  refine ⟨?_, ?_, by rw [List.length_take, ord_len]; omega⟩
  · unfold sendL; rw [if_neg (by omega), take_snoc (by rw [ord_len]; exact h) (ord_at h)]
  · unfold sendE; rw [if_neg (by omega)]
theorem ord_take {x : Dg} {r : List Dg} : takeL (x :: r) 0 = r ∧ takeE (x :: r) 0 = 0 ∧ takeD (x :: r) 0 = x := by
  have hp : plB (x :: r).length 0 = true := by simp [plB]
  unfold takeL takeE takeD
  rw [hp]
  simp

set_option maxRecDepth 100000 in
set_option maxHeartbeats 4000000 in
theorem order_walk (A : Option Addr) (n c : Nat) (parts : List (List Int)) (w : World) (hP : PartsAt w A parts) (hn : parts.length = n) (hm : n ≤ 9223372036854775807) :
    Calls Try.prog 8 #[.slice A n c] w fun e w' => e = .returned (.bool true) ∧ Below w.heap.size w w' := by
  have HP : Hid (PartsAt w A parts ∧ parts.length = n) := ⟨hP, hn⟩
  clear hP hn
  by_cases h3 : 300 < n
  · have h3' : (300 : Int) < (n : Int) := by omega
    go_enter Try.func8, Try.ntmps8
    go_wp2_with fail
    refine (heads_any _).mono ?_
    rintro e w1 ⟨rfl, hB1⟩
    go_wp2_with fail
    go_ret
    exact ⟨rfl, hB1⟩
  · have h3' : ¬ (300 : Int) < (n : Int) := by omega
    go_enter Try.func8, Try.ntmps8
    go_wp2_with fail
    go_loopw [3, 4] (fun vf vi wr => ∃ (i : Nat) (va : Option Addr) (vc : Nat), vi = .int .i64 i ∧ vf = .slice va i vc ∧ i ≤ n ∧ Hid (DatsAt wr va i vc ((ordL parts).take i)) ∧ Hid (Below w.heap.size w wr))
      (fun _ vi _ => n - (intOf vi).toNat)
    case atStart => exact ⟨0, none, 0, rfl, rfl, Nat.zero_le _, by simp [Hid]; exact DatsAt.nil _, Below.refl _ _⟩
    case round =>
      obtain ⟨i, va, vc, rfl, rfl, hin, HF, HB⟩ := hrel
      by_cases hlt : i < n
      · have hlt' : (i : Int) < (n : Int) := by omega
        have hip : i < parts.length := by rw [HP.out.2]; exact hlt
        obtain ⟨b, o, a, ac, rfl, hc, hBy, h0⟩ := HP.out.1.later HB.out i hip
        obtain ⟨s1, s2, s3⟩ := ord_send hip (by omega)
        have c1 := send_any va i vc ((ordL parts).take i) a ac (parts[i]?.getD []) (i : Int) wr HF.out hBy h0 (by unfold I64; omega) _ s1 (i + 1) s3 0 s2
        obtain ⟨pl, hpl⟩ : ∃ pl, (parts[i]?.getD []).length = pl := ⟨_, rfl⟩
        rw [hpl] at hc c1
        clear hBy h0 s1 s2 s3 hip hpl
        go_wp2_with fail
        refine c1.mono ?_
        rintro e w1 ⟨va1, vc1, rfl, hT1, hB1⟩
        have HT1 : Hid (DatsAt w1 va1 (i + 1) vc1 ((ordL parts).take (i + 1))) := hT1
        have HB1 : Hid (Below w.heap.size w w1) := Below.on HB.out hB1
        clear c1 hT1 hB1
        go_wp2_with fail
        go_roundw
        case rel => exact ⟨i + 1, va1, vc1, by go_num, rfl, by omega, HT1.out, HB1.out⟩
        case measure => simp [intOf]; omega
      · obtain rfl : i = n := by omega
        go_wp2_with fail
        go_loopw [3, 7] (fun vf vi wr => ∃ (j m : Nat) (va : Option Addr) (vc : Nat), vi = .int .i64 j ∧ vf = .slice va m vc ∧ j ≤ i ∧ j + m = i ∧ Hid (DatsAt wr va m vc ((ordL parts).drop j)) ∧ Hid (Below w.heap.size w wr))
          (fun _ vi _ => i - (intOf vi).toNat)
        case atStart =>
          refine ⟨0, i, va, vc, rfl, rfl, Nat.zero_le _, by omega, ?_, HB.out⟩
          have h := HF.out
          rw [show (ordL parts).take i = ordL parts from by rw [← HP.out.2, ← ord_len]; exact List.take_length] at h
          exact h
        case round =>
          clear HF HB
          obtain ⟨j, m, va, vc, rfl, rfl, hji, hjm, HF, HB⟩ := hrel
          by_cases hlt2 : j < i
          · have hlt' : (j : Int) < (i : Int) := by omega
            have hjp : j < parts.length := by rw [HP.out.2]; exact hlt2
            obtain ⟨b, o, a, ac, rfl, hc, hBy, h0⟩ := HP.out.1.later HB.out j hjp
            obtain ⟨m', rfl⟩ : ∃ m', m = m' + 1 := ⟨m - 1, by omega⟩
            have hF := HF.out
            rw [ord_drop hjp] at hF
            have hl := hF.len
            obtain ⟨s1, s2, s3⟩ := @ord_take (parts[j]?.getD [], (j : Int)) ((ordL parts).drop (j + 1))
            have c1 := take_any va (m' + 1) vc _ 0 wr hF _ s1 m' (by simp at hl; simp; omega) 0 s2 _ s3
            obtain ⟨ps, hps⟩ : ∃ ps, parts[j]?.getD [] = ps := ⟨_, rfl⟩
            rw [hps] at hc c1 hBy
            obtain ⟨pl, hpl⟩ : ∃ pl, ps.length = pl := ⟨_, rfl⟩
            simp only [hpl] at hc c1
            have HY : Hid (BytesAt wr a ps ∧ ps.length = pl) := ⟨hBy, hpl⟩
            clear hBy h0 s1 s2 s3 hjp hF hl hps hpl
            go_wp2_with fail
            refine c1.mono ?_
            rintro e w1 ⟨ea, ec, va1, vc1, rfl, hK1, hT1, hB1⟩
            have hb1 := below_more hB1 (.cells #[.slice ea pl ec, .int .i64 (j : Int)] 26)
            have hbx := BoxD.new w1 (.slice ea pl ec) (.int .i64 (j : Int))
            have k0 := hbx.cell0
            have k1 := hbx.cell1
            have hca : (w1.alloc (.cells #[.slice ea pl ec, .int .i64 (j : Int)] 26)).cell? ⟨b, o + j, none⟩ = some (.slice a pl ac) := (hb1.cell (p := ⟨b, o + j, none⟩) (lt_of_cell hc)).trans hc
            have HT1 : Hid (DatsAt (w1.alloc (.cells #[.slice ea pl ec, .int .i64 (j : Int)] 26)) va1 m' vc1 ((ordL parts).drop (j + 1))) := hT1.alloc _
            have HB1 : Hid (Below w.heap.size w (w1.alloc (.cells #[.slice ea pl ec, .int .i64 (j : Int)] 26))) := Below.on HB.out hb1
            have hE : BytesAt (w1.alloc (.cells #[.slice ea pl ec, .int .i64 (j : Int)] 26)) ea ps := hK1.1.alloc _
            have hA2 : BytesAt (w1.alloc (.cells #[.slice ea pl ec, .int .i64 (j : Int)] 26)) a ps := HY.out.1.later hb1
            go_upto_region 15 with fail
            obtain ⟨W1, hW1⟩ : ∃ W1, w1.alloc (.cells #[.slice ea pl ec, .int .i64 (j : Int)] 26) = W1 := ⟨_, rfl⟩
            rw [hW1] at hca k0 k1 HT1 HB1 hE hA2 ⊢
            have HK : Hid (∀ n', Calls Try.prog 24 #[.slice ea pl ec, .slice a pl ac] (W1.drewN n') fun e w' => e = .returned (.bool true) ∧ w' = W1.drewN n') := fun n' => by
              have := same_quiet ea a ec ac ps ps (W1.drewN n') hE hA2 true (by simp)
              rw [HY.out.2] at this
              exact this
            clear c1 hK1 hT1 hB1 hb1 hbx hE hA2 hW1 hc
            go_quiet (first | (go_at_call 24; refine Calls.quiet_of_same (HK.out _)))
            go_wp2_with fail
            go_roundw
            case rel => exact ⟨j + 1, m', va1, vc1, by go_num, rfl, by omega, by omega, HT1.out.later (below_drewN (Below.refl _ _) _), below_drewN HB1.out _⟩
            case measure => simp [intOf]; omega
          · obtain rfl : j = i := by omega
            obtain rfl : m = 0 := by omega
            go_wp2_with fail
            refine (heads_any _).mono ?_
            rintro e w2 ⟨rfl, hB2⟩
            go_wp2_with fail
            go_ret
            exact ⟨rfl, Below.on HB.out hB2⟩
end Go.Proofs.Ytkbgpbhlcmainaa
