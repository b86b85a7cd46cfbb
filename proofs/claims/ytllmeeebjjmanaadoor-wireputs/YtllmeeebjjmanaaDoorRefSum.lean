/- The contracts of the document's own Sum, and of its parts laid one behind the other. -/
import Derived.Test.YtllmeeebjjmanaaDoorOwn
import Derived.Laws.AppendOwnNone
namespace Go.Proofs.YtllmeeebjjmanaaDoor
open Go.ChangeShapes Go.WideShapes Go.ChangeAt Go.RowKit Go.Shelf
set_option linter.unusedVariables false

/-- The words joined, two bytes at a time. -/
def refI : Int → List Int → Int
  | acc, [] => acc
  | acc, [a] => joinI acc (a * 256)
  | acc, a :: b :: r => refI (joinI acc (a * 256 + b)) r

theorem refI_cnorm : ∀ (bs : List Int) (s : Int), 0 ≤ s → Byts bs → refI (cnorm s) bs = cnorm (s + wt false bs)
  | [], s, _, _ => by simp [refI, wt]
  | [a], s, hs, h => by
    have ha := h a (List.mem_cons_self ..)
    rw [refI, cnorm_join hs (by omega)]
    simp only [wt]
    congr 1
    omega
  | a :: b :: r, s, hs, h => by
    have ha := h a (List.mem_cons_self ..)
    have hb := h b (by simp)
    rw [refI, cnorm_join hs (by omega), refI_cnorm r _ (by omega) (fun x hx => h x (by simp [hx]))]
    simp only [wt]
    congr 1
    omega

theorem refI_acc {bs : List Int} (h : Byts bs) : refI 0 bs = accI bs := by
  have := refI_cnorm bs 0 (by omega) h
  rw [Int.zero_add] at this
  rw [acc_eq h]
  exact this

theorem drop_two {bs : List Int} {i : Nat} (h : i + 1 < bs.length) : bs.drop i = bs[i]?.getD 0 :: bs[i + 1]?.getD 0 :: bs.drop (i + 2) := by
  rw [List.drop_eq_getElem_cons (by omega), List.drop_eq_getElem_cons h]
  simp [show i < bs.length by omega, h]
theorem drop_one {bs : List Int} {i : Nat} (h : i + 1 = bs.length) : bs.drop i = [bs[i]?.getD 0] := by
  rw [List.drop_eq_getElem_cons (by omega), List.drop_of_length_le (by omega)]
  simp [show i < bs.length by omega]

set_option maxHeartbeats 1000000 in
theorem refSum_any (a : Option Addr) (c : Nat) (bs : List Int) (w : World) (hb : BytesAt w a bs) (hr : bs.length ≤ 281474976710656) :
    Calls Tryd.prog 20 #[.slice a bs.length c] w fun e w' => e = .returned (.int .u16 (sumI bs)) ∧ w' = w := by
  obtain ⟨len, hlen⟩ : ∃ len, bs.length = len := ⟨_, rfl⟩
  rw [hlen] at hr ⊢
  have Hlen : Hid (bs.length = len) := hlen
  clear hlen
  go_enter Tryd.func20, Tryd.ntmps20
  go_wp2
  go_loopw [3, 4] (fun vw vi wr => ∃ (i : Nat) (acc : Int), vi = .int .i64 i ∧ vw = .int .u16 acc ∧ i ≤ len + 1 ∧ (0 ≤ acc ∧ acc ≤ 65535) ∧ Hid (refI acc (bs.drop i) = refI 0 bs) ∧ wr = w)
    (fun _ vi _ => len + 1 - (intOf vi).toNat)
  case atStart => exact ⟨0, 0, rfl, rfl, by omega, by omega, by rw [List.drop_zero]; exact rfl, rfl⟩
  case round =>
    obtain ⟨i, acc, rfl, rfl, hi, hab, hacc, rfl⟩ := hrel
    by_cases h1 : i < len
    · obtain ⟨b, o, rfl, hc0⟩ := hb.2.2 i (by have := Hlen.out; omega)
      have y0 : 0 ≤ bs[i]?.getD 0 ∧ bs[i]?.getD 0 ≤ 255 := by
        have hl : i < bs.length := by have := Hlen.out; omega
        have : bs[i]?.getD 0 = bs[i] := by simp [hl]
        rw [this]; exact hb.2.1 _ (List.getElem_mem hl)
      obtain ⟨x0, hx0⟩ : ∃ x0, bs[i]?.getD 0 = x0 := ⟨_, rfl⟩
      rw [hx0] at hc0 y0
      by_cases h2 : i + 1 < len
      · obtain ⟨b', o', e', hc1⟩ := hb.2.2 (i + 1) (by have := Hlen.out; omega)
        cases e'
        have y1 : 0 ≤ bs[i + 1]?.getD 0 ∧ bs[i + 1]?.getD 0 ≤ 255 := by
          have hl : i + 1 < bs.length := by have := Hlen.out; omega
          have : bs[i + 1]?.getD 0 = bs[i + 1] := by simp [hl]
          rw [this]; exact hb.2.1 _ (List.getElem_mem hl)
        obtain ⟨x1, hx1⟩ : ∃ x1, bs[i + 1]?.getD 0 = x1 := ⟨_, rfl⟩
        rw [hx1] at hc1 y1
        have hstep : Hid (refI (joinI acc (x0 * 256 + x1)) (bs.drop (i + 2)) = refI 0 bs) := by
          have := hacc.out
          rw [drop_two (by have := Hlen.out; omega), hx0, hx1, refI] at this
          exact this
        have hjb := join_bd hab (show 0 ≤ x0 * 256 + x1 ∧ x0 * 256 + x1 ≤ 65535 by omega)
        have f2 : (i : Int) + 1 < (len : Int) := by omega
        clear hx0 hx1 hacc
        go_wp2_with (go_at_call 37; refine (refJoin_walk acc (x0 * 256 + x1) hab (by omega) _).mono ?_; rintro e w' ⟨rfl, rfl⟩)
        go_roundw
        case rel => exact ⟨i + 2, _, by go_num, rfl, by omega, hjb, hstep, trivial⟩
        case measure => simp [intOf]; omega
      · have hstep : Hid (refI (joinI acc (x0 * 256)) (bs.drop (i + 2)) = refI 0 bs) := by
          have := hacc.out
          rw [drop_one (by have := Hlen.out; omega), hx0, refI] at this
          rw [List.drop_of_length_le (by have := Hlen.out; omega)]
          exact this
        have hjb := join_bd hab (show 0 ≤ x0 * 256 ∧ x0 * 256 ≤ 65535 by omega)
        have f2 : ¬ (i : Int) + 1 < (len : Int) := by omega
        clear hx0 hacc
        go_wp2_with (go_at_call 37; refine (refJoin_walk acc (x0 * 256) hab (by omega) _).mono ?_; rintro e w' ⟨rfl, rfl⟩)
        go_roundw
        case rel => exact ⟨i + 2, _, by go_num, rfl, by omega, hjb, hstep, trivial⟩
        case measure => simp [intOf]; omega
    · have f1 : ¬ (i : Int) < (len : Int) := by omega
      go_wp2
      go_ret
      have := hacc.out
      rw [List.drop_of_length_le (by have := Hlen.out; omega), refI, refI_acc hb.2.1] at this
      exact ⟨ret_int (by rw [this]; rfl), rfl⟩

end Go.Proofs.YtllmeeebjjmanaaDoor
