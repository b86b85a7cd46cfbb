/- The contracts of the document's own Sum, and of its parts laid one behind the other. -/
import Derived.Test.YtcjnpbgnjghcjaaOwn
import Derived.Laws.AppendOwnNone
namespace Go.Proofs.Ytcjnpbgnjghcjaa
open Go.ChangeShapes Go.WideShapes Go.ChangeAt Go.RowKit Go.Shelf
set_option linter.unusedVariables false

/-- The words joined, two bytes at a time. -/
def refI : Int → List Int → Int
  | acc, [] => acc
  | acc, [a] => joinI acc (a * 256)
  | acc, a :: b :: r => refI (joinI acc (a * 256 + b)) r

theorem refI_cnorm : ∀ (bs : List Int) (s : Int), 0 ≤ s → Byts bs → refI (cnorm s) bs = cnorm (s + wt false bs)
  | [], s, _, _ => by simp [refI, wt]
  | [a], s, hs, h => by
    have ha := h a (List.mem_cons_self ..)
    rw [refI, cnorm_join hs (by omega)]
    simp only [wt]
    congr 1
    omega
  | a :: b :: r, s, hs, h => by
    have ha := h a (List.mem_cons_self ..)
    have hb := h b (by simp)
    rw [refI, cnorm_join hs (by omega), refI_cnorm r _ (by omega) (fun x hx => h x (by simp [hx]))]
    simp only [wt]
    congr 1
    omega

theorem refI_acc {bs : List Int} (h : Byts bs) : refI 0 bs = accI bs := by
  have := refI_cnorm bs 0 (by omega) h
  rw [Int.zero_add] at this
  rw [acc_eq h]
  exact this

theorem drop_two {bs : List Int} {i : Nat} (h : i + 1 < bs.length) : bs.drop i = bs[i]?.getD 0 :: bs[i + 1]?.getD 0 :: bs.drop (i + 2) := by
  rw [List.drop_eq_getElem_cons (by omega), List.drop_eq_getElem_cons h]
  simp [show i < bs.length by omega, h]
theorem drop_one {bs : List Int} {i : Nat} (h : i + 1 = bs.length) : bs.drop i = [bs[i]?.getD 0] := by
  rw [List.drop_eq_getElem_cons (by omega), List.drop_of_length_le (by omega)]
  simp [show i < bs.length by omega]

set_option maxHeartbeats 1000000 in
theorem refSum_any (a : Option Addr) (c : Nat) (bs : List Int) (w : World) (hb : BytesAt w a bs) (hr : bs.length ≤ 281474976710656) :
    Calls Try.prog 11 #[.slice a bs.length c] w fun e w' => e = .returned (.int .u16 (sumI bs)) ∧ w' = w := by
  obtain ⟨len, hlen⟩ : ∃ len, bs.length = len := ⟨_, rfl⟩
  rw [hlen] at hr ⊢
  have Hlen : Hid (bs.length = len) := hlen
  clear hlen
  go_enter Try.func11, Try.ntmps11
  go_wp2
  go_loopw [3, 4] (fun vw vi wr => ∃ (i : Nat) (acc : Int), vi = .int .i64 i ∧ vw = .int .u16 acc ∧ i ≤ len + 1 ∧ (0 ≤ acc ∧ acc ≤ 65535) ∧ Hid (refI acc (bs.drop i) = refI 0 bs) ∧ wr = w)
    (fun _ vi _ => len + 1 - (intOf vi).toNat)
  case atStart => exact ⟨0, 0, rfl, rfl, by omega, by omega, by rw [List.drop_zero]; exact rfl, rfl⟩
  case round =>
    obtain ⟨i, acc, rfl, rfl, hi, hab, hacc, rfl⟩ := hrel
    by_cases h1 : i < len
    · obtain ⟨b, o, rfl, hc0⟩ := hb.2.2 i (by have := Hlen.out; omega)
      have y0 : 0 ≤ bs[i]?.getD 0 ∧ bs[i]?.getD 0 ≤ 255 := by
        have hl : i < bs.length := by have := Hlen.out; omega
        have : bs[i]?.getD 0 = bs[i] := by simp [hl]
        rw [this]; exact hb.2.1 _ (List.getElem_mem hl)
      obtain ⟨x0, hx0⟩ : ∃ x0, bs[i]?.getD 0 = x0 := ⟨_, rfl⟩
      rw [hx0] at hc0 y0
      by_cases h2 : i + 1 < len
      · obtain ⟨b', o', e', hc1⟩ := hb.2.2 (i + 1) (by have := Hlen.out; omega)
        cases e'
        have y1 : 0 ≤ bs[i + 1]?.getD 0 ∧ bs[i + 1]?.getD 0 ≤ 255 := by
          have hl : i + 1 < bs.length := by have := Hlen.out; omega
          have : bs[i + 1]?.getD 0 = bs[i + 1] := by simp [hl]
          rw [this]; exact hb.2.1 _ (List.getElem_mem hl)
        obtain ⟨x1, hx1⟩ : ∃ x1, bs[i + 1]?.getD 0 = x1 := ⟨_, rfl⟩
        rw [hx1] at hc1 y1
        have hstep : Hid (refI (joinI acc (x0 * 256 + x1)) (bs.drop (i + 2)) = refI 0 bs) := by
          have := hacc.out
          rw [drop_two (by have := Hlen.out; omega), hx0, hx1, refI] at this
          exact this
        have hjb := join_bd hab (show 0 ≤ x0 * 256 + x1 ∧ x0 * 256 + x1 ≤ 65535 by omega)
        have f2 : (i : Int) + 1 < (len : Int) := by omega
        clear hx0 hx1 hacc
        go_wp2_with (go_at_call 14; refine (refJoin_walk acc (x0 * 256 + x1) hab (by omega) _).mono ?_; rintro e w' ⟨rfl, rfl⟩)
        go_roundw
        case rel => exact ⟨i + 2, _, by go_num, rfl, by omega, hjb, hstep, trivial⟩
        case measure => simp [intOf]; omega
      · have hstep : Hid (refI (joinI acc (x0 * 256)) (bs.drop (i + 2)) = refI 0 bs) := by
          have := hacc.out
          rw [drop_one (by have := Hlen.out; omega), hx0, refI] at this
          rw [List.drop_of_length_le (by have := Hlen.out; omega)]
          exact this
        have hjb := join_bd hab (show 0 ≤ x0 * 256 ∧ x0 * 256 ≤ 65535 by omega)
        have f2 : ¬ (i : Int) + 1 < (len : Int) := by omega
        clear hx0 hacc
        go_wp2_with (go_at_call 14; refine (refJoin_walk acc (x0 * 256) hab (by omega) _).mono ?_; rintro e w' ⟨rfl, rfl⟩)
        go_roundw
        case rel => exact ⟨i + 2, _, by go_num, rfl, by omega, hjb, hstep, trivial⟩
        case measure => simp [intOf]; omega
    · have f1 : ¬ (i : Int) < (len : Int) := by omega
      go_wp2
      go_ret
      have := hacc.out
      rw [List.drop_of_length_le (by have := Hlen.out; omega), refI, refI_acc hb.2.1] at this
      exact ⟨ret_int (by rw [this]; rfl), rfl⟩

/-- The parts, and of a nil one that it has no room. -/
def PartsNil (w : World) (A : Option Addr) (parts : List (List Int)) : Prop :=
  parts.length ≤ maxLen ∧ ∀ i, i < parts.length → ∃ b o a c, A = some ⟨b, o, none⟩ ∧ w.cell? ⟨b, o + i, none⟩ = some (.slice a (parts[i]?.getD []).length c) ∧ BytesAt w a (parts[i]?.getD []) ∧ (a = none → c = 0)

theorem PartsNil.parts {w : World} {A : Option Addr} {parts : List (List Int)} (h : PartsNil w A parts) : PartsAt w A parts :=
  ⟨h.1, fun i hi => by obtain ⟨b, o, a, c, e, hc, hb, _⟩ := h.2 i hi; exact ⟨b, o, a, c, e, hc, hb⟩⟩

theorem news_all {w : World} {x : Addr} {bs : List Int} (h : BytesAt w (some x) bs) : ∀ j u, (bs.map (Value.int .u8))[j]? = some u → w.cell? (x.add j) = some u := by
  intro j u hj
  have hjl : j < bs.length := by
    rcases Nat.lt_or_ge j bs.length with h | h
    · exact h
    · rw [List.getElem?_eq_none (by simpa using h)] at hj; cases hj
  obtain ⟨b, o, e, hc⟩ := h.2.2 j hjl
  cases e
  exact h.news j u hj

theorem upto_byts {w : World} {A : Option Addr} {parts : List (List Int)} (h : PartsAt w A parts) (i : Nat) : Byts (upto parts i) := by
  intro x hx
  unfold upto at hx
  obtain ⟨p, hp, hxp⟩ := List.mem_flatten.1 hx
  obtain ⟨j, hj, rfl⟩ := List.getElem_of_mem (List.mem_of_mem_take hp)
  obtain ⟨_, _, _, _, _, _, hba⟩ := h.2 j hj
  exact hba.2.1 x (by simpa [hj] using hxp)

set_option maxHeartbeats 1000000 in
theorem all_any (A : Option Addr) (c : Nat) (parts : List (List Int)) (w : World) (hP : PartsNil w A parts) (hr : parts.flatten.length ≤ 140737488355328) :
    Calls Try.prog 9 #[.slice A parts.length c] w fun e w' => ∃ a c', e = .returned (.slice a parts.flatten.length c') ∧ BytesAt w' a parts.flatten ∧ Below w.heap.size w w' := by
  obtain ⟨i0, hi0, hz0, hz1, hz2⟩ := info_parts Try.info5
  obtain ⟨n, hn⟩ : ∃ n, parts.length = n := ⟨_, rfl⟩
  have hnm : n ≤ 9223372036854775807 := by rw [← hn]; exact hP.1
  rw [hn]
  have Hn : Hid (parts.length = n) := hn
  have Hr : Hid (parts.flatten.length ≤ 140737488355328) := hr
  clear hn hr
  go_enter Try.func9, Try.ntmps9
  go_wp2
  go_loopw [3, 4] (fun vo vi wr => ∃ (i L : Nat) (va : Option Addr) (vc : Nat), vi = .int .i64 i ∧ vo = .slice va L vc ∧ i ≤ n ∧ wr.ownsRow w.heap.size 5 1 (.slice va L vc) L ((upto parts i).map (Value.int .u8)) ∧ Below w.heap.size w wr)
    (fun _ vi _ => n - (intOf vi).toNat)
  case atStart => exact ⟨0, 0, none, 0, rfl, rfl, Nat.zero_le _, World.ownsRow_nil _ _ _ _, Below.refl _ _⟩
  case round =>
    obtain ⟨i, L, va, vc, rfl, rfl, hi, hown, hB⟩ := hrel
    have hL : (upto parts i).length = L := by have := hown.1; simpa using this
    by_cases h1 : i < n
    · have hi' : i < parts.length := by have := Hn.out; omega
      obtain ⟨b, o, a, ca, rfl, hc, hba, hnil⟩ := hP.2 i hi'
      obtain ⟨p, hp⟩ : ∃ p, parts[i]?.getD [] = p := ⟨_, rfl⟩
      rw [hp] at hc hba
      have hcx : wr.cell? ⟨b, o + i, none⟩ = some (.slice a p.length ca) := (hB.cell (p := ⟨b, o + i, none⟩) (lt_of_cell hc)).trans hc
      have hbx := hba.below hB (Nat.le_refl _)
      have e1 := upto_succ hi'
      rw [hp] at e1
      have e2 := upto_le parts (i + 1)
      rw [e1, List.length_append, hL] at e2
      have hsum : L + p.length ≤ 140737488355328 := Nat.le_trans e2 Hr.out
      obtain ⟨m, hm⟩ : ∃ m, p.length = m := ⟨_, rfl⟩
      rw [hm] at hcx hsum
      have E1 : Hid (upto parts (i + 1) = upto parts i ++ p ∧ p.length = m) := ⟨e1, hm⟩
      have hsz := hB.size
      clear e1 e2 hp hc hL hm
      cases a with
      | none =>
        obtain rfl : ca = 0 := hnil rfl
        obtain rfl : m = 0 := by
          have := E1.out.2
          rcases Nat.eq_zero_or_pos m with h | h
          · exact h
          · obtain ⟨_, _, e, _⟩ := hba.2.2 0 (by omega)
            cases e
        have hpe : p = [] := List.eq_nil_of_length_eq_zero E1.out.2
        go_wp2_with (at_builtin; refine wpList_append_own_none rfl _ _ 24 rfl w.heap.size 5 i0 1 Try.underlying24 hi0 _ L _ rfl hown rfl ?_)
        go_roundw
        case rel => exact ⟨i + 1, L, va, vc, by go_num, rfl, by omega, by rw [E1.out.1, hpe, List.append_nil]; exact hown, hB⟩
        case measure => simp [intOf]; omega
      | some x =>
        go_wp2_with (at_builtin; refine wpList_append_own _ rfl _ _ 24 rfl w.heap.size 5 i0 (.int .u8 0) 1 1 Try.underlying24 hi0 hz0 hz1 hz2 rfl (by decide) _ L _ rfl hown x m ca (p.map (Value.int .u8)) rfl (by simpa using E1.out.2) (news_all hbx) (ints_one _ _) (by unfold maxLen; omega) (by omega) hsz ?_; intro v1 w1 hown1 hg1 _; have hb1 : Below w.heap.size w w1 := below_append hB hsz hown hg1; rw [← List.map_append] at hown1; obtain ⟨a1, c1, rfl, _, _⟩ := owns_bytes hown1 (byts_append (upto_byts hP.parts i) hba.2.1) (by have := E1.out.1; rw [← this]; have := upto_le parts (i + 1); have := Hr.out; unfold maxLen; omega))
        go_roundw
        case rel => exact ⟨i + 1, L + m, a1, c1, by go_num, rfl, by omega, by rw [E1.out.1]; exact hown1, hb1⟩
        case measure => simp [intOf]; omega
    · obtain rfl : i = n := by omega
      go_wp2
      go_ret
      have hall : upto parts i = parts.flatten := by have := Hn.out; subst this; simp [upto]
      rw [hall] at hown hL
      obtain ⟨a, c', e, hba, _⟩ := owns_bytes hown (by rw [← hall]; exact upto_byts hP.parts i) (by have := Hr.out; unfold maxLen; omega)
      cases e
      subst hL
      exact ⟨_, _, rfl, hba, hB⟩
end Go.Proofs.Ytcjnpbgnjghcjaa
