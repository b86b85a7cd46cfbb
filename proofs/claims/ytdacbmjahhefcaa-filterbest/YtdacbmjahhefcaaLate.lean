/- The contracts of isAbove, late and better. -/
import Derived.Test.YtdacbmjahhefcaaLeaf
namespace Go.Proofs.Ytdacbmjahhefcaa
open Go.ChangeShapes Go.WideShapes Go.ChangeAt Go.RowKit Go.Shelf
set_option linter.unusedVariables false
set_option linter.unusedSimpArgs false

theorem take_all {l : List Tm} {n : Nat} (h : l.length = n) : l.take n = l := by subst h; exact List.take_length
theorem last_at {l : List Tm} {n : Nat} (h : l.length = n + 1) : lastE none l = some (l[n]?.getD (0, 0)) := by
  have := take_snoc (l := l) (k := n) (by omega) rfl
  rw [take_all h] at this
  rw [this, lastE_snoc]
  congr 1
  rw [← this]
set_option maxRecDepth 100000 in
set_option maxHeartbeats 4000000 in
theorem isAbove_walk (a : Option Addr) (c : Nat) (l : List Tm) (t : Int) (w : World) (hT : TimsAt w a l) : Calls Try.prog 17 #[.slice a l.length c, .int .i64 t] w fun e w' => e = .returned (.bool (above l t)) ∧ w' = w := by
  rcases Nat.eq_zero_or_pos l.length with h0 | h0
  · obtain rfl := List.eq_nil_of_length_eq_zero h0
    go_enter Try.func17, Try.ntmps17
    go_wp2
    all_goals go_ret
    all_goals exact ⟨rfl, rfl⟩
  · obtain ⟨k, hk⟩ : ∃ k, l.length = k + 1 := ⟨l.length - 1, by omega⟩
    obtain ⟨b, o, rfl, hc, hd⟩ := hT.2 k (by omega)
    have hm : l.length ≤ 9223372036854775807 := hT.1
    obtain ⟨x, hx⟩ : ∃ x, l[k]?.getD (0, 0) = x := ⟨_, rfl⟩
    have HE : Hid (above l t = decide (x.1 < t)) := by unfold Hid; rw [above_end (last_at hk), hx]
    rw [hx] at hc
    rw [hk] at hm ⊢
    obtain ⟨n, hn⟩ : ∃ n, k + 1 = n := ⟨_, rfl⟩
    have hn2 : ((n : Int) == 0) = false := by simp; omega
    have hs : IntKind.i64.wrap ((n : Int) - 1) = (k : Int) := by rw [IntKind.wrap_i64]; omega
    have hkn : (k : Int) < (n : Int) := by omega
    rw [hn] at hm ⊢
    clear hn hk hx h0 hT hd
    go_enter Try.func17, Try.ntmps17
    go_wp2
    all_goals go_ret
    all_goals (refine ⟨ret_bool ?_, rfl⟩; rw [HE.out])
    all_goals simp_all
set_option maxRecDepth 100000 in
set_option maxHeartbeats 4000000 in
theorem late_any (A : Option Addr) (cap : Nat) (ts : List Tm) (m : Bool) (t win : Int) (w W0 : World) (hT : TimsAt w A ts) (hT0 : TimsAt W0 A ts) (hcap : ts.length ≤ cap) (hc : chk m none ts = true) (h1 : 0 ≤ win ∧ win ≤ 1125899906842624) (L : List Tm) (hL : ts.filter (newB t win) = L) (N : Nat) (hN : L.length = N) (n : Nat) (hn : ts.length = n) :
    Calls Try.prog 19 #[.slice A n cap, .int .i64 t, .int .i64 win] w fun e w' => (∃ va, e = .returned (.slice va N N) ∧ TimsAt W0 va L) ∧ w' = w := by
  have HT : Hid (TimsAt w A ts) := hT
  have HT0 : Hid (TimsAt W0 A ts) := hT0
  have HC : Hid (chk m none ts = true) := hc
  have hml : ts.length ≤ 9223372036854775807 := hT.1
  have HQ : Hid (ts.filter (newB t win) = L ∧ L.length = N) := ⟨hL, hN⟩
  have HN : Hid (ts.length = n) := hn
  rw [hn] at hml hcap
  clear hT hT0 hn hc hL hN
  have tail : ∀ g, g ≤ n → ts.filter (newB t win) = ts.drop g → Calls Try.prog 24 #[.slice A n cap, .int .i64 (g : Int), .int .i64 (n : Int)] w fun e w' => (∃ va, e = .returned (.slice va N N) ∧ TimsAt W0 va L) ∧ w' = w := fun g hg hf => by
    refine (part_walk A n cap g n w hg hcap).mono ?_
    rintro e w' ⟨rfl, rfl⟩
    have hp := HT0.out.part g n hg (by rw [HN.out]; exact Nat.le_refl _)
    have e1 : (ts.take n).drop g = L := by rw [take_all HN.out, ← hf]; exact HQ.out.1
    have e2 : n - g = N := by rw [← HQ.out.2, ← HQ.out.1, hf, List.length_drop, HN.out]
    rw [e1] at hp
    exact ⟨⟨_, by rw [e2], hp⟩, rfl⟩
  have TAIL : Hid (∀ g, g ≤ n → _) := tail
  clear tail
  go_enter Try.func19, Try.ntmps19
  go_wp2_with fail
  go_loop [7] (fun v => ∃ g : Nat, v = .int .i64 g ∧ g ≤ n ∧ Hid (∀ x ∈ ts.take g, newB t win x = false))
    (fun v => n - (intOf v).toNat)
  case atStart => exact ⟨0, rfl, Nat.zero_le _, fun y hy => by simp at hy⟩
  case round =>
    obtain ⟨g, rfl, hg, HP⟩ := hrel
    by_cases hlt : g < n
    · have hi' : g < ts.length := by have := HN.out; omega
      obtain ⟨b, o, hva, hc0, _⟩ := HT.out.2 g hi'
      subst hva
      obtain ⟨x, hx⟩ : ∃ x, ts[g]?.getD (0, 0) = x := ⟨_, rfl⟩
      have hgx : ts[g]? = some x := by rw [← hx, List.getElem?_eq_getElem hi']; rfl
      have hxe := entB_iff.1 (((chk_iff m ts none).1 HC.out).1 x (List.mem_of_getElem? hgx))
      rw [hx] at hc0
      have hlt' : (g : Int) < (n : Int) := by omega
      have hs : IntKind.i64.wrap (x.1 + win) = x.1 + win := by rw [IntKind.wrap_i64]; omega
      by_cases hxk : x.1 + win < t
      · have HP' : Hid (∀ y ∈ ts.take (g + 1), newB t win y = false) := fun y hy => by
          rw [take_snoc hi' hx] at hy
          rcases List.mem_append.1 hy with hy | hy
          · exact HP.out y hy
          · simp at hy; subst hy; unfold newB; simp; omega
        clear hx hgx hxe hi'
        go_wp2_with fail
        go_round
        case rel => exact ⟨g + 1, by go_num, by omega, HP'.out⟩
        case measure => simp [intOf]; omega
      · have c := TAIL.out g hg (late_cut HC.out HP.out (fun y hy => by rw [hgx] at hy; cases hy; unfold newB; simp; omega))
        clear hx hgx hxe hi'
        go_wp2_with (go_at_call 24; refine c.mono ?_; rintro e w' ⟨⟨va, rfl, hv⟩, rfl⟩)
        go_ret
        exact ⟨⟨va, rfl, hv⟩, rfl⟩
    · obtain rfl : g = n := by omega
      have c := TAIL.out g hg (late_cut HC.out HP.out (fun y hy => by rw [List.getElem?_eq_none (by rw [HN.out]; exact Nat.le_refl _)] at hy; cases hy))
      go_wp2_with (go_at_call 24; refine c.mono ?_; rintro e w' ⟨⟨va, rfl, hv⟩, rfl⟩)
      go_ret
      exact ⟨⟨va, rfl, hv⟩, rfl⟩
set_option maxRecDepth 100000 in
set_option maxHeartbeats 4000000 in
theorem better_any (A : Option Addr) (cap : Nat) (ts : List Tm) (m : Bool) (v : Int) (w W0 : World) (hT : TimsAt w A ts) (hT0 : TimsAt W0 A ts) (hcap : ts.length ≤ cap) (hc : ts.Pairwise (fun x y => folB x y m = true)) (L : List Tm) (hL : ts.filter (fun x => beatB x.2 v m) = L) (N : Nat) (hN : L.length = N) (n : Nat) (hn : ts.length = n) :
    Calls Try.prog 18 #[.slice A n cap, .int .i64 v, .bool m] w fun e w' => (∃ va, e = .returned (.slice va N N) ∧ TimsAt W0 va L) ∧ w' = w := by
  have HT : Hid (TimsAt w A ts) := hT
  have HT0 : Hid (TimsAt W0 A ts) := hT0
  have HC : Hid (ts.Pairwise (fun x y => folB x y m = true)) := hc
  have hml : ts.length ≤ 9223372036854775807 := hT.1
  have HQ : Hid (ts.filter (fun x => beatB x.2 v m) = L ∧ L.length = N) := ⟨hL, hN⟩
  have HN : Hid (ts.length = n) := hn
  rw [hn] at hml hcap
  clear hT hT0 hn hc hL hN
  have tail : ∀ g, g ≤ n → ts.filter (fun x => beatB x.2 v m) = ts.take g → Calls Try.prog 24 #[.slice A n cap, .int .i64 0, .int .i64 (g : Int)] w fun e w' => (∃ va, e = .returned (.slice va N N) ∧ TimsAt W0 va L) ∧ w' = w := fun g hg hf => by
    refine (part_walk A n cap 0 g w (Nat.zero_le _) (by omega)).mono ?_
    rintro e w' ⟨rfl, rfl⟩
    have hp := HT0.out.part 0 g (Nat.zero_le _) (by rw [HN.out]; exact hg)
    have e1 : (ts.take g).drop 0 = L := by rw [List.drop_zero, ← hf]; exact HQ.out.1
    have e2 : g - 0 = N := by rw [← HQ.out.2, ← HQ.out.1, hf, List.length_take, HN.out]; omega
    rw [e1] at hp
    exact ⟨⟨_, by rw [e2], hp⟩, rfl⟩
  have TAIL : Hid (∀ g, g ≤ n → _) := tail
  clear tail
  go_enter Try.func18, Try.ntmps18
  go_wp2_with fail
  go_loop [7] (fun u => ∃ g : Nat, u = .int .i64 g ∧ g ≤ n ∧ Hid (∀ x ∈ ts.drop g, beatB x.2 v m = false))
    (fun u => (intOf u).toNat)
  case atStart => exact ⟨n, rfl, Nat.le_refl _, fun y hy => by rw [List.drop_of_length_le (by rw [HN.out]; exact Nat.le_refl _)] at hy; cases hy⟩
  case round =>
    obtain ⟨g, rfl, hg, HP⟩ := hrel
    cases g with
    | succ k =>
      have hi' : k < ts.length := by have := HN.out; omega
      obtain ⟨b, o, hva, _, hc1⟩ := HT.out.2 k hi'
      subst hva
      obtain ⟨x, hx⟩ : ∃ x, ts[k]?.getD (0, 0) = x := ⟨_, rfl⟩
      have hgx : ts[k]? = some x := by rw [← hx, List.getElem?_eq_getElem hi']; rfl
      rw [hx] at hc1
      obtain ⟨g, hgk⟩ : ∃ g, k + 1 = g := ⟨_, rfl⟩
      have hg0 : (0 : Int) < (g : Int) := by omega
      have hkn : (k : Int) < (n : Int) := by omega
      have hs : IntKind.i64.wrap ((g : Int) - 1) = (k : Int) := by rw [IntKind.wrap_i64]; omega
      obtain ⟨q, hq⟩ : ∃ q, beatB x.2 v m = q := ⟨_, rfl⟩
      have cb := beats_walk x.2 v m
      rw [hq] at cb
      cases q with
      | false =>
        have HP' : Hid (k ≤ n ∧ ∀ y ∈ ts.drop k, beatB y.2 v m = false) := ⟨by omega, fun y hy => by
          rw [List.drop_eq_getElem_cons hi'] at hy
          rcases List.mem_cons.1 hy with hy | hy
          · rw [List.getElem?_eq_getElem hi'] at hgx
            cases hgx
            rw [hy]; exact hq
          · exact HP.out y hy⟩
        have HM : Hid (k + 1 = g) := hgk
        rw [hgk] at hg ⊢
        clear hx hgx hi' hq hgk
        go_wp2_with (go_at_call 23; refine (cb _).mono ?_; rintro e w' ⟨rfl, rfl⟩)
        go_round
        case rel => exact ⟨k, by first | rfl | go_num, HP'.out.1, HP'.out.2⟩
        case measure => have := HM.out; simp [intOf]; omega
      | true =>
        have c := TAIL.out (k + 1) hg (better_cut HC.out (by rw [HN.out]; exact hg) HP.out (fun j y hj hy => by
          obtain rfl : k = j := by omega
          rw [hgx] at hy; cases hy; exact hq))
        rw [hgk] at hg c ⊢
        clear hx hgx hi' hq hgk
        go_wp2_with (first | (go_at_call 23; refine (cb _).mono ?_; rintro e w' ⟨rfl, rfl⟩) | (go_at_call 24; refine c.mono ?_; rintro e w' ⟨⟨va, rfl, hv⟩, rfl⟩))
        go_ret
        exact ⟨⟨va, rfl, hv⟩, rfl⟩
    | zero =>
      have c := TAIL.out 0 (Nat.zero_le _) (better_cut HC.out (Nat.zero_le _) HP.out (fun j y hj => by cases hj))
      go_wp2_with (go_at_call 24; refine c.mono ?_; rintro e w' ⟨⟨va, rfl, hv⟩, rfl⟩)
      go_ret
      exact ⟨⟨va, rfl, hv⟩, rfl⟩
end Go.Proofs.Ytdacbmjahhefcaa
