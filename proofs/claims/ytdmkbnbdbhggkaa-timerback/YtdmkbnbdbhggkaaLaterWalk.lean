/- The walk of TimerLater. -/
import Derived.Test.YtdmkbnbdbhggkaaHeads
namespace Go.Proofs.Ytdmkbnbdbhggkaa
open Go.ChangeShapes Go.WideShapes Go.ChangeAt Go.RowKit Go.Shelf
set_option linter.unusedVariables false

theorem TimsAt.later {w w' : World} {a : Option Addr} {l : List Tm} (h : TimsAt w a l) (hb : Below w.heap.size w w') : TimsAt w' a l := h.below hb (Nat.le_refl _)
theorem TimsAt.alloc {w : World} {a : Option Addr} {l : List Tm} (h : TimsAt w a l) (o : Obj) : TimsAt (w.alloc o) a l := h.later ((Below.refl _ w).alloc (Nat.le_refl _) o)
theorem below_next {w w1 w2 : World} (h : Below w.heap.size w w1) (h' : Below w1.heap.size w1 w2) : Below w.heap.size w w2 := h.trans (h'.mono h.size)
theorem below_box {w w1 : World} (h : Below w.heap.size w w1) (o : Obj) : Below w.heap.size w (w1.alloc o) := h.alloc h.size o

/-- Set, where all is well. -/
theorem set_ok (A : Option Addr) (cap : Nat) (ts : List Tm) (k t : Int) (w : World) (hT : TimsAt w A ts) (hc : chk 0 ts = true) (hk : kindB k = true) (ht : timeB t = true) (n m : Nat) (hm : ts.length = m) (hn : (setI ts k t).length = n) :
    Calls Try.prog 9 #[.slice A m cap, .int .i64 k, .int .i64 t] w fun e W' => ∃ va vc, e = .returned (.tuple #[.slice va n vc, .int .i64 0]) ∧ TimsAt W' va (setI ts k t) ∧ Below w.heap.size w W' := by
  subst hm
  have hE : setE ts k t = 0 ∧ setL ts k t = setI ts k t := by unfold setE setL; simp [hc, hk, ht]
  have h := set_any A cap ts k t w hT
  rw [hE.1, hE.2, hn] at h
  exact h.mono (fun e W' ⟨va, vc, he, hr, hb⟩ => ⟨va, vc, he, hr.tims, hb⟩)
theorem set_no (A : Option Addr) (cap : Nat) (ts : List Tm) (k t : Int) (w : World) (hT : TimsAt w A ts) (h : ¬ (chk 0 ts = true ∧ kindB k = true ∧ timeB t = true)) (m : Nat) (hm : ts.length = m) :
    ∃ e' : Int, (e' != 0) = true ∧ Calls Try.prog 9 #[.slice A m cap, .int .i64 k, .int .i64 t] w fun e W' => ∃ va vc, e = .returned (.tuple #[.slice va 0 vc, .int .i64 e']) ∧ Below w.heap.size w W' := by
  subst hm
  refine ⟨setE ts k t, ?_, ?_⟩
  · unfold setE
    by_cases hc : chk 0 ts = true
    · have : ¬ (kindB k = true ∧ timeB t = true) := fun h' => h ⟨hc, h'⟩
      rw [if_pos hc, if_neg this]; decide
    · rw [if_neg hc]; decide
  · have hL : setL ts k t = [] := by unfold setL; rw [if_neg h]
    have h' := set_any A cap ts k t w hT
    rw [hL] at h'
    exact h'.mono (fun e W' ⟨va, vc, he, hr, hb⟩ => ⟨va, vc, he, hb⟩)
theorem next_ok (A : Option Addr) (cap : Nat) (ts : List Tm) (w : World) (hT : TimsAt w A ts) (a : Tm) (hn : nextV ts = some a) (m : Nat) (hm : ts.length = m) :
    Calls Try.prog 11 #[.slice A m cap] w fun e W' => e = .returned (.tuple #[tmV a, .bool true]) ∧ Below w.heap.size w W' := by
  subst hm
  have h := next_any A cap ts w hT
  rw [hn] at h
  exact h

theorem later_plain {ts : List Tm} {k was t : Int} (hc : chk 0 ts = true) (hk : kindB k = true) (ht : timeB t = true) (hw : whenI ts k = some was) (hle : was ≤ t) :
    (setI ts k t).length = ts.length ∧ ∃ a b, nextV ts = some a ∧ nextV (setI ts k t) = some b ∧ a.2 ≤ b.2 := by
  have hm := when_mem hw
  have hr := ((chk0_iff _).1 hc).2
  have hs := chk_set hc hk ht
  refine ⟨by rw [set_len hc]; exact wo_len_mem (x := (k, was)) hr hm, ?_⟩
  obtain ⟨a, ha⟩ := next_ne (l := ts) (fun e => by rw [e] at hm; cases hm)
  obtain ⟨b, hb⟩ := next_ne (l := setI ts k t) (fun e => by have : (k, t) ∈ setI ts k t := mem_set.2 (.inl rfl); rw [e] at this; cases this)
  refine ⟨a, b, by unfold nextV; rw [if_pos hc]; exact ha, by unfold nextV; rw [if_pos hs]; exact hb, ?_⟩
  have h1 := next_some ha
  have h2 := next_some hb
  rcases mem_set.1 h2.1 with rfl | ⟨h3, _⟩
  · have := h1.2 _ hm; simp at this ⊢; omega
  · exact h1.2 _ h3

set_option maxRecDepth 100000 in
set_option maxHeartbeats 2000000 in
theorem later_walk (A : Option Addr) (cap : Nat) (ts : List Tm) (k t : Int) (w : World) (hT : TimsAt w A ts) :
    Calls Try.prog 3 #[.slice A ts.length cap, .int .i64 k, .int .i64 t] w fun e w' => e = .returned (.bool true) ∧ Below w.heap.size w w' := by
  have c1 := when_any A cap ts k w hT
  obtain ⟨n, hn⟩ : ∃ n, ts.length = n := ⟨_, rfl⟩
  rw [hn] at c1 ⊢
  have HT : Hid (TimsAt w A ts) := hT
  have HN : Hid (ts.length = n) := hn
  clear hT hn
  by_cases hok : chk 0 ts = true ∧ kindB k = true ∧ timeB t = true
  · cases hw : whenI ts k with
    | none =>
      rw [hw] at c1
      have HO : Hid (chk 0 ts = true ∧ kindB k = true ∧ timeB t = true) := hok
      clear hok hw
      go_enter Try.func3, Try.ntmps3
      go_wp2_with fail
      refine c1.mono ?_
      rintro e w1 ⟨rfl, hB1⟩
      have c2 := set_ok A cap ts k t w1 (HT.out.later hB1) HO.out.1 HO.out.2.1 HO.out.2.2 _ n HN.out rfl
      have HB1 : Hid (Below w.heap.size w w1) := hB1
      clear c1 hB1
      go_wp2_with fail
      refine c2.mono ?_
      rintro e w2 ⟨va, vc, rfl, hT2, hB2⟩
      have HB2 : Hid (Below w.heap.size w w2) := below_next HB1.out hB2
      clear c2 hB2 hT2 HB1
      go_wp2_with (go_at_call 10; refine (heads_any _).mono ?_; rintro e w3 ⟨rfl, hB3⟩)
      go_ret
      exact ⟨rfl, below_next HB2.out hB3⟩
    | some was =>
      rw [hw] at c1
      by_cases hlt : t < was
      · have HO : Hid (chk 0 ts = true ∧ kindB k = true ∧ timeB t = true) := hok
        clear hok hw
        go_enter Try.func3, Try.ntmps3
        go_wp2_with fail
        refine c1.mono ?_
        rintro e w1 ⟨rfl, hB1⟩
        have c2 := set_ok A cap ts k t w1 (HT.out.later hB1) HO.out.1 HO.out.2.1 HO.out.2.2 _ n HN.out rfl
        have HB1 : Hid (Below w.heap.size w w1) := hB1
        clear c1 hB1
        go_wp2_with fail
        refine c2.mono ?_
        rintro e w2 ⟨va, vc, rfl, hT2, hB2⟩
        have HB2 : Hid (Below w.heap.size w w2) := below_next HB1.out hB2
        clear c2 hB2 hT2 HB1
        go_wp2_with (go_at_call 10; refine (heads_any _).mono ?_; rintro e w3 ⟨rfl, hB3⟩)
        go_ret
        exact ⟨rfl, below_next HB2.out hB3⟩
      · obtain ⟨hlen, a, b, ha, hb, hab⟩ := later_plain hok.1 hok.2.1 hok.2.2 hw (by omega)
        have HO : Hid (chk 0 ts = true ∧ kindB k = true ∧ timeB t = true) := hok
        have HL : Hid ((setI ts k t).length = n) := hlen.trans HN.out
        have HA : Hid (nextV ts = some a ∧ nextV (setI ts k t) = some b) := ⟨ha, hb⟩
        clear hok hw hlen ha hb
        go_enter Try.func3, Try.ntmps3
        go_wp2_with fail
        refine c1.mono ?_
        rintro e w1 ⟨rfl, hB1⟩
        have c2 := set_ok A cap ts k t w1 (HT.out.later hB1) HO.out.1 HO.out.2.1 HO.out.2.2 n n HN.out HL.out
        have HB1 : Hid (Below w.heap.size w w1) := hB1
        clear c1 hB1
        go_wp2_with fail
        refine c2.mono ?_
        rintro e w2 ⟨va, vc, rfl, hT2, hB2⟩
        have HB2 : Hid (Below w.heap.size w w2) := below_next HB1.out hB2
        have HT2 : Hid (TimsAt w2 va (setI ts k t)) := hT2
        have c3 := next_ok A cap ts w2 (HT.out.later HB2.out) a HA.out.1 n HN.out
        clear c2 hB2 hT2 HB1
        go_wp2_with fail
        refine c3.mono ?_
        rintro e w3 ⟨rfl, hB3⟩
        have HB3 : Hid (Below w.heap.size w (w3.alloc (.cells #[.int .i64 a.1, .int .i64 a.2] 31))) := below_box (below_next HB2.out hB3) _
        have bA := BoxT.new w3 a
        have c4 := next_ok va vc (setI ts k t) (w3.alloc (.cells #[.int .i64 a.1, .int .i64 a.2] 31)) ((HT2.out.later hB3).alloc _) b HA.out.2 n HL.out
        clear c3 hB3 HB2 HT2
        go_wp2_with fail
        refine c4.mono ?_
        rintro e w4 ⟨rfl, hB4⟩
        have HB4 : Hid (Below w.heap.size w (w4.alloc (.cells #[.int .i64 b.1, .int .i64 b.2] 31))) := below_box (below_next HB3.out hB4) _
        have a1 := ((bA.below hB4 (by simp)).alloc (.cells #[.int .i64 b.1, .int .i64 b.2] 31)).cell1
        have b1 := (BoxT.new w4 b).cell1
        clear c4 hB4 HB3 bA
        go_wp2_with (go_at_call 10; refine (heads_any _).mono ?_; rintro e w5 ⟨rfl, hB5⟩)
        go_ret
        exact ⟨rfl, below_next HB4.out hB5⟩
  · go_enter Try.func3, Try.ntmps3
    go_wp2_with fail
    refine c1.mono ?_
    rintro e w1 ⟨rfl, hB1⟩
    obtain ⟨e', he', c2⟩ := set_no A cap ts k t w1 (HT.out.later hB1) hok n HN.out
    have HB1 : Hid (Below w.heap.size w w1) := hB1
    clear c1 hB1 hok
    go_wp2_with fail
    refine c2.mono ?_
    rintro e w2 ⟨va, vc, rfl, hB2⟩
    have HB2 : Hid (Below w.heap.size w w2) := below_next HB1.out hB2
    clear c2 hB2 HB1
    cases hs : (whenI ts k).isSome <;>
    · go_wp2_with (go_at_call 10; refine (heads_any _).mono ?_; rintro e w3 ⟨rfl, hB3⟩)
      go_ret
      exact ⟨rfl, below_next HB2.out hB3⟩
end Go.Proofs.Ytdmkbnbdbhggkaa
