/- The walk of TimerOrder. -/
import Derived.Test.YtdmkbnbdbhggkaaBackWalk
namespace Go.Proofs.Ytdmkbnbdbhggkaa
open Go.ChangeShapes Go.WideShapes Go.ChangeAt Go.RowKit Go.Shelf
set_option linter.unusedVariables false

theorem due_ok (A : Option Addr) (cap : Nat) (ts : List Tm) (now : Int) (w : World) (hT : TimsAt w A ts) (m : Nat) (hm : ts.length = m) (x : Tm) (f : Bool) (hx : (dueV ts now).getD (0, 0) = x) (hf : (dueV ts now).isSome = f) :
    Calls Try.prog 18 #[.slice A m cap, .int .i64 now] w fun e W' => e = .returned (.tuple #[tmV x, .bool f]) ∧ Below w.heap.size w W' := by
  subst hm; subst hx; subst hf; exact due_any A cap ts now w hT

/-- x comes behind last: by times, then kinds. -/
def Lex (last x : Tm) : Prop := last.2 < x.2 ∨ (x.2 = last.2 ∧ last.1 < x.1)

/-- What is left, and what went off last. -/
structure Left (ts L : List Tm) (last : Tm) (now : Int) (i : Nat) : Prop where
  chk : chk 0 L = true
  len : i + L.length = ts.length
  cnt : i + due L now = due ts now
  lex : ∀ x ∈ L, Lex last x

theorem left_start {ts : List Tm} (now : Int) (h : chk 0 ts = true) : Left ts ts (0, -1) now 0 := by
  refine ⟨h, by omega, by omega, fun x hx => .inl ?_⟩
  have := (((chk0_iff _).1 h).1 x hx).2
  simp [timeB] at this
  simp; omega
theorem left_stop {ts L : List Tm} {last : Tm} {now : Int} {i : Nat} (h : Left ts L last now i) (hd : dueV L now = none) : due ts now = i := by
  have hn : nextV L = nextI L := by unfold nextV; rw [if_pos h.chk]
  unfold dueV at hd
  rw [hn] at hd
  have : due L now = 0 := by
    cases hx : nextI L with
    | none => rw [next_none hx]; rfl
    | some c =>
      rw [hx] at hd
      have h1 := (next_some hx).2
      refine due_none fun y hy => ?_
      have := h1 y hy
      by_cases hc : c.2 ≤ now
      · simp [hc] at hd
      · omega
  have := h.cnt
  omega
theorem left_step {ts L : List Tm} {last x : Tm} {now : Int} {i : Nat} (h : Left ts L last now i) (hd : dueV L now = some x) :
    x.2 ≤ now ∧ Lex last x ∧ kindB x.1 = true ∧ (wo L x.1).length + 1 = L.length ∧ Left ts (wo L x.1) x now (i + 1) := by
  have hn : nextV L = nextI L := by unfold nextV; rw [if_pos h.chk]
  unfold dueV at hd
  rw [hn] at hd
  have hok := (chk0_iff _).1 h.chk
  cases hx : nextI L with
  | none => rw [hx] at hd; cases hd
  | some c =>
    rw [hx] at hd
    by_cases hc : c.2 ≤ now
    · simp [hc] at hd
      subst hd
      have h1 := next_some hx
      have h2 := next_lex hok.2 hx
      have hl := wo_len_mem hok.2 h1.1
      have hdu := due_wo hok.2 h1.1 hc
      refine ⟨hc, h.lex _ h1.1, (hok.1 _ h1.1).1, hl, ⟨chk_wo h.chk _, by have := h.len; omega, by have := h.cnt; omega, fun y hy => ?_⟩⟩
      have hy1 := (List.mem_filter.1 hy).1
      have hy2 := wo_none y hy
      rcases h2 y hy1 with h3 | ⟨h3, h4⟩
      · exact .inl h3
      · exact .inr ⟨h3.symm, by omega⟩
    · simp [hc] at hd

theorem stop_row (A : Option Addr) (cap : Nat) (ts : List Tm) (k : Int) (w : World) (hT : TimsAt w A ts) (hc : chk 0 ts = true) (hk : kindB k = true) (m : Nat) (hm : ts.length = m) (n : Nat) (hn : (wo ts k).length = n) :
    Calls Try.prog 13 #[.slice A m cap, .int .i64 k] w fun e W' => ∃ va vc, e = .returned (.tuple #[.slice va n vc, .int .i64 0]) ∧ TimsAt W' va (wo ts k) ∧ (∀ a, va = some a → w.heap.size ≤ a.block) ∧ Below w.heap.size w W' := by
  subst hm; subst hn
  have hE : stopE ts k = 0 ∧ stopL ts k = wo ts k := by unfold stopE stopL; simp [hc, hk]
  have h := stop_any A cap ts k w hT
  rw [hE.1, hE.2] at h
  exact h.mono (fun e W' ⟨va, vc, he, hr, hb⟩ => ⟨va, vc, he, hr.tims, fun a ha => (row_block hr a ha).1, hb⟩)
theorem TimsAt.set {w : World} {a : Option Addr} {l : List Tm} (h : TimsAt w a l) (lb j : Nat) (v : Value) (hne : ∀ x, a = some x → x.block ≠ lb) : TimsAt (w.setCell ⟨lb, j, none⟩ v) a l := by
  refine ⟨h.1, fun i hi => ?_⟩
  obtain ⟨b, o, e, hc, hd⟩ := h.2 i hi
  have hb := hne _ e
  refine ⟨b, o, e, ?_, ?_⟩
  · rw [World.cell?_setCell_other _ _ _ _ (by intro e'; cases e'; exact hb rfl)]; exact hc
  · rw [World.cell?_setCell_other _ _ _ _ (by intro e'; cases e'; exact hb rfl)]; exact hd
theorem tims_block {w : World} {a : Option Addr} {l : List Tm} (h : TimsAt w a l) (h0 : 0 < l.length) : ∀ x, a = some x → x.block < w.heap.size := by
  intro x hx
  obtain ⟨b, o, e, hc, _⟩ := h.2 0 h0
  rw [e] at hx; cases hx
  exact lt_of_cell hc

set_option maxRecDepth 100000 in
set_option maxHeartbeats 4000000 in
theorem order_walk (A : Option Addr) (cap : Nat) (ts : List Tm) (now : Int) (w : World) (hT : TimsAt w A ts) :
    Calls Try.prog 5 #[.slice A ts.length cap, .int .i64 now] w fun e w' => e = .returned (.bool true) ∧ Below w.heap.size w w' := by
  obtain ⟨n, hn⟩ : ∃ n, ts.length = n := ⟨_, rfl⟩
  rw [hn]
  have HT : Hid (TimsAt w A ts) := hT
  have HN : Hid (ts.length = n) := hn
  have hml : n ≤ 9223372036854775807 := by rw [← hn]; exact hT.1
  clear hT hn
  cases hc : chk 0 ts with
  | false =>
    have c1 := check_ok A cap ts w HT.out n HN.out 40 (by simp [errI, hc])
    clear hc
    go_enter Try.func5, Try.ntmps5
    go_wp2_with (first | (go_at_call 16; refine c1.mono ?_; rintro e w1 ⟨rfl, hB1⟩) | (go_at_call 10; refine (heads_any _).mono ?_; rintro e w3 ⟨rfl, hB3⟩))
    go_ret
    exact ⟨rfl, below_next hB1 hB3⟩
  | true =>
    have c1 := check_ok A cap ts w HT.out n HN.out 0 (by simp [errI, hc])
    have HL0 : Hid (Left ts ts (0, -1) now 0) := left_start now hc
    have hn5 : n ≤ 5 := by rw [← HN.out]; exact chk0_len hc
    clear hc
    go_enter Try.func5, Try.ntmps5
    go_wp2_with fail
    refine c1.mono ?_
    rintro e w1 ⟨rfl, hB1⟩
    obtain ⟨lb, hlb⟩ : ∃ lb, w1.heap.size = lb := ⟨_, rfl⟩
    have HB1 : Hid (Below w.heap.size w (w1.alloc (.cells #[.int .i64 0, .int .i64 (-1)] 31))) := below_box hB1 _
    have bX : BoxT (w1.alloc (.cells #[.int .i64 0, .int .i64 (-1)] 31)) w1.heap.size (0, -1) := BoxT.new w1 (0, -1)
    have HX : Hid (BoxT (w1.alloc (.cells #[.int .i64 0, .int .i64 (-1)] 31)) lb (0, -1) ∧ w.heap.size ≤ lb) := ⟨by rw [← hlb]; exact bX, by rw [← hlb]; exact hB1.size⟩
    clear c1 hB1 bX
    go_wp2_with fail
    clear hlb
    go_loopw [5, 7, 8] (fun vl vc vi wr => ∃ (L : List Tm) (last : Tm) (va : Option Addr) (c i q : Nat), vl = .slice va q c ∧ vc = .int .i64 i ∧ vi = .int .i64 i ∧ i + q = n ∧ Hid (L.length = q ∧ Left ts L last now i ∧ TimsAt wr va L ∧ BoxT wr lb last ∧ Below w.heap.size w wr ∧ (q = 0 ∨ ∀ a, va = some a → a.block ≠ lb)))
      (fun _ _ vi _ => n + 1 - (intOf vi).toNat)
    case atStart =>
      refine ⟨ts, (0, -1), A, cap, 0, n, rfl, rfl, rfl, by omega, HN.out, HL0.out, HT.out.later HB1.out, HX.out.1, HB1.out, ?_⟩
      by_cases h0 : n = 0
      · exact .inl h0
      · exact .inr fun a ha => by have := tims_block HT.out (by have := HN.out; omega) a ha; have := HX.out.2; omega
    case round =>
      obtain ⟨L, last, va, c, i, q, rfl, rfl, rfl, hiq, H⟩ := hrel
      have hlbW : Hid (w.heap.size ≤ lb) := HX.out.2
      clear HB1 HX HL0
      have hle : (i : Int) ≤ (n : Int) := by omega
      cases hd : dueV L now with
      | none =>
        have c2 := due_ok va c L now wr H.out.2.2.1 q H.out.1 (0, 0) false (by rw [hd]; rfl) (by rw [hd]; rfl)
        have HD : Hid (due ts now = i) := left_stop H.out.2.1 hd
        clear hd
        go_wp2_with fail
        refine c2.mono ?_
        rintro e w2 ⟨rfl, hB2⟩
        have HB2 : Hid (Below w.heap.size w (w2.alloc (.cells #[.int .i64 0, .int .i64 0] 31))) := below_box (below_next H.out.2.2.2.2.1 hB2) _
        have HT2 : Hid (TimsAt (w2.alloc (.cells #[.int .i64 0, .int .i64 0] 31)) A ts) := HT.out.later HB2.out
        clear c2 hB2 H
        go_wp2_with fail
        obtain ⟨W2, hW2⟩ : ∃ W2, w2.alloc (.cells #[.int .i64 0, .int .i64 0] 31) = W2 := ⟨_, rfl⟩
        rw [hW2] at HB2 HT2 ⊢
        clear hW2
        go_loop [13, 14] (fun vw vj => ∃ j u : Nat, vj = .int .i64 j ∧ vw = .int .i64 u ∧ j ≤ n ∧ u ≤ j ∧ Hid (due (ts.take j) now = u))
          (fun _ vj => n - (intOf vj).toNat)
        case atStart => exact ⟨0, 0, rfl, rfl, Nat.zero_le _, Nat.le_refl _, by simp [due, Hid]⟩
        case round =>
          obtain ⟨j, u, rfl, rfl, hjn, huj, HU⟩ := hrel
          by_cases hlt : j < n
          · have hj' : j < ts.length := by have := HN.out; omega
            obtain ⟨b, o, hAe, _, hc1⟩ := HT2.out.2 j hj'
            subst hAe
            obtain ⟨x, hx⟩ : ∃ x, ts[j]?.getD (0, 0) = x := ⟨_, rfl⟩
            rw [hx] at hc1
            have htk : ts.take (j + 1) = ts.take j ++ [x] := take_snoc hj' hx
            by_cases hxn : x.2 ≤ now
            · have HU' : Hid (due (ts.take (j + 1)) now = u + 1) := by unfold Hid; rw [htk, due_snoc_yes _ hxn, HU.out]
              clear hx htk hj'
              go_wp2_with fail
              go_round
              case rel => exact ⟨j + 1, u + 1, by go_num, by go_num, by omega, by omega, HU'.out⟩
              case measure => simp [intOf]; omega
            · have HU' : Hid (due (ts.take (j + 1)) now = u) := by unfold Hid; rw [htk, due_snoc_no _ (by omega), HU.out]
              clear hx htk hj'
              go_wp2_with fail
              go_round
              case rel => exact ⟨j + 1, u, by go_num, rfl, by omega, by omega, HU'.out⟩
              case measure => simp [intOf]; omega
          · obtain rfl : j = n := by omega
            obtain rfl : u = i := by
              have := HU.out
              rw [← HN.out, List.take_length, HD.out] at this
              exact this.symm
            go_wp2_with (go_at_call 10; refine (heads_any _).mono ?_; rintro e w3 ⟨rfl, hB3⟩)
            go_ret
            exact ⟨rfl, below_next HB2.out hB3⟩
      | some x =>
        have c2 := due_ok va c L now wr H.out.2.2.1 q H.out.1 x true (by rw [hd]; rfl) (by rw [hd]; rfl)
        obtain ⟨hxn, hlex, hk, hwl, hleft⟩ := left_step H.out.2.1 hd
        obtain ⟨q', hq'⟩ : ∃ q', (wo L x.1).length = q' := ⟨_, rfl⟩
        have HS : Hid (kindB x.1 = true ∧ (wo L x.1).length = q' ∧ Left ts (wo L x.1) x now (i + 1)) := ⟨hk, hq', hleft⟩
        have hqq : q' + 1 = q := by have := H.out.1; omega
        clear hd hk hwl hleft hq'
        go_wp2_with fail
        refine c2.mono ?_
        rintro e w2 ⟨rfl, hB2⟩
        have bX2 := (H.out.2.2.2.1.below hB2 H.out.2.2.2.1.lt).alloc (.cells #[.int .i64 x.1, .int .i64 x.2] 31)
        have bY2 := BoxT.new w2 x
        have HB2 : Hid (Below w.heap.size w (w2.alloc (.cells #[.int .i64 x.1, .int .i64 x.2] 31))) := below_box (below_next H.out.2.2.2.2.1 hB2) _
        have HT2 : Hid (TimsAt (w2.alloc (.cells #[.int .i64 x.1, .int .i64 x.2] 31)) va L) := (H.out.2.2.1.later hB2).alloc _
        have hlt2 : lb < w2.heap.size := Nat.lt_of_lt_of_le H.out.2.2.2.1.lt hB2.size
        have hva : ∀ a, va = some a → a.block ≠ lb := by
          rcases H.out.2.2.2.2.2 with h | h
          · omega
          · exact h
        obtain ⟨WS, hWS⟩ : ∃ WS, ((w2.alloc (.cells #[.int .i64 x.1, .int .i64 x.2] 31)).setCell ⟨lb, 0, none⟩ (.int .i64 x.1)).setCell ⟨lb, 1, none⟩ (.int .i64 x.2) = WS := ⟨_, rfl⟩
        have hBS : Below w.heap.size w WS := by rw [← hWS]; exact (HB2.out.setCell (p := ⟨lb, 0, none⟩) hlbW.out _).setCell (p := ⟨lb, 1, none⟩) hlbW.out _
        have hTS : TimsAt WS va L := by rw [← hWS]; exact (HT2.out.set lb 0 _ hva).set lb 1 _ hva
        have hXS : BoxT WS lb x := by rw [← hWS]; exact bX2.set x
        have hYS : BoxT WS w2.heap.size x := by rw [← hWS]; exact (bY2.other (by omega) _ _).other (by omega) _ _
        have c3 := stop_row va c L x.1 WS hTS H.out.2.1.chk HS.out.1 q H.out.1 q' HS.out.2.1
        have x0 := bX2.cell0
        have x1 := bX2.cell1
        have g0 := bX2.frozen 0
        have g1 := bX2.frozen 1
        have y0 := hYS.cell0
        have HF : Hid (Below w.heap.size w WS ∧ BoxT WS lb x ∧ lb < WS.heap.size) := ⟨hBS, hXS, hXS.lt⟩
        have hq1 : (q : Int) - 1 = (q' : Int) := by omega
        clear c2 hB2 HT2 HB2 bX2 bY2 hBS hTS hXS hYS hva hlt2
        have fin : ∀ (w4 : World) (va4 : Option Addr) (vc4 : Nat), TimsAt w4 va4 (wo L x.1) → (∀ a, va4 = some a → WS.heap.size ≤ a.block) → Below WS.heap.size WS w4 →
            (wo L x.1).length = q' ∧ Left ts (wo L x.1) x now (i + 1) ∧ TimsAt w4 va4 (wo L x.1) ∧ BoxT w4 lb x ∧ Below w.heap.size w w4 ∧ (q' = 0 ∨ ∀ a, va4 = some a → a.block ≠ lb) := fun w4 va4 vc4 h1 h2 h3 =>
          ⟨HS.out.2.1, HS.out.2.2, h1, HF.out.2.1.below h3 HF.out.2.2, below_next HF.out.1 h3, .inr fun a ha => by have := h2 a ha; have := HF.out.2.2; omega⟩
        have FIN : Hid (∀ _ _ _, _) := fin
        clear fin
        rcases hlex with h | ⟨h, h'⟩
        · have e1 : (x.2 == last.2) = false := by simp; omega
          have e2 : ¬ x.2 < last.2 := by omega
          go_wp2_with fail
          refine c3.mono ?_
          rintro e w4 ⟨va4, vc4, rfl, hT4, ha4, hB4⟩
          have HR : Hid (_ ∧ _) := FIN.out w4 va4 vc4 hT4 ha4 hB4
          clear c3 hT4 ha4 hB4 FIN x0 x1 g0 g1 y0 HF HS H hWS
          have hne : ((q' : Int) != (q' : Int)) = false := by simp
          go_wp2_with fail
          go_roundw
          case rel => exact ⟨wo L x.1, x, va4, vc4, i + 1, q', rfl, by go_num, by go_num, by omega, HR.out⟩
          case measure => simp [intOf]; omega
        · have e1 : (x.2 == last.2) = true := by simpa using h
          have e2 : ¬ x.2 < last.2 := by omega
          have e3 : ¬ x.1 ≤ last.1 := by omega
          clear h
          go_wp2_with fail
          refine c3.mono ?_
          rintro e w4 ⟨va4, vc4, rfl, hT4, ha4, hB4⟩
          have HR : Hid (_ ∧ _) := FIN.out w4 va4 vc4 hT4 ha4 hB4
          clear c3 hT4 ha4 hB4 FIN x0 x1 g0 g1 y0 HF HS H hWS
          have hne : ((q' : Int) != (q' : Int)) = false := by simp
          go_wp2_with fail
          go_roundw
          case rel => exact ⟨wo L x.1, x, va4, vc4, i + 1, q', rfl, by go_num, by go_num, by omega, HR.out⟩
          case measure => simp [intOf]; omega
end Go.Proofs.Ytdmkbnbdbhggkaa
