/- Timers appended to a row of one's own; the document's without, Stop. -/
import Derived.Test.YtdmkbnbdbhggkaaRef
import Derived.Laws.AppendOwnNone
namespace Go.Proofs.Ytdmkbnbdbhggkaa
open Go.ChangeShapes Go.WideShapes Go.ChangeAt Go.RowKit Go.Shelf
set_option linter.unusedVariables false

theorem app_row (w : World) (B : Nat) (va : Option Addr) (n vc : Nat) (xs : List Tm) (hO : RowT w B va n vc xs) (hB : B ≤ w.heap.size) (A : Option Addr) (c : Nat) (l : List Tm) (hT : TimsAt w A l) (hA : A = none → c = 0) (hb : (n + l.length) * 16 ≤ 140737488355328) :
    ∃ va' vc' w', (Builtin.append_ #[22, 22] 22 #[.slice va n vc, .slice A l.length c]).run Try.prog w = .ok (.slice va' (n + l.length) vc') w' ∧ RowT w' B va' (n + l.length) vc' (xs ++ l) ∧ w.grownBy w' (Value.slice va n vc).ownBlock := by
  obtain ⟨i0, hi, hz0, hz1, hz2⟩ := info_parts Try.info31
  cases A with
  | none =>
    have hc := hA rfl
    have hl : l = [] := by
      cases l with
      | nil => rfl
      | cons a r => obtain ⟨_, _, e, _⟩ := hT.2 0 (by simp); cases e
    subst hc; subst hl
    refine ⟨va, vc, w, ?_, by simpa using hO, ⟨rfl, rfl, rfl, Nat.le_refl _, fun _ _ _ => rfl⟩⟩
    have h := run_append_owned_none (P := Try.prog) (w := w) B 22 22 31 i0 2 Try.underlying22 hi _ n _ hO
    simpa using h
  | some ad =>
    have hnews : ∀ j u, (tcells l)[j]? = some u → w.cell? (ad.add j) = some u := by
      cases l with
      | nil => intro j u hj; simp [tcells] at hj
      | cons a r =>
        obtain ⟨b, o, e, _⟩ := hT.2 0 (by simp)
        cases e
        exact hT.news
    obtain ⟨v', w', hr, h1, h2, _⟩ := run_append_own (P := Try.prog) w B 22 22 31 i0 (.agg #[.int .i64 0, .int .i64 0]) 2 16 Try.underlying22 hi hz0 hz1 hz2 rfl (by decide) _ n _ hO ad l.length c (tcells l) (by rw [tcells_len]) hnews (tcells_one l) (by unfold maxLen; omega) hb hB
    rw [← tcells_append] at h1
    obtain ⟨va', vc', rfl, hR⟩ := rowT_of h1
    exact ⟨va', vc', w', hr, hR, h2⟩

theorem row_none {w : World} {B : Nat} {va : Option Addr} {L vc : Nat} {l : List Tm} (h : RowT w B va L vc l) : va = none → vc = 0 := by
  intro e
  rcases h.2 with ⟨e', _⟩ | ⟨g, cap, cur, e', _⟩
  · cases e'; rfl
  · cases e'; cases e

theorem owns_empty (w : World) (B : Nat) (hB : B ≤ w.heap.size) : RowT (w.alloc (.cells #[] 31)) B (some ⟨w.heap.size, 0, none⟩) 0 0 [] :=
  row_mk (cur := []) hB (World.alloc_heap_new w _) (Nat.le_refl _) (by simp [maxLen]) rfl rfl rfl

theorem TimsAt.take {w : World} {a : Option Addr} {l : List Tm} (h : TimsAt w a l) (n : Nat) : TimsAt w a (l.take n) := by
  refine ⟨by have := h.1; simp; omega, fun j hj => ?_⟩
  have hj' : j < n ∧ j < l.length := by simp at hj; omega
  obtain ⟨b, o, e, hc, hd⟩ := h.2 j hj'.2
  refine ⟨b, o, e, ?_, ?_⟩
  · rw [List.getElem?_take_of_lt hj'.1]; exact hc
  · rw [List.getElem?_take_of_lt hj'.1]; exact hd

/-- 'x[l:]', whatever x. -/
def cutT (a : Option Addr) (c l : Nat) : Option Addr := if c = l then a else a.map (·.add (l * 2))
theorem sl_cut (a : Option Addr) (n c l : Nat) (li : Int) (hl : li = (l : Int)) (h1 : l ≤ n) (w : World) :
    (Instr.slice 22 (.slice a n c) (some (.int .i64 li)) none none).run Try.prog w = .ok (.slice (cutT a c l) (n - l) (c - l)) w := by
  subst hl
  rw [run_slice_l w 22 a n c under22 .i64 l (by omega) (by omega), size31]
  simp [cutT, sliced]
theorem TimsAt.cut {w : World} {a : Option Addr} {l : List Tm} (h : TimsAt w a l) (n c : Nat) (hn : n ≤ l.length) (hc : l.length ≤ c) : TimsAt w (cutT a c n) (l.drop n) := by
  refine ⟨by have := h.1; simp; omega, fun j hj => ?_⟩
  have hj' : n + j < l.length := by simp at hj; omega
  obtain ⟨b, o, rfl, hcc, hd⟩ := h.2 (n + j) hj'
  refine ⟨b, o + n * 2, ?_, ?_, ?_⟩
  · rw [cutT, if_neg (by omega), Option.map_some, add_plain]
  · rw [List.getElem?_drop, show o + n * 2 + j * 2 = o + (n + j) * 2 from by omega]; exact hcc
  · rw [List.getElem?_drop, show o + n * 2 + j * 2 + 1 = o + (n + j) * 2 + 1 from by omega]; exact hd
theorem cutT_none {a : Option Addr} {c n : Nat} (h : a = none → c = 0) : cutT a c n = none → c - n = 0 := by
  intro e
  unfold cutT at e
  split at e
  · have := h e; omega
  · cases a with
    | none => have := h rfl; omega
    | some x => cases e

set_option maxRecDepth 100000 in
set_option maxHeartbeats 2000000 in
theorem without_any (A : Option Addr) (cap : Nat) (ts : List Tm) (k : Int) (w : World) (hT : TimsAt w A ts) (h5 : ts.length ≤ 5) :
    Calls Try.prog 24 #[.slice A ts.length cap, .int .i64 k] w fun e w' => ∃ va vc, e = .returned (.slice va (wo ts k).length vc) ∧ RowT w' w.heap.size va (wo ts k).length vc (wo ts k) ∧ Below w.heap.size w w' := by
  obtain ⟨i0, hi, hz0, hz1, hz2⟩ := info_parts Try.info31
  have HT : Hid (TimsAt w A ts) := hT
  obtain ⟨n, hn⟩ : ∃ n, ts.length = n := ⟨_, rfl⟩
  have HN : Hid (ts.length = n) := hn
  rw [hn] at h5 ⊢
  clear hT hn
  go_enter Try.func24, Try.ntmps24
  go_wp2_with fail
  go_loopw [5, 6] (fun v vi wr => ∃ (i L : Nat) (va : Option Addr) (vc : Nat), vi = .int .i64 i ∧ v = .slice va L vc ∧ i ≤ n ∧ L ≤ i ∧ Hid ((wo (ts.take i) k).length = L) ∧ Hid (RowT wr w.heap.size va L vc (wo (ts.take i) k)) ∧ Hid (Below w.heap.size w wr))
    (fun _ vi _ => n - (intOf vi).toNat)
  case atStart => exact ⟨0, 0, none, 0, rfl, rfl, Nat.zero_le _, Nat.le_refl _, by simp [wo, Hid], RowT.nil _ _, Below.refl _ _⟩
  case round =>
    obtain ⟨i, L, va, vc, rfl, rfl, hin, hLi, HL, HR, HB⟩ := hrel
    by_cases hlt : i < n
    · have hi' : i < ts.length := by have := HN.out; omega
      obtain ⟨b, o, rfl, hc0, hc1⟩ := HT.out.2 i hi'
      obtain ⟨x, hx⟩ : ∃ x, ts[i]?.getD (0, 0) = x := ⟨_, rfl⟩
      rw [hx] at hc0 hc1
      have hw0 : wr.cell? ⟨b, o + i * 2, none⟩ = some (.int .i64 x.1) := (HB.out.cell (p := ⟨b, o + i * 2, none⟩) (lt_of_cell hc0)).trans hc0
      have hw1 : wr.cell? ⟨b, o + i * 2 + 1, none⟩ = some (.int .i64 x.2) := (HB.out.cell (p := ⟨b, o + i * 2 + 1, none⟩) (lt_of_cell hc1)).trans hc1
      have htk : ts.take (i + 1) = ts.take i ++ [x] := take_snoc hi' hx
      have hs := HB.out.size
      by_cases hk : x.1 = k
      · have hk' : (x.1 != k) = false := by simpa using hk
        have HX : Hid (wo (ts.take (i + 1)) k = wo (ts.take i) k) := by unfold Hid; rw [htk]; exact wo_snoc_miss _ hk
        clear hk htk hx hc0 hc1 hi'
        go_wp2_with fail
        go_roundw
        case rel => exact ⟨i + 1, L, va, vc, by go_num, rfl, by omega, by omega, by unfold Hid; rw [HX.out]; exact HL.out, by unfold Hid; rw [HX.out]; exact HR.out, HB.out⟩
        case measure => simp [intOf]; omega
      · have hk' : (x.1 != k) = true := by simpa using hk
        have HX : Hid (wo (ts.take (i + 1)) k = wo (ts.take i) k ++ [x]) := by unfold Hid; rw [htk]; exact wo_snoc_hit _ hk
        have o1 := HR.out.alloc (.cells #[.int .i64 x.1, .int .i64 x.2] 31)
        have O1 : Hid (RowT (wr.alloc (.cells #[.int .i64 x.1, .int .i64 x.2] 31)) w.heap.size va L vc (wo (ts.take i) k)) := o1
        clear hk htk hx hc0 hc1 hi' o1
        go_wp2_with (at_builtin; refine wpList_append_lies _ rfl (.tmp 20) (.tmp 25) 22 rfl w.heap.size 31 i0 (.agg #[.int .i64 0, .int .i64 0]) 2 16 Try.underlying22 hi hz0 hz1 hz2 rfl (by decide) (.slice va L vc) L _ rfl O1.out ⟨wr.heap.size, 0, none⟩ 1 1 [.int .i64 x.1, .int .i64 x.2] rfl rfl (cells_new wr [.int .i64 x.1, .int .i64 x.2] 31) two_one (by decide) (by unfold maxLen; omega) (by omega) (by simp; omega) _ rfl ?_; intro g1 c1 w1 hown1 hg1 hat1 _; have hb1 : Hid (Below w.heap.size w w1) := below_append (HB.out.alloc hs _) (by simp; omega) O1.out hg1; rw [← tcells_snoc] at hown1; have hR1 : Hid (RowT w1 w.heap.size (some ⟨g1, 0, none⟩) (L + 1) c1 (wo (ts.take i) k ++ [x])) := hown1; clear hat1 hg1 hown1)
        go_roundw
        case rel => exact ⟨i + 1, L + 1, _, c1, by go_num, rfl, by omega, by omega, by unfold Hid; rw [HX.out, List.length_append, HL.out]; rfl, by unfold Hid; rw [HX.out]; exact hR1.out, hb1.out⟩
        case measure => simp [intOf]; omega
    · obtain rfl : i = n := by omega
      have hall : ts.take i = ts := by rw [← HN.out]; exact List.take_length
      rw [hall] at HL HR
      go_wp2_with fail
      go_ret
      refine ⟨va, vc, by rw [HL.out]; rfl, by rw [HL.out]; exact HR.out, HB.out⟩

set_option maxRecDepth 100000 in
set_option maxHeartbeats 2000000 in
theorem refStop_any (A : Option Addr) (cap : Nat) (ts : List Tm) (k : Int) (w : World) (hT : TimsAt w A ts) :
    Calls Try.prog 14 #[.slice A ts.length cap, .int .i64 k] w fun e w' => ∃ va vc, e = .returned (.tuple #[.slice va (stopL ts k).length vc, .int .i64 (stopE ts k)]) ∧ RowT w' w.heap.size va (stopL ts k).length vc (stopL ts k) ∧ Below w.heap.size w w' := by
  have cC := refCheck_any A cap ts w hT
  cases hc : chk 0 ts with
  | false =>
    have hE : errI ts = 40 := by simp [errI, hc]
    have HE : Hid (stopE ts k = 40 ∧ stopL ts k = []) := by unfold Hid stopE stopL; simp [hc]
    rw [hE] at cC
    clear hE hc
    go_enter Try.func14, Try.ntmps14
    go_wp2_with (go_at_call 17; refine cC.mono ?_; rintro e w1 ⟨rfl, n, rfl⟩)
    go_ret2
    exact ⟨none, 0, by rw [HE.out.1, HE.out.2]; rfl, by rw [HE.out.2]; exact RowT.nil _ _, ⟨rfl, rfl, rfl, Nat.le_refl _, fun _ _ => rfl⟩⟩
  | true =>
    have hE : errI ts = 0 := by simp [errI, hc]
    rw [hE] at cC
    cases hk : kindB k with
    | false =>
      have HE : Hid (stopE ts k = 2 ∧ stopL ts k = []) := by unfold Hid stopE stopL; simp [hc, hk]
      clear hE hc
      go_enter Try.func14, Try.ntmps14
      go_wp2_with (first | (go_at_call 17; refine cC.mono ?_; rintro e w1 ⟨rfl, n, rfl⟩) | (go_at_call 22; refine (refKind_walk _ _).mono ?_; rintro e w1 ⟨rfl, rfl⟩))
      go_ret2
      exact ⟨none, 0, by rw [HE.out.1, HE.out.2]; rfl, by rw [HE.out.2]; exact RowT.nil _ _, ⟨rfl, rfl, rfl, Nat.le_refl _, fun _ _ => rfl⟩⟩
    | true =>
      have HE : Hid (stopE ts k = 0 ∧ stopL ts k = wo ts k) := by unfold Hid stopE stopL; simp [hc, hk]
      have cW := fun n => without_any A cap ts k (w.drewN n) hT (chk0_len hc)
      clear hE hc
      go_enter Try.func14, Try.ntmps14
      go_wp2_with (first | (go_at_call 17; refine cC.mono ?_; rintro e w1 ⟨rfl, n, rfl⟩) | (go_at_call 22; refine (refKind_walk _ _).mono ?_; rintro e w1 ⟨rfl, rfl⟩) | (go_at_call 24; refine (cW _).mono ?_; rintro e w2 ⟨va, vc, rfl, hR, hB⟩))
      go_ret2
      exact ⟨va, vc, by rw [HE.out.1, HE.out.2]; rfl, by rw [HE.out.2]; exact hR, ⟨hB.os, hB.tape, hB.output, hB.size, hB.block⟩⟩
end Go.Proofs.Ytdmkbnbdbhggkaa
