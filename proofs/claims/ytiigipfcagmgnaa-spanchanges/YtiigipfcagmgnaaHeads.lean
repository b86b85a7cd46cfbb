/- The document's Same; the contracts with letters; heads. -/
import Derived.Test.YtiigipfcagmgnaaCut
import Derived.Laws.StructEq
import Derived.Deep.QuietTactic
import Derived.BigQuiet
import Derived.Deep.RegionWith
import Derived.Deep.RegionHeld3
import Derived.Deep.DeepCutAuto
namespace Go.Proofs.Ytiigipfcagmgnaa
open Go.ChangeShapes Go.WideShapes Go.ChangeAt Go.RowKit Go.Shelf
set_option linter.unusedVariables false

theorem ne24 (f t : Int) (w : World) : (binOp .neq 24 (.agg #[.int .i64 f, .int .i64 t]) (.agg #[.int .i64 f, .int .i64 t])).run Try.prog w = .ok (.bool false) w := by
  have hu : Try.prog.underlying 24 = some (.struct (Try.prog.fieldsOf 24)) := by kernel_rfl
  have hs : Try.prog.stoodInHeld 24 = false := by kernel_rfl
  have h := run_equalIn_struct (P := Try.prog) w 9999 24 #[.int .i64 f, .int .i64 t] #[.int .i64 f, .int .i64 t] hu hs
  simp only [binOp]
  simp [Op.equal, Op.maxDepth, h, Op.eqFields, go_sem]

set_option maxRecDepth 100000 in
set_option maxHeartbeats 2000000 in
theorem same_any (A B : Option Addr) (c d : Nat) (xs : List Tm) (w : World) (hA : TimsAt w A xs) (hB : TimsAt w B xs) :
    Calls Try.prog 17 #[.slice A xs.length c, .slice B xs.length d] w fun e w' => e = .returned (.bool true) ∧ ∃ n, w' = w.drewN n := by
  have HA : Hid (TimsAt w A xs) := hA
  have HB : Hid (TimsAt w B xs) := hB
  have hml : xs.length ≤ 9223372036854775807 := hA.1
  obtain ⟨n, hn⟩ : ∃ n, xs.length = n := ⟨_, rfl⟩
  have HN : Hid (xs.length = n) := hn
  rw [hn] at hml ⊢
  clear hA hB hn
  have hne := ne24
  go_enter Try.func17, Try.ntmps17
  go_wp2_with fail
  go_loopw [5] (fun vi wr => ∃ (i k : Nat), vi = .int .i64 i ∧ i ≤ n ∧ wr = w.drewN k)
    (fun vi _ => n - (intOf vi).toNat)
  case atStart => exact ⟨0, 0, rfl, Nat.zero_le _, rfl⟩
  case round =>
    obtain ⟨i, k, rfl, hin, rfl⟩ := hrel
    by_cases hlt : i < n
    · have hi' : i < xs.length := by have := HN.out; omega
      obtain ⟨kb, ko, rfl, hc0, hc1⟩ := HA.out.2 i hi'
      obtain ⟨lb, lo, rfl, hd0, hd1⟩ := HB.out.2 i hi'
      obtain ⟨f, hf⟩ : ∃ f, (xs[i]?.getD (0, 0)).1 = f := ⟨_, rfl⟩
      obtain ⟨t, ht⟩ : ∃ t, (xs[i]?.getD (0, 0)).2 = t := ⟨_, rfl⟩
      rw [hf] at hc0 hd0
      rw [ht] at hc1 hd1
      have hlt' : (i : Int) < (n : Int) := by omega
      clear hf ht hi'
      go_upto_region 6 with fail
      go_quiet (fail)
      go_wp2_with fail
      go_roundw
      case rel => exact ⟨i + 1, _, by go_num, by omega, rfl⟩
      case measure => simp [intOf]; omega
    · obtain rfl : i = n := by omega
      go_wp2_with fail
      go_ret
      exact ⟨rfl, k, rfl⟩

/-- A literal slice of spans. -/
theorem lit_tims (w : World) (l : List Tm) (h : l.length ≤ maxLen) : TimsAt (w.alloc (.cells (tcells l).toArray 24)) (some ⟨w.heap.size, 0, none⟩) l := by
  refine ⟨h, fun j hj => ⟨w.heap.size, 0, rfl, ?_, ?_⟩⟩
  · have := cells_new w (tcells l) 24 (j * 2) _ (tcells_at l j hj).1
    rw [show (⟨w.heap.size, 0, none⟩ : Addr).add (j * 2) = ⟨w.heap.size, 0 + j * 2, none⟩ from by unfold Addr.add; split <;> simp_all] at this
    exact this
  · have := cells_new w (tcells l) 24 (j * 2 + 1) _ (tcells_at l j hj).2
    rw [show (⟨w.heap.size, 0, none⟩ : Addr).add (j * 2 + 1) = ⟨w.heap.size, 0 + j * 2 + 1, none⟩ from by unfold Addr.add; split <;> simp_all] at this
    exact this

/-- A slice in the hand: it holds l; nil has no room. -/
def Got (w : World) (A : Option Addr) (c : Nat) (l : List Tm) : Prop := TimsAt w A l ∧ (A = none → c = 0)
theorem Got.later {w w' : World} {a : Option Addr} {c : Nat} {l : List Tm} (h : Got w a c l) (hb : Below w.heap.size w w') : Got w' a c l := ⟨h.1.later hb, h.2⟩
theorem RowT.got {w : World} {B : Nat} {va : Option Addr} {L vc : Nat} {l : List Tm} (h : RowT w B va L vc l) : Got w va vc l := ⟨h.tims, row_none h⟩
theorem lit_got (w : World) (l : List Tm) (h : l.length ≤ maxLen) (c : Nat) : Got (w.alloc (.cells (tcells l).toArray 24)) (some ⟨w.heap.size, 0, none⟩) c l := ⟨lit_tims w l h, fun e => by cases e⟩

theorem same_is (A B : Option Addr) (c d : Nat) (xs : List Tm) (w : World) (hA : Got w A c xs) (hB : Got w B d xs) (n : Nat) (hn : xs.length = n) :
    Calls Try.prog 17 #[.slice A n c, .slice B n d] w fun e w' => e = .returned (.bool true) ∧ Below w.heap.size w w' := by
  subst hn
  refine (same_any A B c d xs w hA.1 hB.1).mono ?_
  rintro e w' ⟨he, k, rfl⟩
  exact ⟨he, rfl, rfl, rfl, Nat.le_refl _, fun _ _ => rfl⟩
theorem check_is (A : Option Addr) (cap : Nat) (ts : List Tm) (w : World) (hT : Got w A cap ts) (n : Nat) (hn : ts.length = n) (e0 : Int) (he : errI ts = e0) :
    Calls Try.prog 18 #[.slice A n cap] w fun e W' => e = .returned (.int .i64 e0) ∧ Below w.heap.size w W' := by
  subst hn; subst he; exact check_any A cap ts w hT.1
theorem find_is (A : Option Addr) (cap : Nat) (ts : List Tm) (o : Int) (w : World) (hT : Got w A cap ts) (n : Nat) (hn : ts.length = n) (y : Tm) (hy : (findV ts o).getD (0, 0) = y) (b : Bool) (hb : (findV ts o).isSome = b) :
    Calls Try.prog 9 #[.slice A n cap, .int .i64 o] w fun e W' => e = .returned (.tuple #[tmV y, .bool b]) ∧ Below w.heap.size w W' := by
  subst hn; subst hy; subst hb; exact find_any A cap ts o w hT.1
theorem has_is (A : Option Addr) (cap : Nat) (ts : List Tm) (o : Int) (w : World) (hT : Got w A cap ts) (n : Nat) (hn : ts.length = n) (b : Bool) (hb : (findV ts o).isSome = b) :
    Calls Try.prog 10 #[.slice A n cap, .int .i64 o] w fun e W' => e = .returned (.bool b) ∧ Below w.heap.size w W' := by
  subst hn; subst hb; exact has_any A cap ts o w hT.1
theorem size_is (A : Option Addr) (cap : Nat) (ts : List Tm) (w : World) (hT : Got w A cap ts) (n : Nat) (hn : ts.length = n) (e0 : Int) (he : sizeV ts = e0) :
    Calls Try.prog 25 #[.slice A n cap] w fun e W' => e = .returned (.int .i64 e0) ∧ Below w.heap.size w W' := by
  subst hn; subst he; exact size_any A cap ts w hT.1
theorem covers_is (A : Option Addr) (cap : Nat) (ts : List Tm) (s : Tm) (w : World) (hT : Got w A cap ts) (n : Nat) (hn : ts.length = n) (b : Bool) (hb : coversV ts s = b) :
    Calls Try.prog 12 #[.slice A n cap, tmV s] w fun e W' => e = .returned (.bool b) ∧ Below w.heap.size w W' := by
  subst hn; subst hb; exact covers_any A cap ts s w hT.1
theorem gaps_is (A : Option Addr) (cap : Nat) (ts : List Tm) (s : Tm) (w : World) (hT : Got w A cap ts) (n : Nat) (hn : ts.length = n) (hlen : (n + 1) * 16 ≤ 140737488355328) (S : List Tm) (hS : gapsV ts s = S) (m : Nat) (hm : S.length = m) :
    Calls Try.prog 23 #[.slice A n cap, tmV s] w fun e W' => ∃ va vc, e = .returned (.slice va m vc) ∧ Got W' va vc S ∧ Below w.heap.size w W' := by
  subst hn; subst hS; subst hm
  exact (gaps_any A cap ts s w hT.1 hlen).mono (fun e W' ⟨va, vc, he, hr, hb⟩ => ⟨va, vc, he, hr.got, hb⟩)
theorem add_fin (A : Option Addr) (cap : Nat) (ts : List Tm) (s : Tm) (w : World) (hT : Got w A cap ts) (n : Nat) (hn : ts.length = n) (hlen : (n + 1) * 16 ≤ 140737488355328) (S : List Tm) (hS : addV ts s = S) (m : Nat) (hm : S.length = m) (e0 : Int) (he : bothI ts s = e0) :
    Calls Try.prog 13 #[.slice A n cap, tmV s] w fun e W' => ∃ va vc, e = .returned (.tuple #[.slice va m vc, .int .i64 e0]) ∧ Got W' va vc S ∧ Below w.heap.size w W' := by
  subst hn; subst hS; subst hm; subst he
  exact (add_any A cap ts s w hT.1 hT.2 hlen).mono (fun e W' ⟨va, vc, he, hr, hb⟩ => ⟨va, vc, he, hr.got, hb⟩)
theorem cut_fin (A : Option Addr) (cap : Nat) (ts : List Tm) (s : Tm) (w : World) (hT : Got w A cap ts) (n : Nat) (hn : ts.length = n) (hlen : (n + 1) * 16 ≤ 140737488355328) (S : List Tm) (hS : cutV ts s = S) (m : Nat) (hm : S.length = m) (e0 : Int) (he : bothI ts s = e0) :
    Calls Try.prog 15 #[.slice A n cap, tmV s] w fun e W' => ∃ va vc, e = .returned (.tuple #[.slice va m vc, .int .i64 e0]) ∧ Got W' va vc S ∧ Below w.heap.size w W' := by
  subst hn; subst hS; subst hm; subst he
  exact (cut_any A cap ts s w hT.1 hT.2 hlen).mono (fun e W' ⟨va, vc, he, hr, hb⟩ => ⟨va, vc, he, hr.got, hb⟩)
theorem below_alloc {w w1 : World} (h : Below w.heap.size w w1) (o : Obj) : Below w.heap.size w (w1.alloc o) := h.alloc h.size _
theorem Got.alloc {w : World} {a : Option Addr} {c : Nat} {l : List Tm} (h : Got w a c l) (o : Obj) : Got (w.alloc o) a c l := h.later ((Below.refl _ w).alloc (Nat.le_refl _) o)

set_option maxRecDepth 100000 in
set_option maxHeartbeats 4000000 in
theorem heads_any (w : World) : Calls Try.prog 11 #[] w fun e w' => e = .returned (.bool true) ∧ Below w.heap.size w w' := by
  have HL : Hid (Below w.heap.size w (w.alloc (.cells #[.int .i64 0, .int .i64 2, .int .i64 6, .int .i64 7] 24))) := (Below.refl _ w).alloc (Nat.le_refl _) _
  have c1 := add_fin _ 2 [(0, 2), (6, 7)] (2, 4) _ (lit_got w [(0, 2), (6, 7)] (by simp [maxLen]) 2) 2 rfl (by decide) [(0, 4), (6, 7)] (by decide) 2 rfl 0 (by decide)
  go_enter Try.func11, Try.ntmps11
  go_wp2_with fail
  refine c1.mono ?_
  rintro e w1 ⟨va1, vc1, rfl, hT1, hB1⟩
  have HB1 : Hid (Below w.heap.size w w1) := below_next HL.out hB1
  have HT1 : Hid (Got w1 va1 vc1 [(0, 4), (6, 7)]) := hT1
  have c2 := gaps_is va1 vc1 [(0, 4), (6, 7)] (1, 7) w1 hT1 2 rfl (by decide) [(4, 6)] (by decide) 1 rfl
  clear c1 HL hB1 hT1
  go_wp2_with fail
  refine c2.mono ?_
  rintro e w2 ⟨va2, vc2, rfl, hT2, hB2⟩
  have HB2 : Hid (Below w.heap.size w (w2.alloc (.cells #[.int .i64 1, .int .i64 1] 24))) := below_alloc (below_next HB1.out hB2) _
  have HT2 : Hid (Got (w2.alloc (.cells #[.int .i64 1, .int .i64 1] 24)) va1 vc1 [(0, 4), (6, 7)] ∧ Got (w2.alloc (.cells #[.int .i64 1, .int .i64 1] 24)) va2 vc2 [(4, 6)]) := ⟨(HT1.out.later hB2).alloc _, hT2.alloc _⟩
  have c3 := add_fin _ 1 [(1, 1)] (0, 0) _ (lit_got w2 [(1, 1)] (by simp [maxLen]) 1) 1 rfl (by decide) [] (by decide) 0 rfl 60 (by decide)
  clear c2 HB1 HT1 hB2 hT2
  go_wp2_with fail
  refine c3.mono ?_
  rintro e w3 ⟨va3, vc3, rfl, hT3, hB3⟩
  have HB3 : Hid (Below w.heap.size w (w3.alloc (.cells #[.int .i64 0, .int .i64 4, .int .i64 6, .int .i64 7] 24))) := below_alloc (below_next HB2.out hB3) _
  have HT3 : Hid (Got (w3.alloc (.cells #[.int .i64 0, .int .i64 4, .int .i64 6, .int .i64 7] 24)) va1 vc1 [(0, 4), (6, 7)] ∧ Got (w3.alloc (.cells #[.int .i64 0, .int .i64 4, .int .i64 6, .int .i64 7] 24)) va2 vc2 [(4, 6)]) := ⟨(HT2.out.1.later hB3).alloc _, (HT2.out.2.later hB3).alloc _⟩
  have c4 := same_is va1 _ vc1 2 [(0, 4), (6, 7)] _ HT3.out.1 (lit_got w3 [(0, 4), (6, 7)] (by simp [maxLen]) 2) 2 rfl
  clear c3 HB2 HT2 hB3 hT3
  go_wp2_with fail
  refine c4.mono ?_
  rintro e w4 ⟨rfl, hB4⟩
  have HB4 : Hid (Below w.heap.size w (w4.alloc (.cells #[.int .i64 4, .int .i64 6] 24))) := below_alloc (below_next HB3.out hB4) _
  have HT4 : Hid (Got (w4.alloc (.cells #[.int .i64 4, .int .i64 6] 24)) va1 vc1 [(0, 4), (6, 7)]) := (HT3.out.1.later hB4).alloc _
  have c5 := same_is va2 _ vc2 1 [(4, 6)] _ ((HT3.out.2.later hB4).alloc _) (lit_got w4 [(4, 6)] (by simp [maxLen]) 1) 1 rfl
  clear c4 HB3 HT3 hB4
  go_wp2_with fail
  refine c5.mono ?_
  rintro e w5 ⟨rfl, hB5⟩
  have HB5 : Hid (Below w.heap.size w w5) := below_next HB4.out hB5
  have HT5 : Hid (Got w5 va1 vc1 [(0, 4), (6, 7)]) := HT4.out.later hB5
  have c6 := size_is va1 vc1 [(0, 4), (6, 7)] w5 HT5.out 2 rfl 5 (by decide)
  clear c5 HB4 HT4 hB5
  go_wp2_with fail
  refine c6.mono ?_
  rintro e w6 ⟨rfl, hB6⟩
  have HB6 : Hid (Below w.heap.size w w6) := below_next HB5.out hB6
  have HT6 : Hid (Got w6 va1 vc1 [(0, 4), (6, 7)]) := HT5.out.later hB6
  have c7 := has_is va1 vc1 [(0, 4), (6, 7)] 3 w6 HT6.out 2 rfl true (by decide)
  clear c6 HB5 HT5 hB6
  go_wp2_with fail
  refine c7.mono ?_
  rintro e w7 ⟨rfl, hB7⟩
  have HB7 : Hid (Below w.heap.size w w7) := below_next HB6.out hB7
  have c8 := has_is va1 vc1 [(0, 4), (6, 7)] 4 w7 (HT6.out.later hB7) 2 rfl false (by decide)
  clear c7 HB6 HT6 hB7
  go_wp2_with fail
  refine c8.mono ?_
  rintro e w8 ⟨rfl, hB8⟩
  have HB8 : Hid (Below w.heap.size w w8) := below_next HB7.out hB8
  clear c8 HB7 hB8
  go_wp2_with fail
  go_ret
  exact ⟨rfl, HB8.out⟩
end Go.Proofs.Ytiigipfcagmgnaa
