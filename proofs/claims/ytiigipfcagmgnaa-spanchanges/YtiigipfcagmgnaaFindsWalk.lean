/- The walk of SpanFinds. -/
import Derived.Test.YtiigipfcagmgnaaOrderWalk
namespace Go.Proofs.Ytiigipfcagmgnaa
open Go.ChangeShapes Go.WideShapes Go.ChangeAt Go.RowKit Go.Shelf
set_option linter.unusedVariables false

theorem eq24 (x y : Tm) (w : World) : (binOp .eql 24 (.agg #[.int .i64 x.1, .int .i64 x.2]) (.agg #[.int .i64 y.1, .int .i64 y.2])).run Try.prog w = .ok (.bool (x.1 == y.1 && x.2 == y.2)) w := by
  have hu : Try.prog.underlying 24 = some (.struct (Try.prog.fieldsOf 24)) := by kernel_rfl
  have hs : Try.prog.stoodInHeld 24 = false := by kernel_rfl
  have h := run_equalIn_struct (P := Try.prog) w 9999 24 #[.int .i64 x.1, .int .i64 x.2] #[.int .i64 y.1, .int .i64 y.2] hu hs
  simp only [binOp]
  by_cases h1 : x.1 = y.1
  · by_cases h2 : x.2 = y.2
    · simp [Op.equal, Op.maxDepth, Op.eqFields, go_sem, h1, h2]
    · simp [Op.equal, Op.maxDepth, Op.eqFields, go_sem, h1, h2]
  · simp [Op.equal, Op.maxDepth, h, Op.eqFields, go_sem, h1]
theorem below_drewN {B : Nat} {a w : World} (h : Below B a w) (k : Nat) : Below B a (w.drewN k) := ⟨h.os, h.tape, h.output, h.size, h.block⟩

set_option maxRecDepth 100000 in
set_option maxHeartbeats 4000000 in
theorem finds_walk (A : Option Addr) (cap : Nat) (ts : List Tm) (o : Int) (w : World) (hT : Got w A cap ts) (hr : ts.length * 16 ≤ 140737488351232) :
    Calls Try.prog 3 #[.slice A ts.length cap, .int .i64 o] w fun e w' => e = .returned (.bool true) ∧ Below w.heap.size w w' := by
  obtain ⟨n, hn⟩ : ∃ n, ts.length = n := ⟨_, rfl⟩
  have HT : Hid (Got w A cap ts) := hT
  have HN : Hid (ts.length = n) := hn
  rw [hn] at hr ⊢
  cases hf : findV ts o with
  | none =>
    have HF : Hid (findV ts o = none) := hf
    have c1 := find_is A cap ts o w hT n hn (0, 0) (by rw [hf]; rfl) false (by rw [hf]; rfl)
    have heq : ∀ W, (binOp .eql 24 (.agg #[.int .i64 0, .int .i64 0]) (.agg #[.int .i64 0, .int .i64 0])).run Try.prog W = .ok (.bool true) W := fun W => eq24 (0, 0) (0, 0) W
    clear hT hn hf
    go_enter Try.func3, Try.ntmps3
    go_wp2_with fail
    refine c1.mono ?_
    rintro e w1 ⟨rfl, hB1⟩
    have HB1 : Hid (Below w.heap.size w (w1.alloc (.cells #[.int .i64 0, .int .i64 0] 24))) := below_alloc hB1 _
    have c2 := has_is A cap ts o _ (HT.out.later HB1.out) n HN.out false (by rw [HF.out]; rfl)
    clear c1 hB1
    go_wp2_with fail
    refine c2.mono ?_
    rintro e w2 ⟨rfl, hB2⟩
    have HB2 : Hid (Below w.heap.size w w2) := below_next HB1.out hB2
    clear c2 hB2 HB1
    go_wp2_with (go_at_call 11; refine (heads_any _).mono ?_; rintro e w6 ⟨rfl, hB6⟩)
    go_ret
    exact ⟨rfl, below_next HB2.out hB6⟩
  | some y =>
    have hc : chk (-1) ts = true := by
      unfold findV at hf
      split at hf
      · assumption
      · cases hf
    have hfl : findL ts o = some y := by unfold findV at hf; rw [if_pos hc] at hf; exact hf
    have hy : y ∈ ts := List.mem_of_find?_eq_some hfl
    have hin := List.find?_some hfl
    simp only [inB_iff] at hin
    have hy1 : y.1 ≤ o := hin.1
    have hy2 : o < y.2 := hin.2
    have HF : Hid (findV ts o = some y ∧ (ts.countP fun z => z.1 == y.1 && z.2 == y.2) = 1 ∧ coversV ts y = true) := ⟨hf, count_one hc hy, by unfold coversV; rw [hc, covers_member hc hy]; rfl⟩
    have c1 := find_is A cap ts o w hT n hn y (by rw [hf]; rfl) true (by rw [hf]; rfl)
    clear hT hn hf hc hfl hy hin
    go_enter Try.func3, Try.ntmps3
    go_wp2_with fail
    refine c1.mono ?_
    rintro e w1 ⟨rfl, hB1⟩
    have HB1 : Hid (Below w.heap.size w (w1.alloc (.cells #[.int .i64 y.1, .int .i64 y.2] 24))) := below_alloc hB1 _
    have bY := BoxT.new w1 y
    obtain ⟨B, hBB⟩ : ∃ B, w1.heap.size = B := ⟨_, rfl⟩
    have HT1 : Hid (Got (w1.alloc (.cells #[.int .i64 y.1, .int .i64 y.2] 24)) A cap ts) := HT.out.later HB1.out
    clear c1 hB1
    go_wp2_with fail
    obtain ⟨W1, hW1⟩ : ∃ W1, w1.alloc (.cells #[.int .i64 y.1, .int .i64 y.2] 24) = W1 := ⟨_, rfl⟩
    have bY' : BoxT W1 B y := by rw [← hW1, ← hBB]; exact bY
    rw [hW1] at HB1 HT1 ⊢
    have y0 := bY'.cell0
    have y1 := bY'.cell1
    have HY : Hid (BoxT W1 B y) := bY'
    clear hW1 hBB bY bY'
    go_loopw [7, 8] (fun vn vi wr => ∃ (i c k : Nat), vi = .int .i64 i ∧ vn = .int .i64 c ∧ i ≤ n ∧ c ≤ i ∧ wr = W1.drewN k ∧ Hid (((ts.take i).countP fun z => z.1 == y.1 && z.2 == y.2) = c))
      (fun _ vi _ => n - (intOf vi).toNat)
    case atStart => exact ⟨0, 0, 0, rfl, rfl, Nat.zero_le _, Nat.zero_le _, rfl, by simp [Hid]⟩
    case round =>
      obtain ⟨i, c, k, rfl, rfl, hin, hci, rfl, HC⟩ := hrel
      by_cases hlt : i < n
      · have hi' : i < ts.length := by have := HN.out; omega
        obtain ⟨kb, ko, rfl, hc0, hc1⟩ := HT1.out.1.2 i hi'
        obtain ⟨z, hz⟩ : ∃ z, ts[i]?.getD (0, 0) = z := ⟨_, rfl⟩
        rw [hz] at hc0 hc1
        have htk : ts.take (i + 1) = ts.take i ++ [z] := take_snoc hi' hz
        have hlt' : (i : Int) < (n : Int) := by omega
        have heq := fun W => eq24 z y W
        cases hzy : (z.1 == y.1 && z.2 == y.2) with
        | true =>
          have HS : Hid (((ts.take (i + 1)).countP fun z => z.1 == y.1 && z.2 == y.2) = c + 1) := by
            unfold Hid; rw [htk, List.countP_append, HC.out]; simp only [List.countP_singleton, hzy, if_true]
          rw [hzy] at heq
          clear hz htk hi' hzy
          go_upto_region 8 with fail
          go_quiet (fail)
          go_wp2_with fail
          go_roundw
          case rel => exact ⟨i + 1, c + 1, _, by go_num, by go_num, by omega, by omega, rfl, HS.out⟩
          case measure => simp [intOf]; omega
        | false =>
          have HS : Hid (((ts.take (i + 1)).countP fun z => z.1 == y.1 && z.2 == y.2) = c) := by
            unfold Hid; rw [htk, List.countP_append, HC.out]; simp [hzy]
          rw [hzy] at heq
          clear hz htk hi' hzy
          go_upto_region 8 with fail
          go_quiet (fail)
          go_wp2_with fail
          go_roundw
          case rel => exact ⟨i + 1, c, _, by go_num, by first | rfl | trivial, by omega, by omega, rfl, HS.out⟩
          case measure => simp [intOf]; omega
      · obtain rfl : i = n := by omega
        have hall : ts.take i = ts := by rw [← HN.out]; exact List.take_length
        rw [hall] at HC
        have hc1 : c = 1 := by rw [← HC.out]; exact HF.out.2.1
        subst hc1
        have HBk : Hid (Below w.heap.size w (W1.drewN k)) := below_drewN HB1.out k
        have HYk : Hid (BoxT (W1.drewN k) B y) := HY.out
        obtain ⟨Wk, hWk⟩ : ∃ Wk, W1.drewN k = Wk := ⟨_, rfl⟩
        rw [hWk] at HBk HYk ⊢
        have z0 := HYk.out.cell0
        have z1 := HYk.out.cell1
        have c2 := has_is A cap ts o Wk (HT.out.later HBk.out) i HN.out true (by rw [HF.out.1]; rfl)
        clear hWk y0 y1 hall
        go_wp2_with fail
        refine c2.mono ?_
        rintro e w2 ⟨rfl, hB2⟩
        have HB2 : Hid (Below w.heap.size w w2) := below_next HBk.out hB2
        have b2 := HYk.out.on hB2
        have z2 := b2.cell0
        have z3 := b2.cell1
        have c3 := covers_is A cap ts y w2 (HT.out.later HB2.out) i HN.out true HF.out.2.2
        clear c2 hB2 HBk HYk b2 z0 z1
        go_wp2_with fail
        refine c3.mono ?_
        rintro e w3 ⟨rfl, hB3⟩
        have HB3 : Hid (Below w.heap.size w w3) := below_next HB2.out hB3
        clear c3 hB3 HB2 z2 z3
        go_wp2_with (go_at_call 11; refine (heads_any _).mono ?_; rintro e w6 ⟨rfl, hB6⟩)
        go_ret
        exact ⟨rfl, below_next HB3.out hB6⟩
end Go.Proofs.Ytiigipfcagmgnaa
