/- The iterator over spans: whatever the loop's body, as long as it keeps what lay. -/
import Derived.Test.YtdodagpkkjpdiaaSBase
namespace Go.Proofs.Ytdodagpkkjpdiaa
open Go.ChangeShapes Go.WideShapes Go.ChangeAt Go.RowKit Go.Shelf
set_option linter.unusedVariables false
attribute [local go_sem] Oper.semAt_some

set_option maxRecDepth 100000 in
set_option maxHeartbeats 2000000 in
theorem each1_in (F : Fence) (n : Nat) (h35 : F.fn 43) (hro : F.round = none) (hn : 1 ≤ n) (l Bs cap : Nat) (A : Option Addr) (ts : List Tm) (W0 : World) (J Jx : List Tm → World → Prop)
    (hJa : ∀ pre W o, J pre W → J pre (W.alloc o))
    (hY : ∀ pre (x : Tm) W, J pre W → pre.length < ts.length → YieldAt F (n - 1) Try.prog l #[.agg #[.int .i64 x.1, .int .i64 x.2]] W fun e W' =>
      (e = .returned (.bool true) ∧ J (pre ++ [x]) W' ∧ Below W0.heap.size W W') ∨ (e = .returned (.bool false) ∧ Jx (pre ++ [x]) W'))
    (W : World) (hb0 : Below W0.heap.size W0 W) (hT : TimsAt W0 A ts) (hBs : W.cell? ⟨Bs, 0, none⟩ = some (.slice A ts.length cap)) (h0 : J [] W) :
    CallsIn F n Try.prog 43 #[.func (.yield l) #[] #[], .pointer (some ⟨Bs, 0, none⟩)] W fun e W' => (∃ v, e = .returned v) ∧
      ((∃ ys : List Tm, ys = ts ∧ J ys W') ∨ (∃ pre, pre <+: ts ∧ Jx pre W')) := by
  have hml : ts.length ≤ 9223372036854775807 := hT.1
  refine callsIn_of_wp Try.func43 rfl h35 ?_ hro
  simp only [Try.ntmps43, List.size_toArray, List.length_cons, List.length_nil, Nat.reduceAdd, Nat.reduceSub, Array.replicate_succ, Array.replicate_zero, List.push_toArray, List.append_toArray, List.nil_append, List.cons_append]
  gi_wp2
  gi_loopw [7] (fun vi wr => ∃ (i : Nat), i ≤ ts.length ∧ vi = .int .i64 i ∧ Hid (J (ts.take i) wr) ∧ Hid (Below W0.heap.size W0 wr))
    (fun vi _ => ts.length - (intOf vi).toNat)
  case atStart => exact ⟨0, Nat.zero_le _, rfl, h0, hb0⟩
  case round =>
    obtain ⟨i, hi, rfl, HJ, HB⟩ := hrel
    by_cases hlt : i < ts.length
    · obtain ⟨b, o, rfl, hc, hd⟩ := hT.2 i hlt
      obtain ⟨x, hx⟩ : ∃ x, ts[i]?.getD (0, 0) = x := ⟨_, rfl⟩
      rw [hx] at hc hd
      have hcx : wr.cell? ⟨b, o + i * 2, none⟩ = some (.int .i64 x.1) := (HB.out.cell (p := ⟨b, o + i * 2, none⟩) (lt_of_cell hc)).trans hc
      have hdx : wr.cell? ⟨b, o + i * 2 + 1, none⟩ = some (.int .i64 x.2) := (HB.out.cell (p := ⟨b, o + i * 2 + 1, none⟩) (lt_of_cell hd)).trans hd
      have htk : Hid (ts.take (i + 1) = ts.take i ++ [x]) := take_snoc hlt hx
      have hsz := HB.out.size
      obtain ⟨fn, tmps, assign, body, hy, hR⟩ := hY (ts.take i) x (wr.alloc (.cells #[.int .i64 x.1, .int .i64 x.2] 39)) (hJa _ _ _ HJ.out) (by simp; omega)
      clear hx hc hd
      gi_wp2
      refine hR.mono ?_
      rintro e W3 (⟨rfl, hJ3, hk3⟩ | ⟨rfl, hJx3⟩)
      · gi_wp2
        go_roundw
        case rel => exact ⟨i + 1, by omega, by go_num, by rw [htk.out]; exact hJ3, (HB.out.alloc hsz _).trans hk3⟩
        case measure => simp [intOf]; omega
      · gi_wp2
        refine bodyPost_ret (results_none rfl _ _ _) rfl ?_
        exact ⟨⟨_, rfl⟩, .inr ⟨_, by rw [← htk.out]; exact List.take_prefix _ _, hJx3⟩⟩
    · obtain rfl : i = ts.length := by omega
      gi_wp2
      go_end0
      exact ⟨⟨_, rfl⟩, .inl ⟨_, by simp, HJ.out⟩⟩

set_option maxHeartbeats 1000000 in
theorem each_in (F : Fence) (n : Nat) (h27 : F.fn 29) (hro : F.round = none) (a : Option Addr) (len cap : Nat) (w : World) :
    CallsIn F n Try.prog 29 #[.slice a len cap] w fun e w' => e = .returned (.func (.func 43) #[] #[.pointer (some ⟨w.heap.size, 0, none⟩)]) ∧ w' = w.alloc (.cells #[.slice a len cap] 29) := by
  refine callsIn_of_wp Try.func29 rfl h27 ?_ hro
  simp only [Try.ntmps29, List.size_toArray, List.length_cons, List.length_nil, Nat.reduceAdd, Nat.reduceSub, Array.replicate_succ, Array.replicate_zero, List.push_toArray, List.append_toArray, List.nil_append, List.cons_append]
  gi_wp2
  go_ret
  exact ⟨rfl, rfl⟩

theorem each_stops (F : Fence) (n : Nat) (h35 : F.fn 43) (hro : F.round = none) (hn : 1 ≤ n) (Bs cap : Nat) (A : Option Addr) (ts : List Tm) (W0 w : World) (hBs : Bs < w.heap.size)
    (hb0 : Below W0.heap.size W0 w) (hT : TimsAt W0 A ts) (hc : w.cell? ⟨Bs, 0, none⟩ = some (.slice A ts.length cap)) :
    SeqStopsK F n Try.prog 43 #[.pointer (some ⟨Bs, 0, none⟩)] (fun x : Tm => #[Value.agg #[.int .i64 x.1, .int .i64 x.2]]) (Below W0.heap.size) (fun ys => ys = ts) (fun pre => pre <+: ts) ts.length w := fun l J Jx W hW hJ _ hY h0 =>
  each1_in F n h35 hro hn l Bs cap A ts W0 J Jx (fun pre W' o hj => hJ pre W' _ none hj (World.grownBy_alloc W' o none) (fun r e => by cases e)) hY W (hb0.trans (hW.mono hb0.size)) hT ((hW.cell (p := ⟨Bs, 0, none⟩) hBs).trans hc) h0

/-- The block that a slice lies in. -/
def lies (A : Option Addr) (k : Nat) : Prop := ∃ o s, A = some ⟨k, o, s⟩

set_option maxRecDepth 100000 in
set_option maxHeartbeats 2000000 in
theorem each_deep (n : Nat) (Bs cap : Nat) (A : Option Addr) (ts : List Tm) (w0 w : World) (hT : TimsAt w0 A ts) (hw : Below w0.heap.size w0 w) (hBs : w.cell? ⟨Bs, 0, none⟩ = some (.slice A ts.length cap)) :
    SeqDeep Fence.wide n Try.prog 43 #[.pointer (some ⟨Bs, 0, none⟩)] (fun x : Tm => #[Value.agg #[.int .i64 x.1, .int .i64 x.2]]) (fun k => lies A k ∧ k < w0.heap.size) (fun ys => ys = ts) (fun pre => pre <+: ts) (fun q => q <+: ts) w := by
  intro l J Jx W hW hJ hJx hY h0
  have hml : ts.length ≤ 9223372036854775807 := hT.1
  have hT0 : Hid (TimsAt w0 A ts) := hT
  have hw1 : Hid (Below w0.heap.size w0 W) := hw.trans (hW.mono hw.size)
  have hBs1 : W.cell? ⟨Bs, 0, none⟩ = some (.slice A ts.length cap) := (hW.cell (p := ⟨Bs, 0, none⟩) (lt_of_cell hBs)).trans hBs
  clear hT hBs hW hw
  have HJ0 : Hid (Abides W.heap.size J) := hJ
  have HJx0 : Hid (Abides W.heap.size Jx) := hJx
  clear hJ hJx
  refine callsIn_of_wp Try.func43 rfl trivial ?_ rfl
  simp only [Try.ntmps43, List.size_toArray, List.length_cons, List.length_nil, Nat.reduceAdd, Nat.reduceSub, Array.replicate_succ, Array.replicate_zero, List.push_toArray, List.append_toArray, List.nil_append, List.cons_append]
  gi_wp2
  gi_loopw [7] (fun vi wr => ∃ (i : Nat), i ≤ ts.length ∧ vi = .int .i64 i ∧ Hid (∃ Z, J (ts.take i) Z wr ∧ (∀ k, Z k → W.heap.size ≤ k ∧ k < wr.heap.size) ∧ W.heap.size ≤ wr.heap.size ∧ (∀ k, k < w0.heap.size → lies A k → wr.heap[k]? = W.heap[k]?)))
    (fun vi _ => ts.length - (intOf vi).toNat)
  case atStart => exact ⟨0, Nat.zero_le _, rfl, _, h0, fun k h => h.elim, Nat.le_refl _, fun _ _ _ => rfl⟩
  case round =>
    obtain ⟨i, hi, rfl, HJ⟩ := hrel
    by_cases hlt : i < ts.length
    · obtain ⟨Z, hj, hz, hsz, hk⟩ := HJ.out
      obtain ⟨b, o, rfl, hc, hd⟩ := hT0.out.2 i hlt
      obtain ⟨x, hx⟩ : ∃ x, ts[i]?.getD (0, 0) = x := ⟨_, rfl⟩
      rw [hx] at hc hd
      have hb : wr.heap[b]? = w0.heap[b]? := (hk b (lt_of_cell hc) ⟨_, _, rfl⟩).trans (hw1.out.block b (lt_of_cell hc))
      have hcx : wr.cell? ⟨b, o + i * 2, none⟩ = some (.int .i64 x.1) := (World.cell?_of_block (w := w0) hb).trans hc
      have hdx : wr.cell? ⟨b, o + i * 2 + 1, none⟩ = some (.int .i64 x.2) := (World.cell?_of_block (w := w0) hb).trans hd
      have htk : Hid (ts.take (i + 1) = ts.take i ++ [x]) := take_snoc hlt hx
      have hj1 := HJ0.out _ _ _ _ hj (Apart.alloc _ _ _ (.cells #[.int .i64 x.1, .int .i64 x.2] 39))
      obtain ⟨fn, tmps, assign, body, hy, hR⟩ := hY (ts.take i) x Z (wr.alloc (.cells #[.int .i64 x.1, .int .i64 x.2] 39)) hj1 (by simp; omega) (fun k hk => ⟨(hz k hk).1, by have := (hz k hk).2; simp; omega⟩) (by rw [← htk.out]; exact List.take_prefix _ _)
      have HK : Hid ((∀ k, Z k → W.heap.size ≤ k ∧ k < wr.heap.size) ∧ W.heap.size ≤ wr.heap.size ∧ (∀ k, k < w0.heap.size → lies (some ⟨b, o, none⟩) k → wr.heap[k]? = W.heap[k]?)) := ⟨hz, hsz, hk⟩
      clear hx hc hd hz hsz hk hj hj1 HJ hb
      gi_wp2
      refine ⟨fun h => by simp [Fence.wide] at h, hR.mono ?_⟩
      rintro e W3 ⟨Z', hM, (⟨rfl, hJ3⟩ | ⟨rfl, hJx3⟩)⟩
      · have HN : Hid (∃ Z, J (ts.take (i + 1)) Z W3 ∧ (∀ k, Z k → W.heap.size ≤ k ∧ k < W3.heap.size) ∧ W.heap.size ≤ W3.heap.size ∧ (∀ k, k < w0.heap.size → lies (some ⟨b, o, none⟩) k → W3.heap[k]? = W.heap[k]?)) := by
          obtain ⟨hz, hsz, hk⟩ := HK.out
          have h1 := hM.flat.size
          rw [World.size_alloc] at h1
          refine ⟨Z', by rw [htk.out]; exact hJ3, fun k hk' => ⟨?_, hM.lt k hk'⟩, by omega, fun k hkl hk' => ?_⟩
          · rcases hM.new k hk' with h | h
            · exact (hz k h).1
            · rw [World.size_alloc] at h; omega
          · have hk0 := hw1.out.size
            exact ((hM.same k (by simp; omega) (.inl ⟨hk', hkl⟩) (fun h => by have := (hz k h).1; omega)).trans (Below.heap_alloc _ _ _ (by omega))).trans (hk k hkl hk')
        clear hM hJ3 HK
        gi_wp2
        go_roundw
        case rel => exact ⟨i + 1, by omega, by go_num, HN.out⟩
        case measure => simp [intOf]; omega
      · clear hM
        gi_wp2
        refine bodyPost_ret (results_none rfl _ _ _) rfl ?_
        exact ⟨⟨_, rfl⟩, .inr ⟨_, Z', by rw [← htk.out]; exact List.take_prefix _ _, hJx3⟩⟩
    · obtain rfl : i = ts.length := by omega
      obtain ⟨Z, hj, _⟩ := HJ.out
      gi_wp2
      go_end0
      exact ⟨⟨_, rfl⟩, .inl ⟨_, Z, by simp, hj⟩⟩
end Go.Proofs.Ytdodagpkkjpdiaa
