/- The iterator over records. -/
import Derived.Test.YtdgiapeniafklaaLeaf
namespace Go.Proofs.Ytdgiapeniafklaa
open Go.ChangeShapes Go.WideShapes Go.ChangeAt Go.RowKit Go.Shelf
set_option linter.unusedVariables false
set_option linter.unusedSimpArgs false
attribute [local go_sem] Oper.semAt_some


theorem Apart.of_below {b : Nat} {Z : Nat → Prop} {X Y : World} (h : Below X.heap.size X Y) : Apart b Z X Y :=
  ⟨h.mono (Nat.zero_le _), fun k hk _ => h.block k hk⟩
theorem boxed_apart {X Y : World} {B b : Nat} {t : TypeId} {v : Value} {Z : Nat → Prop} (h : Boxed X B t v) (hA : Apart b Z X Y) (hb : B < b ∨ Z B) : Boxed Y B t v := (hA.same B h.lt hb).trans h
theorem below_apart {m b : Nat} {w X Y : World} {Z : Nat → Prop} (h : Below m w X) (hm : m ≤ w.heap.size) (hb : m ≤ b) (hA : Apart b Z X Y) : Below m w Y :=
  ⟨hA.flat.os.trans h.os, hA.flat.tape.trans h.tape, hA.flat.output.trans h.output, Nat.le_trans h.size hA.flat.size, fun k hk => (hA.same k (by have := h.size; omega) (.inl (by omega))).trans (h.block k hk)⟩
theorem below_grown {m : Nat} {w X Y : World} {row : Option Nat} (h : Below m w X) (hm : m ≤ w.heap.size) (hg : X.grownBy Y row) (hr : ∀ k, row = some k → m ≤ k) : Below m w Y := h.grown hg (Nat.le_trans hm h.size) hr
theorem mine_set {b : Nat} {R Z : Nat → Prop} {X : World} (hZ : ∀ k, Z k → k < X.heap.size) {B : Nat} (j : Nat) (v : Value) (hb : B < b) (hR : ¬ R B) : Mine b R Z X Z (X.setCell ⟨B, j, none⟩ v) :=
  Mine.of_grown (grownBy_setAt X B j v) hZ (fun k e => by cases e; exact .inr ⟨hb, hR⟩)
theorem boxed_put {W : World} {B : Nat} {t : TypeId} {v : Value} (h : Boxed W B t v) {l : Nat} {o : Obj} (o' : Obj) (hl : W.heap[l]? = some o) (ho : o.isCells = false) : Boxed (W.putObj l o') B t v :=
  boxed_own B t (fun (_ : Unit) => v) () W _ (some l) h (grownBy_putObj' W l o') (fun r e => by cases e; exact ⟨o, hl, ho⟩)
theorem boxed_other {W : World} {B B' : Nat} {t : TypeId} {v : Value} (h : Boxed W B t v) (hne : B ≠ B') (j : Nat) (u : Value) : Boxed (W.setCell ⟨B', j, none⟩ u) B t v := h.kept (grownBy_setAt W B' j u) (fun e => hne (by cases e; rfl))
theorem size_set (W : World) (B j : Nat) (v : Value) : (W.setCell ⟨B, j, none⟩ v).heap.size = W.heap.size := by simp [World.setCell]



abbrev encX (x : Rc) : Array Value := #[.agg #[.int .i64 x.f, .int .i64 x.t, .bool x.fin, .int .i64 x.sent, .int .i64 x.tx, .bool x.sk, .bool x.lo, .bool x.ag, .int .i64 x.gv, .int .i64 x.ga, .int .i64 x.fa, .bool x.idl]]
theorem en_pre {ts : List Rc} {pre : List Rc} {q : Rc} (h : pre ++ [q] <+: ts) : pre.length < ts.length ∧ q = nth ts pre.length := by
  have hl := h.length_le
  simp at hl
  refine ⟨by omega, ?_⟩
  have h1 : pre ++ [q] = ts.take (pre.length + 1) := by
    have := List.prefix_iff_eq_take.1 h
    simpa using this
  rw [take_nth (by omega)] at h1
  have h3 := (List.append_inj' h1 rfl).2
  simpa using h3
set_option maxHeartbeats 1000000 in
theorem each_in (F : Fence) (n : Nat) (h18 : F.fn 18) (hro : F.round = none) (a : Option Addr) (len cap : Nat) (w : World) :
    CallsIn F n Try.prog 18 #[.slice a len cap] w fun e w' => e = .returned (.func (.func 26) #[] #[.pointer (some ⟨w.heap.size, 0, none⟩)]) ∧ w' = w.alloc (.cells #[.slice a len cap] 24) := by
  refine callsIn_of_wp Try.func18 rfl h18 ?_ hro
  simp only [Try.ntmps18, List.size_toArray, List.length_cons, List.length_nil, Nat.reduceAdd, Nat.reduceSub, Array.replicate_succ, Array.replicate_zero, List.push_toArray, List.append_toArray, List.nil_append, List.cons_append]
  gi_wp2
  go_ret
  exact ⟨rfl, rfl⟩
set_option maxRecDepth 100000 in
set_option maxHeartbeats 4000000 in
theorem each_deep (n : Nat) (Bs cap : Nat) (A : Option Addr) (ts : List Rc) (w : World) (R : Nat → Prop) (hR : ∀ k, R k → k < w.heap.size)
    (hT : RecsAt w A ts) (hRA : ∀ b o, A = some ⟨b, o, none⟩ → 0 < ts.length → R b) (hBs : w.cell? ⟨Bs, 0, none⟩ = some (.slice A ts.length cap)) :
    SeqDeep Fence.wide n Try.prog 26 #[.pointer (some ⟨Bs, 0, none⟩)] encX R (fun ys => ys = ts) (fun pre => pre <+: ts) (fun q => q <+: ts) w := by
  intro l J Jx W hW hJ hJx hY h0
  have hml : ts.length ≤ 9223372036854775807 := hT.1
  have hT0 : Hid (RecsAt w A ts) := hT
  have hw1 : Hid (Below w.heap.size w W) := hW
  have hBs1 : W.cell? ⟨Bs, 0, none⟩ = some (.slice A ts.length cap) := (hW.cell (p := ⟨Bs, 0, none⟩) (lt_of_cell hBs)).trans hBs
  have HRA : Hid (∀ b o, A = some ⟨b, o, none⟩ → 0 < ts.length → R b) := hRA
  have HRR : Hid (∀ k, R k → k < w.heap.size) := hR
  have HJ0 : Hid (Abides W.heap.size J) := hJ
  clear hT hBs hW hRA hR hJ hJx
  refine callsIn_of_wp Try.func26 rfl trivial ?_ rfl
  simp only [Try.ntmps26, List.size_toArray, List.length_cons, List.length_nil, Nat.reduceAdd, Nat.reduceSub, Array.replicate_succ, Array.replicate_zero, List.push_toArray, List.append_toArray, List.nil_append, List.cons_append]
  gi_wp2
  gi_loopw [7] (fun vi wr => ∃ (i : Nat), i ≤ ts.length ∧ vi = .int .i64 i ∧ Hid (∃ Z, J (ts.take i) Z wr ∧ (∀ k, Z k → W.heap.size ≤ k ∧ k < wr.heap.size) ∧ W.heap.size ≤ wr.heap.size ∧ (∀ k, R k → wr.heap[k]? = W.heap[k]?)))
    (fun vi _ => ts.length - (intOf vi).toNat)
  case atStart => exact ⟨0, Nat.zero_le _, rfl, _, h0, fun k h => h.elim, Nat.le_refl _, fun _ _ => rfl⟩
  case round =>
    obtain ⟨i, hi, rfl, HJ⟩ := hrel
    by_cases hlt : i < ts.length
    · obtain ⟨Z, hj, hz, hsz, hk⟩ := HJ.out
      obtain ⟨b, o, rfl, hc0⟩ := hT0.out.2 i hlt
      have hRb : R b := HRA.out b o rfl (by omega)
      have hb : wr.heap[b]? = w.heap[b]? := (hk b hRb).trans (hw1.out.block b (HRR.out b hRb))
      have hc := hc0.of_block hb
      have htk := take_nth hlt
      obtain ⟨x, hx⟩ : ∃ x, nth ts i = x := ⟨_, rfl⟩
      rw [hx] at hc htk
      have hj1 := HJ0.out _ _ _ _ hj (Apart.alloc _ _ _ (.cells #[.int .i64 x.f, .int .i64 x.t, .bool x.fin, .int .i64 x.sent, .int .i64 x.tx, .bool x.sk, .bool x.lo, .bool x.ag, .int .i64 x.gv, .int .i64 x.ga, .int .i64 x.fa, .bool x.idl] 33))
      obtain ⟨k0, k1, k2, k3, k4, k5, k6, k7, k8, k9, k10, k11⟩ := hc.out
      have HTK : Hid (ts.take (i + 1) = ts.take i ++ [x]) := htk
      have HK2 : Hid ((∀ k, Z k → W.heap.size ≤ k ∧ k < (wr.alloc (.cells #[.int .i64 x.f, .int .i64 x.t, .bool x.fin, .int .i64 x.sent, .int .i64 x.tx, .bool x.sk, .bool x.lo, .bool x.ag, .int .i64 x.gv, .int .i64 x.ga, .int .i64 x.fa, .bool x.idl] 33)).heap.size) ∧ W.heap.size ≤ (wr.alloc (.cells #[.int .i64 x.f, .int .i64 x.t, .bool x.fin, .int .i64 x.sent, .int .i64 x.tx, .bool x.sk, .bool x.lo, .bool x.ag, .int .i64 x.gv, .int .i64 x.ga, .int .i64 x.fa, .bool x.idl] 33)).heap.size ∧ (∀ k, R k → (wr.alloc (.cells #[.int .i64 x.f, .int .i64 x.t, .bool x.fin, .int .i64 x.sent, .int .i64 x.tx, .bool x.sk, .bool x.lo, .bool x.ag, .int .i64 x.gv, .int .i64 x.ga, .int .i64 x.fa, .bool x.idl] 33)).heap[k]? = W.heap[k]?)) :=
        ⟨fun k hz' => ⟨(hz k hz').1, by have := (hz k hz').2; simp; omega⟩, by simp; omega, fun k hRk => by
          have := HRR.out k hRk
          have := hw1.out.size
          exact (Below.heap_alloc _ _ _ (by omega)).trans (hk k hRk)⟩
      obtain ⟨fn, tmps, assign, body, hy, hYR⟩ := hY (ts.take i) x Z (wr.alloc (.cells #[.int .i64 x.f, .int .i64 x.t, .bool x.fin, .int .i64 x.sent, .int .i64 x.tx, .bool x.sk, .bool x.lo, .bool x.ag, .int .i64 x.gv, .int .i64 x.ga, .int .i64 x.fa, .bool x.idl] 33)) hj1 HK2.out.2.1 HK2.out.1 (by rw [← HTK.out]; exact List.take_prefix _ _)
      clear hx hc hc0 hz hsz hk hj hj1 HJ hb htk
      gi_wp2
      refine ⟨fun h => by simp [Fence.wide] at h, hYR.mono ?_⟩
      rintro e W3 ⟨Z', hM, (⟨rfl, hJ3⟩ | ⟨rfl, hJx3⟩)⟩
      · have HN : Hid (∃ Z, J (ts.take (i + 1)) Z W3 ∧ (∀ k, Z k → W.heap.size ≤ k ∧ k < W3.heap.size) ∧ W.heap.size ≤ W3.heap.size ∧ (∀ k, R k → W3.heap[k]? = W.heap[k]?)) := by
          obtain ⟨hz, hsz, hk⟩ := HK2.out
          have h1 := hM.flat.size
          refine ⟨Z', by rw [HTK.out]; exact hJ3, fun k hk' => ⟨?_, hM.lt k hk'⟩, by omega, fun k hRk => ?_⟩
          · rcases hM.new k hk' with h | h
            · exact (hz k h).1
            · omega
          · have h2 := HRR.out k hRk
            have h3 := hw1.out.size
            exact (hM.same k (by omega) (.inl hRk) (fun h => by have := (hz k h).1; omega)).trans (hk k hRk)
        clear hM hJ3 HK2
        gi_wp2
        go_roundw
        case rel => exact ⟨i + 1, by omega, by go_num, HN.out⟩
        case measure => simp [intOf]; omega
      · clear hM
        gi_wp2
        refine bodyPost_ret (results_none rfl _ _ _) rfl ?_
        exact ⟨⟨_, rfl⟩, .inr ⟨_, Z', by rw [← HTK.out]; exact List.take_prefix _ _, hJx3⟩⟩
    · obtain rfl : i = ts.length := by omega
      obtain ⟨Z, hj, _⟩ := HJ.out
      gi_wp2
      go_end0
      exact ⟨⟨_, rfl⟩, .inl ⟨_, Z, by simp, hj⟩⟩
end Go.Proofs.Ytdgiapeniafklaa
