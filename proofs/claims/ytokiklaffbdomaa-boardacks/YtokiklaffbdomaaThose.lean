/- The iterator over those records that pass a test. -/
import Derived.Test.YtokiklaffbdomaaApp
namespace Go.Proofs.Ytokiklaffbdomaa
open Go.ChangeShapes Go.WideShapes Go.ChangeAt Go.RowKit Go.Shelf
set_option linter.unusedVariables false
attribute [local go_sem] Oper.semAt_some

/-- The places and records that pass. -/
def sel (p : Rc → Bool) : Nat → List Rc → List (Nat × Rc)
  | _, [] => []
  | i, x :: r => if p x = true then (i, x) :: sel p (i + 1) r else sel p (i + 1) r
theorem sel_append (p : Rc → Bool) : ∀ (l : List Rc) (i : Nat) (r : List Rc), sel p i (l ++ r) = sel p i l ++ sel p (i + l.length) r
  | [], i, r => by simp [sel]
  | x :: l, i, r => by
    have ih := sel_append p l (i + 1) r
    rw [show i + 1 + l.length = i + (x :: l).length from by simp; omega] at ih
    rw [List.cons_append, sel, sel]
    split
    · rw [ih, List.cons_append]
    · rw [ih]
theorem sel_take {p : Rc → Bool} {ts : List Rc} {i : Nat} (h : i < ts.length) : sel p 0 (ts.take (i + 1)) = sel p 0 (ts.take i) ++ (if p (nth ts i) = true then [(i, nth ts i)] else []) := by
  rw [take_nth h, sel_append]
  congr 1
  simp only [sel, List.length_take]
  rw [show 0 + min i ts.length = i from by omega]
theorem sel_prefix (p : Rc → Bool) (ts : List Rc) (i : Nat) : sel p 0 (ts.take i) <+: sel p 0 ts := by
  have e : ts = ts.take i ++ ts.drop i := (List.take_append_drop i ts).symm
  conv => rhs; rw [e]
  rw [sel_append]
  exact List.prefix_append _ _
theorem sel_map (p : Rc → Bool) : ∀ (l : List Rc) (i : Nat), (sel p i l).map (·.2) = l.filter p
  | [], _ => rfl
  | x :: l, i => by
    rw [sel, List.filter_cons]
    split
    · rename_i h; rw [List.map_cons, sel_map p l (i + 1)]
    · rw [sel_map p l (i + 1)]
abbrev encP (q : Nat × Rc) : Array Value := #[.int .i64 q.1, .agg #[.int .i64 q.2.f, .int .i64 q.2.t, .bool q.2.fin, .int .i64 q.2.sent, .int .i64 q.2.tx, .bool q.2.sk, .bool q.2.lo, .bool q.2.ag, .int .i64 q.2.gv, .int .i64 q.2.ga, .int .i64 q.2.fa, .bool q.2.idl]]

set_option maxHeartbeats 1000000 in
theorem those_in (F : Fence) (n : Nat) (h44 : F.fn 44) (hro : F.round = none) (a : Option Addr) (len cap g : Nat) (cb : Array Value) (w : World) :
    CallsIn F n Try.prog 44 #[.slice a len cap, .func (.func g) #[] cb] w fun e w' => e = .returned (.func (.func 54) #[] #[.pointer (some ⟨w.heap.size, 0, none⟩), .pointer (some ⟨w.heap.size + 1, 0, none⟩)]) ∧ w' = (w.alloc (.cells #[.slice a len cap] 22)).alloc (.cells #[.func (.func g) #[] cb] 57) := by
  refine callsIn_of_wp Try.func44 rfl h44 ?_ hro
  simp only [Try.ntmps44, List.size_toArray, List.length_cons, List.length_nil, Nat.reduceAdd, Nat.reduceSub, Array.replicate_succ, Array.replicate_zero, List.push_toArray, List.append_toArray, List.nil_append, List.cons_append]
  gi_wp2
  go_ret
  exact ⟨rfl, rfl⟩

theorem Apart.of_below {b : Nat} {Z : Nat → Prop} {X Y : World} (h : Below X.heap.size X Y) : Apart b Z X Y :=
  ⟨h.mono (Nat.zero_le _), fun k hk _ => h.block k hk⟩

set_option maxRecDepth 100000 in
set_option maxHeartbeats 4000000 in
theorem those_deep (n : Nat) (g : Nat) (cb : Array Value) (p : Rc → Bool) (Bs Bt cap : Nat) (A : Option Addr) (ts : List Rc) (w : World) (R : Nat → Prop) (hR : ∀ k, R k → k < w.heap.size)
    (hT : RecsAt w A ts) (hRA : ∀ b o, A = some ⟨b, o, none⟩ → 0 < ts.length → R b) (hRt : R Bt) (hBs : w.cell? ⟨Bs, 0, none⟩ = some (.slice A ts.length cap)) (hBt : w.cell? ⟨Bt, 0, none⟩ = some (.func (.func g) #[] cb))
    (eg : ∀ args w, (callFunc g args).run Try.prog w = .ok (.enter g args) w)
    (ht : ∀ x W, w.heap.size ≤ W.heap.size → (∀ k, R k → W.heap[k]? = w.heap[k]?) → Calls Try.prog g (#[.agg #[.int .i64 x.f, .int .i64 x.t, .bool x.fin, .int .i64 x.sent, .int .i64 x.tx, .bool x.sk, .bool x.lo, .bool x.ag, .int .i64 x.gv, .int .i64 x.ga, .int .i64 x.fa, .bool x.idl]] ++ cb) W fun e W' => e = .returned (.bool (p x)) ∧ Below W.heap.size W W') :
    SeqDeep Fence.wide n Try.prog 54 #[.pointer (some ⟨Bs, 0, none⟩), .pointer (some ⟨Bt, 0, none⟩)] encP R (fun ys => ys = sel p 0 ts) (fun pre => pre <+: sel p 0 ts) (fun q => q <+: sel p 0 ts) w := by
  intro l J Jx W hW hJ hJx hY h0
  have hml : ts.length ≤ 9223372036854775807 := hT.1
  have hT0 : Hid (RecsAt w A ts) := hT
  have hw1 : Hid (Below w.heap.size w W) := hW
  have hBs1 : W.cell? ⟨Bs, 0, none⟩ = some (.slice A ts.length cap) := (hW.cell (p := ⟨Bs, 0, none⟩) (lt_of_cell hBs)).trans hBs
  have HBt : Hid (w.cell? ⟨Bt, 0, none⟩ = some (.func (.func g) #[] cb)) := hBt
  have HP : Hid (∀ x W, w.heap.size ≤ W.heap.size → (∀ k, R k → W.heap[k]? = w.heap[k]?) → Calls Try.prog g (#[.agg #[.int .i64 x.f, .int .i64 x.t, .bool x.fin, .int .i64 x.sent, .int .i64 x.tx, .bool x.sk, .bool x.lo, .bool x.ag, .int .i64 x.gv, .int .i64 x.ga, .int .i64 x.fa, .bool x.idl]] ++ cb) W fun e W' => e = .returned (.bool (p x)) ∧ Below W.heap.size W W') := ht
  have HRA : Hid (∀ b o, A = some ⟨b, o, none⟩ → 0 < ts.length → R b) := hRA
  have HRt : Hid (R Bt) := hRt
  have HRR : Hid (∀ k, R k → k < w.heap.size) := hR
  have HJ0 : Hid (Abides W.heap.size J) := hJ
  have HJx0 : Hid (Abides W.heap.size Jx) := hJx
  clear hT hBs hBt hW ht hRA hRt hR hJ hJx
  refine callsIn_of_wp Try.func54 rfl trivial ?_ rfl
  simp only [Try.ntmps54, List.size_toArray, List.length_cons, List.length_nil, Nat.reduceAdd, Nat.reduceSub, Array.replicate_succ, Array.replicate_zero, List.push_toArray, List.append_toArray, List.nil_append, List.cons_append]
  gi_wp2
  gi_loopw [8] (fun vi wr => ∃ (i : Nat), i ≤ ts.length ∧ vi = .int .i64 i ∧ Hid (∃ Z, J (sel p 0 (ts.take i)) Z wr ∧ (∀ k, Z k → W.heap.size ≤ k ∧ k < wr.heap.size) ∧ W.heap.size ≤ wr.heap.size ∧ (∀ k, R k → wr.heap[k]? = W.heap[k]?)))
    (fun vi _ => ts.length - (intOf vi).toNat)
  case atStart => exact ⟨0, Nat.zero_le _, rfl, _, h0, fun k h => h.elim, Nat.le_refl _, fun _ _ => rfl⟩
  case round =>
    obtain ⟨i, hi, rfl, HJ⟩ := hrel
    by_cases hlt : i < ts.length
    · obtain ⟨Z, hj, hz, hsz, hk⟩ := HJ.out
      obtain ⟨b, o, rfl, hc0⟩ := hT0.out.2 i hlt
      have hRb : R b := HRA.out b o rfl (by omega)
      have hb : wr.heap[b]? = w.heap[b]? := (hk b hRb).trans (hw1.out.block b (HRR.out b hRb))
      have hc := hc0.of_block hb
      have hbt : wr.heap[Bt]? = w.heap[Bt]? := (hk Bt HRt.out).trans (hw1.out.block Bt (HRR.out Bt HRt.out))
      have htk := sel_take (p := p) hlt
      obtain ⟨x, hx⟩ : ∃ x, nth ts i = x := ⟨_, rfl⟩
      rw [hx] at hc htk
      have HX : Hid (Box (wr.alloc (.cells (rv x).toArray 28)) wr.heap.size 28 (rv x)) := Box.new wr 28 _
      have hsw : w.heap.size ≤ wr.heap.size := Nat.le_trans hw1.out.size hsz
      have ct : (wr.alloc (.cells #[.int .i64 x.f, .int .i64 x.t, .bool x.fin, .int .i64 x.sent, .int .i64 x.tx, .bool x.sk, .bool x.lo, .bool x.ag, .int .i64 x.gv, .int .i64 x.ga, .int .i64 x.fa, .bool x.idl] 28)).cell? ⟨Bt, 0, none⟩ = some (.func (.func g) #[] cb) :=
        (World.cell?_of_block (w := w) ((Below.heap_alloc _ _ Bt (Nat.lt_of_lt_of_le (HRR.out Bt HRt.out) hsw)).trans hbt)).trans HBt.out
      have c := HP.out x (wr.alloc (.cells #[.int .i64 x.f, .int .i64 x.t, .bool x.fin, .int .i64 x.sent, .int .i64 x.tx, .bool x.sk, .bool x.lo, .bool x.ag, .int .i64 x.gv, .int .i64 x.ga, .int .i64 x.fa, .bool x.idl] 28)) (by simp; omega) (fun k hRk => (Below.heap_alloc _ _ _ (by have := HRR.out k hRk; omega)).trans ((hk k hRk).trans (hw1.out.block k (HRR.out k hRk))))
      have hj1 := HJ0.out _ _ _ _ hj (Apart.alloc _ _ _ (.cells #[.int .i64 x.f, .int .i64 x.t, .bool x.fin, .int .i64 x.sent, .int .i64 x.tx, .bool x.sk, .bool x.lo, .bool x.ag, .int .i64 x.gv, .int .i64 x.ga, .int .i64 x.fa, .bool x.idl] 28))
      obtain ⟨k0, k1, k2, k3, k4, k5, k6, k7, k8, k9, k10, k11⟩ := hc.out
      have HK : Hid ((∀ k, Z k → W.heap.size ≤ k ∧ k < wr.heap.size) ∧ W.heap.size ≤ wr.heap.size ∧ (∀ k, R k → wr.heap[k]? = W.heap[k]?)) := ⟨hz, hsz, hk⟩
      have HJ1 : Hid (J (sel p 0 (ts.take i)) Z (wr.alloc (.cells #[.int .i64 x.f, .int .i64 x.t, .bool x.fin, .int .i64 x.sent, .int .i64 x.tx, .bool x.sk, .bool x.lo, .bool x.ag, .int .i64 x.gv, .int .i64 x.ga, .int .i64 x.fa, .bool x.idl] 28))) := hj1
      clear hx hc hc0 hz hsz hk hj hj1 HJ hb hbt
      cases hp : p x with
      | false =>
        rw [hp] at c htk
        have HTK : Hid (sel p 0 (ts.take (i + 1)) = sel p 0 (ts.take i)) := by unfold Hid; rw [htk]; simp
        clear htk hp
        gi_wp2_with fail
        refine ⟨trivial, ?_⟩
        refine ⟨fun h => by simp [Fence.wide] at h, (callsIn_wide.2 c).mono ?_⟩
        rintro e W2 ⟨rfl, hB2⟩
        have HN : Hid (∃ Z, J (sel p 0 (ts.take (i + 1))) Z W2 ∧ (∀ k, Z k → W.heap.size ≤ k ∧ k < W2.heap.size) ∧ W.heap.size ≤ W2.heap.size ∧ (∀ k, R k → W2.heap[k]? = W.heap[k]?)) := by
          obtain ⟨hz, hsz, hk⟩ := HK.out
          have h1 := hB2.size
          rw [World.size_alloc] at h1
          refine ⟨Z, by rw [HTK.out]; exact HJ0.out _ _ _ _ HJ1.out (Apart.of_below hB2), fun k hz' => ⟨(hz k hz').1, by have := (hz k hz').2; omega⟩, by omega, fun k hRk => ?_⟩
          have := HRR.out k hRk
          exact ((hB2.block k (by simp; omega)).trans (Below.heap_alloc _ _ _ (by omega))).trans (hk k hRk)
        clear hB2 HK HJ1 HX k0 k1 k2 k3 k4 k5 k6 k7 k8 k9 k10 k11 ct c
        gi_wp2
        refine ⟨(fun f h => by cases h), ?_⟩
        gi_wp2
        go_roundw
        case rel => exact ⟨i + 1, by omega, by go_num, HN.out⟩
        case measure => simp [intOf]; omega
      | true =>
        rw [hp] at c htk
        have HTK : Hid (sel p 0 (ts.take (i + 1)) = sel p 0 (ts.take i) ++ [(i, x)]) := by unfold Hid; rw [htk]; rfl
        clear htk hp
        gi_wp2_with fail
        refine ⟨trivial, ?_⟩
        refine ⟨fun h => by simp [Fence.wide] at h, (callsIn_wide.2 c).mono ?_⟩
        rintro e W2 ⟨rfl, hB2⟩
        have hZ2 : ∀ k, Z k → W.heap.size ≤ k ∧ k < W2.heap.size := fun k hz' => ⟨(HK.out.1 k hz').1, by have := (HK.out.1 k hz').2; have h1 := hB2.size; simp at h1; omega⟩
        have hS2 : W.heap.size ≤ W2.heap.size := by have := HK.out.2.1; have h1 := hB2.size; simp at h1; omega
        have HK2 : Hid ((∀ k, Z k → W.heap.size ≤ k ∧ k < W2.heap.size) ∧ W.heap.size ≤ W2.heap.size ∧ (∀ k, R k → W2.heap[k]? = W.heap[k]?)) := ⟨hZ2, hS2, fun k hRk => by
          have := HRR.out k hRk
          exact ((hB2.block k (by simp; omega)).trans (Below.heap_alloc _ _ _ (by omega))).trans (HK.out.2.2 k hRk)⟩
        obtain ⟨fn, tmps, assign, body, hy, hYR⟩ := hY (sel p 0 (ts.take i)) (i, x) Z W2 (HJ0.out _ _ _ _ HJ1.out (Apart.of_below hB2)) hS2 hZ2 (by rw [← HTK.out]; exact sel_prefix _ _ _)
        obtain ⟨x0, x1, x2, x3, x4, x5, x6, x7, x8, x9, x10, x11⟩ := (HX.out.later hB2).rc
        clear hB2 HK HJ1 HX k0 k1 k2 k3 k4 k5 k6 k7 k8 k9 k10 k11 ct c hZ2 hS2
        gi_wp2
        refine ⟨fun h => by simp [Fence.wide] at h, hYR.mono ?_⟩
        rintro e W3 ⟨Z', hM, (⟨rfl, hJ3⟩ | ⟨rfl, hJx3⟩)⟩
        · have HN : Hid (∃ Z, J (sel p 0 (ts.take (i + 1))) Z W3 ∧ (∀ k, Z k → W.heap.size ≤ k ∧ k < W3.heap.size) ∧ W.heap.size ≤ W3.heap.size ∧ (∀ k, R k → W3.heap[k]? = W.heap[k]?)) := by
            obtain ⟨hz, hsz, hk⟩ := HK2.out
            have h1 := hM.flat.size
            refine ⟨Z', by rw [HTK.out]; exact hJ3, fun k hk' => ⟨?_, hM.lt k hk'⟩, by omega, fun k hRk => ?_⟩
            · rcases hM.new k hk' with h | h
              · exact (hz k h).1
              · omega
            · have h2 := HRR.out k hRk
              have h3 := hw1.out.size
              exact (hM.same k (by omega) (.inl hRk) (fun h => by have := (hz k h).1; omega)).trans (hk k hRk)
          clear hM hJ3 HK2
          gi_wp2
          go_roundw
          case rel => exact ⟨i + 1, by omega, by go_num, HN.out⟩
          case measure => simp [intOf]; omega
        · clear hM
          gi_wp2
          refine bodyPost_ret (results_none rfl _ _ _) rfl ?_
          exact ⟨⟨_, rfl⟩, .inr ⟨_, Z', by rw [← HTK.out]; exact sel_prefix _ _ _, hJx3⟩⟩
    · obtain rfl : i = ts.length := by omega
      obtain ⟨Z, hj, _⟩ := HJ.out
      gi_wp2
      go_end0
      exact ⟨⟨_, rfl⟩, .inl ⟨_, Z, by simp, hj⟩⟩
end Go.Proofs.Ytokiklaffbdomaa
