/- Texts: BothI. -/
import Derived.Test.YtdodagpkkjpdiaaQA36
namespace Go.Proofs.Ytdodagpkkjpdiaa
open Go.ChangeShapes Go.WideShapes Go.ChangeAt Go.RowKit
set_option linter.unusedVariables false
set_option linter.unusedSimpArgs false
open Go.Shelf
attribute [local go_sem] Oper.semAt_some
set_option maxRecDepth 100000 in
set_option maxHeartbeats 4000000 in
theorem both_deep (n : Nat) (Ba Bb ca cb : Nat) (A B : Option Addr) (ea eb : List En) (w0 w : World) (hA : EntsAt w0 A ea) (hB : EntsAt w0 B eb) (hac : ea.length ≤ ca) (hbc : eb.length ≤ cb) (hal : ea.length ≤ maxLen) (hbl : eb.length ≤ maxLen) (hw : Below w0.heap.size w0 w) (hBa : w.cell? ⟨Ba, 0, none⟩ = some (.slice A ea.length ca)) (hBb : w.cell? ⟨Bb, 0, none⟩ = some (.slice B eb.length cb)) (T : List En) (hT : bothE (ea.length + eb.length) ea eb = T) :
    SeqDeep Fence.wide n Try.prog 78 #[.pointer (some ⟨Ba, 0, none⟩), .pointer (some ⟨Bb, 0, none⟩)] (fun x : En => #[Value.agg #[.int .i64 x.f, .slice x.a x.bs.length x.c]]) (fun k => (lies A k ∨ lies B k) ∧ k < w0.heap.size) (fun ys => ys = T) (fun pre => pre <+: T) (fun q => q <+: T) w := by
  intro l J Jx W hW hJ hJx hY h0
  have hw1 : Hid (Below w0.heap.size w0 W) := hw.trans (hW.mono hw.size)
  have hBa1 : W.cell? ⟨Ba, 0, none⟩ = some (.slice A ea.length ca) := (hW.cell (p := ⟨Ba, 0, none⟩) (lt_of_cell hBa)).trans hBa
  have hBb1 : W.cell? ⟨Bb, 0, none⟩ = some (.slice B eb.length cb) := (hW.cell (p := ⟨Bb, 0, none⟩) (lt_of_cell hBb)).trans hBb
  have HJ0 : Hid (Abides W.heap.size J) := hJ
  have HY : Hid (∀ _, _) := hY
  have H0 : Hid (BothAt w0 W W A B T J A ea.length ca B eb.length cb ea eb []) := ⟨rfl, rfl, hac, hbc, hA, hB, fun k h => .inl h, fun k h => .inr h, hT.symm, _, h0, fun k h => h.elim, Nat.le_refl _, fun _ _ _ => rfl⟩
  obtain ⟨m0, hm0⟩ : ∃ m0, ea.length = m0 := ⟨_, rfl⟩
  obtain ⟨p0, hp0⟩ : ∃ p0, eb.length = p0 := ⟨_, rfl⟩
  rw [hm0] at hBa1 H0 hal
  rw [hp0] at hBb1 H0 hbl
  unfold maxLen at hal hbl
  clear hA hB hac hbc hw hW hJ hJx hY h0 hBa hBb hT hm0 hp0
  refine callsIn_of_wp Try.func78 rfl trivial ?_ rfl
  simp only [Try.ntmps78, List.size_toArray, List.length_cons, List.length_nil, Nat.reduceAdd, Nat.reduceSub, Array.replicate_succ, Array.replicate_zero, List.push_toArray, List.append_toArray, List.nil_append, List.cons_append]
  gi_wp2
  obtain ⟨S, hS⟩ : ∃ S : World → Prop, S = fun W' => W'.cell? ⟨Ba, 0, none⟩ = some (.slice A m0 ca) ∧ W'.cell? ⟨Bb, 0, none⟩ = some (.slice B p0 cb) := ⟨_, rfl⟩
  have y0 : ∀ {ps : String} (ev : Operand → Value), ev (.tmp 1) = .pointer (some ⟨Ba, 0, none⟩) → ∀ W, S W → (execOp ev { dst := some 6, op := Go.Op.load 44 (Go.Operand.tmp 1), type := 44, pos := ps, after := #[], guard := none }).run Try.prog W = .ok (.value (.slice A m0 ca)) W := by
    intro ps ev h0 W hSw
    rw [hS] at hSw
    try dsimp only at hSw
    first | (go_simp; done) | (go_simp; with_reducible rfl)
  have y1 : ∀ {ps : String} (ev : Operand → Value), ev (.tmp 2) = .pointer (some ⟨Bb, 0, none⟩) → ∀ W, S W → (execOp ev { dst := some 7, op := Go.Op.load 44 (Go.Operand.tmp 2), type := 44, pos := ps, after := #[{ on := 2, ground := Go.Ground.gcOnly Go.Departure.lateStores }], guard := none }).run Try.prog W = .ok (.value (.slice B p0 cb)) W := by
    intro ps ev h0 W hSw
    rw [hS] at hSw
    try dsimp only at hSw
    first | (go_simp; done) | (go_simp; with_reducible rfl)
  have y2 : ∀ {ps : String} (ev : Operand → Value), ev (.tmp 6) = .slice A m0 ca → ∀ W, S W → (execOp ev { dst := some 4, op := Go.Op.assign (Go.Operand.tmp 6), type := 44, pos := ps, after := #[{ on := 0, ground := Go.Ground.data }, { on := 0, ground := Go.Ground.phase }, { on := 1, ground := Go.Ground.textOnly Go.Departure.lateStores }], guard := none }).run Try.prog W = .ok (.value (.slice A m0 ca)) W := by
    intro ps ev h0 W hSw
    rw [hS] at hSw
    try dsimp only at hSw
    first | (go_simp; done) | (go_simp; with_reducible rfl)
  have y3 : ∀ {ps : String} (ev : Operand → Value), ev (.tmp 7) = .slice B p0 cb → ∀ W, S W → (execOp ev { dst := some 5, op := Go.Op.assign (Go.Operand.tmp 7), type := 44, pos := ps, after := #[{ on := 1, ground := Go.Ground.data }, { on := 2, ground := Go.Ground.chain }, { on := 0, ground := Go.Ground.phase }, { on := 1, ground := Go.Ground.phase }, { on := 2, ground := Go.Ground.phase }], guard := none }).run Try.prog W = .ok (.value (.slice B p0 cb)) W := by
    intro ps ev h0 W hSw
    rw [hS] at hSw
    try dsimp only at hSw
    first | (go_simp; done) | (go_simp; with_reducible rfl)
  refine wpIn_wide_class (fun W' => S W' ∧ (Below 0 W W' ∧ W'.heap = W.heap)) (by kernel_rfl) (by kernel_rfl) (by kernel_rfl) ?hC ?_
  case hC => exact ⟨by rw [hS]; exact ⟨hBa1, hBb1⟩, Below.drew (Below.refl _ _), rfl⟩
  refine qs_val (by kernel_rfl) (fun W hW => y0 _ rfl W hW.1) ?_
  try simp only [Act.put, List.setIfInBounds_toArray, List.set_cons_zero, List.set_cons_succ]
  refine qs_val (by kernel_rfl) (fun W hW => y1 _ rfl W hW.1) ?_
  try simp only [Act.put, List.setIfInBounds_toArray, List.set_cons_zero, List.set_cons_succ]
  refine qs_val (by kernel_rfl) (fun W hW => y2 _ rfl W hW.1) ?_
  try simp only [Act.put, List.setIfInBounds_toArray, List.set_cons_zero, List.set_cons_succ]
  refine qs_val (by kernel_rfl) (fun W hW => y3 _ rfl W hW.1) ?_
  try simp only [Act.put, List.setIfInBounds_toArray, List.set_cons_zero, List.set_cons_succ]
  refine qs_nil ?_
  intro W1 hC1
  have H1 : Hid (BothAt w0 W W1 A B T J A m0 ca B p0 cb ea eb []) := by
    obtain ⟨Z, z1, z2, z3, z4⟩ := H0.out.zz
    exact { H0.out with zz := ⟨Z, HJ0.out _ _ _ _ z1 (apart_same hC1.2.1 hC1.2.2), by rw [hC1.2.2]; exact z2, by rw [hC1.2.2]; exact z3, by rw [hC1.2.2]; exact z4⟩ }
  clear hC1 H0 y0 y1 y2 y3 hS hBa1 hBb1
  gi_wp2
  gi_loopw [4, 5] (fun v4 v5 wr => ∃ (na fa : Option Addr) (m nc p fc : Nat), v4 = .slice na m nc ∧ v5 = .slice fa p fc ∧ m ≤ 9223372036854775807 ∧ p ≤ 9223372036854775807 ∧ Hid (∃ nl fl pre, BothAt w0 W wr A B T J na m nc fa p fc nl fl pre))
    (fun v4 v5 _ => slLen v4 + slLen v5)
  case atStart => exact ⟨A, B, m0, ca, p0, cb, rfl, rfl, hal, hbl, _, _, _, H1.out⟩
  case round =>
    clear H1 hal hbl
    obtain ⟨na, fa, m, nc, p, fc, rfl, rfl, hml, hpl, HI⟩ := hrel
    obtain ⟨nl, fl, pre, hI⟩ := HI.out
    clear HI
    cases nl with
    | nil =>
      obtain rfl : m = 0 := by have := hI.ml; simpa using this.symm
      cases fl with
      | nil =>
        obtain rfl : p = 0 := by have := hI.pl; simpa using this.symm
        obtain ⟨Z, hj, _⟩ := hI.zz
        have hTp : T = pre := by have := hI.tt; simpa [bothE] using this
        gi_wp2
        go_end0
        exact ⟨⟨_, rfl⟩, .inl ⟨_, Z, hTp.symm, hj⟩⟩
      | cons y r =>
        obtain ⟨fb, fo, hfa, hf0, hf1⟩ := hI.fe.head
        subst hfa
        have hfb := (hI.fR fb ⟨_, _, rfl⟩)
        have hp0 : 0 < p := by have := hI.pl; simp at this; omega
        obtain ⟨Z, hj, hz, hsz, hk⟩ := hI.zz
        have hbf : wr.heap[fb]? = w0.heap[fb]? := (hk fb (lt_of_cell hf0) hfb).trans (hw1.out.block fb (lt_of_cell hf0))
        have cf0 : wr.cell? ⟨fb, fo, none⟩ = some (.int .i64 y.f) := (World.cell?_of_block (w := w0) hbf).trans hf0
        have cf1 : wr.cell? ⟨fb, fo + 1, none⟩ = some (.slice y.a y.bs.length y.c) := (World.cell?_of_block (w := w0) hbf).trans hf1
        have hp1 : ¬ (p = 0) := by omega
        have hp2 : ¬ ((p : Int) = 0) := by omega
        have hp3 : (0 : Int) < (p : Int) := by omega
        have HI : Hid (BothAt _ _ _ _ _ _ _ _ _ _ _ _ _ _ _ _) := hI
        have hTT : T = (pre ++ [y]) ++ bothE (p - 1 + 0) r [] := by rw [hI.tt, both_a hI.pl, List.append_assoc]; rfl
        have HTT : Hid (_ = _) := hTT
        have HK : Hid ((∀ k, Z k → W.heap.size ≤ k ∧ k < wr.heap.size) ∧ W.heap.size ≤ wr.heap.size ∧ (∀ k, k < w0.heap.size → (lies A k ∨ lies B k) → wr.heap[k]? = W.heap[k]?)) := ⟨hz, hsz, hk⟩
        have HJ1 : Hid (J pre Z wr) := hj
        clear hI hz hsz hk hj hTT hf0 hf1 hbf hfb
        gi_wp2
        obtain ⟨S, hS⟩ : ∃ S : World → Prop, S = fun W' => W'.cell? ⟨fb, fo, none⟩ = some (.int .i64 y.f) := ⟨_, rfl⟩
        have y0 : ∀ {ps : String} (ev : Operand → Value), ev (.tmp 4) = .slice na 0 nc → ∀ W, S W → (execOp ev { dst := some 16, op := Go.Op.move (Go.Operand.tmp 4), type := 44, pos := ps, after := #[], guard := none }).run Try.prog W = .ok (.value (.slice na 0 nc)) W := by
          intro ps ev h0 W hSw
          rw [hS] at hSw
          try dsimp only at hSw
          first | (go_simp; done) | (go_simp; with_reducible rfl)
        have y1 : ∀ {ps : String} (ev : Operand → Value), ev (.tmp 16) = .slice na 0 nc → ∀ W, S W → (execOp ev { dst := some 17, op := Go.Op.call { callee := Go.Callee.builtin Go.Builtin.len, args := #[Go.Operand.tmp 16], argTypes := #[44] }, type := 3, pos := ps, after := #[{ on := 0, ground := Go.Ground.data }], guard := none }).run Try.prog W = .ok (.value (.int .i64 0)) W := by
          intro ps ev h0 W hSw
          rw [hS] at hSw
          try dsimp only at hSw
          first | (go_simp; done) | (go_simp; with_reducible rfl)
        have y2 : ∀ {ps : String} (ev : Operand → Value), ev (.tmp 17) = .int .i64 0 → ev (.const (Go.Value.int Go.IntKind.i64 0)) = (Go.Value.int Go.IntKind.i64 0) → ∀ W, S W → (execOp ev { dst := some 18, op := Go.Op.binOp Go.BinOp.eql 3 (Go.Operand.tmp 17) (Go.Operand.const (Go.Value.int Go.IntKind.i64 0)) 3, type := 4, pos := ps, after := #[{ on := 1, ground := Go.Ground.data }], guard := none }).run Try.prog W = .ok (.value (.bool true)) W := by
          intro ps ev h0 h1 W hSw
          rw [hS] at hSw
          try dsimp only at hSw
          first | (go_simp; done) | (go_simp; with_reducible rfl)
        have y3 : ∀ {ps : String} (ev : Operand → Value), ev (.tmp 18) = .bool true → ∀ W, S W → (execOp ev { dst := some 19, op := Go.Op.move (Go.Operand.tmp 18), type := 4, pos := ps, after := #[{ on := 2, ground := Go.Ground.data }], guard := none }).run Try.prog W = .ok (.value (.bool true)) W := by
          intro ps ev h0 W hSw
          rw [hS] at hSw
          try dsimp only at hSw
          first | (go_simp; done) | (go_simp; with_reducible rfl)
        have y18 : ∀ {ps : String} (ev : Operand → Value), ev (.tmp 19) = .bool true → ev (.const (Go.Value.bool true)) = (Go.Value.bool true) → ∀ W, S W → (execOp ev { dst := some 34, op := Go.Op.pick (Go.Operand.tmp 19) (Go.Operand.const (Go.Value.bool true)) (Go.Operand.tmp 33), type := 4, pos := ps, after := #[{ on := 3, ground := Go.Ground.data }, { on := 17, ground := Go.Ground.data }], guard := none }).run Try.prog W = .ok (.value (.bool true)) W := by
          intro ps ev h0 h1 W hSw
          rw [hS] at hSw
          try dsimp only at hSw
          first | (go_simp; done) | (go_simp; with_reducible rfl)
        refine wpIn_wide_class (fun W' => S W' ∧ (Below 0 wr W' ∧ W'.heap = wr.heap)) (by kernel_rfl) (by kernel_rfl) (by kernel_rfl) ?hC ?_
        case hC => exact ⟨by rw [hS]; exact cf0, Below.drew (Below.refl _ _), rfl⟩
        refine qs_val (by kernel_rfl) (fun W hW => y0 _ rfl W hW.1) ?_
        try simp only [Act.put, List.setIfInBounds_toArray, List.set_cons_zero, List.set_cons_succ]
        refine qs_val (by kernel_rfl) (fun W hW => y1 _ rfl W hW.1) ?_
        try simp only [Act.put, List.setIfInBounds_toArray, List.set_cons_zero, List.set_cons_succ]
        refine qs_val (by kernel_rfl) (fun W hW => y2 _ rfl rfl W hW.1) ?_
        try simp only [Act.put, List.setIfInBounds_toArray, List.set_cons_zero, List.set_cons_succ]
        refine qs_val (by kernel_rfl) (fun W hW => y3 _ rfl W hW.1) ?_
        try simp only [Act.put, List.setIfInBounds_toArray, List.set_cons_zero, List.set_cons_succ]
        refine qs_skip (by kernel_rfl) ?_
        try simp only [Act.put, List.setIfInBounds_toArray, List.set_cons_zero, List.set_cons_succ]
        refine qs_skip (by kernel_rfl) ?_
        try simp only [Act.put, List.setIfInBounds_toArray, List.set_cons_zero, List.set_cons_succ]
        refine qs_skip (by kernel_rfl) ?_
        try simp only [Act.put, List.setIfInBounds_toArray, List.set_cons_zero, List.set_cons_succ]
        refine qs_skip (by kernel_rfl) ?_
        try simp only [Act.put, List.setIfInBounds_toArray, List.set_cons_zero, List.set_cons_succ]
        refine qs_skip (by kernel_rfl) ?_
        try simp only [Act.put, List.setIfInBounds_toArray, List.set_cons_zero, List.set_cons_succ]
        refine qs_skip (by kernel_rfl) ?_
        try simp only [Act.put, List.setIfInBounds_toArray, List.set_cons_zero, List.set_cons_succ]
        refine qs_skip (by kernel_rfl) ?_
        try simp only [Act.put, List.setIfInBounds_toArray, List.set_cons_zero, List.set_cons_succ]
        refine qs_skip (by kernel_rfl) ?_
        try simp only [Act.put, List.setIfInBounds_toArray, List.set_cons_zero, List.set_cons_succ]
        refine qs_skip (by kernel_rfl) ?_
        try simp only [Act.put, List.setIfInBounds_toArray, List.set_cons_zero, List.set_cons_succ]
        refine qs_skip (by kernel_rfl) ?_
        try simp only [Act.put, List.setIfInBounds_toArray, List.set_cons_zero, List.set_cons_succ]
        refine qs_skip (by kernel_rfl) ?_
        try simp only [Act.put, List.setIfInBounds_toArray, List.set_cons_zero, List.set_cons_succ]
        refine qs_skip (by kernel_rfl) ?_
        try simp only [Act.put, List.setIfInBounds_toArray, List.set_cons_zero, List.set_cons_succ]
        refine qs_skip (by kernel_rfl) ?_
        try simp only [Act.put, List.setIfInBounds_toArray, List.set_cons_zero, List.set_cons_succ]
        refine qs_skip (by kernel_rfl) ?_
        try simp only [Act.put, List.setIfInBounds_toArray, List.set_cons_zero, List.set_cons_succ]
        refine qs_val (by kernel_rfl) (fun W hW => y18 _ rfl rfl W hW.1) ?_
        try simp only [Act.put, List.setIfInBounds_toArray, List.set_cons_zero, List.set_cons_succ]
        refine qs_nil ?_
        intro W2 hC2
        have d0 : W2.cell? ⟨fb, fo, none⟩ = some (.int .i64 y.f) := by rw [World.cell?_of_block (w := wr) (by rw [hC2.2.2])]; exact cf0
        have d1 : W2.cell? ⟨fb, fo + 1, none⟩ = some (.slice y.a y.bs.length y.c) := by rw [World.cell?_of_block (w := wr) (by rw [hC2.2.2])]; exact cf1
        have HC : Hid (Below 0 wr W2 ∧ W2.heap = wr.heap) := hC2.2
        obtain ⟨fn, tmps, assign, body, hy, hR⟩ := HY.out pre y Z W2 (HJ0.out _ _ _ _ HJ1.out (apart_same HC.out.1 HC.out.2)) (by rw [HC.out.2]; exact HK.out.2.1) (by rw [HC.out.2]; exact HK.out.1) (by rw [HTT.out]; exact List.prefix_append _ _)
        have hsl := fun W => slE_l (some ⟨fb, fo, none⟩) p fc 1 1 rfl (by omega) W
        clear hC2 hS y0 y1 y2 y3 y18 cf0 cf1
        gi_wp2
        refine ⟨fun h => by simp [Fence.wide] at h, hR.mono ?_⟩
        rintro e W3 ⟨Z', hM, (⟨rfl, hJ3⟩ | ⟨rfl, hJx3⟩)⟩
        · have HN : Hid (BothAt w0 W W3 A B T J (cutE (some ⟨fb, fo, none⟩) fc 1) (p - 1) (fc - 1) (na) 0 nc r [] (pre ++ [y])) := by
            obtain ⟨hz, hsz, hk⟩ := HK.out
            have h1 := hM.flat.size
            rw [HC.out.2] at h1
            have hl1 := HI.out.pl
            simp at hl1
            have hc1 := HI.out.pc
            refine ⟨by omega, rfl, by omega, HI.out.mc, HI.out.fe.tail (by omega), HI.out.ne, fun k hk => HI.out.fR k (lies_cut hk), HI.out.nR, HTT.out, Z', hJ3, fun k hk' => ⟨?_, hM.lt k hk'⟩, by omega, fun k hkl hk' => ?_⟩
            · rcases hM.new k hk' with h | h
              · exact (hz k h).1
              · rw [HC.out.2] at h; omega
            · have hk0 := hw1.out.size
              have := (hM.same k (by rw [HC.out.2]; omega) (.inl ⟨hk', hkl⟩) (fun h => by have := (hz k h).1; omega))
              rw [HC.out.2] at this
              exact this.trans (hk k hkl hk')
          clear hM hJ3 HK d0 d1
          gi_wp2
          go_roundw
          case rel => exact ⟨_, _, _, _, _, _, rfl, rfl, by omega, by omega, _, _, _, HN.out⟩
          case measure => simp [slLen]; omega
        · clear hM
          gi_wp2
          refine bodyPost_ret (results_none rfl _ _ _) rfl ?_
          exact ⟨⟨_, rfl⟩, .inr ⟨_, Z', by rw [HTT.out]; exact List.prefix_append _ _, hJx3⟩⟩
    | cons x l =>
      cases fl with
      | nil =>
        obtain rfl : p = 0 := by have := hI.pl; simpa using this.symm
        obtain ⟨nb, no, hna, hn0, hn1⟩ := hI.ne.head
        subst hna
        have hnb := (hI.nR nb ⟨_, _, rfl⟩)
        have hm0 : 0 < m := by have := hI.ml; simp at this; omega
        obtain ⟨Z, hj, hz, hsz, hk⟩ := hI.zz
        have hbn : wr.heap[nb]? = w0.heap[nb]? := (hk nb (lt_of_cell hn0) hnb).trans (hw1.out.block nb (lt_of_cell hn0))
        have cn0 : wr.cell? ⟨nb, no, none⟩ = some (.int .i64 x.f) := (World.cell?_of_block (w := w0) hbn).trans hn0
        have cn1 : wr.cell? ⟨nb, no + 1, none⟩ = some (.slice x.a x.bs.length x.c) := (World.cell?_of_block (w := w0) hbn).trans hn1
        have hm1 : ¬ (m = 0) := by omega
        have hm2 : ¬ ((m : Int) = 0) := by omega
        have hm3 : (0 : Int) < (m : Int) := by omega
        have HI : Hid (BothAt _ _ _ _ _ _ _ _ _ _ _ _ _ _ _ _) := hI
        have hTT : T = (pre ++ [x]) ++ bothE (m - 1 + 0) l [] := by rw [hI.tt, both_b hI.ml, List.append_assoc]; rfl
        have HTT : Hid (_ = _) := hTT
        have HK : Hid ((∀ k, Z k → W.heap.size ≤ k ∧ k < wr.heap.size) ∧ W.heap.size ≤ wr.heap.size ∧ (∀ k, k < w0.heap.size → (lies A k ∨ lies B k) → wr.heap[k]? = W.heap[k]?)) := ⟨hz, hsz, hk⟩
        have HJ1 : Hid (J pre Z wr) := hj
        clear hI hz hsz hk hj hTT hn0 hn1 hbn hnb
        gi_wp2
        obtain ⟨S, hS⟩ : ∃ S : World → Prop, S = fun W' => W'.cell? ⟨nb, no, none⟩ = some (.int .i64 x.f) := ⟨_, rfl⟩
        have y0 : ∀ {ps : String} (ev : Operand → Value), ev (.tmp 4) = .slice (some ⟨nb, no, none⟩) m nc → ∀ W, S W → (execOp ev { dst := some 16, op := Go.Op.move (Go.Operand.tmp 4), type := 44, pos := ps, after := #[], guard := none }).run Try.prog W = .ok (.value (.slice (some ⟨nb, no, none⟩) m nc)) W := by
          intro ps ev h0 W hSw
          rw [hS] at hSw
          try dsimp only at hSw
          first | (go_simp; done) | (go_simp; with_reducible rfl)
        have y1 : ∀ {ps : String} (ev : Operand → Value), ev (.tmp 16) = .slice (some ⟨nb, no, none⟩) m nc → ∀ W, S W → (execOp ev { dst := some 17, op := Go.Op.call { callee := Go.Callee.builtin Go.Builtin.len, args := #[Go.Operand.tmp 16], argTypes := #[44] }, type := 3, pos := ps, after := #[{ on := 0, ground := Go.Ground.data }], guard := none }).run Try.prog W = .ok (.value (.int .i64 (m : Int))) W := by
          intro ps ev h0 W hSw
          rw [hS] at hSw
          try dsimp only at hSw
          first | (go_simp; done) | (go_simp; with_reducible rfl)
        have y2 : ∀ {ps : String} (ev : Operand → Value), ev (.tmp 17) = .int .i64 (m : Int) → ev (.const (Go.Value.int Go.IntKind.i64 0)) = (Go.Value.int Go.IntKind.i64 0) → ∀ W, S W → (execOp ev { dst := some 18, op := Go.Op.binOp Go.BinOp.eql 3 (Go.Operand.tmp 17) (Go.Operand.const (Go.Value.int Go.IntKind.i64 0)) 3, type := 4, pos := ps, after := #[{ on := 1, ground := Go.Ground.data }], guard := none }).run Try.prog W = .ok (.value (.bool false)) W := by
          intro ps ev h0 h1 W hSw
          rw [hS] at hSw
          try dsimp only at hSw
          first | (go_simp; done) | (go_simp; with_reducible rfl)
        have y3 : ∀ {ps : String} (ev : Operand → Value), ev (.tmp 18) = .bool false → ∀ W, S W → (execOp ev { dst := some 19, op := Go.Op.move (Go.Operand.tmp 18), type := 4, pos := ps, after := #[{ on := 2, ground := Go.Ground.data }], guard := none }).run Try.prog W = .ok (.value (.bool false)) W := by
          intro ps ev h0 W hSw
          rw [hS] at hSw
          try dsimp only at hSw
          first | (go_simp; done) | (go_simp; with_reducible rfl)
        have y4 : ∀ {ps : String} (ev : Operand → Value), ev (.tmp 5) = .slice fa 0 fc → ∀ W, S W → (execOp ev { dst := some 20, op := Go.Op.move (Go.Operand.tmp 5), type := 44, pos := ps, after := #[{ on := 3, ground := Go.Ground.guard }], guard := some (3, false) }).run Try.prog W = .ok (.value (.slice fa 0 fc)) W := by
          intro ps ev h0 W hSw
          rw [hS] at hSw
          try dsimp only at hSw
          first | (go_simp; done) | (go_simp; with_reducible rfl)
        have y5 : ∀ {ps : String} (ev : Operand → Value), ev (.tmp 20) = .slice fa 0 fc → ∀ W, S W → (execOp ev { dst := some 21, op := Go.Op.call { callee := Go.Callee.builtin Go.Builtin.len, args := #[Go.Operand.tmp 20], argTypes := #[44] }, type := 3, pos := ps, after := #[{ on := 4, ground := Go.Ground.data }, { on := 3, ground := Go.Ground.guard }], guard := some (3, false) }).run Try.prog W = .ok (.value (.int .i64 0)) W := by
          intro ps ev h0 W hSw
          rw [hS] at hSw
          try dsimp only at hSw
          first | (go_simp; done) | (go_simp; with_reducible rfl)
        have y6 : ∀ {ps : String} (ev : Operand → Value), ev (.tmp 21) = .int .i64 0 → ev (.const (Go.Value.int Go.IntKind.i64 0)) = (Go.Value.int Go.IntKind.i64 0) → ∀ W, S W → (execOp ev { dst := some 22, op := Go.Op.binOp Go.BinOp.gtr 3 (Go.Operand.tmp 21) (Go.Operand.const (Go.Value.int Go.IntKind.i64 0)) 3, type := 4, pos := ps, after := #[{ on := 5, ground := Go.Ground.data }, { on := 3, ground := Go.Ground.guard }], guard := some (3, false) }).run Try.prog W = .ok (.value (.bool false)) W := by
          intro ps ev h0 h1 W hSw
          rw [hS] at hSw
          try dsimp only at hSw
          first | (go_simp; done) | (go_simp; with_reducible rfl)
        have y7 : ∀ {ps : String} (ev : Operand → Value), ev (.tmp 22) = .bool false → ∀ W, S W → (execOp ev { dst := some 23, op := Go.Op.move (Go.Operand.tmp 22), type := 4, pos := ps, after := #[{ on := 6, ground := Go.Ground.data }, { on := 3, ground := Go.Ground.chain }, { on := 3, ground := Go.Ground.guard }], guard := some (3, false) }).run Try.prog W = .ok (.value (.bool false)) W := by
          intro ps ev h0 W hSw
          rw [hS] at hSw
          try dsimp only at hSw
          first | (go_simp; done) | (go_simp; with_reducible rfl)
        have y17 : ∀ {ps : String} (ev : Operand → Value), ev (.tmp 23) = .bool false → ev (.const (Go.Value.bool false)) = (Go.Value.bool false) → ∀ W, S W → (execOp ev { dst := some 33, op := Go.Op.pick (Go.Operand.tmp 23) (Go.Operand.tmp 32) (Go.Operand.const (Go.Value.bool false)), type := 4, pos := ps, after := #[{ on := 7, ground := Go.Ground.data }, { on := 16, ground := Go.Ground.data }, { on := 3, ground := Go.Ground.guard }], guard := some (3, false) }).run Try.prog W = .ok (.value (.bool false)) W := by
          intro ps ev h0 h1 W hSw
          rw [hS] at hSw
          try dsimp only at hSw
          first | (go_simp; done) | (go_simp; with_reducible rfl)
        have y18 : ∀ {ps : String} (ev : Operand → Value), ev (.tmp 19) = .bool false → ev (.const (Go.Value.bool true)) = (Go.Value.bool true) → ev (.tmp 33) = .bool false → ∀ W, S W → (execOp ev { dst := some 34, op := Go.Op.pick (Go.Operand.tmp 19) (Go.Operand.const (Go.Value.bool true)) (Go.Operand.tmp 33), type := 4, pos := ps, after := #[{ on := 3, ground := Go.Ground.data }, { on := 17, ground := Go.Ground.data }], guard := none }).run Try.prog W = .ok (.value (.bool false)) W := by
          intro ps ev h0 h1 h2 W hSw
          rw [hS] at hSw
          try dsimp only at hSw
          first | (go_simp; done) | (go_simp; with_reducible rfl)
        refine wpIn_wide_class (fun W' => S W' ∧ (Below 0 wr W' ∧ W'.heap = wr.heap)) (by kernel_rfl) (by kernel_rfl) (by kernel_rfl) ?hC ?_
        case hC => exact ⟨by rw [hS]; exact cn0, Below.drew (Below.refl _ _), rfl⟩
        refine qs_val (by kernel_rfl) (fun W hW => y0 _ rfl W hW.1) ?_
        try simp only [Act.put, List.setIfInBounds_toArray, List.set_cons_zero, List.set_cons_succ]
        refine qs_val (by kernel_rfl) (fun W hW => y1 _ rfl W hW.1) ?_
        try simp only [Act.put, List.setIfInBounds_toArray, List.set_cons_zero, List.set_cons_succ]
        refine qs_val (by kernel_rfl) (fun W hW => y2 _ rfl rfl W hW.1) ?_
        try simp only [Act.put, List.setIfInBounds_toArray, List.set_cons_zero, List.set_cons_succ]
        refine qs_val (by kernel_rfl) (fun W hW => y3 _ rfl W hW.1) ?_
        try simp only [Act.put, List.setIfInBounds_toArray, List.set_cons_zero, List.set_cons_succ]
        refine qs_val (by kernel_rfl) (fun W hW => y4 _ rfl W hW.1) ?_
        try simp only [Act.put, List.setIfInBounds_toArray, List.set_cons_zero, List.set_cons_succ]
        refine qs_val (by kernel_rfl) (fun W hW => y5 _ rfl W hW.1) ?_
        try simp only [Act.put, List.setIfInBounds_toArray, List.set_cons_zero, List.set_cons_succ]
        refine qs_val (by kernel_rfl) (fun W hW => y6 _ rfl rfl W hW.1) ?_
        try simp only [Act.put, List.setIfInBounds_toArray, List.set_cons_zero, List.set_cons_succ]
        refine qs_val (by kernel_rfl) (fun W hW => y7 _ rfl W hW.1) ?_
        try simp only [Act.put, List.setIfInBounds_toArray, List.set_cons_zero, List.set_cons_succ]
        refine qs_skip (by kernel_rfl) ?_
        try simp only [Act.put, List.setIfInBounds_toArray, List.set_cons_zero, List.set_cons_succ]
        refine qs_skip (by kernel_rfl) ?_
        try simp only [Act.put, List.setIfInBounds_toArray, List.set_cons_zero, List.set_cons_succ]
        refine qs_skip (by kernel_rfl) ?_
        try simp only [Act.put, List.setIfInBounds_toArray, List.set_cons_zero, List.set_cons_succ]
        refine qs_skip (by kernel_rfl) ?_
        try simp only [Act.put, List.setIfInBounds_toArray, List.set_cons_zero, List.set_cons_succ]
        refine qs_skip (by kernel_rfl) ?_
        try simp only [Act.put, List.setIfInBounds_toArray, List.set_cons_zero, List.set_cons_succ]
        refine qs_skip (by kernel_rfl) ?_
        try simp only [Act.put, List.setIfInBounds_toArray, List.set_cons_zero, List.set_cons_succ]
        refine qs_skip (by kernel_rfl) ?_
        try simp only [Act.put, List.setIfInBounds_toArray, List.set_cons_zero, List.set_cons_succ]
        refine qs_skip (by kernel_rfl) ?_
        try simp only [Act.put, List.setIfInBounds_toArray, List.set_cons_zero, List.set_cons_succ]
        refine qs_skip (by kernel_rfl) ?_
        try simp only [Act.put, List.setIfInBounds_toArray, List.set_cons_zero, List.set_cons_succ]
        refine qs_val (by kernel_rfl) (fun W hW => y17 _ rfl rfl W hW.1) ?_
        try simp only [Act.put, List.setIfInBounds_toArray, List.set_cons_zero, List.set_cons_succ]
        refine qs_val (by kernel_rfl) (fun W hW => y18 _ rfl rfl rfl W hW.1) ?_
        try simp only [Act.put, List.setIfInBounds_toArray, List.set_cons_zero, List.set_cons_succ]
        refine qs_nil ?_
        intro W2 hC2
        have d0 : W2.cell? ⟨nb, no, none⟩ = some (.int .i64 x.f) := by rw [World.cell?_of_block (w := wr) (by rw [hC2.2.2])]; exact cn0
        have d1 : W2.cell? ⟨nb, no + 1, none⟩ = some (.slice x.a x.bs.length x.c) := by rw [World.cell?_of_block (w := wr) (by rw [hC2.2.2])]; exact cn1
        have HC : Hid (Below 0 wr W2 ∧ W2.heap = wr.heap) := hC2.2
        obtain ⟨fn, tmps, assign, body, hy, hR⟩ := HY.out pre x Z W2 (HJ0.out _ _ _ _ HJ1.out (apart_same HC.out.1 HC.out.2)) (by rw [HC.out.2]; exact HK.out.2.1) (by rw [HC.out.2]; exact HK.out.1) (by rw [HTT.out]; exact List.prefix_append _ _)
        have hsl := fun W => slE_l (some ⟨nb, no, none⟩) m nc 1 1 rfl (by omega) W
        clear hC2 hS y0 y1 y2 y3 y4 y5 y6 y7 y17 y18 cn0 cn1
        gi_wp2
        refine ⟨fun h => by simp [Fence.wide] at h, hR.mono ?_⟩
        rintro e W3 ⟨Z', hM, (⟨rfl, hJ3⟩ | ⟨rfl, hJx3⟩)⟩
        · have HN : Hid (BothAt w0 W W3 A B T J (cutE (some ⟨nb, no, none⟩) nc 1) (m - 1) (nc - 1) (fa) 0 fc l [] (pre ++ [x])) := by
            obtain ⟨hz, hsz, hk⟩ := HK.out
            have h1 := hM.flat.size
            rw [HC.out.2] at h1
            have hl1 := HI.out.ml
            simp at hl1
            have hc1 := HI.out.mc
            refine ⟨by omega, rfl, by omega, HI.out.pc, HI.out.ne.tail (by omega), HI.out.fe, fun k hk => HI.out.nR k (lies_cut hk), HI.out.fR, HTT.out, Z', hJ3, fun k hk' => ⟨?_, hM.lt k hk'⟩, by omega, fun k hkl hk' => ?_⟩
            · rcases hM.new k hk' with h | h
              · exact (hz k h).1
              · rw [HC.out.2] at h; omega
            · have hk0 := hw1.out.size
              have := (hM.same k (by rw [HC.out.2]; omega) (.inl ⟨hk', hkl⟩) (fun h => by have := (hz k h).1; omega))
              rw [HC.out.2] at this
              exact this.trans (hk k hkl hk')
          clear hM hJ3 HK d0 d1
          gi_wp2
          go_roundw
          case rel => exact ⟨_, _, _, _, _, _, rfl, rfl, by omega, by omega, _, _, _, HN.out⟩
          case measure => simp [slLen]; omega
        · clear hM
          gi_wp2
          refine bodyPost_ret (results_none rfl _ _ _) rfl ?_
          exact ⟨⟨_, rfl⟩, .inr ⟨_, Z', by rw [HTT.out]; exact List.prefix_append _ _, hJx3⟩⟩
      | cons y r =>
        by_cases hlt : y.f < x.f
        · skip
          obtain ⟨fb, fo, hfa, hf0, hf1⟩ := hI.fe.head
          subst hfa
          have hfb := (hI.fR fb ⟨_, _, rfl⟩)
          have hp0 : 0 < p := by have := hI.pl; simp at this; omega
          obtain ⟨nb, no, hna, hn0, hn1⟩ := hI.ne.head
          subst hna
          have hnb := (hI.nR nb ⟨_, _, rfl⟩)
          have hm0 : 0 < m := by have := hI.ml; simp at this; omega
          obtain ⟨Z, hj, hz, hsz, hk⟩ := hI.zz
          have hbf : wr.heap[fb]? = w0.heap[fb]? := (hk fb (lt_of_cell hf0) hfb).trans (hw1.out.block fb (lt_of_cell hf0))
          have cf0 : wr.cell? ⟨fb, fo, none⟩ = some (.int .i64 y.f) := (World.cell?_of_block (w := w0) hbf).trans hf0
          have cf1 : wr.cell? ⟨fb, fo + 1, none⟩ = some (.slice y.a y.bs.length y.c) := (World.cell?_of_block (w := w0) hbf).trans hf1
          have hp1 : ¬ (p = 0) := by omega
          have hp2 : ¬ ((p : Int) = 0) := by omega
          have hp3 : (0 : Int) < (p : Int) := by omega
          have hbn : wr.heap[nb]? = w0.heap[nb]? := (hk nb (lt_of_cell hn0) hnb).trans (hw1.out.block nb (lt_of_cell hn0))
          have cn0 : wr.cell? ⟨nb, no, none⟩ = some (.int .i64 x.f) := (World.cell?_of_block (w := w0) hbn).trans hn0
          have cn1 : wr.cell? ⟨nb, no + 1, none⟩ = some (.slice x.a x.bs.length x.c) := (World.cell?_of_block (w := w0) hbn).trans hn1
          have hm1 : ¬ (m = 0) := by omega
          have hm2 : ¬ ((m : Int) = 0) := by omega
          have hm3 : (0 : Int) < (m : Int) := by omega
          have HI : Hid (BothAt _ _ _ _ _ _ _ _ _ _ _ _ _ _ _ _) := hI
          have hTT : T = (pre ++ [y]) ++ bothE (p - 1 + m) r (x :: l) := by rw [hI.tt, both_c hI.ml hI.pl hlt, List.append_assoc]; rfl
          have HTT : Hid (_ = _) := hTT
          have HK : Hid ((∀ k, Z k → W.heap.size ≤ k ∧ k < wr.heap.size) ∧ W.heap.size ≤ wr.heap.size ∧ (∀ k, k < w0.heap.size → (lies A k ∨ lies B k) → wr.heap[k]? = W.heap[k]?)) := ⟨hz, hsz, hk⟩
          have HJ1 : Hid (J pre Z wr) := hj
          clear hI hz hsz hk hj hTT hf0 hf1 hbf hfb hn0 hn1 hbn hnb
          gi_wp2
          obtain ⟨S, hS⟩ : ∃ S : World → Prop, S = fun W' => W'.cell? ⟨fb, fo, none⟩ = some (.int .i64 y.f) ∧ W'.cell? ⟨nb, no, none⟩ = some (.int .i64 x.f) := ⟨_, rfl⟩
          have y0 : ∀ {ps : String} (ev : Operand → Value), ev (.tmp 4) = .slice (some ⟨nb, no, none⟩) m nc → ∀ W, S W → (execOp ev { dst := some 16, op := Go.Op.move (Go.Operand.tmp 4), type := 44, pos := ps, after := #[], guard := none }).run Try.prog W = .ok (.value (.slice (some ⟨nb, no, none⟩) m nc)) W := by
            intro ps ev h0 W hSw
            rw [hS] at hSw
            try dsimp only at hSw
            first | (go_simp; done) | (go_simp; with_reducible rfl)
          have y1 : ∀ {ps : String} (ev : Operand → Value), ev (.tmp 16) = .slice (some ⟨nb, no, none⟩) m nc → ∀ W, S W → (execOp ev { dst := some 17, op := Go.Op.call { callee := Go.Callee.builtin Go.Builtin.len, args := #[Go.Operand.tmp 16], argTypes := #[44] }, type := 3, pos := ps, after := #[{ on := 0, ground := Go.Ground.data }], guard := none }).run Try.prog W = .ok (.value (.int .i64 (m : Int))) W := by
            intro ps ev h0 W hSw
            rw [hS] at hSw
            try dsimp only at hSw
            first | (go_simp; done) | (go_simp; with_reducible rfl)
          have y2 : ∀ {ps : String} (ev : Operand → Value), ev (.tmp 17) = .int .i64 (m : Int) → ev (.const (Go.Value.int Go.IntKind.i64 0)) = (Go.Value.int Go.IntKind.i64 0) → ∀ W, S W → (execOp ev { dst := some 18, op := Go.Op.binOp Go.BinOp.eql 3 (Go.Operand.tmp 17) (Go.Operand.const (Go.Value.int Go.IntKind.i64 0)) 3, type := 4, pos := ps, after := #[{ on := 1, ground := Go.Ground.data }], guard := none }).run Try.prog W = .ok (.value (.bool false)) W := by
            intro ps ev h0 h1 W hSw
            rw [hS] at hSw
            try dsimp only at hSw
            first | (go_simp; done) | (go_simp; with_reducible rfl)
          have y3 : ∀ {ps : String} (ev : Operand → Value), ev (.tmp 18) = .bool false → ∀ W, S W → (execOp ev { dst := some 19, op := Go.Op.move (Go.Operand.tmp 18), type := 4, pos := ps, after := #[{ on := 2, ground := Go.Ground.data }], guard := none }).run Try.prog W = .ok (.value (.bool false)) W := by
            intro ps ev h0 W hSw
            rw [hS] at hSw
            try dsimp only at hSw
            first | (go_simp; done) | (go_simp; with_reducible rfl)
          have y4 : ∀ {ps : String} (ev : Operand → Value), ev (.tmp 5) = .slice (some ⟨fb, fo, none⟩) p fc → ∀ W, S W → (execOp ev { dst := some 20, op := Go.Op.move (Go.Operand.tmp 5), type := 44, pos := ps, after := #[{ on := 3, ground := Go.Ground.guard }], guard := some (3, false) }).run Try.prog W = .ok (.value (.slice (some ⟨fb, fo, none⟩) p fc)) W := by
            intro ps ev h0 W hSw
            rw [hS] at hSw
            try dsimp only at hSw
            first | (go_simp; done) | (go_simp; with_reducible rfl)
          have y5 : ∀ {ps : String} (ev : Operand → Value), ev (.tmp 20) = .slice (some ⟨fb, fo, none⟩) p fc → ∀ W, S W → (execOp ev { dst := some 21, op := Go.Op.call { callee := Go.Callee.builtin Go.Builtin.len, args := #[Go.Operand.tmp 20], argTypes := #[44] }, type := 3, pos := ps, after := #[{ on := 4, ground := Go.Ground.data }, { on := 3, ground := Go.Ground.guard }], guard := some (3, false) }).run Try.prog W = .ok (.value (.int .i64 (p : Int))) W := by
            intro ps ev h0 W hSw
            rw [hS] at hSw
            try dsimp only at hSw
            first | (go_simp; done) | (go_simp; with_reducible rfl)
          have y6 : ∀ {ps : String} (ev : Operand → Value), ev (.tmp 21) = .int .i64 (p : Int) → ev (.const (Go.Value.int Go.IntKind.i64 0)) = (Go.Value.int Go.IntKind.i64 0) → ∀ W, S W → (execOp ev { dst := some 22, op := Go.Op.binOp Go.BinOp.gtr 3 (Go.Operand.tmp 21) (Go.Operand.const (Go.Value.int Go.IntKind.i64 0)) 3, type := 4, pos := ps, after := #[{ on := 5, ground := Go.Ground.data }, { on := 3, ground := Go.Ground.guard }], guard := some (3, false) }).run Try.prog W = .ok (.value (.bool true)) W := by
            intro ps ev h0 h1 W hSw
            rw [hS] at hSw
            try dsimp only at hSw
            first | (go_simp; done) | (go_simp; with_reducible rfl)
          have y7 : ∀ {ps : String} (ev : Operand → Value), ev (.tmp 22) = .bool true → ∀ W, S W → (execOp ev { dst := some 23, op := Go.Op.move (Go.Operand.tmp 22), type := 4, pos := ps, after := #[{ on := 6, ground := Go.Ground.data }, { on := 3, ground := Go.Ground.chain }, { on := 3, ground := Go.Ground.guard }], guard := some (3, false) }).run Try.prog W = .ok (.value (.bool true)) W := by
            intro ps ev h0 W hSw
            rw [hS] at hSw
            try dsimp only at hSw
            first | (go_simp; done) | (go_simp; with_reducible rfl)
          have y8 : ∀ {ps : String} (ev : Operand → Value), ev (.tmp 5) = .slice (some ⟨fb, fo, none⟩) p fc → ∀ W, S W → (execOp ev { dst := some 24, op := Go.Op.move (Go.Operand.tmp 5), type := 44, pos := ps, after := #[{ on := 7, ground := Go.Ground.guard }], guard := some (7, true) }).run Try.prog W = .ok (.value (.slice (some ⟨fb, fo, none⟩) p fc)) W := by
            intro ps ev h0 W hSw
            rw [hS] at hSw
            try dsimp only at hSw
            first | (go_simp; done) | (go_simp; with_reducible rfl)
          have y9 : ∀ {ps : String} (ev : Operand → Value), ev (.tmp 24) = .slice (some ⟨fb, fo, none⟩) p fc → ev (.const (Go.Value.int Go.IntKind.i64 0)) = (Go.Value.int Go.IntKind.i64 0) → ∀ W, S W → (execOp ev { dst := some 25, op := Go.Op.indexAddr 44 (Go.Operand.tmp 24) (Go.Operand.const (Go.Value.int Go.IntKind.i64 0)), type := 0, pos := ps, after := #[{ on := 8, ground := Go.Ground.data }, { on := 7, ground := Go.Ground.guard }], guard := some (7, true) }).run Try.prog W = .ok (.value (.pointer (some ⟨fb, fo, none⟩))) W := by
            intro ps ev h0 h1 W hSw
            rw [hS] at hSw
            try dsimp only at hSw
            first | (go_simp; done) | (go_simp; with_reducible rfl)
          have y10 : ∀ {ps : String} (ev : Operand → Value), ev (.tmp 25) = .pointer (some ⟨fb, fo, none⟩) → ∀ W, S W → (execOp ev { dst := some 26, op := Go.Op.fieldAddr 53 (Go.Operand.tmp 25) 0, type := 0, pos := ps, after := #[{ on := 9, ground := Go.Ground.data }, { on := 7, ground := Go.Ground.guard }], guard := some (7, true) }).run Try.prog W = .ok (.value (.pointer (some ⟨fb, fo, none⟩))) W := by
            intro ps ev h0 W hSw
            rw [hS] at hSw
            try dsimp only at hSw
            first | (go_simp; done) | (go_simp; with_reducible rfl)
          have y11 : ∀ {ps : String} (ev : Operand → Value), ev (.tmp 26) = .pointer (some ⟨fb, fo, none⟩) → ∀ W, S W → (execOp ev { dst := some 27, op := Go.Op.load 3 (Go.Operand.tmp 26), type := 3, pos := ps, after := #[{ on := 10, ground := Go.Ground.data }, { on := 7, ground := Go.Ground.guard }], guard := some (7, true) }).run Try.prog W = .ok (.value (.int .i64 y.f)) W := by
            intro ps ev h0 W hSw
            rw [hS] at hSw
            try dsimp only at hSw
            first | (go_simp; done) | (go_simp; with_reducible rfl)
          have y12 : ∀ {ps : String} (ev : Operand → Value), ev (.tmp 4) = .slice (some ⟨nb, no, none⟩) m nc → ∀ W, S W → (execOp ev { dst := some 28, op := Go.Op.move (Go.Operand.tmp 4), type := 44, pos := ps, after := #[{ on := 7, ground := Go.Ground.guard }], guard := some (7, true) }).run Try.prog W = .ok (.value (.slice (some ⟨nb, no, none⟩) m nc)) W := by
            intro ps ev h0 W hSw
            rw [hS] at hSw
            try dsimp only at hSw
            first | (go_simp; done) | (go_simp; with_reducible rfl)
          have y13 : ∀ {ps : String} (ev : Operand → Value), ev (.tmp 28) = .slice (some ⟨nb, no, none⟩) m nc → ev (.const (Go.Value.int Go.IntKind.i64 0)) = (Go.Value.int Go.IntKind.i64 0) → ∀ W, S W → (execOp ev { dst := some 29, op := Go.Op.indexAddr 44 (Go.Operand.tmp 28) (Go.Operand.const (Go.Value.int Go.IntKind.i64 0)), type := 0, pos := ps, after := #[{ on := 12, ground := Go.Ground.data }, { on := 7, ground := Go.Ground.guard }], guard := some (7, true) }).run Try.prog W = .ok (.value (.pointer (some ⟨nb, no, none⟩))) W := by
            intro ps ev h0 h1 W hSw
            rw [hS] at hSw
            try dsimp only at hSw
            first | (go_simp; done) | (go_simp; with_reducible rfl)
          have y14 : ∀ {ps : String} (ev : Operand → Value), ev (.tmp 29) = .pointer (some ⟨nb, no, none⟩) → ∀ W, S W → (execOp ev { dst := some 30, op := Go.Op.fieldAddr 53 (Go.Operand.tmp 29) 0, type := 0, pos := ps, after := #[{ on := 13, ground := Go.Ground.data }, { on := 7, ground := Go.Ground.guard }], guard := some (7, true) }).run Try.prog W = .ok (.value (.pointer (some ⟨nb, no, none⟩))) W := by
            intro ps ev h0 W hSw
            rw [hS] at hSw
            try dsimp only at hSw
            first | (go_simp; done) | (go_simp; with_reducible rfl)
          have y15 : ∀ {ps : String} (ev : Operand → Value), ev (.tmp 30) = .pointer (some ⟨nb, no, none⟩) → ∀ W, S W → (execOp ev { dst := some 31, op := Go.Op.load 3 (Go.Operand.tmp 30), type := 3, pos := ps, after := #[{ on := 14, ground := Go.Ground.data }, { on := 7, ground := Go.Ground.guard }], guard := some (7, true) }).run Try.prog W = .ok (.value (.int .i64 x.f)) W := by
            intro ps ev h0 W hSw
            rw [hS] at hSw
            try dsimp only at hSw
            first | (go_simp; done) | (go_simp; with_reducible rfl)
          have y16 : ∀ {ps : String} (ev : Operand → Value), ev (.tmp 27) = .int .i64 y.f → ev (.tmp 31) = .int .i64 x.f → ∀ W, S W → (execOp ev { dst := some 32, op := Go.Op.binOp Go.BinOp.lss 3 (Go.Operand.tmp 27) (Go.Operand.tmp 31) 3, type := 4, pos := ps, after := #[{ on := 11, ground := Go.Ground.data }, { on := 15, ground := Go.Ground.data }, { on := 7, ground := Go.Ground.guard }], guard := some (7, true) }).run Try.prog W = .ok (.value (.bool true)) W := by
            intro ps ev h0 h1 W hSw
            rw [hS] at hSw
            try dsimp only at hSw
            first | (go_simp; done) | (go_simp; with_reducible rfl)
          have y17 : ∀ {ps : String} (ev : Operand → Value), ev (.tmp 23) = .bool true → ev (.tmp 32) = .bool true → ev (.const (Go.Value.bool false)) = (Go.Value.bool false) → ∀ W, S W → (execOp ev { dst := some 33, op := Go.Op.pick (Go.Operand.tmp 23) (Go.Operand.tmp 32) (Go.Operand.const (Go.Value.bool false)), type := 4, pos := ps, after := #[{ on := 7, ground := Go.Ground.data }, { on := 16, ground := Go.Ground.data }, { on := 3, ground := Go.Ground.guard }], guard := some (3, false) }).run Try.prog W = .ok (.value (.bool true)) W := by
            intro ps ev h0 h1 h2 W hSw
            rw [hS] at hSw
            try dsimp only at hSw
            first | (go_simp; done) | (go_simp; with_reducible rfl)
          have y18 : ∀ {ps : String} (ev : Operand → Value), ev (.tmp 19) = .bool false → ev (.const (Go.Value.bool true)) = (Go.Value.bool true) → ev (.tmp 33) = .bool true → ∀ W, S W → (execOp ev { dst := some 34, op := Go.Op.pick (Go.Operand.tmp 19) (Go.Operand.const (Go.Value.bool true)) (Go.Operand.tmp 33), type := 4, pos := ps, after := #[{ on := 3, ground := Go.Ground.data }, { on := 17, ground := Go.Ground.data }], guard := none }).run Try.prog W = .ok (.value (.bool true)) W := by
            intro ps ev h0 h1 h2 W hSw
            rw [hS] at hSw
            try dsimp only at hSw
            first | (go_simp; done) | (go_simp; with_reducible rfl)
          refine wpIn_wide_class (fun W' => S W' ∧ (Below 0 wr W' ∧ W'.heap = wr.heap)) (by kernel_rfl) (by kernel_rfl) (by kernel_rfl) ?hC ?_
          case hC => exact ⟨by rw [hS]; exact ⟨cf0, cn0⟩, Below.drew (Below.refl _ _), rfl⟩
          refine qs_val (by kernel_rfl) (fun W hW => y0 _ rfl W hW.1) ?_
          try simp only [Act.put, List.setIfInBounds_toArray, List.set_cons_zero, List.set_cons_succ]
          refine qs_val (by kernel_rfl) (fun W hW => y1 _ rfl W hW.1) ?_
          try simp only [Act.put, List.setIfInBounds_toArray, List.set_cons_zero, List.set_cons_succ]
          refine qs_val (by kernel_rfl) (fun W hW => y2 _ rfl rfl W hW.1) ?_
          try simp only [Act.put, List.setIfInBounds_toArray, List.set_cons_zero, List.set_cons_succ]
          refine qs_val (by kernel_rfl) (fun W hW => y3 _ rfl W hW.1) ?_
          try simp only [Act.put, List.setIfInBounds_toArray, List.set_cons_zero, List.set_cons_succ]
          refine qs_val (by kernel_rfl) (fun W hW => y4 _ rfl W hW.1) ?_
          try simp only [Act.put, List.setIfInBounds_toArray, List.set_cons_zero, List.set_cons_succ]
          refine qs_val (by kernel_rfl) (fun W hW => y5 _ rfl W hW.1) ?_
          try simp only [Act.put, List.setIfInBounds_toArray, List.set_cons_zero, List.set_cons_succ]
          refine qs_val (by kernel_rfl) (fun W hW => y6 _ rfl rfl W hW.1) ?_
          try simp only [Act.put, List.setIfInBounds_toArray, List.set_cons_zero, List.set_cons_succ]
          refine qs_val (by kernel_rfl) (fun W hW => y7 _ rfl W hW.1) ?_
          try simp only [Act.put, List.setIfInBounds_toArray, List.set_cons_zero, List.set_cons_succ]
          refine qs_val (by kernel_rfl) (fun W hW => y8 _ rfl W hW.1) ?_
          try simp only [Act.put, List.setIfInBounds_toArray, List.set_cons_zero, List.set_cons_succ]
          refine qs_val (by kernel_rfl) (fun W hW => y9 _ rfl rfl W hW.1) ?_
          try simp only [Act.put, List.setIfInBounds_toArray, List.set_cons_zero, List.set_cons_succ]
          refine qs_val (by kernel_rfl) (fun W hW => y10 _ rfl W hW.1) ?_
          try simp only [Act.put, List.setIfInBounds_toArray, List.set_cons_zero, List.set_cons_succ]
          refine qs_val (by kernel_rfl) (fun W hW => y11 _ rfl W hW.1) ?_
          try simp only [Act.put, List.setIfInBounds_toArray, List.set_cons_zero, List.set_cons_succ]
          refine qs_val (by kernel_rfl) (fun W hW => y12 _ rfl W hW.1) ?_
          try simp only [Act.put, List.setIfInBounds_toArray, List.set_cons_zero, List.set_cons_succ]
          refine qs_val (by kernel_rfl) (fun W hW => y13 _ rfl rfl W hW.1) ?_
          try simp only [Act.put, List.setIfInBounds_toArray, List.set_cons_zero, List.set_cons_succ]
          refine qs_val (by kernel_rfl) (fun W hW => y14 _ rfl W hW.1) ?_
          try simp only [Act.put, List.setIfInBounds_toArray, List.set_cons_zero, List.set_cons_succ]
          refine qs_val (by kernel_rfl) (fun W hW => y15 _ rfl W hW.1) ?_
          try simp only [Act.put, List.setIfInBounds_toArray, List.set_cons_zero, List.set_cons_succ]
          refine qs_val (by kernel_rfl) (fun W hW => y16 _ rfl rfl W hW.1) ?_
          try simp only [Act.put, List.setIfInBounds_toArray, List.set_cons_zero, List.set_cons_succ]
          refine qs_val (by kernel_rfl) (fun W hW => y17 _ rfl rfl rfl W hW.1) ?_
          try simp only [Act.put, List.setIfInBounds_toArray, List.set_cons_zero, List.set_cons_succ]
          refine qs_val (by kernel_rfl) (fun W hW => y18 _ rfl rfl rfl W hW.1) ?_
          try simp only [Act.put, List.setIfInBounds_toArray, List.set_cons_zero, List.set_cons_succ]
          refine qs_nil ?_
          intro W2 hC2
          have d0 : W2.cell? ⟨fb, fo, none⟩ = some (.int .i64 y.f) := by rw [World.cell?_of_block (w := wr) (by rw [hC2.2.2])]; exact cf0
          have d1 : W2.cell? ⟨fb, fo + 1, none⟩ = some (.slice y.a y.bs.length y.c) := by rw [World.cell?_of_block (w := wr) (by rw [hC2.2.2])]; exact cf1
          have HC : Hid (Below 0 wr W2 ∧ W2.heap = wr.heap) := hC2.2
          obtain ⟨fn, tmps, assign, body, hy, hR⟩ := HY.out pre y Z W2 (HJ0.out _ _ _ _ HJ1.out (apart_same HC.out.1 HC.out.2)) (by rw [HC.out.2]; exact HK.out.2.1) (by rw [HC.out.2]; exact HK.out.1) (by rw [HTT.out]; exact List.prefix_append _ _)
          have hsl := fun W => slE_l (some ⟨fb, fo, none⟩) p fc 1 1 rfl (by omega) W
          clear hC2 hS y0 y1 y2 y3 y4 y5 y6 y7 y8 y9 y10 y11 y12 y13 y14 y15 y16 y17 y18 cf0 cf1 cn0 cn1
          gi_wp2
          refine ⟨fun h => by simp [Fence.wide] at h, hR.mono ?_⟩
          rintro e W3 ⟨Z', hM, (⟨rfl, hJ3⟩ | ⟨rfl, hJx3⟩)⟩
          · have HN : Hid (BothAt w0 W W3 A B T J (cutE (some ⟨fb, fo, none⟩) fc 1) (p - 1) (fc - 1) (some ⟨nb, no, none⟩) m nc r (x :: l) (pre ++ [y])) := by
              obtain ⟨hz, hsz, hk⟩ := HK.out
              have h1 := hM.flat.size
              rw [HC.out.2] at h1
              have hl1 := HI.out.pl
              simp at hl1
              have hc1 := HI.out.pc
              refine ⟨by omega, HI.out.ml, by omega, HI.out.mc, HI.out.fe.tail (by omega), HI.out.ne, fun k hk => HI.out.fR k (lies_cut hk), HI.out.nR, HTT.out, Z', hJ3, fun k hk' => ⟨?_, hM.lt k hk'⟩, by omega, fun k hkl hk' => ?_⟩
              · rcases hM.new k hk' with h | h
                · exact (hz k h).1
                · rw [HC.out.2] at h; omega
              · have hk0 := hw1.out.size
                have := (hM.same k (by rw [HC.out.2]; omega) (.inl ⟨hk', hkl⟩) (fun h => by have := (hz k h).1; omega))
                rw [HC.out.2] at this
                exact this.trans (hk k hkl hk')
            clear hM hJ3 HK d0 d1
            gi_wp2
            go_roundw
            case rel => exact ⟨_, _, _, _, _, _, rfl, rfl, by omega, by omega, _, _, _, HN.out⟩
            case measure => simp [slLen]; omega
          · clear hM
            gi_wp2
            refine bodyPost_ret (results_none rfl _ _ _) rfl ?_
            exact ⟨⟨_, rfl⟩, .inr ⟨_, Z', by rw [HTT.out]; exact List.prefix_append _ _, hJx3⟩⟩
        · skip
          obtain ⟨fb, fo, hfa, hf0, hf1⟩ := hI.fe.head
          subst hfa
          have hfb := (hI.fR fb ⟨_, _, rfl⟩)
          have hp0 : 0 < p := by have := hI.pl; simp at this; omega
          obtain ⟨nb, no, hna, hn0, hn1⟩ := hI.ne.head
          subst hna
          have hnb := (hI.nR nb ⟨_, _, rfl⟩)
          have hm0 : 0 < m := by have := hI.ml; simp at this; omega
          obtain ⟨Z, hj, hz, hsz, hk⟩ := hI.zz
          have hbf : wr.heap[fb]? = w0.heap[fb]? := (hk fb (lt_of_cell hf0) hfb).trans (hw1.out.block fb (lt_of_cell hf0))
          have cf0 : wr.cell? ⟨fb, fo, none⟩ = some (.int .i64 y.f) := (World.cell?_of_block (w := w0) hbf).trans hf0
          have cf1 : wr.cell? ⟨fb, fo + 1, none⟩ = some (.slice y.a y.bs.length y.c) := (World.cell?_of_block (w := w0) hbf).trans hf1
          have hp1 : ¬ (p = 0) := by omega
          have hp2 : ¬ ((p : Int) = 0) := by omega
          have hp3 : (0 : Int) < (p : Int) := by omega
          have hbn : wr.heap[nb]? = w0.heap[nb]? := (hk nb (lt_of_cell hn0) hnb).trans (hw1.out.block nb (lt_of_cell hn0))
          have cn0 : wr.cell? ⟨nb, no, none⟩ = some (.int .i64 x.f) := (World.cell?_of_block (w := w0) hbn).trans hn0
          have cn1 : wr.cell? ⟨nb, no + 1, none⟩ = some (.slice x.a x.bs.length x.c) := (World.cell?_of_block (w := w0) hbn).trans hn1
          have hm1 : ¬ (m = 0) := by omega
          have hm2 : ¬ ((m : Int) = 0) := by omega
          have hm3 : (0 : Int) < (m : Int) := by omega
          have HI : Hid (BothAt _ _ _ _ _ _ _ _ _ _ _ _ _ _ _ _) := hI
          have hTT : T = (pre ++ [x]) ++ bothE (m - 1 + p) l (y :: r) := by rw [hI.tt, both_d hI.ml hI.pl hlt, List.append_assoc]; rfl
          have HTT : Hid (_ = _) := hTT
          have HK : Hid ((∀ k, Z k → W.heap.size ≤ k ∧ k < wr.heap.size) ∧ W.heap.size ≤ wr.heap.size ∧ (∀ k, k < w0.heap.size → (lies A k ∨ lies B k) → wr.heap[k]? = W.heap[k]?)) := ⟨hz, hsz, hk⟩
          have HJ1 : Hid (J pre Z wr) := hj
          clear hI hz hsz hk hj hTT hf0 hf1 hbf hfb hn0 hn1 hbn hnb
          gi_wp2
          obtain ⟨S, hS⟩ : ∃ S : World → Prop, S = fun W' => W'.cell? ⟨fb, fo, none⟩ = some (.int .i64 y.f) ∧ W'.cell? ⟨nb, no, none⟩ = some (.int .i64 x.f) := ⟨_, rfl⟩
          have y0 : ∀ {ps : String} (ev : Operand → Value), ev (.tmp 4) = .slice (some ⟨nb, no, none⟩) m nc → ∀ W, S W → (execOp ev { dst := some 16, op := Go.Op.move (Go.Operand.tmp 4), type := 44, pos := ps, after := #[], guard := none }).run Try.prog W = .ok (.value (.slice (some ⟨nb, no, none⟩) m nc)) W := by
            intro ps ev h0 W hSw
            rw [hS] at hSw
            try dsimp only at hSw
            first | (go_simp; done) | (go_simp; with_reducible rfl)
          have y1 : ∀ {ps : String} (ev : Operand → Value), ev (.tmp 16) = .slice (some ⟨nb, no, none⟩) m nc → ∀ W, S W → (execOp ev { dst := some 17, op := Go.Op.call { callee := Go.Callee.builtin Go.Builtin.len, args := #[Go.Operand.tmp 16], argTypes := #[44] }, type := 3, pos := ps, after := #[{ on := 0, ground := Go.Ground.data }], guard := none }).run Try.prog W = .ok (.value (.int .i64 (m : Int))) W := by
            intro ps ev h0 W hSw
            rw [hS] at hSw
            try dsimp only at hSw
            first | (go_simp; done) | (go_simp; with_reducible rfl)
          have y2 : ∀ {ps : String} (ev : Operand → Value), ev (.tmp 17) = .int .i64 (m : Int) → ev (.const (Go.Value.int Go.IntKind.i64 0)) = (Go.Value.int Go.IntKind.i64 0) → ∀ W, S W → (execOp ev { dst := some 18, op := Go.Op.binOp Go.BinOp.eql 3 (Go.Operand.tmp 17) (Go.Operand.const (Go.Value.int Go.IntKind.i64 0)) 3, type := 4, pos := ps, after := #[{ on := 1, ground := Go.Ground.data }], guard := none }).run Try.prog W = .ok (.value (.bool false)) W := by
            intro ps ev h0 h1 W hSw
            rw [hS] at hSw
            try dsimp only at hSw
            first | (go_simp; done) | (go_simp; with_reducible rfl)
          have y3 : ∀ {ps : String} (ev : Operand → Value), ev (.tmp 18) = .bool false → ∀ W, S W → (execOp ev { dst := some 19, op := Go.Op.move (Go.Operand.tmp 18), type := 4, pos := ps, after := #[{ on := 2, ground := Go.Ground.data }], guard := none }).run Try.prog W = .ok (.value (.bool false)) W := by
            intro ps ev h0 W hSw
            rw [hS] at hSw
            try dsimp only at hSw
            first | (go_simp; done) | (go_simp; with_reducible rfl)
          have y4 : ∀ {ps : String} (ev : Operand → Value), ev (.tmp 5) = .slice (some ⟨fb, fo, none⟩) p fc → ∀ W, S W → (execOp ev { dst := some 20, op := Go.Op.move (Go.Operand.tmp 5), type := 44, pos := ps, after := #[{ on := 3, ground := Go.Ground.guard }], guard := some (3, false) }).run Try.prog W = .ok (.value (.slice (some ⟨fb, fo, none⟩) p fc)) W := by
            intro ps ev h0 W hSw
            rw [hS] at hSw
            try dsimp only at hSw
            first | (go_simp; done) | (go_simp; with_reducible rfl)
          have y5 : ∀ {ps : String} (ev : Operand → Value), ev (.tmp 20) = .slice (some ⟨fb, fo, none⟩) p fc → ∀ W, S W → (execOp ev { dst := some 21, op := Go.Op.call { callee := Go.Callee.builtin Go.Builtin.len, args := #[Go.Operand.tmp 20], argTypes := #[44] }, type := 3, pos := ps, after := #[{ on := 4, ground := Go.Ground.data }, { on := 3, ground := Go.Ground.guard }], guard := some (3, false) }).run Try.prog W = .ok (.value (.int .i64 (p : Int))) W := by
            intro ps ev h0 W hSw
            rw [hS] at hSw
            try dsimp only at hSw
            first | (go_simp; done) | (go_simp; with_reducible rfl)
          have y6 : ∀ {ps : String} (ev : Operand → Value), ev (.tmp 21) = .int .i64 (p : Int) → ev (.const (Go.Value.int Go.IntKind.i64 0)) = (Go.Value.int Go.IntKind.i64 0) → ∀ W, S W → (execOp ev { dst := some 22, op := Go.Op.binOp Go.BinOp.gtr 3 (Go.Operand.tmp 21) (Go.Operand.const (Go.Value.int Go.IntKind.i64 0)) 3, type := 4, pos := ps, after := #[{ on := 5, ground := Go.Ground.data }, { on := 3, ground := Go.Ground.guard }], guard := some (3, false) }).run Try.prog W = .ok (.value (.bool true)) W := by
            intro ps ev h0 h1 W hSw
            rw [hS] at hSw
            try dsimp only at hSw
            first | (go_simp; done) | (go_simp; with_reducible rfl)
          have y7 : ∀ {ps : String} (ev : Operand → Value), ev (.tmp 22) = .bool true → ∀ W, S W → (execOp ev { dst := some 23, op := Go.Op.move (Go.Operand.tmp 22), type := 4, pos := ps, after := #[{ on := 6, ground := Go.Ground.data }, { on := 3, ground := Go.Ground.chain }, { on := 3, ground := Go.Ground.guard }], guard := some (3, false) }).run Try.prog W = .ok (.value (.bool true)) W := by
            intro ps ev h0 W hSw
            rw [hS] at hSw
            try dsimp only at hSw
            first | (go_simp; done) | (go_simp; with_reducible rfl)
          have y8 : ∀ {ps : String} (ev : Operand → Value), ev (.tmp 5) = .slice (some ⟨fb, fo, none⟩) p fc → ∀ W, S W → (execOp ev { dst := some 24, op := Go.Op.move (Go.Operand.tmp 5), type := 44, pos := ps, after := #[{ on := 7, ground := Go.Ground.guard }], guard := some (7, true) }).run Try.prog W = .ok (.value (.slice (some ⟨fb, fo, none⟩) p fc)) W := by
            intro ps ev h0 W hSw
            rw [hS] at hSw
            try dsimp only at hSw
            first | (go_simp; done) | (go_simp; with_reducible rfl)
          have y9 : ∀ {ps : String} (ev : Operand → Value), ev (.tmp 24) = .slice (some ⟨fb, fo, none⟩) p fc → ev (.const (Go.Value.int Go.IntKind.i64 0)) = (Go.Value.int Go.IntKind.i64 0) → ∀ W, S W → (execOp ev { dst := some 25, op := Go.Op.indexAddr 44 (Go.Operand.tmp 24) (Go.Operand.const (Go.Value.int Go.IntKind.i64 0)), type := 0, pos := ps, after := #[{ on := 8, ground := Go.Ground.data }, { on := 7, ground := Go.Ground.guard }], guard := some (7, true) }).run Try.prog W = .ok (.value (.pointer (some ⟨fb, fo, none⟩))) W := by
            intro ps ev h0 h1 W hSw
            rw [hS] at hSw
            try dsimp only at hSw
            first | (go_simp; done) | (go_simp; with_reducible rfl)
          have y10 : ∀ {ps : String} (ev : Operand → Value), ev (.tmp 25) = .pointer (some ⟨fb, fo, none⟩) → ∀ W, S W → (execOp ev { dst := some 26, op := Go.Op.fieldAddr 53 (Go.Operand.tmp 25) 0, type := 0, pos := ps, after := #[{ on := 9, ground := Go.Ground.data }, { on := 7, ground := Go.Ground.guard }], guard := some (7, true) }).run Try.prog W = .ok (.value (.pointer (some ⟨fb, fo, none⟩))) W := by
            intro ps ev h0 W hSw
            rw [hS] at hSw
            try dsimp only at hSw
            first | (go_simp; done) | (go_simp; with_reducible rfl)
          have y11 : ∀ {ps : String} (ev : Operand → Value), ev (.tmp 26) = .pointer (some ⟨fb, fo, none⟩) → ∀ W, S W → (execOp ev { dst := some 27, op := Go.Op.load 3 (Go.Operand.tmp 26), type := 3, pos := ps, after := #[{ on := 10, ground := Go.Ground.data }, { on := 7, ground := Go.Ground.guard }], guard := some (7, true) }).run Try.prog W = .ok (.value (.int .i64 y.f)) W := by
            intro ps ev h0 W hSw
            rw [hS] at hSw
            try dsimp only at hSw
            first | (go_simp; done) | (go_simp; with_reducible rfl)
          have y12 : ∀ {ps : String} (ev : Operand → Value), ev (.tmp 4) = .slice (some ⟨nb, no, none⟩) m nc → ∀ W, S W → (execOp ev { dst := some 28, op := Go.Op.move (Go.Operand.tmp 4), type := 44, pos := ps, after := #[{ on := 7, ground := Go.Ground.guard }], guard := some (7, true) }).run Try.prog W = .ok (.value (.slice (some ⟨nb, no, none⟩) m nc)) W := by
            intro ps ev h0 W hSw
            rw [hS] at hSw
            try dsimp only at hSw
            first | (go_simp; done) | (go_simp; with_reducible rfl)
          have y13 : ∀ {ps : String} (ev : Operand → Value), ev (.tmp 28) = .slice (some ⟨nb, no, none⟩) m nc → ev (.const (Go.Value.int Go.IntKind.i64 0)) = (Go.Value.int Go.IntKind.i64 0) → ∀ W, S W → (execOp ev { dst := some 29, op := Go.Op.indexAddr 44 (Go.Operand.tmp 28) (Go.Operand.const (Go.Value.int Go.IntKind.i64 0)), type := 0, pos := ps, after := #[{ on := 12, ground := Go.Ground.data }, { on := 7, ground := Go.Ground.guard }], guard := some (7, true) }).run Try.prog W = .ok (.value (.pointer (some ⟨nb, no, none⟩))) W := by
            intro ps ev h0 h1 W hSw
            rw [hS] at hSw
            try dsimp only at hSw
            first | (go_simp; done) | (go_simp; with_reducible rfl)
          have y14 : ∀ {ps : String} (ev : Operand → Value), ev (.tmp 29) = .pointer (some ⟨nb, no, none⟩) → ∀ W, S W → (execOp ev { dst := some 30, op := Go.Op.fieldAddr 53 (Go.Operand.tmp 29) 0, type := 0, pos := ps, after := #[{ on := 13, ground := Go.Ground.data }, { on := 7, ground := Go.Ground.guard }], guard := some (7, true) }).run Try.prog W = .ok (.value (.pointer (some ⟨nb, no, none⟩))) W := by
            intro ps ev h0 W hSw
            rw [hS] at hSw
            try dsimp only at hSw
            first | (go_simp; done) | (go_simp; with_reducible rfl)
          have y15 : ∀ {ps : String} (ev : Operand → Value), ev (.tmp 30) = .pointer (some ⟨nb, no, none⟩) → ∀ W, S W → (execOp ev { dst := some 31, op := Go.Op.load 3 (Go.Operand.tmp 30), type := 3, pos := ps, after := #[{ on := 14, ground := Go.Ground.data }, { on := 7, ground := Go.Ground.guard }], guard := some (7, true) }).run Try.prog W = .ok (.value (.int .i64 x.f)) W := by
            intro ps ev h0 W hSw
            rw [hS] at hSw
            try dsimp only at hSw
            first | (go_simp; done) | (go_simp; with_reducible rfl)
          have y16 : ∀ {ps : String} (ev : Operand → Value), ev (.tmp 27) = .int .i64 y.f → ev (.tmp 31) = .int .i64 x.f → ∀ W, S W → (execOp ev { dst := some 32, op := Go.Op.binOp Go.BinOp.lss 3 (Go.Operand.tmp 27) (Go.Operand.tmp 31) 3, type := 4, pos := ps, after := #[{ on := 11, ground := Go.Ground.data }, { on := 15, ground := Go.Ground.data }, { on := 7, ground := Go.Ground.guard }], guard := some (7, true) }).run Try.prog W = .ok (.value (.bool false)) W := by
            intro ps ev h0 h1 W hSw
            rw [hS] at hSw
            try dsimp only at hSw
            first | (go_simp; done) | (go_simp; with_reducible rfl)
          have y17 : ∀ {ps : String} (ev : Operand → Value), ev (.tmp 23) = .bool true → ev (.tmp 32) = .bool false → ev (.const (Go.Value.bool false)) = (Go.Value.bool false) → ∀ W, S W → (execOp ev { dst := some 33, op := Go.Op.pick (Go.Operand.tmp 23) (Go.Operand.tmp 32) (Go.Operand.const (Go.Value.bool false)), type := 4, pos := ps, after := #[{ on := 7, ground := Go.Ground.data }, { on := 16, ground := Go.Ground.data }, { on := 3, ground := Go.Ground.guard }], guard := some (3, false) }).run Try.prog W = .ok (.value (.bool false)) W := by
            intro ps ev h0 h1 h2 W hSw
            rw [hS] at hSw
            try dsimp only at hSw
            first | (go_simp; done) | (go_simp; with_reducible rfl)
          have y18 : ∀ {ps : String} (ev : Operand → Value), ev (.tmp 19) = .bool false → ev (.const (Go.Value.bool true)) = (Go.Value.bool true) → ev (.tmp 33) = .bool false → ∀ W, S W → (execOp ev { dst := some 34, op := Go.Op.pick (Go.Operand.tmp 19) (Go.Operand.const (Go.Value.bool true)) (Go.Operand.tmp 33), type := 4, pos := ps, after := #[{ on := 3, ground := Go.Ground.data }, { on := 17, ground := Go.Ground.data }], guard := none }).run Try.prog W = .ok (.value (.bool false)) W := by
            intro ps ev h0 h1 h2 W hSw
            rw [hS] at hSw
            try dsimp only at hSw
            first | (go_simp; done) | (go_simp; with_reducible rfl)
          refine wpIn_wide_class (fun W' => S W' ∧ (Below 0 wr W' ∧ W'.heap = wr.heap)) (by kernel_rfl) (by kernel_rfl) (by kernel_rfl) ?hC ?_
          case hC => exact ⟨by rw [hS]; exact ⟨cf0, cn0⟩, Below.drew (Below.refl _ _), rfl⟩
          refine qs_val (by kernel_rfl) (fun W hW => y0 _ rfl W hW.1) ?_
          try simp only [Act.put, List.setIfInBounds_toArray, List.set_cons_zero, List.set_cons_succ]
          refine qs_val (by kernel_rfl) (fun W hW => y1 _ rfl W hW.1) ?_
          try simp only [Act.put, List.setIfInBounds_toArray, List.set_cons_zero, List.set_cons_succ]
          refine qs_val (by kernel_rfl) (fun W hW => y2 _ rfl rfl W hW.1) ?_
          try simp only [Act.put, List.setIfInBounds_toArray, List.set_cons_zero, List.set_cons_succ]
          refine qs_val (by kernel_rfl) (fun W hW => y3 _ rfl W hW.1) ?_
          try simp only [Act.put, List.setIfInBounds_toArray, List.set_cons_zero, List.set_cons_succ]
          refine qs_val (by kernel_rfl) (fun W hW => y4 _ rfl W hW.1) ?_
          try simp only [Act.put, List.setIfInBounds_toArray, List.set_cons_zero, List.set_cons_succ]
          refine qs_val (by kernel_rfl) (fun W hW => y5 _ rfl W hW.1) ?_
          try simp only [Act.put, List.setIfInBounds_toArray, List.set_cons_zero, List.set_cons_succ]
          refine qs_val (by kernel_rfl) (fun W hW => y6 _ rfl rfl W hW.1) ?_
          try simp only [Act.put, List.setIfInBounds_toArray, List.set_cons_zero, List.set_cons_succ]
          refine qs_val (by kernel_rfl) (fun W hW => y7 _ rfl W hW.1) ?_
          try simp only [Act.put, List.setIfInBounds_toArray, List.set_cons_zero, List.set_cons_succ]
          refine qs_val (by kernel_rfl) (fun W hW => y8 _ rfl W hW.1) ?_
          try simp only [Act.put, List.setIfInBounds_toArray, List.set_cons_zero, List.set_cons_succ]
          refine qs_val (by kernel_rfl) (fun W hW => y9 _ rfl rfl W hW.1) ?_
          try simp only [Act.put, List.setIfInBounds_toArray, List.set_cons_zero, List.set_cons_succ]
          refine qs_val (by kernel_rfl) (fun W hW => y10 _ rfl W hW.1) ?_
          try simp only [Act.put, List.setIfInBounds_toArray, List.set_cons_zero, List.set_cons_succ]
          refine qs_val (by kernel_rfl) (fun W hW => y11 _ rfl W hW.1) ?_
          try simp only [Act.put, List.setIfInBounds_toArray, List.set_cons_zero, List.set_cons_succ]
          refine qs_val (by kernel_rfl) (fun W hW => y12 _ rfl W hW.1) ?_
          try simp only [Act.put, List.setIfInBounds_toArray, List.set_cons_zero, List.set_cons_succ]
          refine qs_val (by kernel_rfl) (fun W hW => y13 _ rfl rfl W hW.1) ?_
          try simp only [Act.put, List.setIfInBounds_toArray, List.set_cons_zero, List.set_cons_succ]
          refine qs_val (by kernel_rfl) (fun W hW => y14 _ rfl W hW.1) ?_
          try simp only [Act.put, List.setIfInBounds_toArray, List.set_cons_zero, List.set_cons_succ]
          refine qs_val (by kernel_rfl) (fun W hW => y15 _ rfl W hW.1) ?_
          try simp only [Act.put, List.setIfInBounds_toArray, List.set_cons_zero, List.set_cons_succ]
          refine qs_val (by kernel_rfl) (fun W hW => y16 _ rfl rfl W hW.1) ?_
          try simp only [Act.put, List.setIfInBounds_toArray, List.set_cons_zero, List.set_cons_succ]
          refine qs_val (by kernel_rfl) (fun W hW => y17 _ rfl rfl rfl W hW.1) ?_
          try simp only [Act.put, List.setIfInBounds_toArray, List.set_cons_zero, List.set_cons_succ]
          refine qs_val (by kernel_rfl) (fun W hW => y18 _ rfl rfl rfl W hW.1) ?_
          try simp only [Act.put, List.setIfInBounds_toArray, List.set_cons_zero, List.set_cons_succ]
          refine qs_nil ?_
          intro W2 hC2
          have d0 : W2.cell? ⟨nb, no, none⟩ = some (.int .i64 x.f) := by rw [World.cell?_of_block (w := wr) (by rw [hC2.2.2])]; exact cn0
          have d1 : W2.cell? ⟨nb, no + 1, none⟩ = some (.slice x.a x.bs.length x.c) := by rw [World.cell?_of_block (w := wr) (by rw [hC2.2.2])]; exact cn1
          have HC : Hid (Below 0 wr W2 ∧ W2.heap = wr.heap) := hC2.2
          obtain ⟨fn, tmps, assign, body, hy, hR⟩ := HY.out pre x Z W2 (HJ0.out _ _ _ _ HJ1.out (apart_same HC.out.1 HC.out.2)) (by rw [HC.out.2]; exact HK.out.2.1) (by rw [HC.out.2]; exact HK.out.1) (by rw [HTT.out]; exact List.prefix_append _ _)
          have hsl := fun W => slE_l (some ⟨nb, no, none⟩) m nc 1 1 rfl (by omega) W
          clear hC2 hS y0 y1 y2 y3 y4 y5 y6 y7 y8 y9 y10 y11 y12 y13 y14 y15 y16 y17 y18 cf0 cf1 cn0 cn1
          gi_wp2
          refine ⟨fun h => by simp [Fence.wide] at h, hR.mono ?_⟩
          rintro e W3 ⟨Z', hM, (⟨rfl, hJ3⟩ | ⟨rfl, hJx3⟩)⟩
          · have HN : Hid (BothAt w0 W W3 A B T J (cutE (some ⟨nb, no, none⟩) nc 1) (m - 1) (nc - 1) (some ⟨fb, fo, none⟩) p fc l (y :: r) (pre ++ [x])) := by
              obtain ⟨hz, hsz, hk⟩ := HK.out
              have h1 := hM.flat.size
              rw [HC.out.2] at h1
              have hl1 := HI.out.ml
              simp at hl1
              have hc1 := HI.out.mc
              refine ⟨by omega, HI.out.pl, by omega, HI.out.pc, HI.out.ne.tail (by omega), HI.out.fe, fun k hk => HI.out.nR k (lies_cut hk), HI.out.fR, HTT.out, Z', hJ3, fun k hk' => ⟨?_, hM.lt k hk'⟩, by omega, fun k hkl hk' => ?_⟩
              · rcases hM.new k hk' with h | h
                · exact (hz k h).1
                · rw [HC.out.2] at h; omega
              · have hk0 := hw1.out.size
                have := (hM.same k (by rw [HC.out.2]; omega) (.inl ⟨hk', hkl⟩) (fun h => by have := (hz k h).1; omega))
                rw [HC.out.2] at this
                exact this.trans (hk k hkl hk')
            clear hM hJ3 HK d0 d1
            gi_wp2
            go_roundw
            case rel => exact ⟨_, _, _, _, _, _, rfl, rfl, by omega, by omega, _, _, _, HN.out⟩
            case measure => simp [slLen]; omega
          · clear hM
            gi_wp2
            refine bodyPost_ret (results_none rfl _ _ _) rfl ?_
            exact ⟨⟨_, rfl⟩, .inr ⟨_, Z', by rw [HTT.out]; exact List.prefix_append _ _, hJx3⟩⟩
end Go.Proofs.Ytdodagpkkjpdiaa
