/- Texts: BackI, PutI, TurnA. -/
import Derived.Test.YtdodagpkkjpdiaaQA36
import Derived.Test.YtdodagpkkjpdiaaFirstB
namespace Go.Proofs.Ytdodagpkkjpdiaa
open Go.ChangeShapes Go.WideShapes Go.ChangeAt Go.RowKit
set_option linter.unusedVariables false
set_option linter.unusedSimpArgs false
open Go.Shelf
attribute [local go_sem] Oper.semAt_some
/-- Places from the last one down to k. -/
def revI (n k : Nat) : List Nat := ((List.range n).drop k).reverse
theorem rev_all (n : Nat) : revI n n = [] := by unfold revI; rw [List.drop_of_length_le (by simp)]; rfl
theorem rev_step {n k : Nat} (h : k < n) : revI n k = revI n (k + 1) ++ [k] := by
  unfold revI
  rw [List.drop_eq_getElem_cons (by simpa using h)]
  simp
theorem rev_mem {n k j : Nat} : j ∈ revI n k ↔ k ≤ j ∧ j < n := by
  unfold revI
  rw [List.mem_reverse, List.mem_drop_iff_getElem]
  constructor
  · rintro ⟨i, h1, h2⟩
    simp at h1 h2
    omega
  · intro h
    exact ⟨j - k, by simp; omega, by simp; omega⟩
theorem rev_prefix {n k : Nat} (h : k ≤ n) : revI n k <+: revI n 0 := by
  induction k with
  | zero => exact List.prefix_refl _
  | succ k ih =>
    have := ih (by omega)
    rw [rev_step (by omega)] at this
    exact (List.prefix_append _ _).trans this
theorem rev_inj {n : Nat} : ∀ {p : List Nat}, p <+: revI n 0 → ∃ k, k ≤ n ∧ p = revI n k := by
  intro p hp
  have hl : (revI n 0).length = n := by unfold revI; simp
  refine ⟨n - p.length, by omega, ?_⟩
  have h1 := hp.length_le
  have h2 : (revI n (n - p.length)) <+: revI n 0 := rev_prefix (by omega)
  have h3 : (revI n (n - p.length)).length = p.length := by unfold revI; simp; omega
  exact List.prefix_of_prefix_length_le hp h2 (by omega) |>.eq_of_length (by omega)
def encB (es : List En) (j : Nat) : Array Value := #[.int .i64 (j : Int), .agg #[.int .i64 (es[j]?.getD e0).f, .slice (es[j]?.getD e0).a (es[j]?.getD e0).bs.length (es[j]?.getD e0).c]]
set_option maxHeartbeats 1000000 in
theorem back_in (a : Option Addr) (len cap : Nat) (w : World) :
    Calls Try.prog 72 #[.slice a len cap] w fun e w' => e = .returned (.func (.func 79) #[] #[.pointer (some ⟨w.heap.size, 0, none⟩)]) ∧ w' = w.alloc (.cells #[.slice a len cap] 44) := by
  go_enter Try.func72, Try.ntmps72
  go_wp2
  go_ret
  exact ⟨rfl, rfl⟩
set_option maxRecDepth 100000 in
set_option maxHeartbeats 2000000 in
theorem back_deep (n : Nat) (Bs cap N : Nat) (A : Option Addr) (es : List En) (w0 w : World) (hT : EntsAt w0 A es) (hN : es.length = N) (hml : N ≤ 9223372036854775807) (hw : Below w0.heap.size w0 w) (hBs : w.cell? ⟨Bs, 0, none⟩ = some (.slice A N cap)) :
    SeqDeep Fence.wide n Try.prog 79 #[.pointer (some ⟨Bs, 0, none⟩)] (encB es) (fun k => (lies A k ∧ k < w0.heap.size) ∨ k = Bs) (fun ys => ys = revI N 0) (fun pre => pre <+: revI N 0) (fun q => q <+: revI N 0) w := by
  intro l J Jx W hW hJ hJx hY h0
  have hT0 : Hid (EntsAt w0 A es ∧ es.length = N) := ⟨hT, hN⟩
  have hw1 : Hid (Below w0.heap.size w0 W) := hw.trans (hW.mono hw.size)
  have hBs1 : W.cell? ⟨Bs, 0, none⟩ = some (.slice A N cap) := (hW.cell (p := ⟨Bs, 0, none⟩) (lt_of_cell hBs)).trans hBs
  have HBW : Hid (W.cell? ⟨Bs, 0, none⟩ = some (.slice A N cap) ∧ Bs < W.heap.size) := ⟨hBs1, lt_of_cell hBs1⟩
  clear hT hBs hW hw hN
  have HJ0 : Hid (Abides W.heap.size J) := hJ
  have HY : Hid (∀ _, _) := hY
  clear hJ hJx hY
  have hn1 : IntKind.i64.wrap ((N : Int) - 1) = (N : Int) - 1 := by rw [IntKind.wrap_i64]; omega
  refine callsIn_of_wp Try.func79 rfl trivial ?_ rfl
  simp only [Try.ntmps79, List.size_toArray, List.length_cons, List.length_nil, Nat.reduceAdd, Nat.reduceSub, Array.replicate_succ, Array.replicate_zero, List.push_toArray, List.append_toArray, List.nil_append, List.cons_append]
  gi_wp2
  clear hBs1 hn1
  gi_loopw [3] (fun vi wr => ∃ (k : Nat) (v : Int), vi = .int .i64 v ∧ v = (k : Int) - 1 ∧ k ≤ N ∧ Hid (∃ Z, J (revI N k) Z wr ∧ (∀ k, Z k → W.heap.size ≤ k ∧ k < wr.heap.size) ∧ W.heap.size ≤ wr.heap.size ∧ (∀ k, k < W.heap.size → ((lies A k ∧ k < w0.heap.size) ∨ k = Bs) → wr.heap[k]? = W.heap[k]?)))
    (fun vi _ => (intOf vi + 1).toNat)
  case atStart => exact ⟨N, _, rfl, rfl, Nat.le_refl _, by rw [rev_all]; exact ⟨_, h0, fun k h => h.elim, Nat.le_refl _, fun _ _ _ => rfl⟩⟩
  case round =>
    obtain ⟨k, v, rfl, hv, hkN, HJ⟩ := hrel
    cases k with
    | zero =>
      obtain ⟨Z, hj, _⟩ := HJ.out
      have hv0 : v < 0 := by omega
      clear hv
      gi_wp2
      go_end0
      exact ⟨⟨_, rfl⟩, .inl ⟨_, Z, rfl, hj⟩⟩
    | succ j =>
      obtain rfl : v = (j : Int) := by omega
      clear hv
      obtain ⟨Z, hj, hz, hsz, hk⟩ := HJ.out
      have hjl : j < es.length := by rw [hT0.out.2]; omega
      obtain ⟨x, hx⟩ : ∃ x, es[j]?.getD e0 = x := ⟨_, rfl⟩
      have hxs : es[j]? = some x := by rw [List.getElem?_eq_getElem hjl] at hx ⊢; simpa using hx
      obtain ⟨b, o, hA, hc, hd⟩ := hT0.out.1 j x hxs
      subst hA
      have hb : wr.heap[b]? = w0.heap[b]? := (hk b (Nat.lt_of_lt_of_le (lt_of_cell hc) hw1.out.size) (.inl ⟨⟨_, _, rfl⟩, lt_of_cell hc⟩)).trans (hw1.out.block b (lt_of_cell hc))
      have hcx : wr.cell? ⟨b, o + j * 2, none⟩ = some (.int .i64 x.f) := (World.cell?_of_block (w := w0) hb).trans hc
      have hdx : wr.cell? ⟨b, o + j * 2 + 1, none⟩ = some (.slice x.a x.bs.length x.c) := (World.cell?_of_block (w := w0) hb).trans hd
      have hsx : wr.cell? ⟨Bs, 0, none⟩ = some (.slice (some ⟨b, o, none⟩) N cap) := (World.cell?_of_block (w := W) (hk Bs HBW.out.2 (.inr rfl))).trans HBW.out.1
      obtain ⟨fn, tmps, assign, body, hy, hR⟩ := HY.out (revI N (j + 1)) j Z wr hj hsz hz (by rw [← rev_step (by omega)]; exact rev_prefix (by omega))
      rw [show encB es j = #[.int .i64 (j : Int), .agg #[.int .i64 x.f, .slice x.a x.bs.length x.c]] by unfold encB; rw [hx]] at hy
      have HK : Hid ((∀ k, Z k → W.heap.size ≤ k ∧ k < wr.heap.size) ∧ W.heap.size ≤ wr.heap.size ∧ (∀ k, k < W.heap.size → ((lies (some ⟨b, o, none⟩) k ∧ k < w0.heap.size) ∨ k = Bs) → wr.heap[k]? = W.heap[k]?)) := ⟨hz, hsz, hk⟩
      have hj0 : (0 : Int) ≤ (j : Int) := by omega
      have hjN : (j : Int) < (N : Int) := by omega
      have hjN2 : j < N := by omega
      have hw2 : IntKind.i64.wrap ((j : Int) - 1) = (j : Int) - 1 := by rw [IntKind.wrap_i64]; omega
      clear hx hxs hc hd hz hsz hk hj HJ hb hjl
      gi_wp2
      refine ⟨fun h => by simp [Fence.wide] at h, hR.mono ?_⟩
      rintro e W3 ⟨Z', hM, (⟨rfl, hJ3⟩ | ⟨rfl, hJx3⟩)⟩
      · have HN : Hid (∃ Z, J (revI N j) Z W3 ∧ (∀ k, Z k → W.heap.size ≤ k ∧ k < W3.heap.size) ∧ W.heap.size ≤ W3.heap.size ∧ (∀ k, k < W.heap.size → ((lies (some ⟨b, o, none⟩) k ∧ k < w0.heap.size) ∨ k = Bs) → W3.heap[k]? = W.heap[k]?)) := by
          obtain ⟨hz, hsz, hk⟩ := HK.out
          have h1 := hM.flat.size
          refine ⟨Z', by rw [rev_step (by omega)]; exact hJ3, fun k hk' => ⟨?_, hM.lt k hk'⟩, by omega, fun k hkl hk' => ?_⟩
          · rcases hM.new k hk' with h | h
            · exact (hz k h).1
            · omega
          · exact (hM.same k (by omega) (.inl hk') (fun h => by have := (hz k h).1; omega)).trans (hk k hkl hk')
        clear hM hJ3 HK
        gi_wp2
        go_roundw
        case rel => exact ⟨j, _, rfl, by first | rfl | omega, by omega, HN.out⟩
        case measure => simp [intOf]
      · clear hM
        gi_wp2
        refine bodyPost_ret (results_none rfl _ _ _) rfl ?_
        exact ⟨⟨_, rfl⟩, .inr ⟨_, Z', by rw [← rev_step (by omega)]; exact rev_prefix (by omega), hJx3⟩⟩
end Go.Proofs.Ytdodagpkkjpdiaa
namespace Go.Proofs.Ytdodagpkkjpdiaa
open Go.ChangeShapes Go.WideShapes Go.ChangeAt Go.RowKit
set_option linter.unusedVariables false
set_option linter.unusedSimpArgs false
/-- One span appended, at a step of a region that draws: where the row lies then. -/
theorem step_appT {w : World} {ops : Array Oper} {o : Oper} {a : Act} {K : Act → World → Prop} {Q : Exit → Act → World → Prop} {E : Prop} (hgd : o.guard = none) (s x : Operand)
    (ho : o.op = .call { callee := .builtin .append, args := #[s, x], argTypes := #[29, 29] })
    (B : Nat) (va : Option Addr) (n vc : Nat) (xs : List Tm) (A : Addr) (y : Tm) (hs : a.eval s = .slice va n vc) (hx : a.eval x = .slice (some A) 1 1)
    (hO : RowT w B va n vc xs) (hB : B ≤ w.heap.size) (hT : ∀ j u, [Value.int .i64 y.1, Value.int .i64 y.2][j]? = some u → w.cell? (A.add j) = some u) (hb : (n + 1) * 16 ≤ 140737488355328)
    (h : ∀ va' vc' w', RowT w' B va' (n + 1) vc' (xs ++ [y]) → w.grownBy w' (Value.slice va n vc).ownBlock → (∀ k, lies va' k → lies va k ∨ w.heap.size ≤ k) → K (a.put o.dst (.slice va' (n + 1) vc')) w') :
    if Region.wanted o (yielded ops a.tmps) = true then Oper.wp Try.prog o a w K Q else E := by
  have hw : Region.wanted o (yielded ops a.tmps) = true := by simp [Region.wanted, hgd]
  rw [if_pos hw]
  obtain ⟨i0, hi, hz0, hz1, hz2⟩ := info_parts Try.info39
  obtain ⟨v', w', hr, h1, h2, _, h5⟩ := run_append_own_at (P := Try.prog) w B 29 o.type 39 i0 (.agg #[.int .i64 0, .int .i64 0]) 2 16 Try.underlying29 hi hz0 hz1 hz2 rfl (by decide) _ n _ hO A 1 1 [.int .i64 y.1, .int .i64 y.2] rfl hT two_one (by unfold maxLen; omega) hb hB
  rw [← tcells_snoc] at h1
  obtain ⟨va', vc', rfl, hR⟩ := rowT_of h1
  unfold Oper.wp execOp
  simp only [ho, resolve, invoke, builtin, Sem.run_bind, Sem.run_pure, Result.andThen_ok, List.map_toArray, List.map_cons, List.map_nil, hs, hx, hr]
  refine h va' vc' w' hR h2 (fun k hk => ?_)
  rw [lies_block hR hk] at h5
  rcases h5 with h | h
  · exact .inl (owns_block h.symm)
  · cases h; exact .inr (Nat.le_refl _)
set_option maxRecDepth 100000 in
set_option maxHeartbeats 4000000 in
theorem put_old (Bo bs bf g sb n i : Nat) (ms : List Bool) (w : World) (hbs : Boxed w bs 100 (.slice (some ⟨sb, 0, none⟩) n n)) (hm : RowM w Bo sb n ms) (hi : i < n) (hf : ms[i]?.getD false = true) :
    Calls Try.prog 71 #[.int .i64 (i : Int), .pointer (some ⟨bs, 0, none⟩), .pointer (some ⟨bf, 0, none⟩), .pointer (some ⟨g, 0, none⟩)] w fun e w' => (∃ v, e = .returned v) ∧ Below w.heap.size w w' := by
  have c0 := hbs.cell
  have c1 := hm.cell i hi
  rw [hf] at c1
  have h1 : (i : Int) < (n : Int) := by omega
  clear hbs hm hf
  go_enter Try.func71, Try.ntmps71
  go_wp2
  go_end0
  exact ⟨⟨_, rfl⟩, Below.refl _ _⟩
set_option maxRecDepth 100000 in
set_option maxHeartbeats 4000000 in
theorem put_new (Bo bs bf g sb n i L vc lc : Nat) (va : Option Addr) (ms : List Bool) (out : List Tm) (cs : List Value) (pb po : Nat) (y : En) (t : Int) (w : World) (hbs : Boxed w bs 100 (.slice (some ⟨sb, 0, none⟩) n n)) (hbf : Boxed w bf 29 (.slice va L vc)) (hg : Box w g 46 cs) (hcs : cs[2]? = some (.slice (some ⟨pb, po, none⟩) n lc)) (hm : RowM w Bo sb n ms) (ht : RowT w Bo va L vc out) (hBo : Bo ≤ w.heap.size) (hi : i < n) (hf : ms[i]?.getD false = false)
    (hy0 : w.cell? ⟨pb, po + i * 2, none⟩ = some (.int .i64 y.f)) (hy1 : w.cell? ⟨pb, po + i * 2 + 1, none⟩ = some (.slice y.a y.bs.length y.c)) (hpb : pb < Bo) (hfb : Bo ≤ bf) (hwt : wrap64 (y.f + (y.bs.length : Int)) = t) (hL : (L + 1) * 16 ≤ 140737488355328) :
    Calls Try.prog 71 #[.int .i64 (i : Int), .pointer (some ⟨bs, 0, none⟩), .pointer (some ⟨bf, 0, none⟩), .pointer (some ⟨g, 0, none⟩)] w fun e w' => (∃ v, e = .returned v) ∧ ∃ va' vc', Boxed w' bf 29 (.slice va' (L + 1) vc') ∧ RowM w' Bo sb n (ms.set i true) ∧ RowT w' Bo va' (L + 1) vc' (out ++ [(y.f, t)]) ∧ Chg (fun k => k = sb ∨ k = bf ∨ lies va k) w w' ∧ (∀ k, lies va' k → lies va k ∨ w.heap.size ≤ k) := by
  have hsbge := hm.ge
  obtain ⟨_, _, _, cur4, hsb4⟩ := owns_lies hm (k := sb) ⟨_, _, rfl⟩
  obtain ⟨W1, hW1⟩ : ∃ W1, w.setCell ⟨sb, i, none⟩ (.bool true) = W1 := ⟨_, rfl⟩
  have hs1 : W1.heap.size = w.heap.size := by rw [← hW1]; simp [World.setCell]
  have ho1 : ∀ k, k ≠ sb → W1.heap[k]? = w.heap[k]? := fun k hk => by rw [← hW1]; exact Below.heap_setCell w ⟨sb, i, none⟩ _ k hk
  have hm1 : RowM W1 Bo sb n (ms.set i true) := by rw [← hW1]; exact hm.set i true
  have hne : ∀ (k : Nat) (e : TypeId), e ≠ 4 → (∃ cur fr, w.heap[k]? = some (.cells cur e fr)) → k ≠ sb := fun k e he ⟨cur, fr, h1⟩ h2 => by subst h2; exact he (is_type h1 hsb4)
  have hbf1 : Boxed W1 bf 29 (.slice va L vc) := (ho1 bf (hne bf 29 (by decide) ⟨_, _, hbf⟩)).trans hbf
  have hg1 : Box W1 g 46 cs := (ho1 g (hne g 46 (by decide) ⟨_, _, hg⟩)).trans hg
  have ht1 : RowT W1 Bo va L vc out := ownsRow_moved ht (fun k hk hl => by
    obtain ⟨_, _, _, cur, e⟩ := owns_lies ht hl
    exact ho1 k (hne k 39 (by decide) ⟨_, _, e⟩))
  have hy01 : W1.cell? ⟨pb, po + i * 2, none⟩ = some (.int .i64 y.f) := (World.cell?_of_block (w := w) (ho1 pb (by omega))).trans hy0
  have hy11 : W1.cell? ⟨pb, po + i * 2 + 1, none⟩ = some (.slice y.a y.bs.length y.c) := (World.cell?_of_block (w := w) (ho1 pb (by omega))).trans hy1
  have hpw : pb < W1.heap.size := by omega
  have cS := fun W => spanOf_walk y.f y.a y.bs.length y.c W t hwt
  obtain ⟨S, hS⟩ : ∃ S : World → Prop, S = fun W => W.cell? ⟨bf, 0, none⟩ = some (.slice va L vc) ∧ W.cell? ⟨g, 2, none⟩ = some (.slice (some ⟨pb, po, none⟩) n lc) ∧ W.cell? ⟨pb, po + i * 2, none⟩ = some (.int .i64 y.f) ∧ W.cell? ⟨pb, po + i * 2 + 1, none⟩ = some (.slice y.a y.bs.length y.c) := ⟨_, rfl⟩
  have HSK : Hid (∀ W, Below W1.heap.size W1 W → S W) := fun W hW => by
    rw [hS]
    exact ⟨(boxed_bel hbf1 hW hbf1.lt).cell, (hg1.later hW).cell 2 hcs, (World.cell?_of_block (w := W1) (hW.block pb hpw)).trans hy01, (World.cell?_of_block (w := W1) (hW.block pb hpw)).trans hy11⟩
  have HA : Hid (Boxed W1 bf 29 (.slice va L vc) ∧ Box W1 g 46 cs ∧ RowM W1 Bo sb n (ms.set i true) ∧ RowT W1 Bo va L vc out ∧ Chg (fun k => k = sb ∨ k = bf ∨ lies va k) w W1 ∧ Bo ≤ W1.heap.size ∧ W1.heap.size = w.heap.size ∧ pb < W1.heap.size ∧ W1.cell? ⟨pb, po + i * 2, none⟩ = some (.int .i64 y.f) ∧ W1.cell? ⟨pb, po + i * 2 + 1, none⟩ = some (.slice y.a y.bs.length y.c)) := ⟨hbf1, hg1, hm1, ht1, by rw [← hW1]; exact Chg.set _ _ _ _ (.inl rfl), by omega, hs1, hpw, hy01, hy11⟩
  have c0 := hbs.cell
  have c1 := hm.cell i hi
  rw [hf] at c1
  have f1 := hm.frozen i
  have h1 : (i : Int) < (n : Int) := by omega
  clear hbs hbf hg hm ht hsb4 hs1 ho1 hm1 hne hbf1 hg1 ht1 hy01 hy11 hpw hy0 hy1 hwt hf hsbge
  go_enter Try.func71, Try.ntmps71
  go_upto_region 2 with fail
  try rw [hW1]
  clear hW1 c0 c1 f1
  have y0 : ∀ {ps : String} (ev : Operand → Value), ev (.tmp 2) = .pointer (some ⟨bf, 0, none⟩) → ∀ W, S W → (execOp ev { dst := some 13, op := Go.Op.load 29 (Go.Operand.tmp 2), type := 29, pos := ps, after := #[], guard := none }).run Try.prog W = .ok (.value (.slice va L vc)) W := by
    intro ps ev h0 W hSw
    rw [hS] at hSw
    try dsimp only at hSw
    first | (go_simp; done) | (go_simp; with_reducible rfl)
  have y1 : ∀ {ps : String} (ev : Operand → Value), ev (.tmp 3) = .pointer (some ⟨g, 0, none⟩) → ∀ W, S W → (execOp ev { dst := some 14, op := Go.Op.fieldAddr 46 (Go.Operand.tmp 3) 2, type := 0, pos := ps, after := #[], guard := none }).run Try.prog W = .ok (.value (.pointer (some ⟨g, 2, none⟩))) W := by
    intro ps ev h0 W hSw
    rw [hS] at hSw
    try dsimp only at hSw
    first | (go_simp; done) | (go_simp; with_reducible rfl)
  have y2 : ∀ {ps : String} (ev : Operand → Value), ev (.tmp 14) = .pointer (some ⟨g, 2, none⟩) → ∀ W, S W → (execOp ev { dst := some 15, op := Go.Op.load 44 (Go.Operand.tmp 14), type := 44, pos := ps, after := #[{ on := 1, ground := Go.Ground.data }], guard := none }).run Try.prog W = .ok (.value (.slice (some ⟨pb, po, none⟩) n lc)) W := by
    intro ps ev h0 W hSw
    rw [hS] at hSw
    try dsimp only at hSw
    first | (go_simp; done) | (go_simp; with_reducible rfl)
  have y3 : ∀ {ps : String} (ev : Operand → Value), ev (.tmp 0) = .int .i64 (i : Int) → ∀ W, S W → (execOp ev { dst := some 16, op := Go.Op.move (Go.Operand.tmp 0), type := 3, pos := ps, after := #[], guard := none }).run Try.prog W = .ok (.value (.int .i64 (i : Int))) W := by
    intro ps ev h0 W hSw
    rw [hS] at hSw
    try dsimp only at hSw
    first | (go_simp; done) | (go_simp; with_reducible rfl)
  have y4 : ∀ {ps : String} (ev : Operand → Value), ev (.tmp 15) = .slice (some ⟨pb, po, none⟩) n lc → ev (.tmp 16) = .int .i64 (i : Int) → ∀ W, S W → (execOp ev { dst := some 17, op := Go.Op.indexAddr 44 (Go.Operand.tmp 15) (Go.Operand.tmp 16), type := 0, pos := ps, after := #[{ on := 2, ground := Go.Ground.data }, { on := 3, ground := Go.Ground.data }], guard := none }).run Try.prog W = .ok (.value (.pointer (some ⟨pb, po + i * 2, none⟩))) W := by
    intro ps ev h0 h1 W hSw
    rw [hS] at hSw
    try dsimp only at hSw
    first | (go_simp; done) | (go_simp; with_reducible rfl)
  have y5 : ∀ {ps : String} (ev : Operand → Value), ev (.tmp 17) = .pointer (some ⟨pb, po + i * 2, none⟩) → ∀ W, S W → (execOp ev { dst := some 18, op := Go.Op.load 53 (Go.Operand.tmp 17), type := 53, pos := ps, after := #[{ on := 4, ground := Go.Ground.data }], guard := none }).run Try.prog W = .ok (.value (.agg #[.int .i64 y.f, .slice y.a y.bs.length y.c])) W := by
    intro ps ev h0 W hSw
    rw [hS] at hSw
    try dsimp only at hSw
    first | (go_simp; done) | (go_simp; with_reducible rfl)
  refine wp_region_X S 9 (by kernel_rfl) (HSK.out _ (by repeat (first | with_reducible exact Below.refl _ _ | with_reducible assumption | with_reducible refine Below.drew ?_ | with_reducible refine below_drewN ?_ _ | with_reducible refine below_more ?_ _))) (fun hHeld => ?_)
  refine wpX_take (i := 0) (oi := { dst := some 13, op := Go.Op.load 29 (Go.Operand.tmp 2), type := 29, pos := _, after := #[], guard := none }) (v := .slice va L vc) rfl (by kernel_rfl) (by kernel_rfl) (by kernel_rfl) (fun _ _ _ h => h) ⟨_, rfl, { on := 0, ground := Go.Ground.phase }, by simp, by rfl, rfl⟩ (by decide) (Or.inl ⟨by rfl, y0 _ rfl⟩) (by assumption) ?_
  try simp only [Act.put, List.setIfInBounds_toArray, List.set_cons_zero, List.set_cons_succ]
  refine wpX_take (i := 1) (oi := { dst := some 14, op := Go.Op.fieldAddr 46 (Go.Operand.tmp 3) 2, type := 0, pos := _, after := #[], guard := none }) (v := .pointer (some ⟨g, 2, none⟩)) rfl (by kernel_rfl) (by kernel_rfl) (by kernel_rfl) (fun _ _ _ h => h) ⟨_, rfl, { on := 1, ground := Go.Ground.phase }, by simp, by rfl, rfl⟩ (by decide) (Or.inl ⟨by rfl, y1 _ rfl⟩) (by assumption) ?_
  try simp only [Act.put, List.setIfInBounds_toArray, List.set_cons_zero, List.set_cons_succ]
  refine wpX_take (i := 2) (oi := { dst := some 15, op := Go.Op.load 44 (Go.Operand.tmp 14), type := 44, pos := _, after := #[{ on := 1, ground := Go.Ground.data }], guard := none }) (v := .slice (some ⟨pb, po, none⟩) n lc) rfl (by kernel_rfl) (by kernel_rfl) (by kernel_rfl) (fun _ _ _ h => h) ⟨_, rfl, { on := 2, ground := Go.Ground.phase }, by simp, by rfl, rfl⟩ (by decide) (Or.inl ⟨by rfl, y2 _ rfl⟩) (by assumption) ?_
  try simp only [Act.put, List.setIfInBounds_toArray, List.set_cons_zero, List.set_cons_succ]
  refine wpX_take (i := 3) (oi := { dst := some 16, op := Go.Op.move (Go.Operand.tmp 0), type := 3, pos := _, after := #[], guard := none }) (v := .int .i64 (i : Int)) rfl (by kernel_rfl) (by kernel_rfl) (by kernel_rfl) (fun _ _ _ h => h) ⟨_, rfl, { on := 3, ground := Go.Ground.phase }, by simp, by rfl, rfl⟩ (by decide) (Or.inl ⟨by rfl, y3 _ rfl⟩) (by assumption) ?_
  try simp only [Act.put, List.setIfInBounds_toArray, List.set_cons_zero, List.set_cons_succ]
  refine wpX_take (i := 4) (oi := { dst := some 17, op := Go.Op.indexAddr 44 (Go.Operand.tmp 15) (Go.Operand.tmp 16), type := 0, pos := _, after := #[{ on := 2, ground := Go.Ground.data }, { on := 3, ground := Go.Ground.data }], guard := none }) (v := .pointer (some ⟨pb, po + i * 2, none⟩)) rfl (by kernel_rfl) (by kernel_rfl) (by kernel_rfl) (fun _ _ _ h => h) ⟨_, rfl, { on := 4, ground := Go.Ground.phase }, by simp, by rfl, rfl⟩ (by decide) (Or.inl ⟨by rfl, y4 _ rfl rfl⟩) (by assumption) ?_
  try simp only [Act.put, List.setIfInBounds_toArray, List.set_cons_zero, List.set_cons_succ]
  refine wpX_take (i := 5) (oi := { dst := some 18, op := Go.Op.load 53 (Go.Operand.tmp 17), type := 53, pos := _, after := #[{ on := 4, ground := Go.Ground.data }], guard := none }) (v := .agg #[.int .i64 y.f, .slice y.a y.bs.length y.c]) rfl (by kernel_rfl) (by kernel_rfl) (by kernel_rfl) (fun _ _ _ h => h) ⟨_, rfl, { on := 5, ground := Go.Ground.phase }, by simp, by rfl, rfl⟩ (by decide) (Or.inl ⟨by rfl, y5 _ rfl⟩) (by assumption) ?_
  try simp only [Act.put, List.setIfInBounds_toArray, List.set_cons_zero, List.set_cons_succ]
  refine wpX_one (i := 6) (o := { dst := some 19, op := Go.Op.call { callee := Go.Callee.value (Go.Operand.func 64), args := #[Go.Operand.tmp 18], argTypes := #[53] }, type := 39, pos := _, after := #[{ on := 5, ground := Go.Ground.data }], guard := none }) (by kernel_rfl) rfl (fun K hK => ?_)
  rw [if_pos (by rfl)]
  go_simp
  refine (cS _).mono ?_
  rintro e w1 ⟨rfl, hB1⟩
  have hb1 : Below W1.heap.size W1 w1 := Below.on (by repeat (first | with_reducible exact Below.refl _ _ | with_reducible assumption | with_reducible refine Below.drew ?_ | with_reducible refine below_drewN ?_ _ | with_reducible refine below_more ?_ _)) hB1
  refine hK.out _ _ ⟨fun _ => HSK.out _ hb1, ?_⟩
  clear hK K hHeld
  try simp only [Act.put, List.setIfInBounds_toArray, List.set_cons_zero, List.set_cons_succ]
  refine wpX_one (i := 7) (o := { dst := some 20, op := Go.Op.buildSlice 29 1 #[(0, Go.Operand.tmp 19)], type := 29, pos := _, after := #[{ on := 6, ground := Go.Ground.data }], guard := none }) (by kernel_rfl) rfl (fun K hK => ?_)
  rw [if_pos (by rfl)]
  go_simp
  refine hK.out _ _ ⟨fun _ => HSK.out _ (by repeat (first | with_reducible exact Below.refl _ _ | with_reducible assumption | with_reducible refine Below.drew ?_ | with_reducible refine below_drewN ?_ _ | with_reducible refine below_more ?_ _)), ?_⟩
  clear hK K
  try simp only [Act.put, List.setIfInBounds_toArray, List.set_cons_zero, List.set_cons_succ]
  have hbY : Below W1.heap.size W1 (w1.alloc (.cells #[.int .i64 y.f, .int .i64 t] 39)) := below_more hb1 _
  obtain ⟨Y, hY⟩ : ∃ Y, w1.alloc (.cells #[.int .i64 y.f, .int .i64 t] 39) = Y := ⟨_, rfl⟩
  have hcn : ∀ j u, [Value.int .i64 y.f, Value.int .i64 t][j]? = some u → Y.cell? ((⟨w1.heap.size, 0, none⟩ : Addr).add j) = some u := by rw [← hY]; exact cells_new w1 [.int .i64 y.f, .int .i64 t] 39
  rw [hY] at hbY ⊢
  clear hY
  have htY := HA.out.2.2.2.1.below hbY (Nat.le_refl _)
  refine wpX_one (i := 8) (o := { dst := some 21, op := Go.Op.call { callee := Go.Callee.builtin Go.Builtin.append, args := #[Go.Operand.tmp 13, Go.Operand.tmp 20], argTypes := #[29, 29] }, type := 29, pos := _, after := #[{ on := 0, ground := Go.Ground.data }, { on := 7, ground := Go.Ground.data }, { on := 6, ground := Go.Ground.chain }], guard := none }) (by kernel_rfl) rfl (fun K hK => ?_)
  refine step_appT rfl (.tmp 13) (.tmp 20) rfl Bo va L vc out ⟨w1.heap.size, 0, none⟩ (y.f, t) rfl rfl htY (by have := hbY.size; have := HA.out.2.2.2.2.2.1; omega) hcn (by omega) ?_
  intro va2 vc2 w2 hR2 hg2 hN2
  have hmv : ∀ (k : Nat) (e : TypeId), e ≠ 39 → (∃ cur fr, Y.heap[k]? = some (.cells cur e fr)) → w2.heap[k]? = Y.heap[k]? := fun k e he ⟨cur, fr, h1⟩ => hg2.block k (Array.getElem?_eq_some_iff.1 h1).1 (fun h2 => by
    obtain ⟨_, _, _, cur2, h3⟩ := owns_lies htY (owns_block h2.symm)
    exact he (is_type h1 h3))
  have hbfY := boxed_bel HA.out.1 hbY HA.out.1.lt
  have hgY := HA.out.2.1.later hbY
  have hmY := HA.out.2.2.1.later hbY
  have hbf2 : Boxed w2 bf 29 (.slice va L vc) := (hmv bf 29 (by decide) ⟨_, _, hbfY⟩).trans hbfY
  have hg2' : Box w2 g 46 cs := (hmv g 46 (by decide) ⟨_, _, hgY⟩).trans hgY
  have hm2 : RowM w2 Bo sb n (ms.set i true) := ownsRow_moved hmY (fun k hk hl => by
    obtain ⟨_, _, _, cur, e⟩ := owns_lies hmY hl
    exact hmv k 4 (by decide) ⟨_, _, e⟩)
  have hpl : w2.heap[pb]? = W1.heap[pb]? := (hg2.block pb (by have := hbY.size; have := HA.out.2.2.2.2.2.2.2.1; omega) (fun h2 => by
    have := (owns_lies htY (owns_block h2.symm)).2.1
    omega)).trans (hbY.block pb HA.out.2.2.2.2.2.2.2.1)
  have hS2 : S w2 := by
    rw [hS]
    exact ⟨hbf2.cell, hg2'.cell 2 hcs, (World.cell?_of_block (w := W1) hpl).trans HA.out.2.2.2.2.2.2.2.2.1, (World.cell?_of_block (w := W1) hpl).trans HA.out.2.2.2.2.2.2.2.2.2⟩
  have HF : Hid (Boxed (w2.setCell ⟨bf, 0, none⟩ (.slice va2 (L + 1) vc2)) bf 29 (.slice va2 (L + 1) vc2) ∧ RowM (w2.setCell ⟨bf, 0, none⟩ (.slice va2 (L + 1) vc2)) Bo sb n (ms.set i true) ∧ RowT (w2.setCell ⟨bf, 0, none⟩ (.slice va2 (L + 1) vc2)) Bo va2 (L + 1) vc2 (out ++ [(y.f, t)]) ∧ Chg (fun k => k = sb ∨ k = bf ∨ lies va k) w (w2.setCell ⟨bf, 0, none⟩ (.slice va2 (L + 1) vc2)) ∧ (∀ k, lies va2 k → lies va k ∨ w.heap.size ≤ k)) := by
    have hbc : w2.heap[bf]? = some (.cells #[.slice va L vc] 29 (0, 0)) := hbf2
    refine ⟨hbf2.set _, ownsRow_beside hm2 hbc (by decide) _ _, ownsRow_beside hR2 hbc (by decide) _ _, ((HA.out.2.2.2.2.1.trans (Chg.of_below hbY)).trans (Chg.of_grown hg2 (fun k e => .inr (.inr (owns_block e))))).trans (Chg.set _ _ _ _ (.inr (.inl rfl))), fun k hk => (hN2 k hk).imp id (fun h => ?_)⟩
    have h1 := hbY.size
    have h2 := HA.out.2.2.2.2.2.2.1
    omega
  have zc := hbf2.cell
  have zf := hbf2.frozen
  clear hmv hbfY hgY hmY hbf2 hg2' hm2 hpl hR2 hg2 hN2 htY hcn hbY hb1 hB1
  refine hK.out _ _ ⟨fun _ => hS2, ?_⟩
  clear hK K
  try simp only [Act.put, List.setIfInBounds_toArray, List.set_cons_zero, List.set_cons_succ]
  refine wpX_one (i := 9) (o := { dst := none, op := Go.Op.store 29 (Go.Operand.tmp 2) (Go.Operand.tmp 21), type := 0, pos := _, after := #[{ on := 8, ground := Go.Ground.data }, { on := 8, ground := Go.Ground.chain }, { on := 0, ground := Go.Ground.phase }, { on := 1, ground := Go.Ground.phase }, { on := 2, ground := Go.Ground.phase }, { on := 3, ground := Go.Ground.phase }, { on := 4, ground := Go.Ground.phase }, { on := 5, ground := Go.Ground.phase }, { on := 6, ground := Go.Ground.phase }, { on := 7, ground := Go.Ground.phase }, { on := 8, ground := Go.Ground.phase }], guard := none }) (by kernel_rfl) rfl (fun K hK => ?_)
  rw [if_pos (by rfl)]
  go_simp
  refine hK.out _ _ ⟨fun h => absurd rfl h, ?_⟩
  clear hK K
  refine wpX_done (by kernel_rfl) ?_ _
  try simp only [Act.put, List.setIfInBounds_toArray, List.set_cons_zero, List.set_cons_succ]
  clear y0 y1 y2 y3 y4 y5 hS HSK hS2 zc zf
  go_wp2_with fail
  go_end0
  exact ⟨⟨_, rfl⟩, va2, vc2, HF.out⟩
end Go.Proofs.Ytdodagpkkjpdiaa
namespace Go.Proofs.Ytdodagpkkjpdiaa
open Go.ChangeShapes Go.WideShapes Go.ChangeAt Go.RowKit
set_option linter.unusedVariables false
set_option linter.unusedSimpArgs false
open Go.Shelf
attribute [local go_sem] Oper.semAt_some
theorem lat_inj : ∀ {l : List Pl.Pc} {lo : Int} {i j : Nat} {p q : Pl.Pc}, Pl.latB lo l → l[i]? = some p → l[j]? = some q → p.1 = q.1 → i = j
  | [], _, i, _, _, _, _, h, _, _ => by simp at h
  | a :: r, lo, 0, 0, _, _, _, _, _, _ => rfl
  | a :: r, lo, 0, j + 1, p, q, hl, h1, h2, e => by
    simp at h1 h2
    subst h1
    have := (lat_from hl.2.2 q (List.mem_of_getElem? h2)).1
    have := Pl.pend_lt hl.2.1
    omega
  | a :: r, lo, i + 1, 0, p, q, hl, h1, h2, e => by
    simp at h1 h2
    subst h2
    have := (lat_from hl.2.2 p (List.mem_of_getElem? h1)).1
    have := Pl.pend_lt hl.2.1
    omega
  | a :: r, lo, i + 1, j + 1, p, q, hl, h1, h2, e => by
    have := lat_inj hl.2.2 (by simpa using h1) (by simpa using h2) e
    omega
def meets (x e : Int) (p : Pl.Pc) : Prop := Pl.maxJ p.1 x < Pl.minJ (Pl.pend p) e
theorem back_none' {x e : Int} : ∀ {l : List Pl.Pc}, (∀ (j : Nat) p, l[j]? = some p → ¬ meets x e p) → backP l x e = none
  | [], _ => rfl
  | p :: r, h => by
    have ih := back_none' (l := r) (fun j q hq => h (j + 1) q (by simpa using hq))
    rw [backP, ih]
    exact if_neg (h 0 p (by simp))
theorem back_at {x e : Int} : ∀ {l : List Pl.Pc} {j : Nat} {p : Pl.Pc}, l[j]? = some p → meets x e p → (∀ i q, j < i → l[i]? = some q → ¬ meets x e q) → backP l x e = some p
  | [], _, _, h, _, _ => by simp at h
  | a :: r, 0, p, h, hm, hn => by
    simp at h
    subst h
    have ih := back_none' (x := x) (e := e) (l := r) (fun j q hq => hn (j + 1) q (by omega) (by simpa using hq))
    rw [backP, ih]
    exact if_pos hm
  | a :: r, j + 1, p, h, hm, hn => by
    have ih := back_at (l := r) (j := j) (by simpa using h) hm (fun i q hi hq => hn (i + 1) q (by omega) (by simpa using hq))
    rw [backP, ih]
/-- What inTurn knows. -/
structure TnAt (w V : World) (own : Nat → Prop) (cs : List Value) (x e : Int) (n : Nat) (l : List Pl.Pc) (ms : List Bool) (out : List Tm) (va : Option Addr) (vc : Nat) : Prop where
  box : Box V w.heap.size 46 cs
  at' : Box V (w.heap.size + 1) 39 [.int .i64 x, .int .i64 e]
  bf : Boxed V (w.heap.size + 2) 29 (.slice va out.length vc)
  bs : Boxed V (w.heap.size + 4) 100 (.slice (some ⟨w.heap.size + 3, 0, none⟩) n n)
  bp : Boxed V (w.heap.size + 5) 110 (.func (.func 71) #[] #[.pointer (some ⟨w.heap.size + 4, 0, none⟩), .pointer (some ⟨w.heap.size + 2, 0, none⟩), .pointer (some ⟨w.heap.size, 0, none⟩)])
  rm : RowM V w.heap.size (w.heap.size + 3) n ms
  rt : RowT V w.heap.size va out.length vc out
  mks : ∀ (j : Nat) p, l[j]? = some p → (ms[j]?.getD false = decide ((p.1, Pl.pend p) ∈ out))
  vo : ∀ k, lies va k → own k
  vn : ∀ k, lies va k → w.heap.size + 6 ≤ k
  bel : Below w.heap.size w V
theorem TnAt.mono {w V : World} {own own' : Nat → Prop} {cs : List Value} {x e : Int} {n : Nat} {l : List Pl.Pc} {ms : List Bool} {out : List Tm} {va : Option Addr} {vc : Nat} (h : TnAt w V own cs x e n l ms out va vc) (ho : ∀ k, own k → own' k) : TnAt w V own' cs x e n l ms out va vc := { h with vo := fun k hk => ho k (h.vo k hk) }
theorem TnAt.moved {w V V' : World} {own : Nat → Prop} {cs : List Value} {x e : Int} {n : Nat} {l : List Pl.Pc} {ms : List Bool} {out : List Tm} {va : Option Addr} {vc : Nat} (h : TnAt w V own cs x e n l ms out va vc) (hb : Below 0 V V') (hs : ∀ k, k < V.heap.size → (k < w.heap.size + 6 ∨ own k) → V'.heap[k]? = V.heap[k]?) : TnAt w V' own cs x e n l ms out va vc := by
  have hsz := h.bel.size
  refine { h with box := (hs _ h.box.lt (.inl (by omega))).trans h.box, at' := (hs _ h.at'.lt (.inl (by omega))).trans h.at', bf := (hs _ h.bf.lt (.inl (by omega))).trans h.bf, bs := (hs _ h.bs.lt (.inl (by omega))).trans h.bs, bp := (hs _ h.bp.lt (.inl (by omega))).trans h.bp, rm := ownsRow_moved h.rm (fun k hk hl => hs k hk (.inl ?_)), rt := ownsRow_moved h.rt (fun k hk hl => hs k hk (.inr (h.vo k hl))), bel := ⟨hb.os.trans h.bel.os, hb.tape.trans h.bel.tape, hb.output.trans h.bel.output, Nat.le_trans hsz hb.size, fun k hk => (hs k (by omega) (.inl (by omega))).trans (h.bel.block k hk)⟩ }
  obtain ⟨o, s, e⟩ := hl
  cases e
  omega
theorem TnAt.later {w V V' : World} {own : Nat → Prop} {cs : List Value} {x e : Int} {n : Nat} {l : List Pl.Pc} {ms : List Bool} {out : List Tm} {va : Option Addr} {vc : Nat} (h : TnAt w V own cs x e n l ms out va vc) (hb : Below V.heap.size V V') : TnAt w V' own cs x e n l ms out va vc := h.moved (below0 hb) (fun k hk _ => hb.block k hk)
/-- Of a receiver that lies there: one piece put. -/
theorem tn_put {w V : World} {own : Nat → Prop} {cs : List Value} {x e : Int} {n : Nat} {l : List Pl.Pc} {ms : List Bool} {out : List Tm} {va : Option Addr} {vc : Nat} (h : TnAt w V own cs x e n l ms out va vc) {la : Option Addr} {lc : Nat} {es : List En} (hP : PcsAt w la lc es) (hl : es.map En.pc = l) (hn : es.length = n) (hF : Fits l) (hcs : cs[2]? = some (.slice la n lc)) (i : Nat) (p : Pl.Pc) (hi : l[i]? = some p) (hL : (out.length + 1) * 16 ≤ 140737488355328) :
    Calls Try.prog 71 #[.int .i64 (i : Int), .pointer (some ⟨w.heap.size + 4, 0, none⟩), .pointer (some ⟨w.heap.size + 2, 0, none⟩), .pointer (some ⟨w.heap.size, 0, none⟩)] V fun e' V' => (∃ v, e' = .returned v) ∧ ∃ ms' va' vc', TnAt w V' (fun k => own k ∨ (V.heap.size ≤ k ∧ k < V'.heap.size)) cs x e n l ms' (putP out (p.1, Pl.pend p)) va' vc' ∧ Chg (fun k => k = w.heap.size + 3 ∨ k = w.heap.size + 2 ∨ lies va k) V V' := by
  have hil : i < l.length := (List.getElem?_eq_some_iff.1 hi).1
  have hin : i < n := by rw [← hn, ← List.length_map (f := En.pc), hl]; exact hil
  have hmk := h.mks i p hi
  by_cases hin2 : (p.1, Pl.pend p) ∈ out
  · have hf : ms[i]?.getD false = true := by rw [hmk]; simpa using hin2
    refine (put_old w.heap.size (w.heap.size + 4) (w.heap.size + 2) w.heap.size (w.heap.size + 3) n i ms V h.bs h.rm hin hf).mono ?_
    rintro e' V' ⟨hv, hb⟩
    refine ⟨hv, ms, va, vc, ?_, Chg.of_below hb⟩
    rw [putP, if_pos hin2]
    exact (h.later hb).mono (fun k hk => .inl hk)
  · have hf : ms[i]?.getD false = false := by rw [hmk]; simpa using hin2
    obtain ⟨y, hy⟩ : ∃ y, es[i]? = some y := ⟨es[i]'(by omega), List.getElem?_eq_getElem (by omega)⟩
    have hyp : y.pc = p := by
      have := hi
      rw [← hl, List.getElem?_map, hy] at this
      simpa using this
    obtain ⟨pb, po, hA, hc0, hc1⟩ := hP.ents i y hy
    subst hA
    have hpb := lt_of_cell hc0
    have hblk := h.bel.block pb hpb
    obtain ⟨lo, hlo, hlat, hlm⟩ := hF
    have hpm : p ∈ l := List.mem_of_getElem? hi
    have hbd := lat_from hlat p hpm
    have hfit : wrap64 (y.f + (y.bs.length : Int)) = Pl.pend p := by
      rw [← hyp]
      exact spW_fit (by rw [← hyp] at hbd; exact ⟨show 0 < y.pc.1 by omega, hbd.2, by have := hlm p hpm; rw [← hyp] at this; exact this⟩)
    refine (put_new w.heap.size (w.heap.size + 4) (w.heap.size + 2) w.heap.size (w.heap.size + 3) n i out.length vc lc va ms out cs pb po y (Pl.pend p) V h.bs h.bf h.box hcs h.rm h.rt h.bel.size hin hf ((World.cell?_of_block (w := w) hblk).trans hc0) ((World.cell?_of_block (w := w) hblk).trans hc1) hpb (by omega) hfit hL).mono ?_
    rintro e' V' ⟨hv, va', vc', q1, q2, q3, q4, q5⟩
    refine ⟨hv, ms.set i true, va', vc', ?_, q4⟩
    have hyf : y.f = p.1 := by rw [← hyp]; rfl
    rw [hyf] at q3
    have hsz := h.bel.size
    have hnl : ∀ (k : Nat) (t : TypeId), t ≠ 39 → (∃ cur fr, V.heap[k]? = some (.cells cur t fr)) → ¬ lies va k := fun k t ht ⟨cur, fr, e1⟩ hlk => by
      obtain ⟨_, _, _, cur2, e2⟩ := owns_lies h.rt hlk
      exact ht (is_type e1 e2)
    have hat : ¬ lies va (w.heap.size + 1) → Box V' (w.heap.size + 1) 39 [.int .i64 x, .int .i64 e] := fun h1 => (q4.same _ h.at'.lt (fun h2 => by rcases h2 with h2 | h2 | h2; omega; omega; exact h1 h2)).trans h.at'
    have e1 : putP out (p.1, Pl.pend p) = out ++ [(p.1, Pl.pend p)] := by rw [putP, if_neg hin2]
    have e2 : (out ++ [(p.1, Pl.pend p)]).length = out.length + 1 := by simp
    rw [e1]
    refine ⟨(q4.same _ h.box.lt (fun h2 => ?_)).trans h.box, ?_, by rw [e2]; exact q1, (q4.same _ h.bs.lt (fun h2 => ?_)).trans h.bs, (q4.same _ h.bp.lt (fun h2 => ?_)).trans h.bp, q2, by rw [e2]; exact q3, ?_, ?_, ?_, ?_⟩
    · rcases h2 with h2 | h2 | h2
      · omega
      · omega
      · exact hnl _ 46 (by decide) ⟨_, _, h.box⟩ h2
    · exact hat (fun hlk => by have := h.vn _ hlk; omega)
    · rcases h2 with h2 | h2 | h2
      · omega
      · omega
      · exact hnl _ 100 (by decide) ⟨_, _, h.bs⟩ h2
    · rcases h2 with h2 | h2 | h2
      · omega
      · omega
      · exact hnl _ 110 (by decide) ⟨_, _, h.bp⟩ h2
    · intro j q hq
      by_cases hji : j = i
      · subst hji
        rw [hi] at hq
        cases hq
        have hml := h.rm.len
        simp [hml, hin]
      · have h1 := h.mks j q hq
        rw [List.getElem?_set_ne (by omega), h1]
        have : ¬ (q.1, Pl.pend q) = (p.1, Pl.pend p) := fun e3 => hji (lat_inj hlat hq hi (by injection e3))
        simp [this]
    · intro k hk
      rcases q5 k hk with h1 | h1
      · exact .inl (h.vo k h1)
      · exact .inr ⟨h1, (owns_lies q3 hk).2.2.1⟩
    · intro k hk
      rcases q5 k hk with h1 | h1
      · exact h.vn k h1
      · have := h.bp.lt; omega
    · refine ⟨q4.flat.os.trans h.bel.os, q4.flat.tape.trans h.bel.tape, q4.flat.output.trans h.bel.output, Nat.le_trans hsz q4.flat.size, fun k hk => (q4.same k (by omega) (fun h2 => ?_)).trans (h.bel.block k hk)⟩
      rcases h2 with h2 | h2 | h2
      · omega
      · omega
      · have := (owns_lies h.rt h2).2.1; omega
end Go.Proofs.Ytdodagpkkjpdiaa
