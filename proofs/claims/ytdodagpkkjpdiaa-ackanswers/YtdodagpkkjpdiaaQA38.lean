/- Texts: InTurn. -/
import Derived.Test.YtdodagpkkjpdiaaQA37
import Derived.Laws.EntriesVeiled
namespace Go.Proofs.Ytdodagpkkjpdiaa
open Go.ChangeShapes Go.WideShapes Go.ChangeAt Go.RowKit
set_option linter.unusedVariables false
set_option linter.unusedSimpArgs false
open Go.Shelf
attribute [local go_sem] Oper.semAt_some
theorem turn_snoc (l : List Pl.Pc) (a : List Tm) (x : Tm) (out : List Tm) : turnL l (a ++ [x]) out = match holdP l x.1 with | none => turnL l a out | some p => putP (turnL l a out) (p.1, Pl.pend p) := by
  unfold turnL
  rw [List.foldl_append]
  rfl
theorem putP_len (out : List Tm) (s : Tm) : (putP out s).length ≤ out.length + 1 := by unfold putP; split <;> simp
set_option maxRecDepth 100000 in
set_option maxHeartbeats 8000000 in
theorem inTurn_any (r : Pl.Rv) (h : Hd) (x e : Int) (w : World) (H : RvAt w r h) (hF : Fits r.s.l) (F : List Tm) (hFF : turnL r.s.l r.first (match backP r.s.l x e with | none => [] | some p => [(p.1, Pl.pend p)]) = F) :
    Calls Try.prog 53 #[.agg #[.int .i64 r.s.n, .slice h.ua r.s.u.length h.uc, .slice h.la h.es.length h.lc, .int .i64 r.cap, .int .i64 r.shift, .int .i64 r.edge, .int .u32 r.recent, .bool r.stamps, .bool r.sacks, .int .i64 r.fin, .bool r.dn, .slice h.fa r.first.length h.fc, .int .u32 r.irs, .int .u32 r.own, .bool r.stamp], .agg #[.int .i64 x, .int .i64 e]] w fun e' w' => ∃ va vc, e' = .returned (.slice va F.length vc) ∧ RowT w' w.heap.size va F.length vc F ∧ Below w.heap.size w w' := by
  obtain ⟨i0, hi, hz0, hz1, hz2⟩ := info_parts Try.info4
  have hlr := H.late.reach
  have hfr := H.fst.reach
  have hX0 := Box.new w 46 (rvL r h)
  obtain ⟨n, hn⟩ : ∃ n, h.es.length = n := ⟨_, rfl⟩
  obtain ⟨m, hm⟩ : ∃ m, r.first.length = m := ⟨_, rfl⟩
  rw [hn] at hlr
  rw [hm] at hfr
  obtain ⟨W3, hW3⟩ : ∃ W3, ((w.alloc (.cells #[.int .i64 r.s.n, .slice h.ua r.s.u.length h.uc, .slice h.la h.es.length h.lc, .int .i64 r.cap, .int .i64 r.shift, .int .i64 r.edge, .int .u32 r.recent, .bool r.stamps, .bool r.sacks, .int .i64 r.fin, .bool r.dn, .slice h.fa r.first.length h.fc, .int .u32 r.irs, .int .u32 r.own, .bool r.stamp] 46)).alloc (.cells #[.int .i64 x, .int .i64 e] 39)).alloc (.cells #[.slice none 0 0] 29) = W3 := ⟨_, rfl⟩
  have b3 : Below w.heap.size w W3 := by rw [← hW3]; exact below_more (below_more (below_more (Below.refl _ _) _) _) _
  have s3 : W3.heap.size = w.heap.size + 3 := by rw [← hW3]; simp
  have hX3 : Box W3 w.heap.size 46 [.int .i64 r.s.n, .slice h.ua r.s.u.length h.uc, .slice h.la h.es.length h.lc, .int .i64 r.cap, .int .i64 r.shift, .int .i64 r.edge, .int .u32 r.recent, .bool r.stamps, .bool r.sacks, .int .i64 r.fin, .bool r.dn, .slice h.fa r.first.length h.fc, .int .u32 r.irs, .int .u32 r.own, .bool r.stamp] := by rw [← hW3]; exact Box.alloc (Box.alloc hX0 _) _
  have hA3 : Box W3 (w.heap.size + 1) 39 [.int .i64 x, .int .i64 e] := by rw [← hW3]; have := (Box.new (w.alloc (.cells (rvL r h).toArray 46)) 39 [.int .i64 x, .int .i64 e]).alloc (.cells #[.slice none 0 0] 29); rwa [World.size_alloc] at this
  have hf3 : Boxed W3 (w.heap.size + 2) 29 (.slice none 0 0) := by rw [← hW3]; have := Boxed.new ((w.alloc (.cells (rvL r h).toArray 46)).alloc (.cells #[.int .i64 x, .int .i64 e] 39)) 29 (.slice none 0 0); rwa [World.size_alloc, World.size_alloc] at this
  have hmk := fun W : World => run_make (P := Try.prog) W 100 4 i0 _ Try.underlying100 hi hz0 .i64 .i64 (n : Int) (n : Int) (by omega) (Int.le_refl _) (by rw [hz2]; omega) (by omega)
  simp only [Int.toNat_natCast, hz1] at hmk
  obtain ⟨mc, hmc⟩ : ∃ mc, madeCells (Value.bool false).cells (n * 1) = mc := ⟨_, rfl⟩
  simp only [hmc] at hmk
  obtain ⟨fv, hfv⟩ : ∃ fv, Value.func (.func 71) #[] #[.pointer (some ⟨w.heap.size + 4, 0, none⟩), .pointer (some ⟨w.heap.size + 2, 0, none⟩), .pointer (some ⟨w.heap.size, 0, none⟩)] = fv := ⟨_, rfl⟩
  obtain ⟨W4, hW4⟩ : ∃ W4, (W3.alloc (.cells mc 4)).alloc (.cells #[.slice (some ⟨w.heap.size + 3, 0, none⟩) n n] 100) = W4 := ⟨_, rfl⟩
  have b4 : Below W3.heap.size W3 W4 := by rw [← hW4]; exact below_more (below_more (Below.refl _ _) _) _
  have s4 : W4.heap.size = w.heap.size + 5 := by rw [← hW4]; simp [s3]
  have hbs4 : Boxed W4 (w.heap.size + 4) 100 (.slice (some ⟨w.heap.size + 3, 0, none⟩) n n) := by rw [← hW4]; have := Boxed.new (W3.alloc (.cells mc 4)) 100 (.slice (some ⟨w.heap.size + 3, 0, none⟩) n n); rwa [World.size_alloc, s3] at this
  have hst3 : RowM (W3.alloc (.cells mc 4)) w.heap.size (w.heap.size + 3) n (List.replicate n false) := by
    refine ⟨by simp, .inr ⟨_, n, mc, rfl, by omega, by have := heap_alloc_new W3 (.cells mc 4); rw [s3] at this; exact this, Nat.le_refl _, by unfold maxLen; omega, by rw [← hmc, size_madeCells], ?_⟩⟩
    rw [← made_bools, hmc]
    apply List.take_of_length_le
    rw [Array.length_toList, ← hmc, size_madeCells]
    exact Nat.le_refl _
  have hst4 : RowM W4 w.heap.size (w.heap.size + 3) n (List.replicate n false) := by rw [← hW4]; exact hst3.later (below_more (Below.refl _ _) _)
  obtain ⟨W5, hW5⟩ : ∃ W5, W4.alloc (.cells #[.func (.func 71) #[] #[.pointer (some ⟨w.heap.size + 4, 0, none⟩), .pointer (some ⟨w.heap.size + 2, 0, none⟩), .pointer (some ⟨w.heap.size, 0, none⟩)]] 110) = W5 := ⟨_, rfl⟩
  have b5 : Below W4.heap.size W4 W5 := by rw [← hW5]; exact below_more (Below.refl _ _) _
  have s5 : W5.heap.size = w.heap.size + 6 := by rw [← hW5]; simp [s4]
  have hbp5 : Boxed W5 (w.heap.size + 5) 110 (.func (.func 71) #[] #[.pointer (some ⟨w.heap.size + 4, 0, none⟩), .pointer (some ⟨w.heap.size + 2, 0, none⟩), .pointer (some ⟨w.heap.size, 0, none⟩)]) := by rw [← hW5]; have := Boxed.new W4 110 (.func (.func 71) #[] #[.pointer (some ⟨w.heap.size + 4, 0, none⟩), .pointer (some ⟨w.heap.size + 2, 0, none⟩), .pointer (some ⟨w.heap.size, 0, none⟩)]); rwa [s4] at this
  have b35 := Below.on b4 b5
  have hT5 : TnAt w W5 (fun _ => False) [.int .i64 r.s.n, .slice h.ua r.s.u.length h.uc, .slice h.la h.es.length h.lc, .int .i64 r.cap, .int .i64 r.shift, .int .i64 r.edge, .int .u32 r.recent, .bool r.stamps, .bool r.sacks, .int .i64 r.fin, .bool r.dn, .slice h.fa r.first.length h.fc, .int .u32 r.irs, .int .u32 r.own, .bool r.stamp] x e n r.s.l (List.replicate n false) [] none 0 := by
    refine ⟨hX3.later b35, hA3.later b35, boxed_bel hf3 b35 hf3.lt, boxed_bel hbs4 b5 hbs4.lt, hbp5, hst4.later b5, RowT.nil _ _, fun j p hj => ?_, fun k hk => (by obtain ⟨_, _, e1⟩ := hk; cases e1), fun k hk => (by obtain ⟨_, _, e1⟩ := hk; cases e1), Below.on b3 b35⟩
    have hjn : j < n := by rw [← hn, ← H.len]; exact (List.getElem?_eq_some_iff.1 hj).1
    simp [hjn]
  obtain ⟨W0, hW0⟩ : ∃ W0, W5.alloc (.cells #[.slice h.la n h.lc] 44) = W0 := ⟨_, rfl⟩
  have b6 : Below W5.heap.size W5 W0 := by rw [← hW0]; exact below_more (Below.refl _ _) _
  have hs0 : W0.heap.size = w.heap.size + 7 := by rw [← hW0]; simp [s5]
  have hbk : W0.cell? ⟨W5.heap.size, 0, none⟩ = some (.slice h.la n h.lc) := by rw [← hW0]; exact (Boxed.new W5 44 (.slice h.la n h.lc)).cell
  have hT0 := hT5.later b6
  have cBk := back_in h.la n h.lc W5
  rw [hW0] at cBk
  have hseq := back_deep 5 W5.heap.size h.lc n h.la h.es w W0 H.late.ents hn (by omega) hT0.bel hbk
  have HH : Hid (RvAt w r h ∧ Fits r.s.l ∧ h.es.length = n ∧ r.first.length = m ∧ turnL r.s.l r.first (match backP r.s.l x e with | none => [] | some p => [(p.1, Pl.pend p)]) = F) := ⟨H, hF, hn, hm, hFF⟩
  have k2 : W3.cell? ⟨w.heap.size, 2, none⟩ = some (.slice h.la n h.lc) := by have := hX3.cell 2 rfl; rw [hn] at this; exact this
  have k2' : W5.cell? ⟨w.heap.size, 2, none⟩ = some (.slice h.la n h.lc) := by have := hT5.box.cell 2 rfl; rw [hn] at this; exact this
  have hws : W5.heap.size = w.heap.size + 6 := s5
  clear H hF hFF hX0 b3 hX3 hA3 hf3 b4 hbs4 hst3 hst4 b5 s5 hbp5 b35 hT5 b6 hbk hfv hmc
  rw [hn, hm] at hW3 ⊢
  clear hn hm
  have HS4 : Hid (W4.heap.size = w.heap.size + 5 ∧ W5.heap.size = w.heap.size + 6) := ⟨s4, hws⟩
  have hW5' : W4.alloc (.cells #[.func (.func 71) #[] #[.pointer (some ⟨w.heap.size + 3 + 1, 0, none⟩), .pointer (some ⟨w.heap.size + 1 + 1, 0, none⟩), .pointer (some ⟨w.heap.size, 0, none⟩)]] 110) = W5 := hW5
  clear hW5 s4 hws
  refine (callsIn_wide (n := 6)).1 ?_
  refine callsIn_of_wp_marks Try.func53 rfl trivial ?_ rfl
  simp only [Try.ntmps53, List.size_toArray, List.length_cons, List.length_nil, Nat.reduceAdd, Nat.reduceSub, Array.replicate_succ, Array.replicate_zero, List.push_toArray, List.append_toArray, List.nil_append, List.cons_append]
  gi_wp2_with (refine ⟨trivial, ?_⟩; gi_at_call 72; refine (callsIn_wide.2 cBk).mono ?_; rintro e' w' ⟨rfl, hw'⟩; obtain rfl := hw'.symm)
  clear hW3 hW4 hW5' hW0 hmk k2 k2' cBk s3
  have HT0 : Hid (TnAt w W0 (fun _ => False) [.int .i64 r.s.n, .slice h.ua r.s.u.length h.uc, .slice h.la h.es.length h.lc, .int .i64 r.cap, .int .i64 r.shift, .int .i64 r.edge, .int .u32 r.recent, .bool r.stamps, .bool r.sacks, .int .i64 r.fin, .bool r.dn, .slice h.fa r.first.length h.fc, .int .u32 r.irs, .int .u32 r.own, .bool r.stamp] x e n r.s.l (List.replicate n false) [] none 0 ∧ W0.heap.size = w.heap.size + 7) := ⟨hT0, hs0⟩
  have hh0 : W0.heap.size = w.heap.size + 7 := hs0
  have hw5s := HS4.out.2
  refine wpIn_deep (F := Fence.wide) (n := 6) rfl (by omega) (gf := 79) (lb := #[.pointer (some ⟨W5.heap.size, 0, none⟩)]) rfl trivial (enters_of Try.func79 (by kernel_rfl) rfl) hseq (Below.refl _ _) (fun _ => by exact rfl)
    (fun k hk => by rcases hk with ⟨_, hk⟩ | hk <;> omega)
    (fun pre Z V => TnAt w V (fun k => Z k ∨ k < W0.heap.size) [.int .i64 r.s.n, .slice h.ua r.s.u.length h.uc, .slice h.la h.es.length h.lc, .int .i64 r.cap, .int .i64 r.shift, .int .i64 r.edge, .int .u32 r.recent, .bool r.stamps, .bool r.sacks, .int .i64 r.fin, .bool r.dn, .slice h.fa r.first.length h.fc, .int .u32 r.irs, .int .u32 r.own, .bool r.stamp] x e n r.s.l (List.replicate n false) [] none 0 ∧ ∀ j p, j ∈ pre → r.s.l[j]? = some p → ¬ meets x e p)
    (fun c pre Z V => c = .exit 0 ∧ ∃ p0 j p ms va vc, pre = p0 ++ [j] ∧ (∀ i q, i ∈ p0 → r.s.l[i]? = some q → ¬ meets x e q) ∧ r.s.l[j]? = some p ∧ meets x e p ∧ TnAt w V (fun k => Z k ∨ k < W0.heap.size) [.int .i64 r.s.n, .slice h.ua r.s.u.length h.uc, .slice h.la h.es.length h.lc, .int .i64 r.cap, .int .i64 r.shift, .int .i64 r.edge, .int .u32 r.recent, .bool r.stamps, .bool r.sacks, .int .i64 r.fin, .bool r.dn, .slice h.fa r.first.length h.fc, .int .u32 r.irs, .int .u32 r.own, .bool r.stamp] x e n r.s.l ms [(p.1, Pl.pend p)] va vc)
    ?hI ?hIx ⟨hT0.mono (fun k h => h.elim), fun j p h => by cases h⟩ ?round ?done ?stop
  case hI =>
    rintro pre Z X Y ⟨h1, h2⟩ hA
    exact ⟨h1.moved hA.flat (fun k hk ho => hA.same k hk (by rcases ho with h | h | h; exact .inl (by omega); exact .inr h; exact .inl h)), h2⟩
  case hIx =>
    rintro c pre Z X Y ⟨hc, p0, j, p, ms, va, vc, h1, h2, h3, h4, h5⟩ hA
    exact ⟨hc, p0, j, p, ms, va, vc, h1, h2, h3, h4, h5.moved hA.flat (fun k hk ho => hA.same k hk (by rcases ho with h | h | h; exact .inl (by omega); exact .inr h; exact .inl h))⟩
  case round =>
    rintro lp pre j Z W1 hl hll hz ⟨hT1, hpre⟩ hG
    have hjr : j ∈ revI n 0 := hG.subset (by simp)
    have hjn : j < n := (rev_mem.1 hjr).2
    have hje : j < h.es.length := by rw [HH.out.2.2.1]; exact hjn
    obtain ⟨y, hy⟩ : ∃ y, h.es[j]? = some y := ⟨h.es[j]'hje, List.getElem?_eq_getElem hje⟩
    have hlj : r.s.l[j]? = some y.pc := by rw [← HH.out.1.les, List.getElem?_map, hy]; rfl
    have henc : encB h.es j = #[.int .i64 (j : Int), .agg #[.int .i64 y.f, .slice y.a y.bs.length y.c]] := by unfold encB; rw [hy]; rfl
    rw [henc]
    obtain ⟨t, ht⟩ : ∃ t, Pl.pend y.pc = t := ⟨_, rfl⟩
    have hbd := HH.out.2.1.bd (List.mem_of_getElem? hlj)
    have cS := fun W => spanOf_walk y.f y.a y.bs.length y.c W t (by rw [← ht]; exact spW_fit hbd)
    have HJ : Hid (r.s.l[j]? = some y.pc ∧ Pl.pend y.pc = t ∧ (∀ i q, i ∈ pre → r.s.l[i]? = some q → ¬ meets x e q)) := ⟨hlj, ht, fun i q h1 h2 => hpre i q h1 h2⟩
    have HZ : Hid (∀ k, Z k → W0.heap.size ≤ k ∧ k < W1.heap.size ∧ k ≠ lp) := hz
    clear hT0 hseq hpre hG hjr hje hy hlj henc hbd hz
    unfold RoundOwes
    gi_wp2
    refine ⟨Mine.alloc (fun k hk => (HZ.out k hk).2.1) _, ?_⟩
    intro W2 hg2 hr2
    have hs2 : W1.heap.size + 1 ≤ W2.heap.size := by have := hg2.size; simp at this; exact this
    have hT2 : TnAt w W2 (fun k => Z k ∨ k < W0.heap.size) [.int .i64 r.s.n, .slice h.ua r.s.u.length h.uc, .slice h.la h.es.length h.lc, .int .i64 r.cap, .int .i64 r.shift, .int .i64 r.edge, .int .u32 r.recent, .bool r.stamps, .bool r.sacks, .int .i64 r.fin, .bool r.dn, .slice h.fa r.first.length h.fc, .int .u32 r.irs, .int .u32 r.own, .bool r.stamp] x e n r.s.l (List.replicate n false) [] none 0 := by
      refine hT1.moved (below0 (below_more (Below.refl _ _) _) |>.trans ⟨hg2.os, hg2.tape, hg2.output, hg2.size, fun k hk => by omega⟩) (fun k hk ho => (hg2.block k (by simp; omega) (fun e1 => ?_)).trans (Below.heap_alloc _ _ _ hk))
      cases e1
      rcases ho with h1 | h1 | h1
      · omega
      · exact (HZ.out _ h1).2.2 rfl
      · omega
    have hp2 : Box W2 W1.heap.size 53 [.int .i64 y.f, .slice y.a y.bs.length y.c] := (hg2.block W1.heap.size (by simp) (fun e1 => by cases e1; omega)).trans (Box.new W1 53 [.int .i64 y.f, .slice y.a y.bs.length y.c])
    have hZ2 : ∀ k, Z k → k < W2.heap.size := fun k hk => by have := (HZ.out k hk).2.1; omega
    have cP0 := hp2.cell 0 rfl
    have cP1 := hp2.cell 1 rfl
    have HT2 : Hid (TnAt w W2 (fun k => Z k ∨ k < W0.heap.size) [.int .i64 r.s.n, .slice h.ua r.s.u.length h.uc, .slice h.la h.es.length h.lc, .int .i64 r.cap, .int .i64 r.shift, .int .i64 r.edge, .int .u32 r.recent, .bool r.stamps, .bool r.sacks, .int .i64 r.fin, .bool r.dn, .slice h.fa r.first.length h.fc, .int .u32 r.irs, .int .u32 r.own, .bool r.stamp] x e n r.s.l (List.replicate n false) [] none 0 ∧ (∀ k, Z k → k < W2.heap.size) ∧ W0.heap.size ≤ W2.heap.size) := ⟨hT2, hZ2, by omega⟩
    obtain ⟨mx, hmx⟩ : ∃ mx, (if y.f < x then x else y.f) = mx := ⟨_, rfl⟩
    obtain ⟨mn, hmn⟩ : ∃ mn, (if e < t then e else t) = mn := ⟨_, rfl⟩
    have hmeet : meets x e y.pc ↔ mx < mn := by
      unfold meets Pl.maxJ Pl.minJ
      rw [ht, hmn]
      show (if y.f < x then x else y.f) < mn ↔ _
      rw [hmx]
    have HME : Hid (meets x e y.pc ↔ mx < mn) := hmeet
    clear hT1 hg2 hr2 hT2 hp2 hZ2 hmeet ht
    by_cases hlt : mx < mn
    · gi_wp2_with (first
        | (refine ⟨trivial, ?_⟩; gi_at_call 64; refine (callsIn_round (cS _)).mono ?_; rintro e' W3 ⟨rfl, hB3⟩; have HB3 : Hid (Below W2.heap.size W2 W3) := hB3; have hb0 := (HT2.out.1.later (below_more hB3 (.cells #[.int .i64 y.f, .int .i64 t] 39))); have a0 := hb0.at'.cell 0 rfl; have a1 := hb0.at'.cell 1 rfl; have ap : (W3.alloc (.cells #[.int .i64 y.f, .int .i64 t] 39)).cell? ⟨W4.heap.size, 0, none⟩ = some (.func (.func 71) #[] #[.pointer (some ⟨w.heap.size + 4, 0, none⟩), .pointer (some ⟨w.heap.size + 2, 0, none⟩), .pointer (some ⟨w.heap.size, 0, none⟩)]) := (by rw [HS4.out.1]; exact hb0.bp.cell); have cPut := tn_put hb0 HH.out.1.late HH.out.1.les HH.out.2.2.1 HH.out.2.1 (by rw [← HH.out.2.2.1]; rfl) j y.pc HJ.out.1 (by simp); clear hB3 hb0)
        | (refine ⟨trivial, ?_⟩; gi_at_call 71; refine (callsIn_round cPut).mono ?_; rintro e' V' ⟨⟨v, rfl⟩, ms', va', vc', hT', hC'⟩; have HT' : Hid (_ ∧ _) := ⟨hT', hC'⟩; clear hT' hC'))
      obtain ⟨hT', hC'⟩ := HT'.out
      have hb3 := HB3.out.size
      have hCC : Chg (fun k => k = w.heap.size + 3 ∨ k = w.heap.size + 2) W2 V' := (Chg.of_below (below_more HB3.out _)).trans (hC'.mono (fun k _ hk => by rcases hk with h1 | h1 | ⟨_, _, h1⟩; exact .inl h1; exact .inr h1; cases h1))
      refine ⟨_, Mine.of_chg (Z := Z) hCC (fun k hk => .inr ⟨by rcases hk with h1 | h1 <;> omega, fun hR => by rcases hR with ⟨_, h2⟩ | h2 <;> rcases hk with h1 | h1 <;> omega⟩) HT2.out.2.1, rfl, pre, j, y.pc, ms', va', vc', rfl, HJ.out.2.2, HJ.out.1, HME.out.2 hlt, ?_⟩
      · have e1 : putP [] (y.pc.1, Pl.pend y.pc) = [(y.pc.1, Pl.pend y.pc)] := rfl
        rw [e1] at hT'
        refine hT'.mono (fun k hk => ?_)
        rcases hk with (h1 | h1) | h1
        · exact .inl (.inl h1)
        · exact .inr h1
        · exact .inl (.inr ⟨by have := h1.1; simp at this; omega, h1.2⟩)
    · have HNL : Hid (¬ mx < mn) := hlt
      gi_wp2_with (refine ⟨trivial, ?_⟩; gi_at_call 64; refine (callsIn_round (cS _)).mono ?_; rintro e' W3 ⟨rfl, hB3⟩; have HB3 : Hid (Below W2.heap.size W2 W3) := hB3; have hb0 := (HT2.out.1.later (below_more hB3 (.cells #[.int .i64 y.f, .int .i64 t] 39))); have a0 := hb0.at'.cell 0 rfl; have a1 := hb0.at'.cell 1 rfl; clear hB3 hb0)
      have hb3 := below_more HB3.out (.cells #[.int .i64 y.f, .int .i64 t] 39)
      refine ⟨Z, ⟨below0 hb3, fun k hk => .inl hk, fun k hk => Nat.lt_of_lt_of_le (HT2.out.2.1 k hk) hb3.size, fun k hk _ _ => hb3.block k hk⟩, HT2.out.1.later hb3, fun i q hi hq => ?_⟩
      rcases List.mem_append.1 hi with h1 | h1
      · exact HJ.out.2.2 i q h1 hq
      · simp at h1
        subst h1
        rw [HJ.out.1] at hq
        cases hq
        exact fun h2 => by have h3 := HME.out.1 h2; have h4 := HNL.out; omega
  case done =>
    rintro D ys Z V hD hz rfl ⟨hT1, hpre⟩ hK
    have hback : backP r.s.l x e = none := back_none' (fun j p hj => hpre j p (rev_mem.2 ⟨Nat.zero_le _, by rw [← HH.out.2.2.1, ← HH.out.1.len]; exact (List.getElem?_eq_some_iff.1 hj).1⟩) hj)
    obtain ⟨out0, hout0⟩ : ∃ out0 : List Tm, [] = out0 := ⟨_, rfl⟩
    have HO : Hid (turnL r.s.l r.first out0 = F ∧ out0.length ≤ 1) := by
      have h1 := HH.out.2.2.2.2
      rw [hback] at h1
      exact ⟨by rw [← hout0]; exact h1, by rw [← hout0]; simp⟩
    have HT1 : Hid (∃ ms va vc, TnAt w V (fun _ => True) [.int .i64 r.s.n, .slice h.ua r.s.u.length h.uc, .slice h.la h.es.length h.lc, .int .i64 r.cap, .int .i64 r.shift, .int .i64 r.edge, .int .u32 r.recent, .bool r.stamps, .bool r.sacks, .int .i64 r.fin, .bool r.dn, .slice h.fa r.first.length h.fc, .int .u32 r.irs, .int .u32 r.own, .bool r.stamp] x e n r.s.l ms out0 va vc) := ⟨_, _, _, by rw [← hout0]; exact hT1.mono (fun _ _ => trivial)⟩
    clear hT0 hseq hT1 hpre hback hout0 hz
    have HK : Hid (V.heap[D]? = some (.deferred (some []))) := hK
    have hDw : w.heap.size ≤ D := by omega
    clear hK hw5s hh0 hs0 hD
    obtain ⟨ms, va, vc, hTV⟩ := HT1.out
    obtain ⟨fa, hfa0⟩ : ∃ fa, h.fa = fa := ⟨_, rfl⟩
    have HFA : Hid (TimsAt w fa r.first) := by rw [← hfa0]; exact HH.out.1.fst.tims
    have k11 : V.cell? ⟨w.heap.size, 11, none⟩ = some (.slice fa m h.fc) := by have := hTV.box.cell 11 rfl; rw [HH.out.2.2.2.1, hfa0] at this; exact this
    clear hfa0
    clear hTV
    gi_wp2
    clear k11
    gi_loopw [44] (fun vi wr => ∃ (i : Nat) (out : List Tm), vi = .int .i64 i ∧ i ≤ m ∧ Hid ((∃ ms va vc, TnAt w wr (fun _ => True) [.int .i64 r.s.n, .slice h.ua r.s.u.length h.uc, .slice h.la h.es.length h.lc, .int .i64 r.cap, .int .i64 r.shift, .int .i64 r.edge, .int .u32 r.recent, .bool r.stamps, .bool r.sacks, .int .i64 r.fin, .bool r.dn, .slice h.fa r.first.length h.fc, .int .u32 r.irs, .int .u32 r.own, .bool r.stamp] x e n r.s.l ms out va vc) ∧ out = turnL r.s.l (r.first.take i) out0 ∧ out.length ≤ i + 1 ∧ wr.heap[D]? = some (.deferred (some []))))
      (fun vi _ => m - (intOf vi).toNat)
    case atStart => exact ⟨0, out0, rfl, Nat.zero_le _, HT1.out, by simp [turnL], HO.out.2, HK.out⟩
    case round =>
      clear HT1 HK ms va vc
      obtain ⟨i, out, rfl, him, HI⟩ := hrel
      by_cases hlt : i < m
      · obtain ⟨⟨ms, va, vc, hT⟩, hout, hol, hD'⟩ := HI.out
        obtain ⟨b, o, hfa, hc0, hc1⟩ := (HFA.out.later hT.bel).2 i (by rw [HH.out.2.2.2.1]; exact hlt)
        obtain ⟨a, ha⟩ : ∃ a, r.first[i]?.getD (0, 0) = a := ⟨_, rfl⟩
        rw [ha] at hc0 hc1
        have htk : r.first.take (i + 1) = r.first.take i ++ [a] := take_snoc (by rw [HH.out.2.2.2.1]; exact hlt) ha
        have hbA : Below wr.heap.size wr (wr.alloc (.cells #[.int .i64 a.1, .int .i64 a.2] 39)) := below_more (Below.refl _ _) _
        have hTA := hT.later hbA
        have kL : (wr.alloc (.cells #[.int .i64 a.1, .int .i64 a.2] 39)).cell? ⟨w.heap.size, 2, none⟩ = some (.slice h.la n h.lc) := by have := hTA.box.cell 2 rfl; rw [HH.out.2.2.1] at this; exact this
        have cH := holder_any h.la h.lc h.es a.1 (wr.alloc (.cells #[.int .i64 a.1, .int .i64 a.2] 39)) (HH.out.1.late.later hTA.bel) (by rw [HH.out.1.les]; exact HH.out.2.1)
        rw [HH.out.2.2.1, HH.out.1.les] at cH
        obtain ⟨X, hX⟩ : ∃ X, hix r.s.l a.1 = X := ⟨_, rfl⟩
        rw [hX] at cH
        have HA : Hid (r.first.take (i + 1) = r.first.take i ++ [a] ∧ out = turnL r.s.l (r.first.take i) out0 ∧ out.length ≤ i + 1 ∧ hix r.s.l a.1 = X ∧ wr.heap[D]? = some (.deferred (some []))) := ⟨htk, hout, hol, hX, hD'⟩
        have HTA : Hid (TnAt w (wr.alloc (.cells #[.int .i64 a.1, .int .i64 a.2] 39)) (fun _ => True) [.int .i64 r.s.n, .slice h.ua r.s.u.length h.uc, .slice h.la h.es.length h.lc, .int .i64 r.cap, .int .i64 r.shift, .int .i64 r.edge, .int .u32 r.recent, .bool r.stamps, .bool r.sacks, .int .i64 r.fin, .bool r.dn, .slice h.fa r.first.length h.fc, .int .u32 r.irs, .int .u32 r.own, .bool r.stamp] x e n r.s.l ms out va vc ∧ Below wr.heap.size wr (wr.alloc (.cells #[.int .i64 a.1, .int .i64 a.2] 39))) := ⟨hTA, hbA⟩
        have hii : (i : Int) < (m : Int) := by omega
        subst hfa
        cases hfnd : hfd r.s.l a.1 with
        | false =>
          rw [hfnd] at cH
          have hho : holdP r.s.l a.1 = none := by unfold holdP; rw [hfnd]; rfl
          have HHO : Hid (turnL r.s.l (r.first.take (i + 1)) out0 = out) := by unfold Hid; rw [htk, turn_snoc, hho, ← hout]
          clear HI hT hout hol hD' ha htk hbA hTA hX hfnd hho
          gi_wp2_with (refine ⟨trivial, ?_⟩; gi_at_call 63; refine (callsIn_wide.2 cH).mono ?_; rintro e' w1 ⟨rfl, hB1⟩; have HB1 : Hid (_ ) := hB1; clear hB1)
          go_roundw
          case rel => exact ⟨i + 1, out, by go_num, by omega, ⟨ms, va, vc, HTA.out.1.later HB1.out⟩, HHO.out.symm, by have := HA.out.2.2.1; omega, (HB1.out.block D (by have := (Array.getElem?_eq_some_iff.1 HA.out.2.2.2.2).1; simp; omega)).trans ((HTA.out.2.block D (Array.getElem?_eq_some_iff.1 HA.out.2.2.2.2).1).trans HA.out.2.2.2.2)⟩
          case measure => simp [intOf]; omega
        | true =>
          rw [hfnd] at cH
          obtain ⟨p, hp⟩ : ∃ p, r.s.l[X]? = some p := by
            unfold hfd at hfnd
            rw [hX] at hfnd
            cases hq : r.s.l[X]? with
            | none => rw [hq] at hfnd; cases hfnd
            | some p => exact ⟨p, rfl⟩
          have hho : holdP r.s.l a.1 = some p := by unfold holdP; rw [hfnd, hX]; exact hp
          have HHO : Hid (turnL r.s.l (r.first.take (i + 1)) out0 = putP out (p.1, Pl.pend p)) := by unfold Hid; rw [htk, turn_snoc, hho, ← hout]
          clear HI hT hout hD' ha htk hbA hTA hX hfnd hho
          gi_wp2_with (first
            | (refine ⟨trivial, ?_⟩; gi_at_call 63; refine (callsIn_wide.2 cH).mono ?_; rintro e' w1 ⟨rfl, hB1⟩; have HB1 : Hid (_ ) := hB1; have ap : w1.cell? ⟨W4.heap.size, 0, none⟩ = some (.func (.func 71) #[] #[.pointer (some ⟨w.heap.size + 4, 0, none⟩), .pointer (some ⟨w.heap.size + 2, 0, none⟩), .pointer (some ⟨w.heap.size, 0, none⟩)]) := (by rw [HS4.out.1]; exact (HTA.out.1.later hB1).bp.cell); have cPut := tn_put (HTA.out.1.later hB1) HH.out.1.late HH.out.1.les HH.out.2.2.1 HH.out.2.1 (by rw [← HH.out.2.2.1]; rfl) X p hp (by omega); clear hB1)
            | (refine ⟨trivial, ?_⟩; gi_at_call 71; refine (callsIn_wide.2 cPut).mono ?_; rintro e' V' ⟨⟨v, rfl⟩, ms', va', vc', hT', hC'⟩; have HT' : Hid (_ ∧ _) := ⟨hT', hC'⟩; clear hT' hC'))
          obtain ⟨hT', hC'⟩ := HT'.out
          have hDA := HA.out.2.2.2.2
          have hDlt := (Array.getElem?_eq_some_iff.1 hDA).1
          have hD1 : w1.heap[D]? = some (.deferred (some [])) := (HB1.out.block D (by simp; omega)).trans ((HTA.out.2.block D hDlt).trans hDA)
          have hT1 := HTA.out.1.later HB1.out
          have hDV : V'.heap[D]? = some (.deferred (some [])) := (hC'.same D (Array.getElem?_eq_some_iff.1 hD1).1 (fun h1 => by
            rcases h1 with h1 | h1 | h1
            · obtain ⟨_, _, _, cur, e1⟩ := owns_lies hT1.rm (k := w.heap.size + 3) ⟨_, _, rfl⟩
              rw [← h1, hD1] at e1; cases e1
            · have e1 := hT1.bf
              rw [← h1] at e1
              have e2 : w1.heap[D]? = _ := e1
              rw [hD1] at e2; cases e2
            · obtain ⟨_, _, _, cur, e1⟩ := owns_lies hT1.rt h1
              rw [hD1] at e1; cases e1)).trans hD1
          go_roundw
          case rel => exact ⟨i + 1, putP out (p.1, Pl.pend p), by go_num, by omega, ⟨ms', va', vc', hT'.mono (fun _ _ => trivial)⟩, HHO.out.symm, by have := HA.out.2.2.1; have := putP_len out (p.1, Pl.pend p); omega, hDV⟩
          case measure => simp [intOf]; omega
      · obtain rfl : i = m := by omega
        obtain ⟨⟨ms, va, vc, hT⟩, hout, hol, hD'⟩ := HI.out
        have hoF : out = F := by rw [hout, List.take_of_length_le (by rw [HH.out.2.2.2.1]; exact Nat.le_refl _)]; exact HO.out.1
        have kf : wr.cell? ⟨w.heap.size + 1 + 1, 0, none⟩ = some (.slice va out.length vc) := hT.bf.cell
        have HOF : Hid (out = F) := hoF
        clear HI hout hoF
        gi_wp2
        refine ⟨by simp, .inl ⟨_, _, rfl, run_takeDeferred hD', ?_⟩⟩
        rw [← HOF.out]
        refine ⟨_, results_tmp rfl _ _ _, va, vc, rfl, ownsRow_putObj hT.rt _ hD' rfl, hT.bel.trans (belowK_b (w := w) (Nat.le_refl _) _ D _ _ (by omega) hD' rfl rfl)⟩
  case stop =>
    rintro D c pre Z V hD hz hpre ⟨rfl, p0, j, p, ms, va, vc, rfl, hp0, hj, hmt, hT1⟩ hK
    obtain ⟨k, hk1, hk2⟩ := rev_inj hpre
    have hjr : j ∈ revI n k := by rw [← hk2]; simp
    have hback : backP r.s.l x e = some p := by
      refine back_at hj hmt (fun i q hi hq => ?_)
      have hin : i < n := by rw [← HH.out.2.2.1, ← HH.out.1.len]; exact (List.getElem?_eq_some_iff.1 hq).1
      have him : i ∈ p0 ++ [j] := by rw [hk2]; exact rev_mem.2 ⟨by have := (rev_mem.1 hjr).1; omega, hin⟩
      rcases List.mem_append.1 him with h1 | h1
      · exact hp0 i q h1 hq
      · simp at h1; omega
    obtain ⟨out0, hout0⟩ : ∃ out0 : List Tm, [(p.1, Pl.pend p)] = out0 := ⟨_, rfl⟩
    have HO : Hid (turnL r.s.l r.first out0 = F ∧ out0.length ≤ 1) := by
      have h1 := HH.out.2.2.2.2
      rw [hback] at h1
      exact ⟨by rw [← hout0]; exact h1, by rw [← hout0]; simp⟩
    have HT1 : Hid (∃ ms va vc, TnAt w V (fun _ => True) [.int .i64 r.s.n, .slice h.ua r.s.u.length h.uc, .slice h.la h.es.length h.lc, .int .i64 r.cap, .int .i64 r.shift, .int .i64 r.edge, .int .u32 r.recent, .bool r.stamps, .bool r.sacks, .int .i64 r.fin, .bool r.dn, .slice h.fa r.first.length h.fc, .int .u32 r.irs, .int .u32 r.own, .bool r.stamp] x e n r.s.l ms out0 va vc) := ⟨_, _, _, by rw [← hout0]; exact hT1.mono (fun _ _ => trivial)⟩
    clear hT0 hseq hT1 hpre hback hout0 hz hp0 hj hmt hk1 hk2 hjr
    have HK : Hid (V.heap[D]? = some (.deferred (some []))) := hK
    have hDw : w.heap.size ≤ D := by omega
    clear hK hw5s hh0 hs0 hD
    obtain ⟨ms, va, vc, hTV⟩ := HT1.out
    obtain ⟨fa, hfa0⟩ : ∃ fa, h.fa = fa := ⟨_, rfl⟩
    have HFA : Hid (TimsAt w fa r.first) := by rw [← hfa0]; exact HH.out.1.fst.tims
    have k11 : V.cell? ⟨w.heap.size, 11, none⟩ = some (.slice fa m h.fc) := by have := hTV.box.cell 11 rfl; rw [HH.out.2.2.2.1, hfa0] at this; exact this
    clear hfa0
    clear hTV
    gi_wp2
    clear k11
    gi_loopw [44] (fun vi wr => ∃ (i : Nat) (out : List Tm), vi = .int .i64 i ∧ i ≤ m ∧ Hid ((∃ ms va vc, TnAt w wr (fun _ => True) [.int .i64 r.s.n, .slice h.ua r.s.u.length h.uc, .slice h.la h.es.length h.lc, .int .i64 r.cap, .int .i64 r.shift, .int .i64 r.edge, .int .u32 r.recent, .bool r.stamps, .bool r.sacks, .int .i64 r.fin, .bool r.dn, .slice h.fa r.first.length h.fc, .int .u32 r.irs, .int .u32 r.own, .bool r.stamp] x e n r.s.l ms out va vc) ∧ out = turnL r.s.l (r.first.take i) out0 ∧ out.length ≤ i + 1 ∧ wr.heap[D]? = some (.deferred (some []))))
      (fun vi _ => m - (intOf vi).toNat)
    case atStart => exact ⟨0, out0, rfl, Nat.zero_le _, HT1.out, by simp [turnL], HO.out.2, HK.out⟩
    case round =>
      clear HT1 HK ms va vc
      obtain ⟨i, out, rfl, him, HI⟩ := hrel
      by_cases hlt : i < m
      · obtain ⟨⟨ms, va, vc, hT⟩, hout, hol, hD'⟩ := HI.out
        obtain ⟨b, o, hfa, hc0, hc1⟩ := (HFA.out.later hT.bel).2 i (by rw [HH.out.2.2.2.1]; exact hlt)
        obtain ⟨a, ha⟩ : ∃ a, r.first[i]?.getD (0, 0) = a := ⟨_, rfl⟩
        rw [ha] at hc0 hc1
        have htk : r.first.take (i + 1) = r.first.take i ++ [a] := take_snoc (by rw [HH.out.2.2.2.1]; exact hlt) ha
        have hbA : Below wr.heap.size wr (wr.alloc (.cells #[.int .i64 a.1, .int .i64 a.2] 39)) := below_more (Below.refl _ _) _
        have hTA := hT.later hbA
        have kL : (wr.alloc (.cells #[.int .i64 a.1, .int .i64 a.2] 39)).cell? ⟨w.heap.size, 2, none⟩ = some (.slice h.la n h.lc) := by have := hTA.box.cell 2 rfl; rw [HH.out.2.2.1] at this; exact this
        have cH := holder_any h.la h.lc h.es a.1 (wr.alloc (.cells #[.int .i64 a.1, .int .i64 a.2] 39)) (HH.out.1.late.later hTA.bel) (by rw [HH.out.1.les]; exact HH.out.2.1)
        rw [HH.out.2.2.1, HH.out.1.les] at cH
        obtain ⟨X, hX⟩ : ∃ X, hix r.s.l a.1 = X := ⟨_, rfl⟩
        rw [hX] at cH
        have HA : Hid (r.first.take (i + 1) = r.first.take i ++ [a] ∧ out = turnL r.s.l (r.first.take i) out0 ∧ out.length ≤ i + 1 ∧ hix r.s.l a.1 = X ∧ wr.heap[D]? = some (.deferred (some []))) := ⟨htk, hout, hol, hX, hD'⟩
        have HTA : Hid (TnAt w (wr.alloc (.cells #[.int .i64 a.1, .int .i64 a.2] 39)) (fun _ => True) [.int .i64 r.s.n, .slice h.ua r.s.u.length h.uc, .slice h.la h.es.length h.lc, .int .i64 r.cap, .int .i64 r.shift, .int .i64 r.edge, .int .u32 r.recent, .bool r.stamps, .bool r.sacks, .int .i64 r.fin, .bool r.dn, .slice h.fa r.first.length h.fc, .int .u32 r.irs, .int .u32 r.own, .bool r.stamp] x e n r.s.l ms out va vc ∧ Below wr.heap.size wr (wr.alloc (.cells #[.int .i64 a.1, .int .i64 a.2] 39))) := ⟨hTA, hbA⟩
        have hii : (i : Int) < (m : Int) := by omega
        subst hfa
        cases hfnd : hfd r.s.l a.1 with
        | false =>
          rw [hfnd] at cH
          have hho : holdP r.s.l a.1 = none := by unfold holdP; rw [hfnd]; rfl
          have HHO : Hid (turnL r.s.l (r.first.take (i + 1)) out0 = out) := by unfold Hid; rw [htk, turn_snoc, hho, ← hout]
          clear HI hT hout hol hD' ha htk hbA hTA hX hfnd hho
          gi_wp2_with (refine ⟨trivial, ?_⟩; gi_at_call 63; refine (callsIn_wide.2 cH).mono ?_; rintro e' w1 ⟨rfl, hB1⟩; have HB1 : Hid (_ ) := hB1; clear hB1)
          go_roundw
          case rel => exact ⟨i + 1, out, by go_num, by omega, ⟨ms, va, vc, HTA.out.1.later HB1.out⟩, HHO.out.symm, by have := HA.out.2.2.1; omega, (HB1.out.block D (by have := (Array.getElem?_eq_some_iff.1 HA.out.2.2.2.2).1; simp; omega)).trans ((HTA.out.2.block D (Array.getElem?_eq_some_iff.1 HA.out.2.2.2.2).1).trans HA.out.2.2.2.2)⟩
          case measure => simp [intOf]; omega
        | true =>
          rw [hfnd] at cH
          obtain ⟨p, hp⟩ : ∃ p, r.s.l[X]? = some p := by
            unfold hfd at hfnd
            rw [hX] at hfnd
            cases hq : r.s.l[X]? with
            | none => rw [hq] at hfnd; cases hfnd
            | some p => exact ⟨p, rfl⟩
          have hho : holdP r.s.l a.1 = some p := by unfold holdP; rw [hfnd, hX]; exact hp
          have HHO : Hid (turnL r.s.l (r.first.take (i + 1)) out0 = putP out (p.1, Pl.pend p)) := by unfold Hid; rw [htk, turn_snoc, hho, ← hout]
          clear HI hT hout hD' ha htk hbA hTA hX hfnd hho
          gi_wp2_with (first
            | (refine ⟨trivial, ?_⟩; gi_at_call 63; refine (callsIn_wide.2 cH).mono ?_; rintro e' w1 ⟨rfl, hB1⟩; have HB1 : Hid (_ ) := hB1; have ap : w1.cell? ⟨W4.heap.size, 0, none⟩ = some (.func (.func 71) #[] #[.pointer (some ⟨w.heap.size + 4, 0, none⟩), .pointer (some ⟨w.heap.size + 2, 0, none⟩), .pointer (some ⟨w.heap.size, 0, none⟩)]) := (by rw [HS4.out.1]; exact (HTA.out.1.later hB1).bp.cell); have cPut := tn_put (HTA.out.1.later hB1) HH.out.1.late HH.out.1.les HH.out.2.2.1 HH.out.2.1 (by rw [← HH.out.2.2.1]; rfl) X p hp (by omega); clear hB1)
            | (refine ⟨trivial, ?_⟩; gi_at_call 71; refine (callsIn_wide.2 cPut).mono ?_; rintro e' V' ⟨⟨v, rfl⟩, ms', va', vc', hT', hC'⟩; have HT' : Hid (_ ∧ _) := ⟨hT', hC'⟩; clear hT' hC'))
          obtain ⟨hT', hC'⟩ := HT'.out
          have hDA := HA.out.2.2.2.2
          have hDlt := (Array.getElem?_eq_some_iff.1 hDA).1
          have hD1 : w1.heap[D]? = some (.deferred (some [])) := (HB1.out.block D (by simp; omega)).trans ((HTA.out.2.block D hDlt).trans hDA)
          have hT1 := HTA.out.1.later HB1.out
          have hDV : V'.heap[D]? = some (.deferred (some [])) := (hC'.same D (Array.getElem?_eq_some_iff.1 hD1).1 (fun h1 => by
            rcases h1 with h1 | h1 | h1
            · obtain ⟨_, _, _, cur, e1⟩ := owns_lies hT1.rm (k := w.heap.size + 3) ⟨_, _, rfl⟩
              rw [← h1, hD1] at e1; cases e1
            · have e1 := hT1.bf
              rw [← h1] at e1
              have e2 : w1.heap[D]? = _ := e1
              rw [hD1] at e2; cases e2
            · obtain ⟨_, _, _, cur, e1⟩ := owns_lies hT1.rt h1
              rw [hD1] at e1; cases e1)).trans hD1
          go_roundw
          case rel => exact ⟨i + 1, putP out (p.1, Pl.pend p), by go_num, by omega, ⟨ms', va', vc', hT'.mono (fun _ _ => trivial)⟩, HHO.out.symm, by have := HA.out.2.2.1; have := putP_len out (p.1, Pl.pend p); omega, hDV⟩
          case measure => simp [intOf]; omega
      · obtain rfl : i = m := by omega
        obtain ⟨⟨ms, va, vc, hT⟩, hout, hol, hD'⟩ := HI.out
        have hoF : out = F := by rw [hout, List.take_of_length_le (by rw [HH.out.2.2.2.1]; exact Nat.le_refl _)]; exact HO.out.1
        have kf : wr.cell? ⟨w.heap.size + 1 + 1, 0, none⟩ = some (.slice va out.length vc) := hT.bf.cell
        have HOF : Hid (out = F) := hoF
        clear HI hout hoF
        gi_wp2
        refine ⟨by simp, .inl ⟨_, _, rfl, run_takeDeferred hD', ?_⟩⟩
        rw [← HOF.out]
        refine ⟨_, results_tmp rfl _ _ _, va, vc, rfl, ownsRow_putObj hT.rt _ hD' rfl, hT.bel.trans (belowK_b (w := w) (Nat.le_refl _) _ D _ _ (by omega) hD' rfl rfl)⟩
end Go.Proofs.Ytdodagpkkjpdiaa
