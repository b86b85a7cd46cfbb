/- The contract of firstMayBe. -/
import Derived.Test.YtdodagpkkjpdiaaSmall
import Derived.Laws.StructEq
namespace Go.Proofs.Ytdodagpkkjpdiaa
open Go.ChangeShapes Go.WideShapes Go.ChangeAt Go.RowKit
set_option linter.unusedVariables false
set_option linter.unusedSimpArgs false

/-- The spans of a row, each once, in a row of pieces: what firstMayBe goes through. -/
def fstGo (l : List Pl.Pc) : List Tm → List Nat → Bool
  | [], _ => true
  | a :: r, seen => hfd l a.1 && !(decide (hix l a.1 ∈ seen)) && decide ((l[hix l a.1]?.map fun p => (p.1, Pl.pend p)) = some a) && fstGo l r (hix l a.1 :: seen)
theorem ne_span (f t f' t' : Int) (w : World) : (binOp .neq 39 (.agg #[.int .i64 f, .int .i64 t]) (.agg #[.int .i64 f', .int .i64 t'])).run Try.prog w = .ok (.bool (!decide ((f, t) = (f', t')))) w := by
  have hu : Try.prog.underlying 39 = some (.struct (Try.prog.fieldsOf 39)) := by kernel_rfl
  have hs : Try.prog.stoodInHeld 39 = false := by kernel_rfl
  have h := run_equalIn_struct (P := Try.prog) w 9999 39 #[.int .i64 f, .int .i64 t] #[.int .i64 f', .int .i64 t'] hu hs
  simp only [binOp]
  by_cases h1 : f = f' <;> by_cases h2 : t = t' <;> simp [Op.equal, Op.maxDepth, h, Op.eqFields, go_sem, h1, h2]
theorem Try.info4 : (Try.prog.info? 4).map (fun i => (i.zero, i.size, i.bytes)) = some (some (.bool false), 1, 1) := by kernel_rfl
/-- Marks, one a piece. -/
def RowM (w : World) (B g n : Nat) (ms : List Bool) : Prop := w.ownsRow B 4 1 (.slice (some ⟨g, 0, none⟩) n n) n (ms.map Value.bool)
theorem RowM.len {w : World} {B g n : Nat} {ms : List Bool} (h : RowM w B g n ms) : ms.length = n := by have := h.1; simpa using this
theorem RowM.below {w w' : World} {B g n : Nat} {ms : List Bool} (h : RowM w B g n ms) {m : Nat} (hb : Below m w w') (hn : w.heap.size ≤ m) : RowM w' B g n ms := by
  refine ⟨h.1, ?_⟩
  rcases h.2 with h' | ⟨g, c, cur, e, hB, hh, r⟩
  · exact .inl h'
  · exact .inr ⟨g, c, cur, e, hB, (hb.block g (by have := (Array.getElem?_eq_some_iff.1 hh).1; omega)).trans hh, r⟩
theorem RowM.later {w w' : World} {B g n : Nat} {ms : List Bool} (h : RowM w B g n ms) (hb : Below w.heap.size w w') : RowM w' B g n ms := h.below hb (Nat.le_refl _)
theorem RowM.cell {w : World} {B g n : Nat} {ms : List Bool} (h : RowM w B g n ms) (j : Nat) (hj : j < n) : w.cell? ⟨g, j, none⟩ = some (.bool (ms[j]?.getD false)) := by
  rw [World.ownsRow.cellAt h j (by omega)]
  have hl := h.len
  simp [show j < ms.length by omega]
theorem RowM.frozen {w : World} {B g n : Nat} {ms : List Bool} (h : RowM w B g n ms) (j : Nat) : w.frozen? ⟨g, j, none⟩ = false := World.ownsRow.frozenAt h j
theorem RowM.set {w : World} {B g n : Nat} {ms : List Bool} (h : RowM w B g n ms) (j : Nat) (b : Bool) : RowM (w.setCell ⟨g, j, none⟩ (.bool b)) B g n (ms.set j b) := by
  have := (World.ownsRow.stored h j (.bool b)).1
  unfold RowM
  rw [List.map_set]
  exact this
theorem RowM.of_heap {w w' : World} {B g n : Nat} {ms : List Bool} (h : RowM w B g n ms) (e : w'.heap = w.heap) : RowM w' B g n ms := by
  refine ⟨h.1, ?_⟩
  rw [e]
  exact h.2
theorem RowM.ge {w : World} {B g n : Nat} {ms : List Bool} (h : RowM w B g n ms) : B ≤ g ∧ g < w.heap.size := by
  rcases h.2 with ⟨e, _⟩ | ⟨g', c, cur, e, hB, hh, r⟩
  · cases e
  · cases e; exact ⟨hB, (Array.getElem?_eq_some_iff.1 hh).1⟩
theorem made_bools (n : Nat) : (madeCells (Value.bool false).cells (n * 1)).toList = (List.replicate n false).map Value.bool := by
  apply List.ext_getElem?
  intro j
  rcases Nat.lt_or_ge j n with h | h
  · simp [madeCells, h, Value.cells, Nat.mod_one]
  · rw [List.getElem?_eq_none (by simp [size_madeCells]; omega), List.getElem?_eq_none (by simpa using h)]
/-- Which marks are set. -/
def Marks (ms : List Bool) (seen : List Nat) : Prop := ∀ j, j < ms.length → (ms[j]?.getD false = decide (j ∈ seen))
theorem Marks.set {ms : List Bool} {seen : List Nat} (h : Marks ms seen) (k : Nat) : Marks (ms.set k true) (k :: seen) := by
  intro j hj
  rw [List.length_set] at hj
  by_cases hk : j = k
  · subst hk; simp [hj]
  · have := h j hj
    rw [List.getElem?_set_ne (by omega), this]
    simp [hk]

set_option maxRecDepth 100000 in
set_option maxHeartbeats 4000000 in
theorem firsts_walk (r : Pl.Rv) (h : Hd) (w : World) (H : RvAt w r h) (hF : Fits r.s.l) :
    Calls Try.prog 46 #[.agg #[.int .i64 r.s.n, .slice h.ua r.s.u.length h.uc, .slice h.la h.es.length h.lc, .int .i64 r.cap, .int .i64 r.shift, .int .i64 r.edge, .int .u32 r.recent, .bool r.stamps, .bool r.sacks, .int .i64 r.fin, .bool r.dn, .slice h.fa r.first.length h.fc, .int .u32 r.irs, .int .u32 r.own, .bool r.stamp]] w fun e w' => e = .returned (.bool (fstGo r.s.l r.first [])) ∧ Below w.heap.size w w' := by
  obtain ⟨ua, uc, la, lc, es, fa, fc⟩ := h
  dsimp only
  obtain ⟨i0, hi, hz0, hz1, hz2⟩ := info_parts Try.info4
  have hlr : es.length * 32 ≤ 140737488351232 := H.late.reach
  have hfr := H.fst.reach
  have HH : Hid (RvAt w r ⟨ua, uc, la, lc, es, fa, fc⟩) := H
  have HF : Hid (Fits r.s.l) := hF
  have HL : Hid (r.s.l.length = es.length) := H.len
  have hX := Box.new w 46 (rvL r ⟨ua, uc, la, lc, es, fa, fc⟩)
  obtain ⟨n, hn⟩ : ∃ n, es.length = n := ⟨_, rfl⟩
  obtain ⟨m, hm⟩ : ∃ m, r.first.length = m := ⟨_, rfl⟩
  obtain ⟨W0, hW0⟩ : ∃ W0, w.alloc (.cells #[.int .i64 r.s.n, .slice ua r.s.u.length uc, .slice la es.length lc, .int .i64 r.cap, .int .i64 r.shift, .int .i64 r.edge, .int .u32 r.recent, .bool r.stamps, .bool r.sacks, .int .i64 r.fin, .bool r.dn, .slice fa r.first.length fc, .int .u32 r.irs, .int .u32 r.own, .bool r.stamp] 46) = W0 := ⟨_, rfl⟩
  have hW0' : w.alloc (.cells (rvL r ⟨ua, uc, la, lc, es, fa, fc⟩).toArray 46) = W0 := hW0
  have b0 : Below w.heap.size w (w.alloc (.cells (rvL r ⟨ua, uc, la, lc, es, fa, fc⟩).toArray 46)) := (Below.refl _ w).alloc (Nat.le_refl _) _
  rw [hW0'] at hX b0
  have hmk := fun W : World => run_make (P := Try.prog) W 100 4 i0 _ Try.underlying100 hi hz0 .i64 .i64 (n : Int) (n : Int) (by omega) (Int.le_refl _) (by rw [hz2]; omega) (by omega)
  simp only [Int.toNat_natCast, hz1] at hmk
  obtain ⟨cs, hcs⟩ : ∃ cs, madeCells (Value.bool false).cells (n * 1) = cs := ⟨_, rfl⟩
  simp only [hcs] at hmk
  have hbn : Below W0.heap.size W0 (W0.alloc (.cells cs 4)) := below_more (Below.refl _ _) _
  have hst : RowM (W0.alloc (.cells cs 4)) W0.heap.size W0.heap.size n (List.replicate n false) := by
    refine ⟨by simp, .inr ⟨_, n, cs, rfl, Nat.le_refl _, heap_alloc_new W0 _, Nat.le_refl _, by unfold maxLen; omega, by rw [← hcs, size_madeCells], ?_⟩⟩
    rw [← made_bools, hcs]
    apply List.take_of_length_le
    rw [Array.length_toList, ← hcs, size_madeCells]
    exact Nat.le_refl _
  have HST : Hid (RowM (W0.alloc (.cells cs 4)) W0.heap.size W0.heap.size n (List.replicate n false) ∧ Below W0.heap.size W0 (W0.alloc (.cells cs 4))) := ⟨hst, hbn⟩
  have HK : Hid (∀ W, Below W0.heap.size W0 W → W.cell? ⟨w.heap.size, 2, none⟩ = some (.slice la n lc) ∧ W.cell? ⟨w.heap.size, 11, none⟩ = some (.slice fa m fc)) := fun W hW => by
    have hB := hX.later hW
    have h2 := hB.cell 2 rfl
    have h11 := hB.cell 11 rfl
    rw [hn] at h2
    rw [hm] at h11
    exact ⟨h2, h11⟩
  have HB : Hid (Below w.heap.size w W0) := b0
  have HN : Hid (es.length = n ∧ r.first.length = m) := ⟨hn, hm⟩
  rw [hn] at hlr
  rw [hm] at hfr
  rw [hn, hm] at hW0 ⊢
  have k1 := HK.out W0 (Below.refl _ _)
  obtain ⟨k2, k11⟩ := k1
  have k2' := (HK.out _ hbn).1
  have k11' := (HK.out _ hbn).2
  clear hX hW0' b0 H hF hn hm hst hbn hcs hi hz0 hz1 hz2
  go_enter Try.func46, Try.ntmps46
  go_wp2_with fail
  clear hW0 k2 k11 k2' k11'
  go_loopw [15] (fun vi wr => ∃ (i : Nat) (ms : List Bool) (seen : List Nat), vi = .int .i64 i ∧ i ≤ m ∧ Hid (RowM wr W0.heap.size W0.heap.size n ms ∧ Marks ms seen ∧ Below W0.heap.size W0 wr ∧ fstGo r.s.l r.first [] = fstGo r.s.l (r.first.drop i) seen))
    (fun vi _ => m - (intOf vi).toNat)
  case atStart => exact ⟨0, _, [], rfl, Nat.zero_le _, HST.out.1, fun j hj => by simp at hj; simp [hj], HST.out.2, rfl⟩
  case round =>
    obtain ⟨i, ms, seen, rfl, him, HI2⟩ := hrel
    by_cases hlt : i < m
    · obtain ⟨hrow, hmarks, hbel, hgo⟩ := HI2.out
      obtain ⟨b, o, rfl, hc0, hc1⟩ := (HH.out.fst.tims.later (Below.on HB.out hbel)).2 i (by rw [HN.out.2]; exact hlt)
      obtain ⟨a, ha⟩ : ∃ a, r.first[i]?.getD (0, 0) = a := ⟨_, rfl⟩
      rw [ha] at hc0 hc1
      have hget : r.first[i]? = some a := by rw [← ha]; simp [HN.out.2, hlt]
      have hdrop : r.first.drop i = a :: r.first.drop (i + 1) := by
        rw [List.drop_eq_getElem_cons (by rw [HN.out.2]; exact hlt)]
        congr 1
        have := hget
        rw [List.getElem?_eq_getElem (by rw [HN.out.2]; exact hlt)] at this
        exact Option.some.inj this
      rw [hdrop, fstGo] at hgo
      have hle := hix_le r.s.l a.1
      rw [HL.out, HN.out.1] at hle
      obtain ⟨X, hX⟩ : ∃ X, hix r.s.l a.1 = X := ⟨_, rfl⟩
      have cH := fun W (hW : Below W0.heap.size W0 W) => holder_any la lc es a.1 W (HH.out.late.later (Below.on HB.out hW)) (by rw [HH.out.les]; exact HF.out)
      rw [HH.out.les, hX, HN.out.1] at cH
      rw [hX] at hgo hle
      obtain ⟨k2, k11⟩ := HK.out wr hbel
      have hba : Below W0.heap.size W0 (wr.alloc (.cells #[.int .i64 a.1, .int .i64 a.2] 39)) := below_more hbel _
      have HR : Hid (RowM wr W0.heap.size W0.heap.size n ms ∧ Marks ms seen ∧ Below W0.heap.size W0 wr ∧ Below W0.heap.size W0 (wr.alloc (.cells #[.int .i64 a.1, .int .i64 a.2] 39))) := ⟨hrow, hmarks, hbel, hba⟩
      have k2a := (HK.out _ hba).1
      have cH' := cH _ hba
      cases hfd' : hfd r.s.l a.1 with
      | false =>
        rw [hfd'] at cH' hgo
        have HG : Hid (fstGo r.s.l r.first [] = false) := by unfold Hid; rw [hgo]; simp
        clear hrow hmarks hbel hgo ha hget hdrop hX cH hba hfd'
        go_wp2_with fail
        refine cH'.mono ?_
        rintro e w1 ⟨rfl, hb1⟩
        go_wp2_with fail
        go_quiet (fail)
        go_wp2_with fail
        go_ret
        exact ⟨ret_bool HG.out.symm, below_drewN (Below.on HB.out (Below.on HR.out.2.2.2 hb1)) _⟩
      | true =>
        have hXn : X < n := by
          unfold hfd at hfd'
          rw [hX] at hfd'
          rcases Nat.lt_or_ge X n with hx | hx
          · exact hx
          · rw [List.getElem?_eq_none (by rw [HL.out, HN.out.1]; exact hx)] at hfd'; simp at hfd'
        obtain ⟨yb, yo, y, rfl, hy, hyok, hy0, hy1⟩ := HH.out.late.get X (by rw [HN.out.1]; exact hXn)
        have hmem : y.pc ∈ r.s.l := by rw [← HH.out.les]; exact List.mem_map.2 ⟨y, List.mem_of_getElem? hy, rfl⟩
        have hfit := spW_fit (HF.out.bd hmem)
        have hlX : r.s.l[X]? = some y.pc := by rw [← HH.out.les, List.getElem?_map, hy]; rfl
        rw [hfd', hlX] at hgo
        rw [hfd'] at cH'
        have cS := fun W => spanOf_walk y.f y.a y.bs.length y.c W _ hfit
        obtain ⟨t, ht⟩ : ∃ t, Pl.pend y.pc = t := ⟨_, rfl⟩
        have hgo' : fstGo r.s.l r.first [] = (!(decide (X ∈ seen)) && decide ((y.f, t) = (a.1, a.2)) && fstGo r.s.l (r.first.drop (i + 1)) (X :: seen)) := by
          rw [hgo]
          simp only [Option.map_some, Bool.true_and, ht, Option.some.injEq]
          rfl
        rw [ht] at cS
        have HC : Hid (∀ W, Below (wr.alloc (.cells #[.int .i64 a.1, .int .i64 a.2] 39)).heap.size (wr.alloc (.cells #[.int .i64 a.1, .int .i64 a.2] 39)) W → W.cell? ⟨w.heap.size, 2, none⟩ = some (.slice (some ⟨yb, yo, none⟩) n lc) ∧ W.cell? ⟨W0.heap.size, X, none⟩ = some (.bool (decide (X ∈ seen))) ∧ W.cell? ⟨yb, yo + X * 2, none⟩ = some (.int .i64 y.f) ∧ W.cell? ⟨yb, yo + X * 2 + 1, none⟩ = some (.slice y.a y.bs.length y.c) ∧ W.cell? ⟨wr.heap.size, 0, none⟩ = some (.int .i64 a.1) ∧ W.cell? ⟨wr.heap.size, 1, none⟩ = some (.int .i64 a.2) ∧ Below (wr.alloc (.cells #[.int .i64 a.1, .int .i64 a.2] 39)).heap.size (wr.alloc (.cells #[.int .i64 a.1, .int .i64 a.2] 39)) W) := fun W hW => by
          have h0 : Below W0.heap.size W0 W := Below.on hba hW
          have hwW : Below w.heap.size w W := Below.on HB.out h0
          have hbx := (BoxT.new wr a).below hW (by simp)
          have h2 := (HK.out W h0).1
          have hrr : Below wr.heap.size wr W := Below.on (below_more (Below.refl _ _) _) hW
          have hsn := (hrow.later hrr).cell X hXn
          rw [hmarks X (by rw [hrow.len]; exact hXn)] at hsn
          exact ⟨h2, hsn, (hwW.cell (p := ⟨yb, yo + X * 2, none⟩) (lt_of_cell hy0)).trans hy0, (hwW.cell (p := ⟨yb, yo + X * 2 + 1, none⟩) (lt_of_cell hy1)).trans hy1, hbx.cell0, hbx.cell1, hW⟩
        have HGO : Hid (fstGo r.s.l r.first [] = (!(decide (X ∈ seen)) && decide ((y.f, t) = (a.1, a.2)) && fstGo r.s.l (r.first.drop (i + 1)) (X :: seen))) := hgo'
        have hXi : (X : Int) < (n : Int) := by omega
        have hne := ne_span
        clear hrow hmarks hbel hgo hgo' ha hget hdrop hX cH hba hfd' hy hyok hy0 hy1 hmem hfit hlX ht
        cases hsn : decide (X ∈ seen) with
        | true =>
          rw [hsn] at HC HGO
          have HG : Hid (fstGo r.s.l r.first [] = false) := by unfold Hid; rw [HGO.out]; simp
          clear hsn
          go_wp2_with fail
          refine cH'.mono ?_
          rintro e w1 ⟨rfl, hb1⟩
          obtain ⟨q0, q1, q2, q3, q4, q5, q6⟩ := HC.out w1 hb1
          have HBe : Hid (Below w.heap.size w w1) := Below.on HB.out (Below.on HR.out.2.2.2 hb1)
          clear hb1 q6
          go_wp2_with fail
          go_quiet (fail)
          go_wp2_with fail
          go_ret
          exact ⟨ret_bool HG.out.symm, below_drewN HBe.out _⟩
        | false =>
          rw [hsn] at HC HGO
          obtain ⟨eq, heq⟩ : ∃ eq, decide ((y.f, t) = (a.1, a.2)) = eq := ⟨_, rfl⟩
          rw [heq] at HGO
          obtain ⟨nq, hnq⟩ : ∃ nq, (!eq) = nq := ⟨_, rfl⟩
          have HNQ : Hid ((!eq) = nq) := hnq
          have hne' : ∀ W, (binOp .neq 39 (.agg #[.int .i64 y.f, .int .i64 t]) (.agg #[.int .i64 a.1, .int .i64 a.2])).run Try.prog W = .ok (.bool nq) W := fun W => by rw [ne_span, heq, hnq]
          have HSN : Hid (decide (X ∈ seen) = false) := hsn
          clear hsn hne heq hnq
          go_wp2_with fail
          refine cH'.mono ?_
          rintro e w1 ⟨rfl, hb1⟩
          obtain ⟨q0, q1, q2, q3, q4, q5, q6⟩ := HC.out w1 hb1
          have HB1 : Hid (Below (wr.alloc (.cells #[.int .i64 a.1, .int .i64 a.2] 39)).heap.size (wr.alloc (.cells #[.int .i64 a.1, .int .i64 a.2] 39)) w1) := hb1
          have HC1 : Hid (∀ W, Below w1.heap.size w1 W → W.cell? ⟨w.heap.size, 2, none⟩ = some (.slice (some ⟨yb, yo, none⟩) n lc) ∧ W.cell? ⟨W0.heap.size, X, none⟩ = some (.bool false) ∧ W.cell? ⟨yb, yo + X * 2, none⟩ = some (.int .i64 y.f) ∧ W.cell? ⟨yb, yo + X * 2 + 1, none⟩ = some (.slice y.a y.bs.length y.c) ∧ W.cell? ⟨wr.heap.size, 0, none⟩ = some (.int .i64 a.1) ∧ W.cell? ⟨wr.heap.size, 1, none⟩ = some (.int .i64 a.2) ∧ Below w1.heap.size w1 W) := fun W hW => by
            obtain ⟨q0, q1, q2, q3, q4, q5, q6⟩ := HC.out W (Below.on hb1 hW)
            exact ⟨q0, q1, q2, q3, q4, q5, hW⟩
          clear hb1 q6
          go_wp2_with fail
          clear q0 q1 q2 q3 q4 q5
          go_region_held3 (fun W => W.cell? ⟨w.heap.size, 2, none⟩ = some (.slice (some ⟨yb, yo, none⟩) n lc) ∧ W.cell? ⟨W0.heap.size, X, none⟩ = some (.bool false) ∧ W.cell? ⟨yb, yo + X * 2, none⟩ = some (.int .i64 y.f) ∧ W.cell? ⟨yb, yo + X * 2 + 1, none⟩ = some (.slice y.a y.bs.length y.c) ∧ W.cell? ⟨wr.heap.size, 0, none⟩ = some (.int .i64 a.1) ∧ W.cell? ⟨wr.heap.size, 1, none⟩ = some (.int .i64 a.2) ∧ Below w1.heap.size w1 W)
            (exact HC1.out _ (by repeat (first | with_reducible exact Below.refl _ _ | with_reducible assumption | with_reducible refine Below.drew ?_ | with_reducible refine below_drewN ?_ _ | with_reducible refine below_more ?_ _)))
            (first | (go_at_call 64; refine (cS _).mono ?_; rintro e w2 ⟨rfl, hB2⟩; have hb2 : Below w1.heap.size w1 w2 := Below.on (by repeat (first | with_reducible exact Below.refl _ _ | with_reducible assumption | with_reducible refine Below.drew ?_ | with_reducible refine below_drewN ?_ _ | with_reducible refine below_more ?_ _)) hB2))
          have hbr : Below wr.heap.size wr w2 := Below.on (below_more (Below.refl _ _) _) (Below.on HB1.out hb2)
          have hrow2 := HR.out.1.later hbr
          have HR2 : Hid (RowM w2 W0.heap.size W0.heap.size n ms ∧ Below W0.heap.size W0 w2) := ⟨hrow2, Below.on HR.out.2.2.1 hbr⟩
          have hcs := hrow2.cell X hXn
          have hfz := hrow2.frozen X
          clear hbr hrow2 hB2 hb2
          clear hne'
          cases nq with
          | true =>
            have HG : Hid (fstGo r.s.l r.first [] = false) := by
              have he : eq = false := by have := HNQ.out; simpa using this
              unfold Hid; rw [HGO.out, he]; simp
            go_wp2_with fail
            go_ret
            exact ⟨ret_bool HG.out.symm, Below.on HB.out (by first | exact HR2.out.2 | exact below_drewN HR2.out.2 _ | exact Below.drew HR2.out.2)⟩
          | false =>
            have HG : Hid (fstGo r.s.l r.first [] = fstGo r.s.l (r.first.drop (i + 1)) (X :: seen)) := by
              have he : eq = true := by have := HNQ.out; simpa using this
              unfold Hid; rw [HGO.out, he]; simp
            go_wp2_with fail
            go_roundw
            case rel =>
              refine ⟨i + 1, ms.set X true, X :: seen, by go_num, by omega, ?_⟩
              refine ⟨RowM.of_heap (HR2.out.1.set X true) (by rfl), HR.out.2.1.set X, ?_, HG.out⟩
              first
                | exact below_set HR2.out.2 _ _ _ (Nat.le_refl _)
                | exact below_set (below_drewN HR2.out.2 _) _ _ _ (Nat.le_refl _)
                | exact below_set (Below.drew HR2.out.2) _ _ _ (Nat.le_refl _)
            case measure => simp [intOf]; omega
    · obtain rfl : i = m := by omega
      obtain ⟨hrow, hmarks, hbel, hgo⟩ := HI2.out
      have HG : Hid (fstGo r.s.l r.first [] = true) := by
        unfold Hid
        rw [hgo, List.drop_of_length_le (by rw [HN.out.2]; exact Nat.le_refl _)]
        rfl
      have HBe : Hid (Below w.heap.size w wr) := Below.on HB.out hbel
      clear hrow hmarks hbel hgo
      go_wp2_with fail
      go_ret
      exact ⟨ret_bool HG.out.symm, HBe.out⟩
end Go.Proofs.Ytdodagpkkjpdiaa
