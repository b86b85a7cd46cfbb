/- The contract of Cut. -/
import Derived.Test.YtiigipfcagmgnaaAdd
namespace Go.Proofs.Ytiigipfcagmgnaa
open Go.ChangeShapes Go.WideShapes Go.ChangeAt Go.RowKit Go.Shelf
set_option linter.unusedVariables false
attribute [local go_sem] Oper.semAt_some

theorem Mine.later {b : Nat} {R Z Z' : Nat → Prop} {X Y V : World} (h : Mine b R Z X Z' Y) (hf : Below 0 Y V) (hs : ∀ k, k < X.heap.size → V.heap[k]? = Y.heap[k]?) : Mine b R Z X Z' V :=
  ⟨h.flat.trans hf, h.new, fun k hk => Nat.lt_of_lt_of_le (h.lt k hk) hf.size, fun k hk hR hz => (hs k hk).trans (h.same k hk hR hz)⟩
theorem Mine.fewer {b : Nat} {R Z Z' Z'' : Nat → Prop} {X Y : World} (h : Mine b R Z X Z' Y) (hz : ∀ k, Z'' k → Z' k) : Mine b R Z X Z'' Y := ⟨h.flat, fun k hk => h.new k (hz k hk), fun k hk => h.lt k (hz k hk), h.same⟩
theorem flat_grown {X Y : World} {row : Option Nat} (hg : X.grownBy Y row) : Below 0 X Y := ⟨hg.os, hg.tape, hg.output, hg.size, fun k hk => by omega⟩

/-- A row that grows in the rounds of an inner loop. -/
def Inner (w W2 V : World) (b m : Nat) (R Z Z' : Nat → Prop) (s : Tm) (l : List Tm) : Prop :=
  BoxT V w.heap.size s ∧ Below w.heap.size w V ∧ Mine b R Z W2 (fun k => Z k ∨ Z' k) V ∧ ∃ va vc, Boxed V m 22 (.slice va l.length vc) ∧ RowT V b va l.length vc l ∧ (∀ k, lies va k → Z k ∨ Z' k)
theorem Inner.moved {w W2 X Y : World} {b m : Nat} {R Z Z' : Nat → Prop} {s : Tm} {l : List Tm} (h : Inner w W2 X b m R Z Z' s l) (hf : Below 0 X Y) (hs : ∀ k, k < X.heap.size → (k < W2.heap.size ∨ Z' k) → Y.heap[k]? = X.heap[k]?) (hw : w.heap.size < W2.heap.size) (hm : m < W2.heap.size) (hz : ∀ k, Z k → k < W2.heap.size) : Inner w W2 Y b m R Z Z' s l := by
  obtain ⟨h1, h2, h3, va, vc, h4, h5, h6⟩ := h
  have hsz := h3.flat.size
  refine ⟨(hs _ h1.lt (.inl hw)).trans h1, ⟨hf.os.trans h2.os, hf.tape.trans h2.tape, hf.output.trans h2.output, Nat.le_trans h2.size hf.size, fun k hk => (hs k (by omega) (.inl (by omega))).trans (h2.block k hk)⟩, h3.later hf (fun k hk => hs k (by omega) (.inl hk)), va, vc, (hs _ h4.lt (.inl hm)).trans h4, h5.moved (fun k hk hl => hs k hk ((h6 k hl).imp (hz k) id)), h6⟩

set_option maxRecDepth 100000 in
set_option maxHeartbeats 4000000 in
theorem cut_any (A : Option Addr) (cap : Nat) (ts : List Tm) (s : Tm) (w : World) (hT : TimsAt w A ts) (hA : A = none → cap = 0) (hlen : (ts.length + 1) * 16 ≤ 140737488355328) :
    Calls Try.prog 15 #[.slice A ts.length cap, tmV s] w fun e W' => ∃ va vc, e = .returned (.tuple #[.slice va (cutV ts s).length vc, .int .i64 (bothI ts s)]) ∧ RowT W' w.heap.size va (cutV ts s).length vc (cutV ts s) ∧ Below w.heap.size w W' := by
  refine (callsIn_wide (n := 6)).1 ?_
  refine callsIn_of_wp_marks Try.func15 rfl trivial ?_ rfl
  simp only [Try.ntmps15, List.size_toArray, List.length_cons, List.length_nil, Nat.reduceAdd, Nat.reduceSub, Array.replicate_succ, Array.replicate_zero, List.push_toArray, List.append_toArray, List.nil_append, List.cons_append]
  have bS := BoxT.new w s
  have s0 := bS.cell0
  have s1 := bS.cell1
  have hB0 : Below w.heap.size w (w.alloc (.cells #[.int .i64 s.1, .int .i64 s.2] 24)) := (Below.refl _ w).alloc (Nat.le_refl _) _
  have cC := both_any A cap ts s _ (hT.later hB0)
  by_cases hok : chk (-1) ts = true ∧ rightB s = true
  rotate_left
  · obtain ⟨ee, hee⟩ : ∃ ee, bothI ts s = ee := ⟨_, rfl⟩
    have hne : (ee != 0) = true := by
      rw [← hee]; unfold bothI
      by_cases hc : chk (-1) ts = true
      · have hk : ¬ rightB s = true := fun h => hok ⟨hc, h⟩
        simp [hc, hk]
      · simp [hc]
    have HE : Hid (bothI ts s = ee ∧ cutV ts s = []) := by
      refine ⟨hee, ?_⟩
      unfold cutV
      by_cases hc : chk (-1) ts = true
      · have hk : ¬ rightB s = true := fun h => hok ⟨hc, h⟩
        simp [hc, hk]
      · simp [hc]
    rw [hee] at cC
    clear hee hok
    gi_wp2_with (refine ⟨trivial, ?_⟩; gi_at_call 29; refine (callsIn_wide.2 cC).mono ?_; rintro e w1 ⟨rfl, hB1⟩)
    refine ⟨_, results_tmp2 rfl _ _ _, none, 0, by rw [HE.out.1, HE.out.2]; rfl, by rw [HE.out.2]; exact RowT.nil _ _, hB0.trans (hB1.mono (by simp))⟩
  · have hee : bothI ts s = 0 := by unfold bothI; simp [hok.1, hok.2]
    rw [hee] at cC
    by_cases hem : s.1 = s.2
    · have HE : Hid (bothI ts s = 0 ∧ cutV ts s = ts) := ⟨hee, by unfold cutV; simp [hok.1, hok.2, hem]⟩
      have cE : ∀ W, Calls Try.prog 30 #[tmV s] W fun e w' => e = .returned (.bool true) ∧ w' = W.alloc (.cells #[.int .i64 s.1, .int .i64 s.2] 24) := fun W => by
        have := isEmpty_any s W; rw [show decide (s.1 = s.2) = true from by simpa using hem] at this; exact this
      have HT : Hid (∀ W, Below w.heap.size w W → Calls Try.prog 31 #[.slice A ts.length cap] W fun e W' => ∃ va vc, e = .returned (.slice va ts.length vc) ∧ RowT W' W.heap.size va ts.length vc ts ∧ Below W.heap.size W W') := fun W hW => clone_any A cap ts W (hT.later hW) hA (by omega)
      clear hee hok hem hT hA
      gi_wp2_with (first
        | (refine ⟨trivial, ?_⟩; gi_at_call 29; refine (callsIn_wide.2 cC).mono ?_; rintro e w1 ⟨rfl, hB1⟩; have bS1 := bS.below hB1 (by simp <;> omega); have s2 := bS1.cell0; have s3 := bS1.cell1; have HB1 : Hid (Below w.heap.size w (w1.alloc (.cells #[.int .i64 s.1, .int .i64 s.2] 24))) := (hB0.trans (hB1.mono (by simp))).alloc (by have := hB1.size; simp at this; omega) _)
        | (refine ⟨trivial, ?_⟩; gi_at_call 30; refine (callsIn_wide.2 (cE _)).mono ?_; rintro e w' ⟨rfl, rfl⟩)
        | (refine ⟨trivial, ?_⟩; gi_at_call 31; refine (callsIn_wide.2 (HT.out _ HB1.out)).mono ?_; rintro e w3 ⟨va, vc, rfl, hR, hB3⟩))
      refine ⟨_, results_tmp2 rfl _ _ _, va, vc, by rw [HE.out.1, HE.out.2]; rfl, by rw [HE.out.2]; exact hR.mono HB1.out.size, below_next HB1.out hB3⟩
    · have hs := rightB_iff.1 hok.2
      have hs2 : s.1 < s.2 := by omega
      have HE : Hid (bothI ts s = 0 ∧ cutV ts s = cutL ts s) := ⟨hee, by unfold cutV; simp [hok.1, hok.2, hem]⟩
      have HC : Hid (chk (-1) ts = true) := hok.1
      have cE : ∀ W, Calls Try.prog 30 #[tmV s] W fun e w' => e = .returned (.bool false) ∧ w' = W.alloc (.cells #[.int .i64 s.1, .int .i64 s.2] 24) := fun W => by
        have := isEmpty_any s W; rw [show decide (s.1 = s.2) = false from by simpa using hem] at this; exact this
      clear hee hok hem hs hs2 hA
      obtain ⟨i0, hi, hz0, hz1, hz2⟩ := info_parts Try.info24
      gi_wp2_with (first
        | (refine ⟨trivial, ?_⟩; gi_at_call 29; refine (callsIn_wide.2 cC).mono ?_; rintro e w1 ⟨rfl, hB1⟩; have bS1 := bS.below hB1 (by simp <;> omega); have s2 := bS1.cell0; have s3 := bS1.cell1)
        | (refine ⟨trivial, ?_⟩; gi_at_call 30; refine (callsIn_wide.2 (cE _)).mono ?_; rintro e w' ⟨rfl, rfl⟩)
        | (refine ⟨trivial, ?_⟩; gi_at_call 27; refine (each_in Fence.wide _ trivial rfl _ _ _ _).mono ?_; rintro e w' ⟨rfl, rfl⟩))
      have hs1 : w.heap.size + 1 ≤ w1.heap.size := by have := hB1.size; simp at this; omega
      have hBw : Below w.heap.size w (w1.alloc (.cells #[.int .i64 s.1, .int .i64 s.2] 24)) := (hB0.trans (hB1.mono (by simp))).alloc (by omega) _
      have bS2 := bS1.alloc (.cells #[.int .i64 s.1, .int .i64 s.2] 24)
      have hsm : (w1.alloc (.cells #[.int .i64 s.1, .int .i64 s.2] 24)).heap.size = w1.heap.size + 1 := by simp
      obtain ⟨w2, hw2⟩ : ∃ w2, w1.alloc (.cells #[.int .i64 s.1, .int .i64 s.2] 24) = w2 := ⟨_, rfl⟩
      rw [hw2] at hBw bS2 hsm ⊢
      have bS3 := (bS2.alloc (.cells #[.slice none 0 0] 22)).alloc (.cells #[.slice A ts.length cap] 22)
      have bA := (Boxed.new w2 22 (.slice none 0 0)).alloc (.cells #[.slice A ts.length cap] 22)
      have bN := Boxed.new (w2.alloc (.cells #[.slice none 0 0] 22)) 22 (.slice A ts.length cap)
      simp only [World.size_alloc] at bN
      have hB2 : Below w.heap.size w ((w2.alloc (.cells #[.slice none 0 0] 22)).alloc (.cells #[.slice A ts.length cap] 22)) := (hBw.alloc (by omega) _).alloc (by simp; omega) _
      have hsz : ((w2.alloc (.cells #[.slice none 0 0] 22)).alloc (.cells #[.slice A ts.length cap] 22)).heap.size = w2.heap.size + 2 := by simp
      obtain ⟨W0, hW0⟩ : ∃ W0, (w2.alloc (.cells #[.slice none 0 0] 22)).alloc (.cells #[.slice A ts.length cap] 22) = W0 := ⟨_, rfl⟩
      rw [hsm] at bA bN hsz
      obtain ⟨m, hm⟩ : ∃ m, w1.heap.size + 1 = m := ⟨_, rfl⟩
      rw [hm] at bA bN hsz hsm ⊢
      have hs1 : w.heap.size + 2 ≤ m := by omega
      rw [hW0] at bS3 bA bN hB2 hsz ⊢
      have hsz1 : m + 2 ≤ W0.heap.size := by omega
      have hsz2 : W0.heap.size ≤ m + 2 := by omega
      clear hW0 hw2 hBw hB1 cC cE bS bS1 bS2 s0 s1 s2 s3 hB0 hm hsz hsm
      refine wpIn_deep (F := Fence.wide) (n := 6) rfl (by omega) (gf := 35) (lb := #[.pointer (some ⟨m + 1, 0, none⟩)]) rfl trivial (enters_of Try.func35 (by kernel_rfl) rfl) (each_deep 5 (m + 1) cap A ts w W0 hT hB2 bN.cell) (Below.refl _ _) (fun _ => rfl)
        (fun k hk => by have := hk.2; omega)
        (fun pre Z V => BoxT V w.heap.size s ∧ Below w.heap.size w V ∧ ∃ va vc, Boxed V m 22 (.slice va (cutL pre s).length vc) ∧ RowT V W0.heap.size va (cutL pre s).length vc (cutL pre s) ∧ (∀ k, lies va k → Z k))
        (fun c pre Z V => False)
        ?hI (fun _ _ _ _ _ h _ => h) ⟨bS3, hB2, none, 0, bA, RowT.nil _ _, fun k hk => (by obtain ⟨_, _, e⟩ := hk; cases e)⟩ ?round ?done ?stop
      case hI =>
        rintro pre Z X Y ⟨h1, h2, va, vc, h3, h4, h5⟩ hA
        exact ⟨h1.apart hA (.inl (by omega)), below_apart h2 (Nat.le_refl _) (by omega) hA, va, vc, boxed_apart h3 hA (.inl (by omega)), h4.apart hA (fun k hk => .inl (h5 k hk)), h5⟩
      case round =>
        rintro l pre x Z W1 hl hll hz ⟨bS1, hB1, va, vc, bA1, rA1, zA⟩ hG
        have HZ : Hid (∀ k, Z k → W0.heap.size ≤ k ∧ k < W1.heap.size ∧ k ≠ l) := hz
        have HIN : Hid (∀ k, lies va k → Z k) := zA
        have hgl : pre.length + 1 ≤ ts.length := by have := hG.length_le; simpa using this
        have hcl := cut_len (pre ++ [x]) (-1) s (chk_prefix' hG HC.out)
        rw [cutL_snoc, List.length_append, List.length_append, List.length_singleton] at hcl
        have HSN : Hid (cutL (pre ++ [x]) s = cutL pre s ++ gapsL [s] x.1 x.2) := cutL_snoc pre s x
        obtain ⟨cp, hcp⟩ : ∃ cp, cutL pre s = cp := ⟨_, rfl⟩
        obtain ⟨gs, hgs⟩ : ∃ gs, gapsL [s] x.1 x.2 = gs := ⟨_, rfl⟩
        rw [hcp, hgs] at hcl HSN
        rw [hcp] at bA1 rA1
        have HGS : Hid (gapsL [s] x.1 x.2 = gs) := hgs
        obtain ⟨L, hL⟩ : ∃ L, cp.length = L := ⟨_, rfl⟩
        have HL : Hid (cp.length = L) := hL
        rw [hL] at bA1 rA1 hcl
        clear hz hG zA hcp hgs hL bS3 bA bN hB2
        unfold RoundOwes
        gi_wp2
        refine ⟨Mine.alloc (fun k hk => (HZ.out k hk).2.1) _, ?_⟩
        intro W2 hg2 hr2
        have bX := (BoxT.new W1 x).kept hg2 (fun e => by cases e; omega)
        have bS2 := (bS1.alloc (.cells #[.int .i64 x.1, .int .i64 x.2] 24)).kept hg2 (fun e => by cases e; omega)
        have bA2 := (bA1.alloc (.cells #[.int .i64 x.1, .int .i64 x.2] 24)).kept hg2 (fun e => by cases e; omega)
        have rA2 := (rA1.alloc (.cells #[.int .i64 x.1, .int .i64 x.2] 24)).turned hg2 (fun k hk => (HZ.out k (HIN.out k hk)).2.2)
        have hB2 : Below w.heap.size w W2 := below_grown (hB1.alloc (Nat.le_trans (Nat.le_refl _) hB1.size) _) (Nat.le_refl _) hg2 (fun k e => by cases e; omega)
        have hs2 : W1.heap.size < W2.heap.size := by have := hg2.size; simp at this; omega
        have HZ2 : Hid (∀ k, Z k → k < W1.heap.size) := fun k hk => (HZ.out k hk).2.1
        obtain ⟨r2, hr2⟩ := hr2
        have HI0 : Hid (Inner w W2 W2 W0.heap.size m (fun k => lies A k ∧ k < w.heap.size) Z (fun _ => False) s cp) :=
          ⟨bS2, hB2, (Mine.refl (fun k hk => by have := HZ2.out k hk; omega)).fewer (fun k hk => hk.elim id (fun h => h.elim)), va, vc, by rw [HL.out]; exact bA2, by rw [HL.out]; exact rA2, fun k hk => .inl (HIN.out k hk)⟩
        have cS0 := bS2.cell0
        have cS1 := bS2.cell1
        have c0 := bX.cell0
        have c1 := bX.cell1
        have bX3 := bX.alloc (.cells #[.int .i64 s.1, .int .i64 s.2] 24)
        have c3 := bX3.cell0
        have c4 := bX3.cell1
        have bLit := BoxT.new W2 s
        have HLit : Hid (TimsAt (W2.alloc (.cells #[.int .i64 s.1, .int .i64 s.2] 24)) (some ⟨W2.heap.size, 0, none⟩) [s]) := by
          refine ⟨by simp [maxLen], fun j hj => ?_⟩
          obtain rfl : j = 0 := by simpa using hj
          exact ⟨W2.heap.size, 0, rfl, bLit.cell0, bLit.cell1⟩
        clear bS1 bA1 rA1 hB1 hg2 bS2 bA2 rA2 hB2 bX bX3 bLit
        gi_wp2_with (first
          | (refine ⟨trivial, ?_⟩; gi_at_call 28; refine (CallsIn.inRound l (missing_in Fence.wide _ trivial rfl _ _ _ x _)).mono ?_; rintro e w' ⟨rfl, rfl⟩))
        clear c0 c1 c3 c4 cS0 cS1
        have hwl : Below W2.heap.size W2 (((W2.alloc (.cells #[.int .i64 s.1, .int .i64 s.2] 24)).alloc (.cells #[.slice (some ⟨W2.heap.size, 0, none⟩) 1 1] 22)).alloc (.cells #[.int .i64 x.1, .int .i64 x.2] 24)) := (((Below.refl _ W2).alloc (Nat.le_refl _) _).alloc (by simp) _).alloc (by simp; omega) _
        have hw3 : Below (W2.alloc (.cells #[.int .i64 s.1, .int .i64 s.2] 24)).heap.size (W2.alloc (.cells #[.int .i64 s.1, .int .i64 s.2] 24)) (((W2.alloc (.cells #[.int .i64 s.1, .int .i64 s.2] 24)).alloc (.cells #[.slice (some ⟨W2.heap.size, 0, none⟩) 1 1] 22)).alloc (.cells #[.int .i64 x.1, .int .i64 x.2] 24)) := ((Below.refl _ _).alloc (Nat.le_refl _) _).alloc (by simp) _
        have bL := (Boxed.new (W2.alloc (.cells #[.int .i64 s.1, .int .i64 s.2] 24)) 22 (.slice (some ⟨W2.heap.size, 0, none⟩) 1 1)).alloc (.cells #[.int .i64 x.1, .int .i64 x.2] 24)
        have bXs := BoxT.new ((W2.alloc (.cells #[.int .i64 s.1, .int .i64 s.2] 24)).alloc (.cells #[.slice (some ⟨W2.heap.size, 0, none⟩) 1 1] 22)) x
        have hszi : (((W2.alloc (.cells #[.int .i64 s.1, .int .i64 s.2] 24)).alloc (.cells #[.slice (some ⟨W2.heap.size, 0, none⟩) 1 1] 22)).alloc (.cells #[.int .i64 x.1, .int .i64 x.2] 24)).heap.size = W2.heap.size + 3 := by simp
        have hszl : (W2.alloc (.cells #[.int .i64 s.1, .int .i64 s.2] 24)).heap.size = W2.heap.size + 1 := by simp
        have bXs' : BoxT (((W2.alloc (.cells #[.int .i64 s.1, .int .i64 s.2] 24)).alloc (.cells #[.slice (some ⟨W2.heap.size, 0, none⟩) 1 1] 22)).alloc (.cells #[.int .i64 x.1, .int .i64 x.2] 24)) (W2.heap.size + 1 + 1) x := by simpa using bXs
        rw [hszl] at bL
        obtain ⟨Wl, hWl⟩ : ∃ Wl, W2.alloc (.cells #[.int .i64 s.1, .int .i64 s.2] 24) = Wl := ⟨_, rfl⟩
        rw [hWl] at bL bXs' hwl hw3 hszi hszl HLit ⊢
        obtain ⟨Wi, hWi⟩ : ∃ Wi, (Wl.alloc (.cells #[.slice (some ⟨W2.heap.size, 0, none⟩) 1 1] 22)).alloc (.cells #[.int .i64 x.1, .int .i64 x.2] 24) = Wi := ⟨_, rfl⟩
        rw [hWi] at bL bXs' hwl hw3 hszi ⊢
        have HI1 : Hid (Inner w W2 Wi W0.heap.size m (fun k => lies A k ∧ k < w.heap.size) Z (fun _ => False) s cp) :=
          HI0.out.moved (hwl.mono (by omega)) (fun k hk _ => hwl.block k hk) (by omega) (by omega) (fun k hk => by have := HZ2.out k hk; omega)
        have hl2 : Wi.heap[l]? = some (.loop r2) := (hwl.block l (by omega)).trans hr2
        have hmiss := miss_deep 3 (W2.heap.size + 1 + 1) (W2.heap.size + 1) 1 (some ⟨W2.heap.size, 0, none⟩) [s] x Wl Wi HLit.out hw3 bL.cell bXs'
        rw [HGS.out] at hmiss
        have hszi1 : W2.heap.size + 3 ≤ Wi.heap.size := by omega
        have hszi2 : Wi.heap.size ≤ W2.heap.size + 3 := by omega
        have hszl1 : Wl.heap.size ≤ W2.heap.size + 1 := by omega
        clear hWl hWi bXs bXs' bL hwl hw3 hszi hszl HI0 hr2
        refine wpIn_deepN (F := Fence.wide.inRound l) (n := 4) rfl hl2 (by omega) (gf := 36) (lb := #[.pointer (some ⟨W2.heap.size + 1 + 1, 0, none⟩), .pointer (some ⟨W2.heap.size + 1, 0, none⟩)]) rfl trivial (enters_of Try.func36 (by kernel_rfl) rfl) (SeqDeep.inRound l hmiss) (Below.refl _ _) (fun _ => rfl)
          (fun k hk => by rcases hk with hk | hk <;> omega)
          (fun pre' Z' V => Inner w W2 V W0.heap.size m (fun k => lies A k ∧ k < w.heap.size) Z Z' s (cp ++ pre'))
          (fun c pre Z V => False)
          ?iI (fun _ _ _ _ _ h _ => h) (by rw [List.append_nil]; exact HI1.out) ?iround ?idone ?istop
        case iI =>
          rintro pre' Z' X Y h1 hA
          exact h1.moved hA.flat (fun k hk hkz => hA.same k hk (hkz.imp (fun h => by omega) id)) (by omega) (by omega) (fun k hk => by have := HZ2.out k hk; omega)
        case iround =>
          rintro l' pre' y Z' X1 hl' hll' hz' hin hG'
          have HZ' : Hid (∀ k, Z' k → Wi.heap.size ≤ k ∧ k < X1.heap.size ∧ k ≠ l') := hz'
          have HI : Hid (Inner w W2 X1 W0.heap.size m (fun k => lies A k ∧ k < w.heap.size) Z Z' s (cp ++ pre')) := hin
          have hgl' : pre'.length + 1 ≤ gs.length := by have := hG'.length_le; simpa using this
          obtain ⟨lq, hlq⟩ : ∃ lq, cp ++ pre' = lq := ⟨_, rfl⟩
          have HLQ : Hid (cp ++ (pre' ++ [y]) = lq ++ [y]) := by unfold Hid; rw [← hlq, List.append_assoc]
          have hlq2 : lq.length = L + pre'.length := by rw [← hlq, List.length_append, HL.out]
          rw [hlq] at HI
          clear hz' hin hG' hlq hmiss
          unfold RoundOwes
          gi_wp2
          refine ⟨Mine.alloc (fun k hk => (HZ'.out k hk).2.1) _, ?_⟩
          intro X2 hg3 hr3
          have hs3 : X1.heap.size < X2.heap.size := by have := hg3.size; simp at this; omega
          have bY := (BoxT.new X1 y).kept hg3 (fun e => by cases e; omega)
          have HI2 : Hid (Inner w W2 X2 W0.heap.size m (fun k => lies A k ∧ k < w.heap.size) Z Z' s lq) := by
            refine HI.out.moved ((World.grownBy_alloc X1 (.cells #[.int .i64 y.1, .int .i64 y.2] 24) none |> flat_grown).trans (flat_grown hg3)) (fun k hk hkz => ?_) (by omega) (by omega) (fun k hk => by have := HZ2.out k hk; omega)
            refine (hg3.block k (by simp; omega) (fun e => ?_)).trans (Below.heap_alloc _ _ _ hk)
            cases e
            rcases hkz with h | h
            · omega
            · exact (HZ'.out _ h).2.2 rfl
          have HZ3 : Hid (∀ k, Z' k → k < X2.heap.size) := fun k hk => by have := (HZ'.out k hk).2.1; omega
          obtain ⟨gS, gB, gM, va3, vc3, gA, gR, gz⟩ := HI2.out
          have HGM : Hid (BoxT X2 w.heap.size s ∧ Below w.heap.size w X2 ∧ Mine W0.heap.size (fun k => lies A k ∧ k < w.heap.size) Z W2 (fun k => Z k ∨ Z' k) X2 ∧ (∀ k, lies va3 k → Z k ∨ Z' k)) := ⟨gS, gB, gM, gz⟩
          obtain ⟨Lq, hLq⟩ : ∃ Lq, lq.length = Lq := ⟨_, rfl⟩
          have HLq : Hid (lq.length = Lq) := hLq
          rw [hLq] at gA gR hlq2
          have hlq3 : Lq ≤ L + pre'.length := by omega
          clear hlq2
          have HGR : Hid (RowT X2 W0.heap.size va3 Lq vc3 lq) := gR
          have hX2 : W0.heap.size ≤ X2.heap.size := by omega
          clear hg3 hr3 HI HI2 gS gB gM gz gR hLq
          have HRm : Hid (¬ ((lies (some ⟨W2.heap.size, 0, none⟩) m ∧ m < Wl.heap.size) ∨ m = W2.heap.size + 1 + 1)) := fun h => by
            rcases h with ⟨⟨o, sp, e⟩, _⟩ | h
            · have e2 : W2.heap.size = m := by injection e with e; injection e
              omega
            · omega
          have HIR : Hid (∀ k, lies va3 k → Z' k ∨ (k < Wi.heap.size ∧ ¬ ((lies (some ⟨W2.heap.size, 0, none⟩) k ∧ k < Wl.heap.size) ∨ k = W2.heap.size + 1 + 1))) := fun k hk => by
            rcases HGM.out.2.2.2 k hk with h | h
            · have h1 := HZ2.out k h
              refine .inr ⟨by omega, fun h' => ?_⟩
              rcases h' with ⟨⟨o, sp, e⟩, _⟩ | h'
              · have e2 : W2.heap.size = k := by injection e with e; injection e
                omega
              · omega
            · exact .inl h
          have HRw : Hid (¬ (lies A m ∧ m < w.heap.size)) := fun h => by have := h.2; omega
          have HIW : Hid (∀ k, lies va3 k → (Z k ∨ Z' k) ∨ (k < W0.heap.size ∧ ¬ (lies A k ∧ k < w.heap.size))) := fun k hk => .inl (HGM.out.2.2.2 k hk)
          have HZZ : Hid (∀ k, Z k ∨ Z' k → k < X2.heap.size) := fun k hk => hk.elim (fun h => by have := HZ2.out k h; omega) (HZ3.out k)
          have cA := gA.cell
          have c0 := bY.cell0
          have c1 := bY.cell1
          gi_wp2_with (gi_at_builtin; refine wpListIn_append_own_at _ rfl _ _ 22 rfl W0.heap.size 24 i0 (.agg #[.int .i64 0, .int .i64 0]) 2 16 Try.underlying22 hi hz0 hz1 hz2 rfl (by decide) (.slice va3 Lq vc3) Lq (tcells lq) rfl (HGR.out.alloc _) ⟨X2.heap.size, 0, none⟩ 1 1 [.int .i64 y.1, .int .i64 y.2] rfl rfl (cells_new X2 [.int .i64 y.1, .int .i64 y.2] 24) two_one (by unfold maxLen; omega) (by omega) (by simp; omega) ?_; intro v' w2 hown' hgrow _ hat; obtain ⟨va', vc', rfl, hv1, hv2, hr2, hM, hin2, hga, hnw⟩ := coll_step (R := fun k => (lies (some ⟨W2.heap.size, 0, none⟩) k ∧ k < Wl.heap.size) ∨ k = W2.heap.size + 1 + 1) (Z := Z') (b := Wi.heap.size) gA (by omega) HRm.out HGR.out HIR.out HZ3.out hown' hgrow hat; have hM2 := (coll_step (R := fun k => lies A k ∧ k < w.heap.size) (Z := fun k => Z k ∨ Z' k) (b := W0.heap.size) gA (by omega) HRw.out HGR.out HIW.out HZZ.out hown' hgrow hat); have hc1 := hv1.cell; have hf1 := hv1.frozen; have HG : Hid (X2.grownBy w2 (Value.slice va3 Lq vc3).ownBlock ∧ Boxed w2 m 22 (.slice va3 Lq vc3)) := ⟨hga, hv1⟩; have HV : Hid (_ ∧ _ ∧ _ ∧ _ ∧ _) := ⟨hv2, hr2, hM, hin2, hnw⟩; have HM2 : Hid (Exists _) := hM2; clear hown' hgrow hat hga hv2 hr2 hM hin2 hnw hv1 hM2)
          obtain ⟨g1, g2, g3, g4, g5⟩ := HV.out
          obtain ⟨va'', vc'', e'', _, _, _, g6, _, _, _⟩ := HM2.out
          cases e''
          have hne : ∀ k, (Value.slice va3 Lq vc3).ownBlock = some k → W0.heap.size ≤ k := fun k e => by
            rcases row_case HGR.out with ⟨_, e'⟩ | ⟨g, _, e', hBg, _⟩
            · rw [e'] at e; cases e
            · rw [e'] at e; cases e; exact hBg
          refine ⟨_, g3, ?_, (below_grown HGM.out.2.1 (Nat.le_refl _) HG.out.1 (fun k e => by have := hne k e; omega)).setCell (p := ⟨m, 0, none⟩) (show w.heap.size ≤ m by omega) _, (HGM.out.2.2.1.trans g6).fewer (fun k hk => ?_), va', vc', ?_, ?_, fun k hk => ?_⟩
          · exact (HGM.out.1.kept HG.out.1 (fun e => by have := hne _ e.symm; omega)).other (B' := m) (by omega) 0 _
          · rcases hk with h | h | h
            · exact .inl (.inl h)
            · exact .inl (.inr h)
            · exact .inr h
          · rw [HLQ.out, List.length_append, HLq.out]; exact g1
          · rw [HLQ.out, List.length_append, HLq.out]; exact g2
          · rcases g5 k hk with h | h
            · exact (HGM.out.2.2.2 k h).imp id .inl
            · exact .inr (.inr ⟨hk, h⟩)
        case idone =>
          rintro xs Z' V hz' rfl ⟨gS, gB, gM, va3, vc3, gA, gR, gz⟩
          clear hmiss
          gi_wp2
          refine ⟨_, gM, gS, gB, va3, vc3, ?_, ?_, gz⟩
          · rw [HSN.out]; exact gA
          · rw [HSN.out]; exact gR
        case istop =>
          rintro c pre' Z' V _ _ h
          exact h.elim
      case done =>
        rintro D ys Z W hD hz rfl ⟨bS1, hB1, va, vc, bA1, rA1, zA⟩ hK
        have cA := bA1.cell
        clear bS3 bA bN hB2
        gi_wp2
        refine ⟨by simp, .inl ⟨_, _, rfl, run_takeDeferred hK, ?_⟩⟩
        refine ⟨_, results_tmp2 rfl _ _ _, va, vc, by rw [HE.out.1, HE.out.2]; rfl, ?_, hB1.trans (belowK_b (w := w) (Nat.le_refl _) _ D _ _ (by omega) hK rfl rfl)⟩
        rw [HE.out.2]
        exact ownsRow_putObj (RowT.mono rA1 (by omega)) _ hK rfl
      case stop =>
        rintro D c pre Z W hD hz hpre h hK
        exact h.elim
end Go.Proofs.Ytiigipfcagmgnaa
