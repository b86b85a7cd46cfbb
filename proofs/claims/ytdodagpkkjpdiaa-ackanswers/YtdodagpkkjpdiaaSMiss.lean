/- What is missing, given one by one. -/
import Derived.Test.YtdodagpkkjpdiaaSIter
namespace Go.Proofs.Ytdodagpkkjpdiaa
open Go.ChangeShapes Go.WideShapes Go.ChangeAt Go.RowKit Go.Shelf
set_option linter.unusedVariables false
attribute [local go_sem] Oper.semAt_some

theorem BoxT.apart {X Y : World} {B b : Nat} {x : Tm} {Z : Nat → Prop} (h : BoxT X B x) (hA : Apart b Z X Y) (hb : B < b ∨ Z B) : BoxT Y B x := (hA.same B h.lt hb).trans h
theorem boxed_apart {X Y : World} {B b : Nat} {t : TypeId} {v : Value} {Z : Nat → Prop} (h : Boxed X B t v) (hA : Apart b Z X Y) (hb : B < b ∨ Z B) : Boxed Y B t v := (hA.same B h.lt hb).trans h
theorem BoxT.mine {X Y : World} {B b : Nat} {x : Tm} {R Z Z' : Nat → Prop} (h : BoxT X B x) (hM : Mine b R Z X Z' Y) (hb : R B ∨ b ≤ B) (hz : ¬ Z B) : BoxT Y B x := (hM.same B h.lt hb hz).trans h
theorem boxed_mine {X Y : World} {B b : Nat} {t : TypeId} {v : Value} {R Z Z' : Nat → Prop} (h : Boxed X B t v) (hM : Mine b R Z X Z' Y) (hb : R B ∨ b ≤ B) (hz : ¬ Z B) : Boxed Y B t v := (hM.same B h.lt hb hz).trans h
theorem apart_set {b : Nat} {Z : Nat → Prop} (X : World) {B : Nat} (v : Value) (hb : b ≤ B) (hz : ¬ Z B) : Apart b Z X (X.setCell ⟨B, 0, none⟩ v) := Apart.of_grown (grownBy_setCell' X B v) (fun k e => by cases e; exact ⟨hb, hz⟩)

set_option maxHeartbeats 1000000 in
theorem missing_in (F : Fence) (n : Nat) (h28 : F.fn 77) (hro : F.round = none) (a : Option Addr) (len cap : Nat) (s : Tm) (w : World) :
    CallsIn F n Try.prog 77 #[.slice a len cap, tmV s] w fun e w' => e = .returned (.func (.func 81) #[] #[.pointer (some ⟨w.heap.size + 1, 0, none⟩), .pointer (some ⟨w.heap.size, 0, none⟩)]) ∧ w' = (w.alloc (.cells #[.slice a len cap] 29)).alloc (.cells #[.int .i64 s.1, .int .i64 s.2] 39) := by
  refine callsIn_of_wp Try.func77 rfl h28 ?_ hro
  simp only [Try.ntmps77, List.size_toArray, List.length_cons, List.length_nil, Nat.reduceAdd, Nat.reduceSub, Array.replicate_succ, Array.replicate_zero, List.push_toArray, List.append_toArray, List.nil_append, List.cons_append]
  gi_wp2
  go_ret
  exact ⟨rfl, rfl⟩

set_option maxRecDepth 100000 in
set_option maxHeartbeats 4000000 in
theorem miss_deep (n : Nat) (Bs Bl cap : Nat) (A : Option Addr) (ts : List Tm) (s : Tm) (w0 w : World) (hT : TimsAt w0 A ts) (hw : Below w0.heap.size w0 w) (hL : w.cell? ⟨Bl, 0, none⟩ = some (.slice A ts.length cap)) (bS : BoxT w Bs s) :
    SeqDeep Fence.wide n Try.prog 81 #[.pointer (some ⟨Bs, 0, none⟩), .pointer (some ⟨Bl, 0, none⟩)] (fun x : Tm => #[Value.agg #[.int .i64 x.1, .int .i64 x.2]]) (fun k => (lies A k ∧ k < w0.heap.size) ∨ k = Bs)
      (fun ys => ys = gapsL ts s.1 s.2) (fun pre => pre <+: gapsL ts s.1 s.2) (fun q => q <+: gapsL ts s.1 s.2) w := by
  intro l J Jx W hW hJ hJx hY h0
  have hw1 : Below w0.heap.size w0 W := hw.trans (hW.mono hw.size)
  have hL1 : W.cell? ⟨Bl, 0, none⟩ = some (.slice A ts.length cap) := (hW.cell (p := ⟨Bl, 0, none⟩) (lt_of_cell hL)).trans hL
  have bS1 : BoxT W Bs s := bS.below hW bS.lt
  clear hL bS hw hW
  refine callsIn_wide.2 ((callsIn_wide (n := 6)).1 ?_)
  refine callsIn_of_wp_marks Try.func81 rfl trivial ?_ rfl
  simp only [Try.ntmps81, List.size_toArray, List.length_cons, List.length_nil, Nat.reduceAdd, Nat.reduceSub, Array.replicate_succ, Array.replicate_zero, List.push_toArray, List.append_toArray, List.nil_append, List.cons_append]
  have s0 := bS1.cell0
  have hLt := lt_of_cell hL1
  have HLT : Hid (Bl < W.heap.size) := hLt
  clear hLt
  have l1 : ((W.alloc (.cells #[.func (.yield l) #[] #[]] 87)).alloc (.cells #[.int .i64 s.1] 3)).cell? ⟨Bl, 0, none⟩ = some (.slice A ts.length cap) := by
    rw [World.cell?_of_block (Below.heap_alloc _ _ _ (by have := HLT.out; simp; omega)), World.cell?_of_block (Below.heap_alloc _ _ _ HLT.out)]; exact hL1
  have s1 : (W.alloc (.cells #[.func (.yield l) #[] #[]] 87)).cell? ⟨Bs, 0, none⟩ = some (.int .i64 s.1) := (bS1.alloc _).cell0
  gi_wp2
  refine wpIn_scope ?_
  gi_wp2
  refine wpIn_label ?_
  gi_wp2_with (refine ⟨trivial, ?_⟩; gi_at_call 29; refine (each_in Fence.wide _ trivial rfl _ _ _ _).mono ?_; rintro e w' ⟨rfl, rfl⟩)
  have bY := ((Boxed.new W 87 (.func (.yield l) #[] #[])).alloc (.cells #[.int .i64 s.1] 3)).alloc (.cells #[.slice A ts.length cap] 29)
  have bF := (Boxed.new (W.alloc (.cells #[.func (.yield l) #[] #[]] 87)) 3 (.int .i64 s.1)).alloc (.cells #[.slice A ts.length cap] 29)
  have bN := Boxed.new ((W.alloc (.cells #[.func (.yield l) #[] #[]] 87)).alloc (.cells #[.int .i64 s.1] 3)) 29 (.slice A ts.length cap)
  have bS2 := ((bS1.alloc (.cells #[.func (.yield l) #[] #[]] 87)).alloc (.cells #[.int .i64 s.1] 3)).alloc (.cells #[.slice A ts.length cap] 29)
  simp only [World.size_alloc] at bF bN
  have hB : Below W.heap.size W (((W.alloc (.cells #[.func (.yield l) #[] #[]] 87)).alloc (.cells #[.int .i64 s.1] 3)).alloc (.cells #[.slice A ts.length cap] 29)) := (((Below.refl _ W).alloc (Nat.le_refl _) _).alloc (by simp) _).alloc (by simp; omega) _
  have hsz : (((W.alloc (.cells #[.func (.yield l) #[] #[]] 87)).alloc (.cells #[.int .i64 s.1] 3)).alloc (.cells #[.slice A ts.length cap] 29)).heap.size = W.heap.size + 3 := by simp
  have hJ0 : J [] (fun _ => False) (((W.alloc (.cells #[.func (.yield l) #[] #[]] 87)).alloc (.cells #[.int .i64 s.1] 3)).alloc (.cells #[.slice A ts.length cap] 29)) := hJ _ _ _ _ (hJ _ _ _ _ (hJ _ _ _ _ h0 (Apart.alloc _ _ _ _)) (Apart.alloc _ _ _ _)) (Apart.alloc _ _ _ _)
  obtain ⟨W0, hW0⟩ : ∃ W0, ((W.alloc (.cells #[.func (.yield l) #[] #[]] 87)).alloc (.cells #[.int .i64 s.1] 3)).alloc (.cells #[.slice A ts.length cap] 29) = W0 := ⟨_, rfl⟩
  rw [hW0] at bY bF bN bS2 hB hsz hJ0 ⊢
  have hBs : Bs < W.heap.size := bS1.lt
  have hE := each_deep 5 (W.heap.size + 1 + 1) cap A ts w0 W0 hT (hw1.trans (hB.mono hw1.size)) bN.cell
  have h0w : w0.heap.size ≤ W.heap.size := hw1.size
  clear hW0 s0 s1 l1 hL1 bS1 h0 bN hB hw1 hT
  have HJ : Hid (Abides W.heap.size J) := hJ
  have HJx : Hid (Abides W.heap.size Jx) := hJx
  clear hJ hJx
  refine wpIn_deep (F := Fence.wide) (n := 6) rfl (by omega) (gf := 43) (lb := #[.pointer (some ⟨W.heap.size + 1 + 1, 0, none⟩)]) rfl trivial (enters_of Try.func43 (by kernel_rfl) rfl) hE (Below.refl _ _) (fun _ => rfl)
    (fun k hk => by have := hk.2; omega)
    (fun pre Z V => J (outs pre s.1).1 Z V ∧ BoxT V Bs s ∧ Boxed V W.heap.size 87 (.func (.yield l) #[] #[]) ∧ Boxed V (W.heap.size + 1) 3 (.int .i64 (outs pre s.1).2) ∧ (∀ y ∈ pre, y.1 < s.2))
    (fun c pre Z V => (c = .exit 0 ∧ ∃ p x, pre = p ++ [x] ∧ J (outs p s.1).1 Z V ∧ BoxT V Bs s ∧ Boxed V W.heap.size 87 (.func (.yield l) #[] #[]) ∧ Boxed V (W.heap.size + 1) 3 (.int .i64 (outs p s.1).2) ∧ (∀ y ∈ p, y.1 < s.2) ∧ s.2 ≤ x.1) ∨ (c = .ret ∧ ∃ q, q <+: gapsL ts s.1 s.2 ∧ Jx q Z V))
    ?hI ?hIx ⟨hJ0, bS2, bY, bF, fun y hy => by cases hy⟩ ?round ?done ?stop
  case hI =>
    rintro pre Z X Y ⟨h1, h2, h3, h4, h5⟩ hA
    exact ⟨HJ.out _ _ _ _ h1 (hA.mono (by omega) (fun k h _ => .inl h)), h2.apart hA (.inl (by omega)), boxed_apart h3 hA (.inl (by omega)), boxed_apart h4 hA (.inl (by omega)), h5⟩
  case hIx =>
    rintro c pre Z X Y (⟨hc, p, x, e, h1, h2, h3, h4, h5, h6⟩ | ⟨hc, q, hq, h1⟩) hA
    · exact .inl ⟨hc, p, x, e, HJ.out _ _ _ _ h1 (hA.mono (by omega) (fun k h _ => .inl h)), h2.apart hA (.inl (by omega)), boxed_apart h3 hA (.inl (by omega)), boxed_apart h4 hA (.inl (by omega)), h5, h6⟩
    · exact .inr ⟨hc, q, hq, HJx.out _ _ _ _ h1 (hA.mono (by omega) (fun k h _ => .inl h))⟩
  case round =>
    rintro l' pre x Z W1 hl hll hz ⟨hJ1, bS1, bY1, bF1, hlt⟩ hG
    have hz' : ∀ k, Z k → k < W1.heap.size := fun k hk => (hz k hk).2.1
    have hzb : ∀ k, k < W.heap.size + 3 → ¬ Z k := fun k hk h => by have := (hz k h).1; omega
    have HZ : Hid ((∀ k, Z k → W0.heap.size ≤ k ∧ k < W1.heap.size ∧ k ≠ l') ∧ (∀ k, Z k → k < W1.heap.size) ∧ (∀ k, k < W.heap.size + 3 → ¬ Z k)) := ⟨hz, hz', hzb⟩
    have HG : Hid (pre ++ [x] <+: ts) := hG
    have HLT : Hid (∀ y ∈ pre, y.1 < s.2) := hlt
    have HJ1 : Hid (J (outs pre s.1).1 Z W1) := hJ1
    have HY : Hid (∀ _, _) := hY
    obtain ⟨f, hf⟩ : ∃ f, (outs pre s.1).2 = f := ⟨_, rfl⟩
    obtain ⟨og, hog⟩ : ∃ og, (outs pre s.1).1 = og := ⟨_, rfl⟩
    rw [hf] at bF1
    rw [hog] at HJ1
    have HF : Hid ((outs pre s.1).2 = f ∧ (outs pre s.1).1 = og) := ⟨hf, hog⟩
    clear hz hz' hzb hG hlt hJ1 hf hog hY bS2 bY bF hJ0 hE
    unfold RoundOwes
    gi_wp2
    refine ⟨Mine.alloc HZ.out.2.1 _, ?_⟩
    intro W2 hg2 hr2
    have bX := (BoxT.new W1 x).kept hg2 (fun e => by cases e; omega)
    have bS3 := (bS1.alloc (.cells #[.int .i64 x.1, .int .i64 x.2] 39)).kept hg2 (fun e => by cases e; omega)
    have bY3 := (bY1.alloc (.cells #[.int .i64 x.1, .int .i64 x.2] 39)).kept hg2 (fun e => by cases e; omega)
    have bF3 := (bF1.alloc (.cells #[.int .i64 x.1, .int .i64 x.2] 39)).kept hg2 (fun e => by cases e; omega)
    have hs2 : Hid (W1.heap.size + 1 ≤ W2.heap.size) := by have := hg2.size; simp at this; exact this
    have HZ2 : Hid ((∀ k, Z k → W0.heap.size ≤ k ∧ k < W2.heap.size ∧ k ≠ l') ∧ (∀ k, Z k → k < W1.heap.size)) := ⟨fun k hk => ⟨(HZ.out.1 k hk).1, by have := (HZ.out.1 k hk).2.1; have := hs2.out; omega, (HZ.out.1 k hk).2.2⟩, HZ.out.2.1⟩
    have HJ2 : Hid (J og Z W2) := HJ.out _ _ _ _ (HJ.out _ _ _ _ HJ1.out (Apart.alloc _ _ _ _)) (Apart.of_grown hg2 (fun k e => by cases e; exact ⟨by omega, fun h => (HZ.out.1 _ h).2.2 rfl⟩))
    clear bS1 bY1 bF1 HJ1 hg2 hr2
    have x0 := bX.cell0
    have x1 := bX.cell1
    have s1 := bS3.cell1
    have f0 := bF3.cell
    have ff := bF3.frozen
    have y0 := bY3.cell
    by_cases h1 : s.2 ≤ x.1
    · gi_wp2
      refine ⟨Z, Mine.refl (fun k hk => (HZ2.out.1 k hk).2.1), .inl ⟨rfl, pre, x, rfl, ?_, bS3, bY3, ?_, HLT.out, h1⟩⟩
      · rw [HF.out.2]; exact HJ2.out
      · rw [HF.out.1]; exact bF3
    · have HLT2 : Hid (∀ y ∈ pre ++ [x], y.1 < s.2) := fun y hy => by
        rcases List.mem_append.1 hy with hy | hy
        · exact HLT.out y hy
        · simp at hy; subst hy; omega
      by_cases h2 : x.2 ≤ f
      · have HO : Hid (outs (pre ++ [x]) s.1 = outs pre s.1) := outs_skip (by rw [HF.out.1]; exact h2)
        gi_wp2
        refine ⟨Z, Mine.refl (fun k hk => (HZ2.out.1 k hk).2.1), ?_, bS3, bY3, ?_, fun a b hy => HLT2.out (a, b) hy⟩
        · rw [HO.out, HF.out.2]; exact HJ2.out
        · rw [HO.out, HF.out.1]; exact bF3
      · by_cases h3 : f < x.1
        · have HO : Hid (outs (pre ++ [x]) s.1 = (og ++ [(f, x.1)], x.2)) := by
            have h := outs_gap (p := pre) (f := s.1) (x := x) (by rw [HF.out.1]; exact h2) (by rw [HF.out.1]; exact h3)
            rw [HF.out.1, HF.out.2] at h
            exact h
          have HP : Hid (og ++ [(f, x.1)] <+: gapsL ts s.1 s.2) := by
            have h := gaps_prefix (f := s.1) (t := s.2) HG.out HLT2.out
            rw [HO.out] at h
            exact h
          obtain ⟨fn, tmps, assign, body, hy, hR⟩ := yieldAt_any (F := Fence.wide) rfl 3 (HY.out og (f, x.1) Z W2 HJ2.out (by have := hs2.out; omega) (fun k hk => ⟨by have := (HZ2.out.1 k hk).1; omega, (HZ2.out.1 k hk).2.1⟩) HP.out)
          dsimp only at hy
          gi_wp2
          refine hR.mono ?_
          rintro e W3 ⟨Z', hM, hcase⟩
          have hnz : ∀ k, k < W0.heap.size → ¬ Z k := fun k hk h => by have := (HZ2.out.1 k h).1; omega
          have bS4 := bS3.mine hM (.inl (.inr rfl)) (hnz _ (by omega))
          have bY4 := boxed_mine bY3 hM (.inr (by omega)) (hnz _ (by omega))
          have bF4 := boxed_mine bF3 hM (.inr (by omega)) (hnz _ (by omega))
          have bX4 := bX.mine hM (.inr (by omega)) (fun h => by have := HZ2.out.2 _ h; omega)
          have HM : Hid (∀ V, W3.grownBy V (some (W.heap.size + 1)) → Mine W0.heap.size (fun k => lies A k ∧ k < w0.heap.size) Z W2 Z' V) := by
            intro V hgV
            refine ⟨hM.flat.trans ⟨hgV.os, hgV.tape, hgV.output, hgV.size, fun k hk => by omega⟩, hM.new, fun k hk => Nat.lt_of_lt_of_le (hM.lt k hk) hgV.size, fun k hk hR hzk => ?_⟩
            have h1 := hM.same k hk (hR.imp .inl (fun h => by omega)) hzk
            refine (hgV.block k (Nat.lt_of_lt_of_le hk hM.flat.size) (fun e => ?_)).trans h1
            cases e
            rcases hR with h | h
            · have := h.2; omega
            · omega
          have HM0 : Hid (Mine W0.heap.size (fun k => lies A k ∧ k < w0.heap.size) Z W2 Z' W3) := ⟨hM.flat, hM.new, hM.lt, fun k hk hR hzk => hM.same k hk (hR.imp .inl (fun h => by omega)) hzk⟩
          have HN : Hid (∀ k, Z' k → ¬ (k = W.heap.size + 1)) := fun k hk e => by
            rcases hM.new k hk with h | h
            · exact hnz k (by omega) h
            · have := hs2.out; omega
          clear hM hnz x0 x1 s1 f0 ff y0 bX bS3 bY3 bF3 hy
          rcases hcase with ⟨rfl, hJ3⟩ | ⟨rfl, hJx3⟩
          · have x1 := bX4.cell1
            have f0 := bF4.cell
            have ff := bF4.frozen
            have HJ3 : Hid (J (og ++ [(f, x.1)]) Z' W3) := hJ3
            clear hJ3
            gi_wp2
            refine ⟨Z', HM.out _ (grownBy_setCell' _ _ _), ?_, bS4.other (by omega) 0 _, bY4.other (by omega) _, ?_, HLT2.out⟩
            · rw [HO.out]; exact HJ.out _ _ _ _ HJ3.out (apart_set _ _ (by omega) (fun h => HN.out _ h rfl))
            · rw [HO.out]; exact bF4.set _
          · gi_wp2
            exact ⟨Z', HM0.out, .inr ⟨rfl, _, HP.out, hJx3⟩⟩
        · have HO : Hid (outs (pre ++ [x]) s.1 = (og, x.2)) := by
            have h := outs_on (p := pre) (f := s.1) (x := x) (by rw [HF.out.1]; exact h2) (by rw [HF.out.1]; exact h3)
            rw [HF.out.2] at h
            exact h
          gi_wp2
          refine ⟨Z, Mine.of_grown (grownBy_setCell' _ _ _) (fun k hk => (HZ2.out.1 k hk).2.1) (fun k e => by cases e; exact .inr ⟨by omega, fun h => by have := h.2; omega⟩), ?_, bS3.other (by omega) 0 _, bY3.other (by omega) _, ?_, fun a b hy => HLT2.out (a, b) hy⟩
          · rw [HO.out]; exact HJ.out _ _ _ _ HJ2.out (apart_set _ _ (by omega) (fun h => by have := (HZ2.out.1 _ h).1; omega))
          · rw [HO.out]; exact bF3.set _
  case done =>
    rintro D ys Z V hD hz hys ⟨hJ1, bS1, bY1, bF1, hlt⟩ hK
    obtain rfl := hys.symm
    obtain ⟨f, hf⟩ : ∃ f, (outs ts s.1).2 = f := ⟨_, rfl⟩
    obtain ⟨og, hog⟩ : ∃ og, (outs ts s.1).1 = og := ⟨_, rfl⟩
    have hgp : gapsL ts s.1 s.2 = og ++ fin f s.2 := by rw [← hf, ← hog]; exact gaps_all hlt
    have HGP : Hid (gapsL ts s.1 s.2 = og ++ fin f s.2) := hgp
    rw [hf] at bF1
    rw [hog] at hJ1
    clear hgp hf hog
    have HZ : Hid (∀ k, Z k → W0.heap.size ≤ k ∧ k < V.heap.size ∧ k ≠ D) := hz
    have HK : Hid (V.heap[D]? = some (.deferred (some []))) := hK
    have HJ1 : Hid (J og Z V) := hJ1
    have HY : Hid (∀ _, _) := hY
    have hDV : D < V.heap.size := (Array.getElem?_eq_some_iff.1 hK).1
    have hsV : W.heap.size + 1 < V.heap.size := bF1.lt
    have s1 := bS1.cell1
    have f0 := bF1.cell
    have y0 := bY1.cell
    clear hz hK hJ1 hY bS2 bY bF hJ0 hE
    by_cases h3 : f < s.2
    · have HP : Hid (gapsL ts s.1 s.2 = og ++ [(f, s.2)]) := by unfold Hid; rw [HGP.out, fin, if_pos h3]
      obtain ⟨fn, tmps, assign, body, hy, hR⟩ := yieldAt_any (F := Fence.wide) rfl 5 (HY.out og (f, s.2) Z V HJ1.out (by omega) (fun k hk => ⟨by have := (HZ.out k hk).1; omega, (HZ.out k hk).2.1⟩) (by rw [HP.out]; exact List.prefix_refl _))
      dsimp only at hy
      gi_wp2
      refine hR.mono ?_
      rintro e V3 ⟨Z', hM, hcase⟩
      have hK3 := (hM.same D hDV (.inr (by omega)) (fun h => (HZ.out D h).2.2 rfl)).trans HK.out
      have hA : Apart W.heap.size Z' V3 (V3.putObj D (.deferred none)) := Apart.of_grown (grownBy_putObj' _ _ _) (fun k e => by
        cases e
        refine ⟨by omega, fun h => ?_⟩
        rcases hM.new D h with h | h
        · exact (HZ.out D h).2.2 rfl
        · omega)
      clear hM
      rcases hcase with ⟨rfl, hJ3⟩ | ⟨rfl, hJx3⟩
      · gi_wp2
        refine ⟨by simp, .inl ⟨_, _, rfl, run_takeDeferred hK3, ?_⟩⟩
        exact ⟨_, results_none rfl _ _ _, ⟨_, rfl⟩, .inl ⟨_, Z', HP.out.symm, HJ.out _ _ _ _ hJ3 hA⟩⟩
      · gi_wp2
        refine ⟨by simp, .inl ⟨_, _, rfl, run_takeDeferred hK3, ?_⟩⟩
        exact ⟨_, results_none rfl _ _ _, ⟨_, rfl⟩, .inr ⟨_, Z', by rw [HP.out]; exact List.prefix_refl _, HJx.out _ _ _ _ hJx3 hA⟩⟩
    · have HP : Hid (gapsL ts s.1 s.2 = og) := by unfold Hid; rw [HGP.out, fin, if_neg h3, List.append_nil]
      have hA : Apart W.heap.size Z V (V.putObj D (.deferred none)) := Apart.of_grown (grownBy_putObj' _ _ _) (fun k e => by cases e; exact ⟨by omega, fun h => (HZ.out D h).2.2 rfl⟩)
      gi_wp2
      refine ⟨by simp, .inl ⟨_, _, rfl, run_takeDeferred HK.out, ?_⟩⟩
      exact ⟨_, results_none rfl _ _ _, ⟨_, rfl⟩, .inl ⟨_, Z, HP.out.symm, HJ.out _ _ _ _ HJ1.out hA⟩⟩
  case stop =>
    rintro D c pre Z V hD hz hpre (⟨rfl, p, x, rfl, hJ1, bS1, bY1, bF1, hlt, hx⟩ | ⟨rfl, q, hq, hj⟩) hK
    rotate_left
    · have hA : Apart W.heap.size Z V (V.putObj D (.deferred none)) := Apart.of_grown (grownBy_putObj' _ _ _) (fun k e => by cases e; exact ⟨by omega, fun h => (hz D h).2.2 rfl⟩)
      gi_wp2
      refine ⟨by simp, .inl ⟨_, _, rfl, run_takeDeferred hK, ?_⟩⟩
      exact ⟨_, results_none rfl _ _ _, ⟨_, rfl⟩, .inr ⟨_, Z, hq, HJx.out _ _ _ _ hj hA⟩⟩
    obtain ⟨f, hf⟩ : ∃ f, (outs p s.1).2 = f := ⟨_, rfl⟩
    obtain ⟨og, hog⟩ : ∃ og, (outs p s.1).1 = og := ⟨_, rfl⟩
    have hgp : gapsL ts s.1 s.2 = og ++ fin f s.2 := by rw [← hf, ← hog]; exact gaps_break hpre hlt hx
    have HGP : Hid (gapsL ts s.1 s.2 = og ++ fin f s.2) := hgp
    rw [hf] at bF1
    rw [hog] at hJ1
    clear hgp hf hog
    have HZ : Hid (∀ k, Z k → W0.heap.size ≤ k ∧ k < V.heap.size ∧ k ≠ D) := hz
    have HK : Hid (V.heap[D]? = some (.deferred (some []))) := hK
    have HJ1 : Hid (J og Z V) := hJ1
    have HY : Hid (∀ _, _) := hY
    have hDV : D < V.heap.size := (Array.getElem?_eq_some_iff.1 hK).1
    have hsV : W.heap.size + 1 < V.heap.size := bF1.lt
    have s1 := bS1.cell1
    have f0 := bF1.cell
    have y0 := bY1.cell
    clear hz hK hJ1 hY bS2 bY bF hJ0 hE
    by_cases h3 : f < s.2
    · have HP : Hid (gapsL ts s.1 s.2 = og ++ [(f, s.2)]) := by unfold Hid; rw [HGP.out, fin, if_pos h3]
      obtain ⟨fn, tmps, assign, body, hy, hR⟩ := yieldAt_any (F := Fence.wide) rfl 5 (HY.out og (f, s.2) Z V HJ1.out (by omega) (fun k hk => ⟨by have := (HZ.out k hk).1; omega, (HZ.out k hk).2.1⟩) (by rw [HP.out]; exact List.prefix_refl _))
      dsimp only at hy
      gi_wp2
      refine hR.mono ?_
      rintro e V3 ⟨Z', hM, hcase⟩
      have hK3 := (hM.same D hDV (.inr (by omega)) (fun h => (HZ.out D h).2.2 rfl)).trans HK.out
      have hA : Apart W.heap.size Z' V3 (V3.putObj D (.deferred none)) := Apart.of_grown (grownBy_putObj' _ _ _) (fun k e => by
        cases e
        refine ⟨by omega, fun h => ?_⟩
        rcases hM.new D h with h | h
        · exact (HZ.out D h).2.2 rfl
        · omega)
      clear hM
      rcases hcase with ⟨rfl, hJ3⟩ | ⟨rfl, hJx3⟩
      · gi_wp2
        refine ⟨by simp, .inl ⟨_, _, rfl, run_takeDeferred hK3, ?_⟩⟩
        exact ⟨_, results_none rfl _ _ _, ⟨_, rfl⟩, .inl ⟨_, Z', HP.out.symm, HJ.out _ _ _ _ hJ3 hA⟩⟩
      · gi_wp2
        refine ⟨by simp, .inl ⟨_, _, rfl, run_takeDeferred hK3, ?_⟩⟩
        exact ⟨_, results_none rfl _ _ _, ⟨_, rfl⟩, .inr ⟨_, Z', by rw [HP.out]; exact List.prefix_refl _, HJx.out _ _ _ _ hJx3 hA⟩⟩
    · have HP : Hid (gapsL ts s.1 s.2 = og) := by unfold Hid; rw [HGP.out, fin, if_neg h3, List.append_nil]
      have hA : Apart W.heap.size Z V (V.putObj D (.deferred none)) := Apart.of_grown (grownBy_putObj' _ _ _) (fun k e => by cases e; exact ⟨by omega, fun h => (HZ.out D h).2.2 rfl⟩)
      gi_wp2
      refine ⟨by simp, .inl ⟨_, _, rfl, run_takeDeferred HK.out, ?_⟩⟩
      exact ⟨_, results_none rfl _ _ _, ⟨_, rfl⟩, .inl ⟨_, Z, HP.out.symm, HJ.out _ _ _ _ HJ1.out hA⟩⟩
end Go.Proofs.Ytdodagpkkjpdiaa
