/- Texts: SAdd, ASp, AWg0. -/
import Derived.Test.YtdodagpkkjpdiaaSConc
import Derived.Laws.StructEq
import Derived.Deep.QuietTactic
import Derived.BigQuiet
import Derived.Deep.RegionWith
import Derived.Deep.RegionHeld3
import Derived.Deep.DeepCutAuto
import Derived.Test.YtdodagpkkjpdiaaQA47
import Derived.WalkMore
import Derived.Deep.Quiet
namespace Go.Proofs.Ytdodagpkkjpdiaa
open Go.ChangeShapes Go.WideShapes Go.ChangeAt Go.RowKit Go.Shelf
set_option linter.unusedVariables false
set_option linter.unusedSimpArgs false
attribute [local go_sem] Oper.semAt_some
set_option maxRecDepth 100000 in
set_option maxHeartbeats 2000000 in
theorem isEmpty_any (s : Tm) (w : World) : Calls Try.prog 57 #[tmV s] w fun e w' => e = .returned (.bool (decide (s.1 = s.2))) ∧ w' = w.alloc (.cells #[.int .i64 s.1, .int .i64 s.2] 39) := by
  by_cases h : s.1 = s.2
  · have h' : (s.1 == s.2) = true := by simpa using h
    have HD : Hid (decide (s.1 = s.2) = true) := by simpa [Hid] using h
    clear h
    go_enter Try.func57, Try.ntmps57
    go_wp2
    go_ret
    exact ⟨by rw [HD.out]; rfl, rfl⟩
  · have h' : (s.1 == s.2) = false := by simpa using h
    have HD : Hid (decide (s.1 = s.2) = false) := by simpa [Hid] using h
    clear h
    go_enter Try.func57, Try.ntmps57
    go_wp2
    go_ret
    exact ⟨by rw [HD.out]; rfl, rfl⟩
set_option maxRecDepth 100000 in
set_option maxHeartbeats 2000000 in
theorem sboth_any (A : Option Addr) (cap : Nat) (ts : List Tm) (s : Tm) (w : World) (hT : TimsAt w A ts) :
    Calls Try.prog 56 #[.slice A ts.length cap, tmV s] w fun e W' => e = .returned (.int .i64 (bothI ts s)) ∧ Below w.heap.size w W' := by
  have bS := BoxT.new w s
  have hB0 : Below w.heap.size w (w.alloc (.cells #[.int .i64 s.1, .int .i64 s.2] 39)) := (Below.refl _ w).alloc (Nat.le_refl _) _
  have cC := check_any A cap ts _ (hT.later hB0)
  cases hc : chk (-1) ts with
  | false =>
    have hE : errI ts = 60 := by simp [errI, hc]
    have hN : Hid (bothI ts s = 60) := by unfold Hid bothI; simp [hc]
    rw [hE] at cC
    clear hE hc
    go_enter Try.func56, Try.ntmps56
    go_wp2_with (go_at_call 12; refine cC.mono ?_; rintro e w1 ⟨rfl, hB1⟩)
    go_ret
    exact ⟨by rw [hN.out]; rfl, hB0.trans (hB1.mono (by simp))⟩
  | true =>
    have hE : errI ts = 0 := by simp [errI, hc]
    have hN : Hid (bothI ts s = if rightB s = true then 0 else 2) := by unfold Hid bothI; simp [hc]
    rw [hE] at cC
    clear hE hc
    by_cases h1 : s.1 < 0
    · have HR : Hid (rightB s = false) := by unfold Hid rightB; have : ¬ 0 ≤ s.1 := by omega
                                             simp [this]
      go_enter Try.func56, Try.ntmps56
      go_wp2_with (go_at_call 12; refine cC.mono ?_; rintro e w1 ⟨rfl, hB1⟩; have bS1 := bS.below hB1 (by simp <;> omega); have s0 := bS1.cell0; have s1 := bS1.cell1)
      go_ret
      exact ⟨by rw [hN.out, HR.out]; rfl, hB0.trans (hB1.mono (by simp))⟩
    · by_cases h2 : s.2 < s.1
      · have HR : Hid (rightB s = false) := by unfold Hid rightB; have : ¬ s.1 ≤ s.2 := by omega
                                               simp [this]
        go_enter Try.func56, Try.ntmps56
        go_wp2_with (go_at_call 12; refine cC.mono ?_; rintro e w1 ⟨rfl, hB1⟩; have bS1 := bS.below hB1 (by simp <;> omega); have s0 := bS1.cell0; have s1 := bS1.cell1)
        go_ret
        exact ⟨by rw [hN.out, HR.out]; rfl, hB0.trans (hB1.mono (by simp))⟩
      · by_cases h3 : 1125899906842624 < s.2
        · have HR : Hid (rightB s = false) := by unfold Hid rightB; have : ¬ s.2 ≤ 1125899906842624 := by omega
                                                 simp [this]
          go_enter Try.func56, Try.ntmps56
          go_wp2_with (go_at_call 12; refine cC.mono ?_; rintro e w1 ⟨rfl, hB1⟩; have bS1 := bS.below hB1 (by simp <;> omega); have s0 := bS1.cell0; have s1 := bS1.cell1)
          go_ret
          exact ⟨by rw [hN.out, HR.out]; rfl, hB0.trans (hB1.mono (by simp))⟩
        · have HR : Hid (rightB s = true) := rightB_iff.2 (by omega)
          go_enter Try.func56, Try.ntmps56
          go_wp2_with (go_at_call 12; refine cC.mono ?_; rintro e w1 ⟨rfl, hB1⟩; have bS1 := bS.below hB1 (by simp <;> omega); have s0 := bS1.cell0; have s1 := bS1.cell1)
          go_ret
          exact ⟨by rw [hN.out, HR.out]; rfl, hB0.trans (hB1.mono (by simp))⟩
/-- Two rows that grow, and a span. -/
def TwoRows (V : World) (b Bs m : Nat) (Z : Nat → Prop) (q : AddS) : Prop :=
  BoxT V Bs q.s ∧ ∃ va vc vb vd, Boxed V m 29 (.slice va q.A.length vc) ∧ Boxed V (m + 1) 29 (.slice vb q.B.length vd) ∧ RowT V b va q.A.length vc q.A ∧ RowT V b vb q.B.length vd q.B ∧ (∀ k, lies va k → Z k) ∧ (∀ k, lies vb k → Z k) ∧ (∀ k, lies va k → ¬ lies vb k)
theorem TwoRows.apart {X Y : World} {b Bs m : Nat} {Z : Nat → Prop} {q : AddS} (h : TwoRows X b Bs m Z q) (hA : Apart b Z X Y) (h1 : Bs < b) (h2 : m + 1 < b) : TwoRows Y b Bs m Z q := by
  obtain ⟨hs, va, vc, vb, vd, ha, hb, ra, rb, za, zb, hd⟩ := h
  exact ⟨hs.apart hA (.inl h1), va, vc, vb, vd, boxed_apart ha hA (.inl (by omega)), boxed_apart hb hA (.inl h2), ra.apart hA (fun k hk => .inl (za k hk)), rb.apart hA (fun k hk => .inl (zb k hk)), za, zb, hd⟩
theorem addStep_a {q : AddS} {x : Tm} (h : x.2 < q.s.1) : addStep q x = ⟨q.A ++ [x], q.B, q.s⟩ := by unfold addStep; rw [if_pos h]
theorem addStep_b {q : AddS} {x : Tm} (h : ¬ x.2 < q.s.1) (h' : q.s.2 < x.1) : addStep q x = ⟨q.A, q.B ++ [x], q.s⟩ := by unfold addStep; rw [if_neg h, if_pos h']
theorem addStep_s {q : AddS} {x : Tm} (h : ¬ x.2 < q.s.1) (h' : ¬ q.s.2 < x.1) : addStep q x = ⟨q.A, q.B, (min x.1 q.s.1, max x.2 q.s.2)⟩ := by unfold addStep; rw [if_neg h, if_neg h']
/-- The three rows that are laid one behind the other. -/
theorem cat3 (a b c : List Tm) : cat (fun j => if j = 0 then a else if j = 1 then b else c) 3 = a ++ b ++ c := by simp [cat, List.range_succ]
theorem concat3 (W : World) (va vb : Option Addr) (vc vd na nb B1 B2 : Nat) (a b : List Tm) (s : Tm) (g : List Tm) (ra : RowT W B1 va na vc a) (rb : RowT W B2 vb nb vd b) (hna : a.length = na) (hnb : b.length = nb) (hg : a ++ [s] ++ b = g) (n : Nat) (hn : g.length = n) (hlen : n * 16 ≤ 140737488355328) :
    Calls Try.prog 54 #[.slice (some ⟨W.heap.size + 1, 0, none⟩) 3 3] ((W.alloc (.cells #[.int .i64 s.1, .int .i64 s.2] 39)).alloc (.cells #[.slice va na vc, .slice (some ⟨W.heap.size, 0, none⟩) 1 1, .slice vb nb vd] 29)) fun e W' => ∃ v c, e = .returned (.slice v n c) ∧ RowT W' W.heap.size v n c g ∧ Below W.heap.size W W' := by
  subst hna; subst hnb; subst hn
  have hb0 : Below W.heap.size W ((W.alloc (.cells #[.int .i64 s.1, .int .i64 s.2] 39)).alloc (.cells #[.slice va a.length vc, .slice (some ⟨W.heap.size, 0, none⟩) 1 1, .slice vb b.length vd] 29)) := ((Below.refl _ W).alloc (Nat.le_refl _) _).alloc (by simp) _
  have bx := (BoxT.new W s).alloc (.cells #[.slice va a.length vc, .slice (some ⟨W.heap.size, 0, none⟩) 1 1, .slice vb b.length vd] 29)
  have hcat : cat (fun j => if j = 0 then a else if j = 1 then [s] else b) 3 = g := by rw [cat3, hg]
  have h := concat_any 3 (W.heap.size + 1) (fun j => if j = 0 then va else if j = 1 then some ⟨W.heap.size, 0, none⟩ else vb) (fun j => if j = 0 then vc else if j = 1 then 1 else vd) (fun j => if j = 0 then a else if j = 1 then [s] else b)
    ((W.alloc (.cells #[.int .i64 s.1, .int .i64 s.2] 39)).alloc (.cells #[.slice va a.length vc, .slice (some ⟨W.heap.size, 0, none⟩) 1 1, .slice vb b.length vd] 29)) (by omega) ?_ ?_ ?_ (by rw [hcat, ← hg]; simp; omega) (by rw [hcat]; exact hlen)
  · rw [hcat] at h
    refine h.mono ?_
    rintro e W' ⟨v, c, he, hR, hB⟩
    exact ⟨v, c, he, hR.mono (by simp; omega), hb0.trans (hB.mono (by simp; omega))⟩
  · intro j hj
    have hc := World.cell?_alloc_at (w := W.alloc (.cells #[.int .i64 s.1, .int .i64 s.2] 39)) #[.slice va a.length vc, .slice (some ⟨W.heap.size, 0, none⟩) 1 1, .slice vb b.length vd] 29 (W.heap.size + 1) j (by simp)
    rw [hc]
    match j, hj with
    | 0, _ => rfl
    | 1, _ => rfl
    | 2, _ => rfl
  · intro j hj
    match j, hj with
    | 0, _ => exact ra.tims.later hb0
    | 1, _ =>
      refine ⟨by simp [maxLen], fun j hj => ?_⟩
      obtain rfl : j = 0 := by simpa using hj
      exact ⟨W.heap.size, 0, rfl, bx.cell0, bx.cell1⟩
    | 2, _ => exact rb.tims.later hb0
  · intro j hj
    match j, hj with
    | 0, _ => exact row_none ra
    | 1, _ => intro e; cases e
    | 2, _ => exact row_none rb
set_option maxRecDepth 100000 in
set_option maxHeartbeats 4000000 in
theorem add_any (A : Option Addr) (cap : Nat) (ts : List Tm) (s : Tm) (w : World) (hT : TimsAt w A ts) (hA : A = none → cap = 0) (hlen : (ts.length + 1) * 16 ≤ 140737488355328) :
    Calls Try.prog 38 #[.slice A ts.length cap, tmV s] w fun e W' => ∃ va vc, e = .returned (.tuple #[.slice va (addV ts s).length vc, .int .i64 (bothI ts s)]) ∧ RowT W' w.heap.size va (addV ts s).length vc (addV ts s) ∧ Below w.heap.size w W' := by
  refine (callsIn_wide (n := 6)).1 ?_
  refine callsIn_of_wp_marks Try.func38 rfl trivial ?_ rfl
  simp only [Try.ntmps38, List.size_toArray, List.length_cons, List.length_nil, Nat.reduceAdd, Nat.reduceSub, Array.replicate_succ, Array.replicate_zero, List.push_toArray, List.append_toArray, List.nil_append, List.cons_append]
  have bS := BoxT.new w s
  have s0 := bS.cell0
  have s1 := bS.cell1
  have hB0 : Below w.heap.size w (w.alloc (.cells #[.int .i64 s.1, .int .i64 s.2] 39)) := (Below.refl _ w).alloc (Nat.le_refl _) _
  have cC := sboth_any A cap ts s _ (hT.later hB0)
  by_cases hok : chk (-1) ts = true ∧ rightB s = true
  rotate_left
  · obtain ⟨ee, hee⟩ : ∃ ee, bothI ts s = ee := ⟨_, rfl⟩
    have hne : (ee != 0) = true := by
      rw [← hee]; unfold bothI
      by_cases hc : chk (-1) ts = true
      · have hk : ¬ rightB s = true := fun h => hok ⟨hc, h⟩
        simp [hc, hk]
      · simp [hc]
    have HE : Hid (bothI ts s = ee ∧ addV ts s = []) := by
      refine ⟨hee, ?_⟩
      unfold addV
      by_cases hc : chk (-1) ts = true
      · have hk : ¬ rightB s = true := fun h => hok ⟨hc, h⟩
        simp [hc, hk]
      · simp [hc]
    rw [hee] at cC
    clear hee hok
    gi_wp2_with (refine ⟨trivial, ?_⟩; gi_at_call 56; refine (callsIn_wide.2 cC).mono ?_; rintro e w1 ⟨rfl, hB1⟩)
    refine ⟨_, results_tmp2 rfl _ _ _, none, 0, by rw [HE.out.1, HE.out.2]; rfl, by rw [HE.out.2]; exact RowT.nil _ _, hB0.trans (hB1.mono (by simp))⟩
  · have hee : bothI ts s = 0 := by unfold bothI; simp [hok.1, hok.2]
    rw [hee] at cC
    by_cases hem : s.1 = s.2
    · have HE : Hid (bothI ts s = 0 ∧ addV ts s = ts) := ⟨hee, by unfold addV; simp [hok.1, hok.2, hem]⟩
      have cE : ∀ W, Calls Try.prog 57 #[tmV s] W fun e w' => e = .returned (.bool true) ∧ w' = W.alloc (.cells #[.int .i64 s.1, .int .i64 s.2] 39) := fun W => by
        have := isEmpty_any s W; rw [show decide (s.1 = s.2) = true from by simpa using hem] at this; exact this
      have HT : Hid (∀ W, Below w.heap.size w W → Calls Try.prog 48 #[.slice A ts.length cap] W fun e W' => ∃ va vc, e = .returned (.slice va ts.length vc) ∧ RowT W' W.heap.size va ts.length vc ts ∧ Below W.heap.size W W') := fun W hW => cloneS_any A cap ts W (hT.later hW) hA (by omega)
      clear hee hok hem hT hA
      gi_wp2_with (first
        | (refine ⟨trivial, ?_⟩; gi_at_call 56; refine (callsIn_wide.2 cC).mono ?_; rintro e w1 ⟨rfl, hB1⟩; have bS1 := bS.below hB1 (by simp <;> omega); have s2 := bS1.cell0; have s3 := bS1.cell1; have HB1 : Hid (Below w.heap.size w (w1.alloc (.cells #[.int .i64 s.1, .int .i64 s.2] 39))) := (hB0.trans (hB1.mono (by simp))).alloc (by have := hB1.size; simp at this; omega) _)
        | (refine ⟨trivial, ?_⟩; gi_at_call 57; refine (callsIn_wide.2 (cE _)).mono ?_; rintro e w' ⟨rfl, rfl⟩)
        | (refine ⟨trivial, ?_⟩; gi_at_call 48; refine (callsIn_wide.2 (HT.out _ HB1.out)).mono ?_; rintro e w3 ⟨va, vc, rfl, hR, hB3⟩))
      refine ⟨_, results_tmp2 rfl _ _ _, va, vc, by rw [HE.out.1, HE.out.2]; rfl, by rw [HE.out.2]; exact hR.mono HB1.out.size, below_next HB1.out hB3⟩
    · have hs := rightB_iff.1 hok.2
      have hs2 : s.1 < s.2 := by omega
      have HE : Hid (bothI ts s = 0 ∧ addV ts s = addR ts s) := ⟨hee, by unfold addV; simp [hok.1, hok.2, hem]⟩
      have HADD : Hid ((addAll ts s).A ++ [(addAll ts s).s] ++ (addAll ts s).B = addR ts s) := add_is hok.1 hs2
      have cE : ∀ W, Calls Try.prog 57 #[tmV s] W fun e w' => e = .returned (.bool false) ∧ w' = W.alloc (.cells #[.int .i64 s.1, .int .i64 s.2] 39) := fun W => by
        have := isEmpty_any s W; rw [show decide (s.1 = s.2) = false from by simpa using hem] at this; exact this
      clear hee hok hem hs hs2 hA
      obtain ⟨i0, hi, hz0, hz1, hz2⟩ := info_parts Try.info39
      gi_wp2_with (first
        | (refine ⟨trivial, ?_⟩; gi_at_call 56; refine (callsIn_wide.2 cC).mono ?_; rintro e w1 ⟨rfl, hB1⟩; have bS1 := bS.below hB1 (by simp <;> omega); have s2 := bS1.cell0; have s3 := bS1.cell1)
        | (refine ⟨trivial, ?_⟩; gi_at_call 57; refine (callsIn_wide.2 (cE _)).mono ?_; rintro e w' ⟨rfl, rfl⟩)
        | (refine ⟨trivial, ?_⟩; gi_at_call 29; refine (each_in Fence.wide _ trivial rfl _ _ _ _).mono ?_; rintro e w' ⟨rfl, rfl⟩))
      have hs1 : w.heap.size + 1 ≤ w1.heap.size := by have := hB1.size; simp at this; omega
      have hBw : Below w.heap.size w (w1.alloc (.cells #[.int .i64 s.1, .int .i64 s.2] 39)) := (hB0.trans (hB1.mono (by simp))).alloc (by omega) _
      have bS2 := bS1.alloc (.cells #[.int .i64 s.1, .int .i64 s.2] 39)
      have hsm : (w1.alloc (.cells #[.int .i64 s.1, .int .i64 s.2] 39)).heap.size = w1.heap.size + 1 := by simp
      obtain ⟨w2, hw2⟩ : ∃ w2, w1.alloc (.cells #[.int .i64 s.1, .int .i64 s.2] 39) = w2 := ⟨_, rfl⟩
      rw [hw2] at hBw bS2 hsm ⊢
      have bS3 := ((bS2.alloc (.cells #[.slice none 0 0] 29)).alloc (.cells #[.slice none 0 0] 29)).alloc (.cells #[.slice A ts.length cap] 29)
      have bA := ((Boxed.new w2 29 (.slice none 0 0)).alloc (.cells #[.slice none 0 0] 29)).alloc (.cells #[.slice A ts.length cap] 29)
      have bB := (Boxed.new (w2.alloc (.cells #[.slice none 0 0] 29)) 29 (.slice none 0 0)).alloc (.cells #[.slice A ts.length cap] 29)
      have bN := Boxed.new ((w2.alloc (.cells #[.slice none 0 0] 29)).alloc (.cells #[.slice none 0 0] 29)) 29 (.slice A ts.length cap)
      simp only [World.size_alloc] at bB bN
      have hB2 : Below w.heap.size w (((w2.alloc (.cells #[.slice none 0 0] 29)).alloc (.cells #[.slice none 0 0] 29)).alloc (.cells #[.slice A ts.length cap] 29)) := ((hBw.alloc (by omega) _).alloc (by simp; omega) _).alloc (by simp; omega) _
      have hsz : (((w2.alloc (.cells #[.slice none 0 0] 29)).alloc (.cells #[.slice none 0 0] 29)).alloc (.cells #[.slice A ts.length cap] 29)).heap.size = w2.heap.size + 3 := by simp
      obtain ⟨W0, hW0⟩ : ∃ W0, ((w2.alloc (.cells #[.slice none 0 0] 29)).alloc (.cells #[.slice none 0 0] 29)).alloc (.cells #[.slice A ts.length cap] 29) = W0 := ⟨_, rfl⟩
      rw [hsm] at bA bB bN hsz
      obtain ⟨m, hm⟩ : ∃ m, w1.heap.size + 1 = m := ⟨_, rfl⟩
      rw [hm] at bA bB bN hsz hsm ⊢
      have hs1 : w.heap.size + 2 ≤ m := by omega
      rw [hW0] at bS3 bA bB bN hB2 hsz ⊢
      have hsz1 : m + 3 ≤ W0.heap.size := by omega
      have hsz2 : W0.heap.size ≤ m + 3 := by omega
      clear hW0 hw2 hBw hB1 cC cE bS bS1 bS2 s0 s1 s2 s3 hB0 hm hsz hsm
      refine wpIn_deep (F := Fence.wide) (n := 6) rfl (by omega) (gf := 43) (lb := #[.pointer (some ⟨m + 1 + 1, 0, none⟩)]) rfl trivial (enters_of Try.func43 (by kernel_rfl) rfl) (each_deep 5 (m + 1 + 1) cap A ts w W0 hT hB2 bN.cell) (Below.refl _ _) (fun _ => rfl)
        (fun k hk => by have := hk.2; omega)
        (fun pre Z V => TwoRows V W0.heap.size w.heap.size m Z (addAll pre s) ∧ Below w.heap.size w V)
        (fun c pre Z V => False)
        ?hI (fun _ _ _ _ _ h _ => h) ⟨⟨bS3, none, 0, none, 0, bA, bB, RowT.nil _ _, RowT.nil _ _, fun k hk => (by obtain ⟨_, _, e⟩ := hk; cases e), fun k hk => (by obtain ⟨_, _, e⟩ := hk; cases e), fun k hk => (by obtain ⟨_, _, e⟩ := hk; cases e)⟩, hB2⟩ ?round ?done ?stop
      case hI =>
        rintro pre Z X Y ⟨h1, h5⟩ hA
        exact ⟨h1.apart hA (by omega) (by omega), below_apart h5 (Nat.le_refl _) (by omega) hA⟩
      case round =>
        rintro l pre x Z W1 hl hll hz ⟨⟨bS1, va, vc, vb, vd, bA1, bB1, rA1, rB1, zA, zB, hdis⟩, hB1⟩ hG
        have HZ : Hid (∀ k, Z k → W0.heap.size ≤ k ∧ k < W1.heap.size ∧ k ≠ l) := hz
        have HIN : Hid ((∀ k, lies va k → Z k) ∧ (∀ k, lies vb k → Z k) ∧ (∀ k, lies va k → ¬ lies vb k)) := ⟨zA, zB, hdis⟩
        have hgl : pre.length + 1 ≤ ts.length := by have := hG.length_le; simpa using this
        have hal := addAll_len pre s
        have HSN : Hid (addAll (pre ++ [x]) s = addStep (addAll pre s) x) := addAll_snoc pre s x
        obtain ⟨q, hq⟩ : ∃ q, addAll pre s = q := ⟨_, rfl⟩
        rw [hq] at hal HSN bS1 bA1 bB1 rA1 rB1
        obtain ⟨qa, qb, qs⟩ := q
        simp only at hal bS1 bA1 bB1 rA1 rB1
        obtain ⟨La, hLa⟩ : ∃ L, qa.length = L := ⟨_, rfl⟩
        obtain ⟨Lb, hLb⟩ : ∃ L, qb.length = L := ⟨_, rfl⟩
        have HL : Hid (qa.length = La ∧ qb.length = Lb) := ⟨hLa, hLb⟩
        rw [hLa] at bA1 rA1 hal
        rw [hLb] at bB1 rB1 hal
        clear hz hG zA zB hdis hq hLa hLb bS3 bA bB bN hB2
        unfold RoundOwes
        gi_wp2
        refine ⟨Mine.alloc (fun k hk => (HZ.out k hk).2.1) _, ?_⟩
        intro W2 hg2 hr2
        have bX := (BoxT.new W1 x).kept hg2 (fun e => by cases e; omega)
        have bS2 := (bS1.alloc (.cells #[.int .i64 x.1, .int .i64 x.2] 39)).kept hg2 (fun e => by cases e; omega)
        have bA2 := (bA1.alloc (.cells #[.int .i64 x.1, .int .i64 x.2] 39)).kept hg2 (fun e => by cases e; omega)
        have bB2 := (bB1.alloc (.cells #[.int .i64 x.1, .int .i64 x.2] 39)).kept hg2 (fun e => by cases e; omega)
        have rA2 : Hid (RowT W2 W0.heap.size va La vc qa) := (rA1.alloc _).turned hg2 (fun k hk => (HZ.out k (HIN.out.1 k hk)).2.2)
        have rB2 : Hid (RowT W2 W0.heap.size vb Lb vd qb) := (rB1.alloc _).turned hg2 (fun k hk => (HZ.out k (HIN.out.2.1 k hk)).2.2)
        have hB2 : Hid (Below w.heap.size w W2) := below_grown (hB1.alloc (Nat.le_trans (Nat.le_refl _) hB1.size) _) (Nat.le_refl _) hg2 (fun k e => by cases e; omega)
        have hs2 : W1.heap.size < W2.heap.size := by have := hg2.size; simp at this; omega
        have HZ2 : Hid (∀ k, Z k → k < W2.heap.size) := fun k hk => by have h1 := (HZ.out k hk).2.1; omega
        have hws : W0.heap.size ≤ W2.heap.size := by omega
        clear bS1 bA1 bB1 rA1 rB1 hB1 hg2 hr2
        have cS0 := bS2.cell0
        have cS1 := bS2.cell1
        have fS0 := bS2.frozen 0
        have fS1 := bS2.frozen 1
        have cA := bA2.cell
        have cB := bB2.cell
        have c0 := bX.cell0
        have c1 := bX.cell1
        by_cases h1 : x.2 < qs.1
        · have HS : Hid (addAll (pre ++ [x]) s = ⟨qa ++ [x], qb, qs⟩) := HSN.out.trans (addStep_a h1)
          gi_wp2_with (gi_at_builtin; refine wpListIn_append_own_at _ rfl _ _ 29 rfl W0.heap.size 39 i0 (.agg #[.int .i64 0, .int .i64 0]) 2 16 Try.underlying29 hi hz0 hz1 hz2 rfl (by decide) (.slice va La vc) La (tcells qa) rfl (rA2.out.alloc _) ⟨W2.heap.size, 0, none⟩ 1 1 [.int .i64 x.1, .int .i64 x.2] rfl rfl (cells_new W2 [.int .i64 x.1, .int .i64 x.2] 39) two_one (by unfold maxLen; omega) (by omega) (by simp; omega) ?_; intro v' w2 hown' hgrow _ hat; obtain ⟨va', vc', rfl, hv1, hv2, hr2, hM, hin2, hga, hnw⟩ := coll_step (R := fun k => lies A k ∧ k < w.heap.size) (Z := Z) (b := W0.heap.size) bA2 (by omega) (fun h => by have := h.2; omega) rA2.out (fun k hk => .inl (HIN.out.1 k hk)) HZ2.out hown' hgrow hat; have hc1 := hv1.cell; have hf1 := hv1.frozen; have HG : Hid (W2.grownBy w2 (Value.slice va La vc).ownBlock ∧ Boxed w2 (m) 29 (.slice va La vc)) := ⟨hga, hv1⟩; have HV : Hid (_ ∧ _ ∧ _ ∧ _ ∧ _) := ⟨hv2, hr2, hM, hin2, hnw⟩; clear hown' hgrow hat hga hv2 hr2 hM hin2 hnw hv1)
          obtain ⟨g1, g2, g3, g4, g5⟩ := HV.out
          have hrow := rA2.out
          have hne : ∀ k, (Value.slice va La vc).ownBlock = some k → W0.heap.size ≤ k := fun k e => by
            rcases row_case hrow with ⟨_, e'⟩ | ⟨g, _, e', hBg, _⟩
            · rw [e'] at e; cases e
            · rw [e'] at e; cases e; exact hBg
          have rO := row_other (Bx := m) (v' := .slice va' (La + 1) vc') rB2.out hrow HG.out.1 HIN.out.2.2 HG.out.2
          have oO := boxed_other ((bB2).kept HG.out.1 (bB2.not_row (by decide) hrow)) (B' := m) (by omega) 0 (.slice va' (La + 1) vc')
          have sO := (bS2.kept HG.out.1 (fun e => by have := hne _ e.symm; omega)).other (B' := m) (by omega) 0 (.slice va' (La + 1) vc')
          have znew : ∀ k, lies va' k → Z k ∨ lies va' k ∧ W2.heap.size ≤ k := fun k hk => (g4 k hk).elim id (fun h => by have := g2.ge hk; omega)
          have hd : ∀ k, lies va' k → ¬ lies vb k := fun k hk ho => by
            rcases g5 k hk with h | h
            · exact HIN.out.2.2 k h ho
            · have := rB2.out.ge ho; omega
          have hBB := (below_grown hB2.out (Nat.le_refl _) HG.out.1 (fun k e => by have := hne k e; omega)).setCell (p := ⟨m, 0, none⟩) (show w.heap.size ≤ m by omega) (.slice va' (La + 1) vc')
          refine ⟨_, g3, ⟨?_, va', vc', vb, vd, ?_, ?_, ?_, ?_, znew, fun k hk => .inl (HIN.out.2.1 k hk), hd⟩, hBB⟩
          · rw [HS.out]; exact sO
          · rw [HS.out]; show Boxed _ m 29 (.slice va' (qa ++ [x]).length vc'); rw [List.length_append, HL.out.1]; exact g1
          · rw [HS.out]; show Boxed _ (m + 1) 29 (.slice vb qb.length vd); rw [HL.out.2]; exact oO
          · rw [HS.out]; show RowT _ _ va' (qa ++ [x]).length vc' (qa ++ [x]); rw [List.length_append, HL.out.1]; exact g2
          · rw [HS.out]; show RowT _ _ vb qb.length vd qb; rw [HL.out.2]; exact rO
        · by_cases h2 : qs.2 < x.1
          · have HS : Hid (addAll (pre ++ [x]) s = ⟨qa, qb ++ [x], qs⟩) := HSN.out.trans (addStep_b h1 h2)
            gi_wp2_with (gi_at_builtin; refine wpListIn_append_own_at _ rfl _ _ 29 rfl W0.heap.size 39 i0 (.agg #[.int .i64 0, .int .i64 0]) 2 16 Try.underlying29 hi hz0 hz1 hz2 rfl (by decide) (.slice vb Lb vd) Lb (tcells qb) rfl (rB2.out.alloc _) ⟨W2.heap.size, 0, none⟩ 1 1 [.int .i64 x.1, .int .i64 x.2] rfl rfl (cells_new W2 [.int .i64 x.1, .int .i64 x.2] 39) two_one (by unfold maxLen; omega) (by omega) (by simp; omega) ?_; intro v' w2 hown' hgrow _ hat; obtain ⟨va', vc', rfl, hv1, hv2, hr2, hM, hin2, hga, hnw⟩ := coll_step (R := fun k => lies A k ∧ k < w.heap.size) (Z := Z) (b := W0.heap.size) bB2 (by omega) (fun h => by have := h.2; omega) rB2.out (fun k hk => .inl (HIN.out.2.1 k hk)) HZ2.out hown' hgrow hat; have hc1 := hv1.cell; have hf1 := hv1.frozen; have HG : Hid (W2.grownBy w2 (Value.slice vb Lb vd).ownBlock ∧ Boxed w2 (m + 1) 29 (.slice vb Lb vd)) := ⟨hga, hv1⟩; have HV : Hid (_ ∧ _ ∧ _ ∧ _ ∧ _) := ⟨hv2, hr2, hM, hin2, hnw⟩; clear hown' hgrow hat hga hv2 hr2 hM hin2 hnw hv1)
            obtain ⟨g1, g2, g3, g4, g5⟩ := HV.out
            have hrow := rB2.out
            have hne : ∀ k, (Value.slice vb Lb vd).ownBlock = some k → W0.heap.size ≤ k := fun k e => by
              rcases row_case hrow with ⟨_, e'⟩ | ⟨g, _, e', hBg, _⟩
              · rw [e'] at e; cases e
              · rw [e'] at e; cases e; exact hBg
            have rO := row_other (Bx := m + 1) (v' := .slice va' (Lb + 1) vc') rA2.out hrow HG.out.1 (fun k h1 h2 => HIN.out.2.2 k h2 h1) HG.out.2
            have oO := boxed_other ((bA2).kept HG.out.1 (bA2.not_row (by decide) hrow)) (B' := m + 1) (by omega) 0 (.slice va' (Lb + 1) vc')
            have sO := (bS2.kept HG.out.1 (fun e => by have := hne _ e.symm; omega)).other (B' := m + 1) (by omega) 0 (.slice va' (Lb + 1) vc')
            have znew : ∀ k, lies va' k → Z k ∨ lies va' k ∧ W2.heap.size ≤ k := fun k hk => (g4 k hk).elim id (fun h => by have := g2.ge hk; omega)
            have hd : ∀ k, lies va' k → ¬ lies va k := fun k hk ho => by
              rcases g5 k hk with h | h
              · exact (fun k h1 h2 => HIN.out.2.2 k h2 h1) k h ho
              · have := rA2.out.ge ho; omega
            have hBB := (below_grown hB2.out (Nat.le_refl _) HG.out.1 (fun k e => by have := hne k e; omega)).setCell (p := ⟨m + 1, 0, none⟩) (show w.heap.size ≤ m + 1 by omega) (.slice va' (Lb + 1) vc')
            refine ⟨_, g3, ⟨?_, va, vc, va', vc', ?_, ?_, ?_, ?_, fun k hk => .inl (HIN.out.1 k hk), znew, fun k h1 h2 => hd k h2 h1⟩, hBB⟩
            · rw [HS.out]; exact sO
            · rw [HS.out]; show Boxed _ m 29 (.slice va qa.length vc); rw [HL.out.1]; exact oO
            · rw [HS.out]; show Boxed _ (m + 1) 29 (.slice va' (qb ++ [x]).length vc'); rw [List.length_append, HL.out.2]; exact g1
            · rw [HS.out]; show RowT _ _ va qa.length vc qa; rw [HL.out.1]; exact rO
            · rw [HS.out]; show RowT _ _ va' (qb ++ [x]).length vc' (qb ++ [x]); rw [List.length_append, HL.out.2]; exact g2
          · have HS : Hid (addAll (pre ++ [x]) s = ⟨qa, qb, (min x.1 qs.1, max x.2 qs.2)⟩) := HSN.out.trans (addStep_s h1 h2)
            have tail : ∀ a b : Int, a = min x.1 qs.1 → b = max x.2 qs.2 → ∃ Z', Mine W0.heap.size (fun k => lies A k ∧ k < w.heap.size) Z W2 Z' ((W2.setCell ⟨w.heap.size, 0, none⟩ (.int .i64 a)).setCell ⟨w.heap.size, 1, none⟩ (.int .i64 b)) ∧ TwoRows ((W2.setCell ⟨w.heap.size, 0, none⟩ (.int .i64 a)).setCell ⟨w.heap.size, 1, none⟩ (.int .i64 b)) W0.heap.size w.heap.size m Z' (addAll (pre ++ [x]) s) ∧ Below w.heap.size w ((W2.setCell ⟨w.heap.size, 0, none⟩ (.int .i64 a)).setCell ⟨w.heap.size, 1, none⟩ (.int .i64 b)) := by
              intro a b ha hb
              rw [← ha, ← hb] at HS
              refine ⟨Z, (mine_set HZ2.out 0 _ (by omega) (fun h => by have := h.2; omega)).trans (mine_set (fun k hk => by have := HZ2.out k hk; simpa using this) 1 _ (by omega) (fun h => by have := h.2; omega)), ⟨?_, va, vc, vb, vd, ?_, ?_, ?_, ?_, HIN.out.1, HIN.out.2.1, HIN.out.2.2⟩, (hB2.out.setCell (p := ⟨w.heap.size, 0, none⟩) (Nat.le_refl _) _).setCell (p := ⟨w.heap.size, 1, none⟩) (Nat.le_refl _) _⟩
              · rw [HS.out]; exact bS2.set (a, b)
              · rw [HS.out]; show Boxed _ m 29 (.slice va qa.length vc); rw [HL.out.1]; exact boxed_other (boxed_other bA2 (by omega) 0 _) (by omega) 1 _
              · rw [HS.out]; show Boxed _ (m + 1) 29 (.slice vb qb.length vd); rw [HL.out.2]; exact boxed_other (boxed_other bB2 (by omega) 0 _) (by omega) 1 _
              · rw [HS.out]; show RowT _ _ va qa.length vc qa; rw [HL.out.1]; exact (rA2.out.turned (grownBy_setAt _ _ _ _) (fun k hk => by have := rA2.out.ge hk; omega)).turned (grownBy_setAt _ _ _ _) (fun k hk => by have := rA2.out.ge hk; omega)
              · rw [HS.out]; show RowT _ _ vb qb.length vd qb; rw [HL.out.2]; exact (rB2.out.turned (grownBy_setAt _ _ _ _) (fun k hk => by have := rB2.out.ge hk; omega)).turned (grownBy_setAt _ _ _ _) (fun k hk => by have := rB2.out.ge hk; omega)
            have TAIL : Hid (∀ _, _) := tail
            clear tail HS
            gi_wp2
            all_goals first
              | exact TAIL.out x.1 x.2 (by omega) (by omega)
              | exact TAIL.out x.1 qs.2 (by omega) (by omega)
              | exact TAIL.out qs.1 x.2 (by omega) (by omega)
              | exact TAIL.out qs.1 qs.2 (by omega) (by omega)
      case done =>
        rintro D ys Z W hD hz rfl ⟨⟨bS1, va, vc, vb, vd, bA1, bB1, rA1, rB1, zA, zB, hdis⟩, hB1⟩ hK
        have HN : Hid (addR ys s = addV ys s) := HE.out.2.symm
        have hl1 := addR_len ys s
        obtain ⟨g, hg⟩ : ∃ g, addR ys s = g := ⟨_, rfl⟩
        rw [hg] at HADD HN hl1
        obtain ⟨n, hn⟩ : ∃ n, g.length = n := ⟨_, rfl⟩
        obtain ⟨q, hq⟩ : ∃ q, addAll ys s = q := ⟨_, rfl⟩
        rw [hq] at bS1 bA1 bB1 rA1 rB1 HADD
        obtain ⟨qa, qb, qs⟩ := q
        simp only at bS1 bA1 bB1 rA1 rB1 HADD
        obtain ⟨La, hLa⟩ : ∃ L, qa.length = L := ⟨_, rfl⟩
        obtain ⟨Lb, hLb⟩ : ∃ L, qb.length = L := ⟨_, rfl⟩
        rw [hLa] at bA1 rA1
        rw [hLb] at bB1 rB1
        have cI := concat3 W va vb vc vd La Lb _ _ qa qb qs g rA1 rB1 hLa hLb HADD.out n hn (by omega)
        have HG : Hid (g.length = n) := hn
        have HK : Hid (W.heap[D]? = some (.deferred (some []))) := hK
        have hDW : D < W.heap.size := (Array.getElem?_eq_some_iff.1 hK).1
        have HB1 : Hid (Below w.heap.size w W) := hB1
        have cS0 := bS1.cell0
        have cS1 := bS1.cell1
        have cA := bA1.cell
        have cB := bB1.cell
        have bS5 := bS1.alloc (.cells #[.int .i64 qs.1, .int .i64 qs.2] 39)
        have cB5 := (bB1.alloc (.cells #[.int .i64 qs.1, .int .i64 qs.2] 39)).cell
        clear hg hn hq hLa hLb HADD hK hB1 zA zB hdis rA1 rB1 bS1 bA1 bB1 bS5 bS3 bA bB bN hB2 hz
        gi_wp2_with (refine ⟨trivial, ?_⟩; gi_at_call 54; refine (callsIn_wide.2 cI).mono ?_; rintro e w5 ⟨va5, vc5, rfl, hR5, hB5⟩)
        have hK5 := (hB5.block D hDW).trans HK.out
        refine ⟨by simp, .inl ⟨_, _, rfl, run_takeDeferred hK5, ?_⟩⟩
        refine ⟨_, results_tmp2 rfl _ _ _, va5, vc5, by rw [HE.out.1, ← HN.out, HG.out]; rfl, ?_, (below_next HB1.out hB5).trans (belowK_b (w := w) (Nat.le_refl _) _ D _ _ (by omega) hK5 rfl rfl)⟩
        rw [← HN.out, HG.out]
        exact (ownsRow_putObj (RowT.mono hR5 HB1.out.size) _ hK5 rfl)
      case stop =>
        rintro D c pre Z W hD hz hpre h hK
        exact h.elim
set_option maxRecDepth 100000 in
set_option maxHeartbeats 2000000 in
theorem size_any (A : Option Addr) (cap : Nat) (ts : List Tm) (w : World) (hT : TimsAt w A ts) :
    Calls Try.prog 15 #[.slice A ts.length cap] w fun e W' => e = .returned (.int .i64 (sizeV ts)) ∧ Below w.heap.size w W' := by
  refine (callsIn_wide (n := 6)).1 ?_
  refine callsIn_of_wp_marks Try.func15 rfl trivial ?_ rfl
  simp only [Try.ntmps15, List.size_toArray, List.length_cons, List.length_nil, Nat.reduceAdd, Nat.reduceSub, Array.replicate_succ, Array.replicate_zero, List.push_toArray, List.append_toArray, List.nil_append, List.cons_append]
  have cC := check_any A cap ts w hT
  cases hc : chk (-1) ts with
  | false =>
    have hE : errI ts = 60 := by simp [errI, hc]
    have hN : Hid (sizeV ts = 0) := by unfold Hid sizeV; rw [if_neg (by rw [hc]; decide)]
    rw [hE] at cC
    clear hE hc
    gi_wp2_with (refine ⟨trivial, ?_⟩; gi_at_call 12; refine (callsIn_wide.2 cC).mono ?_; rintro e w1 ⟨rfl, hB1⟩)
    exact ⟨_, results_tmp rfl _ _ _, by rw [hN.out]; rfl, hB1⟩
  | true =>
    have hE : errI ts = 0 := by simp [errI, hc]
    have hN : Hid (sizeV ts = sizeL ts) := by unfold Hid sizeV; rw [if_pos hc]
    rw [hE] at cC
    have HC : Hid (chk (-1) ts = true) := hc
    clear hE hc
    gi_wp2_with (first
      | (refine ⟨trivial, ?_⟩; gi_at_call 12; refine (callsIn_wide.2 cC).mono ?_; rintro e w1 ⟨rfl, hB1⟩)
      | (refine ⟨trivial, ?_⟩; gi_at_call 29; refine (each_in Fence.wide _ trivial rfl _ _ _ _).mono ?_; rintro e w' ⟨rfl, rfl⟩))
    have hs1 : w.heap.size ≤ w1.heap.size := hB1.size
    have bO2 := (Boxed.new w1 3 (.int .i64 0)).alloc (.cells #[.slice A ts.length cap] 29)
    have bN2 := Boxed.new (w1.alloc (.cells #[.int .i64 0] 3)) 29 (.slice A ts.length cap)
    have hB2 : Below w.heap.size w ((w1.alloc (.cells #[.int .i64 0] 3)).alloc (.cells #[.slice A ts.length cap] 29)) := (hB1.alloc (by omega) _).alloc (by simp; omega) _
    have hsz : ((w1.alloc (.cells #[.int .i64 0] 3)).alloc (.cells #[.slice A ts.length cap] 29)).heap.size = w1.heap.size + 2 := by simp
    simp only [World.size_alloc] at bN2
    obtain ⟨W0, hW0⟩ : ∃ W0, (w1.alloc (.cells #[.int .i64 0] 3)).alloc (.cells #[.slice A ts.length cap] 29) = W0 := ⟨_, rfl⟩
    rw [hW0] at bO2 bN2 hB2 hsz ⊢
    clear hW0 hB1 cC
    refine wpIn_deep (F := Fence.wide) (n := 6) rfl (by omega) (gf := 43) (lb := #[.pointer (some ⟨w1.heap.size + 1, 0, none⟩)]) rfl trivial (enters_of Try.func43 (by kernel_rfl) rfl) (each_deep 5 (w1.heap.size + 1) cap A ts w W0 hT hB2 bN2.cell) (Below.refl _ _) (fun _ => rfl)
      (fun k hk => by have := hk.2; omega)
      (fun pre Z V => Boxed V w1.heap.size 3 (.int .i64 (sizeL pre)) ∧ Below w.heap.size w V)
      (fun c pre Z V => False)
      ?hI (fun _ _ _ _ _ h _ => h) ⟨bO2, hB2⟩ ?round ?done ?stop
    case hI =>
      rintro pre Z X Y ⟨h1, h5⟩ hA
      exact ⟨boxed_apart h1 hA (.inl (by omega)), below_apart h5 (Nat.le_refl _) (by omega) hA⟩
    case round =>
      rintro l pre x Z W1 hl hll hz ⟨bO1, hB1⟩ hG
      have HZ : Hid (∀ k, Z k → W0.heap.size ≤ k ∧ k < W1.heap.size ∧ k ≠ l) := hz
      have hok := chk_prefix' hG HC.out
      have hb1 := sizeL_bound _ _ hok (by omega)
      have HSN : Hid (sizeL (pre ++ [x]) = sizeL pre + (x.2 - x.1)) := sizeL_snoc pre x
      rw [HSN.out] at hb1
      rw [chk_snoc, Bool.and_eq_true] at hok
      have hb2 := okAt_iff.1 hok.2
      have hb0 := sizeL_bound _ _ hok.1 (by omega)
      have hx0 : -1 ≤ lastT (-1) pre := by
        have : ∀ (q : List Tm) (e : Int), chk e q = true → e ≤ lastT e q := by
          intro q
          induction q with
          | nil => intro e _; exact Int.le_refl _
          | cons y r ih => intro e he; rw [chk_cons] at he; have := ih y.2 he.2; rw [lastT_cons]; omega
        exact this pre (-1) hok.1
      have hx1 : -1 < x.1 := by omega
      have hx2 : x.1 < x.2 ∧ x.2 ≤ 1125899906842624 := hb2.2
      obtain ⟨sp, hsp⟩ : ∃ sp, sizeL pre = sp := ⟨_, rfl⟩
      rw [hsp] at hb1 hb0 bO1 HSN
      clear hz hG hok hb2 hx0 hsp bO2 bN2 hB2
      unfold RoundOwes
      gi_wp2
      refine ⟨Mine.alloc (fun k hk => (HZ.out k hk).2.1) _, ?_⟩
      intro W2 hg2 hr2
      have bX := (BoxT.new W1 x).kept hg2 (fun e => by cases e; omega)
      have bO2 := (bO1.alloc (.cells #[.int .i64 x.1, .int .i64 x.2] 39)).kept hg2 (fun e => by cases e; omega)
      have hB2 : Hid (Below w.heap.size w W2) := below_grown (hB1.alloc (Nat.le_trans (Nat.le_refl _) hB1.size) _) (Nat.le_refl _) hg2 (fun k e => by cases e; omega)
      have HZ2 : Hid (∀ k, Z k → k < W2.heap.size) := fun k hk => by have h1 := (HZ.out k hk).2.1; have h2 := hg2.size; simp at h2; omega
      clear bO1 hB1 hg2 hr2
      have cO := bO2.cell
      have fO := bO2.frozen
      have c0 := bX.cell0
      have c1 := bX.cell1
      gi_wp2
      refine ⟨Z, mine_set HZ2.out 0 _ (by omega) (fun h => by have := h.2; omega), ?_, hB2.out.setCell (p := ⟨w1.heap.size, 0, none⟩) (by simpa using hs1) _⟩
      rw [HSN.out]; exact bO2.set _
    case done =>
      rintro D ys Z W hD hz rfl ⟨bO1, hB1⟩ hK
      have cO := bO1.cell
      clear bO2 bN2 hB2
      gi_wp2
      refine ⟨by simp, .inl ⟨_, _, rfl, run_takeDeferred hK, ?_⟩⟩
      exact ⟨_, results_tmp rfl _ _ _, by rw [hN.out]; rfl, hB1.trans (belowK_b (w := w) (Nat.le_refl _) _ D _ _ (by omega) hK rfl rfl)⟩
    case stop =>
      rintro D c pre Z W hD hz hpre h hK
      exact h.elim
end Go.Proofs.Ytdodagpkkjpdiaa
namespace Go.Proofs.Ytdodagpkkjpdiaa
open Go.ChangeShapes Go.WideShapes Go.ChangeAt Go.RowKit Go.Shelf
set_option linter.unusedVariables false
set_option linter.unusedSimpArgs false
attribute [local go_sem] Oper.semAt_some
/-- The address of 'l[k:]', of ends. -/
def cutEd (a : Option Addr) (m k : Nat) : Option Addr := if m = k then a else a.map (·.add (k * 2))
theorem elem61 : Try.prog.elem 61 = 83 := by kernel_rfl
theorem under61 : Try.prog.underlying 61 = some (.slice (Try.prog.elem 61)) := by rw [elem61]; exact Try.underlying61
theorem size83 (w : World) : (sizeOf (Try.prog.elem 61)).run Try.prog w = .ok 2 w := by kernel_rfl
theorem sl_ends (a : Option Addr) (n c : Nat) (h : 1 ≤ n) (w : World) : (Instr.slice 61 (.slice a n c) (some (.int .i64 1)) none none).run Try.prog w = .ok (.slice (cutEd a c 1) (n - 1) (c - 1)) w := by
  rw [run_slice_l w 61 a n c under61 .i64 1 (by omega) (by omega), size83]
  simp [cutEd, sliced]
theorem TimsAt.tail {w : World} {a : Option Addr} {l : List Tm} {c : Nat} (h : TimsAt w a l) (hc : l.length ≤ c) : TimsAt w (cutEd a c 1) (l.drop 1) := by
  refine ⟨by have := h.1; rw [List.length_drop]; omega, fun j hj => ?_⟩
  rw [List.length_drop] at hj
  obtain ⟨b, o, rfl, h0, h1⟩ := h.2 (j + 1) (by omega)
  refine ⟨b, o + 2, ?_, ?_, ?_⟩
  · rw [cutEd, if_neg (by omega), Option.map_some, add_plain]
  · rw [show o + 2 + j * 2 = o + (j + 1) * 2 by omega, h0, List.getElem?_drop, Nat.add_comm 1 j]
  · rw [show o + 2 + j * 2 = o + (j + 1) * 2 by omega, h1, List.getElem?_drop, Nat.add_comm 1 j]
/-- Add at a row that may be, of a span that may be. -/
theorem add_row (A : Option Addr) (cap m m2 : Nat) (ts ts2 : List Tm) (p q : Int) (B : Nat) (w : World) (hR : RowT w B A m cap ts) (hB : B ≤ w.heap.size) (hm : m ≤ 2147483648) (hok : chk (-1) ts = true) (hr : rightB (p, q) = true) (h2 : addV ts (p, q) = ts2) (hm2 : ts2.length = m2) :
    Calls Try.prog 38 #[.slice A m cap, .agg #[.int .i64 p, .int .i64 q]] w fun e W' => ∃ va vc, e = .returned (.tuple #[.slice va m2 vc, .int .i64 0]) ∧ RowT W' B va m2 vc ts2 ∧ Below w.heap.size w W' := by
  have hl := hR.len
  subst hl h2 hm2
  refine (add_any A cap ts (p, q) w hR.tims (row_none hR) (by omega)).mono ?_
  rintro e W' ⟨va, vc, rfl, h3, h4⟩
  exact ⟨va, vc, by rw [bothI_ok hok hr], h3.mono hB, h4⟩
def SpR (w wr : World) (va : Option Addr) (m vc : Nat) (lo hi : Int) (l : List Tm) (i : Nat) : Prop := RowT wr w.heap.size va m vc (Ak.laidL lo hi (l.take i)) ∧ Below w.heap.size w wr
theorem take_one {l : List Tm} {i : Nat} {y : Tm} (h : l[i]? = some y) : l.take (i + 1) = l.take i ++ [y] := by
  rw [List.take_add_one, h]; rfl
set_option maxRecDepth 100000 in
set_option maxHeartbeats 4000000 in
theorem sp_all (l : List Tm) (A : Option Addr) (c : Nat) (n : Nat) (lo hi A0 : Int) (w : World) (h0 : 0 ≤ lo) (hh : hi ≤ 1125899906842624) (hT : TimsAt w A l) (hn : l.length = n) (hml : n ≤ 9223372036854775807) (hw : ∀ b ∈ l, A0 ≤ b.1 ∧ b.2 ≤ A0 + 4294967296) : Calls Try.prog 24 #[.slice A n c, .bool false, .int .i64 lo, .int .i64 hi] w fun e w' => ∃ va vc, e = .returned (.slice va (Ak.laidL lo hi l).length vc) ∧ RowT w' w.heap.size va (Ak.laidL lo hi l).length vc (Ak.laidL lo hi l) ∧ Below w.heap.size w w' := by
  have HP : Hid (TimsAt w A l ∧ l.length = n ∧ 0 ≤ lo ∧ hi ≤ 1125899906842624 ∧ ∀ i, (Ak.laidL lo hi (l.take i)).length ≤ 2147483648) := ⟨hT, hn, h0, hh, fun i => Ak.laid_len h0 _ (A := A0) fun b hb => hw b (List.mem_of_mem_take hb)⟩
  clear hT hn hw
  go_enter Try.func24, Try.ntmps24
  go_wp2_with fail
  go_step3
  go_wp2_with fail
  go_step3
  go_wp2_with fail
  go_loopw [9, 11, 13, 19] (fun v9 v11 v13 vi wr => ∃ (i : Nat) (va : Option Addr) (vc m : Nat), vi = .int .i64 (i : Int) ∧ v9 = .slice va m vc ∧ i ≤ n ∧ Hid (SpR w wr va m vc lo hi l i)) (fun _ _ _ vi _ => n - (intOf vi).toNat)
  case atStart => exact ⟨0, none, 0, 0, rfl, rfl, Nat.zero_le _, World.ownsRow_nil _ _ _ _, Below.refl _ _⟩
  case round =>
    obtain ⟨i, va, vc, m, rfl, rfl, hin, HR⟩ := hrel
    by_cases hlt : i < n
    · have hlt' : (i : Int) < (n : Int) := by omega
      have hi' : i < l.length := by have := HP.out.2.1; omega
      obtain ⟨b, o, e, hc0, hc1⟩ := (HP.out.1.later HR.out.2).2 i hi'
      subst e
      obtain ⟨p, hp⟩ : ∃ p, (l[i]?.getD (0, 0)).1 = p := ⟨_, rfl⟩
      obtain ⟨q, hq⟩ : ∃ q, (l[i]?.getD (0, 0)).2 = q := ⟨_, rfl⟩
      have HX : Hid (l[i]? = some (p, q)) := by
        unfold Hid; rw [List.getElem?_eq_getElem hi'] at hp hq ⊢; rw [← hp, ← hq]; rfl
      rw [hp] at hc0
      rw [hq] at hc1
      clear hp hq hi'
      go_upto_region 7 with fail
      obtain ⟨X, hX⟩ : ∃ X, wr.alloc (.cells #[.int .i64 p, .int .i64 q] 83) = X := ⟨_, rfl⟩
      have bX : Below wr.heap.size wr X := by rw [← hX]; exact below_more (Below.refl _ _) _
      have xX : Box X wr.heap.size 83 [.int .i64 p, .int .i64 q] := by rw [← hX]; exact Box.new wr 83 [.int .i64 p, .int .i64 q]
      rw [hX]
      obtain ⟨z, hz⟩ : ∃ z, wr.heap.size = z := ⟨_, rfl⟩
      have hB : Below w.heap.size w X := HR.out.2.trans (bX.mono HR.out.2.size)
      have HY : Hid (RowT X w.heap.size va m vc (Ak.laidL lo hi (l.take i)) ∧ Below w.heap.size w X) := ⟨HR.out.1.below bX (Nat.le_refl _), hB⟩
      rw [hz] at xX ⊢
      have x0 := Box.cell xX 0 rfl
      have x1 := Box.cell xX 1 rfl
      have i0 : ∀ W, (Instr.index 83 (.agg #[.int .i64 p, .int .i64 q]) (.int .i64 0)).run Try.prog W = .ok (.int .i64 p) W := fun _ => by kernel_rfl
      have i1 : ∀ W, (Instr.index 83 (.agg #[.int .i64 p, .int .i64 q]) (.int .i64 1)).run Try.prog W = .ok (.int .i64 q) W := fun _ => by kernel_rfl
      have HS : Hid (Ak.keepB lo hi (p, q) = false → SpR w X va m vc lo hi l (i + 1)) := fun hk => by
        refine ⟨?_, hB⟩
        rw [take_one HX.out, Ak.laid_snoc, if_neg (by rw [hk]; simp)]
        exact HY.out.1
      clear hX bX xX hB HR hc0 hc1 hz
      go_wp2_with fail
      go_loopw [13, 24] (fun v13 vk wx => ∃ k : Nat, vk = .int .i64 (k : Int) ∧ k ≤ 2 ∧ wx = X ∧ Hid ((0 < k → lo ≤ p ∧ p ≤ hi) ∧ (1 < k → lo ≤ q ∧ q ≤ hi))) (fun _ vk _ => 2 - (intOf vk).toNat)
      case atStart => exact ⟨0, rfl, by omega, rfl, fun h => by omega, fun h => by omega⟩
      case round =>
        obtain ⟨k, rfl, hk, hwx, HK⟩ := hrel
        obtain rfl := hwx.symm
        clear hwx
        rcases (show k = 0 ∨ k = 1 ∨ k = 2 by omega) with rfl | rfl | rfl
        · by_cases e1 : p < lo
          · have HN := HS.out (decide_eq_false (by rintro ⟨k1, k2, k3, k4⟩; simp only at k1; omega))
            have HN' : Hid (SpR w X va m vc lo hi l (i + 1)) := HN
            clear HN HS HY HK
            go_wp2_with fail
            go_roundw
            case rel => exact ⟨i + 1, va, vc, m, by go_num, rfl, by omega, HN'⟩
            case measure => simp [intOf]; omega
          · by_cases e2 : hi < p
            · have HN := HS.out (decide_eq_false (by rintro ⟨k1, k2, k3, k4⟩; simp only at k1 k2 k3; omega))
              have HN' : Hid (SpR w X va m vc lo hi l (i + 1)) := HN
              clear HN HS HY HK
              go_wp2_with fail
              go_roundw
              case rel => exact ⟨i + 1, va, vc, m, by go_num, rfl, by omega, HN'⟩
              case measure => simp [intOf]; omega
            · have HN : Hid ((0 < 1 → lo ≤ p ∧ p ≤ hi) ∧ (1 < 1 → lo ≤ q ∧ q ≤ hi)) := ⟨fun _ => by omega, fun h => by omega⟩
              go_wp2_with fail
              go_roundw
              case rel => exact ⟨1, by go_num, by omega, by trivial, HN⟩
              case measure => simp [intOf]
        · by_cases e1 : q < lo
          · have HN := HS.out (decide_eq_false (by rintro ⟨k1, k2, k3, k4⟩; have := HK.out.1 (by omega); simp only at k1 k2 k3; omega))
            have HN' : Hid (SpR w X va m vc lo hi l (i + 1)) := HN
            clear HN HS HY HK
            go_wp2_with fail
            go_roundw
            case rel => exact ⟨i + 1, va, vc, m, by go_num, rfl, by omega, HN'⟩
            case measure => simp [intOf]; omega
          · by_cases e2 : hi < q
            · have HN := HS.out (decide_eq_false (by rintro ⟨k1, k2, k3, k4⟩; simp only at k1 k2 k3; omega))
              have HN' : Hid (SpR w X va m vc lo hi l (i + 1)) := HN
              clear HN HS HY HK
              go_wp2_with fail
              go_roundw
              case rel => exact ⟨i + 1, va, vc, m, by go_num, rfl, by omega, HN'⟩
              case measure => simp [intOf]; omega
            · have HN : Hid ((0 < 2 → lo ≤ p ∧ p ≤ hi) ∧ (1 < 2 → lo ≤ q ∧ q ≤ hi)) := ⟨fun _ => HK.out.1 (by omega), fun _ => by omega⟩
              go_wp2_with fail
              go_roundw
              case rel => exact ⟨2, by go_num, by omega, by trivial, HN⟩
              case measure => simp [intOf]
        · by_cases e1 : p < q
          · have h3 := HK.out.1 (by omega)
            have h4 := HK.out.2 (by omega)
            have hkp : Ak.keepB lo hi (p, q) = true := decide_eq_true ⟨h3.1, e1, h4.2, by show q ≤ 1125899906842624; have := HP.out.2.2.2.1; omega⟩
            have hrt : rightB (p, q) = true := rightB_iff.2 ⟨by show 0 ≤ p; have := HP.out.2.2.1; omega, by show p ≤ q; omega, by show q ≤ 1125899906842624; have := HP.out.2.2.2.1; omega⟩
            have hlen := HP.out.2.2.2.2 i
            rw [HY.out.1.len] at hlen
            obtain ⟨m2, hm2⟩ : ∃ m2, (Ak.laidL lo hi (l.take (i + 1))).length = m2 := ⟨_, rfl⟩
            have cA := add_row va vc m m2 _ _ p q w.heap.size X HY.out.1 HY.out.2.size hlen (Ak.laid_chk HP.out.2.2.1 _) hrt (by rw [take_one HX.out, Ak.laid_snoc, if_pos hkp]) hm2
            clear h3 h4 hkp hrt hlen hm2 i0 i1 HK HS
            go_wp2_with (go_at_call 38; refine cA.mono ?_; rintro e W' ⟨va', vc', rfl, hR', hB'⟩)
            have HN : Hid (SpR w W' va' m2 vc' lo hi l (i + 1)) := ⟨hR', HY.out.2.trans (hB'.mono HY.out.2.size)⟩
            clear hR' hB' cA HY x0 x1
            go_wp2_with fail
            go_roundw
            case rel => exact ⟨i + 1, va', vc', m2, by go_num, rfl, by omega, HN⟩
            case measure => simp [intOf]; omega
          · have HN := HS.out (decide_eq_false (by rintro ⟨k1, k2, k3, k4⟩; simp only at k2; omega))
            have HN' : Hid (SpR w X va m vc lo hi l (i + 1)) := HN
            clear HN HS HY HK
            go_wp2_with fail
            go_roundw
            case rel => exact ⟨i + 1, va, vc, m, by go_num, rfl, by omega, HN'⟩
            case measure => simp [intOf]; omega
    · obtain rfl : i = n := by omega
      have hge : ¬ ((i : Int) < (i : Int)) := by omega
      go_wp2_with fail
      try rw [Exit.noGoto_ret]
      go_ret
      have k := HR.out
      unfold SpR at k
      rw [List.take_of_length_le (by rw [HP.out.2.1]; exact Nat.le_refl _)] at k
      have hm := k.1.len
      refine ⟨va, vc, by rw [hm]; rfl, by rw [hm]; exact k.1, k.2⟩
set_option maxRecDepth 100000 in
set_option maxHeartbeats 4000000 in
theorem sp_cut (l : List Tm) (A A' : Option Addr) (c c' N : Nat) (n : Nat) (lo hi A0 : Int) (w : World) (h0 : 0 ≤ lo) (hh : hi ≤ 1125899906842624) (hsl : ∀ W, (Instr.slice 61 (.slice A' N c') (some (.int .i64 1)) none none).run Try.prog W = .ok (.slice A n c) W) (hT : TimsAt w A l) (hn : l.length = n) (hml : n ≤ 9223372036854775807) (hw : ∀ b ∈ l, A0 ≤ b.1 ∧ b.2 ≤ A0 + 4294967296) : Calls Try.prog 24 #[.slice A' N c', .bool true, .int .i64 lo, .int .i64 hi] w fun e w' => ∃ va vc, e = .returned (.slice va (Ak.laidL lo hi l).length vc) ∧ RowT w' w.heap.size va (Ak.laidL lo hi l).length vc (Ak.laidL lo hi l) ∧ Below w.heap.size w w' := by
  have HP : Hid (TimsAt w A l ∧ l.length = n ∧ 0 ≤ lo ∧ hi ≤ 1125899906842624 ∧ ∀ i, (Ak.laidL lo hi (l.take i)).length ≤ 2147483648) := ⟨hT, hn, h0, hh, fun i => Ak.laid_len h0 _ (A := A0) fun b hb => hw b (List.mem_of_mem_take hb)⟩
  clear hT hn hw
  go_enter Try.func24, Try.ntmps24
  go_wp2_with fail
  go_step3
  go_wp2_with fail
  go_step3
  go_wp2_with fail
  clear hsl
  go_loopw [9, 11, 13, 19] (fun v9 v11 v13 vi wr => ∃ (i : Nat) (va : Option Addr) (vc m : Nat), vi = .int .i64 (i : Int) ∧ v9 = .slice va m vc ∧ i ≤ n ∧ Hid (SpR w wr va m vc lo hi l i)) (fun _ _ _ vi _ => n - (intOf vi).toNat)
  case atStart => exact ⟨0, none, 0, 0, rfl, rfl, Nat.zero_le _, World.ownsRow_nil _ _ _ _, Below.refl _ _⟩
  case round =>
    obtain ⟨i, va, vc, m, rfl, rfl, hin, HR⟩ := hrel
    by_cases hlt : i < n
    · have hlt' : (i : Int) < (n : Int) := by omega
      have hi' : i < l.length := by have := HP.out.2.1; omega
      obtain ⟨b, o, e, hc0, hc1⟩ := (HP.out.1.later HR.out.2).2 i hi'
      subst e
      obtain ⟨p, hp⟩ : ∃ p, (l[i]?.getD (0, 0)).1 = p := ⟨_, rfl⟩
      obtain ⟨q, hq⟩ : ∃ q, (l[i]?.getD (0, 0)).2 = q := ⟨_, rfl⟩
      have HX : Hid (l[i]? = some (p, q)) := by
        unfold Hid; rw [List.getElem?_eq_getElem hi'] at hp hq ⊢; rw [← hp, ← hq]; rfl
      rw [hp] at hc0
      rw [hq] at hc1
      clear hp hq hi'
      go_upto_region 7 with fail
      obtain ⟨X, hX⟩ : ∃ X, wr.alloc (.cells #[.int .i64 p, .int .i64 q] 83) = X := ⟨_, rfl⟩
      have bX : Below wr.heap.size wr X := by rw [← hX]; exact below_more (Below.refl _ _) _
      have xX : Box X wr.heap.size 83 [.int .i64 p, .int .i64 q] := by rw [← hX]; exact Box.new wr 83 [.int .i64 p, .int .i64 q]
      rw [hX]
      obtain ⟨z, hz⟩ : ∃ z, wr.heap.size = z := ⟨_, rfl⟩
      have hB : Below w.heap.size w X := HR.out.2.trans (bX.mono HR.out.2.size)
      have HY : Hid (RowT X w.heap.size va m vc (Ak.laidL lo hi (l.take i)) ∧ Below w.heap.size w X) := ⟨HR.out.1.below bX (Nat.le_refl _), hB⟩
      rw [hz] at xX ⊢
      have x0 := Box.cell xX 0 rfl
      have x1 := Box.cell xX 1 rfl
      have i0 : ∀ W, (Instr.index 83 (.agg #[.int .i64 p, .int .i64 q]) (.int .i64 0)).run Try.prog W = .ok (.int .i64 p) W := fun _ => by kernel_rfl
      have i1 : ∀ W, (Instr.index 83 (.agg #[.int .i64 p, .int .i64 q]) (.int .i64 1)).run Try.prog W = .ok (.int .i64 q) W := fun _ => by kernel_rfl
      have HS : Hid (Ak.keepB lo hi (p, q) = false → SpR w X va m vc lo hi l (i + 1)) := fun hk => by
        refine ⟨?_, hB⟩
        rw [take_one HX.out, Ak.laid_snoc, if_neg (by rw [hk]; simp)]
        exact HY.out.1
      clear hX bX xX hB HR hc0 hc1 hz
      go_wp2_with fail
      go_loopw [13, 24] (fun v13 vk wx => ∃ k : Nat, vk = .int .i64 (k : Int) ∧ k ≤ 2 ∧ wx = X ∧ Hid ((0 < k → lo ≤ p ∧ p ≤ hi) ∧ (1 < k → lo ≤ q ∧ q ≤ hi))) (fun _ vk _ => 2 - (intOf vk).toNat)
      case atStart => exact ⟨0, rfl, by omega, rfl, fun h => by omega, fun h => by omega⟩
      case round =>
        obtain ⟨k, rfl, hk, hwx, HK⟩ := hrel
        obtain rfl := hwx.symm
        clear hwx
        rcases (show k = 0 ∨ k = 1 ∨ k = 2 by omega) with rfl | rfl | rfl
        · by_cases e1 : p < lo
          · have HN := HS.out (decide_eq_false (by rintro ⟨k1, k2, k3, k4⟩; simp only at k1; omega))
            have HN' : Hid (SpR w X va m vc lo hi l (i + 1)) := HN
            clear HN HS HY HK
            go_wp2_with fail
            go_roundw
            case rel => exact ⟨i + 1, va, vc, m, by go_num, rfl, by omega, HN'⟩
            case measure => simp [intOf]; omega
          · by_cases e2 : hi < p
            · have HN := HS.out (decide_eq_false (by rintro ⟨k1, k2, k3, k4⟩; simp only at k1 k2 k3; omega))
              have HN' : Hid (SpR w X va m vc lo hi l (i + 1)) := HN
              clear HN HS HY HK
              go_wp2_with fail
              go_roundw
              case rel => exact ⟨i + 1, va, vc, m, by go_num, rfl, by omega, HN'⟩
              case measure => simp [intOf]; omega
            · have HN : Hid ((0 < 1 → lo ≤ p ∧ p ≤ hi) ∧ (1 < 1 → lo ≤ q ∧ q ≤ hi)) := ⟨fun _ => by omega, fun h => by omega⟩
              go_wp2_with fail
              go_roundw
              case rel => exact ⟨1, by go_num, by omega, by trivial, HN⟩
              case measure => simp [intOf]
        · by_cases e1 : q < lo
          · have HN := HS.out (decide_eq_false (by rintro ⟨k1, k2, k3, k4⟩; have := HK.out.1 (by omega); simp only at k1 k2 k3; omega))
            have HN' : Hid (SpR w X va m vc lo hi l (i + 1)) := HN
            clear HN HS HY HK
            go_wp2_with fail
            go_roundw
            case rel => exact ⟨i + 1, va, vc, m, by go_num, rfl, by omega, HN'⟩
            case measure => simp [intOf]; omega
          · by_cases e2 : hi < q
            · have HN := HS.out (decide_eq_false (by rintro ⟨k1, k2, k3, k4⟩; simp only at k1 k2 k3; omega))
              have HN' : Hid (SpR w X va m vc lo hi l (i + 1)) := HN
              clear HN HS HY HK
              go_wp2_with fail
              go_roundw
              case rel => exact ⟨i + 1, va, vc, m, by go_num, rfl, by omega, HN'⟩
              case measure => simp [intOf]; omega
            · have HN : Hid ((0 < 2 → lo ≤ p ∧ p ≤ hi) ∧ (1 < 2 → lo ≤ q ∧ q ≤ hi)) := ⟨fun _ => HK.out.1 (by omega), fun _ => by omega⟩
              go_wp2_with fail
              go_roundw
              case rel => exact ⟨2, by go_num, by omega, by trivial, HN⟩
              case measure => simp [intOf]
        · by_cases e1 : p < q
          · have h3 := HK.out.1 (by omega)
            have h4 := HK.out.2 (by omega)
            have hkp : Ak.keepB lo hi (p, q) = true := decide_eq_true ⟨h3.1, e1, h4.2, by show q ≤ 1125899906842624; have := HP.out.2.2.2.1; omega⟩
            have hrt : rightB (p, q) = true := rightB_iff.2 ⟨by show 0 ≤ p; have := HP.out.2.2.1; omega, by show p ≤ q; omega, by show q ≤ 1125899906842624; have := HP.out.2.2.2.1; omega⟩
            have hlen := HP.out.2.2.2.2 i
            rw [HY.out.1.len] at hlen
            obtain ⟨m2, hm2⟩ : ∃ m2, (Ak.laidL lo hi (l.take (i + 1))).length = m2 := ⟨_, rfl⟩
            have cA := add_row va vc m m2 _ _ p q w.heap.size X HY.out.1 HY.out.2.size hlen (Ak.laid_chk HP.out.2.2.1 _) hrt (by rw [take_one HX.out, Ak.laid_snoc, if_pos hkp]) hm2
            clear h3 h4 hkp hrt hlen hm2 i0 i1 HK HS
            go_wp2_with (go_at_call 38; refine cA.mono ?_; rintro e W' ⟨va', vc', rfl, hR', hB'⟩)
            have HN : Hid (SpR w W' va' m2 vc' lo hi l (i + 1)) := ⟨hR', HY.out.2.trans (hB'.mono HY.out.2.size)⟩
            clear hR' hB' cA HY x0 x1
            go_wp2_with fail
            go_roundw
            case rel => exact ⟨i + 1, va', vc', m2, by go_num, rfl, by omega, HN⟩
            case measure => simp [intOf]; omega
          · have HN := HS.out (decide_eq_false (by rintro ⟨k1, k2, k3, k4⟩; simp only at k2; omega))
            have HN' : Hid (SpR w X va m vc lo hi l (i + 1)) := HN
            clear HN HS HY HK
            go_wp2_with fail
            go_roundw
            case rel => exact ⟨i + 1, va, vc, m, by go_num, rfl, by omega, HN'⟩
            case measure => simp [intOf]; omega
    · obtain rfl : i = n := by omega
      have hge : ¬ ((i : Int) < (i : Int)) := by omega
      go_wp2_with fail
      try rw [Exit.noGoto_ret]
      go_ret
      have k := HR.out
      unfold SpR at k
      rw [List.take_of_length_le (by rw [HP.out.2.1]; exact Nat.le_refl _)] at k
      have hm := k.1.len
      refine ⟨va, vc, by rw [hm]; rfl, by rw [hm]; exact k.1, k.2⟩
theorem spans_is (l : List Tm) (A : Option Addr) (c n : Nat) (tw : Bool) (lo hi A0 : Int) (w : World) (h0 : 0 ≤ lo) (hh : hi ≤ 1125899906842624) (hT : TimsAt w A l) (hn : l.length = n) (hc : n ≤ c) (htw : tw = true → 1 ≤ n) (hw : ∀ b ∈ l, A0 ≤ b.1 ∧ b.2 ≤ A0 + 4294967296) :
    Calls Try.prog 24 #[.slice A n c, .bool tw, .int .i64 lo, .int .i64 hi] w fun e w' => ∃ va vc, e = .returned (.slice va (Ak.laidL lo hi (if tw = true then l.drop 1 else l)).length vc) ∧ RowT w' w.heap.size va (Ak.laidL lo hi (if tw = true then l.drop 1 else l)).length vc (Ak.laidL lo hi (if tw = true then l.drop 1 else l)) ∧ Below w.heap.size w w' := by
  have hml : n ≤ 9223372036854775807 := by rw [← hn]; exact hT.1
  cases tw with
  | false => exact sp_all l A c n lo hi A0 w h0 hh hT hn hml hw
  | true => exact sp_cut (l.drop 1) _ A _ c n (n - 1) lo hi A0 w h0 hh (sl_ends A n c (htw rfl)) (hT.tail (by omega)) (by rw [List.length_drop]; omega) (by omega) (fun b hb => hw b (List.mem_of_mem_drop hb))
end Go.Proofs.Ytdodagpkkjpdiaa
namespace Go.Proofs.Ytdodagpkkjpdiaa
open Go.ChangeShapes Go.WideShapes Go.ChangeAt Go.RowKit Go.Shelf
set_option linter.unusedVariables false
set_option linter.unusedSimpArgs false
attribute [local go_sem] Oper.semAt_some
theorem max2 {x y m : Int} (h : max x y = m) (W : World) : (Builtin.max_ #[3, 3] 3 #[.int .i64 x, .int .i64 y]).run Try.prog W = .ok (.int .i64 m) W := by
  subst h
  simp [Builtin.max_, Builtin.max2]
  omega
theorem min2 {x y m : Int} (h : min x y = m) (W : World) : (Builtin.min_ #[3, 3] 3 #[.int .i64 x, .int .i64 y]).run Try.prog W = .ok (.int .i64 m) W := by
  subst h
  simp [Builtin.min_, Builtin.min2]
  omega
theorem built31m (u y n : Int) (o : Bool) : Try.prog.built 31 [(0, .bool true), (1, .int .i64 u), (2, .bool o), (3, .int .i64 y), (4, .int .i64 n)] = some (hcL ⟨true, u, o, y, n, 0, 0, false, none, 0, 0⟩).toArray := by kernel_rfl
theorem TimsAt.sto0 {w X : World} {g e : Nat} {l : List Tm} (h : TimsAt w (some ⟨e, 0, none⟩) l) (hs : Sto w g X) (he : e ≠ g) : TimsAt X (some ⟨e, 0, none⟩) l := by
  refine ⟨h.1, fun j hj => ?_⟩
  obtain ⟨b, o, e1, h0, h1⟩ := h.2 j hj
  cases e1
  have hb := hs.other e he
  refine ⟨e, 0, rfl, ?_, ?_⟩
  · rw [← h0]; unfold World.cell?; simp only [hb]
  · rw [← h1]; unfold World.cell?; simp only [hb]
theorem RowT.sto0 {w X : World} {B g L vc : Nat} {va : Option Addr} {l : List Tm} (h : RowT w B va L vc l) (hs : Sto w g X) (hg : g < B) : RowT X B va L vc l :=
  h.moved fun k _ hk => hs.other k (by have := h.ge hk; omega)
end Go.Proofs.Ytdodagpkkjpdiaa
