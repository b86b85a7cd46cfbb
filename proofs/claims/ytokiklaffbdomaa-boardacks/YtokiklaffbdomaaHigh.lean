/- The contract of High. -/
import Derived.Test.YtokiklaffbdomaaCount
namespace Go.Proofs.Ytokiklaffbdomaa
open Go.ChangeShapes Go.WideShapes Go.ChangeAt Go.RowKit Go.Shelf
set_option linter.unusedVariables false
attribute [local go_sem] Oper.semAt_some

theorem maxT_bound {ts : List Rc} (h : ∀ x ∈ ts, 0 ≤ x.t ∧ x.t ≤ 1125899906842625) : ∀ m, 0 ≤ m → m ≤ 1125899906842625 → 0 ≤ maxT m ts ∧ maxT m ts ≤ 1125899906842625 := by
  induction ts with
  | nil => intro m h0 h1; exact ⟨h0, h1⟩
  | cons x r ih =>
    intro m h0 h1
    have := h x List.mem_cons_self
    exact ih (fun y hy => h y (List.mem_cons_of_mem _ hy)) (max m x.t) (by omega) (by omega)
set_option maxRecDepth 100000 in
set_option maxHeartbeats 4000000 in
theorem high_any (A : Option Addr) (cap : Nat) (ts : List Rc) (w : World) (hT : RecsAt w A ts) :
    Calls Try.prog 28 #[.slice A ts.length cap] w fun e W' => e = .returned (.int .i64 (highI ts)) ∧ Below w.heap.size w W' := by
  refine (callsIn_wide (n := 6)).1 ?_
  refine callsIn_of_wp_marks Try.func28 rfl trivial ?_ rfl
  simp only [Try.ntmps28, List.size_toArray, List.length_cons, List.length_nil, Nat.reduceAdd, Nat.reduceSub, Array.replicate_succ, Array.replicate_zero, List.push_toArray, List.append_toArray, List.nil_append, List.cons_append]
  have cC := check_any A cap ts _ hT
  cases hc : okB ts with
  | false =>
    have hE : chkI ts = 100 := chk_no hc
    have hN : Hid (highI ts = 0) := by unfold Hid highI; rw [hc]; rfl
    rw [hE] at cC
    clear hE hc
    gi_wp2_with fail
    refine ⟨trivial, ?_⟩
    gi_at_call 12
    refine (callsIn_wide.2 cC).mono ?_
    rintro e w1 ⟨rfl, hB1⟩
    gi_wp2_with fail
    exact ⟨_, results_tmp rfl _ _ _, by rw [hN.out]; rfl, hB1⟩
  | true =>
    have hE : chkI ts = 0 := chk_yes hc
    have hN : Hid (highI ts = maxT 0 (ts.filter sackB)) := by unfold Hid highI; rw [hc]; rfl
    rw [hE] at cC
    clear hE hc
    gi_wp2_with fail
    refine ⟨trivial, ?_⟩
    gi_at_call 12
    refine (callsIn_wide.2 cC).mono ?_
    rintro e w1 ⟨rfl, hB1⟩
    gi_wp2_with fail
    refine ⟨trivial, ?_⟩
    gi_at_call 44
    refine (those_in Fence.wide _ trivial rfl _ _ _ _ _ _).mono ?_
    rintro e w2 ⟨rfl, rfl⟩
    gi_wp2_with fail
    have hs1 : w.heap.size ≤ w1.heap.size := hB1.size
    have d0 := ((Boxed.new w1 3 (.int .i64 0)).alloc (.cells #[.slice A ts.length cap] 22)).alloc (.cells #[.func (.func 46) #[] #[]] 57)
    have dS := (Boxed.new (w1.alloc (.cells #[.int .i64 0] 3)) 22 (.slice A ts.length cap)).alloc (.cells #[.func (.func 46) #[] #[]] 57)
    have dT := Boxed.new ((w1.alloc (.cells #[.int .i64 0] 3)).alloc (.cells #[.slice A ts.length cap] 22)) 57 (.func (.func 46) #[] #[])
    simp only [World.size_alloc] at dT dS
    have hB2 : Below w.heap.size w (((w1.alloc (.cells #[.int .i64 0] 3)).alloc (.cells #[.slice A ts.length cap] 22)).alloc (.cells #[.func (.func 46) #[] #[]] 57)) := below_more (below_more (below_more hB1 _) _) _
    have hsz : (((w1.alloc (.cells #[.int .i64 0] 3)).alloc (.cells #[.slice A ts.length cap] 22)).alloc (.cells #[.func (.func 46) #[] #[]] 57)).heap.size = w1.heap.size + 3 := by simp
    obtain ⟨W0, hW0⟩ : ∃ W0, ((w1.alloc (.cells #[.int .i64 0] 3)).alloc (.cells #[.slice A ts.length cap] 22)).alloc (.cells #[.func (.func 46) #[] #[]] 57) = W0 := ⟨_, rfl⟩
    rw [hW0] at d0 dS dT hB2 hsz ⊢
    have hRn : ∀ k, readsA A ts.length (w1.heap.size + 1 + 1) k → k < w.heap.size ∨ k = w1.heap.size + 1 + 1 := fun k hk => reads_lt hT hk
    clear hW0 hB1 cC
    refine wpIn_deep (F := Fence.wide) (n := 6) rfl (by omega) (gf := 54) (lb := #[.pointer (some ⟨w1.heap.size + 1, 0, none⟩), .pointer (some ⟨w1.heap.size + 1 + 1, 0, none⟩)]) rfl trivial (enters_of Try.func54 (by kernel_rfl) rfl)
      (those_deep 5 46 #[] sackB (w1.heap.size + 1) (w1.heap.size + 1 + 1) cap A ts W0 (readsA A ts.length (w1.heap.size + 1 + 1)) (fun k hk => by have := hRn k hk; omega) (hT.later hB2) (fun b o e h0 => .inl ⟨o, e, h0⟩) (.inr rfl) dS.cell dT.cell (enters_of Try.func46 (by kernel_rfl) rfl) (fun x W _ _ => (sacked1_any x W).mono fun e W' ⟨he, hw⟩ => ⟨he, by rw [hw]; exact below_new _ _⟩))
      (Below.refl _ _) (fun _ => rfl) (fun k hk => by have := hRn k hk; omega)
      (fun pre Z V => Boxed V w1.heap.size 3 (.int .i64 (maxT 0 (pre.map (·.2)))) ∧ Below w.heap.size w V)
      (fun c pre Z V => False)
      ?hI (fun _ _ _ _ _ h _ => h) ⟨d0, hB2⟩ ?round ?done ?stop
    case hI =>
      rintro pre Z X Y ⟨h1, h5⟩ hA
      exact ⟨boxed_apart h1 hA (.inl (by omega)), below_apart h5 (Nat.le_refl _) (by omega) hA⟩
    case round =>
      rintro l pre q Z W1 hl hll hz ⟨bO1, hB1⟩ hG
      have HZ : Hid (∀ k, Z k → W0.heap.size ≤ k ∧ k < W1.heap.size ∧ k ≠ l) := hz
      have HSN : Hid (maxT 0 ((pre ++ [q]).map (·.2)) = max (maxT 0 (pre.map (·.2))) q.2.t) := by
        unfold Hid; rw [List.map_append, List.map_cons, List.map_nil, maxT_snoc]
      obtain ⟨sp, hsp⟩ : ∃ sp, maxT 0 (pre.map (·.2)) = sp := ⟨_, rfl⟩
      rw [hsp] at bO1 HSN
      obtain ⟨qi, x⟩ := q
      simp only at HSN
      clear hz hG hsp d0 dS dT hB2
      unfold RoundOwes
      gi_wp2
      refine ⟨Mine.alloc (fun k hk => (HZ.out k hk).2.1) _, ?_⟩
      intro W2 hg2 hr2
      have bX := (Box.new W1 28 (rv x)).kept hg2 (fun e => by cases e; omega)
      have bO2 := (bO1.alloc (.cells #[.int .i64 x.f, .int .i64 x.t, .bool x.fin, .int .i64 x.sent, .int .i64 x.tx, .bool x.sk, .bool x.lo, .bool x.ag, .int .i64 x.gv, .int .i64 x.ga, .int .i64 x.fa, .bool x.idl] 28)).kept hg2 (fun e => by cases e; omega)
      have hB2 : Hid (Below w.heap.size w W2) := below_grown (hB1.alloc (Nat.le_trans (Nat.le_refl _) hB1.size) _) (Nat.le_refl _) hg2 (fun k e => by cases e; omega)
      have HZ2 : Hid (∀ k, Z k → k < W2.heap.size) := fun k hk => by have h1 := (HZ.out k hk).2.1; have h2 := hg2.size; simp at h2; omega
      have cO := bO2.cell
      have fO := bO2.frozen
      have y1 := bX.rc.2.1
      clear bX bO1 hB1 hg2 hr2
      gi_wp2
      all_goals (refine ⟨Z, mine_set HZ2.out 0 _ (by omega) (fun h => by have := hRn _ h; omega), ?_, hB2.out.setCell (p := ⟨w1.heap.size, 0, none⟩) (by simpa using hs1) _⟩; rw [HSN.out]; first | exact bO2.set _ | (rw [show max sp x.t = x.t from by omega]; exact bO2.set _) | (rw [show max sp x.t = sp from by omega]; exact bO2.set _))
    case done =>
      rintro D ys Z W hD hz rfl ⟨bO1, hB1⟩ hK
      have hm : Hid (maxT 0 ((sel sackB 0 ts).map (·.2)) = maxT 0 (ts.filter sackB)) := by unfold Hid; rw [sel_map]
      rw [hm.out] at bO1
      obtain ⟨sp, hsp⟩ : ∃ sp, maxT 0 (ts.filter sackB) = sp := ⟨_, rfl⟩
      rw [hsp] at bO1 hN
      have cO := bO1.cell
      clear d0 dS dT hB2 hsp hm
      gi_wp2
      refine ⟨by simp, .inl ⟨_, _, rfl, run_takeDeferred hK, ?_⟩⟩
      exact ⟨_, results_tmp rfl _ _ _, by rw [hN.out]; rfl, hB1.trans (belowK_b (w := w) (Nat.le_refl _) _ D _ _ (by omega) hK rfl rfl)⟩
    case stop =>
      rintro D c pre Z W hD hz hpre h hK
      exact h.elim
end Go.Proofs.Ytokiklaffbdomaa
