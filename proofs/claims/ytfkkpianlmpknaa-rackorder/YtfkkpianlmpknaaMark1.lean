/- Mark, over records. -/
import Derived.Test.YtfkkpianlmpknaaMark0
import Derived.Test.YtfkkpianlmpknaaRnd
namespace Go.Proofs.Ytfkkpianlmpknaa
open Go.ChangeShapes Go.WideShapes Go.ChangeAt Go.RowKit Go.Shelf
set_option linter.unusedVariables false
set_option linter.unusedSimpArgs false
attribute [local go_sem] Oper.semAt_some

set_option maxRecDepth 100000 in
set_option maxHeartbeats 4000000 in
theorem mark_run (ks ke kr : Int) (kn : Bool) (kf km ko kl : Int) (now wait : Int) (A : Option Addr) (cap : Nat) (ts : List Rc) (w : World) (hT : RecsAt w A ts) (hA : A = none → cap = 0) (hb : ts.length * 80 ≤ 140737488355328) (k : okK ⟨ks, ke, kr, kn, kf, km, ko, kl⟩ = true) (q1 : tmB now = true) (q2 : tmB wait = true) :
    Calls Try.prog 25 #[.agg #[.int .i64 ks, .int .i64 ke, .int .i64 kr, .bool kn, .int .i64 kf, .int .i64 km, .int .i64 ko, .int .i64 kl], .slice A ts.length cap, .int .i64 now, .int .i64 wait] w fun e w' => ((recsB now ts = true ∧ ∃ va vc, e = .returned (.tuple #[.slice va ts.length vc, .int .i64 (leftI ⟨ks, ke, kr, kn, kf, km, ko, kl⟩ now wait ts.reverse), .int .i64 0]) ∧ RowR w' w.heap.size va ts.length vc (ts.map (markX ⟨ks, ke, kr, kn, kf, km, ko, kl⟩ now wait))) ∨ (recsB now ts = false ∧ e = .returned (.tuple #[.slice none 0 0, .int .i64 0, .int .i64 2]))) ∧ Below w.heap.size w w' := by
  have HT : Hid (RecsAt w A ts) := hT
  have HA : Hid ((A = none → cap = 0) ∧ ts.length * 80 ≤ 140737488355328) := ⟨hA, hb⟩
  have hnn := ok_nums k
  simp only at hnn
  have ht1 := tm_out q1
  have ht2 := tm_out q2
  have c2 := isTime_is now true q1
  have c3 := isTime_is wait true q2
  have c1 : ∀ W, Calls Try.prog 11 #[.agg #[.int .i64 ks, .int .i64 ke, .int .i64 kr, .bool kn, .int .i64 kf, .int .i64 km, .int .i64 ko, .int .i64 kl]] W fun e w' => e = .returned (.int .i64 0) ∧ Below W.heap.size W w' := fun W => chk_yes ks ke kr kn kf km ko kl k W
  have HNN : Hid (0 ≤ kr ∧ kr ≤ 2251799813685248) := hnn.2.2.1
  clear k q1 q2 hnn hT hA hb
  have HX : Hid (BoxK ((((((w.alloc (.cells #[.int .i64 ks, .int .i64 ke, .int .i64 kr, .bool kn, .int .i64 kf, .int .i64 km, .int .i64 ko, .int .i64 kl] 23)).alloc (.cells #[.int .i64 now] 3)).alloc (.cells #[.int .i64 wait] 3)).alloc (.cells #[.slice none 0 0] 46)).alloc (.cells #[.int .i64 0] 3)).alloc (.cells #[.int .i64 0] 26)) w.heap.size (.int .i64 ks) (.int .i64 ke) (.int .i64 kr) (.bool kn) (.int .i64 kf) (.int .i64 km) (.int .i64 ko) (.int .i64 kl) ∧ Boxed ((((((w.alloc (.cells #[.int .i64 ks, .int .i64 ke, .int .i64 kr, .bool kn, .int .i64 kf, .int .i64 km, .int .i64 ko, .int .i64 kl] 23)).alloc (.cells #[.int .i64 now] 3)).alloc (.cells #[.int .i64 wait] 3)).alloc (.cells #[.slice none 0 0] 46)).alloc (.cells #[.int .i64 0] 3)).alloc (.cells #[.int .i64 0] 26)) (w.heap.size + 1) 3 (.int .i64 now) ∧ Boxed ((((((w.alloc (.cells #[.int .i64 ks, .int .i64 ke, .int .i64 kr, .bool kn, .int .i64 kf, .int .i64 km, .int .i64 ko, .int .i64 kl] 23)).alloc (.cells #[.int .i64 now] 3)).alloc (.cells #[.int .i64 wait] 3)).alloc (.cells #[.slice none 0 0] 46)).alloc (.cells #[.int .i64 0] 3)).alloc (.cells #[.int .i64 0] 26)) (w.heap.size + 2) 3 (.int .i64 wait) ∧ Boxed ((((((w.alloc (.cells #[.int .i64 ks, .int .i64 ke, .int .i64 kr, .bool kn, .int .i64 kf, .int .i64 km, .int .i64 ko, .int .i64 kl] 23)).alloc (.cells #[.int .i64 now] 3)).alloc (.cells #[.int .i64 wait] 3)).alloc (.cells #[.slice none 0 0] 46)).alloc (.cells #[.int .i64 0] 3)).alloc (.cells #[.int .i64 0] 26)) (w.heap.size + 3) 46 (.slice none 0 0) ∧ Boxed ((((((w.alloc (.cells #[.int .i64 ks, .int .i64 ke, .int .i64 kr, .bool kn, .int .i64 kf, .int .i64 km, .int .i64 ko, .int .i64 kl] 23)).alloc (.cells #[.int .i64 now] 3)).alloc (.cells #[.int .i64 wait] 3)).alloc (.cells #[.slice none 0 0] 46)).alloc (.cells #[.int .i64 0] 3)).alloc (.cells #[.int .i64 0] 26)) (w.heap.size + 4) 3 (.int .i64 0) ∧ Boxed ((((((w.alloc (.cells #[.int .i64 ks, .int .i64 ke, .int .i64 kr, .bool kn, .int .i64 kf, .int .i64 km, .int .i64 ko, .int .i64 kl] 23)).alloc (.cells #[.int .i64 now] 3)).alloc (.cells #[.int .i64 wait] 3)).alloc (.cells #[.slice none 0 0] 46)).alloc (.cells #[.int .i64 0] 3)).alloc (.cells #[.int .i64 0] 26)) (w.heap.size + 5) 26 (.int .i64 0) ∧ Below w.heap.size w ((((((w.alloc (.cells #[.int .i64 ks, .int .i64 ke, .int .i64 kr, .bool kn, .int .i64 kf, .int .i64 km, .int .i64 ko, .int .i64 kl] 23)).alloc (.cells #[.int .i64 now] 3)).alloc (.cells #[.int .i64 wait] 3)).alloc (.cells #[.slice none 0 0] 46)).alloc (.cells #[.int .i64 0] 3)).alloc (.cells #[.int .i64 0] 26))) := ⟨((((((BoxK.new w _ _ _ _ _ _ _ _).alloc _).alloc _).alloc _).alloc _).alloc _), ((((Boxed.newAt (by simp) _ _).alloc _).alloc _).alloc _).alloc _, (((Boxed.newAt (by simp) _ _).alloc _).alloc _).alloc _, ((Boxed.newAt (by simp) _ _).alloc _).alloc _, (Boxed.newAt (by simp) _ _).alloc _, Boxed.newAt (by simp) _ _, below_more (below_more (below_more (below_more (below_more (below_new w _) _) _) _) _) _⟩
  have HS0 : Hid (((((((w.alloc (.cells #[.int .i64 ks, .int .i64 ke, .int .i64 kr, .bool kn, .int .i64 kf, .int .i64 km, .int .i64 ko, .int .i64 kl] 23)).alloc (.cells #[.int .i64 now] 3)).alloc (.cells #[.int .i64 wait] 3)).alloc (.cells #[.slice none 0 0] 46)).alloc (.cells #[.int .i64 0] 3)).alloc (.cells #[.int .i64 0] 26)).heap.size = w.heap.size + 6) := by simp [Hid]
  refine (callsIn_wide (n := 6)).1 ?_
  refine callsIn_of_wp_marks Try.func25 rfl trivial ?_ rfl
  simp only [Try.ntmps25, List.size_toArray, List.length_cons, List.length_nil, Nat.reduceAdd, Nat.reduceSub, Array.replicate_succ, Array.replicate_zero, List.push_toArray, List.append_toArray, List.nil_append, List.cons_append]
  gi_wp2_with fail
  refine wpIn_scope ?_
  obtain ⟨V0, hV0⟩ : ∃ V0, ((((((w.alloc (.cells #[.int .i64 ks, .int .i64 ke, .int .i64 kr, .bool kn, .int .i64 kf, .int .i64 km, .int .i64 ko, .int .i64 kl] 23)).alloc (.cells #[.int .i64 now] 3)).alloc (.cells #[.int .i64 wait] 3)).alloc (.cells #[.slice none 0 0] 46)).alloc (.cells #[.int .i64 0] 3)).alloc (.cells #[.int .i64 0] 26)) = V0 := ⟨_, rfl⟩
  rw [hV0] at HX HS0
  rw [hV0]
  clear hV0
  obtain ⟨k0, k1, k2, k3, k4, k5, k6, k7⟩ := HX.out.1.cells
  gi_wp2_with fail
  refine ⟨trivial, ?_⟩
  gi_at_call 11
  refine (callsIn_wide.2 (c1 _)).mono ?_
  rintro e w1 ⟨rfl, hB1⟩
  clear k0 k1 k2 k3 k4 k5 k6 k7
  have HX1 : Hid ((BoxK w1 w.heap.size (.int .i64 ks) (.int .i64 ke) (.int .i64 kr) (.bool kn) (.int .i64 kf) (.int .i64 km) (.int .i64 ko) (.int .i64 kl) ∧ Boxed w1 (w.heap.size + 1) 3 (.int .i64 now) ∧ Boxed w1 (w.heap.size + 2) 3 (.int .i64 wait) ∧ Boxed w1 (w.heap.size + 3) 46 (.slice none 0 0) ∧ Boxed w1 (w.heap.size + 4) 3 (.int .i64 0) ∧ Boxed w1 (w.heap.size + 5) 26 (.int .i64 0) ∧ Below w.heap.size w w1) ∧ w.heap.size + 6 ≤ w1.heap.size) := ⟨⟨HX.out.1.later hB1, boxed_bel HX.out.2.1 hB1 HX.out.2.1.lt, boxed_bel HX.out.2.2.1 hB1 HX.out.2.2.1.lt, boxed_bel HX.out.2.2.2.1 hB1 HX.out.2.2.2.1.lt, boxed_bel HX.out.2.2.2.2.1 hB1 HX.out.2.2.2.2.1.lt, boxed_bel HX.out.2.2.2.2.2.1 hB1 HX.out.2.2.2.2.2.1.lt, Below.on HX.out.2.2.2.2.2.2 hB1⟩, by have := hB1.size; have := HS0.out; omega⟩
  clear HX HS0 hB1 c1
  have n1 := HX1.out.1.2.1.cell
  have n2 := HX1.out.1.2.2.1.cell
  have e3 := HX1.out.1.2.2.2.1.cell
  have e4 := HX1.out.1.2.2.2.2.1.cell
  have e5 := HX1.out.1.2.2.2.2.2.1.cell
  have f3 := HX1.out.1.2.2.2.1.frozen
  have f4 := HX1.out.1.2.2.2.2.1.frozen
  have f5 := HX1.out.1.2.2.2.2.2.1.frozen
  gi_wp2_with fail
  refine ⟨trivial, ?_⟩
  gi_at_call 28
  refine (callsIn_wide.2 (c2 _)).mono ?_
  rintro e w' ⟨rfl, hw'⟩
  obtain rfl := hw'.symm
  clear hw'
  gi_wp2_with fail
  refine ⟨trivial, ?_⟩
  gi_at_call 28
  refine (callsIn_wide.2 (c3 _)).mono ?_
  rintro e w' ⟨rfl, hw'⟩
  obtain rfl := hw'.symm
  clear hw'
  gi_wp2_with fail
  refine ⟨trivial, ?_⟩
  gi_at_call 35
  refine (callsIn_wide.2 (clone_any A cap ts _ (HT.out.later HX1.out.1.2.2.2.2.2.2) HA.out.1 HA.out.2)).mono ?_
  rintro e w2 ⟨va, vc, rfl, hR2, hB2⟩
  clear n1 n2 e3 e4 e5 f3 f4 f5
  gi_wp2_with fail
  refine wpIn_label ?_
  gi_wp2_with fail
  refine ⟨trivial, ?_⟩
  gi_at_call 36
  refine (each_in Fence.wide _ trivial rfl _ _ _ _).mono ?_
  rintro e w3 ⟨rfl, rfl⟩
  have HW : ∃ W0, ((w2.alloc (.cells #[.slice va ts.length vc] 46)).alloc (.cells #[.int .i64 0] 3)).alloc (.cells #[.slice A ts.length cap] 46) = W0 ∧ W0.heap.size = w2.heap.size + 3 ∧ MkAt w W0 w2.heap.size w1.heap.size va ts.length vc ⟨ks, ke, kr, kn, kf, km, ko, kl⟩ now wait ts 0 ∧ Boxed W0 (w2.heap.size + 1 + 1) 46 (.slice A ts.length cap) := by
    refine ⟨_, rfl, by simp, ?_, Boxed.newAt (by simp) _ _⟩
    obtain ⟨⟨b0, b1, b2, b3, b4, b5, b6⟩, h6⟩ := HX1.out
    refine ⟨(((b0.later hB2).alloc _).alloc _).alloc _, (((boxed_bel b1 hB2 b1.lt).alloc _).alloc _).alloc _, (((boxed_bel b2 hB2 b2.lt).alloc _).alloc _).alloc _, (((boxed_bel b3 hB2 b3.lt).alloc _).alloc _).alloc _, (((boxed_bel b4 hB2 b4.lt).alloc _).alloc _).alloc _, (((boxed_bel b5 hB2 b5.lt).alloc _).alloc _).alloc _, ((Boxed.new w2 46 _).alloc _).alloc _, ?_, (Boxed.newAt (by simp) _ _).alloc _, below_more (below_more (below_more (Below.on b6 hB2) _) _) _, h6, hB2.size, fun g e => hR2.ge (k := g) e⟩
    have := ((hR2.alloc (.cells #[.slice va ts.length vc] 46)).alloc (.cells #[.int .i64 0] 3)).alloc (.cells #[.slice A ts.length cap] 46)
    simpa [markUp] using this
  obtain ⟨W0, hW0, hs0, hM0, hS0⟩ := HW
  have h6 := HX1.out.2
  have h21 := hB2.size
  clear HX1 hR2 hB2
  gi_wp2_with fail
  try rw [hW0]
  clear hW0
  have hRn : ∀ k, readsL A ts.length k → k < w.heap.size := fun k hk => readsL_lt HT.out hk
  refine wpIn_deep (F := Fence.wide) (n := 6) rfl (by omega) (gf := 42) (lb := #[.pointer (some ⟨w2.heap.size + 1 + 1, 0, none⟩)]) rfl trivial (enters_of Try.func42 (by kernel_rfl) rfl)
    (each_deep 5 (w2.heap.size + 1 + 1) cap A ts W0 (readsL A ts.length) (fun k hk => by have := hRn k hk; omega) (HT.out.later hM0.bel) (fun b o e h0 => ⟨o, e, h0⟩) hS0.cell)
    (Below.refl _ _) (fun _ => rfl) (fun k hk => by have := hRn k hk; omega)
    (fun pre Z V => MkAt w V w2.heap.size w1.heap.size va ts.length vc ⟨ks, ke, kr, kn, kf, km, ko, kl⟩ now wait ts pre.length ∧ ∀ j, j < pre.length → recB (nth ts j) now = true)
    (fun c pre Z V => c = .ret ∧ recsB now ts = false ∧ Boxed V (w.heap.size + 3) 46 (.slice none 0 0) ∧ Boxed V (w.heap.size + 4) 3 (.int .i64 0) ∧ Boxed V (w.heap.size + 5) 26 (.int .i64 2) ∧ Below w.heap.size w V)
    ?hI ?hIx ⟨hM0, fun j hj => by simp at hj⟩ ?round ?done ?stop
  case hI =>
    rintro pre Z X Y ⟨h1, h2⟩ hA
    exact ⟨h1.apart hA (by omega), h2⟩
  case hIx =>
    rintro c pre Z X Y ⟨h1, h2, h3, h4, h5, h7⟩ hA
    exact ⟨h1, h2, boxed_apart h3 hA (.inl (by omega)), boxed_apart h4 hA (.inl (by omega)), boxed_apart h5 hA (.inl (by omega)), below_apart h7 (Nat.le_refl _) (by omega) hA⟩
  case round =>
    rintro l pre q Z W1 hl hll hz ⟨hM1, hall⟩ hG
    have HZ : Hid (∀ k, Z k → W0.heap.size ≤ k ∧ k < W1.heap.size ∧ k ≠ l) := hz
    obtain ⟨hi, rfl⟩ := en_pre hG
    obtain ⟨i, hii⟩ : ∃ i, pre.length = i := ⟨_, rfl⟩
    obtain ⟨x, hx⟩ : ∃ x, nth ts i = x := ⟨_, rfl⟩
    rw [hii] at hi hM1 hall ⊢
    rw [hx]
    have HLN : Hid ((pre ++ [(i, x)]).length = i + 1) := by simp [Hid, hii]
    have HX0 : Hid (nth ts i = x) := hx
    obtain ⟨lf, hlf⟩ : ∃ lf, leftUp ⟨ks, ke, kr, kn, kf, km, ko, kl⟩ now wait ts i = lf := ⟨_, rfl⟩
    have HLF : Hid (leftUp ⟨ks, ke, kr, kn, kf, km, ko, kl⟩ now wait ts i = lf) := hlf
    have HAL0 : Hid (∀ j, j < i → recB (nth ts j) now = true) := hall
    have hmx9 : ts.length ≤ 9223372036854775807 := HT.out.1
    clear hz hG hii hx hlf hall hM0 hS0
    unfold RoundOwes
    gi_wp2
    refine ⟨Mine.alloc (fun k hk => (HZ.out k hk).2.1) _, ?_⟩
    intro W2 hg2 hr2
    have HW2 : Hid (Box W2 W1.heap.size 25 (rv x) ∧ MkAt w W2 w2.heap.size w1.heap.size va ts.length vc ⟨ks, ke, kr, kn, kf, km, ko, kl⟩ now wait ts i ∧ Mine W0.heap.size (readsL A ts.length) Z W2 Z W2 ∧ ∀ k, Z k → k < W2.heap.size) := ⟨(Box.new W1 25 (rv x)).kept hg2 (fun e => by cases e; omega), (hM1.alloc (.cells #[.int .i64 x.f, .int .i64 x.t, .bool x.fin, .int .i64 x.sent, .int .i64 x.tx, .bool x.sk, .bool x.lo, .bool x.ag, .int .i64 x.gv, .int .i64 x.ga, .int .i64 x.fa, .bool x.idl] 25)).kept hg2 (by omega), Mine.refl (fun k hk => by have h1 := (HZ.out k hk).2.1; have h2 := hg2.size; simp at h2; omega), fun k hk => by have h1 := (HZ.out k hk).2.1; have h2 := hg2.size; simp at h2; omega⟩
    clear hg2 hr2 hM1 HZ
    obtain ⟨x0, x1, x2, x3, x4, x5, x6, x7, x8, x9, x10, x11⟩ := HW2.out.1.rc
    obtain ⟨k0, k1, k2, k3, k4, k5, k6, k7⟩ := (show BoxK W2 w.heap.size (.int .i64 ks) (.int .i64 ke) (.int .i64 kr) (.bool kn) (.int .i64 kf) (.int .i64 km) (.int .i64 ko) (.int .i64 kl) from HW2.out.2.1.bk).cells
    have n1 := HW2.out.2.1.bn.cell
    have n2 := HW2.out.2.1.bw.cell
    have n3 : W2.cell? ⟨w2.heap.size + 1, 0, none⟩ = some (.int .i64 lf) := by rw [← HLF.out]; exact HW2.out.2.1.bf.cell
    have n4 := HW2.out.2.1.bf.frozen
    cases hr : recB x now with
    | false =>
      have c1 := fits_is x now false hr
      have HN : Hid (recsB now ts = false) := recs_no hi (by rw [HX0.out]; exact hr)
      clear hr
      gi_wp2_with fail
      refine ⟨trivial, ?_⟩
      gi_at_call 29
      refine (callsIn_wide.2 (c1 _)).mono ?_
      rintro e W3 ⟨rfl, hB3⟩
      have HW3 : Hid (Box W3 W1.heap.size 25 (rv x) ∧ MkAt w W3 w2.heap.size w1.heap.size va ts.length vc ⟨ks, ke, kr, kn, kf, km, ko, kl⟩ now wait ts i ∧ Mine W0.heap.size (readsL A ts.length) Z W2 Z W3 ∧ ∀ k, Z k → k < W3.heap.size) := ⟨HW2.out.1.later hB3, HW2.out.2.1.later hB3, Mine.trans HW2.out.2.2.1 (Mine.of_below HW2.out.2.2.2 hB3), fun k hk => Nat.lt_of_lt_of_le (HW2.out.2.2.2 k hk) hB3.size⟩
      clear HW2 hB3 c1 x0 x1 x2 x3 x4 x5 x6 x7 x8 x9 x10 x11 k0 k1 k2 k3 k4 k5 k6 k7 n1 n2 n3 n4
      obtain ⟨x0, x1, x2, x3, x4, x5, x6, x7, x8, x9, x10, x11⟩ := HW3.out.1.rc
      obtain ⟨k0, k1, k2, k3, k4, k5, k6, k7⟩ := (show BoxK W3 w.heap.size (.int .i64 ks) (.int .i64 ke) (.int .i64 kr) (.bool kn) (.int .i64 kf) (.int .i64 km) (.int .i64 ko) (.int .i64 kl) from HW3.out.2.1.bk).cells
      have n1 := HW3.out.2.1.bn.cell
      have n2 := HW3.out.2.1.bw.cell
      have n3 : W3.cell? ⟨w2.heap.size + 1, 0, none⟩ = some (.int .i64 lf) := by rw [← HLF.out]; exact HW3.out.2.1.bf.cell
      have n4 := HW3.out.2.1.bf.frozen
      have e3 := HW3.out.2.1.br.cell
      have e4 := HW3.out.2.1.bl.cell
      have e5 := HW3.out.2.1.be.cell
      have f3 := HW3.out.2.1.br.frozen
      have f4 := HW3.out.2.1.bl.frozen
      have f5 := HW3.out.2.1.be.frozen
      gi_wp2
      refine ⟨Z, Mine.trans HW3.out.2.2.1 (Mine.trans (mine_set HW3.out.2.2.2 _ _ (by omega) (fun h => by have := hRn _ h; omega)) (Mine.trans (mine_set (fun k hk => by rw [size_set]; exact HW3.out.2.2.2 k hk) _ _ (by omega) (fun h => by have := hRn _ h; omega)) (mine_set (fun k hk => by rw [size_set, size_set]; exact HW3.out.2.2.2 k hk) _ _ (by omega) (fun h => by have := hRn _ h; omega)))), rfl, HN.out, ?_, ?_, ?_, ?_⟩
      · exact boxed_other (boxed_other (HW3.out.2.1.br.set _) (by omega) _ _) (by omega) _ _
      · exact boxed_other ((boxed_other HW3.out.2.1.bl (by omega) _ _).set _) (by omega) _ _
      · exact (boxed_other (boxed_other HW3.out.2.1.be (by omega) _ _) (by omega) _ _).set _
      · exact below_set (below_set (below_set HW3.out.2.1.bel _ _ _ (by omega)) _ _ _ (by omega)) _ _ _ (by omega)
    | true =>
      have c1 := fits_is x now true hr
      have hro := rec_out hr
      have HAL : Hid (∀ j, j < i + 1 → recB (nth ts j) now = true) := fun j hj => by
        by_cases e : j = i
        · subst e; rw [HX0.out]; exact hr
        · exact HAL0.out j (by omega)
      have hw0 : 0 ≤ x.sent ∧ x.sent ≤ now ∧ now ≤ 1125899906842624 := by omega
      clear hr hro HAL0
      cases ho : onB x with
      | false =>
        have c4 := onWay_is x false ho
        have HOFF := mark_off (k := ⟨ks, ke, kr, kn, kf, km, ko, kl⟩) (now := now) (wait := wait) (x := x) (by rw [ho]; rfl)
        have HE1 : Hid (markUp ⟨ks, ke, kr, kn, kf, km, ko, kl⟩ now wait ts (i + 1) = markUp ⟨ks, ke, kr, kn, kf, km, ko, kl⟩ now wait ts i) := markUp_stay hi (by rw [HX0.out]; exact HOFF.1)
        have HE2 : Hid (leftUp ⟨ks, ke, kr, kn, kf, km, ko, kl⟩ now wait ts (i + 1) = leftUp ⟨ks, ke, kr, kn, kf, km, ko, kl⟩ now wait ts i) := by
          have := leftUp_nonneg ⟨ks, ke, kr, kn, kf, km, ko, kl⟩ now wait ts i
          unfold Hid; rw [leftUp_next hi, HX0.out, HOFF.2]; omega
        clear ho HOFF
        gi_wp2_with fail
        refine ⟨trivial, ?_⟩
        gi_at_call 29
        refine (callsIn_wide.2 (c1 _)).mono ?_
        rintro e W3 ⟨rfl, hB3⟩
        have HW3 : Hid (Box W3 W1.heap.size 25 (rv x) ∧ MkAt w W3 w2.heap.size w1.heap.size va ts.length vc ⟨ks, ke, kr, kn, kf, km, ko, kl⟩ now wait ts i ∧ Mine W0.heap.size (readsL A ts.length) Z W2 Z W3 ∧ ∀ k, Z k → k < W3.heap.size) := ⟨HW2.out.1.later hB3, HW2.out.2.1.later hB3, Mine.trans HW2.out.2.2.1 (Mine.of_below HW2.out.2.2.2 hB3), fun k hk => Nat.lt_of_lt_of_le (HW2.out.2.2.2 k hk) hB3.size⟩
        clear HW2 hB3 c1 x0 x1 x2 x3 x4 x5 x6 x7 x8 x9 x10 x11 k0 k1 k2 k3 k4 k5 k6 k7 n1 n2 n3 n4
        obtain ⟨x0, x1, x2, x3, x4, x5, x6, x7, x8, x9, x10, x11⟩ := HW3.out.1.rc
        obtain ⟨k0, k1, k2, k3, k4, k5, k6, k7⟩ := (show BoxK W3 w.heap.size (.int .i64 ks) (.int .i64 ke) (.int .i64 kr) (.bool kn) (.int .i64 kf) (.int .i64 km) (.int .i64 ko) (.int .i64 kl) from HW3.out.2.1.bk).cells
        have n1 := HW3.out.2.1.bn.cell
        have n2 := HW3.out.2.1.bw.cell
        have n3 : W3.cell? ⟨w2.heap.size + 1, 0, none⟩ = some (.int .i64 lf) := by rw [← HLF.out]; exact HW3.out.2.1.bf.cell
        have n4 := HW3.out.2.1.bf.frozen
        gi_wp2_with fail
        refine ⟨trivial, ?_⟩
        gi_at_call 37
        refine (callsIn_wide.2 (c4 _)).mono ?_
        rintro e W4 ⟨rfl, hB4⟩
        have HW4 : Hid (Box W4 W1.heap.size 25 (rv x) ∧ MkAt w W4 w2.heap.size w1.heap.size va ts.length vc ⟨ks, ke, kr, kn, kf, km, ko, kl⟩ now wait ts i ∧ Mine W0.heap.size (readsL A ts.length) Z W2 Z W4 ∧ ∀ k, Z k → k < W4.heap.size) := ⟨HW3.out.1.later hB4, HW3.out.2.1.later hB4, Mine.trans HW3.out.2.2.1 (Mine.of_below HW3.out.2.2.2 hB4), fun k hk => Nat.lt_of_lt_of_le (HW3.out.2.2.2 k hk) hB4.size⟩
        clear HW3 hB4 c4 x0 x1 x2 x3 x4 x5 x6 x7 x8 x9 x10 x11 k0 k1 k2 k3 k4 k5 k6 k7 n1 n2 n3 n4
        obtain ⟨x0, x1, x2, x3, x4, x5, x6, x7, x8, x9, x10, x11⟩ := HW4.out.1.rc
        obtain ⟨k0, k1, k2, k3, k4, k5, k6, k7⟩ := (show BoxK W4 w.heap.size (.int .i64 ks) (.int .i64 ke) (.int .i64 kr) (.bool kn) (.int .i64 kf) (.int .i64 km) (.int .i64 ko) (.int .i64 kl) from HW4.out.2.1.bk).cells
        have n1 := HW4.out.2.1.bn.cell
        have n2 := HW4.out.2.1.bw.cell
        have n3 : W4.cell? ⟨w2.heap.size + 1, 0, none⟩ = some (.int .i64 lf) := by rw [← HLF.out]; exact HW4.out.2.1.bf.cell
        have n4 := HW4.out.2.1.bf.frozen
        gi_wp2_with fail
        refine ⟨trivial, ?_⟩
        gi_wp2
        refine ⟨Z, HW4.out.2.2.1, ?_, ?_⟩
        · rw [HLN.out]
          exact HW4.out.2.1.stay HE1.out HE2.out
        · rw [HLN.out]
          exact HAL.out
      | true =>
        have c4 := onWay_is x true ho
        cases ha : ahB ⟨ks, ke, kr, kn, kf, km, ko, kl⟩ x with
        | false =>
          have c5 := isAhead_is ks ke kr kn kf km ko kl x false ha
          have HOFF := mark_off (k := ⟨ks, ke, kr, kn, kf, km, ko, kl⟩) (now := now) (wait := wait) (x := x) (by rw [ha]; simp)
          have HE1 : Hid (markUp ⟨ks, ke, kr, kn, kf, km, ko, kl⟩ now wait ts (i + 1) = markUp ⟨ks, ke, kr, kn, kf, km, ko, kl⟩ now wait ts i) := markUp_stay hi (by rw [HX0.out]; exact HOFF.1)
          have HE2 : Hid (leftUp ⟨ks, ke, kr, kn, kf, km, ko, kl⟩ now wait ts (i + 1) = leftUp ⟨ks, ke, kr, kn, kf, km, ko, kl⟩ now wait ts i) := by
            have := leftUp_nonneg ⟨ks, ke, kr, kn, kf, km, ko, kl⟩ now wait ts i
            unfold Hid; rw [leftUp_next hi, HX0.out, HOFF.2]; omega
          clear ho ha HOFF
          gi_wp2_with fail
          refine ⟨trivial, ?_⟩
          gi_at_call 29
          refine (callsIn_wide.2 (c1 _)).mono ?_
          rintro e W3 ⟨rfl, hB3⟩
          have HW3 : Hid (Box W3 W1.heap.size 25 (rv x) ∧ MkAt w W3 w2.heap.size w1.heap.size va ts.length vc ⟨ks, ke, kr, kn, kf, km, ko, kl⟩ now wait ts i ∧ Mine W0.heap.size (readsL A ts.length) Z W2 Z W3 ∧ ∀ k, Z k → k < W3.heap.size) := ⟨HW2.out.1.later hB3, HW2.out.2.1.later hB3, Mine.trans HW2.out.2.2.1 (Mine.of_below HW2.out.2.2.2 hB3), fun k hk => Nat.lt_of_lt_of_le (HW2.out.2.2.2 k hk) hB3.size⟩
          clear HW2 hB3 c1 x0 x1 x2 x3 x4 x5 x6 x7 x8 x9 x10 x11 k0 k1 k2 k3 k4 k5 k6 k7 n1 n2 n3 n4
          obtain ⟨x0, x1, x2, x3, x4, x5, x6, x7, x8, x9, x10, x11⟩ := HW3.out.1.rc
          obtain ⟨k0, k1, k2, k3, k4, k5, k6, k7⟩ := (show BoxK W3 w.heap.size (.int .i64 ks) (.int .i64 ke) (.int .i64 kr) (.bool kn) (.int .i64 kf) (.int .i64 km) (.int .i64 ko) (.int .i64 kl) from HW3.out.2.1.bk).cells
          have n1 := HW3.out.2.1.bn.cell
          have n2 := HW3.out.2.1.bw.cell
          have n3 : W3.cell? ⟨w2.heap.size + 1, 0, none⟩ = some (.int .i64 lf) := by rw [← HLF.out]; exact HW3.out.2.1.bf.cell
          have n4 := HW3.out.2.1.bf.frozen
          gi_wp2_with fail
          refine ⟨trivial, ?_⟩
          gi_at_call 37
          refine (callsIn_wide.2 (c4 _)).mono ?_
          rintro e W4 ⟨rfl, hB4⟩
          have HW4 : Hid (Box W4 W1.heap.size 25 (rv x) ∧ MkAt w W4 w2.heap.size w1.heap.size va ts.length vc ⟨ks, ke, kr, kn, kf, km, ko, kl⟩ now wait ts i ∧ Mine W0.heap.size (readsL A ts.length) Z W2 Z W4 ∧ ∀ k, Z k → k < W4.heap.size) := ⟨HW3.out.1.later hB4, HW3.out.2.1.later hB4, Mine.trans HW3.out.2.2.1 (Mine.of_below HW3.out.2.2.2 hB4), fun k hk => Nat.lt_of_lt_of_le (HW3.out.2.2.2 k hk) hB4.size⟩
          clear HW3 hB4 c4 x0 x1 x2 x3 x4 x5 x6 x7 x8 x9 x10 x11 k0 k1 k2 k3 k4 k5 k6 k7 n1 n2 n3 n4
          obtain ⟨x0, x1, x2, x3, x4, x5, x6, x7, x8, x9, x10, x11⟩ := HW4.out.1.rc
          obtain ⟨k0, k1, k2, k3, k4, k5, k6, k7⟩ := (show BoxK W4 w.heap.size (.int .i64 ks) (.int .i64 ke) (.int .i64 kr) (.bool kn) (.int .i64 kf) (.int .i64 km) (.int .i64 ko) (.int .i64 kl) from HW4.out.2.1.bk).cells
          have n1 := HW4.out.2.1.bn.cell
          have n2 := HW4.out.2.1.bw.cell
          have n3 : W4.cell? ⟨w2.heap.size + 1, 0, none⟩ = some (.int .i64 lf) := by rw [← HLF.out]; exact HW4.out.2.1.bf.cell
          have n4 := HW4.out.2.1.bf.frozen
          gi_wp2_with fail
          refine ⟨trivial, ?_⟩
          gi_at_call 38
          refine (callsIn_wide.2 (c5 _)).mono ?_
          rintro e W5 ⟨rfl, hB5⟩
          have HW5 : Hid (Box W5 W1.heap.size 25 (rv x) ∧ MkAt w W5 w2.heap.size w1.heap.size va ts.length vc ⟨ks, ke, kr, kn, kf, km, ko, kl⟩ now wait ts i ∧ Mine W0.heap.size (readsL A ts.length) Z W2 Z W5 ∧ ∀ k, Z k → k < W5.heap.size) := ⟨HW4.out.1.later hB5, HW4.out.2.1.later hB5, Mine.trans HW4.out.2.2.1 (Mine.of_below HW4.out.2.2.2 hB5), fun k hk => Nat.lt_of_lt_of_le (HW4.out.2.2.2 k hk) hB5.size⟩
          clear HW4 hB5 c5 x0 x1 x2 x3 x4 x5 x6 x7 x8 x9 x10 x11 k0 k1 k2 k3 k4 k5 k6 k7 n1 n2 n3 n4
          obtain ⟨x0, x1, x2, x3, x4, x5, x6, x7, x8, x9, x10, x11⟩ := HW5.out.1.rc
          obtain ⟨k0, k1, k2, k3, k4, k5, k6, k7⟩ := (show BoxK W5 w.heap.size (.int .i64 ks) (.int .i64 ke) (.int .i64 kr) (.bool kn) (.int .i64 kf) (.int .i64 km) (.int .i64 ko) (.int .i64 kl) from HW5.out.2.1.bk).cells
          have n1 := HW5.out.2.1.bn.cell
          have n2 := HW5.out.2.1.bw.cell
          have n3 : W5.cell? ⟨w2.heap.size + 1, 0, none⟩ = some (.int .i64 lf) := by rw [← HLF.out]; exact HW5.out.2.1.bf.cell
          have n4 := HW5.out.2.1.bf.frozen
          gi_wp2
          refine ⟨Z, HW5.out.2.2.1, ?_, ?_⟩
          · rw [HLN.out]
            exact HW5.out.2.1.stay HE1.out HE2.out
          · rw [HLN.out]
            exact HAL.out
        | true =>
          have c5 := isAhead_is ks ke kr kn kf km ko kl x true ha
          have hon : (onB x && ahB ⟨ks, ke, kr, kn, kf, km, ko, kl⟩ x) = true := by rw [ho, ha]; rfl
          have hkr := HNN.out
          by_cases hs : sumI ⟨ks, ke, kr, kn, kf, km, ko, kl⟩ wait x ≤ now
          · have HON := mark_on hon hs
            have HE1 : Hid (markX ⟨ks, ke, kr, kn, kf, km, ko, kl⟩ now wait x = ⟨x.f, x.t, x.fin, x.sent, x.tx, x.sk, true, false, x.gv, x.ga, x.fa, x.idl⟩) := HON.1
            have HE2 : Hid (leftUp ⟨ks, ke, kr, kn, kf, km, ko, kl⟩ now wait ts (i + 1) = leftUp ⟨ks, ke, kr, kn, kf, km, ko, kl⟩ now wait ts i) := by
              have := leftUp_nonneg ⟨ks, ke, kr, kn, kf, km, ko, kl⟩ now wait ts i
              unfold Hid; rw [leftUp_next hi, HX0.out, HON.2]; omega
            have d1 : decide (0 < x.sent + kr + wait - now) = false := by
              have : x.sent + kr + wait ≤ now := hs
              simp; omega
            have d2 : decide (now < x.sent + kr + wait) = false := by
              have : x.sent + kr + wait ≤ now := hs
              simp; omega
            clear ho ha hon hs HON
            gi_wp2_with fail
            refine ⟨trivial, ?_⟩
            gi_at_call 29
            refine (callsIn_wide.2 (c1 _)).mono ?_
            rintro e W3 ⟨rfl, hB3⟩
            have HW3 : Hid (Box W3 W1.heap.size 25 (rv x) ∧ MkAt w W3 w2.heap.size w1.heap.size va ts.length vc ⟨ks, ke, kr, kn, kf, km, ko, kl⟩ now wait ts i ∧ Mine W0.heap.size (readsL A ts.length) Z W2 Z W3 ∧ ∀ k, Z k → k < W3.heap.size) := ⟨HW2.out.1.later hB3, HW2.out.2.1.later hB3, Mine.trans HW2.out.2.2.1 (Mine.of_below HW2.out.2.2.2 hB3), fun k hk => Nat.lt_of_lt_of_le (HW2.out.2.2.2 k hk) hB3.size⟩
            clear HW2 hB3 c1 x0 x1 x2 x3 x4 x5 x6 x7 x8 x9 x10 x11 k0 k1 k2 k3 k4 k5 k6 k7 n1 n2 n3 n4
            obtain ⟨x0, x1, x2, x3, x4, x5, x6, x7, x8, x9, x10, x11⟩ := HW3.out.1.rc
            obtain ⟨k0, k1, k2, k3, k4, k5, k6, k7⟩ := (show BoxK W3 w.heap.size (.int .i64 ks) (.int .i64 ke) (.int .i64 kr) (.bool kn) (.int .i64 kf) (.int .i64 km) (.int .i64 ko) (.int .i64 kl) from HW3.out.2.1.bk).cells
            have n1 := HW3.out.2.1.bn.cell
            have n2 := HW3.out.2.1.bw.cell
            have n3 : W3.cell? ⟨w2.heap.size + 1, 0, none⟩ = some (.int .i64 lf) := by rw [← HLF.out]; exact HW3.out.2.1.bf.cell
            have n4 := HW3.out.2.1.bf.frozen
            gi_wp2_with fail
            refine ⟨trivial, ?_⟩
            gi_at_call 37
            refine (callsIn_wide.2 (c4 _)).mono ?_
            rintro e W4 ⟨rfl, hB4⟩
            have HW4 : Hid (Box W4 W1.heap.size 25 (rv x) ∧ MkAt w W4 w2.heap.size w1.heap.size va ts.length vc ⟨ks, ke, kr, kn, kf, km, ko, kl⟩ now wait ts i ∧ Mine W0.heap.size (readsL A ts.length) Z W2 Z W4 ∧ ∀ k, Z k → k < W4.heap.size) := ⟨HW3.out.1.later hB4, HW3.out.2.1.later hB4, Mine.trans HW3.out.2.2.1 (Mine.of_below HW3.out.2.2.2 hB4), fun k hk => Nat.lt_of_lt_of_le (HW3.out.2.2.2 k hk) hB4.size⟩
            clear HW3 hB4 c4 x0 x1 x2 x3 x4 x5 x6 x7 x8 x9 x10 x11 k0 k1 k2 k3 k4 k5 k6 k7 n1 n2 n3 n4
            obtain ⟨x0, x1, x2, x3, x4, x5, x6, x7, x8, x9, x10, x11⟩ := HW4.out.1.rc
            obtain ⟨k0, k1, k2, k3, k4, k5, k6, k7⟩ := (show BoxK W4 w.heap.size (.int .i64 ks) (.int .i64 ke) (.int .i64 kr) (.bool kn) (.int .i64 kf) (.int .i64 km) (.int .i64 ko) (.int .i64 kl) from HW4.out.2.1.bk).cells
            have n1 := HW4.out.2.1.bn.cell
            have n2 := HW4.out.2.1.bw.cell
            have n3 : W4.cell? ⟨w2.heap.size + 1, 0, none⟩ = some (.int .i64 lf) := by rw [← HLF.out]; exact HW4.out.2.1.bf.cell
            have n4 := HW4.out.2.1.bf.frozen
            gi_wp2_with fail
            refine ⟨trivial, ?_⟩
            gi_at_call 38
            refine (callsIn_wide.2 (c5 _)).mono ?_
            rintro e W5 ⟨rfl, hB5⟩
            have HW5 : Hid (Box W5 W1.heap.size 25 (rv x) ∧ MkAt w W5 w2.heap.size w1.heap.size va ts.length vc ⟨ks, ke, kr, kn, kf, km, ko, kl⟩ now wait ts i ∧ Mine W0.heap.size (readsL A ts.length) Z W2 Z W5 ∧ ∀ k, Z k → k < W5.heap.size) := ⟨HW4.out.1.later hB5, HW4.out.2.1.later hB5, Mine.trans HW4.out.2.2.1 (Mine.of_below HW4.out.2.2.2 hB5), fun k hk => Nat.lt_of_lt_of_le (HW4.out.2.2.2 k hk) hB5.size⟩
            clear HW4 hB5 c5 x0 x1 x2 x3 x4 x5 x6 x7 x8 x9 x10 x11 k0 k1 k2 k3 k4 k5 k6 k7 n1 n2 n3 n4
            obtain ⟨x0, x1, x2, x3, x4, x5, x6, x7, x8, x9, x10, x11⟩ := HW5.out.1.rc
            obtain ⟨k0, k1, k2, k3, k4, k5, k6, k7⟩ := (show BoxK W5 w.heap.size (.int .i64 ks) (.int .i64 ke) (.int .i64 kr) (.bool kn) (.int .i64 kf) (.int .i64 km) (.int .i64 ko) (.int .i64 kl) from HW5.out.2.1.bk).cells
            have n1 := HW5.out.2.1.bn.cell
            have n2 := HW5.out.2.1.bw.cell
            have n3 : W5.cell? ⟨w2.heap.size + 1, 0, none⟩ = some (.int .i64 lf) := by rw [← HLF.out]; exact HW5.out.2.1.bf.cell
            have n4 := HW5.out.2.1.bf.frozen
            gi_wp2_with fail
            obtain ⟨g, rfl, hg1, hg2⟩ := row_some HW5.out.2.1.rw (by omega)
            obtain ⟨V, hV⟩ : ∃ V, W5.drew = V := ⟨_, rfl⟩
            have hgG := HW5.out.2.1.hG g rfl
            have hmB := HW5.out.2.1.hm
            have HV : Hid (MkAt w V w2.heap.size w1.heap.size (some ⟨g, 0, none⟩) ts.length vc ⟨ks, ke, kr, kn, kf, km, ko, kl⟩ now wait ts i ∧ Mine W0.heap.size (readsL A ts.length) Z W2 Z V ∧ ∀ k, Z k → k < V.heap.size) := by
              rw [← hV]
              exact ⟨HW5.out.2.1.drew, Mine.trans HW5.out.2.2.1 (Mine.of_below HW5.out.2.2.2 (Below.refl _ _).drew), HW5.out.2.2.2⟩
            have hq5 := HW5.out.2.1.bq.cell
            have hrow := HV.out.1.rw
            have hml := markUp_len ⟨ks, ke, kr, kn, kf, km, ko, kl⟩ now wait ts i
            have c6 := (row_cells hrow i hi).out.2.2.2.2.2.2.1
            have r1 := row_set hrow i 6 hi (by omega) (.bool true) ⟨x.f, x.t, x.fin, x.sent, x.tx, x.sk, true, x.ag, x.gv, x.ga, x.fa, x.idl⟩ (by rw [markUp_at hi, HX0.out]; rfl)
            have c7 := (row_cells r1 i hi).out.2.2.2.2.2.2.2.1
            have fz6 := row_frozen hrow (i * 12 + 6)
            have fz7 := row_frozen r1 (i * 12 + 7)
            have q1 := (boxed_other HV.out.1.bq (show w2.heap.size ≠ g by omega) (i * 12 + 6) (.bool true)).cell
            obtain ⟨S, hS⟩ : ∃ S : World → Prop, S = fun W => W.cell? ⟨w2.heap.size, 0, none⟩ = some (.slice (some ⟨g, 0, none⟩) ts.length vc) := ⟨_, rfl⟩
            have hS0 : S W5.drew := by rw [hS]; exact hq5
            have hS1 : S (V.setCell ⟨g, i * 12 + 6, none⟩ (.bool true)) := by rw [hS]; exact q1
            have HF : Hid (MkAt w ((V.setCell ⟨g, i * 12 + 6, none⟩ (.bool true)).setCell ⟨g, i * 12 + 7, none⟩ (.bool false)) w2.heap.size w1.heap.size (some ⟨g, 0, none⟩) ts.length vc ⟨ks, ke, kr, kn, kf, km, ko, kl⟩ now wait ts (i + 1) ∧ Mine W0.heap.size (readsL A ts.length) Z W2 Z ((V.setCell ⟨g, i * 12 + 6, none⟩ (.bool true)).setCell ⟨g, i * 12 + 7, none⟩ (.bool false))) :=
              ⟨HV.out.1.setRow hi rfl HX0.out HE1.out HE2.out, Mine.trans HV.out.2.1 (Mine.trans (mine_set HV.out.2.2 _ _ (by omega) (fun h => by have := readsL_lt HT.out h; omega)) (mine_set (fun k hk => by rw [size_set]; exact HV.out.2.2 k hk) _ _ (by omega) (fun h => by have := readsL_lt HT.out h; omega)))⟩
            clear hrow r1 q1 hq5 HW5 HV hg1 hg2 x0 x1 x2 x3 x4 x5 x6 x7 x8 x9 x10 x11 k0 k1 k2 k3 k4 k5 k6 k7 n1 n2 n3 n4
            have y0 : ∀ {ps : String} (ev : Operand → Value), ev (.tmp 12) = .pointer (some ⟨w2.heap.size, 0, none⟩) → ∀ W, S W → (execOp ev { dst := some 65, op := Go.Op.load 46 (Go.Operand.tmp 12), type := 46, pos := ps, after := #[], guard := none }).run Try.prog W = .ok (.value (.slice (some ⟨g, 0, none⟩) ts.length vc)) W := by
              intro ps ev h0 W hSw
              rw [hS] at hSw
              try dsimp only at hSw
              first | (go_simp; done) | (go_simp; with_reducible rfl)
            have y1 : ∀ {ps : String} (ev : Operand → Value), ev (.tmp 14) = .int .i64 (i : Int) → ∀ W, S W → (execOp ev { dst := some 66, op := Go.Op.move (Go.Operand.tmp 14), type := 3, pos := ps, after := #[], guard := none }).run Try.prog W = .ok (.value (.int .i64 (i : Int))) W := by
              intro ps ev h0 W hSw
              rw [hS] at hSw
              try dsimp only at hSw
              first | (go_simp; done) | (go_simp; with_reducible rfl)
            have y2 : ∀ {ps : String} (ev : Operand → Value), ev (.tmp 12) = .pointer (some ⟨w2.heap.size, 0, none⟩) → ∀ W, S W → (execOp ev { dst := some 67, op := Go.Op.load 46 (Go.Operand.tmp 12), type := 46, pos := ps, after := #[{ on := 6, ground := Go.Ground.gcOnly Go.Departure.lateStores }], guard := none }).run Try.prog W = .ok (.value (.slice (some ⟨g, 0, none⟩) ts.length vc)) W := by
              intro ps ev h0 W hSw
              rw [hS] at hSw
              try dsimp only at hSw
              first | (go_simp; done) | (go_simp; with_reducible rfl)
            have y3 : ∀ {ps : String} (ev : Operand → Value), ev (.tmp 14) = .int .i64 (i : Int) → ∀ W, S W → (execOp ev { dst := some 68, op := Go.Op.move (Go.Operand.tmp 14), type := 3, pos := ps, after := #[{ on := 6, ground := Go.Ground.gcOnly Go.Departure.lateStores }], guard := none }).run Try.prog W = .ok (.value (.int .i64 (i : Int))) W := by
              intro ps ev h0 W hSw
              rw [hS] at hSw
              try dsimp only at hSw
              first | (go_simp; done) | (go_simp; with_reducible rfl)
            refine wpIn_round_X S 9 (by kernel_rfl) (by kernel_rfl) hS0 (fun hHeld => ?_)
            rw [hV] at hHeld ⊢
            clear hV hS0
            refine wpX_take (i := 0) (oi := { dst := some 65, op := Go.Op.load 46 (Go.Operand.tmp 12), type := 46, pos := _, after := #[], guard := none }) (v := .slice (some ⟨g, 0, none⟩) ts.length vc) rfl (by kernel_rfl) (by kernel_rfl) (by kernel_rfl) (fun _ _ _ h => h) ⟨_, rfl, { on := 0, ground := Go.Ground.phase }, by simp, by rfl, rfl⟩ (by decide) (Or.inl ⟨by rfl, y0 _ rfl⟩) (by assumption) ?_
            try simp only [Act.put, List.setIfInBounds_toArray, List.set_cons_zero, List.set_cons_succ]
            refine wpX_take (i := 1) (oi := { dst := some 66, op := Go.Op.move (Go.Operand.tmp 14), type := 3, pos := _, after := #[], guard := none }) (v := .int .i64 (i : Int)) rfl (by kernel_rfl) (by kernel_rfl) (by kernel_rfl) (fun _ _ _ h => h) ⟨_, rfl, { on := 1, ground := Go.Ground.phase }, by simp, by rfl, rfl⟩ (by decide) (Or.inl ⟨by rfl, y1 _ rfl⟩) (by assumption) ?_
            try simp only [Act.put, List.setIfInBounds_toArray, List.set_cons_zero, List.set_cons_succ]
            refine wpX_take (i := 2) (oi := { dst := some 67, op := Go.Op.load 46 (Go.Operand.tmp 12), type := 46, pos := _, after := #[{ on := 6, ground := Go.Ground.gcOnly Go.Departure.lateStores }], guard := none }) (v := .slice (some ⟨g, 0, none⟩) ts.length vc) rfl (by kernel_rfl) (by kernel_rfl) (by kernel_rfl) (fun _ _ _ h => h) ⟨_, rfl, { on := 2, ground := Go.Ground.phase }, by simp, by rfl, rfl⟩ (by decide) (Or.inl ⟨by rfl, y2 _ rfl⟩) (by assumption) ?_
            try simp only [Act.put, List.setIfInBounds_toArray, List.set_cons_zero, List.set_cons_succ]
            refine wpX_take (i := 3) (oi := { dst := some 68, op := Go.Op.move (Go.Operand.tmp 14), type := 3, pos := _, after := #[{ on := 6, ground := Go.Ground.gcOnly Go.Departure.lateStores }], guard := none }) (v := .int .i64 (i : Int)) rfl (by kernel_rfl) (by kernel_rfl) (by kernel_rfl) (fun _ _ _ h => h) ⟨_, rfl, { on := 3, ground := Go.Ground.phase }, by simp, by rfl, rfl⟩ (by decide) (Or.inl ⟨by rfl, y3 _ rfl⟩) (by assumption) ?_
            try simp only [Act.put, List.setIfInBounds_toArray, List.set_cons_zero, List.set_cons_succ]
            refine wpX_one (i := 4) (o := { dst := some 69, op := Go.Op.indexAddr 46 (Go.Operand.tmp 65) (Go.Operand.tmp 66), type := 0, pos := _, after := #[{ on := 0, ground := Go.Ground.data }, { on := 1, ground := Go.Ground.data }, { on := 0, ground := Go.Ground.phase }, { on := 1, ground := Go.Ground.phase }, { on := 2, ground := Go.Ground.textOnly Go.Departure.lateStores }, { on := 3, ground := Go.Ground.textOnly Go.Departure.lateStores }], guard := none }) (by kernel_rfl) rfl (fun K hK => ?_)
            rw [if_pos (by rfl)]
            go_simp
            refine hK.out _ _ ⟨fun _ => hHeld, ?_⟩
            clear hK K
            try simp only [Act.put, List.setIfInBounds_toArray, List.set_cons_zero, List.set_cons_succ]
            refine wpX_one (i := 5) (o := { dst := some 70, op := Go.Op.fieldAddr 25 (Go.Operand.tmp 69) 6, type := 0, pos := _, after := #[{ on := 4, ground := Go.Ground.data }, { on := 0, ground := Go.Ground.phase }, { on := 1, ground := Go.Ground.phase }, { on := 2, ground := Go.Ground.textOnly Go.Departure.lateStores }, { on := 3, ground := Go.Ground.textOnly Go.Departure.lateStores }], guard := none }) (by kernel_rfl) rfl (fun K hK => ?_)
            rw [if_pos (by rfl)]
            go_simp
            refine hK.out _ _ ⟨fun _ => hHeld, ?_⟩
            clear hK K
            try simp only [Act.put, List.setIfInBounds_toArray, List.set_cons_zero, List.set_cons_succ]
            refine wpX_one (i := 6) (o := { dst := none, op := Go.Op.store 4 (Go.Operand.tmp 70) (Go.Operand.const (Go.Value.bool true)), type := 0, pos := _, after := #[{ on := 5, ground := Go.Ground.data }, { on := 0, ground := Go.Ground.phase }, { on := 1, ground := Go.Ground.phase }, { on := 2, ground := Go.Ground.textOnly Go.Departure.lateStores }, { on := 3, ground := Go.Ground.textOnly Go.Departure.lateStores }], guard := none }) (by kernel_rfl) rfl (fun K hK => ?_)
            rw [if_pos (by rfl)]
            go_simp
            refine hK.out _ _ ⟨fun _ => hS1, ?_⟩
            clear hK K
            try simp only [Act.put, List.setIfInBounds_toArray, List.set_cons_zero, List.set_cons_succ]
            refine wpX_one (i := 7) (o := { dst := some 71, op := Go.Op.indexAddr 46 (Go.Operand.tmp 67) (Go.Operand.tmp 68), type := 0, pos := _, after := #[{ on := 2, ground := Go.Ground.data }, { on := 3, ground := Go.Ground.data }, { on := 0, ground := Go.Ground.phase }, { on := 1, ground := Go.Ground.phase }, { on := 2, ground := Go.Ground.phase }, { on := 3, ground := Go.Ground.phase }, { on := 4, ground := Go.Ground.phase }, { on := 5, ground := Go.Ground.phase }, { on := 6, ground := Go.Ground.phase }], guard := none }) (by kernel_rfl) rfl (fun K hK => ?_)
            rw [if_pos (by rfl)]
            go_simp
            refine hK.out _ _ ⟨fun _ => hS1, ?_⟩
            clear hK K
            try simp only [Act.put, List.setIfInBounds_toArray, List.set_cons_zero, List.set_cons_succ]
            refine wpX_one (i := 8) (o := { dst := some 72, op := Go.Op.fieldAddr 25 (Go.Operand.tmp 71) 7, type := 0, pos := _, after := #[{ on := 7, ground := Go.Ground.data }, { on := 0, ground := Go.Ground.phase }, { on := 1, ground := Go.Ground.phase }, { on := 2, ground := Go.Ground.phase }, { on := 3, ground := Go.Ground.phase }, { on := 4, ground := Go.Ground.phase }, { on := 5, ground := Go.Ground.phase }, { on := 6, ground := Go.Ground.phase }], guard := none }) (by kernel_rfl) rfl (fun K hK => ?_)
            rw [if_pos (by rfl)]
            go_simp
            refine hK.out _ _ ⟨fun _ => hS1, ?_⟩
            clear hK K
            try simp only [Act.put, List.setIfInBounds_toArray, List.set_cons_zero, List.set_cons_succ]
            refine wpX_one (i := 9) (o := { dst := none, op := Go.Op.store 4 (Go.Operand.tmp 72) (Go.Operand.const (Go.Value.bool false)), type := 0, pos := _, after := #[{ on := 8, ground := Go.Ground.data }, { on := 6, ground := Go.Ground.chain }, { on := 0, ground := Go.Ground.phase }, { on := 1, ground := Go.Ground.phase }, { on := 2, ground := Go.Ground.phase }, { on := 3, ground := Go.Ground.phase }, { on := 4, ground := Go.Ground.phase }, { on := 5, ground := Go.Ground.phase }, { on := 6, ground := Go.Ground.phase }], guard := none }) (by kernel_rfl) rfl (fun K hK => ?_)
            rw [if_pos (by rfl)]
            go_simp
            refine hK.out _ _ ⟨fun h => absurd rfl h, ?_⟩
            clear hK K
            try simp only [Act.put, List.setIfInBounds_toArray, List.set_cons_zero, List.set_cons_succ]
            refine wpXN_done (by kernel_rfl) ?_ _
            try simp only [Act.put, List.setIfInBounds_toArray, List.set_cons_zero, List.set_cons_succ]
            clear y0 y1 y2 y3 c6 c7 fz6 fz7 hS1 hHeld hS
            gi_wp2
            refine ⟨Z, HF.out.2, ?_, ?_⟩
            · rw [HLN.out]
              exact HF.out.1
            · rw [HLN.out]
              exact HAL.out
          · have HON := mark_more hon hs
            have HE1 : Hid (markUp ⟨ks, ke, kr, kn, kf, km, ko, kl⟩ now wait ts (i + 1) = markUp ⟨ks, ke, kr, kn, kf, km, ko, kl⟩ now wait ts i) := markUp_stay hi (by rw [HX0.out]; exact HON.1)
            obtain ⟨mx, hmx⟩ : ∃ mx, max lf (x.sent + kr + wait - now) = mx := ⟨_, rfl⟩
            have HE2 : Hid (leftUp ⟨ks, ke, kr, kn, kf, km, ko, kl⟩ now wait ts (i + 1) = mx) := by
              unfold Hid; rw [leftUp_next hi, HX0.out, HON.2, HLF.out]; exact hmx
            have d1 : decide (0 < x.sent + kr + wait - now) = true := by
              have : ¬ x.sent + kr + wait ≤ now := hs
              simp; omega
            have d2 : decide (now < x.sent + kr + wait) = true := by
              have : ¬ x.sent + kr + wait ≤ now := hs
              simp; omega
            have hmm := @max2 lf (x.sent + kr + wait - now) mx hmx
            clear ho ha hon hs HON hmx
            gi_wp2_with fail
            refine ⟨trivial, ?_⟩
            gi_at_call 29
            refine (callsIn_wide.2 (c1 _)).mono ?_
            rintro e W3 ⟨rfl, hB3⟩
            have HW3 : Hid (Box W3 W1.heap.size 25 (rv x) ∧ MkAt w W3 w2.heap.size w1.heap.size va ts.length vc ⟨ks, ke, kr, kn, kf, km, ko, kl⟩ now wait ts i ∧ Mine W0.heap.size (readsL A ts.length) Z W2 Z W3 ∧ ∀ k, Z k → k < W3.heap.size) := ⟨HW2.out.1.later hB3, HW2.out.2.1.later hB3, Mine.trans HW2.out.2.2.1 (Mine.of_below HW2.out.2.2.2 hB3), fun k hk => Nat.lt_of_lt_of_le (HW2.out.2.2.2 k hk) hB3.size⟩
            clear HW2 hB3 c1 x0 x1 x2 x3 x4 x5 x6 x7 x8 x9 x10 x11 k0 k1 k2 k3 k4 k5 k6 k7 n1 n2 n3 n4
            obtain ⟨x0, x1, x2, x3, x4, x5, x6, x7, x8, x9, x10, x11⟩ := HW3.out.1.rc
            obtain ⟨k0, k1, k2, k3, k4, k5, k6, k7⟩ := (show BoxK W3 w.heap.size (.int .i64 ks) (.int .i64 ke) (.int .i64 kr) (.bool kn) (.int .i64 kf) (.int .i64 km) (.int .i64 ko) (.int .i64 kl) from HW3.out.2.1.bk).cells
            have n1 := HW3.out.2.1.bn.cell
            have n2 := HW3.out.2.1.bw.cell
            have n3 : W3.cell? ⟨w2.heap.size + 1, 0, none⟩ = some (.int .i64 lf) := by rw [← HLF.out]; exact HW3.out.2.1.bf.cell
            have n4 := HW3.out.2.1.bf.frozen
            gi_wp2_with fail
            refine ⟨trivial, ?_⟩
            gi_at_call 37
            refine (callsIn_wide.2 (c4 _)).mono ?_
            rintro e W4 ⟨rfl, hB4⟩
            have HW4 : Hid (Box W4 W1.heap.size 25 (rv x) ∧ MkAt w W4 w2.heap.size w1.heap.size va ts.length vc ⟨ks, ke, kr, kn, kf, km, ko, kl⟩ now wait ts i ∧ Mine W0.heap.size (readsL A ts.length) Z W2 Z W4 ∧ ∀ k, Z k → k < W4.heap.size) := ⟨HW3.out.1.later hB4, HW3.out.2.1.later hB4, Mine.trans HW3.out.2.2.1 (Mine.of_below HW3.out.2.2.2 hB4), fun k hk => Nat.lt_of_lt_of_le (HW3.out.2.2.2 k hk) hB4.size⟩
            clear HW3 hB4 c4 x0 x1 x2 x3 x4 x5 x6 x7 x8 x9 x10 x11 k0 k1 k2 k3 k4 k5 k6 k7 n1 n2 n3 n4
            obtain ⟨x0, x1, x2, x3, x4, x5, x6, x7, x8, x9, x10, x11⟩ := HW4.out.1.rc
            obtain ⟨k0, k1, k2, k3, k4, k5, k6, k7⟩ := (show BoxK W4 w.heap.size (.int .i64 ks) (.int .i64 ke) (.int .i64 kr) (.bool kn) (.int .i64 kf) (.int .i64 km) (.int .i64 ko) (.int .i64 kl) from HW4.out.2.1.bk).cells
            have n1 := HW4.out.2.1.bn.cell
            have n2 := HW4.out.2.1.bw.cell
            have n3 : W4.cell? ⟨w2.heap.size + 1, 0, none⟩ = some (.int .i64 lf) := by rw [← HLF.out]; exact HW4.out.2.1.bf.cell
            have n4 := HW4.out.2.1.bf.frozen
            gi_wp2_with fail
            refine ⟨trivial, ?_⟩
            gi_at_call 38
            refine (callsIn_wide.2 (c5 _)).mono ?_
            rintro e W5 ⟨rfl, hB5⟩
            have HW5 : Hid (Box W5 W1.heap.size 25 (rv x) ∧ MkAt w W5 w2.heap.size w1.heap.size va ts.length vc ⟨ks, ke, kr, kn, kf, km, ko, kl⟩ now wait ts i ∧ Mine W0.heap.size (readsL A ts.length) Z W2 Z W5 ∧ ∀ k, Z k → k < W5.heap.size) := ⟨HW4.out.1.later hB5, HW4.out.2.1.later hB5, Mine.trans HW4.out.2.2.1 (Mine.of_below HW4.out.2.2.2 hB5), fun k hk => Nat.lt_of_lt_of_le (HW4.out.2.2.2 k hk) hB5.size⟩
            clear HW4 hB5 c5 x0 x1 x2 x3 x4 x5 x6 x7 x8 x9 x10 x11 k0 k1 k2 k3 k4 k5 k6 k7 n1 n2 n3 n4
            obtain ⟨x0, x1, x2, x3, x4, x5, x6, x7, x8, x9, x10, x11⟩ := HW5.out.1.rc
            obtain ⟨k0, k1, k2, k3, k4, k5, k6, k7⟩ := (show BoxK W5 w.heap.size (.int .i64 ks) (.int .i64 ke) (.int .i64 kr) (.bool kn) (.int .i64 kf) (.int .i64 km) (.int .i64 ko) (.int .i64 kl) from HW5.out.2.1.bk).cells
            have n1 := HW5.out.2.1.bn.cell
            have n2 := HW5.out.2.1.bw.cell
            have n3 : W5.cell? ⟨w2.heap.size + 1, 0, none⟩ = some (.int .i64 lf) := by rw [← HLF.out]; exact HW5.out.2.1.bf.cell
            have n4 := HW5.out.2.1.bf.frozen
            gi_wp2
            refine ⟨Z, Mine.trans HW5.out.2.2.1 (mine_set HW5.out.2.2.2 _ _ (by omega) (fun h => by have := hRn _ h; omega)), ?_, ?_⟩
            · rw [HLN.out]
              exact HW5.out.2.1.setLeft mx HE1.out HE2.out
            · rw [HLN.out]
              exact HAL.out
  case done =>
    rintro D ys Z W hD hz rfl ⟨hM, hall⟩ hK
    have hen : (en ts).length = ts.length := en_len ts 0
    rw [hen] at hM hall
    have HRB : Hid (recsB now ts = true) := recs_all hall
    obtain ⟨lf, hlf⟩ : ∃ lf, leftUp ⟨ks, ke, kr, kn, kf, km, ko, kl⟩ now wait ts ts.length = lf := ⟨_, rfl⟩
    have HLF : Hid (leftI ⟨ks, ke, kr, kn, kf, km, ko, kl⟩ now wait ts.reverse = lf) := by unfold Hid; rw [← leftUp_all]; exact hlf
    have hbf := hM.bf
    rw [hlf] at hbf
    have HM : Hid (MkAt w W w2.heap.size w1.heap.size va ts.length vc ⟨ks, ke, kr, kn, kf, km, ko, kl⟩ now wait ts ts.length) := hM
    have HRW : Hid (RowR W w1.heap.size va ts.length vc (ts.map (markX ⟨ks, ke, kr, kn, kf, km, ko, kl⟩ now wait))) := by
      have := hM.rw
      rw [markUp_all] at this
      exact this
    have cQ := hM.bq.cell
    have cF := hbf.cell
    have e3 := hM.br.cell
    have e4 := hM.bl.cell
    have e5 := hM.be.cell
    have f3 := hM.br.frozen
    have f4 := hM.bl.frozen
    have f5 := hM.be.frozen
    clear hM0 hS0 hM hall hen hlf hbf
    gi_wp2_with fail
    gi_region
    gi_wp2_with fail
    have hK1 := (KeepsOthers.setCell W ⟨w.heap.size + 3, 0, none⟩ (.slice va ts.length vc)).same D _ hK rfl
    have hK2 := (KeepsOthers.setCell _ ⟨w.heap.size + 4, 0, none⟩ (.int .i64 lf)).same D _ hK1 rfl
    have hK3 := (KeepsOthers.setCell _ ⟨w.heap.size + 5, 0, none⟩ (.int .i64 0)).same D _ hK2 rfl
    have m3 := boxed_other (boxed_other (HM.out.br.set (.slice va ts.length vc)) (show w.heap.size + 3 ≠ w.heap.size + 4 by omega) 0 (.int .i64 lf)) (show w.heap.size + 3 ≠ w.heap.size + 5 by omega) 0 (.int .i64 0)
    have m4 := boxed_other ((boxed_other HM.out.bl (show w.heap.size + 4 ≠ w.heap.size + 3 by omega) 0 (.slice va ts.length vc)).set (.int .i64 lf)) (show w.heap.size + 4 ≠ w.heap.size + 5 by omega) 0 (.int .i64 0)
    have m5 := (boxed_other (boxed_other HM.out.be (show w.heap.size + 5 ≠ w.heap.size + 3 by omega) 0 (.slice va ts.length vc)) (show w.heap.size + 5 ≠ w.heap.size + 4 by omega) 0 (.int .i64 lf)).set (.int .i64 0)
    have hB3 : Below w.heap.size w (((W.setCell ⟨w.heap.size + 3, 0, none⟩ (.slice va ts.length vc)).setCell ⟨w.heap.size + 4, 0, none⟩ (.int .i64 lf)).setCell ⟨w.heap.size + 5, 0, none⟩ (.int .i64 0)) := below_set (below_set (below_set HM.out.bel _ _ _ (by omega)) _ _ _ (by omega)) _ _ _ (by omega)
    have hR3 : RowR (((W.setCell ⟨w.heap.size + 3, 0, none⟩ (.slice va ts.length vc)).setCell ⟨w.heap.size + 4, 0, none⟩ (.int .i64 lf)).setCell ⟨w.heap.size + 5, 0, none⟩ (.int .i64 0)) w1.heap.size va ts.length vc (ts.map (markX ⟨ks, ke, kr, kn, kf, km, ko, kl⟩ now wait)) := HRW.out.of_block (fun g e => by
      have := (HM.out.hG g e).1
      rw [Below.heap_setCell _ _ _ g (by show g ≠ w.heap.size + 5; omega), Below.heap_setCell _ _ _ g (by show g ≠ w.heap.size + 4; omega), Below.heap_setCell _ _ _ g (by show g ≠ w.heap.size + 3; omega)])
    obtain ⟨V, hV⟩ : ∃ V, ((W.setCell ⟨w.heap.size + 3, 0, none⟩ (.slice va ts.length vc)).setCell ⟨w.heap.size + 4, 0, none⟩ (.int .i64 lf)).setCell ⟨w.heap.size + 5, 0, none⟩ (.int .i64 0) = V := ⟨_, rfl⟩
    rw [hV] at hK3 m3 m4 m5 hB3 hR3 ⊢
    have hK4 : V.drew.heap[D]? = some (.deferred (some [])) := hK3
    have o3 : Boxed V.drew (w.heap.size + 3) 46 (.slice va ts.length vc) := m3
    have o4 : Boxed V.drew (w.heap.size + 4) 3 (.int .i64 lf) := m4
    have o5 : Boxed V.drew (w.heap.size + 5) 26 (.int .i64 0) := m5
    have hB4 : Below w.heap.size w V.drew := hB3.drew
    have hR4 : RowR V.drew w1.heap.size va ts.length vc (ts.map (markX ⟨ks, ke, kr, kn, kf, km, ko, kl⟩ now wait)) := hR3
    refine ⟨by simp, .inl ⟨_, _, rfl, run_takeDeferred hK4, ?_⟩⟩
    have hc3 := (boxed_put o3 (.deferred none) hK4 rfl).cell
    have hc4 := (boxed_put o4 (.deferred none) hK4 rfl).cell
    have hc5 := (boxed_put o5 (.deferred none) hK4 rfl).cell
    refine ⟨.tuple #[.slice va ts.length vc, .int .i64 lf, .int .i64 0], ?_, .inl ⟨HRB.out, va, vc, by rw [HLF.out], ?_⟩, hB4.trans (belowK_b (w := w) (Nat.le_refl _) _ D _ _ (by omega) hK4 rfl rfl)⟩
    · simp [results, Try.f25, go_sem, hc3, hc4, hc5]
    · exact (hR4.of_block (fun g e => World.putObj_heap_other (by have := (HM.out.hG g e).2; omega))).mono (by omega)
  case stop =>
    rintro D c pre Z W hD hz hpre ⟨rfl, hrb, b3, b4, b5, hB⟩ hK
    have HRB : Hid (recsB now ts = false) := hrb
    clear hM0 hS0 hpre hrb
    gi_wp2_with fail
    refine ⟨by simp, .inl ⟨_, _, rfl, run_takeDeferred hK, ?_⟩⟩
    have hc3 := (boxed_put b3 (.deferred none) hK rfl).cell
    have hc4 := (boxed_put b4 (.deferred none) hK rfl).cell
    have hc5 := (boxed_put b5 (.deferred none) hK rfl).cell
    refine ⟨.tuple #[.slice none 0 0, .int .i64 0, .int .i64 2], ?_, .inr ⟨HRB.out, rfl⟩, hB.trans (belowK_b (w := w) (Nat.le_refl _) _ D _ _ (by omega) hK rfl rfl)⟩
    simp [results, Try.f25, go_sem, hc3, hc4, hc5]
end Go.Proofs.Ytfkkpianlmpknaa
