/- The contract of the document's Double. -/
import Derived.Test.YtkbgpbhlcmainaaRefSend
namespace Go.Proofs.Ytkbgpbhlcmainaa
open Go.ChangeShapes Go.WideShapes Go.ChangeAt Go.RowKit
set_option linter.unusedVariables false

/-- 'x[k:k+1]'. -/
theorem sl_one (b o n c k : Nat) (ki kj : Int) (hk : ki = (k : Int)) (hj : kj = (k : Int) + 1) (h : k < c) (w : World) :
    (Instr.slice 22 (.slice (some ⟨b, o, none⟩) n c) (some (.int .i64 ki)) (some (.int .i64 kj)) none).run Try.prog w = .ok (.slice (some ⟨b, o + k * 2, none⟩) 1 (c - k)) w := by
  subst hk; subst hj
  rw [run_slice_lh w 22 (some ⟨b, o, none⟩) n c under22 .i64 .i64 k (k + 1) (by omega) (by omega) (by omega), size26]
  simp [sliced, add_plain]
  omega
theorem DatsAt.one {w : World} {b o n c : Nat} {l : List Dg} (h : DatsAt w (some ⟨b, o, none⟩) n c l) (j : Nat) (hj : j < n) : DatsAt w (some ⟨b, o + j * 2, none⟩) 1 (c - j) [l[j]?.getD z0] := by
  obtain ⟨b', o', x, e, hx, hok, hc0, hc1⟩ := h.get j hj
  cases e
  have hc := h.cap
  rw [hx]
  refine ⟨[x], rfl, rfl, by omega, by omega, by omega, fun h => (by cases h), fun i y hi => ?_, fun y hy => (by simp at hy; subst hy; exact hok)⟩
  have h1 : i = 0 := by
    rcases Nat.lt_or_ge i 1 with h | h
    · omega
    · rw [List.getElem?_eq_none (by simpa using h)] at hi; cases hi
  subst h1
  simp at hi; subst hi
  exact ⟨b, o + j * 2, rfl, by simpa using hc0, by simpa using hc1⟩

set_option maxRecDepth 100000 in
set_option maxHeartbeats 1000000 in
theorem refDouble_any (A : Option Addr) (n c : Nat) (l : List Dg) (k : Int) (w : World) (hD : DatsAt w A n c l) (hk : I64 k) (S : List Dg) (hS : dblL l k = S) (m : Nat) (hm : S.length = m) (r : Int) (hr : dblE l k = r) :
    Calls Try.prog 18 #[.slice A n c, .int .i64 k] w fun e w' => ∃ va vc, e = .returned (.tuple #[.slice va m vc, .int .i64 r]) ∧ DatsAt w' va m vc S ∧ Below w.heap.size w w' := by
  have hln := hD.len
  have hrc := hD.reach
  unfold I64 at hk
  cases hp : plB n k with
  | false =>
    obtain rfl : S = [] := by rw [← hS, dblL, hln, hp]; simp
    obtain rfl : r = 50 := by rw [← hr, dblE, hln, hp]; simp
    obtain rfl : m = 0 := by rw [← hm]; rfl
    rcases (show k < 0 ∨ (0 ≤ k ∧ (n : Int) ≤ k) from by simp [plB] at hp; omega) with h | ⟨h, h2⟩
    all_goals (
      clear hS hr hm hD hln hp
      go_enter Try.func18, Try.ntmps18
      go_wp2_with fail
      go_ret2
      exact ⟨none, 0, rfl, DatsAt.nil _, Below.refl _ _⟩)
  | true =>
    obtain ⟨j, rfl⟩ : ∃ j : Nat, k = (j : Int) := ⟨k.toNat, by simp [plB] at hp; omega⟩
    have hj : j < n := by simp [plB] at hp; exact hp
    have hj' : (j : Int) < (n : Int) := by omega
    by_cases hf : 65536 ≤ n
    · obtain rfl : S = [] := by rw [← hS, dblL, hln, hp, if_pos rfl, if_pos hf]
      obtain rfl : r = 70 := by rw [← hr, dblE, hln, hp, if_pos rfl, if_pos hf]
      obtain rfl : m = 0 := by rw [← hm]; rfl
      have hf' : (65536 : Int) ≤ (n : Int) := by omega
      clear hS hr hm hD hln hp
      go_enter Try.func18, Try.ntmps18
      go_wp2_with fail
      go_ret2
      exact ⟨none, 0, rfl, DatsAt.nil _, Below.refl _ _⟩
    · have hSl : S = l ++ [l[j]?.getD z0] := by rw [← hS, dblL, hln, hp, if_pos rfl, if_neg hf]; simp
      obtain rfl : r = 0 := by rw [← hr, dblE, hln, hp, if_pos rfl, if_neg hf]
      obtain rfl : m = n + 1 := by rw [← hm, hSl]; simp [hln]
      have hf' : ¬ (65536 : Int) ≤ (n : Int) := by omega
      obtain ⟨b, o, x, rfl, _⟩ := hD.get j hj
      have hcap := hD.cap
      have e1 := sl_one b o n c j (j : Int) ((j : Int) + 1) rfl rfl (by omega)
      have hw : IntKind.i64.wrap ((j : Int) + 1) = (j : Int) + 1 := by rw [IntKind.wrap_i64]; omega
      have HD : Hid (DatsAt w (some ⟨b, o, none⟩) n c l ∧ S = l ++ [l[j]?.getD z0] ∧ DatsAt w (some ⟨b, o + j * 2, none⟩) 1 (c - j) [l[j]?.getD z0]) := ⟨hD, hSl, hD.one j hj⟩
      obtain ⟨c2, hc2⟩ : ∃ c2, c - j = c2 := ⟨_, rfl⟩
      rw [hc2] at e1 HD
      clear hS hr hm hSl hD hp hcap hc2
      go_enter Try.func18, Try.ntmps18
      go_upto_region 5 with fail
      go_region_held3 (fun W => Below w.heap.size w W)
        (repeat (first | with_reducible exact Below.refl _ _ | with_reducible assumption | with_reducible refine Below.drew ?_ | with_reducible refine below_drewN ?_ _ | with_reducible refine below_more ?_ _))
        (first
          | (go_at_call_of 11 c; refine (copy_any (some ⟨b, o, none⟩) n c l _ (HD.out.1.later (by repeat (first | with_reducible exact Below.refl _ _ | with_reducible assumption | with_reducible refine Below.drew ?_ | with_reducible refine below_drewN ?_ _)))).mono ?_; rintro e w1 ⟨va1, vc1, rfl, hT1, hb1'⟩; have hb1 : Below w.heap.size w w1 := Below.on (by repeat (first | with_reducible exact Below.refl _ _ | with_reducible assumption | with_reducible refine Below.drew ?_ | with_reducible refine below_drewN ?_ _)) hb1')
          | (go_at_call_of 11 c2; refine (copy_any (some ⟨b, o + j * 2, none⟩) 1 c2 [l[j]?.getD z0] _ (HD.out.2.2.later (by repeat (first | with_reducible exact Below.refl _ _ | with_reducible assumption | with_reducible refine Below.drew ?_ | with_reducible refine below_drewN ?_ _)))).mono ?_; rintro e w2 ⟨va2, vc2, rfl, hT2, hb2'⟩; have hb2 : Below w.heap.size w w2 := Below.on (by repeat (first | with_reducible exact Below.refl _ _ | with_reducible assumption | with_reducible refine Below.drew ?_ | with_reducible refine below_drewN ?_ _)) hb2'; obtain ⟨es1, he1, _, hE1, hm1, _⟩ := hT1; obtain ⟨es2, he2, _, hE2, hm2, _⟩ := hT2)
          | (refine step_own rfl (.tmp 18) (.tmp 24) rfl w.heap.size va1 n vc1 es1 va2 1 vc2 es2 rfl rfl (RowE.of_heap ((hE1.mono (by exact Nat.le_refl _)).below hb2' (by exact Nat.le_refl _)) (by rfl)) (Below.size (B := w.heap.size) (w := w) (by repeat (first | with_reducible exact Below.refl _ _ | with_reducible assumption | with_reducible refine Below.drew ?_ | with_reducible refine below_drewN ?_ _))) (EntsAt.of_heap hE2.ents (by rfl)) hE2.len hE2.nil0 (by omega) ?_; intro va3 vc3 w3 hE3 hg3 hb3'; have hb3 : Below w.heap.size w w3 := Below.trans (by repeat (first | with_reducible exact Below.refl _ _ | with_reducible assumption | with_reducible refine Below.drew ?_ | with_reducible refine below_drewN ?_ _)) hb3'))
      have HF : Hid (DatsAt w3 va3 (n + 1) vc3 S) := by
        have hE1' : RowE w2 w.heap.size va1 n vc1 es1 := (hE1.mono (by exact Nat.le_refl _)).below hb2' (by exact Nat.le_refl _)
        refine ⟨es1 ++ es2, by rw [List.map_append, he1, he2, HD.out.2.1], by rw [HD.out.2.1]; simp [hln], by omega, hE3.max.1, hE3.max.2, hE3.nil0, hE3.ents, fun y hy => ?_⟩
        rcases List.mem_append.1 hy with hy | hy
        · have hy' : y.mine w1 w.heap.size := hm1 y hy
          exact ((hy'.later hb2').grown hE1' hg3).ok
        · have hy' : y.mine w2 w1.heap.size := hm2 y hy
          exact (hy'.grown hE1' hg3).ok
      clear hE1 hm1 hE2 hm2 hE3 hg3 he1 he2 hb1' hb2' hb3' hb1 hb2
      go_wp2_with fail
      go_ret2
      exact ⟨va3, vc3, rfl, HF.out, hb3⟩

end Go.Proofs.Ytkbgpbhlcmainaa
