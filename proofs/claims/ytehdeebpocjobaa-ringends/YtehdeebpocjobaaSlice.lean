/- The contract of Slice. -/
import Derived.Test.YtehdeebpocjobaaJoin
namespace Go.Proofs.Ytehdeebpocjobaa
open Go.ChangeShapes Go.WideShapes Go.ChangeAt Go.RowKit
set_option linter.unusedVariables false

theorem pts_one (w : World) (p : Pt) (L : Nat) (hL : p.bs.length = L) (h : SlAt w p.a p.c p.bs) : PtsAt (w.alloc (.cells #[.slice p.a L p.c] 22)) (some ⟨w.heap.size, 0, none⟩) [p] := fun j y hj => by
  have hb : Below w.heap.size w (w.alloc (.cells #[.slice p.a L p.c] 22)) := below_more (Below.refl _ _) _
  match j, hj with
  | 0, hj =>
    simp at hj; subst hj
    exact ⟨_, _, rfl, by rw [World.cell?_alloc_at (w := w) _ _ w.heap.size _ rfl, hL]; rfl, h.later hb⟩
theorem pts_two (w : World) (p p2 : Pt) (L L2 : Nat) (hL : p.bs.length = L) (hL2 : p2.bs.length = L2) (h : SlAt w p.a p.c p.bs) (h2 : SlAt w p2.a p2.c p2.bs) : PtsAt (w.alloc (.cells #[.slice p.a L p.c, .slice p2.a L2 p2.c] 22)) (some ⟨w.heap.size, 0, none⟩) [p, p2] := fun j y hj => by
  have hb : Below w.heap.size w (w.alloc (.cells #[.slice p.a L p.c, .slice p2.a L2 p2.c] 22)) := below_more (Below.refl _ _) _
  match j, hj with
  | 0, hj =>
    simp at hj; subst hj
    exact ⟨_, _, rfl, by rw [World.cell?_alloc_at (w := w) _ _ w.heap.size _ rfl, hL]; rfl, h.later hb⟩
  | 1, hj =>
    simp at hj; subst hj
    exact ⟨_, _, rfl, by rw [World.cell?_alloc_at (w := w) _ _ w.heap.size _ rfl, hL2]; rfl, h2.later hb⟩

theorem PtsAt.of_heap {w w' : World} {A : Option Addr} {ps : List Pt} (h : PtsAt w A ps) (e : w'.heap = w.heap) : PtsAt w' A ps := fun j p hj => by
  obtain ⟨b, o, ea, hc, hs⟩ := h j p hj
  refine ⟨b, o, ea, ?_, hs.1.of_heap e, hs.2⟩
  rw [← hc]; unfold World.cell?; rw [e]
/-- Bytes that are the call's own. -/
def OwnS (w : World) (B : Nat) (va : Option Addr) (L vc : Nat) (S : List Int) : Prop := Row w B va L vc S ∧ Byts S ∧ S.length ≤ 140737488351232
theorem OwnS.sl {w : World} {B : Nat} {va : Option Addr} {L vc : Nat} {S : List Int} (h : OwnS w B va L vc S) : SlAt w va vc S := h.1.sl h.2.1 h.2.2
theorem OwnS.later {w w' : World} {B : Nat} {va : Option Addr} {L vc : Nat} {S : List Int} (h : OwnS w B va L vc S) (hb : Below w.heap.size w w') : OwnS w' B va L vc S := ⟨h.1.later hb, h.2⟩
theorem OwnS.mono {w : World} {B B' : Nat} {va : Option Addr} {L vc : Nat} {S : List Int} (h : OwnS w B va L vc S) (hb : B' ≤ B) : OwnS w B' va L vc S := ⟨h.1.mono hb, h.2⟩
theorem OwnS.aside {w : World} {B : Nat} {va : Option Addr} {L vc : Nat} {S : List Int} (h : OwnS w B va L vc S) (g j : Nat) (u : Value) (hp : g < B) : OwnS (w.setCell ⟨g, j, none⟩ u) B va L vc S := ⟨h.1.aside ⟨g, j, none⟩ u hp, h.2⟩
theorem OwnS.put {w : World} {B : Nat} {va : Option Addr} {L vc : Nat} {S : List Int} (h : OwnS w B va L vc S) (g : Nat) (hg : g < B) (y0 y1 y2 y3 : Value) : OwnS ((((w.setCell ⟨g, 0, none⟩ y0).setCell ⟨g, 1, none⟩ y1).setCell ⟨g, 2, none⟩ y2).setCell ⟨g, 3, none⟩ y3) B va L vc S := ⟨h.1.put g hg y0 y1 y2 y3, h.2⟩
theorem OwnS.nil (w : World) (B : Nat) : OwnS w B none 0 0 [] := ⟨World.ownsRow_nil _ _ _ _, fun x hx => by simp at hx, by simp⟩
theorem OwnS.len {w : World} {B : Nat} {va : Option Addr} {L vc : Nat} {S : List Int} (h : OwnS w B va L vc S) : S.length = L := h.1.len

set_option maxRecDepth 100000 in
set_option maxHeartbeats 4000000 in
theorem slice_is (b : Int) (a : Option Addr) (n c : Nat) (k : Int) (q : Bool) (bs : List Int) (f t : Int) (w : World) (hR : SlAt w a c bs) (hn : bs.length = n) (hb : I64 b) (hk : I64 k) (hf : I64 f) (ht : I64 t) (S : List Int) (hS : slL ⟨b, bs, k, q⟩ f t = S) (L : Nat) (hL : S.length = L) (r : Int) (hr : slE ⟨b, bs, k, q⟩ f t = r) :
    Calls Try.prog 22 #[.agg #[.int .i64 b, .slice a n c, .int .i64 k, .bool q], .int .i64 f, .int .i64 t] w fun e w' => ∃ va vc, e = .returned (.tuple #[.slice va L vc, .int .i64 r]) ∧ OwnS w' w.heap.size va L vc S ∧ Below w.heap.size w w' := by
  have hnl : n ≤ 140737488351232 := by have := hR.1.1; omega
  have hX := BoxR.new w (.int .i64 b) (.slice a n c) (.int .i64 k) (.bool q)
  have b0 := below_more (Below.refl _ w) (.cells #[.int .i64 b, .slice a n c, .int .i64 k, .bool q] 24)
  have HX : Hid (BoxR (w.alloc (.cells #[.int .i64 b, .slice a n c, .int .i64 k, .bool q] 24)) w.heap.size (.int .i64 b) (.slice a n c) (.int .i64 k) (.bool q)) := hX
  have HB : Hid (Below w.heap.size w (w.alloc (.cells #[.int .i64 b, .slice a n c, .int .i64 k, .bool q] 24))) := b0
  have hI : I64 b ∧ I64 k ∧ I64 f ∧ I64 t := ⟨hb, hk, hf, ht⟩
  unfold I64 at hf ht
  subst hn
  cases hs : slB b bs.length k f t with
  | false =>
    obtain rfl : S = [] := by rw [← hS, slL, if_neg (by rw [hs]; simp)]
    obtain rfl : r = 2 := by rw [← hr, slE, if_neg (by rw [hs]; simp)]
    obtain rfl : L = 0 := by rw [← hL]; rfl
    obtain ⟨n, hn⟩ : ∃ n, bs.length = n := ⟨_, rfl⟩
    rw [hn] at hs hnl HX HB ⊢
    cases h : okB b n k with
    | false =>
      have c1 := chk_is b a n c k q (w.alloc (.cells #[.int .i64 b, .slice a n c, .int .i64 k, .bool q] 24)) hI.1 hI.2.1 hnl 2 (by rw [chkI, if_neg (by rw [h]; simp)])
      clear hS hr hL hR hb hk hX b0 hI hs h hn
      go_enter Try.func22, Try.ntmps22
      go_wp2_with fail
      refine c1.mono ?_
      rintro e w1 ⟨rfl, hB1⟩
      go_wp2_with fail
      go_ret2
      exact ⟨none, 0, rfl, OwnS.nil _ _, Below.on HB.out hB1⟩
    | true =>
      have c1 := chk_is b a n c k q (w.alloc (.cells #[.int .i64 b, .slice a n c, .int .i64 k, .bool q] 24)) hI.1 hI.2.1 hnl 0 (by rw [chkI, if_pos h])
      have HE : Hid (∀ W, Calls Try.prog 15 #[.agg #[.int .i64 b, .slice a n c, .int .i64 k, .bool q]] W fun e w' => e = .returned (.int .i64 (b + (n : Int))) ∧ Below W.heap.size W w') := fun W => end_is b a n c k q W hI.1 hI.2.1 hnl _ (by rw [endI, if_pos h])
      rcases (show f < b ∨ (b ≤ f ∧ t < f) ∨ (b ≤ f ∧ f ≤ t ∧ b + (n : Int) < t) from by
        unfold slB at hs
        rw [h, Bool.true_and] at hs
        have := of_decide_eq_false hs
        omega) with h1 | ⟨h1, h2⟩ | ⟨h1, h2, h3⟩
      · clear hS hr hL hR hb hk hX b0 hI hs h hn
        go_enter Try.func22, Try.ntmps22
        go_wp2_with fail
        refine c1.mono ?_
        rintro e w1 ⟨rfl, hB1⟩
        obtain ⟨k0, k1, k2, k3⟩ := (HX.out.later hB1).cells
        go_wp2_with fail
        go_ret2
        exact ⟨none, 0, rfl, OwnS.nil _ _, Below.on HB.out hB1⟩
      · clear hS hr hL hR hb hk hX b0 hI hs h hn
        go_enter Try.func22, Try.ntmps22
        go_wp2_with fail
        refine c1.mono ?_
        rintro e w1 ⟨rfl, hB1⟩
        obtain ⟨k0, k1, k2, k3⟩ := (HX.out.later hB1).cells
        go_wp2_with fail
        go_ret2
        exact ⟨none, 0, rfl, OwnS.nil _ _, Below.on HB.out hB1⟩
      · clear hS hr hL hR hb hk hX b0 hI hs h hn
        go_enter Try.func22, Try.ntmps22
        go_wp2_with fail
        refine c1.mono ?_
        rintro e w1 ⟨rfl, hB1⟩
        obtain ⟨k0, k1, k2, k3⟩ := (HX.out.later hB1).cells
        go_wp2_with fail
        refine (HE.out _).mono ?_
        rintro e w2 ⟨rfl, hB2⟩
        go_wp2_with fail
        go_ret2
        exact ⟨none, 0, rfl, OwnS.nil _ _, Below.on (Below.on HB.out hB1) hB2⟩
  | true =>
    obtain ⟨h, h1, h2, h3⟩ := sl_out hs
    have hh := ok_out h
    obtain ⟨fn, hfn⟩ : ∃ fn : Nat, f - b = (fn : Int) := ⟨(f - b).toNat, by omega⟩
    obtain ⟨tn, htn⟩ : ∃ tn : Nat, t - b = (tn : Int) := ⟨(t - b).toNat, by omega⟩
    have hS' : (bs.take tn).drop fn = S := by rw [← hS, slL, if_pos hs]; simp only [hfn, htn, Int.toNat_natCast]
    obtain rfl : r = 0 := by rw [← hr, slE, if_pos hs]
    obtain ⟨q1, q2⟩ := hR.cut3 fn tn (by omega) (by omega)
    rw [hS'] at q1 q2
    obtain ⟨A, hA⟩ : ∃ A, cutB a tn fn = A := ⟨_, rfl⟩
    have hLm : tn - fn = L := by rw [← q2]; exact hL
    rw [hA, hLm] at q1
    have cP := fun W => part_any a bs.length c fn tn (f - b) (t - b) hfn htn (by omega) (by have := hR.2.2; omega) W A hA L hLm
    obtain ⟨n, hn⟩ : ∃ n, bs.length = n := ⟨_, rfl⟩
    rw [hn] at hnl HX HB h hh h3 ⊢
    simp only [hn] at cP
    have c1 := chk_is b a n c k q (w.alloc (.cells #[.int .i64 b, .slice a n c, .int .i64 k, .bool q] 24)) hI.1 hI.2.1 hnl 0 (by rw [chkI, if_pos h])
    have HE : Hid (∀ W, Calls Try.prog 15 #[.agg #[.int .i64 b, .slice a n c, .int .i64 k, .bool q]] W fun e w' => e = .returned (.int .i64 (b + (n : Int))) ∧ Below W.heap.size W w') := fun W => end_is b a n c k q W hI.1 hI.2.1 hnl _ (by rw [endI, if_pos h])
    have HP : Hid (∀ W, Calls Try.prog 27 #[.slice a n c, .int .i64 (f - b), .int .i64 (t - b)] W fun e w' => e = .returned (.slice A L L) ∧ w' = W) := cP
    have HQ : Hid (SlAt w A L S ∧ S.length = L ∧ L ≤ 140737488351232) := ⟨q1, hL, by have := q1.1.1; omega⟩
    clear hS hr hL hR hb hk hX b0 hI hs h hn cP q1 q2 hS' hfn htn hA hLm
    go_enter Try.func22, Try.ntmps22
    go_wp2_with fail
    refine c1.mono ?_
    rintro e w1 ⟨rfl, hB1⟩
    have hX1 := HX.out.later hB1
    obtain ⟨k0, k1, k2, k3⟩ := hX1.cells
    go_wp2_with fail
    refine (HE.out _).mono ?_
    rintro e w2 ⟨rfl, hB2⟩
    have HB2 : Hid (Below w.heap.size w w2) := Below.on (Below.on HB.out hB1) hB2
    have hX2 := hX1.later hB2
    clear k0 k1 k2 k3 c1 hX1 hB1 hB2
    obtain ⟨k0, k1, k2, k3⟩ := hX2.cells
    go_wp2_with fail
    refine (HP.out _).mono ?_
    rintro e w3 ⟨rfl, rfl⟩
    have hb3 : Below w3.heap.size w3 (w3.alloc (.cells #[.slice A L L] 22)) := below_more (Below.refl _ _) _
    have c5 := joined_any (some ⟨w3.heap.size, 0, none⟩) 1 1 [⟨A, L, S⟩] (w3.alloc (.cells #[.slice A L L] 22)) (pts_one w3 ⟨A, L, S⟩ L HQ.out.2.1 (HQ.out.1.later HB2.out)) rfl (by omega) S (by simp [cat]) L HQ.out.2.1 HQ.out.2.2
    have HB3 : Hid (Below w3.heap.size w3 (w3.alloc (.cells #[.slice A L L] 22))) := hb3
    clear hb3 k0 k1 k2 k3 hX2
    go_wp2_with fail
    refine c5.mono ?_
    rintro e w5 ⟨g, rfl, hR5, hB5⟩
    go_wp2_with fail
    go_ret2
    exact ⟨_, _, rfl, ⟨hR5.mono (Nat.le_trans HB2.out.size HB3.out.size), HQ.out.1.1.2.1, by rw [HQ.out.2.1]; exact HQ.out.2.2⟩, Below.on HB2.out (Below.on HB3.out hB5)⟩
end Go.Proofs.Ytehdeebpocjobaa
