/- The contracts of the document's Send. -/
import Derived.Test.YtkbgpbhlcmainaaCopy
import Derived.Test.YtkbgpbhlcmainaaSpoil
namespace Go.Proofs.Ytkbgpbhlcmainaa
open Go.ChangeShapes Go.WideShapes Go.ChangeAt Go.RowKit
set_option linter.unusedVariables false

theorem En.mine.ok {w : World} {B : Nat} {x : En} (h : x.mine w B) : x.ok w := ⟨h.1.bytes h.2.1 h.2.2.1, h.1.nil0, h.2.2.2⟩

set_option maxRecDepth 100000 in
set_option maxHeartbeats 4000000 in
theorem refSend_any (A : Option Addr) (n c : Nat) (l : List Dg) (da : Option Addr) (dc : Nat) (bs : List Int) (t : Int) (w : World) (hD : DatsAt w A n c l) (hb : BytesAt w da bs) (h0 : da = none → dc = 0) (ht : I64 t) (S : List Dg) (hS : sendL l bs t = S) (m : Nat) (hm : S.length = m) (r : Int) (hr : sendE l = r) :
    Calls Try.prog 13 #[.slice A n c, .slice da bs.length dc, .int .i64 t] w fun e w' => ∃ va vc, e = .returned (.tuple #[.slice va m vc, .int .i64 r]) ∧ DatsAt w' va m vc S ∧ Below w.heap.size w w' := by
  have hln := hD.len
  have hrc := hD.reach
  by_cases hf : 65536 ≤ n
  · obtain rfl : S = [] := by rw [← hS, sendL, if_pos (by omega)]
    obtain rfl : r = 70 := by rw [← hr, sendE, if_pos (by omega)]
    obtain rfl : m = 0 := by rw [← hm]; rfl
    have hf' : (65536 : Int) ≤ (n : Int) := by omega
    clear hS hr hm hD hb h0 ht hln
    go_enter Try.func13, Try.ntmps13
    go_wp2_with fail
    go_ret2
    exact ⟨none, 0, rfl, DatsAt.nil _, Below.refl _ _⟩
  · have hSl : S = l ++ [(bs, t)] := by rw [← hS, sendL, if_neg (by omega)]
    obtain rfl : r = 0 := by rw [← hr, sendE, if_neg (by omega)]
    obtain rfl : m = n + 1 := by rw [← hm, hSl]; simp [hln]
    have hf' : ¬ (65536 : Int) ≤ (n : Int) := by omega
    have cC := copy_any A n c l w hD
    have HS : Hid (S = l ++ [(bs, t)] ∧ BytesAt w da bs ∧ (da = none → dc = 0) ∧ I64 t ∧ l.length = n) := ⟨hSl, hb, h0, ht, hln⟩
    obtain ⟨L, hL⟩ : ∃ L, bs.length = L := ⟨_, rfl⟩
    have hLb := hb.1
    rw [hL] at hLb ⊢
    have HL : Hid (bs.length = L) := hL
    clear hS hr hm hSl hD hb h0 ht hln hL
    go_enter Try.func13, Try.ntmps13
    go_wp2_with fail
    refine cC.mono ?_
    rintro e w1 ⟨va, vc, rfl, hT, hB⟩
    obtain ⟨es, he, hn32, hE, hmn, hpt⟩ := hT
    obtain ⟨a2, c2, w2, r2, R2, b2, _⟩ := app_run (w1.alloc (.cells #[] 5)) w1.heap.size _ 0 0 [] da L dc bs 24 (row_empty w1 _ (Nat.le_refl _)) ((HS.out.2.1.later hB).alloc _) HL.out HS.out.2.2.1 (by omega) (by simp)
    rw [Nat.zero_add] at r2 R2
    have R2' : Row w2 w1.heap.size a2 L c2 bs := by simpa using R2
    have b12 : Below w1.heap.size w1 w2 := ((Below.refl _ w1).alloc (Nat.le_refl _) _).trans b2
    have b13 : Below w1.heap.size w1 (w2.alloc (.cells #[.slice a2 L c2, .int .i64 t] 26)) := below_more b12 _
    have hE3 : RowE (w2.alloc (.cells #[.slice a2 L c2, .int .i64 t] 26)) w.heap.size va n vc es := hE.below b13 (Nat.le_refl _)
    have hO := ents_one w2 ⟨a2, c2, bs, t⟩
    simp only [HL.out] at hO
    obtain ⟨va3, vc3, w3, r3, E3, g3, b3⟩ := appE_run (w2.alloc (.cells #[.slice a2 L c2, .int .i64 t] 26)) w.heap.size va n vc es hE3 (by have := hB.size; have := b12.size; simp; omega) (some ⟨w2.heap.size, 0, none⟩) 1 1 [⟨a2, c2, bs, t⟩] 22 hO rfl (fun h => by cases h) (by omega)
    have HF : Hid (DatsAt w3 va3 (n + 1) vc3 S ∧ Below w.heap.size w w3) := by
      have hb03 : Below w.heap.size w w3 := (hB.trans (b13.mono hB.size)).trans b3
      refine ⟨⟨es ++ [⟨a2, c2, bs, t⟩], by rw [List.map_append, he, HS.out.1]; rfl, by rw [HS.out.1]; simp [HS.out.2.2.2.2], by omega, E3.max.1, E3.max.2, E3.nil0, E3.ents, fun y hy => ?_⟩, hb03⟩
      rcases List.mem_append.1 hy with hy | hy
      · have hy' : y.mine w1 w.heap.size := hmn y hy
        exact ((hy'.later b13).grown hE3 g3).ok
      · simp at hy; subst hy
        have hb2 := below_more (Below.refl w2.heap.size w2) (.cells #[.slice a2 L c2, .int .i64 t] 26)
        have R2'' : Row w2 w1.heap.size a2 bs.length c2 bs := by rw [HL.out]; exact R2'
        exact (En.mine.grown (x := ⟨a2, c2, bs, t⟩) (B := w1.heap.size) ⟨R2''.later hb2, HS.out.2.1.2.1, HS.out.2.1.1, HS.out.2.2.2.1⟩ hE3 g3).ok
    have A2 : Hid (_ = _) := r2
    have A3 : Hid (_ = _) := r3
    clear cC hE hmn hpt hB R2 R2' b2 b12 b13 hE3 hO E3 g3 b3 r2 r3 he
    go_wp2_with (first
      | (at_builtin; refine Lib.wpList_append_run (w1.alloc (.cells #[] 5)) rfl (.tmp 13) (.tmp 14) 24 24 rfl (.slice (some ⟨w1.heap.size, 0, none⟩) 0 0) (.slice da L dc) rfl rfl (.slice a2 L c2) w2 A2.out ?_)
      | (at_builtin; refine Lib.wpList_append_run (w2.alloc (.cells #[.slice a2 L c2, .int .i64 t] 26)) rfl (.tmp 12) (.tmp 18) 22 22 rfl (.slice va n vc) (.slice (some ⟨w2.heap.size, 0, none⟩) 1 1) rfl rfl (.slice va3 (n + 1) vc3) w3 A3.out ?_))
    go_ret2
    exact ⟨va3, vc3, rfl, HF.out.1, HF.out.2⟩

end Go.Proofs.Ytkbgpbhlcmainaa
