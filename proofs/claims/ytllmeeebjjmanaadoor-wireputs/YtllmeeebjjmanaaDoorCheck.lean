/- The contract of wire.Check. -/
import Derived.Test.YtllmeeebjjmanaaDoorMust
import Derived.Test.YtllmeeebjjmanaaDoorCaught
import Derived.Test.YtllmeeebjjmanaaDoorIs
namespace Go.Proofs.YtllmeeebjjmanaaDoor
open Go.ChangeShapes Go.WideShapes Go.ChangeAt Go.RowKit Go.Shelf
set_option linter.unusedVariables false

theorem enter30 (caps : Array Value) (W : World) : (callFunc 30 caps).run Tryd.prog W = .ok (.enter 30 caps) W := by kernel_rfl

theorem enter33 (caps : Array Value) (W : World) : (callFunc 33 caps).run Tryd.prog W = .ok (.enter 33 caps) W := by kernel_rfl

/-- A variable that holds a segment. -/
def SegCells (w : World) (p : Nat) (s : Seg) (ka : Option Addr) (kc : Nat) (da : Option Addr) (dc : Nat) : Prop :=
  w.heap[p]? = some (.cells (segV s ka kc da dc) 26)

set_option maxRecDepth 100000 in
set_option maxHeartbeats 1000000 in
theorem check1_any (s : Seg) (ka : Option Addr) (kc : Nat) (da : Option Addr) (dc : Nat) (p : Nat) (w : World) (hs : SegIn w s ka da) (hp : SegCells w p s ka kc da dc) :
    Calls Tryd.prog 30 #[.pointer (some ⟨p, 0, none⟩)] w fun e w' => MustI s e ∧ Below w.heap.size w w' := by
  have hm := mustBe_any s ka kc da dc w hs
  have hc : ∀ k, w.cell? ⟨p, k, none⟩ = (segV s ka kc da dc)[k]? := fun k => by unfold SegCells at hp; simp [World.cell?, hp]
  obtain ⟨sp, dp, sq, ak, fl, wn, ur, ms, sc, so, st, va, ec, sk, dat⟩ := s
  have c0 : w.cell? ⟨p, 0, none⟩ = some (.int .i64 sp) := hc 0
  have c1 : w.cell? ⟨p, 1, none⟩ = some (.int .i64 dp) := hc 1
  have c2 : w.cell? ⟨p, 2, none⟩ = some (.int .u32 sq) := hc 2
  have c3 : w.cell? ⟨p, 3, none⟩ = some (.int .u32 ak) := hc 3
  have c4 : w.cell? ⟨p, 4, none⟩ = some (.int .i64 fl) := hc 4
  have c5 : w.cell? ⟨p, 5, none⟩ = some (.int .i64 wn) := hc 5
  have c6 : w.cell? ⟨p, 6, none⟩ = some (.int .i64 ur) := hc 6
  have c7 : w.cell? ⟨p, 7, none⟩ = some (.int .i64 ms) := hc 7
  have c8 : w.cell? ⟨p, 8, none⟩ = some (.int .i64 sc) := hc 8
  have c9 : w.cell? ⟨p, 9, none⟩ = some (.bool so) := hc 9
  have c10 : w.cell? ⟨p, 10, none⟩ = some (.bool st) := hc 10
  have c11 : w.cell? ⟨p, 11, none⟩ = some (.int .u32 va) := hc 11
  have c12 : w.cell? ⟨p, 12, none⟩ = some (.int .u32 ec) := hc 12
  have c13 : w.cell? ⟨p, 13, none⟩ = some (.slice ka sk.length kc) := hc 13
  have c14 : w.cell? ⟨p, 14, none⟩ = some (.slice da dat.length dc) := hc 14
  unfold segV at hm
  dsimp only at hm
  have HM := hm
  clear hm
  clear hc hp hs
  go_enter Tryd.func30, Tryd.ntmps30
  go_wp2_with fail
  refine HM.mono ?_
  rintro e w' ⟨hM, hB⟩
  rcases hM with ⟨hc, rfl⟩ | ⟨hc, why, hw, rfl⟩
  · go_wp2_with fail
    go_end0
    exact ⟨.inl ⟨hc, rfl⟩, hB⟩
  · exact ⟨rfl, .inr ⟨hc, why, hw, rfl⟩, hB⟩

theorem frozen_new (w : World) (cs : Array Value) (t : TypeId) : (w.alloc (.cells cs t)).frozen? ⟨w.heap.size, 0, none⟩ = false := by
  have h := World.alloc_heap_new w (.cells cs t)
  unfold World.frozen?
  rw [show (w.alloc (.cells cs t)).heap[(⟨w.heap.size, 0, none⟩ : Addr).block]? = some (.cells cs t) from h]
  rfl

set_option maxRecDepth 100000 in
set_option maxHeartbeats 1000000 in
theorem check_any (s : Seg) (ka : Option Addr) (kc : Nat) (da : Option Addr) (dc : Nat) (w : World) (a0 a1 a2 : Addr) (hE : Errs w a0 a1 a2) (hs : SegIn w s ka da) :
    Calls Tryd.prog 13 #[.agg (segV s ka kc da dc)] w fun e w' => ((ChkI s ∧ e = .returned (.int .i64 0)) ∨ (¬ ChkI s ∧ e = .returned (.int .i64 2))) ∧ Below w.heap.size w w' := by
  obtain ⟨cs, hcs⟩ : ∃ cs, segV s ka kc da dc = cs := ⟨_, rfl⟩
  obtain ⟨W0, hW0⟩ : ∃ W0, w.alloc (.cells cs 26) = W0 := ⟨_, rfl⟩
  obtain ⟨W1, hW1⟩ : ∃ W1, W0.alloc (.cells #[.nilIface] 58) = W1 := ⟨_, rfl⟩
  have s0 : W0.heap.size = w.heap.size + 1 := by rw [← hW0]; simp
  have s1 : W1.heap.size = W0.heap.size + 1 := by rw [← hW1]; simp
  have b0 : Below w.heap.size w W0 := by rw [← hW0]; exact (Below.refl _ w).alloc (Nat.le_refl _) _
  have b1 : Below W0.heap.size W0 W1 := by rw [← hW1]; exact (Below.refl _ W0).alloc (Nat.le_refl _) _
  have b01 : Below w.heap.size w W1 := b0.trans (b1.mono (by omega))
  have hp : SegCells W1 w.heap.size s ka kc da dc := by
    unfold SegCells
    rw [b1.block w.heap.size (by omega), hcs, ← hW0]
    exact World.alloc_heap_new w _
  have h1 := check1_any s ka kc da dc w.heap.size W1 (hs.below b01 (Nat.le_refl _)) hp
  have hcell : W1.cell? ⟨W0.heap.size, 0, none⟩ = some .nilIface := by
    rw [← hW1, World.cell?_alloc_at (w := W0) _ _ W0.heap.size 0 rfl]; rfl
  have hfro : W1.frozen? ⟨W0.heap.size, 0, none⟩ = false := by rw [← hW1]; exact frozen_new W0 _ _
  have hkeep : ∀ W', Below W1.heap.size W1 W' → (W'.cell? ⟨W0.heap.size, 0, none⟩ = some .nilIface ∧ W'.frozen? ⟨W0.heap.size, 0, none⟩ = false) := fun W' h =>
    ⟨(h.cell (p := ⟨W0.heap.size, 0, none⟩) (by show W0.heap.size < _; omega)).trans hcell, (h.frozen (p := ⟨W0.heap.size, 0, none⟩) (by show W0.heap.size < _; omega)).trans hfro⟩
  have hend : ∀ W' v, Below W1.heap.size W1 W' → Below w.heap.size w (W'.setCell ⟨W0.heap.size, 0, none⟩ v) := fun W' v h =>
    (b01.trans (h.mono (by omega))).setCell (p := ⟨W0.heap.size, 0, none⟩) (by show _ ≤ W0.heap.size; omega) v
  by_cases hc : ChkI s
  · have hd := caught_ok 30 #[.pointer (some ⟨w.heap.size, 0, none⟩)] (enter30 _) W0 (Below W1.heap.size W1) (by
      rw [hW1]
      refine h1.mono ?_
      rintro e W' ⟨hM, hB⟩
      rcases hM with ⟨_, rfl⟩ | ⟨hn, _⟩
      · exact ⟨rfl, hkeep W' hB, hB⟩
      · exact absurd hc hn)
    have HD : Hid (Calls Tryd.prog 29 #[.func (.func 30) #[] #[.pointer (some ⟨w.heap.size, 0, none⟩)]] W0 fun e w' => e = .returned .nilIface ∧ ∃ W', Below W1.heap.size W1 W' ∧ w' = W'.setCell ⟨W0.heap.size, 0, none⟩ .nilIface) := hd
    have HEND : Hid (∀ W' v, Below W1.heap.size W1 W' → Below w.heap.size w (W'.setCell ⟨W0.heap.size, 0, none⟩ v)) := hend
    rw [hcs]
    clear hd hkeep h1 hp hcell hfro hend s1 b1 b01 b0 hs hE hW1 hcs s0
    go_enter Tryd.func13, Tryd.ntmps13
    go_wp2_with fail
    refine HD.out.mono ?_
    rintro e w2 ⟨rfl, W', hB, rfl⟩
    go_wp2_with fail
    refine (number_nil _).mono ?_
    rintro e w3 ⟨rfl, rfl⟩
    go_wp2_with fail
    go_ret
    exact ⟨.inl ⟨hc, rfl⟩, HEND.out _ _ hB⟩
  · have hd := caught_up 30 #[.pointer (some ⟨w.heap.size, 0, none⟩)] (enter30 _) W0 (fun why W' => (0 ≤ why ∧ why ≤ 7) ∧ Below W1.heap.size W1 W') (by
      rw [hW1]
      refine h1.mono ?_
      rintro e W' ⟨hM, hB⟩
      rcases hM with ⟨hn, _⟩ | ⟨_, why, hw, rfl⟩
      · exact absurd hn hc
      · exact ⟨why, rfl, hkeep W' hB, hw, hB⟩)
    have HD : Hid (Calls Tryd.prog 29 #[.func (.func 30) #[] #[.pointer (some ⟨w.heap.size, 0, none⟩)]] W0 fun e w' => ∃ why : Int, e = .returned (.iface 92 (.agg #[.int .i64 why])) ∧ ∃ W', ((0 ≤ why ∧ why ≤ 7) ∧ Below W1.heap.size W1 W') ∧ w' = W'.setCell ⟨W0.heap.size, 0, none⟩ (.iface 92 (.agg #[.int .i64 why]))) := hd
    have HEND : Hid (∀ W' v, Below W1.heap.size W1 W' → Below w.heap.size w (W'.setCell ⟨W0.heap.size, 0, none⟩ v)) := hend
    have HER : Hid (Errs w a0 a1 a2) := hE
    rw [hcs]
    clear hd hkeep h1 hp hcell hfro hend s1 b1 b01 b0 hs hE hW1 hcs s0
    go_enter Tryd.func13, Tryd.ntmps13
    go_wp2_with fail
    refine HD.out.mono ?_
    rintro e w2 ⟨why, rfl, W', ⟨hw, hB⟩, rfl⟩
    have hb2 := HEND.out W' (.iface 92 (.agg #[.int .i64 why])) hB
    have hn := number_any why _ a0 a1 a2 (HER.out.below hb2 (Nat.le_refl _)) (.inl hw)
    have hnum : numI why = 2 := by rw [numI, if_pos hw.2]
    rw [hnum] at hn
    have HNn : Hid (Calls Tryd.prog 28 #[.iface 92 (.agg #[.int .i64 why])] (W'.setCell ⟨W0.heap.size, 0, none⟩ (.iface 92 (.agg #[.int .i64 why]))) fun e w' => e = .returned (.int .i64 2) ∧ Below (W'.setCell ⟨W0.heap.size, 0, none⟩ (.iface 92 (.agg #[.int .i64 why]))).heap.size (W'.setCell ⟨W0.heap.size, 0, none⟩ (.iface 92 (.agg #[.int .i64 why]))) w') := hn
    clear hn hnum
    go_wp2_with fail
    refine HNn.out.mono ?_
    rintro e w3 ⟨rfl, hB3⟩
    go_wp2_with fail
    go_ret
    exact ⟨.inr ⟨hc, rfl⟩, hb2.trans (hB3.mono hb2.size)⟩
end Go.Proofs.YtllmeeebjjmanaaDoor
