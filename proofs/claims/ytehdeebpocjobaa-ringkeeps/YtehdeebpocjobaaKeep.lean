/- The plain facts of RingKeeps, and what a round keeps. -/
import Derived.Test.YtehdeebpocjobaaSlicesWalk
import Derived.Test.YtehdeebpocjobaaRefWrite
import Derived.Test.YtehdeebpocjobaaOpen
namespace Go.Proofs.Ytehdeebpocjobaa
open Go.ChangeShapes Go.WideShapes Go.ChangeAt Go.RowKit
set_option linter.unusedVariables false

theorem below_drewN {B : Nat} {a w : World} (h : Below B a w) (k : Nat) : Below B a (w.drewN k) := ⟨h.os, h.tape, h.output, h.size, h.block⟩
theorem low3 (y : Int) : ∃ j : Nat, bits .and .i64 y 7 = (j : Int) ∧ j ≤ 7 := by
  have e2 : (BitVec.ofInt 64 (7 : Int)).toNat = 7 := by decide
  have hle : (BitVec.ofInt 64 y).toNat &&& 7 ≤ 7 := Nat.and_le_right
  refine ⟨(BitVec.ofInt 64 y).toNat &&& 7, ?_, hle⟩
  show IntKind.i64.wrap ((BitVec.ofInt 64 y &&& BitVec.ofInt 64 (7 : Int)).toNat : Int) = _
  rw [BitVec.toNat_and, e2, IntKind.wrap_i64]
  omega
theorem box_grown {w w' : World} {B : Nat} {va : Option Addr} {L vc p : Nat} {bs : List Int} {x0 x1 x2 x3 : Value} (h : BoxR w p x0 x1 x2 x3) (hR : Row w B va L vc bs) (hg : w.grownBy w' (Value.ownBlock (.slice va L vc))) : BoxR w' p x0 x1 x2 x3 := by
  refine (hg.block p h.lt ?_).trans h
  rcases hR.at with rfl | ⟨g, rfl, _, _, cur, hh⟩
  · simp [Value.ownBlock]
  · simp only [Value.ownBlock, ne_eq, Option.some.injEq]
    intro e
    subst e
    have h' : w.heap[p]? = some (.cells #[x0, x1, x2, x3] 24 (0, 0)) := h
    rw [h'] at hh
    cases hh
theorem OwnS.grown {w w' : World} {B B' : Nat} {va : Option Addr} {L vc : Nat} {bs : List Int} {na : Option Addr} {nl nc : Nat} {NS : List Int} (h : OwnS w B' na nl nc NS) (hR : Row w B va L vc bs) (hlt : ∀ g, va = some ⟨g, 0, none⟩ → g < B') (hg : w.grownBy w' (Value.ownBlock (.slice va L vc))) : OwnS w' B' na nl nc NS := by
  refine ⟨⟨h.1.1, ?_⟩, h.2⟩
  rcases h.1.2 with h' | ⟨g, c, cur, e, hB, hh, r⟩
  · exact .inl h'
  · refine .inr ⟨g, c, cur, e, hB, (hg.block g (Array.getElem?_eq_some_iff.1 hh).1 ?_).trans hh, r⟩
    rcases hR.at with rfl | ⟨g', rfl, _⟩
    · simp [Value.ownBlock]
    · simp only [Value.ownBlock, ne_eq, Option.some.injEq]
      intro e2
      have := hlt g' rfl
      omega
theorem Row.lt {w : World} {B : Nat} {va : Option Addr} {L vc : Nat} {bs : List Int} (h : Row w B va L vc bs) : ∀ g, va = some ⟨g, 0, none⟩ → g < w.heap.size := fun g e => by
  rcases h.at with rfl | ⟨g', rfl, _, hg, _⟩
  · cases e
  · cases e; exact hg

/-! ### What is written, released and sliced of a small ring -/
theorem k_ok {b m : Nat} {K : Int} (hK : K ≤ 1000) (hm : (m : Int) ≤ K) (hL : b + m ≤ 1000000) : okB (b : Int) m K = true := ok_in (by omega)
theorem k_room {b m : Nat} {K : Int} (hK : K ≤ 1000) (hm : (m : Int) ≤ K) (hL : b + m ≤ 1000000) : roomI (b : Int) m K false = K - (m : Int) := by
  rw [roomI, if_pos (k_ok hK hm hL), if_neg (by simp), minI, if_neg (by omega)]
/-- How many bytes a write takes. -/
theorem k_write {b m : Nat} {K : Int} (hK : K ≤ 1000) (hm : (m : Int) ≤ K) (hL : b + m ≤ 1000000) {S ds : List Int} (hS : S.length = m) {wl : Nat} (hwl : ds.length = wl) :
    ∃ mn : Nat, wrR ⟨(b : Int), S, K, false⟩ ds = ⟨(b : Int), S ++ ds.take mn, K, false⟩ ∧ wrM ⟨(b : Int), S, K, false⟩ wl = (mn : Int) ∧ opnI (b : Int) m K false = 0 ∧ mn ≤ wl ∧ ((m + mn : Nat) : Int) ≤ K ∧ (mn < wl → ((m + mn : Nat) : Int) = K) := by
  have hok := k_ok hK hm hL
  have hrm := k_room hK hm hL
  obtain ⟨p1, p2⟩ := wrN_le ⟨(b : Int), S, K, false⟩ wl
  simp only [hS, hrm] at p2
  refine ⟨wrN ⟨(b : Int), S, K, false⟩ wl, ?_, ?_, ?_, p1, ?_, ?_⟩
  · rw [wrR]; simp only [hS, hok, hwl]; simp
  · rw [wrM]; simp only [hS, hok]; simp
  · rw [opnI, hok]; simp
  · rw [Int.natCast_add, p2]; unfold minI; split <;> omega
  · intro h
    have h' : ((wrN ⟨(b : Int), S, K, false⟩ wl : Nat) : Int) < (wl : Int) := by omega
    rw [p2] at h'
    rw [Int.natCast_add, p2]
    unfold minI at h' ⊢
    split <;> split at h' <;> omega
theorem k_end {b m : Nat} {K : Int} (hK : K ≤ 1000) (hm : (m : Int) ≤ K) (hL : b + m ≤ 1000000) : endI (b : Int) m K = ((b + m : Nat) : Int) := by
  rw [endI, if_pos (k_ok hK hm hL)]; omega
theorem k_slice {b m : Nat} {K : Int} (hK : K ≤ 1000) (hm : (m : Int) ≤ K) (hL : b + m ≤ 1000000) {S : List Int} (hS : S.length = m) :
    slL ⟨(b : Int), S, K, false⟩ (b : Int) ((b + m : Nat) : Int) = S ∧ slE ⟨(b : Int), S, K, false⟩ (b : Int) ((b + m : Nat) : Int) = 0 := by
  have hs : slB (b : Int) S.length K (b : Int) ((b + m : Nat) : Int) = true := by rw [hS]; exact sl_in (k_ok hK hm hL) (by omega)
  refine ⟨?_, by rw [slE, if_pos hs]⟩
  rw [slL, if_pos hs]
  have e1 : (((b + m : Nat) : Int) - (b : Int)).toNat = m := by omega
  have e2 : ((b : Int) - (b : Int)).toNat = 0 := by omega
  simp only [e1, e2, List.drop_zero]
  exact List.take_of_length_le (by omega)
theorem k_rel {b m j : Nat} {K : Int} (hK : K ≤ 1000) (hm : (m : Int) ≤ K) (hL : b + m ≤ 1000000) {S : List Int} (hS : S.length = m) (hj : j ≤ m) :
    rlR ⟨(b : Int), S, K, false⟩ ((b : Int) + (j : Int)) = ⟨(b : Int) + (j : Int), S.drop j, K, false⟩ ∧ rlE ⟨(b : Int), S, K, false⟩ ((b : Int) + (j : Int)) = 0 := by
  have hs : slB (b : Int) S.length K ((b : Int) + (j : Int)) ((b : Int) + (S.length : Int)) = true := by rw [hS]; exact sl_in (k_ok hK hm hL) (by omega)
  refine ⟨?_, by rw [rlE, if_pos hs]⟩
  rw [rlR, if_pos hs]
  have e1 : ((b : Int) + (j : Int) - (b : Int)).toNat = j := by omega
  simp only [e1]
theorem k_not {b m j : Nat} {K : Int} {S : List Int} (hS : S.length = m) (hj : m < j) :
    rlR ⟨(b : Int), S, K, false⟩ ((b : Int) + (j : Int)) = ⟨0, [], 0, false⟩ ∧ rlE ⟨(b : Int), S, K, false⟩ ((b : Int) + (j : Int)) = 2 := by
  have hs : slB (b : Int) S.length K ((b : Int) + (j : Int)) ((b : Int) + (S.length : Int)) = false := by
    rw [hS]; unfold slB; rw [decide_eq_false (by omega)]; simp
  exact ⟨by rw [rlR, if_neg (by rw [hs]; simp)]; rfl, by rw [rlE, if_neg (by rw [hs]; simp)]⟩

/-- What a round keeps: the ring holds the bytes from its base on, all of them lie in the row beside it. -/
def Kept (w wr : World) (K : Int) (b m L : Nat) (ra : Option Addr) (rc : Nat) (va : Option Addr) (vc : Nat) (al : List Int) : Prop :=
  BoxR wr w.heap.size (.int .i64 (b : Int)) (.slice ra m rc) (.int .i64 K) (.bool false) ∧ Row wr (w.heap.size + 1) va L vc al ∧ SlAt wr ra rc (al.drop b) ∧ Byts al ∧ b + m = L ∧ (m : Int) ≤ K ∧ Below w.heap.size w wr
theorem Kept.len {w wr : World} {K : Int} {b m L : Nat} {ra : Option Addr} {rc : Nat} {va : Option Addr} {vc : Nat} {al : List Int} (h : Kept w wr K b m L ra rc va vc al) : al.length = L ∧ (al.drop b).length = m := by
  have h1 := h.2.1.len
  have h2 := h.2.2.2.2.1
  exact ⟨h1, by rw [List.length_drop]; omega⟩
theorem Kept.later {w wr w' : World} {K : Int} {b m L : Nat} {ra : Option Addr} {rc : Nat} {va : Option Addr} {vc : Nat} {al : List Int} (h : Kept w wr K b m L ra rc va vc al) (hb : Below wr.heap.size wr w') : Kept w w' K b m L ra rc va vc al :=
  ⟨h.1.later hb, h.2.1.later hb, h.2.2.1.later hb, h.2.2.2.1, h.2.2.2.2.1, h.2.2.2.2.2.1, Below.on h.2.2.2.2.2.2 hb⟩
/-- Behind a write, ahead of the append. -/
def Wrote (w wr wx : World) (K : Int) (b m L : Nat) (ra : Option Addr) (rc : Nat) (va : Option Addr) (vc : Nat) (al : List Int) (p : Nat) (na : Option Addr) (nc mn : Nat) (ds : List Int) : Prop :=
  BoxR wx w.heap.size (.int .i64 (b : Int)) (.slice ra m rc) (.int .i64 K) (.bool false) ∧ BoxR wx p (.int .i64 (b : Int)) (.slice na (m + mn) nc) (.int .i64 K) (.bool false) ∧ OwnS wx wr.heap.size na (m + mn) nc (al.drop b ++ ds.take mn) ∧ Row wx (w.heap.size + 1) va L vc al ∧ Below wr.heap.size wr wx ∧ w.heap.size < p
theorem Wrote.later {w wr wx w' : World} {K : Int} {b m L : Nat} {ra : Option Addr} {rc : Nat} {va : Option Addr} {vc : Nat} {al : List Int} {p : Nat} {na : Option Addr} {nc mn : Nat} {ds : List Int} (h : Wrote w wr wx K b m L ra rc va vc al p na nc mn ds) (hb : Below wx.heap.size wx w') : Wrote w wr w' K b m L ra rc va vc al p na nc mn ds :=
  ⟨h.1.later hb, h.2.1.later hb, h.2.2.1.later hb, h.2.2.2.1.later hb, Below.on h.2.2.2.2.1 hb, h.2.2.2.2.2⟩
/-- Behind the append, and the ring taken over. -/
theorem wrote_next {w wr wx wa : World} {K : Int} {b m L : Nat} {ra : Option Addr} {rc : Nat} {va : Option Addr} {vc : Nat} {al : List Int} {p : Nat} {na : Option Addr} {nc mn : Nat} {ds : List Int} {va' : Option Addr} {vc' : Nat}
    (hk : Kept w wr K b m L ra rc va vc al) (h : Wrote w wr wx K b m L ra rc va vc al p na nc mn ds) (hd : Byts ds) (hl : (ds.take mn).length = mn) (hmK : ((m + mn : Nat) : Int) ≤ K)
    (hR : Row wa (w.heap.size + 1) va' (L + mn) vc' (al ++ ds.take mn)) (hB : Below (w.heap.size + 1) wx wa) (hg : wx.grownBy wa (Value.ownBlock (.slice va L vc))) :
    BoxR wa p (.int .i64 (b : Int)) (.slice na (m + mn) nc) (.int .i64 K) (.bool false) ∧ BoxR wa w.heap.size (.int .i64 (b : Int)) (.slice ra m rc) (.int .i64 K) (.bool false) ∧ w.heap.size ≠ p ∧
    Kept w ((((wa.setCell ⟨w.heap.size, 0, none⟩ (.int .i64 (b : Int))).setCell ⟨w.heap.size, 1, none⟩ (.slice na (m + mn) nc)).setCell ⟨w.heap.size, 2, none⟩ (.int .i64 K)).setCell ⟨w.heap.size, 3, none⟩ (.bool false)) K b (m + mn) (L + mn) na nc va' vc' (al ++ ds.take mn) := by
  obtain ⟨h1, h2, h3, h4, h5, h6⟩ := h
  obtain ⟨g1, g2, g3, g4, g5, g6, g7⟩ := hk
  have hbox := h1.below hB (Nat.lt_succ_self _)
  have hO := h3.grown h4 (fun g e => g2.lt g e) hg
  have hw : w.heap.size < wr.heap.size := g1.lt
  refine ⟨box_grown h2 h4 hg, hbox, by omega, hbox.put _ _ _ _, hR.put w.heap.size (Nat.lt_succ_self _) _ _ _ _, ?_, byts_app g4 (byts_take hd mn), by omega, hmK, ?_⟩
  · have e : (al ++ ds.take mn).drop b = al.drop b ++ ds.take mn := List.drop_append_of_le_length (by have := g2.len; omega)
    rw [e]
    exact (hO.put w.heap.size hw _ _ _ _).sl
  · exact below_put ((Below.on g7 h5).trans (hB.mono (Nat.le_succ _))) _ (Nat.le_refl _) _ _ _ _
/-- The ring taken over behind a release. -/
theorem rel_next {w wr w1 : World} {K : Int} {b m L j : Nat} {ra : Option Addr} {rc : Nat} {va : Option Addr} {vc : Nat} {al : List Int} {xa : Option Addr} {xl xc : Nat} (hk : Kept w wr K b m L ra rc va vc al) (hj : j ≤ m) (hO : OwnS w1 wr.heap.size xa xl xc ((al.drop b).drop j)) (hb : Below wr.heap.size wr w1) :
    Kept w ((((w1.setCell ⟨w.heap.size, 0, none⟩ (.int .i64 ((b : Int) + (j : Int)))).setCell ⟨w.heap.size, 1, none⟩ (.slice xa xl xc)).setCell ⟨w.heap.size, 2, none⟩ (.int .i64 K)).setCell ⟨w.heap.size, 3, none⟩ (.bool false)) K (b + j) (m - j) L xa xc va vc al := by
  have hxl : xl = m - j := by
    rw [← hO.len, List.length_drop, hk.len.2]
  obtain ⟨g1, g2, g3, g4, g5, g6, g7⟩ := hk
  have hw : w.heap.size < wr.heap.size := g1.lt
  subst hxl
  have hbx := (g1.later hb).put (.int .i64 ((b : Int) + (j : Int))) (.slice xa (m - j) xc) (.int .i64 K) (.bool false)
  refine ⟨?_, (g2.later hb).put w.heap.size (Nat.lt_succ_self _) _ _ _ _, ?_, g4, by omega, by omega, below_put (Below.on g7 hb) _ (Nat.le_refl _) _ _ _ _⟩
  · rw [Int.natCast_add]; exact hbx
  · have e : al.drop (b + j) = (al.drop b).drop j := by rw [List.drop_drop]
    rw [e]
    exact (hO.put w.heap.size hw _ _ _ _).sl
end Go.Proofs.Ytehdeebpocjobaa
