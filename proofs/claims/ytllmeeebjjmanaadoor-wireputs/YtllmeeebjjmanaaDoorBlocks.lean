/- The contract of readBlocks. -/
import Derived.Test.YtllmeeebjjmanaaDoorWord
namespace Go.Proofs.YtllmeeebjjmanaaDoor
open Go.ChangeShapes Go.WideShapes Go.ChangeAt Go.RowKit Go.Shelf
set_option linter.unusedVariables false

theorem Tryd.info63 : (Tryd.prog.info? 63).map (fun i => (i.zero, i.size, i.bytes)) = some (some (.agg #[.int .u32 0, .int .u32 0]), 2, 8) := by kernel_rfl

/-- The cells of blocks. -/
def bcells (l : List (Int × Int)) : List Value := l.flatMap fun b => [Value.int .u32 b.1, Value.int .u32 b.2]

theorem bcells_len (l : List (Int × Int)) : (bcells l).length = l.length * 2 := by
  induction l with
  | nil => rfl
  | cons a r ih =>
    have : bcells (a :: r) = [Value.int .u32 a.1, Value.int .u32 a.2] ++ bcells r := rfl
    rw [this, List.length_append, ih, List.length_cons]; simp; omega

theorem bcells_at : ∀ (l : List (Int × Int)) (j : Nat), j < l.length → (bcells l)[j * 2]? = some (.int .u32 (l[j]?.getD (0, 0)).1) ∧ (bcells l)[j * 2 + 1]? = some (.int .u32 (l[j]?.getD (0, 0)).2)
  | [], j, h => by simp at h
  | a :: r, 0, _ => by simp [bcells]
  | a :: r, j + 1, h => by
    have : bcells (a :: r) = Value.int .u32 a.1 :: Value.int .u32 a.2 :: bcells r := rfl
    have ih := bcells_at r j (by simpa using h)
    rw [this, show (j + 1) * 2 = j * 2 + 1 + 1 from by omega, show j * 2 + 1 + 1 + 1 = j * 2 + 1 + 1 + 1 from rfl]
    simpa using ih

/-- A slice of blocks that is the call's own. -/
def RowB (w : World) (B : Nat) (va : Option Addr) (L vc : Nat) (l : List (Int × Int)) : Prop :=
  w.ownsRow B 63 2 (.slice va L vc) L (bcells l)

theorem RowB.len {w : World} {B : Nat} {va : Option Addr} {L vc : Nat} {l : List (Int × Int)} (h : RowB w B va L vc l) : l.length = L := by
  have := h.1; rw [bcells_len] at this; omega
theorem RowB.blks {w : World} {B : Nat} {va : Option Addr} {L vc : Nat} {l : List (Int × Int)} (h : RowB w B va L vc l) (hl : l.length ≤ 1000) (hu : ∀ b ∈ l, U32 b.1 ∧ U32 b.2) : BlksAt w va l := by
  have hL := h.len
  refine ⟨by unfold maxLen; omega, hu, fun j hj => ?_⟩
  rcases h.2 with ⟨e, h0⟩ | ⟨g, cap, cur, e, hg, hh, hc, hm, hsz, ht⟩
  · omega
  · cases e
    refine ⟨g, 0, rfl, ?_⟩
    have hat := bcells_at l j hj
    have h2 : ∀ k, k < L * 2 → cur[k]? = (bcells l)[k]? := fun k hk => by
      have : (cur.toList.take (L * 2))[k]? = (bcells l)[k]? := by rw [ht]
      rw [List.getElem?_take_of_lt hk] at this
      simpa using this
    have e1 := h2 (j * 2) (by omega)
    have e2 := h2 (j * 2 + 1) (by omega)
    rw [hat.1] at e1
    rw [hat.2] at e2
    unfold World.cell?
    simp only [hh, Nat.zero_add]
    exact ⟨e1, e2⟩

theorem rdBlk_snoc (n : Nat) (b : List Int) : rdBlk (n + 1) b = rdBlk n b ++ [(longAt (b.drop (8 * n)) 0, longAt (b.drop (8 * n)) 4)] := by
  induction n generalizing b with
  | zero => simp [rdBlk]
  | succ n ih =>
    rw [rdBlk, ih, rdBlk, List.drop_drop, List.cons_append]
    rw [show 8 + 8 * n = 8 * (n + 1) from by omega]

theorem four_cells {w : World} {a : Option Addr} {bs : List Int} (h : BytesAt w a bs) (i : Nat) (hi : i + 3 < bs.length) : ∃ b o, a = some ⟨b, o, none⟩ ∧
    w.cell? ⟨b, o + i, none⟩ = some (.int .u8 (nth bs i)) ∧ w.cell? ⟨b, o + i + 1, none⟩ = some (.int .u8 (nth bs (i + 1))) ∧ w.cell? ⟨b, o + i + 2, none⟩ = some (.int .u8 (nth bs (i + 2))) ∧ w.cell? ⟨b, o + i + 2 + 1, none⟩ = some (.int .u8 (nth bs (i + 2 + 1))) := by
  obtain ⟨b, o, rfl, h0⟩ := h.2.2 i (by omega)
  obtain ⟨_, _, e1, h1⟩ := h.2.2 (i + 1) (by omega)
  obtain ⟨_, _, e2, h2⟩ := h.2.2 (i + 2) (by omega)
  obtain ⟨_, _, e3, h3⟩ := h.2.2 (i + 2 + 1) (by omega)
  cases e1; cases e2; cases e3
  exact ⟨b, o, rfl, h0, h1, h2, h3⟩

/-- long of a slice that holds bytes, at i. -/
theorem long_at (b o n c i : Nat) (bs : List Int) (w : World) (hb : BytesAt w (some ⟨b, o, none⟩) bs) (hi : i + 3 < bs.length) (hn : (3 : Int) < (n : Int)) (hc : (n : Int) ≤ (c : Int)) :
    Calls Tryd.prog 46 #[.slice (some ⟨b, o + i, none⟩) n c] w fun e w' => e = .returned (.int .u32 (longAt bs i)) ∧ ∃ k, w' = w.drewN k := by
  obtain ⟨b', o', e, h0, h1, h2, h3⟩ := four_cells hb i hi
  cases e
  exact long_any b (o + i) n c _ _ _ _ w hn hc h0 h1 h2 h3 (nth_bd hb.2.1 _) (nth_bd hb.2.1 _) (nth_bd hb.2.1 _) (nth_bd hb.2.1 _)
theorem word_at (b o n c i : Nat) (bs : List Int) (w : World) (hb : BytesAt w (some ⟨b, o, none⟩) bs) (hi : i + 1 < bs.length) (hn : (1 : Int) < (n : Int)) :
    Calls Tryd.prog 45 #[.slice (some ⟨b, o + i, none⟩) n c] w fun e w' => e = .returned (.int .i64 (wordAt bs i)) ∧ ∃ k, w' = w.drewN k := by
  obtain ⟨b', o', e, h0⟩ := hb.2.2 i (by omega)
  obtain ⟨b'', o'', e', h1⟩ := hb.2.2 (i + 1) (by omega)
  cases e; cases e'
  exact word_any b (o + i) n c _ _ w hn h0 h1 (nth_bd hb.2.1 _) (nth_bd hb.2.1 _)

theorem RowB.alloc {w : World} {B : Nat} {va : Option Addr} {L vc : Nat} {l : List (Int × Int)} (h : RowB w B va L vc l) (o : Obj) : RowB (w.alloc o) B va L vc l := World.ownsRow.alloc h o
theorem grown_undrawn {w w' : World} {n : Nat} {o : Obj} {r : Option Nat} (h : ((w.drewN n).alloc o).grownBy w' r) : (w.alloc o).grownBy w' r := ⟨h.os, h.tape, h.output, h.size, h.block⟩
theorem two_one {f t : Int} : ∀ u ∈ [Value.int .u32 f, Value.int .u32 t], u.oneCell' = true := by
  intro u hu
  simp only [List.mem_cons, List.not_mem_nil, or_false] at hu
  rcases hu with rfl | rfl <;> rfl
theorem below_appendB {B : Nat} {w wa w' : World} {n vc : Nat} {va : Option Addr} {l : List (Int × Int)} (hB : Below B w wa) (hs : B ≤ wa.heap.size) (ho : RowB wa B va n vc l) (hg : wa.grownBy w' (Value.slice va n vc).ownBlock) : Below B w w' :=
  below_append hB hs ho hg
theorem rowB_snoc {w1 : World} {B g k c : Nat} {body : List Int} {f t : Int} (h : w1.ownsRow B 63 2 (.slice (some ⟨g, 0, none⟩) (k + 1) c) (k + 1) (bcells (rdBlk k body) ++ [.int .u32 f, .int .u32 t])) (hf : longAt (body.drop (8 * k)) 0 = f) (ht : longAt (body.drop (8 * k)) 4 = t) : RowB w1 B (some ⟨g, 0, none⟩) (k + 1) c (rdBlk (k + 1) body) := by
  have e : bcells (rdBlk (k + 1) body) = bcells (rdBlk k body) ++ [.int .u32 f, .int .u32 t] := by
    rw [rdBlk_snoc, hf, ht]; simp [bcells]
  unfold RowB
  rw [e]
  exact h

set_option maxRecDepth 100000 in
set_option maxHeartbeats 2000000 in
theorem readBlocks_any (la : Option Addr) (lc m : Nat) (body : List Int) (w : World) (hb : BytesAt w la body) (hl : body.length = 8 * m) (hc : 8 * m ≤ lc) (hm : m ≤ 4) :
    Calls Tryd.prog 56 #[.slice la (8 * m) lc] w fun e w' => ∃ va vc, e = .returned (.slice va m vc) ∧ RowB w' w.heap.size va m vc (rdBlk m body) ∧ Below w.heap.size w w' := by
  obtain ⟨i0, hi, hz0, hz1, hz2⟩ := info_parts Tryd.info63
  have HB : Hid (BytesAt w la body) := hb
  have HL : Hid (body.length = 8 * m) := hl
  clear hb hl
  go_enter Tryd.func56, Tryd.ntmps56
  go_wp2_with fail
  go_loopw [0, 3] (fun vb v wr => ∃ (k xl : Nat) (x : Option Addr) (xc : Nat) (va : Option Addr) (vc : Nat), vb = .slice x xl xc ∧ v = .slice va k vc ∧ k ≤ m ∧ Hid (xl = 8 * (m - k)) ∧ xl ≤ xc ∧ Hid (BytesAt w x (body.drop (8 * k))) ∧ Hid (RowB wr w.heap.size va k vc (rdBlk k body)) ∧ Below w.heap.size w wr)
    (fun vb _ _ => lenOf vb)
  case atStart => exact ⟨0, 8 * m, la, lc, none, 0, rfl, rfl, Nat.zero_le _, rfl, hc, HB.out, World.ownsRow_nil _ _ _ _, Below.refl _ _⟩
  case round =>
    obtain ⟨k, xl, x, xc, va, vc, rfl, rfl, hk, HX, hxc, HBx, HR, hB⟩ := hrel
    have hBs := hB.size
    by_cases hlt : k < m
    · have hxl : 8 ≤ xl := by have := HX.out; omega
      have hxm : xl ≤ 32 := by have := HX.out; omega
      have hdl : (body.drop (8 * k)).length = xl := by rw [List.length_drop, HL.out, HX.out]; omega
      obtain ⟨b, o, rfl, _⟩ := HBx.out.2.2 0 (by omega)
      have hp : (0 : Int) < (xl : Int) := by omega
      have hsl := sl_l (some ⟨b, o, none⟩) xl xc 4 4 rfl (by omega)
      rw [cutA_some b o xc 4 (by omega)] at hsl
      have hsl8 := sl_l (some ⟨b, o, none⟩) xl xc 8 8 rfl (by omega)
      obtain ⟨y, hy⟩ : ∃ y, cutA (some ⟨b, o, none⟩) xc 8 = y := ⟨_, rfl⟩
      obtain ⟨yl, hyl⟩ : ∃ yl, xl - 8 = yl := ⟨_, rfl⟩
      obtain ⟨yc, hyc⟩ : ∃ yc, xc - 8 = yc := ⟨_, rfl⟩
      have HY : Hid (BytesAt w y (body.drop (8 * (k + 1)))) := by
        have := bytes_from HBx.out 8 (by omega) xc (by omega)
        rw [hy, List.drop_drop] at this
        rw [show 8 * (k + 1) = 8 * k + 8 from by omega]
        exact this
      rw [hy, hyl, hyc] at hsl8
      obtain ⟨zl, hzl⟩ : ∃ zl, xl - 4 = zl := ⟨_, rfl⟩
      obtain ⟨zc, hzc⟩ : ∃ zc, xc - 4 = zc := ⟨_, rfl⟩
      rw [hzl, hzc] at hsl
      have hz4 : 4 ≤ zl ∧ zl ≤ zc := by omega
      have hyx : yl ≤ yc := by omega
      have HYL : Hid (yl = 8 * (m - (k + 1)) ∧ yl < xl) := ⟨by have := HX.out; omega, by omega⟩
      have hbw : Hid (BytesAt wr (some ⟨b, o, none⟩) (body.drop (8 * k))) := HBx.out.below hB (Nat.le_refl _)
      have HDL : Hid ((body.drop (8 * k)).length = xl) := hdl
      obtain ⟨f, hf⟩ : ∃ f, longAt (body.drop (8 * k)) 0 = f := ⟨_, rfl⟩
      obtain ⟨t, ht⟩ : ∃ t, longAt (body.drop (8 * k)) 4 = t := ⟨_, rfl⟩
      have HFT : Hid (longAt (body.drop (8 * k)) 0 = f ∧ longAt (body.drop (8 * k)) 4 = t) := ⟨hf, ht⟩
      have L1 : Hid (∀ j, Calls Tryd.prog 46 #[.slice (some ⟨b, o, none⟩) xl xc] (wr.drewN j) fun e w' => e = .returned (.int .u32 f) ∧ ∃ i, w' = (wr.drewN j).drewN i) := fun j => by
        have := long_at b o xl xc 0 _ (wr.drewN j) hbw.out (by omega) (by omega) (by omega)
        rw [hf] at this
        exact this
      have L2 : Hid (∀ j, Calls Tryd.prog 46 #[.slice (some ⟨b, o + 4, none⟩) zl zc] (wr.drewN j) fun e w' => e = .returned (.int .u32 t) ∧ ∃ i, w' = (wr.drewN j).drewN i) := fun j => by
        have := long_at b o zl zc 4 _ (wr.drewN j) hbw.out (by omega) (by omega) (by omega)
        rw [ht] at this
        exact this
      clear hy hyl hyc hzl hzc hf ht hdl hbw HBx
      go_upto_region 4 with fail
      go_region_held3 (fun w' => True) (exact trivial)
        (first
          | (refine step_append_lies _ rfl (.tmp 9) (.tmp 16) 23 rfl w.heap.size 63 i0 (.agg #[.int .u32 0, .int .u32 0]) 2 8 Tryd.underlying23 hi hz0 hz1 hz2 rfl (by decide) (.slice va k vc) k (bcells (rdBlk k body)) rfl (RowB.alloc HR.out _) ⟨wr.heap.size, 0, none⟩ 1 1 [.int .u32 f, .int .u32 t] rfl rfl (cells_new wr [.int .u32 f, .int .u32 t] 63) two_one (by decide) (by unfold maxLen; omega) (by omega) (by show w.heap.size ≤ (wr.alloc (.cells #[.int .u32 f, .int .u32 t] 63)).heap.size; simp; omega) _ rfl ?_; intro g1 c1 w1 hown1 hg1 _ _; have hb1 : Below w.heap.size w w1 := below_appendB (hB.alloc hBs (.cells #[.int .u32 f, .int .u32 t] 63)) (by simp; omega) (RowB.alloc HR.out _) (grown_undrawn hg1); have hR1 : Hid (RowB w1 w.heap.size (some ⟨g1, 0, none⟩) (k + 1) c1 (rdBlk (k + 1) body)) := rowB_snoc hown1 HFT.out.1 HFT.out.2; clear hg1 hown1)
          | (go_at_call_of 46 zl; refine (L2.out _).mono ?_; rintro e w' ⟨rfl, i, rfl⟩)
          | (go_at_call_of 46 xl; refine (L1.out 1).mono ?_; rintro e w' ⟨rfl, i, rfl⟩))
      go_wp2_with fail
      go_roundw
      case rel => exact ⟨k + 1, yl, y, yc, _, _, rfl, rfl, by omega, HYL.out.1, hyx, HY.out, hR1.out, hb1⟩
      case measure => simp [lenOf]; exact HYL.out.2
    · obtain rfl : k = m := by omega
      obtain rfl : xl = 0 := by have := HX.out; omega
      go_wp2_with fail
      go_ret
      exact ⟨_, _, rfl, HR.out, hB⟩
end Go.Proofs.YtllmeeebjjmanaaDoor
