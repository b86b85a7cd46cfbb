/- The contract of read: of bytes that are a segment, of too few, of a wrong sum. -/
import Derived.Test.YtllmeeebjjmanaaDoorRdOpts
namespace Go.Proofs.YtllmeeebjjmanaaDoor
open Go.ChangeShapes Go.WideShapes Go.ChangeAt Go.RowKit Go.Shelf
set_option linter.unusedVariables false

theorem alloc_drewN (w : World) (n : Nat) (o : Obj) : (w.drewN n).alloc o = (w.alloc o).drewN n := rfl
theorem setCell_drewN (w : World) (n : Nat) (a : Addr) (v : Value) : (w.drewN n).setCell a v = (w.setCell a v).drewN n := rfl
attribute [local go_sem] alloc_drewN setCell_drewN

theorem app_zero (zx : Option Addr) (zc : Nat) (ty : TypeId) (w : World) : (Builtin.append_ #[24, 24] ty #[.slice none 0 0, .slice zx 0 zc]).run Tryd.prog w = .ok (.slice none 0 0) w := by
  cases zx <;> kernel_rfl
theorem step_append_zero {P : Program} (w : World) {ops : Array Oper} {o : Oper} {a : Act} {K : Act → World → Prop} {Q : Exit → Act → World → Prop} {E : Prop} (hgd : o.guard = none) (s x : Operand) (t : TypeId)
    (ho : o.op = .call { callee := .builtin .append, args := #[s, x], argTypes := #[t, t] }) (zx : Option Addr) (zc : Nat) (hs : a.eval s = .slice none 0 0) (hx : a.eval x = .slice zx 0 zc)
    (hr : ∀ ty, (Builtin.append_ #[t, t] ty #[.slice none 0 0, .slice zx 0 zc]).run P w = .ok (.slice none 0 0) w) (h : K (a.put o.dst (.slice none 0 0)) w) :
    if Region.wanted o (yielded ops a.tmps) = true then Oper.wp P o a w K Q else E := by
  have hw : Region.wanted o (yielded ops a.tmps) = true := by simp [Region.wanted, hgd]
  rw [if_pos hw]
  unfold Oper.wp execOp
  simp only [ho, resolve, invoke, builtin, Sem.run_bind, Sem.run_pure, Result.andThen_ok, List.map_toArray, List.map_cons, List.map_nil, hs, hx, hr]
  exact h

theorem row_nil {wa : World} {B g n c : Nat} {tl : List Int} (h : wa.ownsRow B 5 1 (.slice (some ⟨g, 0, none⟩) (0 + n) c) (0 + n) ([] ++ tl.map (Value.int .u8))) : Row wa B (some ⟨g, 0, none⟩) n c tl := by
  rw [Nat.zero_add, List.nil_append] at h
  exact h
theorem Row.ge {w : World} {B g n c : Nat} {tl : List Int} (h : Row w B (some ⟨g, 0, none⟩) n c tl) : B ≤ g := by
  rcases h.2 with ⟨e, _⟩ | ⟨g', c', cur, e, hb, _⟩
  · cases e
  · cases e; exact hb

theorem below_setq {w2 w : World} (h : Below w2.heap.size w2 w) (k : Nat) (v : Value) : Below w2.heap.size w2 (w.setCell ⟨w2.heap.size, k, none⟩ v) :=
  h.setCell (p := ⟨w2.heap.size, k, none⟩) (Nat.le_refl _) v

theorem blks_none (w : World) : BlksAt w none [] := ⟨by simp, by simp, fun j hj => by simp at hj⟩

theorem box_cells {w : World} {p : Nat} {cs : Array Value} {t : TypeId} (h : w.heap[p]? = some (.cells cs t)) (k : Nat) : w.cell? ⟨p, k, none⟩ = cs[k]? := by
  simp [World.cell?, h]

theorem q_kept {w2 wa : World} {Z : Array Value} {i g1 : Nat} (hg : ((w2.alloc (.cells Z 26)).drewN i).grownBy wa (Value.slice none 0 0).ownBlock) (hat : (Value.slice none 0 0).ownBlock = some g1 ∨ g1 = ((w2.alloc (.cells Z 26)).drewN i).heap.size) :
    wa.heap[w2.heap.size]? = some (.cells Z 26) ∧ g1 ≠ w2.heap.size := by
  have hs : ((w2.alloc (.cells Z 26)).drewN i).heap.size = w2.heap.size + 1 := by simp
  refine ⟨(hg.block w2.heap.size (by omega) (by simp [Value.ownBlock])).trans (World.alloc_heap_new w2 _), ?_⟩
  rcases hat with h | h
  · simp [Value.ownBlock] at h
  · omega

theorem below_drewN {B : Nat} {a w : World} (h : Below B a w) (n : Nat) : Below B a (w.drewN n) := ⟨h.os, h.tape, h.output, h.size, h.block⟩
theorem below_more {a w : World} (h : Below a.heap.size a w) (o : Obj) : Below a.heap.size a (w.alloc o) := h.alloc h.size o

set_option maxRecDepth 100000 in
set_option maxHeartbeats 1000000 in
theorem read_short (b : Option Addr) (n c : Nat) (src dst : Int) (w : World) (hn : n < 20) :
    Calls Tryd.prog 34 #[.slice b n c, .int .u32 src, .int .u32 dst] w fun e w' => e = .panicked (upC 8) ∧ Below w.heap.size w w' := by
  have hd : decide ((20 : Int) ≤ (n : Int)) = false := by simp; omega
  go_enter Tryd.func34, Tryd.ntmps34
  go_wp2_with (go_at_call_of 43 false; refine (must_no _ _).mono ?_; rintro e w' ⟨rfl, rfl⟩)
  exact ⟨rfl, rfl, (Below.refl _ w).alloc (Nat.le_refl _) _⟩

/-- What getI tells of bytes that are a segment. -/
theorem get_ok {b : List Int} {src dst : Int} {S : Seg} (h : getI b src dst = (0, S)) :
    20 ≤ b.length ∧ 20 ≤ offI b ∧ offI b ≤ b.length ∧ sumI (pseudoI src dst b.length ++ b) = 0 ∧ b.length - offI b ≤ 65000 ∧ rdI (segI b) ((b.take (offI b)).drop 20) = some S := by
  unfold getI at h
  split at h
  · simp at h
  split at h
  · simp at h
  split at h
  · simp at h
  split at h
  · simp at h
  split at h
  · simp at h
  split at h
  · simp at h
  · rename_i h1 h2 h3 h4 h5 _ s hs
    have : s = S := by simpa using h
    subst this
    exact ⟨by omega, by omega, by omega, by simpa using h4, by omega, hs⟩

theorem i64_small {x : Int} (h : 0 ≤ x ∧ x ≤ 255) : IntKind.i64.wrap x = x := i64w h.1 (by omega)

/-- The variable just made holds what the header's bytes say, and no data. -/
theorem seg_new {w2 : World} {bs tl : List Int} {off : Nat} {x13 : Int} {zx : Option Addr} (hx : nth bs 13 = x13) (ht : bs.drop off = tl) (hl : tl.length = 0) (hb : 0 ≤ x13 ∧ x13 ≤ 255) (hby : BytesAt w2 zx tl) (n : Nat) (ho : offI bs = off) :
    Hid (SegCells ((w2.alloc (.cells #[.int .i64 (wordAt bs 0), .int .i64 (wordAt bs 2), .int .u32 (longAt bs 4), .int .u32 (longAt bs 8), .int .i64 (IntKind.i64.wrap x13), .int .i64 (wordAt bs 14), .int .i64 (wordAt bs 18), .int .i64 (-1), .int .i64 (-1), .bool false, .bool false, .int .u32 0, .int .u32 0, .slice none 0 0, .slice none 0 0] 26)).drewN n) w2.heap.size (segI bs) none 0 none 0 ∧ BytesAt ((w2.alloc (.cells #[.int .i64 (wordAt bs 0), .int .i64 (wordAt bs 2), .int .u32 (longAt bs 4), .int .u32 (longAt bs 8), .int .i64 (IntKind.i64.wrap x13), .int .i64 (wordAt bs 14), .int .i64 (wordAt bs 18), .int .i64 (-1), .int .i64 (-1), .bool false, .bool false, .int .u32 0, .int .u32 0, .slice none 0 0, .slice none 0 0] 26)).drewN n) none tl ∧ (∀ x : Addr, none = some x → x.block ≠ w2.heap.size) ∧ ((none : Option Addr) = none → 0 = 0) ∧ w2.heap.size ≤ w2.heap.size ∧ Below w2.heap.size w2 ((w2.alloc (.cells #[.int .i64 (wordAt bs 0), .int .i64 (wordAt bs 2), .int .u32 (longAt bs 4), .int .u32 (longAt bs 8), .int .i64 (IntKind.i64.wrap x13), .int .i64 (wordAt bs 14), .int .i64 (wordAt bs 18), .int .i64 (-1), .int .i64 (-1), .bool false, .bool false, .int .u32 0, .int .u32 0, .slice none 0 0, .slice none 0 0] 26)).drewN n)) := by
  have htl : tl = [] := List.eq_nil_of_length_eq_zero hl
  refine ⟨?_, ⟨by rw [htl]; simp, by rw [htl]; intro x hx; simp at hx, fun j hj => by rw [htl] at hj; simp at hj⟩, fun x h => (by cases h), fun _ => rfl, Nat.le_refl _, below_drewN (below_more (Below.refl _ _) _) _⟩
  have := World.alloc_heap_new w2 (.cells #[.int .i64 (wordAt bs 0), .int .i64 (wordAt bs 2), .int .u32 (longAt bs 4), .int .u32 (longAt bs 8), .int .i64 (IntKind.i64.wrap x13), .int .i64 (wordAt bs 14), .int .i64 (wordAt bs 18), .int .i64 (-1), .int .i64 (-1), .bool false, .bool false, .int .u32 0, .int .u32 0, .slice none 0 0, .slice none 0 0] 26)
  unfold SegCells segV segI
  rw [ho, ht, hl, hx]
  rw [i64_small hb] at this ⊢
  exact this

/-- Cells of one block, one after another. -/
def setAll (w : World) (p : Nat) (l : List (Nat × Value)) : World := l.foldl (fun w x => w.setCell ⟨p, x.1, none⟩ x.2) w

theorem setAll_heap : ∀ (l : List (Nat × Value)) {w : World} {p : Nat} {cs : Array Value} {t : TypeId}, w.heap[p]? = some (.cells cs t) → (setAll w p l).heap[p]? = some (.cells (l.foldl (fun cs x => cs.setIfInBounds x.1 x.2) cs) t)
  | [], _, _, _, _, h => h
  | x :: r, w, p, cs, t, h => by
    have := setAll_heap r (seg_set h x.1 x.2)
    exact this
theorem setAll_but : ∀ (l : List (Nat × Value)) (w : World) (p : Nat), But p w (setAll w p l)
  | [], w, p => But.refl _ _
  | x :: r, w, p => (But.setCell p w x.1 x.2).trans (setAll_but r _ p)

/-- The cells that the header's bytes say. -/
def headV (bs : List Int) (x13 : Int) (dv : Value) : List (Nat × Value) :=
  [(0, .int .i64 (wordAt bs 0)), (1, .int .i64 (wordAt bs 2)), (2, .int .u32 (longAt bs 4)), (3, .int .u32 (longAt bs 8)), (4, .int .i64 (IntKind.i64.wrap x13)), (5, .int .i64 (wordAt bs 14)), (6, .int .i64 (wordAt bs 18)), (7, .int .i64 (-1)), (8, .int .i64 (-1)), (9, .bool false), (10, .bool false), (11, .int .u32 0), (12, .int .u32 0), (13, .slice none 0 0), (14, dv)]

/-- What stands behind the header's reading. -/
def HeadAt (w2 wr : World) (bs tl : List Int) (q : Nat) (da : Option Addr) (dc : Nat) : Prop :=
  SegCells wr q (segI bs) none 0 da dc ∧ BytesAt wr da tl ∧ (∀ x, da = some x → x.block ≠ q ∧ w2.heap.size ≤ x.block) ∧ (da = none → dc = 0) ∧ w2.heap.size ≤ q ∧ Below w2.heap.size w2 wr

theorem head_none {w2 : World} {bs tl : List Int} {off : Nat} {x13 : Int} {zx : Option Addr} (hx : nth bs 13 = x13) (ht : bs.drop off = tl) (hl : tl.length = 0) (hb : 0 ≤ x13 ∧ x13 ≤ 255) (hby : BytesAt w2 zx tl) (n : Nat) (ho : offI bs = off) :
    HeadAt w2 ((w2.alloc (.cells #[.int .i64 (wordAt bs 0), .int .i64 (wordAt bs 2), .int .u32 (longAt bs 4), .int .u32 (longAt bs 8), .int .i64 (IntKind.i64.wrap x13), .int .i64 (wordAt bs 14), .int .i64 (wordAt bs 18), .int .i64 (-1), .int .i64 (-1), .bool false, .bool false, .int .u32 0, .int .u32 0, .slice none 0 0, .slice none 0 0] 26)).drewN n) bs tl w2.heap.size none 0 := by
  obtain ⟨h1, h2, h3, h4, h5, h6⟩ := (seg_new hx ht hl hb hby n ho).out
  exact ⟨h1, h2, fun x h => (by cases h), h4, h5, h6⟩

theorem seg_head {bs tl : List Int} {off zl c1 : Nat} {x13 : Int} {da : Option Addr} (hx : nth bs 13 = x13) (ht : bs.drop off = tl) (hl : tl.length = zl) (hb : 0 ≤ x13 ∧ x13 ≤ 255) (ho : offI bs = off) :
    segV (segI bs) none 0 da c1 = #[.int .i64 (wordAt bs 0), .int .i64 (wordAt bs 2), .int .u32 (longAt bs 4), .int .u32 (longAt bs 8), .int .i64 (IntKind.i64.wrap x13), .int .i64 (wordAt bs 14), .int .i64 (wordAt bs 18), .int .i64 (-1), .int .i64 (-1), .bool false, .bool false, .int .u32 0, .int .u32 0, .slice none 0 0, .slice da zl c1] := by
  unfold segV segI
  rw [ho, ht, hl, hx, i64_small hb]
  rfl

theorem head_last {w2 wa : World} {bs tl : List Int} {off zl g1 c1 : Nat} {x13 : Int} (hx : nth bs 13 = x13) (ht : bs.drop off = tl) (hl : tl.length = zl) (hz : zl ≤ 65000) (hb : 0 ≤ x13 ∧ x13 ≤ 255) (ho : offI bs = off) (hy : Byts tl) (hR : Row wa w2.heap.size (some ⟨g1, 0, none⟩) zl c1 tl) (hg : w2.heap.size ≤ g1 ∧ g1 < wa.heap.size) (hB : Below w2.heap.size w2 wa) :
    HeadAt w2 (wa.alloc (.cells #[.int .i64 (wordAt bs 0), .int .i64 (wordAt bs 2), .int .u32 (longAt bs 4), .int .u32 (longAt bs 8), .int .i64 (IntKind.i64.wrap x13), .int .i64 (wordAt bs 14), .int .i64 (wordAt bs 18), .int .i64 (-1), .int .i64 (-1), .bool false, .bool false, .int .u32 0, .int .u32 0, .slice none 0 0, .slice (some ⟨g1, 0, none⟩) zl c1] 26)) bs tl wa.heap.size (some ⟨g1, 0, none⟩) c1 := by
  refine ⟨?_, (hR.alloc _).bytes hy (by rw [hl]; unfold maxLen; omega), fun x h => ?_, fun h => (by cases h), hB.size, below_more hB _⟩
  · unfold SegCells
    rw [seg_head hx ht hl hb ho]
    exact World.alloc_heap_new wa _
  · cases h
    exact ⟨by show g1 ≠ _; omega, hg.1⟩

theorem head_late {w2 wa : World} {bs tl : List Int} {off zl g1 c1 : Nat} {x13 : Int} (hx : nth bs 13 = x13) (ht : bs.drop off = tl) (hl : tl.length = zl) (hz : zl ≤ 65000) (hb : 0 ≤ x13 ∧ x13 ≤ 255) (ho : offI bs = off) (hy : Byts tl) (hR : Row wa w2.heap.size (some ⟨g1, 0, none⟩) zl c1 tl) (hg : w2.heap.size ≤ g1 ∧ g1 < wa.heap.size) (hB : Below w2.heap.size w2 wa)
    (hq : wa.heap[w2.heap.size]? = some (.cells #[.int .i64 0, .int .i64 0, .int .u32 0, .int .u32 0, .int .i64 0, .int .i64 0, .int .i64 0, .int .i64 0, .int .i64 0, .bool false, .bool false, .int .u32 0, .int .u32 0, .slice none 0 0, .slice none 0 0] 26) ∧ g1 ≠ w2.heap.size) :
    HeadAt w2 (setAll wa w2.heap.size (headV bs x13 (.slice (some ⟨g1, 0, none⟩) zl c1))) bs tl w2.heap.size (some ⟨g1, 0, none⟩) c1 := by
  have hbut := setAll_but (headV bs x13 (.slice (some ⟨g1, 0, none⟩) zl c1)) wa w2.heap.size
  refine ⟨?_, (hR.bytes hy (by rw [hl]; unfold maxLen; omega)).but hbut (fun x h => by cases h; exact hq.2), fun x h => ?_, fun h => (by cases h), Nat.le_refl _, ?_⟩
  · unfold SegCells
    rw [seg_head hx ht hl hb ho]
    have := setAll_heap (headV bs x13 (.slice (some ⟨g1, 0, none⟩) zl c1)) hq.1
    simp only [headV, List.foldl_cons, List.foldl_nil, List.setIfInBounds_toArray, List.set_cons_zero, List.set_cons_succ] at this
    exact this
  · cases h
    exact ⟨hq.2, hg.1⟩
  · exact hB.trans (hbut.below (Nat.le_refl _) hB.size)

theorem opt1_da {s s' : Seg} {k : Int} {b : List Int} (h : opt1 s k b = some s') : s'.da = s.da := by
  unfold opt1 at h
  split at h
  · split at h <;> simp at h; subst h; rfl
  split at h
  · split at h <;> simp at h; subst h; rfl
  split at h
  · split at h <;> simp at h; subst h; rfl
  split at h
  · split at h <;> simp at h; subst h; rfl
  split at h
  · split at h <;> simp at h; subst h; rfl
  · simp at h; subst h; rfl

theorem ropt_da : ∀ (n : Nat) {s s' : Seg} {l : List Int}, ropt n s l = some s' → s'.da = s.da
  | 0, s, s', l, h => by simp [ropt] at h; subst h; rfl
  | n + 1, s, s', l, h => by
    simp only [ropt, roptS] at h
    split at h
    · simp at h; subst h; rfl
    split at h
    · exact ropt_da n h
    split at h
    · simp at h
    · obtain ⟨t, h1, h2⟩ := Option.bind_eq_some_iff.1 h
      rw [ropt_da n h2, opt1_da h1]
theorem rd_da {s s' : Seg} {l : List Int} (h : rdI s l = some s') : s'.da = s.da := ropt_da _ h

/-- The fields of a segment, cell by cell. -/
def segL (s : Seg) (ka : Option Addr) (kc : Nat) (da : Option Addr) (dc : Nat) : List (Nat × Value) :=
  [(0, .int .i64 s.sp), (1, .int .i64 s.dp), (2, .int .u32 s.sq), (3, .int .u32 s.ak), (4, .int .i64 s.fl), (5, .int .i64 s.wn), (6, .int .i64 s.ur), (7, .int .i64 s.ms), (8, .int .i64 s.sc), (9, .bool s.so), (10, .bool s.st), (11, .int .u32 s.va), (12, .int .u32 s.ec), (13, .slice ka s.sk.length kc), (14, .slice da s.da.length dc)]

theorem setAll_seg {w : World} {p : Nat} (h : w.heap[p]? = some (.cells (segV zeroS none 0 none 0) 26)) (s : Seg) (ka : Option Addr) (kc : Nat) (da : Option Addr) (dc : Nat) : SegCells (setAll w p (segL s ka kc da dc)) p s ka kc da dc := by
  have := setAll_heap (segL s ka kc da dc) h
  simp only [segL, segV, zeroS, List.foldl_cons, List.foldl_nil, List.setIfInBounds_toArray, List.set_cons_zero, List.set_cons_succ] at this
  exact this

set_option maxRecDepth 100000 in
set_option maxHeartbeats 2000000 in
theorem read_sum (b o n c : Nat) (bs : List Int) (src dst : Int) (w : World) (hb : BytesAt w (some ⟨b, o, none⟩) bs) (hn : bs.length = n) (h20 : 20 ≤ n) (ho1 : 20 ≤ offI bs) (ho2 : offI bs ≤ n) (hs : U32 src) (hd : U32 dst) (hsum : (sumI (pseudoI src dst n ++ bs) == 0) = false) :
    Calls Tryd.prog 34 #[.slice (some ⟨b, o, none⟩) n c, .int .u32 src, .int .u32 dst] w fun e w' => e = .panicked (upC 11) ∧ Below w.heap.size w w' := by
  obtain ⟨W0, hW0⟩ : ∃ W0, w.alloc (.cells (segV zeroS none 0 none 0) 26) = W0 := ⟨_, rfl⟩
  have hsz : W0.heap.size = w.heap.size + 1 := by rw [← hW0]; simp
  have hblk0 : Hid (W0.heap[w.heap.size]? = some (.cells (segV zeroS none 0 none 0) 26)) := by rw [← hW0]; exact World.alloc_heap_new w _
  have b0 : Below w.heap.size w W0 := by rw [← hW0]; exact (Below.refl _ w).alloc (Nat.le_refl _) _
  have hb0 := hb.below b0 (Nat.le_refl _)
  obtain ⟨_, _, e12, c12⟩ := hb0.2.2 12 (by omega)
  cases e12
  have c12' : W0.cell? ⟨b, o + 12, none⟩ = some (.int .u8 (nth bs 12)) := c12
  have hb12 := nth_bd hb.2.1 12
  obtain ⟨x12, hx12⟩ : ∃ x, nth bs 12 = x := ⟨_, rfl⟩
  rw [hx12] at c12' hb12
  obtain ⟨off, hoff⟩ : ∃ off, offI bs = off := ⟨_, rfl⟩
  have hoffx : 4 * (x12 / 16) = (off : Int) := by rw [← hoff, offI, hx12]; omega
  rw [hoff] at ho1 ho2
  have hof60 : off ≤ 60 := by omega
  have HNN : Hid (bs.length = n) := hn
  have HSUM : Hid ((sumI (pseudoI src dst (n : Int) ++ bs) == 0) = false) := hsum
  have HB0 : Hid (BytesAt W0 (some ⟨b, o, none⟩) bs) := hb0
  have HS : Hid (U32 src ∧ U32 dst) := ⟨hs, hd⟩
  have HBE : Hid (Below w.heap.size w W0) := b0
  have k1 : (20 : Int) ≤ (n : Int) := by omega
  have k13 : (13 : Int) < (n : Int) := by omega
  have k2 : (20 : Int) ≤ (off : Int) := by omega
  have k3 : (off : Int) ≤ (n : Int) := by omega
  clear hn hoff hb0 hb hs hd hsum b0 c12 hx12
  unfold segV zeroS at hW0
  dsimp only [List.length_nil] at hW0
  go_enter Tryd.func34, Tryd.ntmps34
  go_wp2_with (go_at_call_of 43 true; refine (must_ok _ _).mono ?_; rintro e w' ⟨rfl, rfl⟩)
  refine (pseudo_any src dst (n : Int) _ HS.out.1 HS.out.2).mono ?_
  rintro e w1 ⟨pa, pc, rfl, hpb, hB1⟩
  have HB1 : Hid (BytesAt w1 (some ⟨b, o, none⟩) bs) := HB0.out.below hB1 (Nat.le_refl _)
  have hP := parts_new w1 [(pa, pseudoI src dst (n : Int), pc), (some ⟨b, o, none⟩, bs, c)] (by simp [maxLen]) (fun v hv => by
    simp only [List.mem_cons, List.not_mem_nil, or_false] at hv
    rcases hv with rfl | rfl
    · exact hpb
    · exact HB1.out)
  have hP' : PartsAt (w1.alloc (.cells #[.slice pa 12 pc, .slice (some ⟨b, o, none⟩) n c] 24)) (some ⟨w1.heap.size, 0, none⟩) [pseudoI src dst (n : Int), bs] := by
    have := hP
    simp only [List.map_cons, List.map_nil, HNN.out, pseudo_len] at this
    exact this
  have HP : Hid (PartsAt (w1.alloc (.cells #[.slice pa 12 pc, .slice (some ⟨b, o, none⟩) n c] 24)) (some ⟨w1.heap.size, 0, none⟩) [pseudoI src dst (n : Int), bs]) := hP'
  have HB1' : Hid (Below _ _ w1) := hB1
  clear hP hP' hpb hB1 c12'
  clear hW0
  go_wp2_with fail
  refine (valid_any _ _ [pseudoI src dst (n : Int), bs] _ HP.out).mono ?_
  rintro e w2 ⟨he, hB2⟩
  have he' : [pseudoI src dst (n : Int), bs].flatten = pseudoI src dst (n : Int) ++ bs := by simp
  rw [he', HSUM.out] at he
  subst he
  go_wp2_with (go_at_call_of 43 false; refine (must_no _ _).mono ?_; rintro e w' ⟨rfl, rfl⟩)
  have hx : Below _ _ w1 := HB1'.out
  exact ⟨rfl, rfl, (HBE.out.trans ((below_more hx _).trans (hB2.mono (by have := hx.size; simp; omega)) |>.mono HBE.out.size))⟩

end Go.Proofs.YtllmeeebjjmanaaDoor
