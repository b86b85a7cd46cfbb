/- The contract of renewed: datagrams as new memory, down to their bytes. -/
import Derived.Test.YtkbgpbhlcmainaaWo
namespace Go.Proofs.Ytkbgpbhlcmainaa
open Go.ChangeShapes Go.WideShapes Go.ChangeAt Go.RowKit
set_option linter.unusedVariables false

theorem RowE.cellE {w : World} {B g L vc : Nat} {es : List En} (h : RowE w B (some ⟨g, 0, none⟩) L vc es) (j : Nat) (hj : j < L) : (∃ u, w.cell? ⟨g, j * 2, none⟩ = some u) ∧ (∃ u, w.cell? ⟨g, j * 2 + 1, none⟩ = some u) := by
  have hL := h.len
  have hat := ecells_at es j es[j] (List.getElem?_eq_getElem (by omega))
  exact ⟨⟨_, by rw [World.ownsRow.cellAt h (j * 2) (by omega)]; exact hat.1⟩, ⟨_, by rw [World.ownsRow.cellAt h (j * 2 + 1) (by omega)]; exact hat.2⟩⟩
theorem RowE.frozen {w : World} {B g L vc : Nat} {es : List En} (h : RowE w B (some ⟨g, 0, none⟩) L vc es) (j : Nat) : w.frozen? ⟨g, j, none⟩ = false := World.ownsRow.frozenAt h j
theorem RowE.set {w : World} {B g L vc : Nat} {es : List En} (h : RowE w B (some ⟨g, 0, none⟩) L vc es) (j : Nat) (x : En) : RowE ((w.setCell ⟨g, j * 2, none⟩ (.slice x.a x.bs.length x.c)).setCell ⟨g, j * 2 + 1, none⟩ (.int .i64 x.t)) B (some ⟨g, 0, none⟩) L vc (es.set j x) := by
  have h1 := (World.ownsRow.stored h (j * 2) (.slice x.a x.bs.length x.c)).1
  have h2 := (World.ownsRow.stored h1 (j * 2 + 1) (.int .i64 x.t)).1
  unfold RowE
  rw [ecells_set]
  exact h2
theorem RowE.ge {w : World} {B g L vc : Nat} {es : List En} (h : RowE w B (some ⟨g, 0, none⟩) L vc es) : B ≤ g := by
  rcases h.at with e | ⟨g', e, hB, _⟩
  · cases e
  · cases e; exact hB
/-- Bytes of one's own in another block than the row's. -/
theorem Row.beside {w : World} {B g : Nat} {va : Option Addr} {L vc : Nat} {bs : List Int} {cur : Array Value} (h : Row w B va L vc bs) (hg : w.heap[g]? = some (.cells cur 26 (0, 0))) (j : Nat) (u : Value) : Row (w.setCell ⟨g, j, none⟩ u) B va L vc bs := by
  refine ⟨h.1, ?_⟩
  rcases h.2 with h' | ⟨g', c, cur', e, hB, hh, r⟩
  · exact .inl h'
  · refine .inr ⟨g', c, cur', e, hB, (Below.heap_setCell w ⟨g, j, none⟩ u g' (fun e' => ?_)).trans hh, r⟩
    subst e'
    rw [hg] at hh
    cases hh
theorem RowE.obj {w : World} {B g L vc : Nat} {es : List En} (h : RowE w B (some ⟨g, 0, none⟩) L vc es) : ∃ cur, w.heap[g]? = some (.cells cur 26 (0, 0)) := by
  rcases h.at with e | ⟨g', e, _, _, hc⟩
  · cases e
  · cases e; exact hc
theorem Row.beside2 {w : World} {B B' g L' vc' : Nat} {es : List En} {va : Option Addr} {L vc : Nat} {bs : List Int} (h : Row w B va L vc bs) (hE : RowE w B' (some ⟨g, 0, none⟩) L' vc' es) (j k : Nat) (u v : Value) : Row ((w.setCell ⟨g, j, none⟩ u).setCell ⟨g, k, none⟩ v) B va L vc bs := by
  obtain ⟨cur, hc⟩ := hE.obj
  exact (h.beside hc j u).beside (setCell_block w ⟨g, j, none⟩ u cur 26 (0, 0) rfl hc) k v

/-- What a datagram of one's own is. -/
def En.mine (w : World) (B : Nat) (x : En) : Prop := Row w B x.a x.bs.length x.c x.bs ∧ Byts x.bs ∧ x.bs.length ≤ 140737488351232 ∧ I64 x.t
theorem En.mine.later {w w' : World} {B : Nat} {x : En} (h : x.mine w B) (hb : Below w.heap.size w w') : x.mine w' B := ⟨h.1.later hb, h.2⟩
theorem En.mine.beside2 {w : World} {B B' g L' vc' : Nat} {es : List En} {x : En} (h : x.mine w B) (hE : RowE w B' (some ⟨g, 0, none⟩) L' vc' es) (j k : Nat) (u v : Value) : x.mine ((w.setCell ⟨g, j, none⟩ u).setCell ⟨g, k, none⟩ v) B := ⟨h.1.beside2 hE j k u v, h.2⟩
def Parted (es : List En) : Prop := es.Pairwise fun x y => y.a = none ∨ x.a ≠ y.a
theorem parted_snoc {w : World} {B : Nat} {es : List En} {x : En} (h : Parted es) (hes : ∀ y ∈ es, y.mine w B) {w' : World} (hx : Row w' w.heap.size x.a x.bs.length x.c x.bs) : Parted (es ++ [x]) := by
  unfold Parted at *
  rw [List.pairwise_append]
  refine ⟨h, by simp, fun y hy z hz => ?_⟩
  simp at hz; subst hz
  rcases hx.at with e | ⟨g, e, hg, _⟩
  · exact .inl e
  · right
    rcases (hes y hy).1.at with e' | ⟨g', e', _, hlt, _⟩
    · rw [e, e']; simp
    · rw [e, e']
      intro h'
      cases h'
      omega

def LaidTo (w0 wr : World) (l : List Dg) (n i : Nat) (fs : List En) : Prop :=
  RowE wr w0.heap.size (some ⟨w0.heap.size, 0, none⟩) n n fs ∧ (fs.take i).map En.dg = l.take i ∧ (∀ x ∈ fs.take i, x.mine wr w0.heap.size) ∧ Parted (fs.take i) ∧ Below w0.heap.size w0 wr

theorem made_cells (n : Nat) : (madeCells (Value.agg #[.slice none 0 0, .int .i64 0]).cells (n * 2)).toList = ecells (List.replicate n e0) := by
  have hl : (madeCells (Value.agg #[.slice none 0 0, .int .i64 0]).cells (n * 2)).toList.length = n * 2 := by simp [size_madeCells]
  apply List.ext_getElem?
  intro j
  rcases Nat.lt_or_ge j (n * 2) with h | h
  · have hx : (List.replicate n e0)[j / 2]? = some e0 := by simp [show j / 2 < n by omega]
    have hat := ecells_at (List.replicate n e0) (j / 2) e0 hx
    rcases Nat.mod_two_eq_zero_or_one j with h0 | h0
    · have ej : j / 2 * 2 = j := by omega
      rw [ej] at hat
      rw [hat.1]
      simp [madeCells, h, h0, e0, Value.cells]
    · have ej : j / 2 * 2 + 1 = j := by omega
      rw [ej] at hat
      rw [hat.2]
      simp [madeCells, h, h0, e0, Value.cells]
  · rw [List.getElem?_eq_none (by omega), List.getElem?_eq_none (by rw [ecells_len]; simpa using h)]

set_option maxRecDepth 100000 in
set_option maxHeartbeats 2000000 in
theorem renewed_any (A : Option Addr) (n c : Nat) (l : List Dg) (w : World) (hD : DatsAt w A n c l) :
    Calls Try.prog 26 #[.slice A n c] w fun e w' => ∃ va vc, e = .returned (.slice va n vc) ∧ Deep w' w.heap.size va n vc l ∧ Below w.heap.size w w' := by
  obtain ⟨i0, hi, hz0, hz1, hz2⟩ := info_parts Try.info26
  have hr := hD.reach
  have HD : Hid (DatsAt w A n c l) := hD
  have hmk := fun W : World => run_make (P := Try.prog) W 22 26 i0 _ Try.underlying22 hi hz0 .i64 .i64 (n : Int) (n : Int) (by omega) (Int.le_refl _) (by rw [hz2]; omega) (by omega)
  simp only [Int.toNat_natCast, hz1] at hmk
  obtain ⟨cs, hcs⟩ : ∃ cs, madeCells (Value.agg #[.slice none 0 0, .int .i64 0]).cells (n * 2) = cs := ⟨_, rfl⟩
  simp only [hcs] at hmk
  have hst : LaidTo w (w.alloc (.cells cs 26)) l n 0 (List.replicate n e0) := by
    refine ⟨⟨by rw [ecells_len]; simp, .inr ⟨_, n, cs, rfl, Nat.le_refl _, heap_alloc_new w _, Nat.le_refl _, by unfold maxLen; omega, by rw [← hcs, size_madeCells], ?_⟩⟩, by simp, fun x hx => by simp at hx, by simp [Parted], below_more (Below.refl _ _) _⟩
    rw [← made_cells, hcs]
    apply List.take_of_length_le
    rw [Array.length_toList, ← hcs, size_madeCells]
    exact Nat.le_refl _
  have HST : Hid (LaidTo w (w.alloc (.cells cs 26)) l n 0 (List.replicate n e0)) := hst
  clear hD hst hcs hz0 hz1 hz2 hi
  go_enter Try.func26, Try.ntmps26
  go_wp2_with fail
  go_loopw [11] (fun vi wr => ∃ (i : Nat) (fs : List En), vi = .int .i64 i ∧ i ≤ n ∧ Hid (LaidTo w wr l n i fs))
    (fun vi _ => n - (intOf vi).toNat)
  case atStart => exact ⟨0, _, rfl, Nat.zero_le _, HST.out⟩
  case round =>
    obtain ⟨i, fs, rfl, hin, HL⟩ := hrel
    by_cases hlt : i < n
    · obtain ⟨b, o, x, rfl, hx, hok, hc0, hc1⟩ := (HD.out.later HL.out.2.2.2.2).get i hlt
      have HX : Hid (l[i]?.getD z0 = x.dg ∧ x.ok wr) := ⟨hx, hok⟩
      have hb' : Below wr.heap.size wr (wr.alloc (.cells #[.slice x.a x.bs.length x.c, .int .i64 x.t] 26)) := below_more (Below.refl _ _) _
      have HB : Hid (Below wr.heap.size wr (wr.alloc (.cells #[.slice x.a x.bs.length x.c, .int .i64 x.t] 26))) := hb'
      clear hx hok hb'
      go_wp2_with fail
      refine (renew_any x _ (HX.out.2.below HB.out (Nat.le_refl _))).mono ?_
      rintro e w1 ⟨va, vc, rfl, hR, hb⟩
      have hb1 : Below wr.heap.size wr w1 := HB.out.trans (hb.mono (by simp))
      have hE1 := HL.out.1.below hb1 (Nat.le_refl _)
      obtain ⟨⟨u, hu⟩, v, hv⟩ := hE1.cellE i hlt
      have f0 := hE1.frozen (i * 2)
      have f1 := hE1.frozen (i * 2 + 1)
      have HR : Hid (Row w1 (wr.alloc (.cells #[.slice x.a x.bs.length x.c, .int .i64 x.t] 26)).heap.size va x.bs.length vc x.bs ∧ Below wr.heap.size wr w1 ∧ RowE w1 w.heap.size (some ⟨w.heap.size, 0, none⟩) n n fs) := ⟨hR, hb1, hE1⟩
      clear hR hb hb1 hE1
      go_wp2_with fail
      go_roundw
      case rel =>
        refine ⟨i + 1, fs.set i ⟨va, vc, x.bs, x.t⟩, by go_num, by omega, ?_⟩
        have hfl : fs.length = n := HL.out.1.len
        have htk : (fs.set i ⟨va, vc, x.bs, x.t⟩).take (i + 1) = fs.take i ++ [⟨va, vc, x.bs, x.t⟩] := by
          rw [List.take_add_one]
          simp [hfl, hlt]
          rw [List.take_set]
          apply List.set_eq_of_length_le
          simp
          omega
        have hll : i < l.length := by rw [HD.out.len]; exact hlt
        have hRw : Row w1 wr.heap.size va x.bs.length vc x.bs := HR.out.1.mono (by simp)
        refine ⟨HR.out.2.2.set i ⟨va, vc, x.bs, x.t⟩, ?_, ?_, ?_, ?_⟩
        · rw [htk, List.map_append, HL.out.2.1, take_snoc hll HX.out.1]; rfl
        · rw [htk]
          intro y hy
          rcases List.mem_append.1 hy with hy | hy
          · exact ((HL.out.2.2.1 y hy).later HR.out.2.1).beside2 HR.out.2.2 _ _ _ _
          · simp at hy; subst hy
            exact En.mine.beside2 (x := ⟨va, vc, x.bs, x.t⟩) ⟨hRw.mono HL.out.2.2.2.2.size, HX.out.2.1.2.1, HX.out.2.1.1, HX.out.2.2.2⟩ HR.out.2.2 _ _ _ _
        · rw [htk]
          exact parted_snoc (x := ⟨va, vc, x.bs, x.t⟩) HL.out.2.2.2.1 HL.out.2.2.1 hRw
        · exact ((HL.out.2.2.2.2.trans (HR.out.2.1.mono HL.out.2.2.2.2.size)).setCell (Nat.le_refl _) _).setCell (Nat.le_refl _) _
      case measure => simp [intOf]; omega
    · obtain rfl : i = n := by omega
      go_wp2_with fail
      go_ret
      have hfl : fs.length = i := HL.out.1.len
      have hall : fs.take i = fs := by rw [← hfl]; exact List.take_length
      have hl : l.take i = l := by rw [← HD.out.len]; exact List.take_length
      have h1 := HL.out.2.1
      have h2 := HL.out.2.2.1
      have h3 := HL.out.2.2.2.1
      rw [hall] at h1 h2 h3
      rw [hl] at h1
      exact ⟨_, _, rfl, ⟨fs, h1, hr, HL.out.1, h2, h3⟩, HL.out.2.2.2.2⟩
end Go.Proofs.Ytkbgpbhlcmainaa
