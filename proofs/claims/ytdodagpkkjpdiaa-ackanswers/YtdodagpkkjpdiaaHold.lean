/- The contracts of rowOf, and of holder: which piece has an offset. -/
import Derived.Test.YtdodagpkkjpdiaaLeaf
import Derived.Laws.MakeOwn
namespace Go.Proofs.Ytdodagpkkjpdiaa
open Go.ChangeShapes Go.WideShapes Go.ChangeAt Go.RowKit
set_option linter.unusedVariables false
set_option linter.unusedSimpArgs false

/-- The span of a piece, as reckoned. -/
def spW (x : En) : Tm := (x.f, wrap64 (x.f + (x.bs.length : Int)))
def spnsW (es : List En) : List Tm := es.map spW

/-- What rowOf has laid, up to a place. -/
def RowTo (w0 wr : World) (es : List En) (n i : Nat) (ts : List Tm) : Prop :=
  RowT wr w0.heap.size (some ⟨w0.heap.size, 0, none⟩) n n ts ∧ ts.take i = (spnsW es).take i ∧ Below w0.heap.size w0 wr
theorem made_tcells (n : Nat) : (madeCells (Value.agg #[.int .i64 0, .int .i64 0]).cells (n * 2)).toList = tcells (List.replicate n (0, 0)) := by
  apply List.ext_getElem?
  intro j
  rcases Nat.lt_or_ge j (n * 2) with h | h
  · have hat := tcells_at (List.replicate n (0, 0)) (j / 2) (by simp; omega)
    rcases Nat.mod_two_eq_zero_or_one j with h0 | h0
    · have ej : j / 2 * 2 = j := by omega
      rw [ej] at hat
      rw [hat.1]
      simp [madeCells, h, h0, Value.cells, show j / 2 < n by omega]
    · have ej : j / 2 * 2 + 1 = j := by omega
      rw [ej] at hat
      rw [hat.2]
      simp [madeCells, h, h0, Value.cells, show j / 2 < n by omega]
  · rw [List.getElem?_eq_none (by simp [size_madeCells]; omega), List.getElem?_eq_none (by rw [tcells_len]; simpa using h)]
theorem tcells_set : ∀ (l : List Tm) (j : Nat) (x : Tm), tcells (l.set j x) = ((tcells l).set (j * 2) (.int .i64 x.1)).set (j * 2 + 1) (.int .i64 x.2)
  | [], j, x => by simp [tcells]
  | a :: r, 0, x => by simp [tcells]
  | a :: r, j + 1, x => by
    have h1 : ∀ (a : Tm) (r : List Tm), tcells (a :: r) = Value.int .i64 a.1 :: Value.int .i64 a.2 :: tcells r := fun _ _ => rfl
    rw [List.set_cons_succ, h1, h1, tcells_set r j x, show (j + 1) * 2 = j * 2 + 1 + 1 from by omega]
    simp
theorem RowT.put {w : World} {B g L vc : Nat} {l : List Tm} (h : RowT w B (some ⟨g, 0, none⟩) L vc l) (j : Nat) (x : Tm) : RowT ((w.setCell ⟨g, j * 2, none⟩ (.int .i64 x.1)).setCell ⟨g, j * 2 + 1, none⟩ (.int .i64 x.2)) B (some ⟨g, 0, none⟩) L vc (l.set j x) := by
  have h1 := (World.ownsRow.stored h (j * 2) (.int .i64 x.1)).1
  have h2 := (World.ownsRow.stored h1 (j * 2 + 1) (.int .i64 x.2)).1
  unfold RowT
  rw [tcells_set]
  exact h2
theorem RowT.cells2 {w : World} {B g L vc : Nat} {l : List Tm} (h : RowT w B (some ⟨g, 0, none⟩) L vc l) (j : Nat) (hj : j < L) : (∃ u, w.cell? ⟨g, j * 2, none⟩ = some u) ∧ (∃ u, w.cell? ⟨g, j * 2 + 1, none⟩ = some u) := by
  have hL := h.len
  have hat := tcells_at l j (by omega)
  exact ⟨⟨_, by rw [World.ownsRow.cellAt h (j * 2) (by omega)]; exact hat.1⟩, ⟨_, by rw [World.ownsRow.cellAt h (j * 2 + 1) (by omega)]; exact hat.2⟩⟩
theorem RowT.frozenAt {w : World} {B g L vc : Nat} {l : List Tm} (h : RowT w B (some ⟨g, 0, none⟩) L vc l) (j : Nat) : w.frozen? ⟨g, j, none⟩ = false := World.ownsRow.frozenAt h j

set_option maxRecDepth 100000 in
set_option maxHeartbeats 4000000 in
theorem rowOf_any (A : Option Addr) (c : Nat) (es : List En) (w : World) (hP : PcsAt w A c es) :
    Calls Try.prog 61 #[.slice A es.length c] w fun e w' => ∃ va vc, e = .returned (.slice va es.length vc) ∧ RowT w' w.heap.size va es.length vc (spnsW es) ∧ Below w.heap.size w w' := by
  obtain ⟨i0, hi, hz0, hz1, hz2⟩ := info_parts Try.info39
  have hr := hP.reach
  have HD : Hid (PcsAt w A c es) := hP
  obtain ⟨n, hn⟩ : ∃ n, es.length = n := ⟨_, rfl⟩
  have HN : Hid (es.length = n) := hn
  rw [hn] at hr ⊢
  have hmk := fun W : World => run_make (P := Try.prog) W 29 39 i0 _ Try.underlying29 hi hz0 .i64 .i64 (n : Int) (n : Int) (by omega) (Int.le_refl _) (by rw [hz2]; omega) (by omega)
  simp only [Int.toNat_natCast, hz1] at hmk
  obtain ⟨cs, hcs⟩ : ∃ cs, madeCells (Value.agg #[.int .i64 0, .int .i64 0]).cells (n * 2) = cs := ⟨_, rfl⟩
  simp only [hcs] at hmk
  have hst : RowTo w (w.alloc (.cells cs 39)) es n 0 (List.replicate n (0, 0)) := by
    refine ⟨⟨by rw [tcells_len]; simp, .inr ⟨_, n, cs, rfl, Nat.le_refl _, heap_alloc_new w _, Nat.le_refl _, by unfold maxLen; omega, by rw [← hcs, size_madeCells], ?_⟩⟩, by simp, below_more (Below.refl _ _) _⟩
    rw [← made_tcells, hcs]
    apply List.take_of_length_le
    rw [Array.length_toList, ← hcs, size_madeCells]
    exact Nat.le_refl _
  have HST : Hid (RowTo w (w.alloc (.cells cs 39)) es n 0 (List.replicate n (0, 0))) := hst
  clear hP hst hcs hz0 hz1 hz2 hi hn
  go_enter Try.func61, Try.ntmps61
  go_wp2_with fail
  go_loopw [11] (fun vi wr => ∃ (i : Nat) (ts : List Tm), vi = .int .i64 i ∧ i ≤ n ∧ Hid (RowTo w wr es n i ts))
    (fun vi _ => n - (intOf vi).toNat)
  case atStart => exact ⟨0, _, rfl, Nat.zero_le _, HST.out⟩
  case round =>
    obtain ⟨i, ts, rfl, hin, HL⟩ := hrel
    by_cases hlt : i < n
    · obtain ⟨b, o, x, rfl, hx, hok, hc0, hc1⟩ := (HD.out.later HL.out.2.2).get i (by rw [HN.out]; exact hlt)
      obtain ⟨t, ht⟩ : ∃ t, wrap64 (x.f + (x.bs.length : Int)) = t := ⟨_, rfl⟩
      have HX : Hid (es[i]? = some x ∧ spW x = (x.f, t)) := ⟨hx, by unfold spW; rw [ht]⟩
      have hb' : Below wr.heap.size wr (wr.alloc (.cells #[.int .i64 x.f, .slice x.a x.bs.length x.c] 53)) := below_more (Below.refl _ _) _
      have HB : Hid (Below wr.heap.size wr (wr.alloc (.cells #[.int .i64 x.f, .slice x.a x.bs.length x.c] 53))) := hb'
      have cS := fun W => spanOf_walk x.f x.a x.bs.length x.c W t ht
      clear hx hok hb' ht
      go_wp2_with fail
      refine (cS _).mono ?_
      rintro e w1 ⟨rfl, hb⟩
      have hb1 : Below wr.heap.size wr w1 := HB.out.trans (hb.mono (by simp))
      have hE1 := HL.out.1.below hb1 (Nat.le_refl _)
      obtain ⟨⟨u, hu⟩, v, hv⟩ := hE1.cells2 i hlt
      have f0 := hE1.frozenAt (i * 2)
      have f1 := hE1.frozenAt (i * 2 + 1)
      have HR : Hid (Below wr.heap.size wr w1 ∧ RowT w1 w.heap.size (some ⟨w.heap.size, 0, none⟩) n n ts) := ⟨hb1, hE1⟩
      clear hb hb1 hE1
      go_wp2_with fail
      go_roundw
      case rel =>
        refine ⟨i + 1, ts.set i (x.f, t), by go_num, by omega, ?_⟩
        have hfl : ts.length = n := HL.out.1.len
        have hel := HN.out
        refine ⟨HR.out.2.put i (x.f, t), ?_, ?_⟩
        · have h1 : (ts.set i (x.f, t)).take (i + 1) = ts.take i ++ [(x.f, t)] := by
            rw [List.take_add_one]
            simp [hfl, hlt]
            rw [List.take_set]
            apply List.set_eq_of_length_le
            simp
            omega
          rw [h1, HL.out.2.1, List.take_add_one (l := spnsW es)]
          have : (spnsW es)[i]? = some (x.f, t) := by unfold spnsW; rw [List.getElem?_map, HX.out.1]; exact congrArg some HX.out.2
          rw [this]; rfl
        · exact ((HL.out.2.2.trans (HR.out.1.mono HL.out.2.2.size)).setCell (Nat.le_refl _) _).setCell (Nat.le_refl _) _
      case measure => simp [intOf]; omega
    · obtain rfl : i = n := by omega
      go_wp2_with fail
      go_ret
      have hfl : ts.length = i := HL.out.1.len
      have hall : ts = spnsW es := by
        have h1 := HL.out.2.1
        rw [List.take_of_length_le (by omega), List.take_of_length_le (by unfold spnsW; rw [List.length_map, HN.out]; exact Nat.le_refl _)] at h1
        exact h1
      exact ⟨_, _, rfl, by rw [← hall]; exact HL.out.1, HL.out.2.2⟩
end Go.Proofs.Ytdodagpkkjpdiaa
