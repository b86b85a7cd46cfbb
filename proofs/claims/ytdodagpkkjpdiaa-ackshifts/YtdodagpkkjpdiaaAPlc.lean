/- The contract of placed: the ends of blocks as offsets. -/
import Derived.Test.YtdodagpkkjpdiaaALeaf
import Derived.Laws.MakeOwn
namespace Go.Proofs.Ytdodagpkkjpdiaa
open Go.ChangeShapes Go.WideShapes Go.ChangeAt Go.RowKit Go.Shelf
set_option linter.unusedVariables false
set_option linter.unusedSimpArgs false
attribute [local go_sem] Oper.semAt_some


theorem tcells_rep : ∀ n : Nat, tcells (List.replicate n (0, 0)) = List.replicate (n * 2) (Value.int .i64 0)
  | 0 => rfl
  | n + 1 => by
    rw [show (n + 1) * 2 = n * 2 + 1 + 1 by omega, List.replicate_succ, List.replicate_succ, List.replicate_succ, ← tcells_rep n]
    rfl
theorem made_ends (n : Nat) : (madeCells (Value.agg #[.int .i64 0, .int .i64 0]).cells (n * 2)).toList = tcells (List.replicate n (0, 0)) := by
  rw [tcells_rep]
  apply List.ext_getElem?
  intro j
  by_cases h : j < n * 2
  · rcases (show j % 2 = 0 ∨ j % 2 = 1 by omega) with k | k <;> simp [madeCells, h, Value.cells, k]
  · rw [List.getElem?_eq_none (by rw [Array.length_toList, size_madeCells]; omega), List.getElem?_eq_none (by simp; omega)]
theorem tcells_set : ∀ (l : List Tm) (j : Nat) (x : Tm), j < l.length → ((tcells l).set (j * 2) (.int .i64 x.1)).set (j * 2 + 1) (.int .i64 x.2) = tcells (l.set j x)
  | [], j, _, h => by simp at h
  | y :: r, 0, x, _ => rfl
  | y :: r, j + 1, x, h => by
    have ih := tcells_set r j x (by simpa using h)
    rw [show (j + 1) * 2 = j * 2 + 1 + 1 by omega]
    show Value.int .i64 y.1 :: Value.int .i64 y.2 :: ((tcells r).set (j * 2) _).set (j * 2 + 1) _ = Value.int .i64 y.1 :: Value.int .i64 y.2 :: tcells (r.set j x)
    rw [ih]
/-- The offsets of blocks. -/
def plc (a : Ak.As) (l : List (Int × Int)) : List Tm := l.map fun b => (Ak.ofs a.una b.1 a.iss, Ak.ofs a.una b.2 a.iss)
def dnL (l : List Tm) (n i : Nat) : List Tm := l.take i ++ List.replicate (n - i) (0, 0)
theorem dn_len {l : List Tm} {n i : Nat} (hl : l.length = n) (hi : i ≤ n) : (dnL l n i).length = n := by simp [dnL]; omega
theorem dn_set {l : List Tm} {n i : Nat} {x : Tm} (hl : l.length = n) (hi : i < n) (hx : l[i]? = some x) : (dnL l n i).set i x = dnL l n (i + 1) := by
  unfold dnL
  rw [List.take_add_one, hx, List.set_append_right _ _ (by simp; omega)]
  have e1 : i - (l.take i).length = 0 := by simp; omega
  rw [e1, show n - i = n - (i + 1) + 1 by omega, List.replicate_succ]
  simp
/-- The row of ends: a block of its own. -/
theorem tims_box {w : World} {B : Nat} {t : TypeId} {l : List Tm} (h : Box w B t (tcells l)) (hl : l.length ≤ maxLen) : TimsAt w (some ⟨B, 0, none⟩) l := by
  refine ⟨hl, fun j hj => ⟨B, 0, rfl, ?_, ?_⟩⟩
  · rw [Nat.zero_add]; exact Box.cell h _ (tcells_at l j hj).1
  · rw [Nat.zero_add]; exact Box.cell h _ (tcells_at l j hj).2
theorem info83 : (Try.prog.info? 83).map (fun i => (i.zero, i.size, i.bytes)) = some (some (.agg #[.int .i64 0, .int .i64 0]), 2, 16) := by kernel_rfl
def PlcB (w wr : World) (a : Ak.As) (l : List (Int × Int)) (n i : Nat) : Prop := Box wr w.heap.size 83 (tcells (dnL (plc a l) n i)) ∧ Below w.heap.size w wr
set_option maxRecDepth 100000 in
set_option maxHeartbeats 4000000 in
theorem placed_is (a : Ak.As) (h : AsI a) (l : List (Int × Int)) (A : Option Addr) (c g : Nat) (w : World) (hA : BlksAt w A l) (hC : Box w g 24 (asL a)) (n : Nat) (hn : l.length = n) (hr : n * 16 ≤ 281474976710656) :
    Calls Try.prog 22 #[.slice A n c, .func (.func 16) #[] #[.pointer (some ⟨g, 0, none⟩)]] w fun e w' => e = .returned (.slice (some ⟨w.heap.size, 0, none⟩) n n) ∧ TimsAt w' (some ⟨w.heap.size, 0, none⟩) (plc a l) ∧ Below w.heap.size w w' := by
  obtain ⟨i0, hi, hz0, hz1, hz2⟩ := info_parts info83
  have hmk := fun W : World => run_make (P := Try.prog) W 61 83 i0 _ Try.underlying61 hi hz0 .i64 .i64 (n : Int) (n : Int) (by omega) (Int.le_refl _) (by rw [hz2]; omega) (by omega)
  simp only [Int.toNat_natCast, hz1] at hmk
  have hpl : (plc a l).length = n := by unfold plc; rw [List.length_map, hn]
  have HST : Hid (PlcB w (w.alloc (.cells (madeCells (Value.agg #[.int .i64 0, .int .i64 0]).cells (n * 2)) 83)) a l n 0) := by
    refine ⟨?_, below_more (Below.refl _ _) _⟩
    have := Box.new w 83 (madeCells (Value.agg #[.int .i64 0, .int .i64 0]).cells (n * 2)).toList
    rw [Array.toArray_toList, made_ends] at this
    unfold dnL
    rw [List.take_zero, List.nil_append, Nat.sub_zero]
    exact this
  obtain ⟨cs, hcs⟩ : ∃ cs, madeCells (Value.agg #[.int .i64 0, .int .i64 0]).cells (n * 2) = cs := ⟨_, rfl⟩
  rw [hcs] at HST
  simp only [hcs] at hmk
  have HP : Hid (BlksAt w A l ∧ Box w g 24 (asL a) ∧ l.length = n ∧ (plc a l).length = n ∧ AsI a) := ⟨hA, hC, hn, hpl, h⟩
  have hml : n ≤ 17592186044416 := by omega
  clear hA hC hn hpl hcs hz0 hz1 hz2 hi h
  go_enter Try.func22, Try.ntmps22
  go_wp2_with fail
  go_loopw [6, 7, 13] (fun v6 v7 vi wr => ∃ (i : Nat), vi = .int .i64 (i : Int) ∧ i ≤ n ∧ Hid (PlcB w wr a l n i)) (fun _ _ vi _ => n - (intOf vi).toNat)
  case atStart => exact ⟨0, rfl, Nat.zero_le _, HST⟩
  case round =>
    obtain ⟨i, rfl, hi, HR⟩ := hrel
    clear HST hmk
    by_cases hlt : i < n
    · have hlt' : (i : Int) < (n : Int) := by omega
      have hi' : i < l.length := by have := HP.out.2.2.1; omega
      obtain ⟨b, o, rfl, hc0, hc1⟩ := (HP.out.1.later HR.out.2).2 i hi'
      obtain ⟨x, hx⟩ : ∃ x, l[i]?.getD (0, 0) = x := ⟨_, rfl⟩
      rw [hx] at hc0 hc1
      have hxs : l[i]? = some x := by rw [List.getElem?_eq_getElem hi'] at hx ⊢; simpa using hx
      obtain ⟨u, hu⟩ : ∃ u, x.1 = u := ⟨_, rfl⟩
      obtain ⟨v, hv⟩ : ∃ v, x.2 = v := ⟨_, rfl⟩
      rw [hu] at hc0
      rw [hv] at hc1
      have HX : Hid ((plc a l)[i]? = some (Ak.ofs a.una u a.iss, Ak.ofs a.una v a.iss)) := by
        unfold plc; rw [List.getElem?_map, hxs, ← hu, ← hv]; rfl
      clear hx hxs hu hv hi'
      go_upto_region 5 with fail
      obtain ⟨X, hX⟩ : ∃ X, wr.alloc (.cells #[.int .u32 u, .int .u32 v] 41) = X := ⟨_, rfl⟩
      have bX : Below wr.heap.size wr X := by rw [← hX]; exact below_more (Below.refl _ _) _
      have xX : Box X wr.heap.size 41 [.int .u32 u, .int .u32 v] := by rw [← hX]; exact Box.new wr 41 [.int .u32 u, .int .u32 v]
      rw [hX]
      obtain ⟨q, hq⟩ : ∃ q, wr.heap.size = q := ⟨_, rfl⟩
      rw [hq] at xX ⊢
      obtain ⟨m, hm⟩ : ∃ m, w.heap.size = m := ⟨_, rfl⟩
      have yX : Box X m 83 (tcells (dnL (plc a l) n i)) := by rw [← hm]; exact HR.out.1.later bX
      have hdn := dn_len (i := i) HP.out.2.2.2.1 hi
      have d0 := Box.cell yX _ (tcells_at _ i (by rw [hdn]; exact hlt)).1
      have d1 := Box.cell yX _ (tcells_at _ i (by rw [hdn]; exact hlt)).2
      have dz := fun j => Box.frozen yX j
      have x0 := Box.cell xX 0 rfl
      have x1 := Box.cell xX 1 rfl
      rw [hm]
      have CC : Hid (∀ z W, Below X.heap.size X W → Calls Try.prog 16 #[.int .u32 z, .pointer (some ⟨g, 0, none⟩)] W fun e w' => e = .returned (.int .i64 (Ak.ofs a.una z a.iss)) ∧ w' = W) := fun z W hW => clo_is a HP.out.2.2.2.2 z g W ((HP.out.2.1.later (HR.out.2.trans (bX.mono HR.out.2.size))).later hW)
      have HY : Hid (Box X m 83 (tcells (dnL (plc a l) n i)) ∧ Below w.heap.size w X ∧ w.heap.size = m) := ⟨yX, HR.out.2.trans (bX.mono HR.out.2.size), hm⟩
      clear hX bX xX yX hdn hq hm HR hc0 hc1
      go_region_with (go_at_call 16; refine (CC.out _ _ (by repeat (first | with_reducible exact Below.refl _ _ | with_reducible assumption | with_reducible refine Below.drew ?_ | with_reducible refine below_drewN ?_ _))).mono ?_; rintro e w' ⟨rfl, rfl⟩)
      all_goals (
        have hdn := dn_len (i := i) HP.out.2.2.2.1 hi
        have hm := HY.out.2.2
        subst hm
        have HN : Hid (PlcB w (((X.setCell ⟨w.heap.size, i * 2, none⟩ (.int .i64 (Ak.ofs a.una u a.iss))).setCell ⟨w.heap.size, i * 2 + 1, none⟩ (.int .i64 (Ak.ofs a.una v a.iss))).drew) a l n (i + 1)) := by
          have k := (HY.out.1.set (i * 2) (.int .i64 (Ak.ofs a.una u a.iss))).set (i * 2 + 1) (.int .i64 (Ak.ofs a.una v a.iss))
          rw [show ((tcells (dnL (plc a l) n i)).set (i * 2) (.int .i64 (Ak.ofs a.una u a.iss))).set (i * 2 + 1) (.int .i64 (Ak.ofs a.una v a.iss)) = tcells (dnL (plc a l) n (i + 1)) from by
            rw [← dn_set HP.out.2.2.2.1 hlt HX.out]; exact tcells_set _ i (Ak.ofs a.una u a.iss, Ak.ofs a.una v a.iss) (by rw [hdn]; exact hlt)] at k
          exact ⟨k, (below_set (below_set HY.out.2.1 _ _ _ (Nat.le_refl _)) _ _ _ (Nat.le_refl _)).drew⟩
        clear hdn HY CC HX dz d0 d1 x0 x1
        go_wp2_with fail
        go_roundw
        case rel => exact ⟨i + 1, by go_num, by omega, HN⟩
        case measure => simp [intOf]; omega)
    · obtain rfl : i = n := by omega
      have hge : ¬ ((i : Int) < (i : Int)) := by omega
      go_wp2_with fail
      go_ret
      refine ⟨rfl, ?_, HR.out.2⟩
      have k := HR.out.1
      unfold dnL at k
      rw [List.take_of_length_le (by rw [HP.out.2.2.2.1]; exact Nat.le_refl _), Nat.sub_self, List.replicate_zero, List.append_nil] at k
      exact tims_box k (by rw [HP.out.2.2.2.1]; unfold maxLen; omega)
end Go.Proofs.Ytdodagpkkjpdiaa
