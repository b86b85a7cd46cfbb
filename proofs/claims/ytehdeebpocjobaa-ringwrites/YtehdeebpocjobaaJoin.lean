/- The contract of joined: parts one behind the other, in new memory. -/
import Derived.Test.YtehdeebpocjobaaLeaf
namespace Go.Proofs.Ytehdeebpocjobaa
open Go.ChangeShapes Go.WideShapes Go.ChangeAt Go.RowKit
set_option linter.unusedVariables false

/-- A part in memory: its address, its room, its bytes. -/
structure Pt where
  a : Option Addr
  c : Nat
  bs : List Int
def cat (ps : List Pt) : List Int := ps.flatMap fun p => p.bs
def PtsAt (w : World) (A : Option Addr) (ps : List Pt) : Prop :=
  ∀ j p, ps[j]? = some p → ∃ b o, A = some ⟨b, o, none⟩ ∧ w.cell? ⟨b, o + j, none⟩ = some (.slice p.a p.bs.length p.c) ∧ SlAt w p.a p.c p.bs
theorem PtsAt.later {w w' : World} {A : Option Addr} {ps : List Pt} (h : PtsAt w A ps) (hb : Below w.heap.size w w') : PtsAt w' A ps := fun j p hj => by
  obtain ⟨b, o, e, hc, hs⟩ := h j p hj
  exact ⟨b, o, e, (hb.cell (p := ⟨b, o + j, none⟩) (lt_of_cell hc)).trans hc, hs.later hb⟩
theorem cat_snoc {ps : List Pt} {i : Nat} {p : Pt} (h : ps[i]? = some p) : cat (ps.take (i + 1)) = cat (ps.take i) ++ p.bs := by
  unfold cat
  rw [List.take_add_one, h]
  simp
theorem cat_split (ps : List Pt) (i : Nat) : cat ps = cat (ps.take i) ++ cat (ps.drop i) := by
  unfold cat
  rw [← List.flatMap_append, List.take_append_drop]
theorem cat_drop {ps : List Pt} {i : Nat} {p : Pt} (h : ps[i]? = some p) : cat (ps.drop i) = p.bs ++ cat (ps.drop (i + 1)) := by
  have hi : i < ps.length := by
    rcases Nat.lt_or_ge i ps.length with h' | h'
    · exact h'
    · rw [List.getElem?_eq_none h'] at h; cases h
  rw [List.drop_eq_getElem_cons hi]
  have : ps[i] = p := by rw [List.getElem?_eq_getElem hi] at h; exact Option.some.inj h
  rw [this]
  simp [cat]
theorem made_bytes (L : Nat) : (madeCells (Value.int .u8 0).cells L).toList = (List.replicate L (0 : Int)).map (Value.int .u8) := by
  apply List.ext_getElem?
  intro j
  by_cases h : j < L
  · simp [madeCells, h, Value.cells, Nat.mod_one]
  · rw [List.getElem?_eq_none (by rw [Array.length_toList, size_madeCells]; omega), List.getElem?_eq_none (by simp; omega)]
theorem row_made (w : World) (L : Nat) (hL : L ≤ 140737488351232) : Row (w.alloc (.cells (madeCells (Value.int .u8 0).cells L) 5)) w.heap.size (some ⟨w.heap.size, 0, none⟩) L L (List.replicate L 0) := by
  refine ⟨by simp, .inr ⟨_, L, _, rfl, Nat.le_refl _, heap_alloc_new w _, Nat.le_refl _, by unfold maxLen; omega, by rw [size_madeCells]; omega, ?_⟩⟩
  rw [made_bytes]
  apply List.take_of_length_le
  simp
theorem copy_run (w : World) (B g L : Nat) (dn zs : List Int) (p : Pt) (hR : Row w B (some ⟨g, 0, none⟩) L L (dn ++ zs)) (hp : SlAt w p.a p.c p.bs) (k : Nat) (hk : dn.length = k) (hz : p.bs.length ≤ zs.length) :
    ∃ w', (∀ ty, (Builtin.copy_ #[22, 22] ty #[.slice (cutB (some ⟨g, 0, none⟩) L k) (L - k) (L - k), .slice p.a p.bs.length p.c]).run Try.prog w = .ok (.int .i64 (p.bs.length : Int)) w') ∧ Row w' B (some ⟨g, 0, none⟩) L L (dn ++ p.bs ++ zs.drop p.bs.length) ∧ Below B w w' := by
  obtain ⟨i0, hi, hz0, hz1, hz2⟩ := info_parts Try.info5
  have hsz : (Try.prog.info? 5).map (·.size) = some 1 := by rw [hi]; simp [hz1]
  have hl := hR.len
  rw [List.length_append, hk] at hl
  by_cases h0 : p.bs.length = 0
  · obtain hn : p.bs = [] := List.eq_nil_of_length_eq_zero h0
    refine ⟨w, fun ty => ?_, by rw [hn]; simpa using hR, Below.refl _ _⟩
    rw [h0]
    exact run_copy_none (P := Try.prog) w 22 22 ty 5 _ _ (L - k) (L - k) 0 p.c Try.underlying22 hsz (by simp)
  · rcases hR.2 with ⟨e, _⟩ | ⟨g', cap, cur, e, hB, hh, hc, hm, hs, ht⟩
    · cases e
    · cases e
      obtain ⟨x, hx⟩ : ∃ x, p.a = some x := by
        obtain ⟨b1, o1, e1, _⟩ := hp.1.2.2 0 (by omega)
        exact ⟨_, e1⟩
      have hcur : cur.toList = (dn ++ zs).map (Value.int .u8) := by
        rw [← ht]; symm; apply List.take_of_length_le; rw [Array.length_toList, hs]; exact Nat.le_refl _
      have hp1 := hp.1
      rw [hx] at hp1
      have hcut : cutB (some ⟨g, 0, none⟩) L k = some ⟨g, k, none⟩ := by
        rw [cutB, if_neg (by omega), Option.map_some, add_plain, Nat.mul_one, Nat.zero_add]
      have hrun := fun ty => run_copy_row (P := Try.prog) w 22 22 ty 5 g k (L - k) (L - k) x p.bs.length p.c cur 5 (p.bs.map (Value.int .u8)) Try.underlying22 hsz hh (by rw [List.length_map]; exact (Nat.min_eq_left (by omega)).symm) (news_all hp1) (by rw [List.length_map, hs]; omega) (ints_one _ _)
      rw [List.length_map] at hrun
      have e3 : cur.toList.take k ++ p.bs.map (Value.int .u8) ++ cur.toList.drop (k + p.bs.length) = (dn ++ p.bs ++ zs.drop p.bs.length).map (Value.int .u8) := by
        rw [hcur, ← List.map_take, ← List.map_drop, ← List.map_append, ← List.map_append, List.take_append_of_le_length (by omega), List.take_of_length_le (by omega)]
        congr 2
        rw [List.drop_append, List.drop_eq_nil_of_le (by omega), List.nil_append]
        congr 1
        omega
      rw [e3] at hrun
      refine ⟨_, fun ty => by rw [hx, hcut]; exact hrun ty, ⟨?_, .inr ⟨g, L, _, rfl, hB, setRow_heap w g cur _ 5 _ hh, Nat.le_refl _, hm, ?_, ?_⟩⟩, below_setRow (Below.refl _ w) hB _⟩
      · simp; omega
      · simp; omega
      · apply List.take_of_length_le; simp; omega

/-- What is laid behind i parts. -/
def JoinTo (w wr : World) (ps : List Pt) (L i m : Nat) : Prop :=
  Row wr w.heap.size (some ⟨w.heap.size, 0, none⟩) L L (cat (ps.take i) ++ List.replicate (L - m) 0) ∧ (cat (ps.take i)).length = m ∧ Below w.heap.size w wr

set_option maxRecDepth 100000 in
set_option maxHeartbeats 4000000 in
theorem joined_any (A : Option Addr) (n c : Nat) (ps : List Pt) (w : World) (hP : PtsAt w A ps) (hl : ps.length = n) (hn : n ≤ 1000) (S : List Int) (hS : cat ps = S) (L : Nat) (hL : S.length = L) (hs : L ≤ 140737488351232) :
    Calls Try.prog 26 #[.slice A n c] w fun e w' => ∃ g, e = .returned (.slice (some ⟨g, 0, none⟩) L L) ∧ Row w' w.heap.size (some ⟨g, 0, none⟩) L L S ∧ Below w.heap.size w w' := by
  obtain ⟨i0, hi, hz0, hz1, hz2⟩ := info_parts Try.info5
  have hmk := fun W : World => run_make (P := Try.prog) W 22 5 i0 _ Try.underlying22 hi hz0 .i64 .i64 (L : Int) (L : Int) (by omega) (Int.le_refl _) (by rw [hz2]; omega) (by omega)
  simp only [Int.toNat_natCast, hz1, Nat.mul_one] at hmk
  have HST : Hid (JoinTo w (w.alloc (.cells (madeCells (Value.int .u8 0).cells L) 5)) ps L 0 0) := ⟨by simpa [cat] using row_made w L hs, by simp [cat], below_more (Below.refl _ _) _⟩
  obtain ⟨cs, hcs⟩ : ∃ cs, madeCells (Value.int .u8 0).cells L = cs := ⟨_, rfl⟩
  rw [hcs] at HST
  simp only [hcs] at hmk
  have hsp := cat_split ps
  have HP : Hid (PtsAt w A ps ∧ ps.length = n ∧ cat ps = S ∧ S.length = L ∧ ∀ i, (cat (ps.take i)).length ≤ L) := ⟨hP, hl, hS, hL, fun i => by
    have := congrArg List.length (hsp i)
    rw [List.length_append, hS, hL] at this
    omega⟩
  clear hP hl hS hL hsp hcs hz0 hz1 hz2 hi
  go_enter Try.func26, Try.ntmps26
  go_wp2_with fail
  go_loop [3, 12] (fun vn vi => ∃ i m : Nat, vi = .int .i64 i ∧ vn = .int .i64 m ∧ i ≤ n ∧ m ≤ L ∧ Hid ((cat (ps.take i)).length = m))
    (fun _ vi => n - (intOf vi).toNat)
  case atStart => exact ⟨0, 0, rfl, rfl, Nat.zero_le _, Nat.zero_le _, by simp [cat, Hid]⟩
  case round =>
    obtain ⟨i, m, rfl, rfl, hin, hmL, HM⟩ := hrel
    by_cases hlt : i < n
    · have hlt' : (i : Int) < (n : Int) := by omega
      obtain ⟨p, hp⟩ : ∃ p, ps[i]? = some p := ⟨_, List.getElem?_eq_getElem (by rw [HP.out.2.1]; exact hlt)⟩
      obtain ⟨b, o, rfl, hc, hsl⟩ := HP.out.1 i p hp
      have hm2 : m + p.bs.length ≤ L ∧ (cat (ps.take (i + 1))).length = m + p.bs.length := by
        have h1 := HP.out.2.2.2.2 (i + 1)
        rw [cat_snoc hp, List.length_append, HM.out] at h1
        rw [cat_snoc hp, List.length_append, HM.out]
        exact ⟨h1, rfl⟩
      obtain ⟨l, hl⟩ : ∃ l, p.bs.length = l := ⟨_, rfl⟩
      rw [hl] at hc hm2
      have HM2 : Hid ((cat (ps.take (i + 1))).length = m + l) := hm2.2
      have hm3 := hm2.1
      clear hm2 hl hsl hp
      go_wp2_with fail
      go_round
      case rel => exact ⟨i + 1, m + l, by go_num, by go_num, by omega, by omega, HM2⟩
      case measure => simp [intOf]; omega
    · obtain rfl : i = n := by omega
      obtain rfl : m = L := by
        have h1 := HM.out
        rw [← HP.out.2.1, List.take_length, HP.out.2.2.1, HP.out.2.2.2.1] at h1
        exact h1.symm
      clear HM hmL hlt
      go_wp2_with fail
      go_loopw [7, 25] (fun vn vi wr => ∃ j k : Nat, vi = .int .i64 j ∧ vn = .int .i64 k ∧ j ≤ i ∧ k ≤ m ∧ Hid (JoinTo w wr ps m j k))
        (fun _ vi _ => i - (intOf vi).toNat)
      case atStart => exact ⟨0, 0, rfl, rfl, Nat.zero_le _, Nat.zero_le _, HST⟩
      case round =>
        obtain ⟨j, k, rfl, rfl, hji, hkm, HJ⟩ := hrel
        by_cases hlt : j < i
        · have hlt' : (j : Int) < (i : Int) := by omega
          obtain ⟨p, hp⟩ : ∃ p, ps[j]? = some p := ⟨_, List.getElem?_eq_getElem (by rw [HP.out.2.1]; exact hlt)⟩
          obtain ⟨b, o, rfl, hc, hsl⟩ := HP.out.1.later HJ.out.2.2 j p hp
          have hm2 : k + p.bs.length ≤ m ∧ (cat (ps.take (j + 1))).length = k + p.bs.length := by
            have h1 := HP.out.2.2.2.2 (j + 1)
            rw [cat_snoc hp, List.length_append, HJ.out.2.1] at h1
            rw [cat_snoc hp, List.length_append, HJ.out.2.1]
            exact ⟨h1, rfl⟩
          obtain ⟨w2, hr2, hR2, hB2⟩ := copy_run wr w.heap.size w.heap.size m (cat (ps.take j)) (List.replicate (m - k) 0) p HJ.out.1 hsl k HJ.out.2.1 (by simp; omega)
          have HJ2 : Hid (JoinTo w w2 ps m (j + 1) (k + p.bs.length)) := by
            refine ⟨?_, hm2.2, HJ.out.2.2.trans hB2⟩
            rw [cat_snoc hp]
            rw [List.drop_replicate] at hR2
            rw [show m - (k + p.bs.length) = m - k - p.bs.length from by omega]
            exact hR2
          have e1 := sl_l (some ⟨w.heap.size, 0, none⟩) m m k (k : Int) rfl hkm
          obtain ⟨l, hl⟩ : ∃ l, p.bs.length = l := ⟨_, rfl⟩
          obtain ⟨D, hD⟩ : ∃ D, cutB (some ⟨w.heap.size, 0, none⟩) m k = D := ⟨_, rfl⟩
          obtain ⟨d, hd⟩ : ∃ d, m - k = d := ⟨_, rfl⟩
          rw [hl] at hc hm2 HJ2
          simp only [hl, hD, hd] at hr2
          rw [hD, hd] at e1
          have hm3 := hm2.1
          clear hm2 hl hsl hp hR2 hB2 hD hd HJ
          go_wp2_with fail
          go_roundw
          case rel => exact ⟨j + 1, k + l, by go_num, by go_num, by omega, by omega, HJ2⟩
          case measure => simp [intOf]; omega
        · obtain rfl : j = i := by omega
          obtain rfl : k = m := by
            have h1 := HJ.out.2.1
            rw [← HP.out.2.1, List.take_length, HP.out.2.2.1, HP.out.2.2.2.1] at h1
            exact h1.symm
          have hR : Row wr w.heap.size (some ⟨w.heap.size, 0, none⟩) k k S := by
            have h1 := HJ.out.1
            rw [← HP.out.2.1, List.take_length, HP.out.2.2.1, Nat.sub_self] at h1
            simpa using h1
          have HF : Hid (Row wr w.heap.size (some ⟨w.heap.size, 0, none⟩) k k S ∧ Below w.heap.size w wr) := ⟨hR, HJ.out.2.2⟩
          clear hR HJ
          go_wp2_with fail
          go_ret
          exact ⟨w.heap.size, rfl, HF.out.1, HF.out.2⟩
end Go.Proofs.Ytehdeebpocjobaa
