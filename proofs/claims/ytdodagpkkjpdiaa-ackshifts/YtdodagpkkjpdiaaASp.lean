/- The contract of spans. -/
import Derived.Test.YtdodagpkkjpdiaaABase
import Derived.Test.YtdodagpkkjpdiaaSAdd
import Derived.WalkMore
namespace Go.Proofs.Ytdodagpkkjpdiaa
open Go.ChangeShapes Go.WideShapes Go.ChangeAt Go.RowKit Go.Shelf
set_option linter.unusedVariables false
set_option linter.unusedSimpArgs false
attribute [local go_sem] Oper.semAt_some


/-- The address of 'l[k:]', of ends. -/
def cutE (a : Option Addr) (m k : Nat) : Option Addr := if m = k then a else a.map (·.add (k * 2))
theorem elem61 : Try.prog.elem 61 = 83 := by kernel_rfl
theorem under61 : Try.prog.underlying 61 = some (.slice (Try.prog.elem 61)) := by rw [elem61]; exact Try.underlying61
theorem size83 (w : World) : (sizeOf (Try.prog.elem 61)).run Try.prog w = .ok 2 w := by kernel_rfl
theorem sl_ends (a : Option Addr) (n c : Nat) (h : 1 ≤ n) (w : World) : (Instr.slice 61 (.slice a n c) (some (.int .i64 1)) none none).run Try.prog w = .ok (.slice (cutE a c 1) (n - 1) (c - 1)) w := by
  rw [run_slice_l w 61 a n c under61 .i64 1 (by omega) (by omega), size83]
  simp [cutE, sliced]
theorem TimsAt.tail {w : World} {a : Option Addr} {l : List Tm} {c : Nat} (h : TimsAt w a l) (hc : l.length ≤ c) : TimsAt w (cutE a c 1) (l.drop 1) := by
  refine ⟨by have := h.1; rw [List.length_drop]; omega, fun j hj => ?_⟩
  rw [List.length_drop] at hj
  obtain ⟨b, o, rfl, h0, h1⟩ := h.2 (j + 1) (by omega)
  refine ⟨b, o + 2, ?_, ?_, ?_⟩
  · rw [cutE, if_neg (by omega), Option.map_some, add_plain]
  · rw [show o + 2 + j * 2 = o + (j + 1) * 2 by omega, h0, List.getElem?_drop, Nat.add_comm 1 j]
  · rw [show o + 2 + j * 2 = o + (j + 1) * 2 by omega, h1, List.getElem?_drop, Nat.add_comm 1 j]
/-- Add at a row that may be, of a span that may be. -/
theorem add_row (A : Option Addr) (cap m m2 : Nat) (ts ts2 : List Tm) (p q : Int) (B : Nat) (w : World) (hR : RowT w B A m cap ts) (hB : B ≤ w.heap.size) (hm : m ≤ 2147483648) (hok : chk (-1) ts = true) (hr : rightB (p, q) = true) (h2 : addV ts (p, q) = ts2) (hm2 : ts2.length = m2) :
    Calls Try.prog 38 #[.slice A m cap, .agg #[.int .i64 p, .int .i64 q]] w fun e W' => ∃ va vc, e = .returned (.tuple #[.slice va m2 vc, .int .i64 0]) ∧ RowT W' B va m2 vc ts2 ∧ Below w.heap.size w W' := by
  have hl := hR.len
  subst hl h2 hm2
  refine (add_any A cap ts (p, q) w hR.tims (row_none hR) (by omega)).mono ?_
  rintro e W' ⟨va, vc, rfl, h3, h4⟩
  exact ⟨va, vc, by rw [bothI_ok hok hr], h3.mono hB, h4⟩
def SpR (w wr : World) (va : Option Addr) (m vc : Nat) (lo hi : Int) (l : List Tm) (i : Nat) : Prop := RowT wr w.heap.size va m vc (Ak.laidL lo hi (l.take i)) ∧ Below w.heap.size w wr
theorem take_one {l : List Tm} {i : Nat} {y : Tm} (h : l[i]? = some y) : l.take (i + 1) = l.take i ++ [y] := by
  rw [List.take_add_one, h]; rfl

set_option maxRecDepth 100000 in
set_option maxHeartbeats 4000000 in
theorem sp_all (l : List Tm) (A : Option Addr) (c : Nat) (n : Nat) (lo hi A0 : Int) (w : World) (h0 : 0 ≤ lo) (hh : hi ≤ 1125899906842624) (hT : TimsAt w A l) (hn : l.length = n) (hml : n ≤ 9223372036854775807) (hw : ∀ b ∈ l, A0 ≤ b.1 ∧ b.2 ≤ A0 + 4294967296) : Calls Try.prog 24 #[.slice A n c, .bool false, .int .i64 lo, .int .i64 hi] w fun e w' => ∃ va vc, e = .returned (.slice va (Ak.laidL lo hi l).length vc) ∧ RowT w' w.heap.size va (Ak.laidL lo hi l).length vc (Ak.laidL lo hi l) ∧ Below w.heap.size w w' := by
  have HP : Hid (TimsAt w A l ∧ l.length = n ∧ 0 ≤ lo ∧ hi ≤ 1125899906842624 ∧ ∀ i, (Ak.laidL lo hi (l.take i)).length ≤ 2147483648) := ⟨hT, hn, h0, hh, fun i => Ak.laid_len h0 _ (A := A0) fun b hb => hw b (List.mem_of_mem_take hb)⟩
  clear hT hn hw
  go_enter Try.func24, Try.ntmps24
  go_wp2_with fail
  go_step3
  go_wp2_with fail
  go_step3
  go_wp2_with fail
  go_loopw [9, 11, 13, 19] (fun v9 v11 v13 vi wr => ∃ (i : Nat) (va : Option Addr) (vc m : Nat), vi = .int .i64 (i : Int) ∧ v9 = .slice va m vc ∧ i ≤ n ∧ Hid (SpR w wr va m vc lo hi l i)) (fun _ _ _ vi _ => n - (intOf vi).toNat)
  case atStart => exact ⟨0, none, 0, 0, rfl, rfl, Nat.zero_le _, World.ownsRow_nil _ _ _ _, Below.refl _ _⟩
  case round =>
    obtain ⟨i, va, vc, m, rfl, rfl, hin, HR⟩ := hrel
    by_cases hlt : i < n
    · have hlt' : (i : Int) < (n : Int) := by omega
      have hi' : i < l.length := by have := HP.out.2.1; omega
      obtain ⟨b, o, e, hc0, hc1⟩ := (HP.out.1.later HR.out.2).2 i hi'
      subst e
      obtain ⟨p, hp⟩ : ∃ p, (l[i]?.getD (0, 0)).1 = p := ⟨_, rfl⟩
      obtain ⟨q, hq⟩ : ∃ q, (l[i]?.getD (0, 0)).2 = q := ⟨_, rfl⟩
      have HX : Hid (l[i]? = some (p, q)) := by
        unfold Hid; rw [List.getElem?_eq_getElem hi'] at hp hq ⊢; rw [← hp, ← hq]; rfl
      rw [hp] at hc0
      rw [hq] at hc1
      clear hp hq hi'
      go_upto_region 7 with fail
      obtain ⟨X, hX⟩ : ∃ X, wr.alloc (.cells #[.int .i64 p, .int .i64 q] 83) = X := ⟨_, rfl⟩
      have bX : Below wr.heap.size wr X := by rw [← hX]; exact below_more (Below.refl _ _) _
      have xX : Box X wr.heap.size 83 [.int .i64 p, .int .i64 q] := by rw [← hX]; exact Box.new wr 83 [.int .i64 p, .int .i64 q]
      rw [hX]
      obtain ⟨z, hz⟩ : ∃ z, wr.heap.size = z := ⟨_, rfl⟩
      have hB : Below w.heap.size w X := HR.out.2.trans (bX.mono HR.out.2.size)
      have HY : Hid (RowT X w.heap.size va m vc (Ak.laidL lo hi (l.take i)) ∧ Below w.heap.size w X) := ⟨HR.out.1.below bX (Nat.le_refl _), hB⟩
      rw [hz] at xX ⊢
      have x0 := Box.cell xX 0 rfl
      have x1 := Box.cell xX 1 rfl
      have i0 : ∀ W, (Instr.index 83 (.agg #[.int .i64 p, .int .i64 q]) (.int .i64 0)).run Try.prog W = .ok (.int .i64 p) W := fun _ => by kernel_rfl
      have i1 : ∀ W, (Instr.index 83 (.agg #[.int .i64 p, .int .i64 q]) (.int .i64 1)).run Try.prog W = .ok (.int .i64 q) W := fun _ => by kernel_rfl
      have HS : Hid (Ak.keepB lo hi (p, q) = false → SpR w X va m vc lo hi l (i + 1)) := fun hk => by
        refine ⟨?_, hB⟩
        rw [take_one HX.out, Ak.laid_snoc, if_neg (by rw [hk]; simp)]
        exact HY.out.1
      clear hX bX xX hB HR hc0 hc1 hz
      go_wp2_with fail
      go_loopw [13, 24] (fun v13 vk wx => ∃ k : Nat, vk = .int .i64 (k : Int) ∧ k ≤ 2 ∧ wx = X ∧ Hid ((0 < k → lo ≤ p ∧ p ≤ hi) ∧ (1 < k → lo ≤ q ∧ q ≤ hi))) (fun _ vk _ => 2 - (intOf vk).toNat)
      case atStart => exact ⟨0, rfl, by omega, rfl, fun h => by omega, fun h => by omega⟩
      case round =>
        obtain ⟨k, rfl, hk, hwx, HK⟩ := hrel
        obtain rfl := hwx.symm
        clear hwx
        rcases (show k = 0 ∨ k = 1 ∨ k = 2 by omega) with rfl | rfl | rfl
        · by_cases e1 : p < lo
          · have HN := HS.out (decide_eq_false (by rintro ⟨k1, k2, k3, k4⟩; simp only at k1; omega))
            have HN' : Hid (SpR w X va m vc lo hi l (i + 1)) := HN
            clear HN HS HY HK
            go_wp2_with fail
            go_roundw
            case rel => exact ⟨i + 1, va, vc, m, by go_num, rfl, by omega, HN'⟩
            case measure => simp [intOf]; omega
          · by_cases e2 : hi < p
            · have HN := HS.out (decide_eq_false (by rintro ⟨k1, k2, k3, k4⟩; simp only at k1 k2 k3; omega))
              have HN' : Hid (SpR w X va m vc lo hi l (i + 1)) := HN
              clear HN HS HY HK
              go_wp2_with fail
              go_roundw
              case rel => exact ⟨i + 1, va, vc, m, by go_num, rfl, by omega, HN'⟩
              case measure => simp [intOf]; omega
            · have HN : Hid ((0 < 1 → lo ≤ p ∧ p ≤ hi) ∧ (1 < 1 → lo ≤ q ∧ q ≤ hi)) := ⟨fun _ => by omega, fun h => by omega⟩
              go_wp2_with fail
              go_roundw
              case rel => exact ⟨1, by go_num, by omega, by trivial, HN⟩
              case measure => simp [intOf]
        · by_cases e1 : q < lo
          · have HN := HS.out (decide_eq_false (by rintro ⟨k1, k2, k3, k4⟩; have := HK.out.1 (by omega); simp only at k1 k2 k3; omega))
            have HN' : Hid (SpR w X va m vc lo hi l (i + 1)) := HN
            clear HN HS HY HK
            go_wp2_with fail
            go_roundw
            case rel => exact ⟨i + 1, va, vc, m, by go_num, rfl, by omega, HN'⟩
            case measure => simp [intOf]; omega
          · by_cases e2 : hi < q
            · have HN := HS.out (decide_eq_false (by rintro ⟨k1, k2, k3, k4⟩; simp only at k1 k2 k3; omega))
              have HN' : Hid (SpR w X va m vc lo hi l (i + 1)) := HN
              clear HN HS HY HK
              go_wp2_with fail
              go_roundw
              case rel => exact ⟨i + 1, va, vc, m, by go_num, rfl, by omega, HN'⟩
              case measure => simp [intOf]; omega
            · have HN : Hid ((0 < 2 → lo ≤ p ∧ p ≤ hi) ∧ (1 < 2 → lo ≤ q ∧ q ≤ hi)) := ⟨fun _ => HK.out.1 (by omega), fun _ => by omega⟩
              go_wp2_with fail
              go_roundw
              case rel => exact ⟨2, by go_num, by omega, by trivial, HN⟩
              case measure => simp [intOf]
        · by_cases e1 : p < q
          · have h3 := HK.out.1 (by omega)
            have h4 := HK.out.2 (by omega)
            have hkp : Ak.keepB lo hi (p, q) = true := decide_eq_true ⟨h3.1, e1, h4.2, by show q ≤ 1125899906842624; have := HP.out.2.2.2.1; omega⟩
            have hrt : rightB (p, q) = true := rightB_iff.2 ⟨by show 0 ≤ p; have := HP.out.2.2.1; omega, by show p ≤ q; omega, by show q ≤ 1125899906842624; have := HP.out.2.2.2.1; omega⟩
            have hlen := HP.out.2.2.2.2 i
            rw [HY.out.1.len] at hlen
            obtain ⟨m2, hm2⟩ : ∃ m2, (Ak.laidL lo hi (l.take (i + 1))).length = m2 := ⟨_, rfl⟩
            have cA := add_row va vc m m2 _ _ p q w.heap.size X HY.out.1 HY.out.2.size hlen (Ak.laid_chk HP.out.2.2.1 _) hrt (by rw [take_one HX.out, Ak.laid_snoc, if_pos hkp]) hm2
            clear h3 h4 hkp hrt hlen hm2 i0 i1 HK HS
            go_wp2_with (go_at_call 38; refine cA.mono ?_; rintro e W' ⟨va', vc', rfl, hR', hB'⟩)
            have HN : Hid (SpR w W' va' m2 vc' lo hi l (i + 1)) := ⟨hR', HY.out.2.trans (hB'.mono HY.out.2.size)⟩
            clear hR' hB' cA HY x0 x1
            go_wp2_with fail
            go_roundw
            case rel => exact ⟨i + 1, va', vc', m2, by go_num, rfl, by omega, HN⟩
            case measure => simp [intOf]; omega
          · have HN := HS.out (decide_eq_false (by rintro ⟨k1, k2, k3, k4⟩; simp only at k2; omega))
            have HN' : Hid (SpR w X va m vc lo hi l (i + 1)) := HN
            clear HN HS HY HK
            go_wp2_with fail
            go_roundw
            case rel => exact ⟨i + 1, va, vc, m, by go_num, rfl, by omega, HN'⟩
            case measure => simp [intOf]; omega
    · obtain rfl : i = n := by omega
      have hge : ¬ ((i : Int) < (i : Int)) := by omega
      go_wp2_with fail
      try rw [Exit.noGoto_ret]
      go_ret
      have k := HR.out
      unfold SpR at k
      rw [List.take_of_length_le (by rw [HP.out.2.1]; exact Nat.le_refl _)] at k
      have hm := k.1.len
      refine ⟨va, vc, by rw [hm]; rfl, by rw [hm]; exact k.1, k.2⟩

set_option maxRecDepth 100000 in
set_option maxHeartbeats 4000000 in
theorem sp_cut (l : List Tm) (A A' : Option Addr) (c c' N : Nat) (n : Nat) (lo hi A0 : Int) (w : World) (h0 : 0 ≤ lo) (hh : hi ≤ 1125899906842624) (hsl : ∀ W, (Instr.slice 61 (.slice A' N c') (some (.int .i64 1)) none none).run Try.prog W = .ok (.slice A n c) W) (hT : TimsAt w A l) (hn : l.length = n) (hml : n ≤ 9223372036854775807) (hw : ∀ b ∈ l, A0 ≤ b.1 ∧ b.2 ≤ A0 + 4294967296) : Calls Try.prog 24 #[.slice A' N c', .bool true, .int .i64 lo, .int .i64 hi] w fun e w' => ∃ va vc, e = .returned (.slice va (Ak.laidL lo hi l).length vc) ∧ RowT w' w.heap.size va (Ak.laidL lo hi l).length vc (Ak.laidL lo hi l) ∧ Below w.heap.size w w' := by
  have HP : Hid (TimsAt w A l ∧ l.length = n ∧ 0 ≤ lo ∧ hi ≤ 1125899906842624 ∧ ∀ i, (Ak.laidL lo hi (l.take i)).length ≤ 2147483648) := ⟨hT, hn, h0, hh, fun i => Ak.laid_len h0 _ (A := A0) fun b hb => hw b (List.mem_of_mem_take hb)⟩
  clear hT hn hw
  go_enter Try.func24, Try.ntmps24
  go_wp2_with fail
  go_step3
  go_wp2_with fail
  go_step3
  go_wp2_with fail
  clear hsl
  go_loopw [9, 11, 13, 19] (fun v9 v11 v13 vi wr => ∃ (i : Nat) (va : Option Addr) (vc m : Nat), vi = .int .i64 (i : Int) ∧ v9 = .slice va m vc ∧ i ≤ n ∧ Hid (SpR w wr va m vc lo hi l i)) (fun _ _ _ vi _ => n - (intOf vi).toNat)
  case atStart => exact ⟨0, none, 0, 0, rfl, rfl, Nat.zero_le _, World.ownsRow_nil _ _ _ _, Below.refl _ _⟩
  case round =>
    obtain ⟨i, va, vc, m, rfl, rfl, hin, HR⟩ := hrel
    by_cases hlt : i < n
    · have hlt' : (i : Int) < (n : Int) := by omega
      have hi' : i < l.length := by have := HP.out.2.1; omega
      obtain ⟨b, o, e, hc0, hc1⟩ := (HP.out.1.later HR.out.2).2 i hi'
      subst e
      obtain ⟨p, hp⟩ : ∃ p, (l[i]?.getD (0, 0)).1 = p := ⟨_, rfl⟩
      obtain ⟨q, hq⟩ : ∃ q, (l[i]?.getD (0, 0)).2 = q := ⟨_, rfl⟩
      have HX : Hid (l[i]? = some (p, q)) := by
        unfold Hid; rw [List.getElem?_eq_getElem hi'] at hp hq ⊢; rw [← hp, ← hq]; rfl
      rw [hp] at hc0
      rw [hq] at hc1
      clear hp hq hi'
      go_upto_region 7 with fail
      obtain ⟨X, hX⟩ : ∃ X, wr.alloc (.cells #[.int .i64 p, .int .i64 q] 83) = X := ⟨_, rfl⟩
      have bX : Below wr.heap.size wr X := by rw [← hX]; exact below_more (Below.refl _ _) _
      have xX : Box X wr.heap.size 83 [.int .i64 p, .int .i64 q] := by rw [← hX]; exact Box.new wr 83 [.int .i64 p, .int .i64 q]
      rw [hX]
      obtain ⟨z, hz⟩ : ∃ z, wr.heap.size = z := ⟨_, rfl⟩
      have hB : Below w.heap.size w X := HR.out.2.trans (bX.mono HR.out.2.size)
      have HY : Hid (RowT X w.heap.size va m vc (Ak.laidL lo hi (l.take i)) ∧ Below w.heap.size w X) := ⟨HR.out.1.below bX (Nat.le_refl _), hB⟩
      rw [hz] at xX ⊢
      have x0 := Box.cell xX 0 rfl
      have x1 := Box.cell xX 1 rfl
      have i0 : ∀ W, (Instr.index 83 (.agg #[.int .i64 p, .int .i64 q]) (.int .i64 0)).run Try.prog W = .ok (.int .i64 p) W := fun _ => by kernel_rfl
      have i1 : ∀ W, (Instr.index 83 (.agg #[.int .i64 p, .int .i64 q]) (.int .i64 1)).run Try.prog W = .ok (.int .i64 q) W := fun _ => by kernel_rfl
      have HS : Hid (Ak.keepB lo hi (p, q) = false → SpR w X va m vc lo hi l (i + 1)) := fun hk => by
        refine ⟨?_, hB⟩
        rw [take_one HX.out, Ak.laid_snoc, if_neg (by rw [hk]; simp)]
        exact HY.out.1
      clear hX bX xX hB HR hc0 hc1 hz
      go_wp2_with fail
      go_loopw [13, 24] (fun v13 vk wx => ∃ k : Nat, vk = .int .i64 (k : Int) ∧ k ≤ 2 ∧ wx = X ∧ Hid ((0 < k → lo ≤ p ∧ p ≤ hi) ∧ (1 < k → lo ≤ q ∧ q ≤ hi))) (fun _ vk _ => 2 - (intOf vk).toNat)
      case atStart => exact ⟨0, rfl, by omega, rfl, fun h => by omega, fun h => by omega⟩
      case round =>
        obtain ⟨k, rfl, hk, hwx, HK⟩ := hrel
        obtain rfl := hwx.symm
        clear hwx
        rcases (show k = 0 ∨ k = 1 ∨ k = 2 by omega) with rfl | rfl | rfl
        · by_cases e1 : p < lo
          · have HN := HS.out (decide_eq_false (by rintro ⟨k1, k2, k3, k4⟩; simp only at k1; omega))
            have HN' : Hid (SpR w X va m vc lo hi l (i + 1)) := HN
            clear HN HS HY HK
            go_wp2_with fail
            go_roundw
            case rel => exact ⟨i + 1, va, vc, m, by go_num, rfl, by omega, HN'⟩
            case measure => simp [intOf]; omega
          · by_cases e2 : hi < p
            · have HN := HS.out (decide_eq_false (by rintro ⟨k1, k2, k3, k4⟩; simp only at k1 k2 k3; omega))
              have HN' : Hid (SpR w X va m vc lo hi l (i + 1)) := HN
              clear HN HS HY HK
              go_wp2_with fail
              go_roundw
              case rel => exact ⟨i + 1, va, vc, m, by go_num, rfl, by omega, HN'⟩
              case measure => simp [intOf]; omega
            · have HN : Hid ((0 < 1 → lo ≤ p ∧ p ≤ hi) ∧ (1 < 1 → lo ≤ q ∧ q ≤ hi)) := ⟨fun _ => by omega, fun h => by omega⟩
              go_wp2_with fail
              go_roundw
              case rel => exact ⟨1, by go_num, by omega, by trivial, HN⟩
              case measure => simp [intOf]
        · by_cases e1 : q < lo
          · have HN := HS.out (decide_eq_false (by rintro ⟨k1, k2, k3, k4⟩; have := HK.out.1 (by omega); simp only at k1 k2 k3; omega))
            have HN' : Hid (SpR w X va m vc lo hi l (i + 1)) := HN
            clear HN HS HY HK
            go_wp2_with fail
            go_roundw
            case rel => exact ⟨i + 1, va, vc, m, by go_num, rfl, by omega, HN'⟩
            case measure => simp [intOf]; omega
          · by_cases e2 : hi < q
            · have HN := HS.out (decide_eq_false (by rintro ⟨k1, k2, k3, k4⟩; simp only at k1 k2 k3; omega))
              have HN' : Hid (SpR w X va m vc lo hi l (i + 1)) := HN
              clear HN HS HY HK
              go_wp2_with fail
              go_roundw
              case rel => exact ⟨i + 1, va, vc, m, by go_num, rfl, by omega, HN'⟩
              case measure => simp [intOf]; omega
            · have HN : Hid ((0 < 2 → lo ≤ p ∧ p ≤ hi) ∧ (1 < 2 → lo ≤ q ∧ q ≤ hi)) := ⟨fun _ => HK.out.1 (by omega), fun _ => by omega⟩
              go_wp2_with fail
              go_roundw
              case rel => exact ⟨2, by go_num, by omega, by trivial, HN⟩
              case measure => simp [intOf]
        · by_cases e1 : p < q
          · have h3 := HK.out.1 (by omega)
            have h4 := HK.out.2 (by omega)
            have hkp : Ak.keepB lo hi (p, q) = true := decide_eq_true ⟨h3.1, e1, h4.2, by show q ≤ 1125899906842624; have := HP.out.2.2.2.1; omega⟩
            have hrt : rightB (p, q) = true := rightB_iff.2 ⟨by show 0 ≤ p; have := HP.out.2.2.1; omega, by show p ≤ q; omega, by show q ≤ 1125899906842624; have := HP.out.2.2.2.1; omega⟩
            have hlen := HP.out.2.2.2.2 i
            rw [HY.out.1.len] at hlen
            obtain ⟨m2, hm2⟩ : ∃ m2, (Ak.laidL lo hi (l.take (i + 1))).length = m2 := ⟨_, rfl⟩
            have cA := add_row va vc m m2 _ _ p q w.heap.size X HY.out.1 HY.out.2.size hlen (Ak.laid_chk HP.out.2.2.1 _) hrt (by rw [take_one HX.out, Ak.laid_snoc, if_pos hkp]) hm2
            clear h3 h4 hkp hrt hlen hm2 i0 i1 HK HS
            go_wp2_with (go_at_call 38; refine cA.mono ?_; rintro e W' ⟨va', vc', rfl, hR', hB'⟩)
            have HN : Hid (SpR w W' va' m2 vc' lo hi l (i + 1)) := ⟨hR', HY.out.2.trans (hB'.mono HY.out.2.size)⟩
            clear hR' hB' cA HY x0 x1
            go_wp2_with fail
            go_roundw
            case rel => exact ⟨i + 1, va', vc', m2, by go_num, rfl, by omega, HN⟩
            case measure => simp [intOf]; omega
          · have HN := HS.out (decide_eq_false (by rintro ⟨k1, k2, k3, k4⟩; simp only at k2; omega))
            have HN' : Hid (SpR w X va m vc lo hi l (i + 1)) := HN
            clear HN HS HY HK
            go_wp2_with fail
            go_roundw
            case rel => exact ⟨i + 1, va, vc, m, by go_num, rfl, by omega, HN'⟩
            case measure => simp [intOf]; omega
    · obtain rfl : i = n := by omega
      have hge : ¬ ((i : Int) < (i : Int)) := by omega
      go_wp2_with fail
      try rw [Exit.noGoto_ret]
      go_ret
      have k := HR.out
      unfold SpR at k
      rw [List.take_of_length_le (by rw [HP.out.2.1]; exact Nat.le_refl _)] at k
      have hm := k.1.len
      refine ⟨va, vc, by rw [hm]; rfl, by rw [hm]; exact k.1, k.2⟩

theorem spans_is (l : List Tm) (A : Option Addr) (c n : Nat) (tw : Bool) (lo hi A0 : Int) (w : World) (h0 : 0 ≤ lo) (hh : hi ≤ 1125899906842624) (hT : TimsAt w A l) (hn : l.length = n) (hc : n ≤ c) (htw : tw = true → 1 ≤ n) (hw : ∀ b ∈ l, A0 ≤ b.1 ∧ b.2 ≤ A0 + 4294967296) :
    Calls Try.prog 24 #[.slice A n c, .bool tw, .int .i64 lo, .int .i64 hi] w fun e w' => ∃ va vc, e = .returned (.slice va (Ak.laidL lo hi (if tw = true then l.drop 1 else l)).length vc) ∧ RowT w' w.heap.size va (Ak.laidL lo hi (if tw = true then l.drop 1 else l)).length vc (Ak.laidL lo hi (if tw = true then l.drop 1 else l)) ∧ Below w.heap.size w w' := by
  have hml : n ≤ 9223372036854775807 := by rw [← hn]; exact hT.1
  cases tw with
  | false => exact sp_all l A c n lo hi A0 w h0 hh hT hn hml hw
  | true => exact sp_cut (l.drop 1) _ A _ c n (n - 1) lo hi A0 w h0 hh (sl_ends A n c (htw rfl)) (hT.tail (by omega)) (by rw [List.length_drop]; omega) (by omega) (fun b hb => hw b (List.mem_of_mem_drop hb))
end Go.Proofs.Ytdodagpkkjpdiaa
