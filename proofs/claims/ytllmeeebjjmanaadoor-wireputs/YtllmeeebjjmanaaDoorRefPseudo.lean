/- The contracts of the document's own Pseudo, and of the comparison of bytes. -/
import Derived.Test.YtllmeeebjjmanaaDoorPseudo
import Derived.Laws.BytesArg
import Derived.Deep.RegionWith
namespace Go.Proofs.YtllmeeebjjmanaaDoor
open Go.ChangeShapes Go.WideShapes Go.ChangeAt Go.RowKit Go.Shelf
set_option linter.unusedVariables false

theorem same_any (a b : Option Addr) (c d : Nat) (xs : List Int) (w : World) (ha : BytesAt w a xs) (hb : BytesAt w b xs) (h0 : 0 < xs.length) :
    Calls Tryd.prog 12 #[.slice a xs.length c, .slice b xs.length d] w fun e w' => e = .returned (.bool true) ∧ w' = w := by
  obtain ⟨b1, o1, rfl, _⟩ := ha.2.2 0 h0
  obtain ⟨b2, o2, rfl, _⟩ := hb.2.2 0 h0
  have k1 := run_convert_bytes_arg (P := Tryd.prog) w 24 5 Tryd.underlying24 Tryd.underlying5 b1 o1 xs.length c xs rfl (fun i hi => by
    obtain ⟨_, _, e, hc⟩ := ha.2.2 i hi
    cases e; simpa using hc) 9 Tryd.underlying9
  have k2 := run_convert_bytes_arg (P := Tryd.prog) w 24 5 Tryd.underlying24 Tryd.underlying5 b2 o2 xs.length d xs rfl (fun i hi => by
    obtain ⟨_, _, e, hc⟩ := hb.2.2 i hi
    cases e; simpa using hc) 9 Tryd.underlying9
  clear ha hb
  go_enter Tryd.func12, Tryd.ntmps12
  go_wp2
  go_ret
  exact ⟨ret_bool (by simp), rfl⟩

theorem tmod_of (n : Int) : (0 ≤ n ∧ n.tmod 65536 = n % 65536) ∨ (n < 0 ∧ n.tmod 65536 = -((-n) % 65536)) := by
  by_cases h : 0 ≤ n
  · exact .inl ⟨h, Int.tmod_eq_emod_of_nonneg h⟩
  · refine .inr ⟨by omega, ?_⟩
    have := Int.neg_tmod (-n) 65536
    rw [Int.neg_neg] at this
    rw [this, Int.tmod_eq_emod_of_nonneg (by omega)]

theorem four_any (x : Int) (w : World) (hx : 0 ≤ x ∧ x ≤ 4294967295) :
    Calls Tryd.prog 38 #[.int .u32 x] w fun e W' => e = .returned (.slice (some ⟨w.heap.size, 0, none⟩) 4 4) ∧ W' = w.alloc (.cells ((fourI x).map (Value.int .u8)).toArray 5) := by
  go_enter Tryd.func38, Tryd.ntmps38
  go_wp2
  go_ret
  exact ⟨rfl, rfl⟩

/-- A new block is owned by the slice of all of it. -/
theorem owns_new (w : World) (base : Nat) (hb : base ≤ w.heap.size) (e : TypeId) (vs : List Value) (hm : vs.length ≤ maxLen) :
    (w.alloc (.cells vs.toArray e)).ownsRow base e 1 (.slice (some ⟨w.heap.size, 0, none⟩) vs.length vs.length) vs.length vs := by
  refine ⟨by simp, .inr ⟨w.heap.size, vs.length, vs.toArray, rfl, hb, World.alloc_heap_new w _, Nat.le_refl _, hm, by simp, by simp⟩⟩

/-- Behind an append to what the call owns nothing that lay has turned. -/
theorem below_append {B : Nat} {w wa w' : World} {e : TypeId} {s n : Nat} {v : Value} {xs : List Value} (hB : Below B w wa) (hs : B ≤ wa.heap.size) (ho : wa.ownsRow B e s v n xs) (hg : wa.grownBy w' v.ownBlock) : Below B w w' := by
  refine hB.grown hg hs (fun k hk => ?_)
  rcases ho.2 with ⟨rfl, _⟩ | ⟨g, cap, cur, rfl, h, _⟩
  · simp [Value.ownBlock] at hk
  · simp only [Value.ownBlock, Option.some.injEq] at hk
    omega

set_option maxRecDepth 100000 in
set_option maxHeartbeats 1000000 in
theorem refPseudo_any (src dst n : Int) (w : World) (hs : 0 ≤ src ∧ src ≤ 4294967295) (hd : 0 ≤ dst ∧ dst ≤ 4294967295) (hn : -9223372036854775808 ≤ n ∧ n ≤ 9223372036854775807) :
    Calls Tryd.prog 21 #[.int .u32 src, .int .u32 dst, .int .i64 n] w fun e W' => ∃ a c, e = .returned (.slice a 12 c) ∧ BytesAt W' a (pseudoI src dst n) ∧ Below w.heap.size w W' := by
  obtain ⟨i0, hi, hz0, hz1, hz2⟩ := info_parts Tryd.info5
  have o1 := owns_new w w.heap.size (Nat.le_refl _) 5 ((fourI src).map (Value.int .u8)) (by simp [fourI, maxLen])
  have o2 : ((w.alloc (.cells ((fourI src).map (Value.int .u8)).toArray 5)).alloc (.cells ((fourI dst).map (Value.int .u8)).toArray 5)).ownsRow w.heap.size 5 1 (.slice (some ⟨w.heap.size, 0, none⟩) 4 4) 4 ((fourI src).map (Value.int .u8)) := o1.alloc (.cells ((fourI dst).map (Value.int .u8)).toArray 5)
  have hc1 := cells_new (w.alloc (.cells ((fourI src).map (Value.int .u8)).toArray 5)) ((fourI dst).map (Value.int .u8)) 5
  have Hc1 : Hid (∀ (j : Nat) (u : Value), ((fourI dst).map (Value.int .u8))[j]? = some u → ((w.alloc (.cells ((fourI src).map (Value.int .u8)).toArray 5)).alloc (.cells ((fourI dst).map (Value.int .u8)).toArray 5)).cell? ((⟨w.heap.size + 1, 0, none⟩ : Addr).add j) = some u) := by
    rw [World.size_alloc] at hc1
    exact hc1
  clear o1 hc1
  obtain ⟨m, hm⟩ : ∃ m, n.tmod 65536 = m := ⟨_, rfl⟩
  have htm := tmod_of n
  rw [hm] at htm
  have hmb : -65536 < m ∧ m < 65536 := by omega
  obtain ⟨K, hK⟩ : ∃ K, n % 65536 = K := ⟨_, rfl⟩
  have hKb : 0 ≤ K ∧ K ≤ 65535 := by omega
  have HK : Hid (n % 65536 = K) := hK
  rcases (show (m < 0 ∧ m + 65536 = K) ∨ (0 ≤ m ∧ K = m) from by omega) with ⟨hm0, hmK⟩ | ⟨hm0, rfl⟩
  all_goals clear hK htm
  all_goals go_enter Tryd.func21, Tryd.ntmps21
  all_goals go_wp2_with (first | (go_at_call_of 38 src; refine (four_any _ _ hs).mono ?_; rintro e w' ⟨rfl, rfl⟩) | (go_at_call_of 38 dst; refine (four_any _ _ hd).mono ?_; rintro e w' ⟨rfl, rfl⟩) | (at_builtin; refine wpList_append_own _ rfl (.tmp 15) (.tmp 17) 24 rfl w.heap.size 5 i0 (.int .u8 0) 1 1 Tryd.underlying24 hi hz0 hz1 hz2 rfl (by decide) _ 4 _ rfl o2 ⟨w.heap.size + 1, 0, none⟩ 4 4 ((fourI dst).map (Value.int .u8)) rfl rfl Hc1.out (ints_one _ _) (by decide) (by decide) (by simp; omega) ?_; intro v1 w1 hown1 hg1 _; have hb1 : Below w.heap.size w w1 := below_append (((Below.refl _ w).alloc (Nat.le_refl _) _).alloc (by simp) _) (by simp; omega) o2 hg1; have hs1 := hb1.size; obtain ⟨g1, c1, rfl⟩ := ownsRow_succ hown1) | (at_builtin; refine wpList_append_own _ rfl (.tmp 18) (.tmp 25) 24 rfl w.heap.size 5 i0 (.int .u8 0) 1 1 Tryd.underlying24 hi hz0 hz1 hz2 rfl (by decide) _ 8 _ rfl (hown1.alloc _) ⟨w1.heap.size, 0, none⟩ 4 4 ([0, 6, K / 256, K % 256].map (Value.int .u8)) rfl rfl (cells_new w1 ([0, 6, K / 256, K % 256].map (Value.int .u8)) 5) (ints_one _ _) (by decide) (by decide) (by simp; omega) ?_; intro v2 w2 hown2 hg2 _; have hb2 : Below w.heap.size w w2 := below_append (hb1.alloc hs1 _) (by simp; omega) (hown1.alloc _) hg2; obtain ⟨g2, c2, rfl⟩ := ownsRow_succ hown2))
  all_goals go_ret
  all_goals (
    have e1 : K / 256 = n / 256 % 256 := by have := HK.out; omega
    have e2 : K % 256 = n % 256 := by have := HK.out; omega
    rw [e1, e2] at hown2
    have hown3 : w2.ownsRow w.heap.size 5 1 (.slice (some ⟨g2, 0, none⟩) 12 c2) 12 ((pseudoI src dst n).map (Value.int .u8)) := by simpa [pseudoI] using hown2
    obtain ⟨a, c, ea, hba, _⟩ := owns_bytes hown3 (pseudo_byts hs hd) (by simp [pseudoI, fourI, maxLen])
    cases ea
    exact ⟨_, _, rfl, hba, hb2⟩)
end Go.Proofs.YtllmeeebjjmanaaDoor
