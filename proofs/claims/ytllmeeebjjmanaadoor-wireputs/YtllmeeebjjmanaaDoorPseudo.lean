/- The contract of sum.Pseudo: the twelve bytes that stand ahead. -/
import Derived.Test.YtllmeeebjjmanaaDoorSum
namespace Go.Proofs.YtllmeeebjjmanaaDoor
open Go.ChangeShapes Go.WideShapes Go.ChangeAt Go.RowKit Go.Shelf
set_option linter.unusedVariables false

theorem Tryd.info5 : (Tryd.prog.info? 5).map (fun i => (i.zero, i.size, i.bytes)) = some (some (.int .u8 0), 1, 1) := by kernel_rfl

theorem cells_new (w : World) (vs : List Value) (t : TypeId) : ∀ j u, vs[j]? = some u → (w.alloc (.cells vs.toArray t)).cell? ((⟨w.heap.size, 0, none⟩ : Addr).add j) = some u := by
  intro j u hj
  have h1 := World.cell?_alloc_at (w := w) vs.toArray t w.heap.size j rfl
  have h2 : (⟨w.heap.size, 0, none⟩ : Addr).add j = ⟨w.heap.size, j, none⟩ := by
    cases j <;> simp [Addr.add]
  rw [h2, h1]
  simpa using hj

theorem ints_one (k : IntKind) (zs : List Int) : ∀ u ∈ zs.map (Value.int k), u.oneCell' = true := by
  intro u hu
  obtain ⟨z, _, rfl⟩ := List.mem_map.1 hu
  rfl

def upK (src dst : Int) (k : Nat) : List Int := if k = 0 then [] else if k = 1 then fourI src else fourI src ++ fourI dst

/-- What a slice of the call's own owns it holds. -/
theorem owns_bytes {w : World} {base : Nat} {v : Value} {n : Nat} {bs : List Int} (h : w.ownsRow base 5 1 v n (bs.map (Value.int .u8))) (hb : Byts bs) (hm : bs.length ≤ maxLen) :
    ∃ a c, v = .slice a n c ∧ BytesAt w a bs ∧ bs.length = n := by
  have hl : bs.length = n := by have := h.1; simpa using this
  rcases h.2 with ⟨rfl, h0⟩ | ⟨g, cap, cur, rfl, hg, hh, hc, hm', hsz, ht⟩
  · subst h0
    exact ⟨none, 0, rfl, ⟨hm, hb, fun j hj => by omega⟩, hl⟩
  · refine ⟨_, _, rfl, ⟨hm, hb, fun j hj => ⟨g, 0, rfl, ?_⟩⟩, hl⟩
    have h1 : cur[j]? = some (.int .u8 (bs[j]?.getD 0)) := by
      have h2 : (cur.toList.take (n * 1))[j]? = (bs.map (Value.int .u8))[j]? := by rw [ht]
      rw [List.getElem?_take_of_lt (by omega)] at h2
      simpa [hj] using h2
    unfold World.cell?
    simp only [hh, Nat.zero_add]
    simpa using h1

theorem pseudo_any (src dst n : Int) (w : World) (hs : 0 ≤ src ∧ src ≤ 4294967295) (hd : 0 ≤ dst ∧ dst ≤ 4294967295) :
    Calls Tryd.prog 25 #[.int .u32 src, .int .u32 dst, .int .i64 n] w fun e W' => ∃ a c, e = .returned (.slice a 12 c) ∧ BytesAt W' a (pseudoI src dst n) ∧ Below w.heap.size w W' := by
  obtain ⟨i0, hi, hz0, hz1, hz2⟩ := info_parts Tryd.info5
  go_enter Tryd.func25, Tryd.ntmps25
  go_wp2_with (at_make; refine wpList_make_own _ rfl _ _ 24 rfl w.heap.size 5 i0 (.int .u8 0) 1 Tryd.underlying24 hi hz0 hz1 .i64 .i64 12 12 rfl rfl rfl (by rw [hz2]; decide) (by decide) (Nat.le_refl _) ?_; intro w1 hown1 hg1)
  go_loopw [7, 14] (fun v i wr => ∃ (k L : Nat) (ki : Int), Hid (k ≤ 2 ∧ L = 4 * k ∧ ki = k) ∧ i = .int .i64 ki ∧ v = .slice (some ⟨w.heap.size, 0, none⟩) L 12 ∧ wr.ownsRow w.heap.size 5 1 (.slice (some ⟨w.heap.size, 0, none⟩) L 12) L ((upK src dst k).map (Value.int .u8)) ∧ Below w.heap.size w wr)
    (fun _ i _ => 2 - (intOf i).toNat)
  case atStart => exact ⟨0, 0, 0, ⟨by omega, by omega, by omega⟩, rfl, rfl, hown1, (Below.refl _ _).grown hg1 (Nat.le_refl _) (fun k e => by cases e)⟩
  case round =>
    obtain ⟨k, L, ki, H, rfl, rfl, hown, hB⟩ := hrel
    have hsz := hB.size
    rcases (show (k = 0 ∧ L = 0 ∧ ki = 0) ∨ (k = 1 ∧ L = 4 ∧ ki = 1) ∨ (k = 2 ∧ L = 8 ∧ ki = 2) from by have := H.out; omega) with ⟨rfl, rfl, rfl⟩ | ⟨rfl, rfl, rfl⟩ | ⟨rfl, rfl, rfl⟩
    · have hix : ∀ w : World, (Instr.index 73 (.agg #[.int .u32 src, .int .u32 dst]) (.int .i64 0)).run Tryd.prog w = .ok (.int .u32 src) w := fun _ => by kernel_rfl
      clear H
      go_wp2_with (at_builtin; refine wpList_append_fits _ rfl _ _ 24 rfl w.heap.size 5 i0 1 Tryd.underlying24 hi hz1 w.heap.size 0 12 _ rfl (hown.alloc _) ⟨wr.heap.size, 0, none⟩ 4 4 ((fourI src).map (Value.int .u8)) rfl rfl (cells_new wr ((fourI src).map (Value.int .u8)) 5) (ints_one _ _) (by omega) ?_; intro w2 hown2 hg2)
      go_roundw
      case rel =>
        exact ⟨1, 4, 1, ⟨by omega, by omega, by omega⟩, rfl, rfl, hown2, (hB.alloc (by omega) _).grown hg2 (by simp; omega) (fun k e => by cases e; exact Nat.le_refl _)⟩
      case measure => simp [intOf]
    · have hix : ∀ w : World, (Instr.index 73 (.agg #[.int .u32 src, .int .u32 dst]) (.int .i64 1)).run Tryd.prog w = .ok (.int .u32 dst) w := fun _ => by kernel_rfl
      clear H
      go_wp2_with (at_builtin; refine wpList_append_fits _ rfl _ _ 24 rfl w.heap.size 5 i0 1 Tryd.underlying24 hi hz1 w.heap.size 4 12 _ rfl (hown.alloc _) ⟨wr.heap.size, 0, none⟩ 4 4 ((fourI dst).map (Value.int .u8)) rfl rfl (cells_new wr ((fourI dst).map (Value.int .u8)) 5) (ints_one _ _) (by omega) ?_; intro w2 hown2 hg2)
      go_roundw
      case rel =>
        exact ⟨2, 8, 2, ⟨by omega, by omega, by omega⟩, rfl, rfl, hown2, (hB.alloc (by omega) _).grown hg2 (by simp; omega) (fun k e => by cases e; exact Nat.le_refl _)⟩
      case measure => simp [intOf]
    · clear H
      go_wp2_with (at_builtin; refine wpList_append_fits _ rfl _ _ 24 rfl w.heap.size 5 i0 1 Tryd.underlying24 hi hz1 w.heap.size 8 12 _ rfl (hown.alloc _) ⟨wr.heap.size, 0, none⟩ 4 4 ([0, 6, n / 256 % 256, n % 256].map (Value.int .u8)) rfl rfl (cells_new wr ([0, 6, n / 256 % 256, n % 256].map (Value.int .u8)) 5) (ints_one _ _) (by omega) ?_; intro w2 hown2 hg2)
      go_ret
      have hown3 : w2.ownsRow w.heap.size 5 1 (.slice (some ⟨w.heap.size, 0, none⟩) 12 12) 12 ((pseudoI src dst n).map (Value.int .u8)) := hown2
      obtain ⟨a, c, ea, hba, _⟩ := owns_bytes hown3 (pseudo_byts hs hd) (by simp [pseudoI, fourI, maxLen])
      cases ea
      exact ⟨_, _, rfl, hba, (hB.alloc (by omega) _).grown hg2 (by simp; omega) (fun k e => by cases e; exact Nat.le_refl _)⟩
end Go.Proofs.YtllmeeebjjmanaaDoor
