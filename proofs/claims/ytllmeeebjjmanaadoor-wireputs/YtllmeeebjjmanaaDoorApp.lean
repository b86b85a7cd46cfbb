/- Bytes appended to what the call itself owns. -/
import Derived.Test.YtllmeeebjjmanaaDoorOwn
import Derived.Laws.AppendOwnNone
import Derived.Deep.AppendLies
namespace Go.Proofs.YtllmeeebjjmanaaDoor
open Go.ChangeShapes Go.WideShapes Go.ChangeAt Go.RowKit Go.Shelf
set_option linter.unusedVariables false

/-- A slice of bytes that is the call's own (nil, or at the head of a block from B on) holds bs. -/
def Row (w : World) (B : Nat) (va : Option Addr) (L vc : Nat) (bs : List Int) : Prop :=
  w.ownsRow B 5 1 (.slice va L vc) L (bs.map (Value.int .u8))

theorem Row.nil (w : World) (B : Nat) : Row w B none 0 0 [] := World.ownsRow_nil _ _ _ _
theorem Row.len {w : World} {B : Nat} {va : Option Addr} {L vc : Nat} {bs : List Int} (h : Row w B va L vc bs) : bs.length = L := by
  have := h.1; simpa using this
theorem Row.alloc {w : World} {B : Nat} {va : Option Addr} {L vc : Nat} {bs : List Int} (h : Row w B va L vc bs) (o : Obj) : Row (w.alloc o) B va L vc bs := World.ownsRow.alloc h o
theorem Row.below {w w' : World} {B : Nat} {va : Option Addr} {L vc : Nat} {bs : List Int} (h : Row w B va L vc bs) {n : Nat} (hb : Below n w w') (hn : w.heap.size ≤ n) : Row w' B va L vc bs := by
  refine ⟨h.1, ?_⟩
  rcases h.2 with h' | ⟨g, c, cur, e, hB, hh, r⟩
  · exact .inl h'
  · exact .inr ⟨g, c, cur, e, hB, (hb.block g (by have := (Array.getElem?_eq_some_iff.1 hh).1; omega)).trans hh, r⟩
theorem Row.mono {w : World} {B B' : Nat} {va : Option Addr} {L vc : Nat} {bs : List Int} (h : Row w B va L vc bs) (hb : B' ≤ B) : Row w B' va L vc bs := by
  refine ⟨h.1, ?_⟩
  rcases h.2 with h' | ⟨g, c, cur, e, hB, r⟩
  · exact .inl h'
  · exact .inr ⟨g, c, cur, e, by omega, r⟩
theorem Row.bytes {w : World} {B : Nat} {va : Option Addr} {L vc : Nat} {bs : List Int} (h : Row w B va L vc bs) (hb : Byts bs) (hm : bs.length ≤ maxLen) : BytesAt w va bs := by
  obtain ⟨a, c, e, hba, _⟩ := owns_bytes h hb hm
  cases e
  exact hba
theorem Row.owns {w : World} {B : Nat} {va : Option Addr} {L vc : Nat} {bs : List Int} (h : Row w B va L vc bs) (h0 : 0 < L) : ∃ g, va = some ⟨g, 0, none⟩ ∧ Owns w B g vc bs := by
  obtain ⟨g, c, e, hl, ho⟩ := owns_of h h0
  cases e
  exact ⟨g, rfl, ho⟩

/-- What an append hands back is a slice. -/
theorem row_of {w : World} {B n : Nat} {v : Value} {bs : List Int} (h : w.ownsRow B 5 1 v n (bs.map (Value.int .u8))) : ∃ va vc, v = .slice va n vc ∧ Row w B va n vc bs := by
  rcases h.2 with ⟨rfl, h0⟩ | ⟨g, c, cur, rfl, r⟩
  · subst h0
    exact ⟨none, 0, rfl, h⟩
  · exact ⟨_, _, rfl, h⟩

/-- Blocks that v does not lie in are as they were, and v' does not lie in them either. -/
def Aside (w w' : World) (v v' : Value) : Prop := ∀ k, k < w.heap.size → v.ownBlock ≠ some k → w'.heap[k]? = w.heap[k]? ∧ v'.ownBlock ≠ some k

theorem aside_of {w wa w' : World} {o : Obj} {v : Value} {g n c : Nat} (hwa : wa = w.alloc o) (hg : wa.grownBy w' v.ownBlock) (hat : v.ownBlock = some g ∨ g = wa.heap.size) : Aside w w' v (.slice (some ⟨g, 0, none⟩) n c) := by
  subst hwa
  intro k hk hne
  have hsz : (w.alloc o).heap.size = w.heap.size + 1 := by simp
  refine ⟨(hg.block k (by omega) (fun e => hne e.symm)).trans (Below.heap_alloc _ _ _ hk), ?_⟩
  simp only [Value.ownBlock, ne_eq, Option.some.injEq]
  intro e
  subst e
  rcases hat with h | h
  · exact hne h
  · omega

set_option maxRecDepth 100000 in
set_option maxHeartbeats 1000000 in
theorem appWord (w : World) (B : Nat) (va : Option Addr) (L vc : Nat) (bs : List Int) (n : Int) (hO : Row w B va L vc bs) (hB : B ≤ w.heap.size) (hL : L ≤ 140737488351232) (hn : -9223372036854775808 ≤ n ∧ n ≤ 9223372036854775807) :
    Calls Tryd.prog 22 #[.slice va L vc, .int .i64 n] w fun e w' => ∃ va' vc', e = .returned (.slice va' (L + 2) vc') ∧ Row w' B va' (L + 2) vc' (bs ++ twoI n) ∧ Below B w w' ∧ Aside w w' (.slice va L vc) (.slice va' (L + 2) vc') := by
  obtain ⟨i0, hi, hz0, hz1, hz2⟩ := info_parts Tryd.info5
  have o1 := hO.alloc (.cells ((twoI n).map (Value.int .u8)).toArray 5)
  go_enter Tryd.func22, Tryd.ntmps22
  go_wp2_with (at_builtin; refine wpList_append_lies _ rfl (.tmp 5) (.tmp 11) 24 rfl B 5 i0 (.int .u8 0) 1 1 Tryd.underlying24 hi hz0 hz1 hz2 rfl (by decide) (.slice va L vc) L _ rfl o1 ⟨w.heap.size, 0, none⟩ 2 2 ((twoI n).map (Value.int .u8)) rfl rfl (cells_new w ((twoI n).map (Value.int .u8)) 5) (ints_one _ _) (by decide) (by unfold maxLen; omega) (by omega) (by simp; omega) _ rfl ?_; intro g1 c1 w1 hown1 hg1 hat1 _; have hb1 : Below B w w1 := below_append ((Below.refl _ w).alloc hB _) (by simp; omega) o1 hg1; rw [← List.map_append] at hown1; have hR : Row w1 B (some ⟨g1, 0, none⟩) (L + 2) c1 (bs ++ twoI n) := hown1; have HA : Hid (Aside w w1 (.slice va L vc) (.slice (some ⟨g1, 0, none⟩) (L + 2) c1)) := aside_of rfl hg1 hat1; clear hat1 hg1 hown1)
  go_ret
  exact ⟨_, _, rfl, hR, hb1, HA.out⟩

set_option maxRecDepth 100000 in
set_option maxHeartbeats 1000000 in
theorem appLong (w : World) (B : Nat) (va : Option Addr) (L vc : Nat) (bs : List Int) (n : Int) (hO : Row w B va L vc bs) (hB : B ≤ w.heap.size) (hL : L ≤ 140737488351232) (hn : U32 n) :
    Calls Tryd.prog 23 #[.slice va L vc, .int .u32 n] w fun e w' => ∃ va' vc', e = .returned (.slice va' (L + 4) vc') ∧ Row w' B va' (L + 4) vc' (bs ++ fourI n) ∧ Below B w w' ∧ Aside w w' (.slice va L vc) (.slice va' (L + 4) vc') := by
  obtain ⟨hn0, hn1⟩ := hn
  obtain ⟨i0, hi, hz0, hz1, hz2⟩ := info_parts Tryd.info5
  have o1 := hO.alloc (.cells ((fourI n).map (Value.int .u8)).toArray 5)
  go_enter Tryd.func23, Tryd.ntmps23
  go_wp2_with (at_builtin; refine wpList_append_lies _ rfl (.tmp 5) (.tmp 17) 24 rfl B 5 i0 (.int .u8 0) 1 1 Tryd.underlying24 hi hz0 hz1 hz2 rfl (by decide) (.slice va L vc) L _ rfl o1 ⟨w.heap.size, 0, none⟩ 4 4 ((fourI n).map (Value.int .u8)) rfl rfl (cells_new w ((fourI n).map (Value.int .u8)) 5) (ints_one _ _) (by decide) (by unfold maxLen; omega) (by omega) (by simp; omega) _ rfl ?_; intro g1 c1 w1 hown1 hg1 hat1 _; have hb1 : Below B w w1 := below_append ((Below.refl _ w).alloc hB _) (by simp; omega) o1 hg1; rw [← List.map_append] at hown1; have hR : Row w1 B (some ⟨g1, 0, none⟩) (L + 4) c1 (bs ++ fourI n) := hown1; have HA : Hid (Aside w w1 (.slice va L vc) (.slice (some ⟨g1, 0, none⟩) (L + 4) c1)) := aside_of rfl hg1 hat1; clear hat1 hg1 hown1)
  go_ret
  exact ⟨_, _, rfl, hR, hb1, HA.out⟩
end Go.Proofs.YtllmeeebjjmanaaDoor
