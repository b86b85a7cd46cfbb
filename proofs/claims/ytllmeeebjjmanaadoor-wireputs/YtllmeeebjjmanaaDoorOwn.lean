/- A slice of bytes that the call itself has made: read, written, carried along. -/
import Derived.Test.YtllmeeebjjmanaaDoorNew
namespace Go.Proofs.YtllmeeebjjmanaaDoor
open Go.ChangeShapes Go.WideShapes Go.ChangeAt Go.RowKit Go.Shelf
set_option linter.unusedVariables false

/-- The slice at the head of block g, one of the call's own, holds bs. -/
def Owns (w : World) (B g c : Nat) (bs : List Int) : Prop :=
  w.ownsRow B 5 1 (.slice (some ⟨g, 0, none⟩) bs.length c) bs.length (bs.map (Value.int .u8))

theorem Owns.ge {w : World} {B g c : Nat} {bs : List Int} (h : Owns w B g c bs) : B ≤ g := by
  rcases h.2 with ⟨h', _⟩ | ⟨g', c', cur, h', hb, _⟩
  · simp at h'
  · cases h'; exact hb
theorem Owns.lt {w : World} {B g c : Nat} {bs : List Int} (h : Owns w B g c bs) : g < w.heap.size := by
  rcases h.2 with ⟨h', _⟩ | ⟨g', c', cur, h', hb, hh, _⟩
  · simp at h'
  · cases h'; exact (Array.getElem?_eq_some_iff.1 hh).1
theorem Owns.cell {w : World} {B g c : Nat} {bs : List Int} (h : Owns w B g c bs) (j : Nat) (hj : j < bs.length) : w.cell? ⟨g, j, none⟩ = some (.int .u8 (bs[j]?.getD 0)) := by
  rw [World.ownsRow.cellAt h j (by omega)]
  simp [hj]
theorem Owns.frozen {w : World} {B g c : Nat} {bs : List Int} (h : Owns w B g c bs) (j : Nat) : w.frozen? ⟨g, j, none⟩ = false := World.ownsRow.frozenAt h j
theorem Owns.set {w : World} {B g c : Nat} {bs : List Int} (h : Owns w B g c bs) (j : Nat) (x : Int) : Owns (w.setCell ⟨g, j, none⟩ (.int .u8 x)) B g c (bs.set j x) := by
  have := (World.ownsRow.stored h j (.int .u8 x)).1
  unfold Owns
  rw [List.map_set, List.length_set]
  exact this
theorem Owns.alloc {w : World} {B g c : Nat} {bs : List Int} (h : Owns w B g c bs) (o : Obj) : Owns (w.alloc o) B g c bs := World.ownsRow.alloc h o
theorem Owns.below {w w' : World} {B g c : Nat} {bs : List Int} (h : Owns w B g c bs) {n : Nat} (hb : Below n w w') (hn : w.heap.size ≤ n) : Owns w' B g c bs := by
  have hlt := h.lt
  unfold Owns at *
  refine ⟨h.1, ?_⟩
  rcases h.2 with ⟨h', _⟩ | ⟨g', c', cur, h', hB, hh, r⟩
  · simp at h'
  · cases h'
    exact .inr ⟨g, c, cur, rfl, hB, (hb.block g (by omega)).trans hh, r⟩
theorem Owns.bytes {w : World} {B g c : Nat} {bs : List Int} (h : Owns w B g c bs) (hb : Byts bs) : BytesAt w (some ⟨g, 0, none⟩) bs := by
  have hm : bs.length ≤ maxLen := by
    rcases h.2 with ⟨h', _⟩ | ⟨g', c', cur, h', _, _, h1, h2, _⟩
    · simp at h'
    · omega
  exact ⟨hm, hb, fun j hj => ⟨g, 0, rfl, by rw [Nat.zero_add]; exact h.cell j hj⟩⟩

/-- What an append has left. -/
theorem owns_of {w : World} {B n : Nat} {v : Value} {bs : List Int} (h : w.ownsRow B 5 1 v n (bs.map (Value.int .u8))) (h0 : 0 < n) : ∃ g c, v = .slice (some ⟨g, 0, none⟩) n c ∧ bs.length = n ∧ Owns w B g c bs := by
  have hl : bs.length = n := by have := h.1; simpa using this
  rcases h.2 with ⟨rfl, h'⟩ | ⟨g, c, cur, rfl, r⟩
  · omega
  · subst hl
    exact ⟨g, c, rfl, rfl, h⟩

/-- The cells of bytes, as the laws on append ask for them. -/
theorem BytesAt.news {w : World} {b o : Nat} {bs : List Int} (h : BytesAt w (some ⟨b, o, none⟩) bs) : ∀ j u, (bs.map (Value.int .u8))[j]? = some u → w.cell? ((⟨b, o, none⟩ : Addr).add j) = some u := by
  intro j u hj
  have hjl : j < bs.length := by
    rcases Nat.lt_or_ge j bs.length with h | h
    · exact h
    · rw [List.getElem?_eq_none (by simpa using h)] at hj; cases hj
  obtain ⟨_, _, e, hc⟩ := h.2.2 j hjl
  cases e
  have hplain : (⟨b, o, none⟩ : Addr).add j = ⟨b, o + j, none⟩ := by unfold Addr.add; split <;> simp_all
  rw [hplain, hc]
  simpa [hjl] using hj

/-- One slice handed as the only part. -/
theorem parts_one (w : World) (a : Option Addr) (bs : List Int) (c : Nat) (h : BytesAt w a bs) : PartsAt (w.alloc (.cells #[.slice a bs.length c] 24)) (some ⟨w.heap.size, 0, none⟩) [bs] :=
  parts_new w [(a, bs, c)] (by simp [maxLen]) (fun v hv => by
    simp only [List.mem_cons, List.not_mem_nil, or_false] at hv
    subst hv
    exact h)
end Go.Proofs.YtllmeeebjjmanaaDoor
