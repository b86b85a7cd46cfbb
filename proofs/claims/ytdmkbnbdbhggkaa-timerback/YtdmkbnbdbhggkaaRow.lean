/- A slice of timers that the call itself has made. -/
import Derived.Test.YtdmkbnbdbhggkaaNext
import Derived.Deep.AppendLies
namespace Go.Proofs.Ytdmkbnbdbhggkaa
open Go.ChangeShapes Go.WideShapes Go.ChangeAt Go.RowKit Go.Shelf
set_option linter.unusedVariables false

theorem Try.info31 : (Try.prog.info? 31).map (fun i => (i.zero, i.size, i.bytes)) = some (some (.agg #[.int .i64 0, .int .i64 0]), 2, 16) := by kernel_rfl

/-- The cells of timers. -/
def tcells (l : List Tm) : List Value := l.flatMap fun b => [Value.int .i64 b.1, Value.int .i64 b.2]

theorem tcells_len (l : List Tm) : (tcells l).length = l.length * 2 := by
  induction l with
  | nil => rfl
  | cons a r ih =>
    have : tcells (a :: r) = [Value.int .i64 a.1, Value.int .i64 a.2] ++ tcells r := rfl
    rw [this, List.length_append, ih, List.length_cons]; simp; omega
theorem tcells_append (l r : List Tm) : tcells (l ++ r) = tcells l ++ tcells r := by simp [tcells]
theorem tcells_snoc (l : List Tm) (x : Tm) : tcells (l ++ [x]) = tcells l ++ [.int .i64 x.1, .int .i64 x.2] := by simp [tcells]
theorem tcells_at : ∀ (l : List Tm) (j : Nat), j < l.length → (tcells l)[j * 2]? = some (.int .i64 (l[j]?.getD (0, 0)).1) ∧ (tcells l)[j * 2 + 1]? = some (.int .i64 (l[j]?.getD (0, 0)).2)
  | [], j, h => by simp at h
  | a :: r, 0, _ => by simp [tcells]
  | a :: r, j + 1, h => by
    have : tcells (a :: r) = Value.int .i64 a.1 :: Value.int .i64 a.2 :: tcells r := rfl
    have ih := tcells_at r j (by simpa using h)
    rw [this, show (j + 1) * 2 = j * 2 + 1 + 1 from by omega]
    simpa using ih
theorem tcells_one (l : List Tm) : ∀ u ∈ tcells l, u.oneCell' = true := by
  intro u hu
  simp only [tcells, List.mem_flatMap] at hu
  obtain ⟨x, _, hu⟩ := hu
  simp only [List.mem_cons, List.not_mem_nil, or_false] at hu
  rcases hu with rfl | rfl <;> rfl
theorem tcells_take (l : List Tm) (n : Nat) : tcells (l.take n) = (tcells l).take (n * 2) := by
  induction n generalizing l with
  | zero => simp [tcells]
  | succ n ih =>
    cases l with
    | nil => simp [tcells]
    | cons a r =>
      have : tcells (a :: r) = Value.int .i64 a.1 :: Value.int .i64 a.2 :: tcells r := rfl
      have h2 : tcells (a :: r.take n) = Value.int .i64 a.1 :: Value.int .i64 a.2 :: tcells (r.take n) := rfl
      rw [List.take_succ_cons, h2, this, show (n + 1) * 2 = n * 2 + 1 + 1 from by omega, List.take_succ_cons, List.take_succ_cons, ih]
theorem tcells_drop (l : List Tm) (n : Nat) : tcells (l.drop n) = (tcells l).drop (n * 2) := by
  induction n generalizing l with
  | zero => simp
  | succ n ih =>
    cases l with
    | nil => simp [tcells]
    | cons a r =>
      have : tcells (a :: r) = Value.int .i64 a.1 :: Value.int .i64 a.2 :: tcells r := rfl
      rw [List.drop_succ_cons, this, show (n + 1) * 2 = n * 2 + 1 + 1 from by omega, List.drop_succ_cons, List.drop_succ_cons, ih]

/-- A slice of timers that is the call's own. -/
def RowT (w : World) (B : Nat) (va : Option Addr) (L vc : Nat) (l : List Tm) : Prop :=
  w.ownsRow B 31 2 (.slice va L vc) L (tcells l)

theorem RowT.nil (w : World) (B : Nat) : RowT w B none 0 0 [] := World.ownsRow_nil _ _ _ _
theorem RowT.len {w : World} {B : Nat} {va : Option Addr} {L vc : Nat} {l : List Tm} (h : RowT w B va L vc l) : l.length = L := by
  have := h.1; rw [tcells_len] at this; omega
theorem RowT.max {w : World} {B : Nat} {va : Option Addr} {L vc : Nat} {l : List Tm} (h : RowT w B va L vc l) : L ≤ vc ∧ vc ≤ maxLen := by
  rcases h.2 with ⟨e, h0⟩ | ⟨g, cap, cur, e, hg, hh, hc, hm, hsz, ht⟩
  · cases e; exact ⟨by omega, by simp [maxLen]⟩
  · cases e; exact ⟨hc, hm⟩
theorem RowT.tims {w : World} {B : Nat} {va : Option Addr} {L vc : Nat} {l : List Tm} (h : RowT w B va L vc l) : TimsAt w va l := by
  have hL := h.len
  have hM := h.max
  refine ⟨by omega, fun j hj => ?_⟩
  rcases h.2 with ⟨e, h0⟩ | ⟨g, cap, cur, e, hg, hh, hc, hm, hsz, ht⟩
  · omega
  · cases e
    refine ⟨g, 0, rfl, ?_⟩
    have hat := tcells_at l j hj
    have h2 : ∀ k, k < L * 2 → cur[k]? = (tcells l)[k]? := fun k hk => by
      have : (cur.toList.take (L * 2))[k]? = (tcells l)[k]? := by rw [ht]
      rw [List.getElem?_take_of_lt hk] at this
      simpa using this
    have e1 := h2 (j * 2) (by omega)
    have e2 := h2 (j * 2 + 1) (by omega)
    rw [hat.1] at e1
    rw [hat.2] at e2
    unfold World.cell?
    simp only [hh, Nat.zero_add]
    exact ⟨e1, e2⟩
theorem RowT.alloc {w : World} {B : Nat} {va : Option Addr} {L vc : Nat} {l : List Tm} (h : RowT w B va L vc l) (o : Obj) : RowT (w.alloc o) B va L vc l := World.ownsRow.alloc h o
theorem RowT.below {w w' : World} {B : Nat} {va : Option Addr} {L vc : Nat} {l : List Tm} (h : RowT w B va L vc l) {n : Nat} (hb : Below n w w') (hn : w.heap.size ≤ n) : RowT w' B va L vc l := by
  refine ⟨h.1, ?_⟩
  rcases h.2 with h' | ⟨g, c, cur, e, hB, hh, r⟩
  · exact .inl h'
  · exact .inr ⟨g, c, cur, e, hB, (hb.block g (by have := (Array.getElem?_eq_some_iff.1 hh).1; omega)).trans hh, r⟩
theorem RowT.mono {w : World} {B B' : Nat} {va : Option Addr} {L vc : Nat} {l : List Tm} (h : RowT w B va L vc l) (hb : B' ≤ B) : RowT w B' va L vc l := by
  refine ⟨h.1, ?_⟩
  rcases h.2 with h' | ⟨g, c, cur, e, hB, r⟩
  · exact .inl h'
  · exact .inr ⟨g, c, cur, e, by omega, r⟩
/-- What an append hands back is a slice. -/
theorem rowT_of {w : World} {B n : Nat} {v : Value} {l : List Tm} (h : w.ownsRow B 31 2 v n (tcells l)) : ∃ va vc, v = .slice va n vc ∧ RowT w B va n vc l := by
  rcases h.2 with ⟨rfl, h0⟩ | ⟨g, c, cur, rfl, r⟩
  · subst h0
    exact ⟨none, 0, rfl, h⟩
  · exact ⟨_, _, rfl, h⟩

theorem cells_new (w : World) (vs : List Value) (t : TypeId) : ∀ j u, vs[j]? = some u → (w.alloc (.cells vs.toArray t)).cell? ((⟨w.heap.size, 0, none⟩ : Addr).add j) = some u := by
  intro j u hj
  have h1 := World.cell?_alloc_at (w := w) vs.toArray t w.heap.size j rfl
  have h2 : (⟨w.heap.size, 0, none⟩ : Addr).add j = ⟨w.heap.size, j, none⟩ := by
    cases j <;> simp [Addr.add]
  rw [h2, h1]
  simpa using hj
theorem two_one {f t : Int} : ∀ u ∈ [Value.int .i64 f, Value.int .i64 t], u.oneCell' = true := by
  intro u hu
  simp only [List.mem_cons, List.not_mem_nil, or_false] at hu
  rcases hu with rfl | rfl <;> rfl
theorem below_append {B : Nat} {w wa w' : World} {e : TypeId} {s n : Nat} {v : Value} {xs : List Value} (hB : Below B w wa) (hs : B ≤ wa.heap.size) (ho : wa.ownsRow B e s v n xs) (hg : wa.grownBy w' v.ownBlock) : Below B w w' := by
  refine hB.grown hg hs (fun k hk => ?_)
  rcases ho.2 with ⟨rfl, _⟩ | ⟨g, cap, cur, rfl, h, _⟩
  · simp [Value.ownBlock] at hk
  · simp only [Value.ownBlock, Option.some.injEq] at hk
    omega
/-- The cells of timers, as the laws on append ask for them. -/
theorem TimsAt.news {w : World} {b o : Nat} {l : List Tm} (h : TimsAt w (some ⟨b, o, none⟩) l) : ∀ j u, (tcells l)[j]? = some u → w.cell? ((⟨b, o, none⟩ : Addr).add j) = some u := by
  intro j u hj
  have hjl : j < l.length * 2 := by
    rcases Nat.lt_or_ge j (l.length * 2) with h | h
    · exact h
    · rw [List.getElem?_eq_none (by rw [tcells_len]; exact h)] at hj; cases hj
  have hplain : (⟨b, o, none⟩ : Addr).add j = ⟨b, o + j, none⟩ := by unfold Addr.add; split <;> simp_all
  rw [hplain]
  obtain ⟨_, _, e, hc, hd⟩ := h.2 (j / 2) (by omega)
  cases e
  have hat := tcells_at l (j / 2) (by omega)
  rcases Nat.mod_two_eq_zero_or_one j with h0 | h0
  · have ej : j / 2 * 2 = j := by omega
    rw [ej] at hc hat
    rw [hc, ← hat.1]; exact hj
  · have ej : j / 2 * 2 + 1 = j := by omega
    rw [show o + j / 2 * 2 + 1 = o + (j / 2 * 2 + 1) from by omega, ej] at hd
    rw [ej] at hat
    rw [hd, ← hat.2]; exact hj
end Go.Proofs.Ytdmkbnbdbhggkaa
