/- Records appended, copied and joined. -/
import Derived.Test.YtfkkpianlmpknaaBase
import Derived.Maps.AppendAt
import Derived.Laws.AppendOwnNone
import Derived.Lib.AppendZeros
import Derived.Lib.SliceRun
namespace Go.Proofs.Ytfkkpianlmpknaa
open Go.ChangeShapes Go.WideShapes Go.ChangeAt Go.RowKit Go.Shelf
set_option linter.unusedVariables false
attribute [local go_sem] Oper.semAt_some

/-- The block that a row lies in. -/
def lies (A : Option Addr) (k : Nat) : Prop := A = some ⟨k, 0, none⟩
theorem row_case {w : World} {B : Nat} {va : Option Addr} {L vc : Nat} {l : List Rc} (h : RowR w B va L vc l) : (va = none ∧ (Value.slice va L vc).ownBlock = none) ∨ ∃ g, va = some ⟨g, 0, none⟩ ∧ (Value.slice va L vc).ownBlock = some g ∧ B ≤ g ∧ g < w.heap.size ∧ (∃ cur c, w.heap[g]? = some (.cells cur 25 c)) := by
  rcases h.2 with ⟨e, h0⟩ | ⟨g, cap, cur, e, hg, hh, r⟩
  · cases e; exact .inl ⟨rfl, rfl⟩
  · cases e; exact .inr ⟨g, rfl, rfl, hg, (Array.getElem?_eq_some_iff.1 hh).1, _, _, hh⟩
theorem RowR.ge {w : World} {B : Nat} {va : Option Addr} {L vc : Nat} {l : List Rc} (h : RowR w B va L vc l) {k : Nat} (hk : lies va k) : B ≤ k ∧ k < w.heap.size := by
  rcases row_case h with ⟨e, _⟩ | ⟨g, e, _, hBg, hlt, _⟩
  · rw [lies, e] at hk; cases hk
  · rw [lies, e] at hk; cases hk; exact ⟨hBg, hlt⟩
/-- One record appended to a row of one's own. -/
theorem app_one (w : World) (B : Nat) (va : Option Addr) (n vc : Nat) (xs : List Rc) (hO : RowR w B va n vc xs) (hB : B ≤ w.heap.size) (g : Nat) (x : Rc) (hx : Box w g 25 (rv x)) (hb : (n + 1) * 80 ≤ 140737488355328) :
    ∃ va' vc' w', (Builtin.append_ #[46, 46] 46 #[.slice va n vc, .slice (some ⟨g, 0, none⟩) 1 1]).run Try.prog w = .ok (.slice va' (n + 1) vc') w' ∧ RowR w' B va' (n + 1) vc' (xs ++ [x]) ∧ w.grownBy w' (Value.slice va n vc).ownBlock ∧ (∀ k, lies va' k → lies va k ∨ w.heap.size ≤ k) := by
  obtain ⟨i0, hi, hz0, hz1, hz2⟩ := info_parts Try.info25
  obtain ⟨v', w', hr, h1, h2, _, hat⟩ := run_append_own_at (P := Try.prog) w B 46 46 25 i0 (.agg #[.int .i64 rz.f, .int .i64 rz.t, .bool rz.fin, .int .i64 rz.sent, .int .i64 rz.tx, .bool rz.sk, .bool rz.lo, .bool rz.ag, .int .i64 rz.gv, .int .i64 rz.ga, .int .i64 rz.fa, .bool rz.idl]) 12 80 Try.underlying46 hi hz0 hz1 hz2 rfl (by decide) _ n _ hO ⟨g, 0, none⟩ 1 1 (rv x) (by rw [rv_len]) (fun j u hj => by rw [add_lit, Nat.zero_add]; exact hx.cell j hj) (rv_one x) (by unfold maxLen; omega) hb hB
  rw [← tcells_snoc] at h1
  obtain ⟨va', vc', rfl, hR⟩ := rowR_of h1
  refine ⟨va', vc', w', hr, hR, h2, fun k hk => ?_⟩
  rcases row_case hR with ⟨e, _⟩ | ⟨g', e, e2, _⟩
  · rw [lies, e] at hk; cases hk
  · rw [lies, e] at hk; cases hk
    rw [e2] at hat
    rcases hat with h | h
    · rcases row_case hO with ⟨_, e3⟩ | ⟨g, e3, e4, _⟩
      · rw [e3] at h; cases h
      · rw [e4] at h; cases h; exact .inl e3
    · cases h; exact .inr (Nat.le_refl _)
/-- A row that another's append leaves. -/
theorem RowR.aside {w w' : World} {B B' : Nat} {va vb : Option Addr} {n vc m vd : Nat} {l r : List Rc} (h : RowR w B vb m vd r) (ha : RowR w B' va n vc l) (hg : w.grownBy w' (Value.slice va n vc).ownBlock) (hd : ∀ k, lies va k → ¬ lies vb k) : RowR w' B vb m vd r :=
  h.of_block (fun g e => hg.block g (h.ge (k := g) e).2 (fun e2 => by
    rcases row_case ha with ⟨_, e3⟩ | ⟨g', e3, e4, _⟩
    · rw [e3] at e2; cases e2
    · rw [e4] at e2; cases e2; exact hd g e3 e))
theorem Box.row {w w' : World} {B : Nat} {va : Option Addr} {n vc : Nat} {l : List Rc} {g : Nat} {t : TypeId} {cs : List Value} (hx : Box w g t cs) (ha : RowR w B va n vc l) (hg : w.grownBy w' (Value.slice va n vc).ownBlock) (hB : g < B) : Box w' g t cs :=
  hx.kept hg (fun e => by
    rcases row_case ha with ⟨_, e3⟩ | ⟨g', e3, e4, h5, _⟩
    · rw [e3] at e; cases e
    · rw [e4] at e; cases e; omega)
set_option maxRecDepth 100000 in
set_option maxHeartbeats 4000000 in
theorem clone_any (A : Option Addr) (cap : Nat) (ts : List Rc) (w : World) (hT : RecsAt w A ts) (hA : A = none → cap = 0) (hb : ts.length * 80 ≤ 140737488355328) :
    Calls Try.prog 35 #[.slice A ts.length cap] w fun e W' => ∃ va vc, e = .returned (.slice va ts.length vc) ∧ RowR W' w.heap.size va ts.length vc ts ∧ Below w.heap.size w W' := by
  cases A with
  | none =>
    have hl : ts = [] := by
      cases ts with
      | nil => rfl
      | cons a r => obtain ⟨_, _, e, _⟩ := hT.2 0 (by simp); cases e
    subst hl
    clear hT hb
    have q46 : ∀ (w : World) (a : Option Addr) (n c n' c' : Nat), (binOp .eql 46 (.slice a n c) (.slice none n' c')).run Try.prog w = .ok (.bool a.isNone) w := fun w a n c n' c' => Lib.run_eql_slice_nil w _ _ a n c n' c' Try.underlying46
    go_enter Try.func35, Try.ntmps35
    go_wp2_with fail
    go_ret
    exact ⟨none, 0, rfl, RowR.nil _ _, Below.refl _ _⟩
  | some ad =>
    obtain ⟨va', vc', w', hr, hR, hg⟩ := app_row (w.alloc (.cells #[] 25)) w.heap.size (some ⟨w.heap.size, 0, none⟩) 0 0 [] (owns_empty w _ (Nat.le_refl _)) (by simp) (some ad) cap ts (hT.alloc _) (fun h => by cases h) (by omega)
    have HB : Hid (Below w.heap.size w w') := below_append (below_new w _) (by simp) (owns_empty w _ (Nat.le_refl _)) hg
    have HR : Hid (RowR w' w.heap.size va' ts.length vc' ts) := by simpa [Hid] using hR
    have HRN : Hid ((Builtin.append_ #[46, 46] 46 #[.slice (some ⟨w.heap.size, 0, none⟩) 0 0, .slice (some ad) ts.length cap]).run Try.prog (w.alloc (.cells #[] 25)) = .ok (.slice va' ts.length vc') w') := by
      unfold Hid; rw [hr, Nat.zero_add]
    clear hT hA hb hr hR hg
    obtain ⟨n, hn⟩ : ∃ n, ts.length = n := ⟨_, rfl⟩
    rw [hn] at HR HRN ⊢
    have q46 : ∀ (w : World) (a : Option Addr) (n c n' c' : Nat), (binOp .eql 46 (.slice a n c) (.slice none n' c')).run Try.prog w = .ok (.bool a.isNone) w := fun w a n c n' c' => Lib.run_eql_slice_nil w _ _ a n c n' c' Try.underlying46
    go_enter Try.func35, Try.ntmps35
    go_wp2_with (at_builtin; refine Lib.wpList_append_run (w.alloc (.cells #[] 25)) rfl (.tmp 5) (.tmp 6) 46 46 rfl (.slice (some ⟨w.heap.size, 0, none⟩) 0 0) (.slice (some ad) n cap) rfl rfl (.slice va' n vc') w' HRN.out ?_)
    go_ret
    exact ⟨va', vc', rfl, HR.out, HB.out⟩
set_option maxRecDepth 100000 in
set_option maxHeartbeats 4000000 in
theorem copy_any (A : Option Addr) (cap : Nat) (ts : List Rc) (w : World) (hT : RecsAt w A ts) (hA : A = none → cap = 0) (hb : ts.length * 80 ≤ 140737488355328) :
    Calls Try.prog 24 #[.slice A ts.length cap] w fun e W' => ∃ va vc, e = .returned (.slice va ts.length vc) ∧ RowR W' w.heap.size va ts.length vc ts ∧ Below w.heap.size w W' := by
  obtain ⟨va', vc', w', hr, hR, hg⟩ := app_row (w.alloc (.cells #[] 25)) w.heap.size (some ⟨w.heap.size, 0, none⟩) 0 0 [] (owns_empty w _ (Nat.le_refl _)) (by simp) A cap ts (hT.alloc _) hA (by omega)
  have HB : Hid (Below w.heap.size w w') := below_append (below_new w _) (by simp) (owns_empty w _ (Nat.le_refl _)) hg
  have HR : Hid (RowR w' w.heap.size va' ts.length vc' ts) := by simpa [Hid] using hR
  have HRN : Hid ((Builtin.append_ #[46, 46] 46 #[.slice (some ⟨w.heap.size, 0, none⟩) 0 0, .slice A ts.length cap]).run Try.prog (w.alloc (.cells #[] 25)) = .ok (.slice va' ts.length vc') w') := by
    unfold Hid; rw [hr, Nat.zero_add]
  clear hT hA hb hr hR hg
  obtain ⟨n, hn⟩ : ∃ n, ts.length = n := ⟨_, rfl⟩
  rw [hn] at HR HRN ⊢
  go_enter Try.func24, Try.ntmps24
  go_wp2_with (at_builtin; refine Lib.wpList_append_run (w.alloc (.cells #[] 25)) rfl (.tmp 3) (.tmp 4) 46 46 rfl (.slice (some ⟨w.heap.size, 0, none⟩) 0 0) (.slice A n cap) rfl rfl (.slice va' n vc') w' HRN.out ?_)
  go_ret
  exact ⟨va', vc', rfl, HR.out, HB.out⟩
theorem tcells_set : ∀ (l : List Rc) (j k : Nat) (y : Rc) (v : Value), j < l.length → k < 12 → rv y = (rv (nth l j)).set k v → tcells (l.set j y) = (tcells l).set (j * 12 + k) v
  | [], j, k, y, v, h, _, _ => by simp at h
  | a :: r, 0, k, y, v, _, hk, hy => by
    have e : nth (a :: r) 0 = a := by simp [nth]
    rw [e] at hy
    rw [List.set_cons_zero, tcells_cons, tcells_cons, hy, Nat.zero_mul, Nat.zero_add, List.set_append_left _ _ (by rw [rv_len]; exact hk)]
  | a :: r, j + 1, k, y, v, h, hk, hy => by
    have e : nth (a :: r) (j + 1) = nth r j := by simp [nth]
    rw [e] at hy
    have ih := tcells_set r j k y v (by simpa using h) hk hy
    rw [List.set_cons_succ, tcells_cons, tcells_cons, ih, List.set_append_right _ _ (by rw [rv_len]; omega), rv_len, show (j + 1) * 12 + k - 12 = j * 12 + k from by omega]
theorem row_set {w : World} {B g L vc : Nat} {l : List Rc} (h : RowR w B (some ⟨g, 0, none⟩) L vc l) (j k : Nat) (hj : j < L) (hk : k < 12) (v : Value) (y : Rc) (hy : rv y = (rv (nth l j)).set k v) :
    RowR (w.setCell ⟨g, j * 12 + k, none⟩ v) B (some ⟨g, 0, none⟩) L vc (l.set j y) := by
  have hl := h.len
  obtain ⟨g', cur, e, hB, hh, hc, hm, hs, ht⟩ := row_at h (by omega)
  cases e
  have h1 := setCell_block w ⟨g, j * 12 + k, none⟩ v cur.toArray 25 (0, 0) rfl hh
  simp only [List.setIfInBounds_toArray] at h1
  refine row_mk (cur := cur.set (j * 12 + k) v) hB h1 hc hm (by simpa using hs) (by simpa using hl) ?_
  rw [tcells_set l j k y v (by omega) hk hy, ← ht, List.take_set]
theorem row_frozen {w : World} {B g L vc : Nat} {l : List Rc} (h : RowR w B (some ⟨g, 0, none⟩) L vc l) (i : Nat) : w.frozen? ⟨g, i, none⟩ = false := by
  rcases h.2 with ⟨e, _⟩ | ⟨g', cap, cur, e, hg, hh, r⟩
  · cases e
  · cases e; simp [World.frozen?, hh]
theorem nth_set_self {l : List Rc} {j : Nat} (h : j < l.length) (y : Rc) : nth (l.set j y) j = y := by simp [nth, h]
theorem nth_set_other {l : List Rc} {j i : Nat} (h : i ≠ j) (y : Rc) : nth (l.set j y) i = nth l i := by
  unfold nth; rw [List.getElem?_set_ne (fun e => h e.symm)]
theorem row_cells {w : World} {B g L vc : Nat} {l : List Rc} (h : RowR w B (some ⟨g, 0, none⟩) L vc l) (j : Nat) (hj : j < L) : RecCells w g (j * 12) (nth l j) := by
  obtain ⟨b, o, e, hc⟩ := h.recs.2 j (by rw [h.len]; exact hj)
  cases e
  rwa [Nat.zero_add] at hc
theorem row_some {w : World} {B : Nat} {va : Option Addr} {L vc : Nat} {l : List Rc} (h : RowR w B va L vc l) (h0 : 0 < L) : ∃ g, va = some ⟨g, 0, none⟩ ∧ B ≤ g ∧ g < w.heap.size := by
  obtain ⟨g, cur, e, hB, hh, _⟩ := row_at h h0
  exact ⟨g, e, hB, (Array.getElem?_eq_some_iff.1 hh).1⟩
end Go.Proofs.Ytfkkpianlmpknaa
