/- Records appended, copied and joined. -/
import Derived.Test.YtokiklaffbdomaaCheck
import Derived.Maps.AppendAt
import Derived.Laws.AppendOwnNone
import Derived.Lib.AppendZeros
import Derived.Lib.SliceRun
namespace Go.Proofs.Ytokiklaffbdomaa
open Go.ChangeShapes Go.WideShapes Go.ChangeAt Go.RowKit Go.Shelf
set_option linter.unusedVariables false
attribute [local go_sem] Oper.semAt_some

/-- The block that a row lies in. -/
def lies (A : Option Addr) (k : Nat) : Prop := A = some ⟨k, 0, none⟩
theorem row_case {w : World} {B : Nat} {va : Option Addr} {L vc : Nat} {l : List Rc} (h : RowR w B va L vc l) : (va = none ∧ (Value.slice va L vc).ownBlock = none) ∨ ∃ g, va = some ⟨g, 0, none⟩ ∧ (Value.slice va L vc).ownBlock = some g ∧ B ≤ g ∧ g < w.heap.size ∧ (∃ cur c, w.heap[g]? = some (.cells cur 28 c)) := by
  rcases h.2 with ⟨e, h0⟩ | ⟨g, cap, cur, e, hg, hh, r⟩
  · cases e; exact .inl ⟨rfl, rfl⟩
  · cases e; exact .inr ⟨g, rfl, rfl, hg, (Array.getElem?_eq_some_iff.1 hh).1, _, _, hh⟩
theorem RowR.ge {w : World} {B : Nat} {va : Option Addr} {L vc : Nat} {l : List Rc} (h : RowR w B va L vc l) {k : Nat} (hk : lies va k) : B ≤ k ∧ k < w.heap.size := by
  rcases row_case h with ⟨e, _⟩ | ⟨g, e, _, hBg, hlt, _⟩
  · rw [lies, e] at hk; cases hk
  · rw [lies, e] at hk; cases hk; exact ⟨hBg, hlt⟩
/-- One record appended to a row of one's own. -/
theorem app_one (w : World) (B : Nat) (va : Option Addr) (n vc : Nat) (xs : List Rc) (hO : RowR w B va n vc xs) (hB : B ≤ w.heap.size) (g : Nat) (x : Rc) (hx : Box w g 28 (rv x)) (hb : (n + 1) * 80 ≤ 140737488355328) :
    ∃ va' vc' w', (Builtin.append_ #[22, 22] 22 #[.slice va n vc, .slice (some ⟨g, 0, none⟩) 1 1]).run Try.prog w = .ok (.slice va' (n + 1) vc') w' ∧ RowR w' B va' (n + 1) vc' (xs ++ [x]) ∧ w.grownBy w' (Value.slice va n vc).ownBlock ∧ (∀ k, lies va' k → lies va k ∨ w.heap.size ≤ k) := by
  obtain ⟨i0, hi, hz0, hz1, hz2⟩ := info_parts Try.info28
  obtain ⟨v', w', hr, h1, h2, _, hat⟩ := run_append_own_at (P := Try.prog) w B 22 22 28 i0 (.agg #[.int .i64 rz.f, .int .i64 rz.t, .bool rz.fin, .int .i64 rz.sent, .int .i64 rz.tx, .bool rz.sk, .bool rz.lo, .bool rz.ag, .int .i64 rz.gv, .int .i64 rz.ga, .int .i64 rz.fa, .bool rz.idl]) 12 80 Try.underlying22 hi hz0 hz1 hz2 rfl (by decide) _ n _ hO ⟨g, 0, none⟩ 1 1 (rv x) (by rw [rv_len]) (fun j u hj => by rw [add_lit, Nat.zero_add]; exact hx.cell j hj) (rv_one x) (by unfold maxLen; omega) hb hB
  rw [← tcells_snoc] at h1
  obtain ⟨va', vc', rfl, hR⟩ := rowR_of h1
  refine ⟨va', vc', w', hr, hR, h2, fun k hk => ?_⟩
  rcases row_case hR with ⟨e, _⟩ | ⟨g', e, e2, _⟩
  · rw [lies, e] at hk; cases hk
  · rw [lies, e] at hk; cases hk
    rw [e2] at hat
    rcases hat with h | h
    · rcases row_case hO with ⟨_, e3⟩ | ⟨g, e3, e4, _⟩
      · rw [e3] at h; cases h
      · rw [e4] at h; cases h; exact .inl e3
    · cases h; exact .inr (Nat.le_refl _)
/-- A row that another's append leaves. -/
theorem RowR.aside {w w' : World} {B B' : Nat} {va vb : Option Addr} {n vc m vd : Nat} {l r : List Rc} (h : RowR w B vb m vd r) (ha : RowR w B' va n vc l) (hg : w.grownBy w' (Value.slice va n vc).ownBlock) (hd : ∀ k, lies va k → ¬ lies vb k) : RowR w' B vb m vd r :=
  h.of_block (fun g e => hg.block g (h.ge (k := g) e).2 (fun e2 => by
    rcases row_case ha with ⟨_, e3⟩ | ⟨g', e3, e4, _⟩
    · rw [e3] at e2; cases e2
    · rw [e4] at e2; cases e2; exact hd g e3 e))
theorem Box.row {w w' : World} {B : Nat} {va : Option Addr} {n vc : Nat} {l : List Rc} {g : Nat} {t : TypeId} {cs : List Value} (hx : Box w g t cs) (ha : RowR w B va n vc l) (hg : w.grownBy w' (Value.slice va n vc).ownBlock) (hB : g < B) : Box w' g t cs :=
  hx.kept hg (fun e => by
    rcases row_case ha with ⟨_, e3⟩ | ⟨g', e3, e4, h5, _⟩
    · rw [e3] at e; cases e
    · rw [e4] at e; cases e; omega)
set_option maxRecDepth 100000 in
set_option maxHeartbeats 4000000 in
theorem clone_any (A : Option Addr) (cap : Nat) (ts : List Rc) (w : World) (hT : RecsAt w A ts) (hA : A = none → cap = 0) (hb : ts.length * 80 ≤ 140737488355328) :
    Calls Try.prog 33 #[.slice A ts.length cap] w fun e W' => ∃ va vc, e = .returned (.slice va ts.length vc) ∧ RowR W' w.heap.size va ts.length vc ts ∧ Below w.heap.size w W' := by
  cases A with
  | none =>
    have hl : ts = [] := by
      cases ts with
      | nil => rfl
      | cons a r => obtain ⟨_, _, e, _⟩ := hT.2 0 (by simp); cases e
    subst hl
    clear hT hb
    have q22 : ∀ (w : World) (a : Option Addr) (n c n' c' : Nat), (binOp .eql 22 (.slice a n c) (.slice none n' c')).run Try.prog w = .ok (.bool a.isNone) w := fun w a n c n' c' => Lib.run_eql_slice_nil w _ _ a n c n' c' Try.underlying22
    go_enter Try.func33, Try.ntmps33
    go_wp2_with fail
    go_ret
    exact ⟨none, 0, rfl, RowR.nil _ _, Below.refl _ _⟩
  | some ad =>
    obtain ⟨va', vc', w', hr, hR, hg⟩ := app_row (w.alloc (.cells #[] 28)) w.heap.size (some ⟨w.heap.size, 0, none⟩) 0 0 [] (owns_empty w _ (Nat.le_refl _)) (by simp) (some ad) cap ts (hT.alloc _) (fun h => by cases h) (by omega)
    have HB : Hid (Below w.heap.size w w') := below_append (below_new w _) (by simp) (owns_empty w _ (Nat.le_refl _)) hg
    have HR : Hid (RowR w' w.heap.size va' ts.length vc' ts) := by simpa [Hid] using hR
    have HRN : Hid ((Builtin.append_ #[22, 22] 22 #[.slice (some ⟨w.heap.size, 0, none⟩) 0 0, .slice (some ad) ts.length cap]).run Try.prog (w.alloc (.cells #[] 28)) = .ok (.slice va' ts.length vc') w') := by
      unfold Hid; rw [hr, Nat.zero_add]
    clear hT hA hb hr hR hg
    obtain ⟨n, hn⟩ : ∃ n, ts.length = n := ⟨_, rfl⟩
    rw [hn] at HR HRN ⊢
    have q22 : ∀ (w : World) (a : Option Addr) (n c n' c' : Nat), (binOp .eql 22 (.slice a n c) (.slice none n' c')).run Try.prog w = .ok (.bool a.isNone) w := fun w a n c n' c' => Lib.run_eql_slice_nil w _ _ a n c n' c' Try.underlying22
    go_enter Try.func33, Try.ntmps33
    go_wp2_with (at_builtin; refine Lib.wpList_append_run (w.alloc (.cells #[] 28)) rfl (.tmp 5) (.tmp 6) 22 22 rfl (.slice (some ⟨w.heap.size, 0, none⟩) 0 0) (.slice (some ad) n cap) rfl rfl (.slice va' n vc') w' HRN.out ?_)
    go_ret
    exact ⟨va', vc', rfl, HR.out, HB.out⟩
set_option maxRecDepth 100000 in
set_option maxHeartbeats 4000000 in
theorem copy_any (A : Option Addr) (cap : Nat) (ts : List Rc) (w : World) (hT : RecsAt w A ts) (hA : A = none → cap = 0) (hb : ts.length * 80 ≤ 140737488355328) :
    Calls Try.prog 13 #[.slice A ts.length cap] w fun e W' => ∃ va vc, e = .returned (.slice va ts.length vc) ∧ RowR W' w.heap.size va ts.length vc ts ∧ Below w.heap.size w W' := by
  obtain ⟨va', vc', w', hr, hR, hg⟩ := app_row (w.alloc (.cells #[] 28)) w.heap.size (some ⟨w.heap.size, 0, none⟩) 0 0 [] (owns_empty w _ (Nat.le_refl _)) (by simp) A cap ts (hT.alloc _) hA (by omega)
  have HB : Hid (Below w.heap.size w w') := below_append (below_new w _) (by simp) (owns_empty w _ (Nat.le_refl _)) hg
  have HR : Hid (RowR w' w.heap.size va' ts.length vc' ts) := by simpa [Hid] using hR
  have HRN : Hid ((Builtin.append_ #[22, 22] 22 #[.slice (some ⟨w.heap.size, 0, none⟩) 0 0, .slice A ts.length cap]).run Try.prog (w.alloc (.cells #[] 28)) = .ok (.slice va' ts.length vc') w') := by
    unfold Hid; rw [hr, Nat.zero_add]
  clear hT hA hb hr hR hg
  obtain ⟨n, hn⟩ : ∃ n, ts.length = n := ⟨_, rfl⟩
  rw [hn] at HR HRN ⊢
  go_enter Try.func13, Try.ntmps13
  go_wp2_with (at_builtin; refine Lib.wpList_append_run (w.alloc (.cells #[] 28)) rfl (.tmp 3) (.tmp 4) 22 22 rfl (.slice (some ⟨w.heap.size, 0, none⟩) 0 0) (.slice A n cap) rfl rfl (.slice va' n vc') w' HRN.out ?_)
  go_ret
  exact ⟨va', vc', rfl, HR.out, HB.out⟩
end Go.Proofs.Ytokiklaffbdomaa
