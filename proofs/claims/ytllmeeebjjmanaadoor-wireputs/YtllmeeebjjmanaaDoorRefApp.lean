/- Appends to what the call owns, wherever they stand; the document's own Pseudo, as a row. -/
import Derived.Test.YtllmeeebjjmanaaDoorRefOpts
import Derived.Test.YtllmeeebjjmanaaDoorPut
import Derived.Test.YtllmeeebjjmanaaDoorRefSum
import Derived.Test.YtllmeeebjjmanaaDoorRead
namespace Go.Proofs.YtllmeeebjjmanaaDoor
open Go.ChangeShapes Go.WideShapes Go.ChangeAt Go.RowKit Go.Shelf
set_option linter.unusedVariables false

theorem Below.on {w w1 w2 : World} (h : Below w.heap.size w w1) (h' : Below w1.heap.size w1 w2) : Below w.heap.size w w2 := h.trans (h'.mono h.size)
theorem Row.of_heap {w w' : World} {B : Nat} {va : Option Addr} {L vc : Nat} {bs : List Int} (h : Row w B va L vc bs) (e : w'.heap = w.heap) : Row w' B va L vc bs := by
  refine ⟨h.1, ?_⟩
  rw [e]
  exact h.2
theorem BytesAt.of_heap {w w' : World} {a : Option Addr} {bs : List Int} (h : BytesAt w a bs) (e : w'.heap = w.heap) : BytesAt w' a bs := by
  refine ⟨h.1, h.2.1, fun j hj => ?_⟩
  obtain ⟨b, o, ea, hc⟩ := h.2.2 j hj
  refine ⟨b, o, ea, ?_⟩
  rw [← hc]
  unfold World.cell?
  rw [e]

/-- Bytes in another block than the one that was appended to. -/
theorem BytesAt.aside {w w' : World} {p : Nat} {row : Option Nat} {bs : List Int} (h : BytesAt w (some ⟨p, 0, none⟩) bs) (hg : w.grownBy w' row) (hne : row ≠ some p) : BytesAt w' (some ⟨p, 0, none⟩) bs := by
  refine ⟨h.1, h.2.1, fun j hj => ?_⟩
  obtain ⟨b, o, ea, hc⟩ := h.2.2 j hj
  cases ea
  exact ⟨_, _, rfl, (hg.cell_far ⟨p, 0 + j, none⟩ (by have := lt_of_cell hc; exact this) (fun e => hne e.symm)).trans hc⟩

theorem app_run (w : World) (B : Nat) (va : Option Addr) (L vc : Nat) (bs : List Int) (xa : Option Addr) (m xc : Nat) (news : List Int) (ty : TypeId) (hR : Row w B va L vc bs) (hn : BytesAt w xa news) (hl : news.length = m) (h0 : xa = none → xc = 0) (hb : L + m ≤ 140737488355328) (hB : B ≤ w.heap.size) :
    ∃ va' vc' w', (Builtin.append_ #[24, 24] ty #[.slice va L vc, .slice xa m xc]).run Tryd.prog w = .ok (.slice va' (L + m) vc') w' ∧ Row w' B va' (L + m) vc' (bs ++ news) ∧ Below B w w' ∧ w.grownBy w' (Value.ownBlock (.slice va L vc)) := by
  obtain ⟨i0, hi, hz0, hz1, hz2⟩ := info_parts Tryd.info5
  cases xa with
  | none =>
    obtain rfl := h0 rfl
    obtain rfl : news = [] := by
      cases news with
      | nil => rfl
      | cons x r => obtain ⟨_, _, e, _⟩ := hn.2.2 0 (by simp); cases e
    subst hl
    refine ⟨va, vc, w, run_append_owned_none w B 24 ty 5 i0 1 Tryd.underlying24 hi _ L _ hR, by rw [List.append_nil]; exact hR, Below.refl _ _, ⟨rfl, rfl, rfl, Nat.le_refl _, fun _ _ _ => rfl⟩⟩
  | some x =>
    obtain ⟨v', w', hr, h2, h3, _⟩ := run_append_own (P := Tryd.prog) w B 24 ty 5 i0 (.int .u8 0) 1 1 Tryd.underlying24 hi hz0 hz1 hz2 rfl (by decide) _ L _ hR x m xc (news.map (Value.int .u8)) (by simp [hl]) (news_all hn) (ints_one _ _) (by unfold maxLen; omega) (by omega) hB
    rw [← List.map_append] at h2
    obtain ⟨va', vc', rfl, hR'⟩ := row_of h2
    exact ⟨va', vc', w', hr, hR', below_append (Below.refl _ w) hB hR h3, h3⟩

/-- An append at a step of a region that draws. -/
theorem step_app {w : World} {ops : Array Oper} {o : Oper} {a : Act} {K : Act → World → Prop} {Q : Exit → Act → World → Prop} {E : Prop} (hgd : o.guard = none) (s x : Operand)
    (ho : o.op = .call { callee := .builtin .append, args := #[s, x], argTypes := #[24, 24] })
    (B : Nat) (va : Option Addr) (L vc : Nat) (bs : List Int) (xa : Option Addr) (m xc : Nat) (news : List Int) (hs : a.eval s = .slice va L vc) (hx : a.eval x = .slice xa m xc)
    (hR : Row w B va L vc bs) (hn : BytesAt w xa news) (hl : news.length = m) (h0 : xa = none → xc = 0) (hb : L + m ≤ 140737488355328) (hB : B ≤ w.heap.size)
    (h : ∀ va' vc' w', Row w' B va' (L + m) vc' (bs ++ news) → Below B w w' → w.grownBy w' (Value.ownBlock (.slice va L vc)) → K (a.put o.dst (.slice va' (L + m) vc')) w') :
    if Region.wanted o (yielded ops a.tmps) = true then Oper.wp Tryd.prog o a w K Q else E := by
  have hw : Region.wanted o (yielded ops a.tmps) = true := by simp [Region.wanted, hgd]
  rw [if_pos hw]
  obtain ⟨va', vc', w', hr, h1, h2, h3⟩ := app_run w B va L vc bs xa m xc news o.type hR hn hl h0 hb hB
  unfold Oper.wp execOp
  simp only [ho, resolve, invoke, builtin, Sem.run_bind, Sem.run_pure, Result.andThen_ok, List.map_toArray, List.map_cons, List.map_nil, hs, hx, hr]
  exact h va' vc' w' h1 h2 h3

/-- An append in a region that does not. -/
theorem list_app {w : World} {ops : Array Oper} {rest : List Oper} {o : Oper} {a : Act} {Q : Exit → Act → World → Prop} (hgd : o.guard = none) (s x : Operand)
    (ho : o.op = .call { callee := .builtin .append, args := #[s, x], argTypes := #[24, 24] })
    (B : Nat) (va : Option Addr) (L vc : Nat) (bs : List Int) (xa : Option Addr) (m xc : Nat) (news : List Int) (hs : a.eval s = .slice va L vc) (hx : a.eval x = .slice xa m xc)
    (hR : Row w B va L vc bs) (hn : BytesAt w xa news) (hl : news.length = m) (h0 : xa = none → xc = 0) (hb : L + m ≤ 140737488355328) (hB : B ≤ w.heap.size)
    (h : ∀ va' vc' w', Row w' B va' (L + m) vc' (bs ++ news) → Below B w w' → w.grownBy w' (Value.ownBlock (.slice va L vc)) → wpList Tryd.prog ops Q rest (a.put o.dst (.slice va' (L + m) vc')) w') : wpList Tryd.prog ops Q (o :: rest) a w :=
  wpList_plain hgd fun K hK => by
    obtain ⟨va', vc', w', hr, h1, h2, h3⟩ := app_run w B va L vc bs xa m xc news o.type hR hn hl h0 hb hB
    unfold Oper.wp execOp
    simp only [ho, resolve, invoke, builtin, Sem.run_bind, Sem.run_pure, Result.andThen_ok, List.map_toArray, List.map_cons, List.map_nil, hs, hx, hr]
    exact hK _ _ (h va' vc' w' h1 h2 h3)

set_option maxRecDepth 100000 in
set_option maxHeartbeats 1000000 in
theorem refPseudo_row (src dst n : Int) (w : World) (hs : 0 ≤ src ∧ src ≤ 4294967295) (hd : 0 ≤ dst ∧ dst ≤ 4294967295) (hn : -9223372036854775808 ≤ n ∧ n ≤ 9223372036854775807) :
    Calls Tryd.prog 21 #[.int .u32 src, .int .u32 dst, .int .i64 n] w fun e W' => ∃ a c, e = .returned (.slice a 12 c) ∧ Row W' w.heap.size a 12 c (pseudoI src dst n) ∧ Below w.heap.size w W' := by
  obtain ⟨i0, hi, hz0, hz1, hz2⟩ := info_parts Tryd.info5
  have o1 := owns_new w w.heap.size (Nat.le_refl _) 5 ((fourI src).map (Value.int .u8)) (by simp [fourI, maxLen])
  have o2 : ((w.alloc (.cells ((fourI src).map (Value.int .u8)).toArray 5)).alloc (.cells ((fourI dst).map (Value.int .u8)).toArray 5)).ownsRow w.heap.size 5 1 (.slice (some ⟨w.heap.size, 0, none⟩) 4 4) 4 ((fourI src).map (Value.int .u8)) := o1.alloc (.cells ((fourI dst).map (Value.int .u8)).toArray 5)
  have hc1 := cells_new (w.alloc (.cells ((fourI src).map (Value.int .u8)).toArray 5)) ((fourI dst).map (Value.int .u8)) 5
  have Hc1 : Hid (∀ (j : Nat) (u : Value), ((fourI dst).map (Value.int .u8))[j]? = some u → ((w.alloc (.cells ((fourI src).map (Value.int .u8)).toArray 5)).alloc (.cells ((fourI dst).map (Value.int .u8)).toArray 5)).cell? ((⟨w.heap.size + 1, 0, none⟩ : Addr).add j) = some u) := by
    rw [World.size_alloc] at hc1
    exact hc1
  clear o1 hc1
  obtain ⟨m, hm⟩ : ∃ m, n.tmod 65536 = m := ⟨_, rfl⟩
  have htm := tmod_of n
  rw [hm] at htm
  have hmb : -65536 < m ∧ m < 65536 := by omega
  obtain ⟨K, hK⟩ : ∃ K, n % 65536 = K := ⟨_, rfl⟩
  have hKb : 0 ≤ K ∧ K ≤ 65535 := by omega
  have HK : Hid (n % 65536 = K) := hK
  rcases (show (m < 0 ∧ m + 65536 = K) ∨ (0 ≤ m ∧ K = m) from by omega) with ⟨hm0, hmK⟩ | ⟨hm0, rfl⟩
  all_goals clear hK htm
  all_goals go_enter Tryd.func21, Tryd.ntmps21
  all_goals go_wp2_with (first | (go_at_call_of 38 src; refine (four_any _ _ hs).mono ?_; rintro e w' ⟨rfl, rfl⟩) | (go_at_call_of 38 dst; refine (four_any _ _ hd).mono ?_; rintro e w' ⟨rfl, rfl⟩) | (at_builtin; refine wpList_append_own _ rfl (.tmp 15) (.tmp 17) 24 rfl w.heap.size 5 i0 (.int .u8 0) 1 1 Tryd.underlying24 hi hz0 hz1 hz2 rfl (by decide) _ 4 _ rfl o2 ⟨w.heap.size + 1, 0, none⟩ 4 4 ((fourI dst).map (Value.int .u8)) rfl rfl Hc1.out (ints_one _ _) (by decide) (by decide) (by simp; omega) ?_; intro v1 w1 hown1 hg1 _; have hb1 : Below w.heap.size w w1 := below_append (((Below.refl _ w).alloc (Nat.le_refl _) _).alloc (by simp) _) (by simp; omega) o2 hg1; have hs1 := hb1.size; obtain ⟨g1, c1, rfl⟩ := ownsRow_succ hown1) | (at_builtin; refine wpList_append_own _ rfl (.tmp 18) (.tmp 25) 24 rfl w.heap.size 5 i0 (.int .u8 0) 1 1 Tryd.underlying24 hi hz0 hz1 hz2 rfl (by decide) _ 8 _ rfl (hown1.alloc _) ⟨w1.heap.size, 0, none⟩ 4 4 ([0, 6, K / 256, K % 256].map (Value.int .u8)) rfl rfl (cells_new w1 ([0, 6, K / 256, K % 256].map (Value.int .u8)) 5) (ints_one _ _) (by decide) (by decide) (by simp; omega) ?_; intro v2 w2 hown2 hg2 _; have hb2 : Below w.heap.size w w2 := below_append (hb1.alloc hs1 _) (by simp; omega) (hown1.alloc _) hg2; obtain ⟨g2, c2, rfl⟩ := ownsRow_succ hown2))
  all_goals go_ret
  all_goals (
    have e1 : K / 256 = n / 256 % 256 := by have := HK.out; omega
    have e2 : K % 256 = n % 256 := by have := HK.out; omega
    rw [e1, e2] at hown2
    have hown3 : w2.ownsRow w.heap.size 5 1 (.slice (some ⟨g2, 0, none⟩) 12 c2) 12 ((pseudoI src dst n).map (Value.int .u8)) := by simpa [pseudoI] using hown2
    exact ⟨_, _, rfl, hown3, hb2⟩)
end Go.Proofs.YtllmeeebjjmanaaDoor
