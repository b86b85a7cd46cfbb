/- The contracts of renew, with and without. -/
import Derived.Test.YtkbgpbhlcmainaaLeaf
import Derived.Laws.ResultCell
namespace Go.Proofs.Ytkbgpbhlcmainaa
open Go.ChangeShapes Go.WideShapes Go.ChangeAt Go.RowKit
set_option linter.unusedVariables false

theorem below_more {a w : World} (h : Below a.heap.size a w) (o : Obj) : Below a.heap.size a (w.alloc o) := h.alloc h.size o

/-- Block g is a datagram's box. -/
def BoxD (W : World) (g : Nat) (u v : Value) : Prop := W.heap[g]? = some (.cells #[u, v] 26 (0, 0))
theorem BoxD.lt {W : World} {g : Nat} {u v : Value} (h : BoxD W g u v) : g < W.heap.size := (Array.getElem?_eq_some_iff.1 h).1
theorem BoxD.cell0 {W : World} {g : Nat} {u v : Value} (h : BoxD W g u v) : W.cell? ⟨g, 0, none⟩ = some u := by simp [World.cell?, show W.heap[g]? = _ from h]
theorem BoxD.cell1 {W : World} {g : Nat} {u v : Value} (h : BoxD W g u v) : W.cell? ⟨g, 1, none⟩ = some v := by simp [World.cell?, show W.heap[g]? = _ from h]
theorem BoxD.frozen {W : World} {g : Nat} {u v : Value} (h : BoxD W g u v) (j : Nat) : W.frozen? ⟨g, j, none⟩ = false := by simp [World.frozen?, show W.heap[g]? = _ from h]
theorem BoxD.new (W : World) (u v : Value) : BoxD (W.alloc (.cells #[u, v] 26)) W.heap.size u v := heap_alloc_new W _
theorem BoxD.below {W W' : World} {g n : Nat} {u v : Value} (h : BoxD W g u v) (hb : Below n W W') (hn : g < n) : BoxD W' g u v := (hb.block g hn).trans h
theorem BoxD.later {W W' : World} {g : Nat} {u v : Value} (h : BoxD W g u v) (hb : Below W.heap.size W W') : BoxD W' g u v := h.below hb h.lt
theorem BoxD.alloc {W : World} {g : Nat} {u v : Value} (h : BoxD W g u v) (o : Obj) : BoxD (W.alloc o) g u v := h.later ((Below.refl _ W).alloc (Nat.le_refl _) o)
theorem setCell_block (W : World) (a : Addr) (x : Value) (cs : Array Value) (t : TypeId) (fr : Nat × Nat) (hs : a.spot = none) (h : W.heap[a.block]? = some (.cells cs t fr)) : (W.setCell a x).heap[a.block]? = some (.cells (cs.setIfInBounds a.off x) t fr) := by
  unfold World.setCell
  simp [Array.getElem?_modify]
  exact ⟨_, h, by simp [hs]⟩
theorem BoxD.put {W : World} {g : Nat} {u v : Value} (h : BoxD W g u v) (x y : Value) : BoxD ((W.setCell ⟨g, 0, none⟩ x).setCell ⟨g, 1, none⟩ y) g x y := by
  have e1 := setCell_block W ⟨g, 0, none⟩ x #[u, v] 26 (0, 0) rfl h
  have e2 := setCell_block (W.setCell ⟨g, 0, none⟩ x) ⟨g, 1, none⟩ y _ 26 (0, 0) rfl e1
  exact e2

theorem results_box {fn : Func} {p : Tmp} (h : fn.results = #[.cell p 26]) (tmps : Array Value) (w : World) (g : Nat) (u v : Value) (hp : tmps.getD p undef = .pointer (some ⟨g, 0, none⟩)) (hg : BoxD w g u v) :
    (results fn tmps).run Try.prog w = .ok (.agg #[u, v]) w :=
  results_cell_row (P := Try.prog) h tmps w g 26 #[u, v] (0, 0) _ hp hg Try.underlying26 rfl (by kernel_rfl)

/-- An append of datagrams at a step of a region that draws: to a row that came in. -/
theorem step_full {w : World} {ops : Array Oper} {o : Oper} {a : Act} {K : Act → World → Prop} {Q : Exit → Act → World → Prop} {E : Prop} (hgd : o.guard = none) (s x : Operand)
    (ho : o.op = .call { callee := .builtin .append, args := #[s, x], argTypes := #[22, 22] })
    (A0 : Option Addr) (n : Nat) (xs : List En) (A : Option Addr) (m c : Nat) (l : List En) (hs : a.eval s = .slice A0 n n) (hx : a.eval x = .slice A m c)
    (hX : EntsAt w A0 xs) (hn : xs.length = n) (hT : EntsAt w A l) (hl : l.length = m) (hA : A = none → c = 0) (hb : (n + m) * 32 ≤ 140737488355328)
    (h : ∀ va' vc' w', EntsAt w' va' (xs ++ l) → n + m ≤ vc' → vc' ≤ maxLen → (va' = none → vc' = 0) → Below w.heap.size w w' → K (a.put o.dst (.slice va' (n + m) vc')) w') :
    if Region.wanted o (yielded ops a.tmps) = true then Oper.wp Try.prog o a w K Q else E := by
  have hw : Region.wanted o (yielded ops a.tmps) = true := by simp [Region.wanted, hgd]
  rw [if_pos hw]
  obtain ⟨va', vc', w', hr, h1, h2, h3, h4, h5⟩ := appE_full w A0 n xs hX hn A m c l o.type hT hl hA hb
  unfold Oper.wp execOp
  simp only [ho, resolve, invoke, builtin, Sem.run_bind, Sem.run_pure, Result.andThen_ok, List.map_toArray, List.map_cons, List.map_nil, hs, hx, hr]
  exact h va' vc' w' h1 h2 h3 h4 h5
/-- .. to a row of one's own. -/
theorem step_own {w : World} {ops : Array Oper} {o : Oper} {a : Act} {K : Act → World → Prop} {Q : Exit → Act → World → Prop} {E : Prop} (hgd : o.guard = none) (s x : Operand)
    (ho : o.op = .call { callee := .builtin .append, args := #[s, x], argTypes := #[22, 22] })
    (B : Nat) (va : Option Addr) (n vc : Nat) (xs : List En) (A : Option Addr) (m c : Nat) (l : List En) (hs : a.eval s = .slice va n vc) (hx : a.eval x = .slice A m c)
    (hO : RowE w B va n vc xs) (hB : B ≤ w.heap.size) (hT : EntsAt w A l) (hl : l.length = m) (hA : A = none → c = 0) (hb : (n + m) * 32 ≤ 140737488355328)
    (h : ∀ va' vc' w', RowE w' B va' (n + m) vc' (xs ++ l) → w.grownBy w' (Value.slice va n vc).ownBlock → Below B w w' → K (a.put o.dst (.slice va' (n + m) vc')) w') :
    if Region.wanted o (yielded ops a.tmps) = true then Oper.wp Try.prog o a w K Q else E := by
  have hw : Region.wanted o (yielded ops a.tmps) = true := by simp [Region.wanted, hgd]
  rw [if_pos hw]
  obtain ⟨va', vc', w', hr, h1, h2, h3⟩ := appE_run w B va n vc xs hO hB A m c l o.type hT hl hA hb
  unfold Oper.wp execOp
  simp only [ho, resolve, invoke, builtin, Sem.run_bind, Sem.run_pure, Result.andThen_ok, List.map_toArray, List.map_cons, List.map_nil, hs, hx, hr]
  exact h va' vc' w' h1 h2 h3
/-- An append of bytes at a step of a region that draws. -/
theorem step_app {w : World} {ops : Array Oper} {o : Oper} {a : Act} {K : Act → World → Prop} {Q : Exit → Act → World → Prop} {E : Prop} (hgd : o.guard = none) (s x : Operand)
    (ho : o.op = .call { callee := .builtin .append, args := #[s, x], argTypes := #[24, 24] })
    (B : Nat) (va : Option Addr) (L vc : Nat) (bs : List Int) (xa : Option Addr) (m xc : Nat) (news : List Int) (hs : a.eval s = .slice va L vc) (hx : a.eval x = .slice xa m xc)
    (hR : Row w B va L vc bs) (hn : BytesAt w xa news) (hl : news.length = m) (h0 : xa = none → xc = 0) (hb : L + m ≤ 140737488355328) (hB : B ≤ w.heap.size)
    (h : ∀ va' vc' w', Row w' B va' (L + m) vc' (bs ++ news) → Below B w w' → w.grownBy w' (Value.ownBlock (.slice va L vc)) → K (a.put o.dst (.slice va' (L + m) vc')) w') :
    if Region.wanted o (yielded ops a.tmps) = true then Oper.wp Try.prog o a w K Q else E := by
  have hw : Region.wanted o (yielded ops a.tmps) = true := by simp [Region.wanted, hgd]
  rw [if_pos hw]
  obtain ⟨va', vc', w', hr, h1, h2, h3⟩ := app_run w B va L vc bs xa m xc news o.type hR hn hl h0 hb hB
  unfold Oper.wp execOp
  simp only [ho, resolve, invoke, builtin, Sem.run_bind, Sem.run_pure, Result.andThen_ok, List.map_toArray, List.map_cons, List.map_nil, hs, hx, hr]
  exact h va' vc' w' h1 h2 h3

theorem EntsAt.of_heap {w w' : World} {A : Option Addr} {es : List En} (h : EntsAt w A es) (e : w'.heap = w.heap) : EntsAt w' A es := fun j x hj => by
  obtain ⟨b, o, ea, hc, hd⟩ := h j x hj
  refine ⟨b, o, ea, ?_, ?_⟩
  · rw [← hc]; unfold World.cell?; rw [e]
  · rw [← hd]; unfold World.cell?; rw [e]
theorem EntsAt.alloc {w : World} {A : Option Addr} {es : List En} (h : EntsAt w A es) (o : Obj) : EntsAt (w.alloc o) A es := h.below ((Below.refl _ w).alloc (Nat.le_refl _) o) (Nat.le_refl _)

theorem Row.aside {w : World} {B : Nat} {va : Option Addr} {L vc : Nat} {bs : List Int} (h : Row w B va L vc bs) (p : Addr) (u : Value) (hp : p.block < B) : Row (w.setCell p u) B va L vc bs := by
  refine ⟨h.1, ?_⟩
  rcases h.2 with h' | ⟨g, c, cur, e, hB, hh, r⟩
  · exact .inl h'
  · exact .inr ⟨g, c, cur, e, hB, (Below.heap_setCell w p u g (by omega)).trans hh, r⟩

set_option maxRecDepth 100000 in
set_option maxHeartbeats 2000000 in
theorem renew_any (x : En) (w : World) (h : x.ok w) :
    Calls Try.prog 29 #[.agg #[.slice x.a x.bs.length x.c, .int .i64 x.t]] w fun e w' => ∃ va vc, e = .returned (.agg #[.slice va x.bs.length vc, .int .i64 x.t]) ∧ Row w' w.heap.size va x.bs.length vc x.bs ∧ Below w.heap.size w w' := by
  have HO : Hid (x.ok w) := h
  clear h
  go_enter Try.func29, Try.ntmps29
  go_upto_region 1 with fail
  have b0 : Below w.heap.size w ((w.alloc (.cells #[.slice x.a x.bs.length x.c, .int .i64 x.t] 26)).alloc (.cells #[.slice none 0 0, .int .i64 0] 26)) := below_more (below_more (Below.refl _ _) _) _
  have hX := (BoxD.new w (.slice x.a x.bs.length x.c) (.int .i64 x.t)).alloc (.cells #[.slice none 0 0, .int .i64 0] 26)
  have hY := BoxD.new (w.alloc (.cells #[.slice x.a x.bs.length x.c, .int .i64 x.t] 26)) (.slice none 0 0) (.int .i64 0)
  rw [World.size_alloc] at hY
  obtain ⟨W0, hW0⟩ : ∃ W0, (w.alloc (.cells #[.slice x.a x.bs.length x.c, .int .i64 x.t] 26)).alloc (.cells #[.slice none 0 0, .int .i64 0] 26) = W0 := ⟨_, rfl⟩
  rw [hW0] at b0 hX hY ⊢
  have HX : Hid (∀ wr, Below W0.heap.size W0 wr → BoxD wr w.heap.size (.slice x.a x.bs.length x.c) (.int .i64 x.t)) := fun wr hb => hX.later hb
  have HY : Hid (∀ wr, Below W0.heap.size W0 wr → BoxD wr (w.heap.size + 1) (.slice none 0 0) (.int .i64 0)) := fun wr hb => hY.later hb
  have HB : Hid (Below w.heap.size w W0) := b0
  have HS : Hid (w.heap.size + 1 < W0.heap.size) := hY.lt
  clear hW0 hX hY b0
  have k0 := (HX.out _ (Below.refl _ _)).cell0
  have k1 := (HX.out _ (Below.refl _ _)).cell1
  go_region_with
    (go_at_call 32; refine (clone_any x.a x.c x.bs _ (HO.out.1.below (B := w.heap.size) (HB.out.trans (Below.mono (B := W0.heap.size) (by repeat (first | with_reducible exact Below.refl _ _ | with_reducible assumption | with_reducible refine Below.drew ?_ | with_reducible refine below_drewN ?_ _)) HB.out.size)) (Nat.le_refl _)) HO.out.2.1).mono ?_; rintro e w1 ⟨va, vc, rfl, hR', hb'⟩; have hb1 : Below W0.heap.size W0 w1 := Below.on (by repeat (first | with_reducible exact Below.refl _ _ | with_reducible assumption | with_reducible refine Below.drew ?_ | with_reducible refine below_drewN ?_ _)) hb'; have hR1 : Row w1 W0.heap.size va x.bs.length vc x.bs := hR'.mono (by exact Nat.le_refl _); have k2 := (HX.out _ hb1).cell1; have k3 := (HY.out _ hb1).cell0; have k4 := (HY.out _ hb1).cell1; have k5 := (HY.out _ hb1).frozen 0; have k6 := (HY.out _ hb1).frozen 1)
  all_goals go_wp2_with fail
  all_goals refine bodyPost_ret (results_box rfl _ _ (w.heap.size + 1) _ _ rfl ((HY.out _ hb1).put _ _)) rfl ?_
  all_goals exact ⟨va, vc, rfl, ((hR1.aside ⟨w.heap.size + 1, 0, none⟩ _ HS.out).aside ⟨w.heap.size + 1, 1, none⟩ _ HS.out).mono HB.out.size, (((HB.out.trans (hb1.mono HB.out.size)).setCell (Nat.le_succ _) _).setCell (Nat.le_succ _) _)⟩

/-! ### Rows cut -/
theorem elem22 : Try.prog.elem 22 = 26 := by kernel_rfl
theorem under22 : Try.prog.underlying 22 = some (.slice (Try.prog.elem 22)) := by rw [elem22]; exact Try.underlying22
theorem size26 (w : World) : (sizeOf (Try.prog.elem 22)).run Try.prog w = .ok 2 w := by kernel_rfl
/-- 'x[:k:k]'. -/
theorem sl_three (a : Option Addr) (n c k : Nat) (ki : Int) (hk : ki = (k : Int)) (h : k ≤ c) (w : World) :
    (Instr.slice 22 (.slice a n c) none (some (.int .i64 ki)) (some (.int .i64 ki))).run Try.prog w = .ok (.slice a k k) w := by
  subst hk
  rw [run_slice_hm w 22 a n c under22 .i64 .i64 k k (by omega) (by omega) (by omega), size26]
  cases a with
  | none => simp [sliced]
  | some x => simp [sliced, Addr.add]
/-- 'x[k:]'. -/
def cutE (a : Option Addr) (c k : Nat) : Option Addr := if c = k then a else a.map (·.add (k * 2))
theorem sl_cut (a : Option Addr) (n c k : Nat) (ki : Int) (hk : ki = (k : Int)) (h : k ≤ n) (w : World) :
    (Instr.slice 22 (.slice a n c) (some (.int .i64 ki)) none none).run Try.prog w = .ok (.slice (cutE a c k) (n - k) (c - k)) w := by
  subst hk
  rw [run_slice_l w 22 a n c under22 .i64 k (by omega) (by omega), size26]
  simp [cutE, sliced]
theorem EntsAt.cut {w : World} {a : Option Addr} {es : List En} (h : EntsAt w a es) (k c : Nat) (hk : k ≤ es.length) (hc : es.length ≤ c) : EntsAt w (cutE a c k) (es.drop k) := fun j x hj => by
  rw [List.getElem?_drop] at hj
  have hlt : k + j < es.length := by
    rcases Nat.lt_or_ge (k + j) es.length with h | h
    · exact h
    · rw [List.getElem?_eq_none h] at hj; cases hj
  obtain ⟨b, o, rfl, hcc, hd⟩ := h (k + j) x hj
  refine ⟨b, o + k * 2, ?_, ?_, ?_⟩
  · rw [cutE, if_neg (by omega), Option.map_some, add_plain]
  · rw [show o + k * 2 + j * 2 = o + (k + j) * 2 from by omega]; exact hcc
  · rw [show o + k * 2 + j * 2 + 1 = o + (k + j) * 2 + 1 from by omega]; exact hd
theorem EntsAt.take {w : World} {a : Option Addr} {es : List En} (h : EntsAt w a es) (k : Nat) : EntsAt w a (es.take k) := fun j x hj => by
  refine h j x ?_
  rw [List.getElem?_take] at hj
  split at hj
  · exact hj
  · cases hj
theorem cutE_none {a : Option Addr} {c k : Nat} (h : a = none → c = 0) : cutE a c k = none → c - k = 0 := by
  intro e
  unfold cutE at e
  split at e
  · have := h e; omega
  · cases a with
    | none => have := h rfl; omega
    | some x => cases e

set_option maxRecDepth 100000 in
set_option maxHeartbeats 2000000 in
theorem with_any (A : Option Addr) (n c : Nat) (l : List Dg) (x : En) (w : World) (hD : DatsAt w A n c l) (hx : x.ok w) (hn : (n + 1) * 32 ≤ 140737488351232) :
    Calls Try.prog 27 #[.slice A n c, .agg #[.slice x.a x.bs.length x.c, .int .i64 x.t]] w fun e w' => ∃ va vc, e = .returned (.slice va (n + 1) vc) ∧ DatsAt w' va (n + 1) vc (l ++ [x.dg]) ∧ Below w.heap.size w w' := by
  obtain ⟨es, he, hl, hr, hc, hm, h0, hE, hok⟩ := hD
  have hel : es.length = n := by rw [← hl, ← he, List.length_map]
  have HD : Hid (es.map En.dg = l ∧ (∀ y ∈ es, y.ok w) ∧ x.ok w ∧ EntsAt w A es ∧ es.length = n) := ⟨he, hok, hx, hE, hel⟩
  have e1 := sl_three A n c n (n : Int) rfl hc
  clear he hok hx hE hel hl h0
  go_enter Try.func27, Try.ntmps27
  go_upto_region 1 with fail
  have b0 : Below w.heap.size w (w.alloc (.cells #[.slice x.a x.bs.length x.c, .int .i64 x.t] 26)) := below_more (Below.refl _ _) _
  have hX := BoxD.new w (.slice x.a x.bs.length x.c) (.int .i64 x.t)
  obtain ⟨W0, hW0⟩ : ∃ W0, w.alloc (.cells #[.slice x.a x.bs.length x.c, .int .i64 x.t] 26) = W0 := ⟨_, rfl⟩
  rw [hW0] at b0 hX ⊢
  have k0 := hX.cell0
  have k1 := hX.cell1
  have HB : Hid (Below w.heap.size w W0 ∧ BoxD W0 w.heap.size (.slice x.a x.bs.length x.c) (.int .i64 x.t)) := ⟨b0, hX⟩
  clear hW0 hX b0
  go_region_law (refine step_full rfl (.tmp 10) (.tmp 12) rfl A n es (some ⟨W0.heap.size, 0, none⟩) 1 1 [x] rfl rfl (EntsAt.of_heap (((HD.out.2.2.2.1.below HB.out.1 (Nat.le_refl _))).alloc (.cells #[.slice x.a x.bs.length x.c, .int .i64 x.t] 26)) (by rfl)) HD.out.2.2.2.2 (EntsAt.of_heap (ents_one W0 x) (by rfl)) rfl (fun h => by cases h) (by omega) ?_; intro va vc w1 hE1 hc1 hm1 hn1 hb1)
  all_goals go_wp2_with fail
  all_goals go_ret
  all_goals (
    have hb2 : Below w.heap.size w w1 := HB.out.1.trans ((Below.on (Below.drew (below_more (Below.refl _ W0) (.cells #[.slice x.a x.bs.length x.c, .int .i64 x.t] 26))) hb1).mono HB.out.1.size)
    refine ⟨va, vc, rfl, ⟨es ++ [x], by rw [List.map_append, HD.out.1]; rfl, by rw [List.length_append, ← HD.out.1, List.length_map, HD.out.2.2.2.2]; rfl, hn, hc1, hm1, hn1, hE1, fun y hy => ?_⟩, hb2⟩
    rcases List.mem_append.1 hy with hy | hy
    · exact (HD.out.2.1 y hy).below hb2 (Nat.le_refl _)
    · simp at hy; subst hy; exact HD.out.2.2.1.below hb2 (Nat.le_refl _))

end Go.Proofs.Ytkbgpbhlcmainaa
