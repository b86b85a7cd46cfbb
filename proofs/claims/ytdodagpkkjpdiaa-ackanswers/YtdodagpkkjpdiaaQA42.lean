/- Texts: Missing. -/
import Derived.Test.YtdodagpkkjpdiaaQA36
import Derived.Test.YtdodagpkkjpdiaaBound
import Derived.Test.YtdodagpkkjpdiaaFind
import Derived.Test.YtdodagpkkjpdiaaSColl
namespace Go.Proofs.Ytdodagpkkjpdiaa
open Go.ChangeShapes Go.WideShapes Go.ChangeAt Go.RowKit
set_option linter.unusedVariables false
set_option linter.unusedSimpArgs false
theorem spns_fit {es : List En} {l : List Pl.Pc} {lo : Int} (hl : es.map En.pc = l) (h0 : 0 ≤ lo) (hlat : Pl.latB lo l) (hm : ∀ p ∈ l, Pl.pend p ≤ 562949953421312) : spnsW es = Pl.spansL l := by
  subst hl
  unfold spnsW Pl.spansL
  rw [List.map_map]
  refine List.map_congr_left (fun x hx => ?_)
  have hp : x.pc ∈ es.map En.pc := List.mem_map.2 ⟨x, hx, rfl⟩
  obtain ⟨h1, h2⟩ := lat_from hlat _ hp
  have h3 := hm _ hp
  have := spW_fit (x := x) ⟨show 0 < x.pc.1 by omega, h2, h3⟩
  unfold spW
  rw [this]; rfl
theorem gaps_in {s : Pl.Rx} {ds : List Int} {x hi : Int} (hs : s.ok) (hm : ∀ p ∈ s.l, Pl.pend p ≤ 1125899906842624) : ∀ g ∈ gapsL (Pl.spansL s.l) (Pl.maxJ x s.n) (Pl.minJ (x + (ds.length : Int)) hi), x ≤ g.1 ∧ g.1 < g.2 ∧ g.2 ≤ x + (ds.length : Int) ∧ s.n ≤ g.1 ∧ g.2 ≤ hi := fun g hg => by
  have hc := spans_chk hs hm
  have hmx := Pl.max_ge x s.n
  have hmn := Pl.min_le (x + (ds.length : Int)) hi
  have hG : ∀ o, Has (gapsL (Pl.spansL s.l) (Pl.maxJ x s.n) (Pl.minJ (x + (ds.length : Int)) hi)) o ↔ Pl.maxJ x s.n ≤ o ∧ o < Pl.minJ (x + (ds.length : Int)) hi ∧ ¬ Has (Pl.spansL s.l) o := fun o => has_gaps hc
  have h1 : g.1 < g.2 := gaps_pos g hg
  have h2 := (hG g.1).1 ⟨g, hg, Int.le_refl _, h1⟩
  have h3 := (hG (g.2 - 1)).1 ⟨g, hg, by omega, by omega⟩
  omega
/-- What the loop has laid. -/
structure MisTo (w wr : World) (x t : Int) (ds : List Int) (cs : List Value) (ga : Option Addr) (q gc : Nat) (gs : List Tm) (va : Option Addr) (i vc : Nat) (fs : List En) : Prop where
  row : RowE wr w.heap.size va i vc fs
  fam : Fam wr w.heap.size fs
  map : fs.map En.pc = (gs.take i).map (frP x ds)
  box : Box wr w.heap.size 46 cs
  at' : Box wr (w.heap.size + 1) 39 [.int .i64 x, .int .i64 t]
  gps : RowT wr w.heap.size ga q gc gs
  bel : Below w.heap.size w wr
/-- One piece more. -/
theorem MisTo.next {w wr Y w2 : World} {x t : Int} {ds : List Int} {cs : List Value} {ga : Option Addr} {q gc : Nat} {gs : List Tm} {va va' : Option Addr} {i vc vc' : Nat} {fs : List En} {y : En} {g : Tm} (h : MisTo w wr x t ds cs ga q gc gs va i vc fs) (hY : Below wr.heap.size wr Y) (hy : y.mine Y wr.heap.size) (hg : Y.grownBy w2 (Value.slice va i vc).ownBlock) (hR : RowE w2 w.heap.size va' (i + 1) vc' (fs ++ [y])) (hgs : gs[i]? = some g) (hyg : y.pc = frP x ds g) : MisTo w w2 x t ds cs ga q gc gs va' (i + 1) vc' (fs ++ [y]) := by
  have hrY := h.row.later hY
  have hmv : ∀ (k : Nat) (e : TypeId), e ≠ 53 → (∃ cur fr, Y.heap[k]? = some (.cells cur e fr)) → w2.heap[k]? = Y.heap[k]? := fun k e he ⟨cur, fr, h1⟩ => hg.block k (Array.getElem?_eq_some_iff.1 h1).1 (fun h2 => by
    obtain ⟨_, _, _, cur2, h3⟩ := owns_lies hrY (owns_block h2.symm)
    exact he (is_type h1 h3))
  have hbY := h.box.later hY
  have haY := h.at'.later hY
  refine ⟨hR, (h.fam.snoc hY h.bel.size hy).moved (fun z hz k hk hl => ?_), ?_, (hmv _ 46 (by decide) ⟨_, _, hbY⟩).trans hbY, (hmv _ 39 (by decide) ⟨_, _, haY⟩).trans haY, ownsRow_moved (h.gps.later hY) (fun k hk hl => ?_), below_append (Below.on h.bel hY) (Below.on h.bel hY).size hrY hg⟩
  · obtain ⟨_, _, _, cur, e⟩ := ((h.fam.snoc hY h.bel.size hy).mine z hz).lies hl
    exact hmv k 5 (by decide) ⟨_, _, e⟩
  · rw [List.map_append, h.map, List.take_add_one, hgs, List.map_append]
    simp [hyg]
  · obtain ⟨_, _, _, cur, e⟩ := owns_lies (h.gps.later hY) hl
    exact hmv k 39 (by decide) ⟨_, _, e⟩
/-- One piece appended, at a step of a region that draws. -/
theorem step_appE {w : World} {ops : Array Oper} {o : Oper} {a : Act} {K : Act → World → Prop} {Q : Exit → Act → World → Prop} {E : Prop} (hgd : o.guard = none) (s x : Operand)
    (ho : o.op = .call { callee := .builtin .append, args := #[s, x], argTypes := #[44, 44] })
    (B : Nat) (va : Option Addr) (n vc : Nat) (xs : List En) (A : Addr) (y : En) (hs : a.eval s = .slice va n vc) (hx : a.eval x = .slice (some A) 1 1)
    (hO : RowE w B va n vc xs) (hB : B ≤ w.heap.size) (hT : EntsAt w (some A) [y]) (hb : (n + 1) * 32 ≤ 140737488355328)
    (h : ∀ va' vc' w', RowE w' B va' (n + 1) vc' (xs ++ [y]) → w.grownBy w' (Value.slice va n vc).ownBlock → K (a.put o.dst (.slice va' (n + 1) vc')) w') :
    if Region.wanted o (yielded ops a.tmps) = true then Oper.wp Try.prog o a w K Q else E := by
  have hw : Region.wanted o (yielded ops a.tmps) = true := by simp [Region.wanted, hgd]
  rw [if_pos hw]
  obtain ⟨va', vc', w', hr, h1, h2, h3⟩ := appE_run w B va n vc xs hO hB (some A) 1 1 [y] o.type hT rfl (fun h => by cases h) hb
  unfold Oper.wp execOp
  simp only [ho, resolve, invoke, builtin, Sem.run_bind, Sem.run_pure, Result.andThen_ok, List.map_toArray, List.map_cons, List.map_nil, hs, hx, hr]
  exact h va' vc' w' h1 h2
set_option maxRecDepth 100000 in
set_option maxHeartbeats 8000000 in
theorem missing_any (r : Pl.Rv) (h : Hd) (x t : Int) (da : Option Addr) (dl dc : Nat) (ds : List Int) (w : World) (H : RvAt w r h) (hlow : lowB r) (hlat : Pl.latB r.s.n r.s.l) (hlm : ∀ p ∈ r.s.l, Pl.pend p ≤ 562949953421312) (hd : SlAt w da dc ds) (hdl : ds.length = dl) (ht : x + (dl : Int) = t) (hx : -2147483648 ≤ x ∧ x ≤ 1125899906842624) :
    Calls Try.prog 51 #[.agg #[.int .i64 r.s.n, .slice h.ua r.s.u.length h.uc, .slice h.la h.es.length h.lc, .int .i64 r.cap, .int .i64 r.shift, .int .i64 r.edge, .int .u32 r.recent, .bool r.stamps, .bool r.sacks, .int .i64 r.fin, .bool r.dn, .slice h.fa r.first.length h.fc, .int .u32 r.irs, .int .u32 r.own, .bool r.stamp], .agg #[.int .i64 x, .int .i64 t], .slice da dl dc] w fun e w' => ∃ (fs : List En) (va : Option Addr) (vc : Nat), e = .returned (.slice va fs.length vc) ∧ RowE w' w.heap.size va fs.length vc fs ∧ Fam w' w.heap.size fs ∧ fs.map En.pc = (gapsL (Pl.spansL r.s.l) (Pl.maxJ x r.s.n) (Pl.minJ (x + (ds.length : Int)) (boundI r))).map (frP x ds) ∧ Below w.heap.size w w' := by
  obtain ⟨W0, hW0⟩ : ∃ W0, (w.alloc (.cells #[.int .i64 r.s.n, .slice h.ua r.s.u.length h.uc, .slice h.la h.es.length h.lc, .int .i64 r.cap, .int .i64 r.shift, .int .i64 r.edge, .int .u32 r.recent, .bool r.stamps, .bool r.sacks, .int .i64 r.fin, .bool r.dn, .slice h.fa r.first.length h.fc, .int .u32 r.irs, .int .u32 r.own, .bool r.stamp] 46)).alloc (.cells #[.int .i64 x, .int .i64 t] 39) = W0 := ⟨_, rfl⟩
  have b0 : Below w.heap.size w W0 := by rw [← hW0]; exact below_more (below_more (Below.refl _ _) _) _
  have hX : Box W0 w.heap.size 46 [.int .i64 r.s.n, .slice h.ua r.s.u.length h.uc, .slice h.la h.es.length h.lc, .int .i64 r.cap, .int .i64 r.shift, .int .i64 r.edge, .int .u32 r.recent, .bool r.stamps, .bool r.sacks, .int .i64 r.fin, .bool r.dn, .slice h.fa r.first.length h.fc, .int .u32 r.irs, .int .u32 r.own, .bool r.stamp] := by rw [← hW0]; exact Box.alloc (Box.new w 46 (rvL r h)) _
  have hA : Box W0 (w.heap.size + 1) 39 [.int .i64 x, .int .i64 t] := by rw [← hW0]; have := Box.new (w.alloc (.cells (rvL r h).toArray 46)) 39 [.int .i64 x, .int .i64 t]; rwa [World.size_alloc] at this
  have hs0 : W0.heap.size = w.heap.size + 2 := by rw [← hW0]; simp
  have hdr := hd.1.1
  rw [hdl] at hdr
  have cB := fun W => bound_walk r h W hlow
  obtain ⟨bd, hbd⟩ : ∃ bd, boundI r = bd := ⟨_, rfl⟩
  simp only [hbd] at cB
  obtain ⟨mx, hmx⟩ : ∃ mx, (if x < r.s.n then r.s.n else x) = mx := ⟨_, rfl⟩
  obtain ⟨mn, hmn⟩ : ∃ mn, (if bd < t then bd else t) = mn := ⟨_, rfl⟩
  have h10 : lowB r := hlow
  have hspn := spns_fit (lo := r.s.n) H.les h10.1.1 hlat hlm
  have hlm2 : ∀ p ∈ r.s.l, Pl.pend p ≤ 1125899906842624 := fun p hp => by have := hlm p hp; omega
  have hchk : chk (-1) (Pl.spansL r.s.l) = true := spans_chk (hlat.mono (by have := h10.1.1; omega)) hlm2
  obtain ⟨gs, hgs⟩ : ∃ gs, gapsL (Pl.spansL r.s.l) mx mn = gs := ⟨_, rfl⟩
  have e1 : Pl.maxJ x r.s.n = mx := by rw [← hmx]; rfl
  have e2 : Pl.minJ (x + (ds.length : Int)) bd = mn := by rw [hdl, ht, ← hmn]; rfl
  have hgin := gaps_in (s := r.s) (ds := ds) (x := x) (hi := bd) hlat hlm2
  rw [e1, e2, hgs] at hgin
  have hgv : gapsV (spnsW h.es) (mx, mn) = gs := by unfold gapsV; rw [hspn, if_pos hchk]; exact hgs
  have hgl : gs.length ≤ h.es.length + 1 := by
    have := gaps_len (Pl.spansL r.s.l) mx mn
    rw [hgs] at this
    have h2 : (Pl.spansL r.s.l).length = h.es.length := by unfold Pl.spansL; rw [List.length_map]; exact H.len
    omega
  have hre := H.late.reach
  have HH : Hid (RvAt w r h ∧ SlAt w da dc ds ∧ ds.length = dl ∧ x + (dl : Int) = t ∧ gapsV (spnsW h.es) (mx, mn) = gs ∧ gapsL (Pl.spansL r.s.l) (Pl.maxJ x r.s.n) (Pl.minJ (x + (ds.length : Int)) (boundI r)) = gs) := ⟨H, hd, hdl, ht, hgv, by rw [hbd, e1, e2]; exact hgs⟩
  have HG : Hid (∀ g ∈ gs, x ≤ g.1 ∧ g.1 < g.2 ∧ g.2 ≤ x + (ds.length : Int) ∧ r.s.n ≤ g.1 ∧ g.2 ≤ bd) := hgin
  have HX : Hid (Box W0 w.heap.size 46 [.int .i64 r.s.n, .slice h.ua r.s.u.length h.uc, .slice h.la h.es.length h.lc, .int .i64 r.cap, .int .i64 r.shift, .int .i64 r.edge, .int .u32 r.recent, .bool r.stamps, .bool r.sacks, .int .i64 r.fin, .bool r.dn, .slice h.fa r.first.length h.fc, .int .u32 r.irs, .int .u32 r.own, .bool r.stamp] ∧ Box W0 (w.heap.size + 1) 39 [.int .i64 x, .int .i64 t] ∧ W0.heap.size = w.heap.size + 2 ∧ Below w.heap.size w W0) := ⟨hX, hA, hs0, b0⟩
  have HHB : Hid (RvAt w r h) := H
  rw [show (x + (ds.length : Int)) = t by rw [hdl]; exact ht] at HG
  clear H hlow hlat hlm hd hdl hX hA hs0 b0 h10 hspn hlm2 hchk hgs e1 e2 hgin hgv hbd ht
  rw [HH.out.2.2.2.2.2]
  go_enter Try.func51, Try.ntmps51
  go_upto_region 2 with fail
  clear hW0
  go_cut [8] (fun v8 wx => ∃ p : Nat, v8 = .pointer (some ⟨p, 0, none⟩) ∧ Hid (Box wx p 39 [.int .i64 mx, .int .i64 mn] ∧ Below W0.heap.size W0 wx))
  case first =>
    obtain ⟨S, hS⟩ : ∃ S : World → Prop, S = fun W => W.cell? ⟨w.heap.size, 0, none⟩ = some (.int .i64 r.s.n) ∧ W.cell? ⟨w.heap.size, 1, none⟩ = some (.slice h.ua r.s.u.length h.uc) ∧ W.cell? ⟨w.heap.size, 2, none⟩ = some (.slice h.la h.es.length h.lc) ∧ W.cell? ⟨w.heap.size, 3, none⟩ = some (.int .i64 r.cap) ∧ W.cell? ⟨w.heap.size, 4, none⟩ = some (.int .i64 r.shift) ∧ W.cell? ⟨w.heap.size, 5, none⟩ = some (.int .i64 r.edge) ∧ W.cell? ⟨w.heap.size, 6, none⟩ = some (.int .u32 r.recent) ∧ W.cell? ⟨w.heap.size, 7, none⟩ = some (.bool r.stamps) ∧ W.cell? ⟨w.heap.size, 8, none⟩ = some (.bool r.sacks) ∧ W.cell? ⟨w.heap.size, 9, none⟩ = some (.int .i64 r.fin) ∧ W.cell? ⟨w.heap.size, 10, none⟩ = some (.bool r.dn) ∧ W.cell? ⟨w.heap.size, 11, none⟩ = some (.slice h.fa r.first.length h.fc) ∧ W.cell? ⟨w.heap.size, 12, none⟩ = some (.int .u32 r.irs) ∧ W.cell? ⟨w.heap.size, 13, none⟩ = some (.int .u32 r.own) ∧ W.cell? ⟨w.heap.size, 14, none⟩ = some (.bool r.stamp) ∧ W.cell? ⟨w.heap.size + 1, 0, none⟩ = some (.int .i64 x) ∧ W.cell? ⟨w.heap.size + 1, 1, none⟩ = some (.int .i64 t) := ⟨_, rfl⟩
    have HSK : Hid (∀ W, Below W0.heap.size W0 W → S W) := fun W hW => by
      rw [hS]
      obtain ⟨c0, c1, c2, c3, c4, c5, c6, c7, c8, c9, c10, c11, c12, c13, c14⟩ := Box.c15 (HX.out.1.later hW)
      exact ⟨c0, c1, c2, c3, c4, c5, c6, c7, c8, c9, c10, c11, c12, c13, c14, (HX.out.2.1.later hW).cell 0 rfl, (HX.out.2.1.later hW).cell 1 rfl⟩
    have z9 : ∀ {ps : String} (ev : Operand → Value), ev (.tmp 17) = .int .i64 t → ev (.tmp 19) = .int .i64 bd → ∀ W, S W → (execOp ev { dst := some 20, op := Go.Op.call { callee := Go.Callee.builtin Go.Builtin.min, args := #[Go.Operand.tmp 17, Go.Operand.tmp 19], argTypes := #[3, 3] }, type := 3, pos := ps, after := #[{ on := 6, ground := Go.Ground.data }, { on := 8, ground := Go.Ground.data }], guard := none }).run Try.prog W = .ok (.value (.int .i64 mn)) W := by
      intro ps ev h0 h1 W hSw
      rw [hS] at hSw
      try dsimp only at hSw
      first | (go_simp; done) | (go_simp; with_reducible rfl)
    have z10 : ∀ {ps : String} (ev : Operand → Value), ev (.tmp 15) = .int .i64 mx → ev (.tmp 20) = .int .i64 mn → ∀ W, S W → (execOp ev { dst := some 21, op := Go.Op.build 39 #[(0, Go.Operand.tmp 15), (1, Go.Operand.tmp 20)], type := 39, pos := ps, after := #[{ on := 4, ground := Go.Ground.data }, { on := 9, ground := Go.Ground.data }], guard := none }).run Try.prog W = .ok (.value (.agg #[.int .i64 mx, .int .i64 mn])) W := by
      intro ps ev h0 h1 W hSw
      rw [hS] at hSw
      try dsimp only at hSw
      first | (go_simp; done) | (go_simp; with_reducible rfl)
    have y0 : ∀ {ps : String} (ev : Operand → Value), ev (.tmp 4) = .pointer (some ⟨w.heap.size + 1, 0, none⟩) → ∀ W, S W → (execOp ev { dst := some 11, op := Go.Op.fieldAddr 39 (Go.Operand.tmp 4) 0, type := 0, pos := ps, after := #[], guard := none }).run Try.prog W = .ok (.value (.pointer (some ⟨w.heap.size + 1, 0, none⟩))) W := by
      intro ps ev h0 W hSw
      rw [hS] at hSw
      try dsimp only at hSw
      first | (go_simp; done) | (go_simp; with_reducible rfl)
    have y1 : ∀ {ps : String} (ev : Operand → Value), ev (.tmp 11) = .pointer (some ⟨w.heap.size + 1, 0, none⟩) → ∀ W, S W → (execOp ev { dst := some 12, op := Go.Op.load 3 (Go.Operand.tmp 11), type := 3, pos := ps, after := #[{ on := 0, ground := Go.Ground.data }], guard := none }).run Try.prog W = .ok (.value (.int .i64 x)) W := by
      intro ps ev h0 W hSw
      rw [hS] at hSw
      try dsimp only at hSw
      first | (go_simp; done) | (go_simp; with_reducible rfl)
    have y2 : ∀ {ps : String} (ev : Operand → Value), ev (.tmp 3) = .pointer (some ⟨w.heap.size, 0, none⟩) → ∀ W, S W → (execOp ev { dst := some 13, op := Go.Op.fieldAddr 46 (Go.Operand.tmp 3) 0, type := 0, pos := ps, after := #[], guard := none }).run Try.prog W = .ok (.value (.pointer (some ⟨w.heap.size, 0, none⟩))) W := by
      intro ps ev h0 W hSw
      rw [hS] at hSw
      try dsimp only at hSw
      first | (go_simp; done) | (go_simp; with_reducible rfl)
    have y3 : ∀ {ps : String} (ev : Operand → Value), ev (.tmp 13) = .pointer (some ⟨w.heap.size, 0, none⟩) → ∀ W, S W → (execOp ev { dst := some 14, op := Go.Op.load 3 (Go.Operand.tmp 13), type := 3, pos := ps, after := #[{ on := 2, ground := Go.Ground.data }], guard := none }).run Try.prog W = .ok (.value (.int .i64 r.s.n)) W := by
      intro ps ev h0 W hSw
      rw [hS] at hSw
      try dsimp only at hSw
      first | (go_simp; done) | (go_simp; with_reducible rfl)
    have y4 : ∀ {ps : String} (ev : Operand → Value), ev (.tmp 12) = .int .i64 x → ev (.tmp 14) = .int .i64 r.s.n → ∀ W, S W → (execOp ev { dst := some 15, op := Go.Op.call { callee := Go.Callee.builtin Go.Builtin.max, args := #[Go.Operand.tmp 12, Go.Operand.tmp 14], argTypes := #[3, 3] }, type := 3, pos := ps, after := #[{ on := 1, ground := Go.Ground.data }, { on := 3, ground := Go.Ground.data }], guard := none }).run Try.prog W = .ok (.value (.int .i64 mx)) W := by
      intro ps ev h0 h1 W hSw
      rw [hS] at hSw
      try dsimp only at hSw
      first | (go_simp; done) | (go_simp; with_reducible rfl)
    have y5 : ∀ {ps : String} (ev : Operand → Value), ev (.tmp 4) = .pointer (some ⟨w.heap.size + 1, 0, none⟩) → ∀ W, S W → (execOp ev { dst := some 16, op := Go.Op.fieldAddr 39 (Go.Operand.tmp 4) 1, type := 0, pos := ps, after := #[], guard := none }).run Try.prog W = .ok (.value (.pointer (some ⟨w.heap.size + 1, 1, none⟩))) W := by
      intro ps ev h0 W hSw
      rw [hS] at hSw
      try dsimp only at hSw
      first | (go_simp; done) | (go_simp; with_reducible rfl)
    have y6 : ∀ {ps : String} (ev : Operand → Value), ev (.tmp 16) = .pointer (some ⟨w.heap.size + 1, 1, none⟩) → ∀ W, S W → (execOp ev { dst := some 17, op := Go.Op.load 3 (Go.Operand.tmp 16), type := 3, pos := ps, after := #[{ on := 5, ground := Go.Ground.data }], guard := none }).run Try.prog W = .ok (.value (.int .i64 t)) W := by
      intro ps ev h0 W hSw
      rw [hS] at hSw
      try dsimp only at hSw
      first | (go_simp; done) | (go_simp; with_reducible rfl)
    have y7 : ∀ {ps : String} (ev : Operand → Value), ev (.tmp 3) = .pointer (some ⟨w.heap.size, 0, none⟩) → ∀ W, S W → (execOp ev { dst := some 18, op := Go.Op.load 46 (Go.Operand.tmp 3), type := 46, pos := ps, after := #[], guard := none }).run Try.prog W = .ok (.value (.agg #[.int .i64 r.s.n, .slice h.ua r.s.u.length h.uc, .slice h.la h.es.length h.lc, .int .i64 r.cap, .int .i64 r.shift, .int .i64 r.edge, .int .u32 r.recent, .bool r.stamps, .bool r.sacks, .int .i64 r.fin, .bool r.dn, .slice h.fa r.first.length h.fc, .int .u32 r.irs, .int .u32 r.own, .bool r.stamp])) W := by
      intro ps ev h0 W hSw
      rw [hS] at hSw
      try dsimp only at hSw
      first | (go_simp; done) | (go_simp; with_reducible rfl)
    refine wp_region_X S 12 (by kernel_rfl) (HSK.out _ (by repeat (first | with_reducible exact Below.refl _ _ | with_reducible assumption | with_reducible refine Below.drew ?_ | with_reducible refine below_drewN ?_ _ | with_reducible refine below_more ?_ _))) (fun hHeld => ?_)
    refine wpX_take (i := 0) (oi := { dst := some 11, op := Go.Op.fieldAddr 39 (Go.Operand.tmp 4) 0, type := 0, pos := _, after := #[], guard := none }) (v := .pointer (some ⟨w.heap.size + 1, 0, none⟩)) rfl (by kernel_rfl) (by kernel_rfl) (by kernel_rfl) (fun _ _ _ h => h) ⟨_, rfl, { on := 0, ground := Go.Ground.phase }, by simp, by rfl, rfl⟩ (by decide) (Or.inl ⟨by rfl, y0 _ rfl⟩) (by assumption) ?_
    try simp only [Act.put, List.setIfInBounds_toArray, List.set_cons_zero, List.set_cons_succ]
    refine wpX_take (i := 1) (oi := { dst := some 12, op := Go.Op.load 3 (Go.Operand.tmp 11), type := 3, pos := _, after := #[{ on := 0, ground := Go.Ground.data }], guard := none }) (v := .int .i64 x) rfl (by kernel_rfl) (by kernel_rfl) (by kernel_rfl) (fun _ _ _ h => h) ⟨_, rfl, { on := 1, ground := Go.Ground.phase }, by simp, by rfl, rfl⟩ (by decide) (Or.inl ⟨by rfl, y1 _ rfl⟩) (by assumption) ?_
    try simp only [Act.put, List.setIfInBounds_toArray, List.set_cons_zero, List.set_cons_succ]
    refine wpX_take (i := 2) (oi := { dst := some 13, op := Go.Op.fieldAddr 46 (Go.Operand.tmp 3) 0, type := 0, pos := _, after := #[], guard := none }) (v := .pointer (some ⟨w.heap.size, 0, none⟩)) rfl (by kernel_rfl) (by kernel_rfl) (by kernel_rfl) (fun _ _ _ h => h) ⟨_, rfl, { on := 2, ground := Go.Ground.phase }, by simp, by rfl, rfl⟩ (by decide) (Or.inl ⟨by rfl, y2 _ rfl⟩) (by assumption) ?_
    try simp only [Act.put, List.setIfInBounds_toArray, List.set_cons_zero, List.set_cons_succ]
    refine wpX_take (i := 3) (oi := { dst := some 14, op := Go.Op.load 3 (Go.Operand.tmp 13), type := 3, pos := _, after := #[{ on := 2, ground := Go.Ground.data }], guard := none }) (v := .int .i64 r.s.n) rfl (by kernel_rfl) (by kernel_rfl) (by kernel_rfl) (fun _ _ _ h => h) ⟨_, rfl, { on := 3, ground := Go.Ground.phase }, by simp, by rfl, rfl⟩ (by decide) (Or.inl ⟨by rfl, y3 _ rfl⟩) (by assumption) ?_
    try simp only [Act.put, List.setIfInBounds_toArray, List.set_cons_zero, List.set_cons_succ]
    refine wpX_take (i := 4) (oi := { dst := some 15, op := Go.Op.call { callee := Go.Callee.builtin Go.Builtin.max, args := #[Go.Operand.tmp 12, Go.Operand.tmp 14], argTypes := #[3, 3] }, type := 3, pos := _, after := #[{ on := 1, ground := Go.Ground.data }, { on := 3, ground := Go.Ground.data }], guard := none }) (v := .int .i64 mx) rfl (by kernel_rfl) (by kernel_rfl) (by kernel_rfl) (fun _ _ _ h => h) ⟨_, rfl, { on := 4, ground := Go.Ground.phase }, by simp, by rfl, rfl⟩ (by decide) (Or.inl ⟨by rfl, y4 _ rfl rfl⟩) (by assumption) ?_
    try simp only [Act.put, List.setIfInBounds_toArray, List.set_cons_zero, List.set_cons_succ]
    refine wpX_take (i := 5) (oi := { dst := some 16, op := Go.Op.fieldAddr 39 (Go.Operand.tmp 4) 1, type := 0, pos := _, after := #[], guard := none }) (v := .pointer (some ⟨w.heap.size + 1, 1, none⟩)) rfl (by kernel_rfl) (by kernel_rfl) (by kernel_rfl) (fun _ _ _ h => h) ⟨_, rfl, { on := 5, ground := Go.Ground.phase }, by simp, by rfl, rfl⟩ (by decide) (Or.inl ⟨by rfl, y5 _ rfl⟩) (by assumption) ?_
    try simp only [Act.put, List.setIfInBounds_toArray, List.set_cons_zero, List.set_cons_succ]
    refine wpX_take (i := 6) (oi := { dst := some 17, op := Go.Op.load 3 (Go.Operand.tmp 16), type := 3, pos := _, after := #[{ on := 5, ground := Go.Ground.data }], guard := none }) (v := .int .i64 t) rfl (by kernel_rfl) (by kernel_rfl) (by kernel_rfl) (fun _ _ _ h => h) ⟨_, rfl, { on := 6, ground := Go.Ground.phase }, by simp, by rfl, rfl⟩ (by decide) (Or.inl ⟨by rfl, y6 _ rfl⟩) (by assumption) ?_
    try simp only [Act.put, List.setIfInBounds_toArray, List.set_cons_zero, List.set_cons_succ]
    refine wpX_take (i := 7) (oi := { dst := some 18, op := Go.Op.load 46 (Go.Operand.tmp 3), type := 46, pos := _, after := #[], guard := none }) (v := .agg #[.int .i64 r.s.n, .slice h.ua r.s.u.length h.uc, .slice h.la h.es.length h.lc, .int .i64 r.cap, .int .i64 r.shift, .int .i64 r.edge, .int .u32 r.recent, .bool r.stamps, .bool r.sacks, .int .i64 r.fin, .bool r.dn, .slice h.fa r.first.length h.fc, .int .u32 r.irs, .int .u32 r.own, .bool r.stamp]) rfl (by kernel_rfl) (by kernel_rfl) (by kernel_rfl) (fun _ _ _ h => h) ⟨_, rfl, { on := 7, ground := Go.Ground.phase }, by simp, by rfl, rfl⟩ (by decide) (Or.inl ⟨by rfl, y7 _ rfl⟩) (by assumption) ?_
    try simp only [Act.put, List.setIfInBounds_toArray, List.set_cons_zero, List.set_cons_succ]
    refine wpX_two (i := 8) (j := 11) (o := { dst := some 19, op := Go.Op.call { callee := Go.Callee.value (Go.Operand.func 62), args := #[Go.Operand.tmp 18], argTypes := #[46] }, type := 3, pos := _, after := #[{ on := 7, ground := Go.Ground.data }], guard := none }) (o' := { dst := some 8, op := Go.Op.alloc 39, type := 0, pos := _, after := #[], guard := none }) (by kernel_rfl) rfl rfl (fun K hK => ?_) (fun K hK => ?_)
    · rw [if_pos (by rfl)]
      go_simp
      refine (cB _).mono ?_
      rintro e w1 ⟨rfl, hB1⟩
      have hb1 : Below W0.heap.size W0 w1 := Below.on (by repeat (first | with_reducible exact Below.refl _ _ | with_reducible assumption | with_reducible refine Below.drew ?_ | with_reducible refine below_drewN ?_ _ | with_reducible refine below_more ?_ _)) hB1
      have hH1 := HSK.out _ hb1
      refine hK.out _ _ ⟨fun _ => hH1, ?_⟩
      clear hK K hHeld
      try simp only [Act.put, List.setIfInBounds_toArray, List.set_cons_zero, List.set_cons_succ]
      refine wpX_take (i := 9) (oi := { dst := some 20, op := Go.Op.call { callee := Go.Callee.builtin Go.Builtin.min, args := #[Go.Operand.tmp 17, Go.Operand.tmp 19], argTypes := #[3, 3] }, type := 3, pos := _, after := #[{ on := 6, ground := Go.Ground.data }, { on := 8, ground := Go.Ground.data }], guard := none }) (v := .int .i64 mn) rfl (by kernel_rfl) (by kernel_rfl) (by kernel_rfl) (fun _ _ _ h => h) ⟨_, rfl, { on := 9, ground := Go.Ground.phase }, by simp, by rfl, rfl⟩ (by decide) (Or.inl ⟨by rfl, z9 _ rfl rfl⟩) (by assumption) ?_
      try simp only [Act.put, List.setIfInBounds_toArray, List.set_cons_zero, List.set_cons_succ]
      refine wpX_take (i := 10) (oi := { dst := some 21, op := Go.Op.build 39 #[(0, Go.Operand.tmp 15), (1, Go.Operand.tmp 20)], type := 39, pos := _, after := #[{ on := 4, ground := Go.Ground.data }, { on := 9, ground := Go.Ground.data }], guard := none }) (v := .agg #[.int .i64 mx, .int .i64 mn]) rfl (by kernel_rfl) (by kernel_rfl) (by kernel_rfl) (fun _ _ _ h => h) ⟨_, rfl, { on := 10, ground := Go.Ground.data }, by simp, by rfl, rfl⟩ (by decide) (Or.inl ⟨by rfl, z10 _ rfl rfl⟩) (by assumption) ?_
      try simp only [Act.put, List.setIfInBounds_toArray, List.set_cons_zero, List.set_cons_succ]
      refine wpX_one (i := 11) (o := { dst := some 8, op := Go.Op.alloc 39, type := 0, pos := _, after := #[], guard := none }) (by kernel_rfl) rfl (fun K hK => ?_)
      rw [if_pos (by rfl)]
      go_simp
      refine hK.out _ _ ⟨fun _ => HSK.out _ (by repeat (first | with_reducible exact Below.refl _ _ | with_reducible assumption | with_reducible refine Below.drew ?_ | with_reducible refine below_drewN ?_ _ | with_reducible refine below_more ?_ _)), ?_⟩
      clear hK K
      try simp only [Act.put, List.setIfInBounds_toArray, List.set_cons_zero, List.set_cons_succ]
      refine wpX_one (i := 12) (o := { dst := none, op := Go.Op.store 39 (Go.Operand.tmp 8) (Go.Operand.tmp 21), type := 0, pos := _, after := #[{ on := 11, ground := Go.Ground.data }, { on := 10, ground := Go.Ground.data }, { on := 8, ground := Go.Ground.chain }, { on := 0, ground := Go.Ground.phase }, { on := 1, ground := Go.Ground.phase }, { on := 2, ground := Go.Ground.phase }, { on := 3, ground := Go.Ground.phase }, { on := 4, ground := Go.Ground.phase }, { on := 5, ground := Go.Ground.phase }, { on := 6, ground := Go.Ground.phase }, { on := 7, ground := Go.Ground.phase }, { on := 8, ground := Go.Ground.phase }, { on := 9, ground := Go.Ground.phase }, { on := 10, ground := Go.Ground.phase }, { on := 11, ground := Go.Ground.phase }], guard := none }) (by kernel_rfl) rfl (fun K hK => ?_)
      rw [if_pos (by rfl)]
      go_simp
      refine hK.out _ _ ⟨fun h => absurd rfl h, ?_⟩
      clear hK K
      refine wpX_done (by kernel_rfl) ?_ _
      try simp only [Act.put, List.setIfInBounds_toArray, List.set_cons_zero, List.set_cons_succ]
      clear y0 y1 y2 y3 y4 y5 y6 y7 z9 z10 hS HSK
      go_wp2_with fail
      go_meet
      exact ⟨_, rfl, Box.new w1 39 [.int .i64 mx, .int .i64 mn], by repeat (first | with_reducible exact Below.refl _ _ | with_reducible assumption | with_reducible refine Below.drew ?_ | with_reducible refine below_drewN ?_ _ | with_reducible refine below_more ?_ _)⟩
    · rw [if_pos (by rfl)]
      go_simp
      have hz0 := Box.new W0.drew 39 [.int .i64 0, .int .i64 0]
      refine hK.out _ _ ⟨fun _ => HSK.out _ (by repeat (first | with_reducible exact Below.refl _ _ | with_reducible assumption | with_reducible refine Below.drew ?_ | with_reducible refine below_drewN ?_ _ | with_reducible refine below_more ?_ _)), ?_⟩
      clear hK K hHeld
      try simp only [Act.put, List.setIfInBounds_toArray, List.set_cons_zero, List.set_cons_succ]
      refine wpX_one (i := 8) (o := { dst := some 19, op := Go.Op.call { callee := Go.Callee.value (Go.Operand.func 62), args := #[Go.Operand.tmp 18], argTypes := #[46] }, type := 3, pos := _, after := #[{ on := 7, ground := Go.Ground.data }], guard := none }) (by kernel_rfl) rfl (fun K hK => ?_)
      rw [if_pos (by rfl)]
      go_simp
      refine (cB _).mono ?_
      rintro e w1 ⟨rfl, hB1⟩
      have hb1 : Below W0.heap.size W0 w1 := Below.on (by repeat (first | with_reducible exact Below.refl _ _ | with_reducible assumption | with_reducible refine Below.drew ?_ | with_reducible refine below_drewN ?_ _ | with_reducible refine below_more ?_ _)) hB1
      have hH1 := HSK.out _ hb1
      have hz1 := hz0.later hB1
      refine hK.out _ _ ⟨fun _ => hH1, ?_⟩
      clear hK K
      try simp only [Act.put, List.setIfInBounds_toArray, List.set_cons_zero, List.set_cons_succ]
      refine wpX_take (i := 9) (oi := { dst := some 20, op := Go.Op.call { callee := Go.Callee.builtin Go.Builtin.min, args := #[Go.Operand.tmp 17, Go.Operand.tmp 19], argTypes := #[3, 3] }, type := 3, pos := _, after := #[{ on := 6, ground := Go.Ground.data }, { on := 8, ground := Go.Ground.data }], guard := none }) (v := .int .i64 mn) rfl (by kernel_rfl) (by kernel_rfl) (by kernel_rfl) (fun _ _ _ h => h) ⟨_, rfl, { on := 9, ground := Go.Ground.phase }, by simp, by rfl, rfl⟩ (by decide) (Or.inl ⟨by rfl, z9 _ rfl rfl⟩) (by assumption) ?_
      try simp only [Act.put, List.setIfInBounds_toArray, List.set_cons_zero, List.set_cons_succ]
      refine wpX_take (i := 10) (oi := { dst := some 21, op := Go.Op.build 39 #[(0, Go.Operand.tmp 15), (1, Go.Operand.tmp 20)], type := 39, pos := _, after := #[{ on := 4, ground := Go.Ground.data }, { on := 9, ground := Go.Ground.data }], guard := none }) (v := .agg #[.int .i64 mx, .int .i64 mn]) rfl (by kernel_rfl) (by kernel_rfl) (by kernel_rfl) (fun _ _ _ h => h) ⟨_, rfl, { on := 10, ground := Go.Ground.data }, by simp, by rfl, rfl⟩ (by decide) (Or.inl ⟨by rfl, z10 _ rfl rfl⟩) (by assumption) ?_
      try simp only [Act.put, List.setIfInBounds_toArray, List.set_cons_zero, List.set_cons_succ]
      have q0 : w1.cell? ⟨W0.heap.size, 0, none⟩ = some (.int .i64 0) := hz1.cell 0 rfl
      have q1 : w1.cell? ⟨W0.heap.size, 1, none⟩ = some (.int .i64 0) := hz1.cell 1 rfl
      have f0 : w1.frozen? ⟨W0.heap.size, 0, none⟩ = false := hz1.frozen 0
      have f1 : w1.frozen? ⟨W0.heap.size, 1, none⟩ = false := hz1.frozen 1
      refine wpX_one (i := 12) (o := { dst := none, op := Go.Op.store 39 (Go.Operand.tmp 8) (Go.Operand.tmp 21), type := 0, pos := _, after := #[{ on := 11, ground := Go.Ground.data }, { on := 10, ground := Go.Ground.data }, { on := 8, ground := Go.Ground.chain }, { on := 0, ground := Go.Ground.phase }, { on := 1, ground := Go.Ground.phase }, { on := 2, ground := Go.Ground.phase }, { on := 3, ground := Go.Ground.phase }, { on := 4, ground := Go.Ground.phase }, { on := 5, ground := Go.Ground.phase }, { on := 6, ground := Go.Ground.phase }, { on := 7, ground := Go.Ground.phase }, { on := 8, ground := Go.Ground.phase }, { on := 9, ground := Go.Ground.phase }, { on := 10, ground := Go.Ground.phase }, { on := 11, ground := Go.Ground.phase }], guard := none }) (by kernel_rfl) rfl (fun K hK => ?_)
      rw [if_pos (by rfl)]
      go_simp
      refine hK.out _ _ ⟨fun h => absurd rfl h, ?_⟩
      clear hK K
      refine wpX_done (by kernel_rfl) ?_ _
      try simp only [Act.put, List.setIfInBounds_toArray, List.set_cons_zero, List.set_cons_succ]
      clear y0 y1 y2 y3 y4 y5 y6 y7 z9 z10 hS HSK q0 q1 f0 f1
      go_wp2_with fail
      go_meet
      exact ⟨_, rfl, hz1.put [.int .i64 mx, .int .i64 mn] rfl, setAll_below (vs := [.int .i64 mx, .int .i64 mn]) (i := 0) (Nat.le_refl _) hb1⟩
  case rest =>
    obtain ⟨p, rfl, HC⟩ := hcut
    clear cB hmx hmn
    obtain ⟨L, hL⟩ : ∃ L, h.es.length = L := ⟨_, rfl⟩
    have hbw : Below w.heap.size w wc := Below.on HX.out.2.2.2 HC.out.2
    have HS : Hid (∀ W, Below wc.heap.size wc W → W.cell? ⟨w.heap.size, 2, none⟩ = some (.slice h.la L h.lc) ∧ W.cell? ⟨p, 0, none⟩ = some (.int .i64 mx) ∧ W.cell? ⟨p, 1, none⟩ = some (.int .i64 mn) ∧ Below wc.heap.size wc W) := fun W hW => by
      have h1 := ((HX.out.1.later HC.out.2).later hW).cell 2 rfl
      rw [hL] at h1
      exact ⟨h1, (HC.out.1.later hW).cell 0 rfl, (HC.out.1.later hW).cell 1 rfl, hW⟩
    have cR : ∀ W, Below wc.heap.size wc W → Calls Try.prog 61 #[.slice h.la L h.lc] W fun e w' => ∃ va vc, e = .returned (.slice va L vc) ∧ RowT w' wc.heap.size va L vc (spnsW h.es) ∧ Below wc.heap.size wc w' := fun W hW => by
      have := rowOf_any h.la h.lc h.es W (HHB.out.late.later (Below.on hbw hW))
      rw [hL] at this
      refine this.mono ?_
      rintro e w' ⟨va, vc, rfl, hR, hB⟩
      exact ⟨va, vc, rfl, hR.mono hW.size, Below.on hW hB⟩
    have cG : ∀ va vc W, RowT W wc.heap.size va L vc (spnsW h.es) → Below wc.heap.size wc W → Calls Try.prog 67 #[.slice va L vc, .agg #[.int .i64 mx, .int .i64 mn]] W fun e w' => ∃ ga gc, e = .returned (.slice ga gs.length gc) ∧ RowT w' wc.heap.size ga gs.length gc gs ∧ Below wc.heap.size wc w' := fun va vc W hR hW => by
      have h1 : (spnsW h.es).length = L := by unfold spnsW; rw [List.length_map, hL]
      have := gaps_any va vc (spnsW h.es) (mx, mn) W hR.tims (by rw [h1]; omega)
      rw [h1, HH.out.2.2.2.2.1] at this
      refine this.mono ?_
      rintro e w' ⟨ga, gc, rfl, hR, hB⟩
      exact ⟨ga, gc, rfl, hR.mono hW.size, Below.on hW hB⟩
    rw [hL] at hgl hre
    have HLL : Hid (h.es.length = L) := hL
    obtain ⟨q, hq⟩ : ∃ q, gs.length = q := ⟨_, rfl⟩
    rw [hq] at hgl
    simp only [hq] at cG
    have HQ : Hid (gs.length = q) := hq
    clear hL hq
    go_wp2_with fail
    go_cut [26, 27, 28] (fun v26 v27 v28 wx => ∃ (ga : Option Addr) (gc : Nat), v26 = .slice ga q gc ∧ v27 = .int .i64 (q : Int) ∧ v28 = .int .i64 0 ∧ Hid (RowT wx wc.heap.size ga q gc gs ∧ Below wc.heap.size wc wx))
    case first =>
      go_region_held3 (fun W => W.cell? ⟨w.heap.size, 2, none⟩ = some (.slice h.la L h.lc) ∧ W.cell? ⟨p, 0, none⟩ = some (.int .i64 mx) ∧ W.cell? ⟨p, 1, none⟩ = some (.int .i64 mn) ∧ Below wc.heap.size wc W)
        (exact HS.out _ (by repeat (first | with_reducible exact Below.refl _ _ | with_reducible assumption | with_reducible refine Below.drew ?_ | with_reducible refine below_drewN ?_ _ | with_reducible refine below_more ?_ _)))
        (first
          | (go_at_call 61; refine (cR _ (by repeat (first | with_reducible exact Below.refl _ _ | with_reducible assumption | with_reducible refine Below.drew ?_ | with_reducible refine below_drewN ?_ _ | with_reducible refine below_more ?_ _))).mono ?_; rintro e w1 ⟨va, vc, rfl, hR1, hb1⟩)
          | (go_at_call 67; refine (cG _ _ _ hR1 hb1).mono ?_; rintro e w2 ⟨ga, gc, rfl, hR2, hb2⟩))
      go_wp2_with fail
      go_meet
      exact ⟨ga, gc, rfl, rfl, rfl, hR2, hb2⟩
    case rest =>
      clear cR cG HS
      obtain ⟨ga, gc, rfl, rfl, rfl, HR⟩ := hcut
      rename_i wb
      have HI0 : Hid (MisTo w wc x t ds [.int .i64 r.s.n, .slice h.ua r.s.u.length h.uc, .slice h.la h.es.length h.lc, .int .i64 r.cap, .int .i64 r.shift, .int .i64 r.edge, .int .u32 r.recent, .bool r.stamps, .bool r.sacks, .int .i64 r.fin, .bool r.dn, .slice h.fa r.first.length h.fc, .int .u32 r.irs, .int .u32 r.own, .bool r.stamp] ga q gc gs none 0 0 []) := by
        have hb : Below W0.heap.size W0 wc := Below.on HC.out.2 HR.out.2
        exact ⟨RowE.nil _ _, Fam.nil _ _, by simp, HX.out.1.later hb, HX.out.2.1.later hb, HR.out.1.mono hbw.size, Below.on HX.out.2.2.2 hb⟩
      clear HR HC hbw
      go_wp2_with fail
      go_loopw [7, 28] (fun v7 vi wr => ∃ (i : Nat) (va : Option Addr) (vc : Nat) (fs : List En), v7 = .slice va i vc ∧ vi = .int .i64 i ∧ i ≤ q ∧ Hid (MisTo w wr x t ds [.int .i64 r.s.n, .slice h.ua r.s.u.length h.uc, .slice h.la h.es.length h.lc, .int .i64 r.cap, .int .i64 r.shift, .int .i64 r.edge, .int .u32 r.recent, .bool r.stamps, .bool r.sacks, .int .i64 r.fin, .bool r.dn, .slice h.fa r.first.length h.fc, .int .u32 r.irs, .int .u32 r.own, .bool r.stamp] ga q gc gs va i vc fs))
        (fun v7 vi _ => q - (intOf vi).toNat)
      case atStart => exact ⟨0, none, 0, [], rfl, rfl, Nat.zero_le _, HI0.out⟩
      case round =>
        clear HI0
        obtain ⟨i, va, vc, fs, rfl, rfl, hiq, HI⟩ := hrel
        by_cases hlt : i < q
        · obtain ⟨b, o, hga, hc0, hc1⟩ := HI.out.gps.tims.2 i (by rw [HQ.out]; omega)
          obtain ⟨g, hg⟩ : ∃ g, gs[i]?.getD (0, 0) = g := ⟨_, rfl⟩
          rw [hg] at hc0 hc1
          have hgs : gs[i]? = some g := by
            have h1 : i < gs.length := by rw [HQ.out]; omega
            rw [List.getElem?_eq_getElem h1] at hg ⊢
            simpa using hg
          obtain ⟨g1, g2, g3, g4, g5⟩ := HG.out g (List.mem_of_getElem? hgs)
          obtain ⟨fN, hfN⟩ : ∃ fN : Nat, g.1 - x = (fN : Int) := ⟨(g.1 - x).toNat, by omega⟩
          obtain ⟨tN, htN⟩ : ∃ tN : Nat, g.2 - x = (tN : Int) := ⟨(g.2 - x).toNat, by omega⟩
          have hxt := HH.out.2.2.2.1
          have hdc := HH.out.2.1.2.2
          rw [HH.out.2.2.1] at hdc
          have hNb : fN < tN ∧ tN ≤ dl := by omega
          have hw8 : IntKind.i64.wrap (g.1 - x) = (fN : Int) := by rw [hfN, IntKind.wrap_i64]; omega
          have hw13 : IntKind.i64.wrap (g.2 - x) = (tN : Int) := by rw [htN, IntKind.wrap_i64]; omega
          have hsl := fun W => sl_lh da dl dc fN tN (fN : Int) (tN : Int) rfl rfl (by omega) (by omega) W
          have HN : Hid (g.1 - x = (fN : Int) ∧ g.2 - x = (tN : Int) ∧ gs[i]? = some g ∧ fN < tN ∧ tN ≤ dl) := ⟨hfN, htN, hgs, hNb.1, hNb.2⟩
          have hii : (i : Int) < (q : Int) := by omega
          subst hga
          clear hg hgs g1 g2 g3 g4 g5 hfN htN hxt hdc hNb
          go_upto_region 6 with fail
          clear hc0 hc1
          have HXB : Hid (Box (wr.alloc (.cells #[.int .i64 g.1, .int .i64 g.2] 39)) wr.heap.size 39 [.int .i64 g.1, .int .i64 g.2] ∧ Below wr.heap.size wr (wr.alloc (.cells #[.int .i64 g.1, .int .i64 g.2] 39))) := ⟨Box.new _ _ _, below_more (Below.refl _ _) _⟩
          obtain ⟨X, hX⟩ : ∃ X, wr.alloc (.cells #[.int .i64 g.1, .int .i64 g.2] 39) = X := ⟨_, rfl⟩
          rw [hX] at HXB ⊢
          clear hX
          obtain ⟨S, hS⟩ : ∃ S : World → Prop, S = fun W => W.cell? ⟨w.heap.size + 1, 0, none⟩ = some (.int .i64 x) ∧ W.cell? ⟨wr.heap.size, 0, none⟩ = some (.int .i64 g.1) ∧ W.cell? ⟨wr.heap.size, 1, none⟩ = some (.int .i64 g.2) := ⟨_, rfl⟩
          have HSK : Hid (∀ W, Below X.heap.size X W → S W) := fun W hW => by
            have hwr := Below.on HXB.out.2 hW
            rw [hS]
            exact ⟨(HI.out.at'.later hwr).cell 0 rfl, (HXB.out.1.later hW).cell 0 rfl, (HXB.out.1.later hW).cell 1 rfl⟩
          have y0 : ∀ {ps : String} (ev : Operand → Value), ev (.tmp 7) = .slice va i vc → ∀ W, S W → (execOp ev { dst := some 32, op := Go.Op.move (Go.Operand.tmp 7), type := 44, pos := ps, after := #[], guard := none }).run Try.prog W = .ok (.value (.slice va i vc)) W := by
            intro ps ev h0 W hSw
            rw [hS] at hSw
            try dsimp only at hSw
            first | (go_simp; done) | (go_simp; with_reducible rfl)
          have y1 : ∀ {ps : String} (ev : Operand → Value), ev (.tmp 10) = .pointer (some ⟨wr.heap.size, 0, none⟩) → ∀ W, S W → (execOp ev { dst := some 33, op := Go.Op.fieldAddr 39 (Go.Operand.tmp 10) 0, type := 0, pos := ps, after := #[], guard := none }).run Try.prog W = .ok (.value (.pointer (some ⟨wr.heap.size, 0, none⟩))) W := by
            intro ps ev h0 W hSw
            rw [hS] at hSw
            try dsimp only at hSw
            first | (go_simp; done) | (go_simp; with_reducible rfl)
          have y2 : ∀ {ps : String} (ev : Operand → Value), ev (.tmp 33) = .pointer (some ⟨wr.heap.size, 0, none⟩) → ∀ W, S W → (execOp ev { dst := some 34, op := Go.Op.load 3 (Go.Operand.tmp 33), type := 3, pos := ps, after := #[{ on := 1, ground := Go.Ground.data }], guard := none }).run Try.prog W = .ok (.value (.int .i64 g.1)) W := by
            intro ps ev h0 W hSw
            rw [hS] at hSw
            try dsimp only at hSw
            first | (go_simp; done) | (go_simp; with_reducible rfl)
          have y3 : ∀ {ps : String} (ev : Operand → Value), ev (.tmp 2) = .slice da dl dc → ∀ W, S W → (execOp ev { dst := some 35, op := Go.Op.move (Go.Operand.tmp 2), type := 26, pos := ps, after := #[], guard := none }).run Try.prog W = .ok (.value (.slice da dl dc)) W := by
            intro ps ev h0 W hSw
            rw [hS] at hSw
            try dsimp only at hSw
            first | (go_simp; done) | (go_simp; with_reducible rfl)
          have y4 : ∀ {ps : String} (ev : Operand → Value), ev (.tmp 10) = .pointer (some ⟨wr.heap.size, 0, none⟩) → ∀ W, S W → (execOp ev { dst := some 36, op := Go.Op.fieldAddr 39 (Go.Operand.tmp 10) 0, type := 0, pos := ps, after := #[], guard := none }).run Try.prog W = .ok (.value (.pointer (some ⟨wr.heap.size, 0, none⟩))) W := by
            intro ps ev h0 W hSw
            rw [hS] at hSw
            try dsimp only at hSw
            first | (go_simp; done) | (go_simp; with_reducible rfl)
          have y5 : ∀ {ps : String} (ev : Operand → Value), ev (.tmp 36) = .pointer (some ⟨wr.heap.size, 0, none⟩) → ∀ W, S W → (execOp ev { dst := some 37, op := Go.Op.load 3 (Go.Operand.tmp 36), type := 3, pos := ps, after := #[{ on := 4, ground := Go.Ground.data }], guard := none }).run Try.prog W = .ok (.value (.int .i64 g.1)) W := by
            intro ps ev h0 W hSw
            rw [hS] at hSw
            try dsimp only at hSw
            first | (go_simp; done) | (go_simp; with_reducible rfl)
          have y6 : ∀ {ps : String} (ev : Operand → Value), ev (.tmp 4) = .pointer (some ⟨w.heap.size + 1, 0, none⟩) → ∀ W, S W → (execOp ev { dst := some 38, op := Go.Op.fieldAddr 39 (Go.Operand.tmp 4) 0, type := 0, pos := ps, after := #[], guard := none }).run Try.prog W = .ok (.value (.pointer (some ⟨w.heap.size + 1, 0, none⟩))) W := by
            intro ps ev h0 W hSw
            rw [hS] at hSw
            try dsimp only at hSw
            first | (go_simp; done) | (go_simp; with_reducible rfl)
          have y7 : ∀ {ps : String} (ev : Operand → Value), ev (.tmp 38) = .pointer (some ⟨w.heap.size + 1, 0, none⟩) → ∀ W, S W → (execOp ev { dst := some 39, op := Go.Op.load 3 (Go.Operand.tmp 38), type := 3, pos := ps, after := #[{ on := 6, ground := Go.Ground.data }], guard := none }).run Try.prog W = .ok (.value (.int .i64 x)) W := by
            intro ps ev h0 W hSw
            rw [hS] at hSw
            try dsimp only at hSw
            first | (go_simp; done) | (go_simp; with_reducible rfl)
          have y8 : ∀ {ps : String} (ev : Operand → Value), ev (.tmp 37) = .int .i64 g.1 → ev (.tmp 39) = .int .i64 x → ∀ W, S W → (execOp ev { dst := some 40, op := Go.Op.binOp Go.BinOp.sub 3 (Go.Operand.tmp 37) (Go.Operand.tmp 39) 3, type := 3, pos := ps, after := #[{ on := 5, ground := Go.Ground.data }, { on := 7, ground := Go.Ground.data }], guard := none }).run Try.prog W = .ok (.value (.int .i64 (fN : Int))) W := by
            intro ps ev h0 h1 W hSw
            rw [hS] at hSw
            try dsimp only at hSw
            first | (go_simp; done) | (go_simp; with_reducible rfl)
          have y9 : ∀ {ps : String} (ev : Operand → Value), ev (.tmp 10) = .pointer (some ⟨wr.heap.size, 0, none⟩) → ∀ W, S W → (execOp ev { dst := some 41, op := Go.Op.fieldAddr 39 (Go.Operand.tmp 10) 1, type := 0, pos := ps, after := #[], guard := none }).run Try.prog W = .ok (.value (.pointer (some ⟨wr.heap.size, 1, none⟩))) W := by
            intro ps ev h0 W hSw
            rw [hS] at hSw
            try dsimp only at hSw
            first | (go_simp; done) | (go_simp; with_reducible rfl)
          have y10 : ∀ {ps : String} (ev : Operand → Value), ev (.tmp 41) = .pointer (some ⟨wr.heap.size, 1, none⟩) → ∀ W, S W → (execOp ev { dst := some 42, op := Go.Op.load 3 (Go.Operand.tmp 41), type := 3, pos := ps, after := #[{ on := 9, ground := Go.Ground.data }], guard := none }).run Try.prog W = .ok (.value (.int .i64 g.2)) W := by
            intro ps ev h0 W hSw
            rw [hS] at hSw
            try dsimp only at hSw
            first | (go_simp; done) | (go_simp; with_reducible rfl)
          have y11 : ∀ {ps : String} (ev : Operand → Value), ev (.tmp 4) = .pointer (some ⟨w.heap.size + 1, 0, none⟩) → ∀ W, S W → (execOp ev { dst := some 43, op := Go.Op.fieldAddr 39 (Go.Operand.tmp 4) 0, type := 0, pos := ps, after := #[], guard := none }).run Try.prog W = .ok (.value (.pointer (some ⟨w.heap.size + 1, 0, none⟩))) W := by
            intro ps ev h0 W hSw
            rw [hS] at hSw
            try dsimp only at hSw
            first | (go_simp; done) | (go_simp; with_reducible rfl)
          have y12 : ∀ {ps : String} (ev : Operand → Value), ev (.tmp 43) = .pointer (some ⟨w.heap.size + 1, 0, none⟩) → ∀ W, S W → (execOp ev { dst := some 44, op := Go.Op.load 3 (Go.Operand.tmp 43), type := 3, pos := ps, after := #[{ on := 11, ground := Go.Ground.data }], guard := none }).run Try.prog W = .ok (.value (.int .i64 x)) W := by
            intro ps ev h0 W hSw
            rw [hS] at hSw
            try dsimp only at hSw
            first | (go_simp; done) | (go_simp; with_reducible rfl)
          have y13 : ∀ {ps : String} (ev : Operand → Value), ev (.tmp 42) = .int .i64 g.2 → ev (.tmp 44) = .int .i64 x → ∀ W, S W → (execOp ev { dst := some 45, op := Go.Op.binOp Go.BinOp.sub 3 (Go.Operand.tmp 42) (Go.Operand.tmp 44) 3, type := 3, pos := ps, after := #[{ on := 10, ground := Go.Ground.data }, { on := 12, ground := Go.Ground.data }], guard := none }).run Try.prog W = .ok (.value (.int .i64 (tN : Int))) W := by
            intro ps ev h0 h1 W hSw
            rw [hS] at hSw
            try dsimp only at hSw
            first | (go_simp; done) | (go_simp; with_reducible rfl)
          have y14 : ∀ {ps : String} (ev : Operand → Value), ev (.tmp 35) = .slice da dl dc → ev (.tmp 40) = .int .i64 (fN : Int) → ev (.tmp 45) = .int .i64 (tN : Int) → ∀ W, S W → (execOp ev { dst := some 46, op := Go.Op.slice 26 (Go.Operand.tmp 35) (some (Go.Operand.tmp 40)) (some (Go.Operand.tmp 45)) none, type := 26, pos := ps, after := #[{ on := 3, ground := Go.Ground.data }, { on := 8, ground := Go.Ground.data }, { on := 13, ground := Go.Ground.data }], guard := none }).run Try.prog W = .ok (.value (.slice (cutB da dc fN) (tN - fN) (dc - fN))) W := by
            intro ps ev h0 h1 h2 W hSw
            rw [hS] at hSw
            try dsimp only at hSw
            first | (go_simp; done) | (go_simp; with_reducible rfl)
          refine wp_region_X S 19 (by kernel_rfl) (HSK.out _ (by repeat (first | with_reducible exact Below.refl _ _ | with_reducible assumption | with_reducible refine Below.drew ?_ | with_reducible refine below_drewN ?_ _ | with_reducible refine below_more ?_ _))) (fun hHeld => ?_)
          refine wpX_take (i := 0) (oi := { dst := some 32, op := Go.Op.move (Go.Operand.tmp 7), type := 44, pos := _, after := #[], guard := none }) (v := .slice va i vc) rfl (by kernel_rfl) (by kernel_rfl) (by kernel_rfl) (fun _ _ _ h => h) ⟨_, rfl, { on := 0, ground := Go.Ground.phase }, by simp, by rfl, rfl⟩ (by decide) (Or.inl ⟨by rfl, y0 _ rfl⟩) (by assumption) ?_
          try simp only [Act.put, List.setIfInBounds_toArray, List.set_cons_zero, List.set_cons_succ]
          refine wpX_take (i := 1) (oi := { dst := some 33, op := Go.Op.fieldAddr 39 (Go.Operand.tmp 10) 0, type := 0, pos := _, after := #[], guard := none }) (v := .pointer (some ⟨wr.heap.size, 0, none⟩)) rfl (by kernel_rfl) (by kernel_rfl) (by kernel_rfl) (fun _ _ _ h => h) ⟨_, rfl, { on := 1, ground := Go.Ground.phase }, by simp, by rfl, rfl⟩ (by decide) (Or.inl ⟨by rfl, y1 _ rfl⟩) (by assumption) ?_
          try simp only [Act.put, List.setIfInBounds_toArray, List.set_cons_zero, List.set_cons_succ]
          refine wpX_take (i := 2) (oi := { dst := some 34, op := Go.Op.load 3 (Go.Operand.tmp 33), type := 3, pos := _, after := #[{ on := 1, ground := Go.Ground.data }], guard := none }) (v := .int .i64 g.1) rfl (by kernel_rfl) (by kernel_rfl) (by kernel_rfl) (fun _ _ _ h => h) ⟨_, rfl, { on := 2, ground := Go.Ground.phase }, by simp, by rfl, rfl⟩ (by decide) (Or.inl ⟨by rfl, y2 _ rfl⟩) (by assumption) ?_
          try simp only [Act.put, List.setIfInBounds_toArray, List.set_cons_zero, List.set_cons_succ]
          refine wpX_take (i := 3) (oi := { dst := some 35, op := Go.Op.move (Go.Operand.tmp 2), type := 26, pos := _, after := #[], guard := none }) (v := .slice da dl dc) rfl (by kernel_rfl) (by kernel_rfl) (by kernel_rfl) (fun _ _ _ h => h) ⟨_, rfl, { on := 3, ground := Go.Ground.phase }, by simp, by rfl, rfl⟩ (by decide) (Or.inl ⟨by rfl, y3 _ rfl⟩) (by assumption) ?_
          try simp only [Act.put, List.setIfInBounds_toArray, List.set_cons_zero, List.set_cons_succ]
          refine wpX_take (i := 4) (oi := { dst := some 36, op := Go.Op.fieldAddr 39 (Go.Operand.tmp 10) 0, type := 0, pos := _, after := #[], guard := none }) (v := .pointer (some ⟨wr.heap.size, 0, none⟩)) rfl (by kernel_rfl) (by kernel_rfl) (by kernel_rfl) (fun _ _ _ h => h) ⟨_, rfl, { on := 4, ground := Go.Ground.phase }, by simp, by rfl, rfl⟩ (by decide) (Or.inl ⟨by rfl, y4 _ rfl⟩) (by assumption) ?_
          try simp only [Act.put, List.setIfInBounds_toArray, List.set_cons_zero, List.set_cons_succ]
          refine wpX_take (i := 5) (oi := { dst := some 37, op := Go.Op.load 3 (Go.Operand.tmp 36), type := 3, pos := _, after := #[{ on := 4, ground := Go.Ground.data }], guard := none }) (v := .int .i64 g.1) rfl (by kernel_rfl) (by kernel_rfl) (by kernel_rfl) (fun _ _ _ h => h) ⟨_, rfl, { on := 5, ground := Go.Ground.phase }, by simp, by rfl, rfl⟩ (by decide) (Or.inl ⟨by rfl, y5 _ rfl⟩) (by assumption) ?_
          try simp only [Act.put, List.setIfInBounds_toArray, List.set_cons_zero, List.set_cons_succ]
          refine wpX_take (i := 6) (oi := { dst := some 38, op := Go.Op.fieldAddr 39 (Go.Operand.tmp 4) 0, type := 0, pos := _, after := #[], guard := none }) (v := .pointer (some ⟨w.heap.size + 1, 0, none⟩)) rfl (by kernel_rfl) (by kernel_rfl) (by kernel_rfl) (fun _ _ _ h => h) ⟨_, rfl, { on := 6, ground := Go.Ground.phase }, by simp, by rfl, rfl⟩ (by decide) (Or.inl ⟨by rfl, y6 _ rfl⟩) (by assumption) ?_
          try simp only [Act.put, List.setIfInBounds_toArray, List.set_cons_zero, List.set_cons_succ]
          refine wpX_take (i := 7) (oi := { dst := some 39, op := Go.Op.load 3 (Go.Operand.tmp 38), type := 3, pos := _, after := #[{ on := 6, ground := Go.Ground.data }], guard := none }) (v := .int .i64 x) rfl (by kernel_rfl) (by kernel_rfl) (by kernel_rfl) (fun _ _ _ h => h) ⟨_, rfl, { on := 7, ground := Go.Ground.phase }, by simp, by rfl, rfl⟩ (by decide) (Or.inl ⟨by rfl, y7 _ rfl⟩) (by assumption) ?_
          try simp only [Act.put, List.setIfInBounds_toArray, List.set_cons_zero, List.set_cons_succ]
          refine wpX_take (i := 8) (oi := { dst := some 40, op := Go.Op.binOp Go.BinOp.sub 3 (Go.Operand.tmp 37) (Go.Operand.tmp 39) 3, type := 3, pos := _, after := #[{ on := 5, ground := Go.Ground.data }, { on := 7, ground := Go.Ground.data }], guard := none }) (v := .int .i64 (fN : Int)) rfl (by kernel_rfl) (by kernel_rfl) (by kernel_rfl) (fun _ _ _ h => h) ⟨_, rfl, { on := 8, ground := Go.Ground.phase }, by simp, by rfl, rfl⟩ (by decide) (Or.inl ⟨by rfl, y8 _ rfl rfl⟩) (by assumption) ?_
          try simp only [Act.put, List.setIfInBounds_toArray, List.set_cons_zero, List.set_cons_succ]
          refine wpX_take (i := 9) (oi := { dst := some 41, op := Go.Op.fieldAddr 39 (Go.Operand.tmp 10) 1, type := 0, pos := _, after := #[], guard := none }) (v := .pointer (some ⟨wr.heap.size, 1, none⟩)) rfl (by kernel_rfl) (by kernel_rfl) (by kernel_rfl) (fun _ _ _ h => h) ⟨_, rfl, { on := 9, ground := Go.Ground.phase }, by simp, by rfl, rfl⟩ (by decide) (Or.inl ⟨by rfl, y9 _ rfl⟩) (by assumption) ?_
          try simp only [Act.put, List.setIfInBounds_toArray, List.set_cons_zero, List.set_cons_succ]
          refine wpX_take (i := 10) (oi := { dst := some 42, op := Go.Op.load 3 (Go.Operand.tmp 41), type := 3, pos := _, after := #[{ on := 9, ground := Go.Ground.data }], guard := none }) (v := .int .i64 g.2) rfl (by kernel_rfl) (by kernel_rfl) (by kernel_rfl) (fun _ _ _ h => h) ⟨_, rfl, { on := 10, ground := Go.Ground.phase }, by simp, by rfl, rfl⟩ (by decide) (Or.inl ⟨by rfl, y10 _ rfl⟩) (by assumption) ?_
          try simp only [Act.put, List.setIfInBounds_toArray, List.set_cons_zero, List.set_cons_succ]
          refine wpX_take (i := 11) (oi := { dst := some 43, op := Go.Op.fieldAddr 39 (Go.Operand.tmp 4) 0, type := 0, pos := _, after := #[], guard := none }) (v := .pointer (some ⟨w.heap.size + 1, 0, none⟩)) rfl (by kernel_rfl) (by kernel_rfl) (by kernel_rfl) (fun _ _ _ h => h) ⟨_, rfl, { on := 11, ground := Go.Ground.phase }, by simp, by rfl, rfl⟩ (by decide) (Or.inl ⟨by rfl, y11 _ rfl⟩) (by assumption) ?_
          try simp only [Act.put, List.setIfInBounds_toArray, List.set_cons_zero, List.set_cons_succ]
          refine wpX_take (i := 12) (oi := { dst := some 44, op := Go.Op.load 3 (Go.Operand.tmp 43), type := 3, pos := _, after := #[{ on := 11, ground := Go.Ground.data }], guard := none }) (v := .int .i64 x) rfl (by kernel_rfl) (by kernel_rfl) (by kernel_rfl) (fun _ _ _ h => h) ⟨_, rfl, { on := 12, ground := Go.Ground.phase }, by simp, by rfl, rfl⟩ (by decide) (Or.inl ⟨by rfl, y12 _ rfl⟩) (by assumption) ?_
          try simp only [Act.put, List.setIfInBounds_toArray, List.set_cons_zero, List.set_cons_succ]
          refine wpX_take (i := 13) (oi := { dst := some 45, op := Go.Op.binOp Go.BinOp.sub 3 (Go.Operand.tmp 42) (Go.Operand.tmp 44) 3, type := 3, pos := _, after := #[{ on := 10, ground := Go.Ground.data }, { on := 12, ground := Go.Ground.data }], guard := none }) (v := .int .i64 (tN : Int)) rfl (by kernel_rfl) (by kernel_rfl) (by kernel_rfl) (fun _ _ _ h => h) ⟨_, rfl, { on := 13, ground := Go.Ground.phase }, by simp, by rfl, rfl⟩ (by decide) (Or.inl ⟨by rfl, y13 _ rfl rfl⟩) (by assumption) ?_
          try simp only [Act.put, List.setIfInBounds_toArray, List.set_cons_zero, List.set_cons_succ]
          refine wpX_take (i := 14) (oi := { dst := some 46, op := Go.Op.slice 26 (Go.Operand.tmp 35) (some (Go.Operand.tmp 40)) (some (Go.Operand.tmp 45)) none, type := 26, pos := _, after := #[{ on := 3, ground := Go.Ground.data }, { on := 8, ground := Go.Ground.data }, { on := 13, ground := Go.Ground.data }], guard := none }) (v := .slice (cutB da dc fN) (tN - fN) (dc - fN)) rfl (by kernel_rfl) (by kernel_rfl) (by kernel_rfl) (fun _ _ _ h => h) ⟨_, rfl, { on := 14, ground := Go.Ground.phase }, by simp, by rfl, rfl⟩ (by decide) (Or.inl ⟨by rfl, y14 _ rfl rfl rfl⟩) (by assumption) ?_
          try simp only [Act.put, List.setIfInBounds_toArray, List.set_cons_zero, List.set_cons_succ]
          clear hsl hw8 hw13
          have hcut := (HH.out.2.1.later (Below.on HI.out.bel (Below.on HXB.out.2 (show Below X.heap.size X X.drew from Below.drew (Below.refl _ _))))).cut2 fN tN (by have := HN.out.2.2.2; omega) (by rw [HH.out.2.2.1]; exact HN.out.2.2.2.2)
          obtain ⟨bs, hbs⟩ : ∃ bs, (ds.take tN).drop fN = bs := ⟨_, rfl⟩
          rw [hbs] at hcut
          have cC := cloneB_any (cutB da dc fN) (dc - fN) bs X.drew hcut.1
          rw [hcut.2] at cC
          have HBS : Hid ((ds.take tN).drop fN = bs ∧ bs.length = tN - fN ∧ Byts bs ∧ bs.length ≤ 140737488351232) := ⟨hbs, hcut.2, hcut.1.1.2.1, hcut.1.1.1⟩
          clear hbs hcut
          refine wpX_one (i := 15) (o := { dst := some 47, op := Go.Op.call { callee := Go.Callee.value (Go.Operand.func 47), args := #[Go.Operand.tmp 46], argTypes := #[26] }, type := 26, pos := _, after := #[{ on := 14, ground := Go.Ground.data }], guard := none }) (by kernel_rfl) rfl (fun K hK => ?_)
          rw [if_pos (by rfl)]
          go_simp
          refine cC.mono ?_
          rintro e w1 ⟨ba, bc, rfl, hR1, hB1⟩
          have hb1 : Below X.heap.size X w1 := Below.on (Below.drew (Below.refl _ _)) hB1
          have hH1 := HSK.out _ hb1
          refine hK.out _ _ ⟨fun _ => hH1, ?_⟩
          clear hK K hHeld
          try simp only [Act.put, List.setIfInBounds_toArray, List.set_cons_zero, List.set_cons_succ]
          have z16 : ∀ {ps : String} (ev : Operand → Value), ev (.tmp 34) = .int .i64 g.1 → ev (.tmp 47) = .slice ba (tN - fN) bc → ∀ W, S W → (execOp ev { dst := some 48, op := Go.Op.build 53 #[(0, Go.Operand.tmp 34), (1, Go.Operand.tmp 47)], type := 53, pos := ps, after := #[{ on := 2, ground := Go.Ground.data }, { on := 15, ground := Go.Ground.data }], guard := none }).run Try.prog W = .ok (.value (.agg #[.int .i64 g.1, .slice ba (tN - fN) bc])) W := by
            intro ps ev h0 h1 W hSw
            rw [hS] at hSw
            try dsimp only at hSw
            first | (go_simp; done) | (go_simp; with_reducible rfl)
          refine wpX_take (i := 16) (oi := { dst := some 48, op := Go.Op.build 53 #[(0, Go.Operand.tmp 34), (1, Go.Operand.tmp 47)], type := 53, pos := _, after := #[{ on := 2, ground := Go.Ground.data }, { on := 15, ground := Go.Ground.data }], guard := none }) (v := .agg #[.int .i64 g.1, .slice ba (tN - fN) bc]) rfl (by kernel_rfl) (by kernel_rfl) (by kernel_rfl) (fun _ _ _ h => h) ⟨_, rfl, { on := 16, ground := Go.Ground.phase }, by simp, by rfl, rfl⟩ (by decide) (Or.inl ⟨by rfl, z16 _ rfl rfl⟩) (by assumption) ?_
          try simp only [Act.put, List.setIfInBounds_toArray, List.set_cons_zero, List.set_cons_succ]
          refine wpX_one (i := 17) (o := { dst := some 49, op := Go.Op.buildSlice 44 1 #[(0, Go.Operand.tmp 48)], type := 44, pos := _, after := #[{ on := 16, ground := Go.Ground.data }], guard := none }) (by kernel_rfl) rfl (fun K hK => ?_)
          rw [if_pos (by rfl)]
          go_simp
          refine hK.out _ _ ⟨fun _ => HSK.out _ (by repeat (first | with_reducible exact Below.refl _ _ | with_reducible assumption | with_reducible refine Below.drew ?_ | with_reducible refine below_drewN ?_ _ | with_reducible refine below_more ?_ _)), ?_⟩
          clear hK K
          try simp only [Act.put, List.setIfInBounds_toArray, List.set_cons_zero, List.set_cons_succ]
          have hlen := HBS.out.2.1
          have hyr : (⟨g.1, ba, bc, bs⟩ : En).mine (w1.alloc (.cells #[.int .i64 g.1, .slice ba (tN - fN) bc] 53)) wr.heap.size := ⟨by rw [hlen]; exact Row.later (hR1.mono (by have := HXB.out.2.size; exact this)) (below_more (Below.refl _ _) _), HBS.out.2.2.1, HBS.out.2.2.2, by have h1 := HG.out g (List.mem_of_getElem? HN.out.2.2.1); have h2 := HN.out.2.1; have h3 := HN.out.2.2.2.2; have h4 := hx; unfold I64; simp only; omega⟩
          have hyY : Below wr.heap.size wr (w1.alloc (.cells #[.int .i64 g.1, .slice ba (tN - fN) bc] 53)) := below_more (Below.on HXB.out.2 hb1) _
          have hye : EntsAt (w1.alloc (.cells #[.int .i64 g.1, .slice ba (tN - fN) bc] 53)) (some ⟨w1.heap.size, 0, none⟩) [⟨g.1, ba, bc, bs⟩] := by
            have := ents_one w1 ⟨g.1, ba, bc, bs⟩
            rw [hlen] at this
            exact this
          refine wpX_one (i := 18) (o := { dst := some 50, op := Go.Op.call { callee := Go.Callee.builtin Go.Builtin.append, args := #[Go.Operand.tmp 32, Go.Operand.tmp 49], argTypes := #[44, 44] }, type := 44, pos := _, after := #[{ on := 0, ground := Go.Ground.data }, { on := 17, ground := Go.Ground.data }, { on := 15, ground := Go.Ground.chain }], guard := none }) (by kernel_rfl) rfl (fun K hK => ?_)
          refine step_appE rfl (.tmp 32) (.tmp 49) rfl w.heap.size va i vc fs ⟨w1.heap.size, 0, none⟩ ⟨g.1, ba, bc, bs⟩ rfl rfl (HI.out.row.later hyY) (Below.on HI.out.bel hyY).size hye (by omega) ?_
          intro va2 vc2 w2 hR2 hg2
          have HNX : Hid (MisTo w w2 x t ds [.int .i64 r.s.n, .slice h.ua r.s.u.length h.uc, .slice h.la h.es.length h.lc, .int .i64 r.cap, .int .i64 r.shift, .int .i64 r.edge, .int .u32 r.recent, .bool r.stamps, .bool r.sacks, .int .i64 r.fin, .bool r.dn, .slice h.fa r.first.length h.fc, .int .u32 r.irs, .int .u32 r.own, .bool r.stamp] (some ⟨b, o, none⟩) q gc gs va2 (i + 1) vc2 (fs ++ [⟨g.1, ba, bc, bs⟩])) := HI.out.next hyY hyr hg2 hR2 HN.out.2.2.1 (by
            show (g.1, bs) = (g.1, (ds.take (g.2 - x).toNat).drop (g.1 - x).toNat)
            rw [HN.out.1, HN.out.2.1, ← HBS.out.1]; rfl)
          have hgx := (HXB.out.1.later (show Below X.heap.size X (w1.alloc (.cells #[.int .i64 g.1, .slice ba (tN - fN) bc] 53)) from below_more hb1 _)).grown (HI.out.row.later hyY) (by decide) hg2
          have hH2 : S w2 := by
            rw [hS]
            exact ⟨HNX.out.at'.cell 0 rfl, hgx.cell 0 rfl, hgx.cell 1 rfl⟩
          clear hR1 hB1 hb1 hyr hyY hye hR2 hg2 hgx hlen
          refine hK.out _ _ ⟨fun _ => hH2, ?_⟩
          clear hK K hH1
          try simp only [Act.put, List.setIfInBounds_toArray, List.set_cons_zero, List.set_cons_succ]
          refine wpX_one (i := 19) (o := { dst := some 7, op := Go.Op.assign (Go.Operand.tmp 50), type := 44, pos := _, after := #[{ on := 18, ground := Go.Ground.data }, { on := 18, ground := Go.Ground.chain }, { on := 0, ground := Go.Ground.phase }, { on := 1, ground := Go.Ground.phase }, { on := 2, ground := Go.Ground.phase }, { on := 3, ground := Go.Ground.phase }, { on := 4, ground := Go.Ground.phase }, { on := 5, ground := Go.Ground.phase }, { on := 6, ground := Go.Ground.phase }, { on := 7, ground := Go.Ground.phase }, { on := 8, ground := Go.Ground.phase }, { on := 9, ground := Go.Ground.phase }, { on := 10, ground := Go.Ground.phase }, { on := 11, ground := Go.Ground.phase }, { on := 12, ground := Go.Ground.phase }, { on := 13, ground := Go.Ground.phase }, { on := 14, ground := Go.Ground.phase }, { on := 15, ground := Go.Ground.phase }, { on := 16, ground := Go.Ground.phase }, { on := 17, ground := Go.Ground.phase }, { on := 18, ground := Go.Ground.phase }], guard := none }) (by kernel_rfl) rfl (fun K hK => ?_)
          rw [if_pos (by rfl)]
          go_simp
          refine hK.out _ _ ⟨fun h => absurd rfl h, ?_⟩
          clear hK K
          refine wpX_done (by kernel_rfl) ?_ _
          try simp only [Act.put, List.setIfInBounds_toArray, List.set_cons_zero, List.set_cons_succ]
          clear y0 y1 y2 y3 y4 y5 y6 y7 y8 y9 y10 y11 y12 y13 y14 z16 hS HSK hH2 HXB HI
          go_wp2_with fail
          go_roundw
          case rel => exact ⟨i + 1, va2, vc2, _, rfl, by go_num, by omega, HNX.out⟩
          case measure => simp [intOf]; omega
        · obtain rfl : i = q := by omega
          go_wp2_with fail
          go_ret
          have h0 := HI.out
          have hl := h0.row.len
          refine ⟨fs, va, vc, by rw [hl]; rfl, by rw [hl]; exact h0.row, h0.fam, ?_, h0.bel⟩
          rw [h0.map, List.take_of_length_le (by rw [HQ.out]; exact Nat.le_refl _)]
end Go.Proofs.Ytdodagpkkjpdiaa
