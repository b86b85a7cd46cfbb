/- What holds from round to round in RecvOrders. -/
import Derived.Test.YtkigcdmlkmcdcaaMOrdI12
import Derived.Test.YtkigcdmlkmcdcaaMOrdI24
import Derived.Test.YtkigcdmlkmcdcaaMOrdR17
namespace Go.Proofs.Ytkigcdmlkmcdcaa
open Go.ChangeShapes Go.WideShapes Go.ChangeAt Go.RowKit
set_option linter.unusedVariables false
set_option linter.unusedSimpArgs false

theorem ownsRow_grown {w w' : World} {B : Nat} {e : TypeId} {s n : Nat} {v : Value} {xs : List Value} (h : w.ownsRow B e s v n xs) {row : Option Nat} (hg : w.grownBy w' row) (hr : ∀ k, row = some k → k < B) : w'.ownsRow B e s v n xs := by
  refine ⟨h.1, ?_⟩
  rcases h.2 with h' | ⟨g, c, cur, e1, hB, hh, q⟩
  · exact .inl h'
  · exact .inr ⟨g, c, cur, e1, hB, (hg.block g (Array.getElem?_eq_some_iff.1 hh).1 (fun e2 => by have := hr g e2.symm; omega)).trans hh, q⟩
/-- A receiver of one's own, behind an append to an older row. -/
theorem RvOwn.grown {w w' : World} {B : Nat} {r : Pl.Rv} {h : Hd} (H : RvOwn w B r h) {row : Option Nat} (hg : w.grownBy w' row) (hr : ∀ k, row = some k → k < B) : RvOwn w' B r h :=
  { H with row := ownsRow_grown H.row hg hr, fam := ⟨fun x hx => { H.fam.mine x hx with row := ownsRow_grown (H.fam.mine x hx).row hg hr }, H.fam.part⟩, fst := ownsRow_grown H.fst hg hr }
theorem new_at (w : World) {irs : Int} (hi : U32 irs) : RvAt w (Pl.newR 1000 2 irs 0 true true) noH where
  un := SlAt.nil _
  late := PcsAt.nil' _
  les := rfl
  fst := SpAt.nil' _
  n := by show I64 (Pl.newR 1000 2 0 0 true true).s.n; unfold I64; decide
  cap := by show I64 (Pl.newR 1000 2 0 0 true true).cap; unfold I64; decide
  shift := by show I64 (Pl.newR 1000 2 0 0 true true).shift; unfold I64; decide
  edge := by show I64 (Pl.newR 1000 2 0 0 true true).edge; unfold I64; decide
  recent := by show U32 (Pl.newR 1000 2 0 0 true true).recent; unfold U32; decide
  fin := by show I64 (Pl.newR 1000 2 0 0 true true).fin; unfold I64; decide
  irs := hi
  own := by show U32 (Pl.newR 1000 2 0 0 true true).own; unfold U32; decide
theorem u64_nonneg (y : Int) : 0 ≤ IntKind.u64.wrap y := by
  simp only [IntKind.wrap, IntKind.signed, IntKind.bits]
  simp
  omega
theorem place_of (y : Int) (tn : Nat) (h : tn ≤ 200) : ∃ x : Nat, wrap64 ((IntKind.u64.wrap y).tmod ((tn : Int) + 1)) = (x : Int) ∧ x ≤ tn := by
  have h0 := u64_nonneg y
  generalize IntKind.u64.wrap y = u at *
  rw [Int.tmod_eq_emod_of_nonneg h0]
  have h1 := Int.emod_nonneg u (b := (tn : Int) + 1) (by omega)
  have h2 := Int.emod_lt_of_pos u (b := (tn : Int) + 1) (by omega)
  generalize u % ((tn : Int) + 1) = z at *
  refine ⟨z.toNat, ?_, by omega⟩
  unfold wrap64
  omega
theorem size_of (y : Int) : ∃ n : Nat, wrap64 (wrap64 ((IntKind.u64.wrap y / 1024).tmod 16) + 1) = (n : Int) ∧ n ≤ 16 := by
  have h0 := u64_nonneg y
  generalize IntKind.u64.wrap y = u at *
  rw [Int.tmod_eq_emod_of_nonneg (by omega)]
  refine ⟨(u / 1024 % 16 + 1).toNat, ?_, by omega⟩
  unfold wrap64
  omega
/-- A receiver's box, copied whole into another one. -/
theorem wp_copyR {id : Nat} {Q : Exit → Act → World → Prop} {a : Act} {w : World} {o1 o2 : Oper} (g1 : o1.guard = none) (g2 : o2.guard = none) {p q : Operand} {t : Tmp} (h1 : o1.op = .load 27 p) (d1 : o1.dst = some t) (h2 : o2.op = .store 27 q (.tmp t)) (d2 : o2.dst = none)
    (r : Pl.Rv) (k : Hd) {gs gd : Nat} (hp : a.eval p = .pointer (some ⟨gs, 0, none⟩)) (hq : (a.put (some t) (.agg #[.int .i64 r.s.n, .slice k.ua r.s.u.length k.uc, .slice k.la k.es.length k.lc, .int .i64 r.cap, .int .i64 r.shift, .int .i64 r.edge, .int .u32 r.recent, .bool r.stamps, .bool r.sacks, .int .i64 r.fin, .bool r.dn, .slice k.fa r.first.length k.fc, .int .u32 r.irs, .int .u32 r.own, .bool r.stamp])).eval q = .pointer (some ⟨gd, 0, none⟩)) (ht : (a.put (some t) (.agg #[.int .i64 r.s.n, .slice k.ua r.s.u.length k.uc, .slice k.la k.es.length k.lc, .int .i64 r.cap, .int .i64 r.shift, .int .i64 r.edge, .int .u32 r.recent, .bool r.stamps, .bool r.sacks, .int .i64 r.fin, .bool r.dn, .slice k.fa r.first.length k.fc, .int .u32 r.irs, .int .u32 r.own, .bool r.stamp])).eval (.tmp t) = .agg #[.int .i64 r.s.n, .slice k.ua r.s.u.length k.uc, .slice k.la k.es.length k.lc, .int .i64 r.cap, .int .i64 r.shift, .int .i64 r.edge, .int .u32 r.recent, .bool r.stamps, .bool r.sacks, .int .i64 r.fin, .bool r.dn, .slice k.fa r.first.length k.fc, .int .u32 r.irs, .int .u32 r.own, .bool r.stamp])
    (hs : Box w gs 27 [.int .i64 r.s.n, .slice k.ua r.s.u.length k.uc, .slice k.la k.es.length k.lc, .int .i64 r.cap, .int .i64 r.shift, .int .i64 r.edge, .int .u32 r.recent, .bool r.stamps, .bool r.sacks, .int .i64 r.fin, .bool r.dn, .slice k.fa r.first.length k.fc, .int .u32 r.irs, .int .u32 r.own, .bool r.stamp]) {cs : List Value} (hl : cs.length = 15) (hd : Box w gd 27 cs) (h : ∀ X, setAll w gd 0 (rvL r k) = X → Q .normal (a.put (some t) (.agg #[.int .i64 r.s.n, .slice k.ua r.s.u.length k.uc, .slice k.la k.es.length k.lc, .int .i64 r.cap, .int .i64 r.shift, .int .i64 r.edge, .int .u32 r.recent, .bool r.stamps, .bool r.sacks, .int .i64 r.fin, .bool r.dn, .slice k.fa r.first.length k.fc, .int .u32 r.irs, .int .u32 r.own, .bool r.stamp])) X) : (Code.region id #[o1, o2] false).wp Try.prog Q a w := by
  refine wp_region_list (ops := #[o1, o2]) ?_
  refine wpList_plain g1 fun K hK => ?_
  unfold Oper.wp
  rw [run_loadR h1 hp r k w hs, Oper.upon_value, d1]
  refine hK _ _ ?_
  refine wpList_plain g2 fun K' hK' => ?_
  have := wp_storeV (ops := #[o1, o2]) (o := o2) (a := a.put (some t) (.agg #[.int .i64 r.s.n, .slice k.ua r.s.u.length k.uc, .slice k.la k.es.length k.lc, .int .i64 r.cap, .int .i64 r.shift, .int .i64 r.edge, .int .u32 r.recent, .bool r.stamps, .bool r.sacks, .int .i64 r.fin, .bool r.dn, .slice k.fa r.first.length k.fc, .int .u32 r.irs, .int .u32 r.own, .bool r.stamp])) (w := w) (K := K') (Q := Q) (E := False) g2 q (.tmp t) h2 r k gd hl hq ht hd rfl (fun v => hK' _ _ (by rw [d2]; exact h _ rfl))
  rwa [if_pos (by simp [Region.wanted, g2])] at this
/-- Bytes appended to a row of one's own, as a region of its own. -/
theorem wp_appR {id : Nat} {Q : Exit → Act → World → Prop} {a : Act} {w : World} {o1 o2 o3 o4 : Oper} (g1 : o1.guard = none) (g2 : o2.guard = none) (g3 : o3.guard = none) (g4 : o4.guard = none) {p1 p2 : Operand} {t1 t2 t3 t4 : Tmp}
    (h1 : o1.op = .move p1) (d1 : o1.dst = some t1) (h2 : o2.op = .move p2) (d2 : o2.dst = some t2) (h3 : o3.op = .call { callee := .builtin .append, args := #[.tmp t1, .tmp t2], argTypes := #[22, 22] }) (d3 : o3.dst = some t3) (h4 : o4.op = .assign (.tmp t3)) (d4 : o4.dst = some t4)
    (B : Nat) (va : Option Addr) (L vc : Nat) (bs : List Int) (xa : Option Addr) (m xc : Nat) (news : List Int) (hp1 : a.eval p1 = .slice va L vc) (hp2 : (a.put (some t1) (.slice va L vc)).eval p2 = .slice xa m xc)
    (e1 : ((a.put (some t1) (.slice va L vc)).put (some t2) (.slice xa m xc)).eval (.tmp t1) = .slice va L vc) (e2 : ((a.put (some t1) (.slice va L vc)).put (some t2) (.slice xa m xc)).eval (.tmp t2) = .slice xa m xc)
    (e3 : ∀ x, (((a.put (some t1) (.slice va L vc)).put (some t2) (.slice xa m xc)).put (some t3) x).eval (.tmp t3) = x)
    (hR : Row w B va L vc bs) (hn : BytesAt w xa news) (hl : news.length = m) (h0 : xa = none → xc = 0) (hb : L + m ≤ 140737488355328) (hB : B ≤ w.heap.size)
    (h : ∀ va' vc' w', Row w' B va' (L + m) vc' (bs ++ news) → Below B w w' → w.grownBy w' (Value.ownBlock (.slice va L vc)) → Q .normal ((((a.put (some t1) (.slice va L vc)).put (some t2) (.slice xa m xc)).put (some t3) (.slice va' (L + m) vc')).put (some t4) (.slice va' (L + m) vc')) w') :
    (Code.region id #[o1, o2, o3, o4] false).wp Try.prog Q a w := by
  refine wp_region_list (ops := #[o1, o2, o3, o4]) ?_
  refine wpList_plain g1 fun K hK => ?_
  unfold Oper.wp
  rw [run_move h1, Oper.upon_value, d1, hp1]
  refine hK _ _ (wpList_plain g2 fun K hK => ?_)
  unfold Oper.wp
  rw [run_move h2, Oper.upon_value, d2, hp2]
  refine hK _ _ (list_app g3 _ _ h3 B va L vc bs xa m xc news e1 e2 hR hn hl h0 hb hB ?_)
  intro va' vc' w' r1 r2 r3
  rw [d3]
  refine wpList_plain g4 fun K hK => ?_
  unfold Oper.wp
  rw [run_assign h4, Oper.upon_value, d4, e3]
  exact hK _ _ (h va' vc' w' r1 r2 r3)
/-- An append that is guarded, and wanted. -/
theorem list_appG {w : World} {ops : Array Oper} {rest : List Oper} {o : Oper} {a : Act} {Q : Exit → Act → World → Prop} (hw : Region.wanted o (yielded ops a.tmps) = true) (s x : Operand)
    (ho : o.op = .call { callee := .builtin .append, args := #[s, x], argTypes := #[22, 22] })
    (B : Nat) (va : Option Addr) (L vc : Nat) (bs : List Int) (xa : Option Addr) (m xc : Nat) (news : List Int) (hs : a.eval s = .slice va L vc) (hx : a.eval x = .slice xa m xc)
    (hR : Row w B va L vc bs) (hn : BytesAt w xa news) (hl : news.length = m) (h0 : xa = none → xc = 0) (hb : L + m ≤ 140737488355328) (hB : B ≤ w.heap.size)
    (h : ∀ va' vc' w', Row w' B va' (L + m) vc' (bs ++ news) → Below B w w' → w.grownBy w' (Value.ownBlock (.slice va L vc)) → wpList Try.prog ops Q rest (a.put o.dst (.slice va' (L + m) vc')) w') : wpList Try.prog ops Q (o :: rest) a w :=
  wpList_step fun K hK => by
    rw [if_pos hw]
    obtain ⟨va', vc', w', hr, h1, h2, h3⟩ := app_run w B va L vc bs xa m xc news o.type hR hn hl h0 hb hB
    unfold Oper.wp execOp
    simp only [ho, resolve, invoke, builtin, Sem.run_bind, Sem.run_pure, Result.andThen_ok, List.map_toArray, List.map_cons, List.map_nil, hs, hx, hr]
    exact hK _ _ (h va' vc' w' h1 h2 h3)
structure OrdAt (w wr : World) (B g : Nat) (r : Pl.Rv) (h : Hd) (ts got : List Int) (irs : Int) (ga : Option Addr) (gl gc : Nat) : Prop where
  good : Pl.Good r ts got irs
  len : got.length = gl
  lies : RvAt wr r h
  box : Box wr g 27 [.int .i64 r.s.n, .slice h.ua r.s.u.length h.uc, .slice h.la h.es.length h.lc, .int .i64 r.cap, .int .i64 r.shift, .int .i64 r.edge, .int .u32 r.recent, .bool r.stamps, .bool r.sacks, .int .i64 r.fin, .bool r.dn, .slice h.fa r.first.length h.fc, .int .u32 r.irs, .int .u32 r.own, .bool r.stamp]
  row : Row wr B ga gl gc got
  bel : Below w.heap.size w wr
  gB : g < B
  wg : w.heap.size ≤ g
  Bs : B ≤ wr.heap.size
/-- Low numbers of what Input and Read answer. -/
theorem good_low {r : Pl.Rv} {ts got : List Int} {irs : Int} (h : Pl.Good r ts got irs) (hi : U32 irs) (ho : U32 r.own) : U32 r.recent ∧ U32 r.irs ∧ U32 r.own := by
  refine ⟨?_, ?_, ho⟩
  · rw [h.krec]; unfold U32; decide
  · rw [h.kirs]; exact hi
end Go.Proofs.Ytkigcdmlkmcdcaa
