/- Receivers and segments in memory. -/
import Derived.Test.YtdodagpkkjpdiaaBase
namespace Go.Proofs.Ytdodagpkkjpdiaa
open Go.ChangeShapes Go.WideShapes Go.ChangeAt Go.RowKit
set_option linter.unusedVariables false

theorem below_drewN {B : Nat} {a w : World} (h : Below B a w) (n : Nat) : Below B a (w.drewN n) := h.trans ⟨rfl, rfl, rfl, Nat.le_refl _, fun _ _ => rfl⟩
theorem below_set {B : Nat} {a w : World} (h : Below B a w) (g j : Nat) (u : Value) (hg : B ≤ g) : Below B a (w.setCell ⟨g, j, none⟩ u) := h.setCell (p := ⟨g, j, none⟩) hg u
/-! ### Boxes of fifteen cells -/
theorem Box.c15 {W : World} {g : Nat} {t : TypeId} {v0 v1 v2 v3 v4 v5 v6 v7 v8 v9 v10 v11 v12 v13 v14 : Value} (h : Box W g t [v0, v1, v2, v3, v4, v5, v6, v7, v8, v9, v10, v11, v12, v13, v14]) : W.cell? ⟨g, 0, none⟩ = some v0 ∧ W.cell? ⟨g, 1, none⟩ = some v1 ∧ W.cell? ⟨g, 2, none⟩ = some v2 ∧ W.cell? ⟨g, 3, none⟩ = some v3 ∧ W.cell? ⟨g, 4, none⟩ = some v4 ∧ W.cell? ⟨g, 5, none⟩ = some v5 ∧ W.cell? ⟨g, 6, none⟩ = some v6 ∧ W.cell? ⟨g, 7, none⟩ = some v7 ∧ W.cell? ⟨g, 8, none⟩ = some v8 ∧ W.cell? ⟨g, 9, none⟩ = some v9 ∧ W.cell? ⟨g, 10, none⟩ = some v10 ∧ W.cell? ⟨g, 11, none⟩ = some v11 ∧ W.cell? ⟨g, 12, none⟩ = some v12 ∧ W.cell? ⟨g, 13, none⟩ = some v13 ∧ W.cell? ⟨g, 14, none⟩ = some v14 :=
  ⟨h.cell 0 rfl, h.cell 1 rfl, h.cell 2 rfl, h.cell 3 rfl, h.cell 4 rfl, h.cell 5 rfl, h.cell 6 rfl, h.cell 7 rfl, h.cell 8 rfl, h.cell 9 rfl, h.cell 10 rfl, h.cell 11 rfl, h.cell 12 rfl, h.cell 13 rfl, h.cell 14 rfl⟩
theorem Box.f15 {W : World} {g : Nat} {t : TypeId} {cs : List Value} (h : Box W g t cs) : W.frozen? ⟨g, 0, none⟩ = false ∧ W.frozen? ⟨g, 1, none⟩ = false ∧ W.frozen? ⟨g, 2, none⟩ = false ∧ W.frozen? ⟨g, 3, none⟩ = false ∧ W.frozen? ⟨g, 4, none⟩ = false ∧ W.frozen? ⟨g, 5, none⟩ = false ∧ W.frozen? ⟨g, 6, none⟩ = false ∧ W.frozen? ⟨g, 7, none⟩ = false ∧ W.frozen? ⟨g, 8, none⟩ = false ∧ W.frozen? ⟨g, 9, none⟩ = false ∧ W.frozen? ⟨g, 10, none⟩ = false ∧ W.frozen? ⟨g, 11, none⟩ = false ∧ W.frozen? ⟨g, 12, none⟩ = false ∧ W.frozen? ⟨g, 13, none⟩ = false ∧ W.frozen? ⟨g, 14, none⟩ = false :=
  ⟨h.frozen 0, h.frozen 1, h.frozen 2, h.frozen 3, h.frozen 4, h.frozen 5, h.frozen 6, h.frozen 7, h.frozen 8, h.frozen 9, h.frozen 10, h.frozen 11, h.frozen 12, h.frozen 13, h.frozen 14⟩
theorem run_box {t : TypeId} {fs} (hu : Try.prog.underlying t = some (.struct fs)) {cs : List Value} (hi : (Try.prog.info? t).map (·.size) = some cs.length) {w : World} {g : Nat} (hg : Box w g t cs) : (loadVar t ⟨g, 0, none⟩).run Try.prog w = .ok (.agg cs.toArray) w :=
  run_loadVar_row (P := Try.prog) w g t t cs.toArray (0, 0) _ hg hu rfl (by simpa using hi)
theorem size15 : (Try.prog.info? 46).map (·.size) = some 15 := by kernel_rfl
theorem size15s : (Try.prog.info? 28).map (·.size) = some 15 := by kernel_rfl
theorem run_recv {w : World} {g : Nat} {cs : List Value} (hl : cs.length = 15) (hg : Box w g 46 cs) : (loadVar 46 ⟨g, 0, none⟩).run Try.prog w = .ok (.agg cs.toArray) w :=
  run_box Try.underlying46 (by rw [hl]; exact size15) hg
theorem run_seg {w : World} {g : Nat} {cs : List Value} (hl : cs.length = 15) (hg : Box w g 28 cs) : (loadVar 28 ⟨g, 0, none⟩).run Try.prog w = .ok (.agg cs.toArray) w :=
  run_box Try.underlying28 (by rw [hl]; exact size15s) hg
/-- Results that lie in boxes. -/
theorem res_r {fn : Func} {p : Tmp} (h : fn.results = #[.cell p 46]) (tmps : Array Value) (w : World) (g : Nat) (cs : List Value) (hl : cs.length = 15) (hp : tmps.getD p undef = .pointer (some ⟨g, 0, none⟩)) (hg : Box w g 46 cs) : (results fn tmps).run Try.prog w = .ok (.agg cs.toArray) w := by
  have hp' : tmps[p]?.getD undef = .pointer (some ⟨g, 0, none⟩) := by simpa using hp
  simp [results, h, hp', asAddr, run_recv hl hg]
theorem res_rt {fn : Func} {p u : Tmp} (h : fn.results = #[.cell p 46, .tmp u]) (tmps : Array Value) (w : World) (g : Nat) (cs : List Value) (hl : cs.length = 15) (hp : tmps.getD p undef = .pointer (some ⟨g, 0, none⟩)) (hg : Box w g 46 cs) : (results fn tmps).run Try.prog w = .ok (.tuple #[.agg cs.toArray, tmps.getD u undef]) w := by
  have hp' : tmps[p]?.getD undef = .pointer (some ⟨g, 0, none⟩) := by simpa using hp
  simp [results, h, hp', asAddr, run_recv hl hg]
theorem res_rtt {fn : Func} {p u v : Tmp} (h : fn.results = #[.cell p 46, .tmp u, .tmp v]) (tmps : Array Value) (w : World) (g : Nat) (cs : List Value) (hl : cs.length = 15) (hp : tmps.getD p undef = .pointer (some ⟨g, 0, none⟩)) (hg : Box w g 46 cs) : (results fn tmps).run Try.prog w = .ok (.tuple #[.agg cs.toArray, tmps.getD u undef, tmps.getD v undef]) w := by
  have hp' : tmps[p]?.getD undef = .pointer (some ⟨g, 0, none⟩) := by simpa using hp
  simp [results, h, hp', asAddr, run_recv hl hg]
theorem res_rs {fn : Func} {p q : Tmp} (h : fn.results = #[.cell p 46, .cell q 28]) (tmps : Array Value) (w : World) (g k : Nat) (cs ds : List Value) (hl : cs.length = 15) (hd : ds.length = 15) (hp : tmps.getD p undef = .pointer (some ⟨g, 0, none⟩)) (hq : tmps.getD q undef = .pointer (some ⟨k, 0, none⟩)) (hg : Box w g 46 cs) (hk : Box w k 28 ds) : (results fn tmps).run Try.prog w = .ok (.tuple #[.agg cs.toArray, .agg ds.toArray]) w := by
  have hp' : tmps[p]?.getD undef = .pointer (some ⟨g, 0, none⟩) := by simpa using hp
  have hq' : tmps[q]?.getD undef = .pointer (some ⟨k, 0, none⟩) := by simpa using hq
  simp [results, h, hp', hq', asAddr, run_recv hl hg, run_seg hd hk]
theorem res_rstt {fn : Func} {p q u v : Tmp} (h : fn.results = #[.cell p 46, .cell q 28, .tmp u, .tmp v]) (tmps : Array Value) (w : World) (g k : Nat) (cs ds : List Value) (hl : cs.length = 15) (hd : ds.length = 15) (hp : tmps.getD p undef = .pointer (some ⟨g, 0, none⟩)) (hq : tmps.getD q undef = .pointer (some ⟨k, 0, none⟩)) (hg : Box w g 46 cs) (hk : Box w k 28 ds) : (results fn tmps).run Try.prog w = .ok (.tuple #[.agg cs.toArray, .agg ds.toArray, tmps.getD u undef, tmps.getD v undef]) w := by
  have hp' : tmps[p]?.getD undef = .pointer (some ⟨g, 0, none⟩) := by simpa using hp
  have hq' : tmps[q]?.getD undef = .pointer (some ⟨k, 0, none⟩) := by simpa using hq
  simp [results, h, hp', hq', asAddr, run_recv hl hg, run_seg hd hk]
theorem res_rtstt {fn : Func} {p q t u v : Tmp} (h : fn.results = #[.cell p 46, .tmp t, .cell q 28, .tmp u, .tmp v]) (tmps : Array Value) (w : World) (g k : Nat) (cs ds : List Value) (hl : cs.length = 15) (hd : ds.length = 15) (hp : tmps.getD p undef = .pointer (some ⟨g, 0, none⟩)) (hq : tmps.getD q undef = .pointer (some ⟨k, 0, none⟩)) (hg : Box w g 46 cs) (hk : Box w k 28 ds) : (results fn tmps).run Try.prog w = .ok (.tuple #[.agg cs.toArray, tmps.getD t undef, .agg ds.toArray, tmps.getD u undef, tmps.getD v undef]) w := by
  have hp' : tmps[p]?.getD undef = .pointer (some ⟨g, 0, none⟩) := by simpa using hp
  have hq' : tmps[q]?.getD undef = .pointer (some ⟨k, 0, none⟩) := by simpa using hq
  simp [results, h, hp', hq', asAddr, run_recv hl hg, run_seg hd hk]

/-! ### Receivers -/
/-- Where a receiver's lists lie. -/
structure Hd where
  ua : Option Addr
  uc : Nat
  la : Option Addr
  lc : Nat
  es : List En
  fa : Option Addr
  fc : Nat
/-- The fields of a receiver, as a value's parts or a variable's cells. -/
def rvL (r : Pl.Rv) (h : Hd) : List Value :=
  [.int .i64 r.s.n, .slice h.ua r.s.u.length h.uc, .slice h.la h.es.length h.lc, .int .i64 r.cap, .int .i64 r.shift, .int .i64 r.edge, .int .u32 r.recent, .bool r.stamps, .bool r.sacks, .int .i64 r.fin, .bool r.dn, .slice h.fa r.first.length h.fc, .int .u32 r.irs, .int .u32 r.own, .bool r.stamp]
/-- A slice of spans, with its room. -/
structure SpAt (w : World) (a : Option Addr) (c : Nat) (l : List Tm) : Prop where
  tims : TimsAt w a l
  nil : a = none → c = 0
  cap : l.length ≤ c
  reach : l.length * 16 ≤ 140737488351232
theorem SpAt.later {w w' : World} {a : Option Addr} {c : Nat} {l : List Tm} (h : SpAt w a c l) (hb : Below w.heap.size w w') : SpAt w' a c l := { h with tims := h.tims.later hb }
theorem SpAt.nil' (w : World) : SpAt w none 0 [] := ⟨TimsAt.nil _ _, fun _ => rfl, by simp, by simp⟩
theorem RowT.sp {w : World} {B : Nat} {va : Option Addr} {L vc : Nat} {l : List Tm} (h : RowT w B va L vc l) (hl : l.length * 16 ≤ 140737488351232) : SpAt w va vc l := ⟨h.tims, row_none h, by rw [h.len]; exact h.max.1, hl⟩
/-- What a receiver holds, by its types, and where. -/
structure RvAt (w : World) (r : Pl.Rv) (h : Hd) : Prop where
  un : SlAt w h.ua h.uc r.s.u
  late : PcsAt w h.la h.lc h.es
  les : h.es.map En.pc = r.s.l
  fst : SpAt w h.fa h.fc r.first
  n : I64 r.s.n
  cap : I64 r.cap
  shift : I64 r.shift
  edge : I64 r.edge
  recent : U32 r.recent
  fin : I64 r.fin
  irs : U32 r.irs
  own : U32 r.own
theorem RvAt.later {w w' : World} {r : Pl.Rv} {h : Hd} (H : RvAt w r h) (hb : Below w.heap.size w w') : RvAt w' r h := { H with un := H.un.later hb, late := H.late.later hb, fst := H.fst.later hb }
theorem RvAt.len {w : World} {r : Pl.Rv} {h : Hd} (H : RvAt w r h) : r.s.l.length = h.es.length := by rw [← H.les, List.length_map]

/-! ### Segments -/
theorem Try.infoBl : (Try.prog.info? 41).map (fun i => (i.zero, i.size, i.bytes)) = some (some (.agg #[.int .u32 0, .int .u32 0]), 2, 8) := by kernel_rfl
structure Seg where
  sp : Int
  dp : Int
  sq : Int
  ak : Int
  fl : Int
  wn : Int
  ur : Int
  ms : Int
  sc : Int
  so : Bool
  st : Bool
  va : Int
  ec : Int
  sk : List (Int × Int)
  da : List Int
def zeroS : Seg := ⟨0, 0, 0, 0, 0, 0, 0, 0, 0, false, false, 0, 0, [], []⟩
/-- Where a segment's lists lie. -/
structure Hs where
  ka : Option Addr
  kc : Nat
  da : Option Addr
  dc : Nat
def sgL (s : Seg) (k : Hs) : List Value :=
  [.int .i64 s.sp, .int .i64 s.dp, .int .u32 s.sq, .int .u32 s.ak, .int .i64 s.fl, .int .i64 s.wn, .int .i64 s.ur, .int .i64 s.ms, .int .i64 s.sc, .bool s.so, .bool s.st, .int .u32 s.va, .int .u32 s.ec, .slice k.ka s.sk.length k.kc, .slice k.da s.da.length k.dc]
/-- The slice at a holds these blocks. -/
def BlksAt (w : World) (a : Option Addr) (l : List (Int × Int)) : Prop :=
  l.length ≤ maxLen ∧ ∀ j, j < l.length → ∃ b o, a = some ⟨b, o, none⟩ ∧ w.cell? ⟨b, o + j * 2, none⟩ = some (.int .u32 (l[j]?.getD (0, 0)).1) ∧ w.cell? ⟨b, o + j * 2 + 1, none⟩ = some (.int .u32 (l[j]?.getD (0, 0)).2)
theorem BlksAt.below {w w' : World} {a : Option Addr} {l : List (Int × Int)} (h : BlksAt w a l) {B : Nat} (hb : Below B w w') (hB : w.heap.size ≤ B) : BlksAt w' a l := by
  refine ⟨h.1, fun j hj => ?_⟩
  obtain ⟨b, o, e, hc, hd⟩ := h.2 j hj
  exact ⟨b, o, e, (hb.cell (p := ⟨b, o + j * 2, none⟩) (by have := lt_of_cell hc; omega)).trans hc, (hb.cell (p := ⟨b, o + j * 2 + 1, none⟩) (by have := lt_of_cell hd; omega)).trans hd⟩
theorem BlksAt.later {w w' : World} {a : Option Addr} {l : List (Int × Int)} (h : BlksAt w a l) (hb : Below w.heap.size w w') : BlksAt w' a l := h.below hb (Nat.le_refl _)
theorem BlksAt.nil (w : World) (a : Option Addr) : BlksAt w a [] := ⟨by simp, fun j hj => by simp at hj⟩
/-- What a segment holds, and where. -/
structure SgAt (w : World) (s : Seg) (k : Hs) : Prop where
  blks : BlksAt w k.ka s.sk
  data : SlAt w k.da k.dc s.da
  sq : U32 s.sq
  va : U32 s.va
  fl : I64 s.fl
theorem SgAt.later {w w' : World} {s : Seg} {k : Hs} (H : SgAt w s k) (hb : Below w.heap.size w w') : SgAt w' s k := { H with blks := H.blks.later hb, data := H.data.later hb }

/-- The cells of blocks. -/
def bcells (l : List (Int × Int)) : List Value := l.flatMap fun b => [Value.int .u32 b.1, Value.int .u32 b.2]
theorem bcells_len (l : List (Int × Int)) : (bcells l).length = l.length * 2 := by
  induction l with
  | nil => rfl
  | cons a r ih =>
    have : bcells (a :: r) = [Value.int .u32 a.1, Value.int .u32 a.2] ++ bcells r := rfl
    rw [this, List.length_append, ih, List.length_cons]; simp; omega
theorem bcells_snoc (l : List (Int × Int)) (x : Int × Int) : bcells (l ++ [x]) = bcells l ++ [.int .u32 x.1, .int .u32 x.2] := by simp [bcells]
theorem bcells_at : ∀ (l : List (Int × Int)) (j : Nat), j < l.length → (bcells l)[j * 2]? = some (.int .u32 (l[j]?.getD (0, 0)).1) ∧ (bcells l)[j * 2 + 1]? = some (.int .u32 (l[j]?.getD (0, 0)).2)
  | [], j, h => by simp at h
  | a :: r, 0, _ => by simp [bcells]
  | a :: r, j + 1, h => by
    have : bcells (a :: r) = Value.int .u32 a.1 :: Value.int .u32 a.2 :: bcells r := rfl
    have ih := bcells_at r j (by simpa using h)
    rw [this, show (j + 1) * 2 = j * 2 + 1 + 1 from by omega]
    simpa using ih
/-- A slice of blocks that is the call's own. -/
def RowB (w : World) (B : Nat) (va : Option Addr) (L vc : Nat) (l : List (Int × Int)) : Prop := w.ownsRow B 41 2 (.slice va L vc) L (bcells l)
theorem RowB.nil (w : World) (B : Nat) : RowB w B none 0 0 [] := World.ownsRow_nil _ _ _ _
theorem RowB.len {w : World} {B : Nat} {va : Option Addr} {L vc : Nat} {l : List (Int × Int)} (h : RowB w B va L vc l) : l.length = L := by
  have := h.1; rw [bcells_len] at this; omega
theorem RowB.blks {w : World} {B : Nat} {va : Option Addr} {L vc : Nat} {l : List (Int × Int)} (h : RowB w B va L vc l) (hl : l.length ≤ 1000) : BlksAt w va l := by
  have hL := h.len
  refine ⟨by unfold maxLen; omega, fun j hj => ?_⟩
  rcases h.2 with ⟨e, h0⟩ | ⟨g, cap, cur, e, hg, hh, hc, hm, hsz, ht⟩
  · omega
  · cases e
    refine ⟨g, 0, rfl, ?_⟩
    have hat := bcells_at l j hj
    have h2 : ∀ k, k < L * 2 → cur[k]? = (bcells l)[k]? := fun k hk => by
      have : (cur.toList.take (L * 2))[k]? = (bcells l)[k]? := by rw [ht]
      rw [List.getElem?_take_of_lt hk] at this
      simpa using this
    have e1 := h2 (j * 2) (by omega)
    have e2 := h2 (j * 2 + 1) (by omega)
    rw [hat.1] at e1
    rw [hat.2] at e2
    unfold World.cell?
    simp only [hh, Nat.zero_add]
    exact ⟨e1, e2⟩
theorem RowB.alloc {w : World} {B : Nat} {va : Option Addr} {L vc : Nat} {l : List (Int × Int)} (h : RowB w B va L vc l) (o : Obj) : RowB (w.alloc o) B va L vc l := World.ownsRow.alloc h o
theorem RowB.of_heap {w w' : World} {B : Nat} {va : Option Addr} {L vc : Nat} {l : List (Int × Int)} (h : RowB w B va L vc l) (e : w'.heap = w.heap) : RowB w' B va L vc l := by
  refine ⟨h.1, ?_⟩
  rw [e]
  exact h.2
theorem RowB.below {w w' : World} {B : Nat} {va : Option Addr} {L vc : Nat} {l : List (Int × Int)} (h : RowB w B va L vc l) {n : Nat} (hb : Below n w w') (hn : w.heap.size ≤ n) : RowB w' B va L vc l := by
  refine ⟨h.1, ?_⟩
  rcases h.2 with h' | ⟨g, c, cur, e, hB, hh, r⟩
  · exact .inl h'
  · exact .inr ⟨g, c, cur, e, hB, (hb.block g (by have := (Array.getElem?_eq_some_iff.1 hh).1; omega)).trans hh, r⟩
theorem RowB.later {w w' : World} {B : Nat} {va : Option Addr} {L vc : Nat} {l : List (Int × Int)} (h : RowB w B va L vc l) (hb : Below w.heap.size w w') : RowB w' B va L vc l := h.below hb (Nat.le_refl _)
theorem rowB_of {w : World} {B n : Nat} {v : Value} {l : List (Int × Int)} (h : w.ownsRow B 41 2 v n (bcells l)) : ∃ va vc, v = .slice va n vc ∧ RowB w B va n vc l := by
  rcases h.2 with ⟨rfl, h0⟩ | ⟨g, c, cur, rfl, r⟩
  · subst h0
    exact ⟨none, 0, rfl, h⟩
  · exact ⟨_, _, rfl, h⟩
theorem two_oneB {f t : Int} : ∀ u ∈ [Value.int .u32 f, Value.int .u32 t], u.oneCell' = true := by
  intro u hu
  simp only [List.mem_cons, List.not_mem_nil, or_false] at hu
  rcases hu with rfl | rfl <;> rfl
/-- One block appended to a row of one's own; the slice that holds it is new. -/
theorem appB_run (w : World) (B : Nat) (va : Option Addr) (n vc : Nat) (xs : List (Int × Int)) (hO : RowB w B va n vc xs) (hB : B ≤ w.heap.size) (A : Addr) (x : Int × Int) (ty : TypeId) (hT : ∀ j u, [Value.int .u32 x.1, Value.int .u32 x.2][j]? = some u → w.cell? (A.add j) = some u) (hb : (n + 1) * 8 ≤ 140737488355328) :
    ∃ va' vc' w', (Builtin.append_ #[25, 25] ty #[.slice va n vc, .slice (some A) 1 1]).run Try.prog w = .ok (.slice va' (n + 1) vc') w' ∧ RowB w' B va' (n + 1) vc' (xs ++ [x]) ∧ w.grownBy w' (Value.slice va n vc).ownBlock ∧ Below B w w' := by
  obtain ⟨i0, hi, hz0, hz1, hz2⟩ := info_parts Try.infoBl
  obtain ⟨v', w', hr, h1, h2, _⟩ := run_append_own (P := Try.prog) w B 25 ty 41 i0 (.agg #[.int .u32 0, .int .u32 0]) 2 8 Try.underlying25 hi hz0 hz1 hz2 rfl (by decide) _ n _ hO A 1 1 [.int .u32 x.1, .int .u32 x.2] rfl hT two_oneB (by unfold maxLen; omega) hb hB
  rw [← bcells_snoc] at h1
  obtain ⟨va', vc', rfl, hR⟩ := rowB_of h1
  exact ⟨va', vc', w', hr, hR, h2, below_append (Below.refl _ w) hB hO h2⟩
end Go.Proofs.Ytdodagpkkjpdiaa
