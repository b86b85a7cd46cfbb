/- GS: Open. -/
import Derived.Test.YtkigcdmlkmcdcaaZ
import Derived.Test.YtkigcdmlkmcdcaaGR
import Derived.Deep.SlicePairs
import Derived.ProofKit
import Derived.OpenShut
import Derived.SizedLaws
/- Receivers, segments, bytes and numbers that came in. -/
namespace Go.Proofs.Ytkigcdmlkmcdcaa
open Go.ChangeShapes Go.WideShapes Go.ChangeAt Go.RowKit
set_option linter.unusedVariables false
set_option linter.unusedSimpArgs false

theorem ze6 {w : World} {a : Addr} {v : Value} (h : w.cell? (a.add 0) = some v) : ∃ b o, a = ⟨b, o, none⟩ := by
 obtain ⟨b, o, spot⟩ := a
 have hs : spot = none := by simpa [Addr.add] using World.cell?_spot h
 subst hs
 exact ⟨b, o, rfl⟩
theorem bounds_u8 {a : Int} (h : (Lit.int .u8 a).wf = true) : 0 ≤ a ∧ a ≤ 255 := by
 simp [Lit.wf, IntKind.min, IntKind.max, IntKind.signed, IntKind.bits] at h; omega
theorem zbw {a : Int} (h : (Lit.int .i64 a).wf = true) : I64 a := by
 simp [Lit.wf, IntKind.min, IntKind.max, IntKind.signed, IntKind.bits] at h; unfold I64; omega
theorem bytes5 : Try.prog.bytesOf 5 = 1 := by kernel_rfl

theorem ze3 {H : Type} {P : Program} {e : TypeId} {n : Nat} {d : DataW H} (hn : n ∈ d.weights P e) : ∀ {ds : List (DataW H)}, d ∈ ds → n ∈ DataW.weightsAll P e ds
 | [], h => by cases h
 | x :: r, h => by
  rw [DataW.weightsAll, List.mem_append]
  rcases List.mem_cons.1 h with rfl | h
  · exact .inl hn
  · exact .inr (ze3 hn h)

theorem open_byts {H : Type} {enc : TypeId × Value → H} {w : World} {fuel : Nat} {v : Value} {d : DataW H} {p : List MemPlace} (h : DataW.trod enc Try.prog w 0 (fun _ => true) true fuel 22 [v] = some (d, p)) (hw : ∀ n ∈ d.weights Try.prog 22, n ≤ reachBytes) :
 ∃ a bs c, v = .slice a bs.length c ∧ SlAt w a c bs := by
 rcases open_ints Try.underlying22 Try.underlying5 (by kernel_rfl) h with ⟨hcs, _⟩ | ⟨x, l, c, zs, hcs, _, hl, hm, hz, hxe, hcell, hwz⟩
 · simp at hcs
   subst hcs
   exact ⟨none, [], 0, rfl, SlAt.nil _⟩
 · simp at hcs hz
   subst hcs
   simp only [Prod.mk.injEq] at hxe
   obtain ⟨rfl, _⟩ := hxe
   have hs := hw ((l + (zs.length - l)) * 1) (by
    simp only [DataW.weights, Try.underlying22, bytes5, lits, List.length_map, List.length_take, List.length_drop]
    rw [Nat.min_eq_left (by omega)]
    exact List.mem_cons_self ..)
   simp only [reachBytes] at hs
   have hlen : (zs.take l).length = l := by simp; omega
   refine ⟨some x, zs.take l, c, by rw [hlen], ⟨by omega, fun y hy => bounds_u8 (hwz y (List.mem_of_mem_take hy)), fun j hj => ?_⟩, fun h => (by cases h), by omega⟩
   rw [hlen] at hj
   obtain ⟨b, o, rfl⟩ := ze6 (by have := hcell 0 (by omega); exact this)
   refine ⟨b, o, rfl, ?_⟩
   have := hcell j (by omega)
   rw [zb0] at this
   rw [this, List.getElem?_take_of_lt hj]
   rfl

theorem zej {a : Int} (h : (Lit.int .u32 a).wf = true) : U32 a := by
 simp [Lit.wf, IntKind.min, IntKind.max, IntKind.signed, IntKind.bits] at h; unfold U32; omega
theorem bytesP : Try.prog.bytesOf 74 = 32 := by kernel_rfl
theorem bytesS : Try.prog.bytesOf 78 = 16 := by kernel_rfl
theorem open_pcs {H : Type} {enc : TypeId × Value → H} {w : World} {fuel : Nat} {v : Value} {d : DataW H} {p : List MemPlace} (h : DataW.trod enc Try.prog w 0 (fun _ => true) true fuel 23 [v] = some (d, p)) (hw : ∀ n ∈ d.weights Try.prog 23, n ≤ reachBytes) :
 ∃ A es c, v = .slice A es.length c ∧ PcsAt w A c es := by
 rcases Deep.open_slice_pairs Try.underlying23 Try.underlying74 (by kernel_rfl) rfl rfl (by kernel_rfl) (by kernel_rfl) h with ⟨hcs, _⟩ | ⟨y, len, cap, m, n, V0, V1, D0, D1, P0, P1, hcs, _, hl, hm, hmm, hx0, hx⟩
 · simp at hcs
   subst hcs
   exact ⟨none, [], 0, rfl, PcsAt.nil' _⟩
 · simp at hcs hmm
   subst hcs
   simp only [Prod.mk.injEq] at hx0
   obtain ⟨rfl, _⟩ := hx0
   have each : ∀ i, i < len → ∃ x : En, V0 i = .int .i64 x.f ∧ V1 i = .slice x.a x.bs.length x.c ∧ x.ok w := fun i hi => by
    obtain ⟨_, _, h0, h1⟩ := hx i (by omega)
    obtain ⟨t, e1, _, wf⟩ := DataW.trod_int (k := .i64) Try.underlying3 h0
    simp at e1
    obtain ⟨a, bs, c, e0, hB⟩ := open_byts h1 (fun q hq => hw q (by
     simp only [DataW.weights, Try.underlying23, List.mem_cons, List.mem_append]
     refine .inr (.inl (ze3 (d := .agg [D0 i, D1 i]) ?_ (List.mem_map.2 ⟨i, List.mem_range.2 hi, rfl⟩)))
     simp only [DataW.weights, Try.underlying74]
     exact List.mem_append.2 (.inr (List.mem_append.2 (.inl hq)))))
    exact ⟨⟨t, a, c, bs⟩, e1, e0, hB, zbw wf⟩
   haveI : Inhabited En := ⟨e0⟩
   obtain ⟨X, hX⟩ := Deep.choose_lt (α := En) each
   have hs := hw ((len + (cap - len)) * 32) (by
    simp only [DataW.weights, Try.underlying23, bytesP, List.length_map, List.length_range, hmm]
    exact List.mem_cons_self ..)
   simp only [reachBytes] at hs
   refine ⟨some y, (List.range len).map X, cap, by simp, by simp; omega, by simpa using hl, hm, fun h => (by cases h), fun j x hj => ?_, fun x hx' => ?_⟩
   · have hj' : j < len := by
      rcases Nat.lt_or_ge j len with h | h
      · exact h
      · rw [List.getElem?_eq_none (by simpa using h)] at hj; cases hj
     obtain rfl : x = X j := by simpa [hj'] using hj.symm
     obtain ⟨q0, q1, _, _⟩ := hx j (by omega)
     obtain ⟨b, o, rfl⟩ := ze6 (by have := (hx 0 (by omega)).1; simpa using this)
     rw [zb0] at q0 q1
     refine ⟨b, o, rfl, ?_, ?_⟩
     · rw [q0, (hX j hj').1]
     · rw [show o + j * 2 + 1 = o + (j * 2 + 1) from by omega, q1, (hX j hj').2.1]
   · obtain ⟨i, hi, rfl⟩ := List.mem_map.1 hx'
     exact (hX i (List.mem_range.1 hi)).2.2
theorem open_spans {H : Type} {enc : TypeId × Value → H} {w : World} {fuel : Nat} {v : Value} {d : DataW H} {p : List MemPlace} (h : DataW.trod enc Try.prog w 0 (fun _ => true) true fuel 25 [v] = some (d, p)) (hw : ∀ n ∈ d.weights Try.prog 25, n ≤ reachBytes) :
 ∃ a l c, v = .slice a l.length c ∧ SpAt w a c l := by
 rcases Deep.open_slice_pairs Try.underlying25 Try.underlying78 (by kernel_rfl) rfl rfl (by kernel_rfl) (by kernel_rfl) h with ⟨hcs, _⟩ | ⟨y, len, cap, m, n, V0, V1, D0, D1, P0, P1, hcs, _, hl, hm, hmm, hx0, hx⟩
 · simp at hcs
   subst hcs
   exact ⟨none, [], 0, rfl, SpAt.nil' _⟩
 · simp at hcs hmm
   subst hcs
   simp only [Prod.mk.injEq] at hx0
   obtain ⟨rfl, _⟩ := hx0
   have each : ∀ i, i < len → ∃ f t, V0 i = .int .i64 f ∧ V1 i = .int .i64 t := fun i hi => by
    obtain ⟨_, _, h0, h1⟩ := hx i (by omega)
    obtain ⟨f, e0, _, _⟩ := DataW.trod_int (k := .i64) Try.underlying3 h0
    obtain ⟨t, e1, _, _⟩ := DataW.trod_int (k := .i64) Try.underlying3 h1
    simp at e0 e1
    exact ⟨f, t, e0, e1⟩
   have hs := hw ((len + (cap - len)) * 16) (by
    simp only [DataW.weights, Try.underlying25, bytesS, List.length_map, List.length_range, hmm]
    exact List.mem_cons_self ..)
   simp only [reachBytes] at hs
   refine ⟨some y, (List.range len).map (fun i => (intOf (V0 i), intOf (V1 i))), cap, by simp, ⟨⟨by simp; omega, fun j hj => ?_⟩, fun h => (by cases h), by simpa using hl, by simp; omega⟩⟩
   have hj' : j < len := by simpa using hj
   obtain ⟨f, t, e0, e1⟩ := each j hj'
   obtain ⟨q0, q1, _, _⟩ := hx j (by omega)
   obtain ⟨b, o, rfl⟩ := ze6 (by have := (hx 0 (by omega)).1; simpa using this)
   rw [zb0] at q0 q1
   refine ⟨b, o, rfl, ?_, ?_⟩
   · rw [q0, e0]; simp [hj', e0, intOf]
   · rw [show o + j * 2 + 1 = o + (j * 2 + 1) from by omega, q1, e1]; simp [hj', e1, intOf]
set_option maxRecDepth 100000 in
theorem open_recv {H : Type} {enc : TypeId × Value → H} {w : World} {base : Nat} {v : Value} {d : DataW H} {p : List MemPlace} (hv : Value.okWide Try.prog w .any base 27 v) (h : DataW.Trod enc Try.prog w 0 (fun _ => true) true 27 v d p) (hw : ∀ n ∈ d.weights Try.prog 27, n ≤ reachBytes) :
 ∃ (r : Pl.Rv) (h : Hd), v = .agg #[.int .i64 r.s.n, .slice h.ua r.s.u.length h.uc, .slice h.la h.es.length h.lc, .int .i64 r.cap, .int .i64 r.shift, .int .i64 r.edge, .int .u32 r.recent, .bool r.stamps, .bool r.sacks, .int .i64 r.fin, .bool r.dn, .slice h.fa r.first.length h.fc, .int .u32 r.irs, .int .u32 r.own, .bool r.stamp] ∧ RvAt w r h := by
 obtain ⟨cs, rfl, hsz⟩ := okWide_struct Try.underlying27 hv
 obtain ⟨fuel, hf⟩ := h
 obtain ⟨xs, n, _, hd, _, hxl, hx⟩ := DataW.trod_struct Try.underlying27 hf
 have hc : Try.prog.cellsOf 27 = 15 := by kernel_rfl
 rw [hc] at hsz
 obtain ⟨l⟩ := cs
 have c_Pieces : Try.prog.cellsOf 23 = 1 := by kernel_rfl
 have c_Spans : Try.prog.cellsOf 25 = 1 := by kernel_rfl
 have c_bool : Try.prog.cellsOf 4 = 1 := by kernel_rfl
 have c_bytes : Try.prog.cellsOf 22 = 1 := by kernel_rfl
 have c_int : Try.prog.cellsOf 3 = 1 := by kernel_rfl
 have c_u32 : Try.prog.cellsOf 24 = 1 := by kernel_rfl
 match l, hsz, xs, hxl with
 | [a0, a1, a2, a3, a4, a5, a6, a7, a8, a9, a10, a11, a12, a13, a14], _, [y0, y1, y2, y3, y4, y5, y6, y7, y8, y9, y10, y11, y12, y13, y14], _ =>
  have hdd : d = .agg [y0.1, y1.1, y2.1, y3.1, y4.1, y5.1, y6.1, y7.1, y8.1, y9.1, y10.1, y11.1, y12.1, y13.1, y14.1] := by simpa using congrArg Prod.fst hd
  have g0 : DataW.trod enc Try.prog w 0 (fun _ => true) true n 3 (([a0, a1, a2, a3, a4, a5, a6, a7, a8, a9, a10, a11, a12, a13, a14].drop 0).take (Try.prog.cellsOf 3)) = some y0 := hx 0 _ rfl
  rw [c_int] at g0
  obtain ⟨z0, e0, _, w0⟩ := DataW.trod_int (k := .i64) Try.underlying3 g0
  have g1 : DataW.trod enc Try.prog w 0 (fun _ => true) true n 22 (([a0, a1, a2, a3, a4, a5, a6, a7, a8, a9, a10, a11, a12, a13, a14].drop 1).take (Try.prog.cellsOf 22)) = some y1 := hx 1 _ rfl
  rw [c_bytes] at g1
  have g1' : DataW.trod enc Try.prog w 0 (fun _ => true) true n 22 [a1] = some (y1.1, y1.2) := g1
  have hm1 : ∀ m ∈ y1.1.weights Try.prog 22, m ≤ reachBytes := fun m hm => hw m (by
   rw [hdd]
   simp only [DataW.weights, Try.underlying27]
   exact List.mem_append.2 (.inr (List.mem_append.2 (.inl hm))))
  obtain ⟨s1, z1, q1, e1, hS1⟩ := open_byts g1' hm1
  have g2 : DataW.trod enc Try.prog w 0 (fun _ => true) true n 23 (([a0, a1, a2, a3, a4, a5, a6, a7, a8, a9, a10, a11, a12, a13, a14].drop 2).take (Try.prog.cellsOf 23)) = some y2 := hx 2 _ rfl
  rw [c_Pieces] at g2
  have g2' : DataW.trod enc Try.prog w 0 (fun _ => true) true n 23 [a2] = some (y2.1, y2.2) := g2
  have hm2 : ∀ m ∈ y2.1.weights Try.prog 23, m ≤ reachBytes := fun m hm => hw m (by
   rw [hdd]
   simp only [DataW.weights, Try.underlying27]
   exact List.mem_append.2 (.inr (List.mem_append.2 (.inr (List.mem_append.2 (.inl hm))))))
  obtain ⟨s2, z2, q2, e2, hS2⟩ := open_pcs g2' hm2
  have g3 : DataW.trod enc Try.prog w 0 (fun _ => true) true n 3 (([a0, a1, a2, a3, a4, a5, a6, a7, a8, a9, a10, a11, a12, a13, a14].drop 3).take (Try.prog.cellsOf 3)) = some y3 := hx 3 _ rfl
  rw [c_int] at g3
  obtain ⟨z3, e3, _, w3⟩ := DataW.trod_int (k := .i64) Try.underlying3 g3
  have g4 : DataW.trod enc Try.prog w 0 (fun _ => true) true n 3 (([a0, a1, a2, a3, a4, a5, a6, a7, a8, a9, a10, a11, a12, a13, a14].drop 4).take (Try.prog.cellsOf 3)) = some y4 := hx 4 _ rfl
  rw [c_int] at g4
  obtain ⟨z4, e4, _, w4⟩ := DataW.trod_int (k := .i64) Try.underlying3 g4
  have g5 : DataW.trod enc Try.prog w 0 (fun _ => true) true n 3 (([a0, a1, a2, a3, a4, a5, a6, a7, a8, a9, a10, a11, a12, a13, a14].drop 5).take (Try.prog.cellsOf 3)) = some y5 := hx 5 _ rfl
  rw [c_int] at g5
  obtain ⟨z5, e5, _, w5⟩ := DataW.trod_int (k := .i64) Try.underlying3 g5
  have g6 : DataW.trod enc Try.prog w 0 (fun _ => true) true n 24 (([a0, a1, a2, a3, a4, a5, a6, a7, a8, a9, a10, a11, a12, a13, a14].drop 6).take (Try.prog.cellsOf 24)) = some y6 := hx 6 _ rfl
  rw [c_u32] at g6
  obtain ⟨z6, e6, _, w6⟩ := DataW.trod_int (k := .u32) Try.underlying24 g6
  have g7 : DataW.trod enc Try.prog w 0 (fun _ => true) true n 4 (([a0, a1, a2, a3, a4, a5, a6, a7, a8, a9, a10, a11, a12, a13, a14].drop 7).take (Try.prog.cellsOf 4)) = some y7 := hx 7 _ rfl
  rw [c_bool] at g7
  obtain ⟨z7, e7, _⟩ := DataW.trod_bool Try.underlying4 g7
  have g8 : DataW.trod enc Try.prog w 0 (fun _ => true) true n 4 (([a0, a1, a2, a3, a4, a5, a6, a7, a8, a9, a10, a11, a12, a13, a14].drop 8).take (Try.prog.cellsOf 4)) = some y8 := hx 8 _ rfl
  rw [c_bool] at g8
  obtain ⟨z8, e8, _⟩ := DataW.trod_bool Try.underlying4 g8
  have g9 : DataW.trod enc Try.prog w 0 (fun _ => true) true n 3 (([a0, a1, a2, a3, a4, a5, a6, a7, a8, a9, a10, a11, a12, a13, a14].drop 9).take (Try.prog.cellsOf 3)) = some y9 := hx 9 _ rfl
  rw [c_int] at g9
  obtain ⟨z9, e9, _, w9⟩ := DataW.trod_int (k := .i64) Try.underlying3 g9
  have g10 : DataW.trod enc Try.prog w 0 (fun _ => true) true n 4 (([a0, a1, a2, a3, a4, a5, a6, a7, a8, a9, a10, a11, a12, a13, a14].drop 10).take (Try.prog.cellsOf 4)) = some y10 := hx 10 _ rfl
  rw [c_bool] at g10
  obtain ⟨z10, e10, _⟩ := DataW.trod_bool Try.underlying4 g10
  have g11 : DataW.trod enc Try.prog w 0 (fun _ => true) true n 25 (([a0, a1, a2, a3, a4, a5, a6, a7, a8, a9, a10, a11, a12, a13, a14].drop 11).take (Try.prog.cellsOf 25)) = some y11 := hx 11 _ rfl
  rw [c_Spans] at g11
  have g11' : DataW.trod enc Try.prog w 0 (fun _ => true) true n 25 [a11] = some (y11.1, y11.2) := g11
  have hm11 : ∀ m ∈ y11.1.weights Try.prog 25, m ≤ reachBytes := fun m hm => hw m (by
   rw [hdd]
   simp only [DataW.weights, Try.underlying27]
   exact List.mem_append.2 (.inr (List.mem_append.2 (.inr (List.mem_append.2 (.inr (List.mem_append.2 (.inr (List.mem_append.2 (.inr (List.mem_append.2 (.inr (List.mem_append.2 (.inr (List.mem_append.2 (.inr (List.mem_append.2 (.inr (List.mem_append.2 (.inr (List.mem_append.2 (.inr (List.mem_append.2 (.inl hm))))))))))))))))))))))))
  obtain ⟨s11, z11, q11, e11, hS11⟩ := open_spans g11' hm11
  have g12 : DataW.trod enc Try.prog w 0 (fun _ => true) true n 24 (([a0, a1, a2, a3, a4, a5, a6, a7, a8, a9, a10, a11, a12, a13, a14].drop 12).take (Try.prog.cellsOf 24)) = some y12 := hx 12 _ rfl
  rw [c_u32] at g12
  obtain ⟨z12, e12, _, w12⟩ := DataW.trod_int (k := .u32) Try.underlying24 g12
  have g13 : DataW.trod enc Try.prog w 0 (fun _ => true) true n 24 (([a0, a1, a2, a3, a4, a5, a6, a7, a8, a9, a10, a11, a12, a13, a14].drop 13).take (Try.prog.cellsOf 24)) = some y13 := hx 13 _ rfl
  rw [c_u32] at g13
  obtain ⟨z13, e13, _, w13⟩ := DataW.trod_int (k := .u32) Try.underlying24 g13
  have g14 : DataW.trod enc Try.prog w 0 (fun _ => true) true n 4 (([a0, a1, a2, a3, a4, a5, a6, a7, a8, a9, a10, a11, a12, a13, a14].drop 14).take (Try.prog.cellsOf 4)) = some y14 := hx 14 _ rfl
  rw [c_bool] at g14
  obtain ⟨z14, e14, _⟩ := DataW.trod_bool Try.underlying4 g14
  simp at e0 e3 e4 e5 e6 e7 e8 e9 e10 e12 e13 e14
  subst e0; subst e1; subst e2; subst e3; subst e4; subst e5; subst e6; subst e7; subst e8; subst e9; subst e10; subst e11; subst e12; subst e13; subst e14
  exact ⟨{ s := { n := z0, u := z1, l := z2.map En.pc }, cap := z3, shift := z4, edge := z5, recent := z6, stamps := z7, sacks := z8, fin := z9, dn := z10, first := z11, irs := z12, own := z13, stamp := z14 }, ⟨s1, q1, s2, q2, z2, s11, q11⟩, rfl,
   { un := hS1, late := hS2, les := rfl, fst := hS11, n := zbw w0, cap := zbw w3, shift := zbw w4, edge := zbw w5, recent := zej w6, fin := zbw w9, irs := zej w12, own := zej w13 }⟩
theorem sized_arg {H : Type} {P : Program} {ts : List TypeId} {ds : List (DataW H)} (h : (DataW.weightsEach P ts ds).all (· ≤ reachBytes) = true) {j : Nat} {t : TypeId} {d : DataW H} (ht : ts[j]? = some t) (hd : ds[j]? = some d) : ∀ n ∈ d.weights P t, n ≤ reachBytes := fun n hn => by
 have := List.all_eq_true.1 h _ (DataW.weights_mem_each ht hd n hn)
 simpa using this
def IntsAt (w : World) (A : Option Addr) (xs : List Int) : Prop := ∀ j, j < xs.length → ∃ b o, A = some ⟨b, o, none⟩ ∧ w.cell? ⟨b, o + j, none⟩ = some (.int .i64 (xs[j]?.getD 0)) ∧ I64 (xs[j]?.getD 0)
theorem IntsAt.later {w w' : World} {A : Option Addr} {xs : List Int} (h : IntsAt w A xs) (hb : Below w.heap.size w w') : IntsAt w' A xs := fun j hj => by
 obtain ⟨b, o, e, hc, hi⟩ := h j hj
 exact ⟨b, o, e, (hb.cell (p := ⟨b, o + j, none⟩) (zac hc)).trans hc, hi⟩
end Go.Proofs.Ytkigcdmlkmcdcaa

