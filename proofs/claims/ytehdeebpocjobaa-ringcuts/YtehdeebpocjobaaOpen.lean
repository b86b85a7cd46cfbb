/- Rings, bytes, rows of bytes and rows of numbers that came in. -/
import Derived.Test.YtehdeebpocjobaaHeads
import Derived.Deep.SlicePairs
import Derived.ProofKit
import Derived.OpenShut
import Derived.SizedLaws
import Derived.Deep.Matrix
namespace Go.Proofs.Ytehdeebpocjobaa
open Go.ChangeShapes Go.WideShapes Go.ChangeAt Go.RowKit
set_option linter.unusedVariables false

theorem spot_none {w : World} {a : Addr} {v : Value} (h : w.cell? (a.add 0) = some v) : ∃ b o, a = ⟨b, o, none⟩ := by
  obtain ⟨b, o, spot⟩ := a
  have hs : spot = none := by simpa [Addr.add] using World.cell?_spot h
  subst hs
  exact ⟨b, o, rfl⟩
theorem bounds_u8 {a : Int} (h : (Lit.int .u8 a).wf = true) : 0 ≤ a ∧ a ≤ 255 := by
  simp [Lit.wf, IntKind.min, IntKind.max, IntKind.signed, IntKind.bits] at h; omega
theorem bounds_i64 {a : Int} (h : (Lit.int .i64 a).wf = true) : I64 a := by
  simp [Lit.wf, IntKind.min, IntKind.max, IntKind.signed, IntKind.bits] at h; unfold I64; omega
theorem bytes5 : Try.prog.bytesOf 5 = 1 := by kernel_rfl
theorem bytes22 : Try.prog.bytesOf 22 = 24 := by kernel_rfl
theorem bytes3 : Try.prog.bytesOf 3 = 8 := by kernel_rfl

theorem weights_all {H : Type} {P : Program} {e : TypeId} {n : Nat} {d : DataW H} (hn : n ∈ d.weights P e) : ∀ {ds : List (DataW H)}, d ∈ ds → n ∈ DataW.weightsAll P e ds
  | [], h => by cases h
  | x :: r, h => by
    rw [DataW.weightsAll, List.mem_append]
    rcases List.mem_cons.1 h with rfl | h
    · exact .inl hn
    · exact .inr (weights_all hn h)

theorem open_byts {H : Type} {enc : TypeId × Value → H} {w : World} {fuel : Nat} {v : Value} {d : DataW H} {p : List MemPlace} (h : DataW.trod enc Try.prog w 0 (fun _ => true) true fuel 22 [v] = some (d, p)) (hw : ∀ n ∈ d.weights Try.prog 22, n ≤ reachBytes) :
    ∃ a bs c, v = .slice a bs.length c ∧ SlAt w a c bs := by
  rcases open_ints Try.underlying22 Try.underlying5 (by kernel_rfl) h with ⟨hcs, _⟩ | ⟨x, l, c, zs, hcs, _, hl, hm, hz, hxe, hcell, hwz⟩
  · simp at hcs
    subst hcs
    exact ⟨none, [], 0, rfl, SlAt.nil _⟩
  · simp at hcs hz
    subst hcs
    simp only [Prod.mk.injEq] at hxe
    obtain ⟨rfl, _⟩ := hxe
    have hs := hw ((l + (zs.length - l)) * 1) (by
      simp only [DataW.weights, Try.underlying22, bytes5, lits, List.length_map, List.length_take, List.length_drop]
      rw [Nat.min_eq_left (by omega)]
      exact List.mem_cons_self ..)
    simp only [reachBytes] at hs
    have hlen : (zs.take l).length = l := by simp; omega
    refine ⟨some x, zs.take l, c, by rw [hlen], ⟨by omega, fun y hy => bounds_u8 (hwz y (List.mem_of_mem_take hy)), fun j hj => ?_⟩, fun h => (by cases h), by omega⟩
    rw [hlen] at hj
    obtain ⟨b, o, rfl⟩ := spot_none (by have := hcell 0 (by omega); exact this)
    refine ⟨b, o, rfl, ?_⟩
    have := hcell j (by omega)
    rw [add_plain] at this
    rw [this, List.getElem?_take_of_lt hj]
    rfl
theorem open_ring {H : Type} {enc : TypeId × Value → H} {w : World} {base : Nat} {v : Value} {d : DataW H} {p : List MemPlace} (hv : Value.okWide Try.prog w .any base 24 v) (h : DataW.Trod enc Try.prog w 0 (fun _ => true) true 24 v d p) (hw : ∀ n ∈ d.weights Try.prog 24, n ≤ reachBytes) :
    ∃ b a bs c k q, v = .agg #[.int .i64 b, .slice a bs.length c, .int .i64 k, .bool q] ∧ SlAt w a c bs ∧ I64 b ∧ I64 k := by
  obtain ⟨cs, rfl, hsz⟩ := okWide_struct Try.underlying24 hv
  obtain ⟨fuel, hf⟩ := h
  obtain ⟨xs, n, _, hd, _, hxl, hx⟩ := DataW.trod_struct Try.underlying24 hf
  have hc4 : Try.prog.cellsOf 24 = 4 := by kernel_rfl
  have c3 : Try.prog.cellsOf 3 = 1 := by kernel_rfl
  have c4 : Try.prog.cellsOf 4 = 1 := by kernel_rfl
  have c22 : Try.prog.cellsOf 22 = 1 := by kernel_rfl
  rw [hc4] at hsz
  obtain ⟨l⟩ := cs
  match l, hsz, xs, hxl with
  | [a0, a1, a2, a3], _, [y0, y1, y2, y3], _ =>
    have g0 : DataW.trod enc Try.prog w 0 (fun _ => true) true n 3 (([a0, a1, a2, a3].drop 0).take (Try.prog.cellsOf 3)) = some y0 := hx 0 _ rfl
    have g1 : DataW.trod enc Try.prog w 0 (fun _ => true) true n 22 (([a0, a1, a2, a3].drop 1).take (Try.prog.cellsOf 22)) = some y1 := hx 1 _ rfl
    have g2 : DataW.trod enc Try.prog w 0 (fun _ => true) true n 3 (([a0, a1, a2, a3].drop 2).take (Try.prog.cellsOf 3)) = some y2 := hx 2 _ rfl
    have g3 : DataW.trod enc Try.prog w 0 (fun _ => true) true n 4 (([a0, a1, a2, a3].drop 3).take (Try.prog.cellsOf 4)) = some y3 := hx 3 _ rfl
    rw [c3] at g0 g2
    rw [c22] at g1
    rw [c4] at g3
    have g1' : DataW.trod enc Try.prog w 0 (fun _ => true) true n 22 [a1] = some (y1.1, y1.2) := g1
    obtain ⟨b, e0, _, w0⟩ := DataW.trod_int (k := .i64) Try.underlying3 g0
    obtain ⟨k, e2, _, w2⟩ := DataW.trod_int (k := .i64) Try.underlying3 g2
    obtain ⟨q, e3, _⟩ := DataW.trod_bool Try.underlying4 g3
    have hdd : d = .agg [y0.1, y1.1, y2.1, y3.1] := by simpa using congrArg Prod.fst hd
    obtain ⟨a, bs, c, e1, hS⟩ := open_byts g1' (fun m hm => hw m (by
      rw [hdd]
      simp only [DataW.weights, Try.underlying24]
      exact List.mem_append.2 (.inr (List.mem_append.2 (.inl hm)))))
    simp at e0 e2 e3
    subst e0; subst e1; subst e2; subst e3
    exact ⟨b, a, bs, c, k, q, rfl, hS, bounds_i64 w0, bounds_i64 w2⟩
/-- What the reach says of one argument. -/
theorem sized_arg {H : Type} {P : Program} {ts : List TypeId} {ds : List (DataW H)} (h : (DataW.weightsEach P ts ds).all (· ≤ reachBytes) = true) {j : Nat} {t : TypeId} {d : DataW H} (ht : ts[j]? = some t) (hd : ds[j]? = some d) : ∀ n ∈ d.weights P t, n ≤ reachBytes := fun n hn => by
  have := List.all_eq_true.1 h _ (DataW.weights_mem_each ht hd n hn)
  simpa using this
/-- Rows of bytes that came in. -/
theorem open_parts {H : Type} {enc : TypeId × Value → H} {w : World} {fuel : Nat} {v : Value} {d : DataW H} {p : List MemPlace} (h : DataW.trod enc Try.prog w 0 (fun _ => true) true fuel 47 [v] = some (d, p)) (hw : ∀ n ∈ d.weights Try.prog 47, n ≤ reachBytes) :
    ∃ A ps c, v = .slice A ps.length c ∧ PtsAt w A ps ∧ ps.length ≤ 140737488351232 := by
  rcases Deep.open_slice1 Try.underlying47 (by kernel_rfl) h with ⟨hcs, _⟩ | ⟨y, len, cap, m, n, V, D, Pl, hcs, _, hl, hm, hmm, hx0, hx⟩
  · simp at hcs
    subst hcs
    exact ⟨none, [], 0, rfl, fun j p hj => (by simp at hj), by simp⟩
  · simp at hcs hmm
    subst hcs
    simp only [Prod.mk.injEq] at hx0
    obtain ⟨rfl, _⟩ := hx0
    have each : ∀ i, i < len → ∃ x : Pt, V i = .slice x.a x.bs.length x.c ∧ SlAt w x.a x.c x.bs := fun i hi => by
      obtain ⟨_, h0⟩ := hx i (by omega)
      obtain ⟨a, bs, c, e0, hS⟩ := open_byts h0 (fun q hq => hw q (by
        simp only [DataW.weights, Try.underlying47, List.mem_cons, List.mem_append]
        exact .inr (.inl (weights_all (d := D i) hq (List.mem_map.2 ⟨i, List.mem_range.2 hi, rfl⟩)))))
      exact ⟨⟨a, c, bs⟩, e0, hS⟩
    haveI : Inhabited Pt := ⟨⟨none, 0, []⟩⟩
    obtain ⟨X, hX⟩ := Deep.choose_lt (α := Pt) each
    have hs := hw ((len + (cap - len)) * 24) (by
      simp only [DataW.weights, Try.underlying47, bytes22, List.length_map, List.length_range, hmm]
      exact List.mem_cons_self ..)
    simp only [reachBytes] at hs
    refine ⟨some y, (List.range len).map X, cap, by simp, fun j p hj => ?_, by simp; omega⟩
    have hj' : j < len := by
      rcases Nat.lt_or_ge j len with h | h
      · exact h
      · rw [List.getElem?_eq_none (by simpa using h)] at hj; cases hj
    obtain rfl : p = X j := by simpa [hj'] using hj.symm
    obtain ⟨q0, _⟩ := hx j (by omega)
    obtain ⟨b, o, rfl⟩ := spot_none (by have := (hx 0 (by omega)).1; simpa using this)
    rw [add_plain] at q0
    obtain ⟨e, hS⟩ := hX j hj'
    exact ⟨b, o, rfl, by rw [q0, e], hS⟩
/-- The slice at A holds these numbers. -/
def IntsAt (w : World) (A : Option Addr) (xs : List Int) : Prop := ∀ j, j < xs.length → ∃ b o, A = some ⟨b, o, none⟩ ∧ w.cell? ⟨b, o + j, none⟩ = some (.int .i64 (xs[j]?.getD 0)) ∧ I64 (xs[j]?.getD 0)
theorem IntsAt.later {w w' : World} {A : Option Addr} {xs : List Int} (h : IntsAt w A xs) (hb : Below w.heap.size w w') : IntsAt w' A xs := fun j hj => by
  obtain ⟨b, o, e, hc, hi⟩ := h j hj
  exact ⟨b, o, e, (hb.cell (p := ⟨b, o + j, none⟩) (lt_of_cell hc)).trans hc, hi⟩
theorem open_nums {H : Type} {enc : TypeId × Value → H} {w : World} {fuel : Nat} {v : Value} {d : DataW H} {p : List MemPlace} (h : DataW.trod enc Try.prog w 0 (fun _ => true) true fuel 48 [v] = some (d, p)) :
    ∃ A xs c, v = .slice A xs.length c ∧ IntsAt w A xs ∧ xs.length ≤ 9223372036854775807 := by
  rcases open_ints Try.underlying48 Try.underlying3 (by kernel_rfl) h with ⟨hcs, _⟩ | ⟨x, l, c, zs, hcs, _, hl, hm, hz, hxe, hcell, hwz⟩
  · simp at hcs
    subst hcs
    exact ⟨none, [], 0, rfl, fun j hj => (by simp at hj), by simp⟩
  · simp at hcs hz
    subst hcs
    have hlen : (zs.take l).length = l := by simp; omega
    simp only [maxLen] at hm
    refine ⟨some x, zs.take l, c, by rw [hlen], fun j hj => ?_, by omega⟩
    rw [hlen] at hj
    obtain ⟨b, o, rfl⟩ := spot_none (by have := hcell 0 (by omega); exact this)
    have := hcell j (by omega)
    rw [add_plain] at this
    refine ⟨b, o, rfl, ?_, ?_⟩
    · rw [this, List.getElem?_take_of_lt hj]; rfl
    · rw [List.getElem?_take_of_lt hj]
      have hj2 : j < zs.length := by omega
      rw [List.getElem?_eq_getElem hj2]
      exact bounds_i64 (hwz _ (List.getElem_mem hj2))
end Go.Proofs.Ytehdeebpocjobaa
