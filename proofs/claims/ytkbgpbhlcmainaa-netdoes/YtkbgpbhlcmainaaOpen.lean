/- Datagrams and bytes that came in. -/
import Derived.Test.YtkbgpbhlcmainaaHeads
import Derived.Deep.SlicePairs
import Derived.ProofKit
import Derived.OpenShut
import Derived.SizedLaws
namespace Go.Proofs.Ytkbgpbhlcmainaa
open Go.ChangeShapes Go.WideShapes Go.ChangeAt Go.RowKit
set_option linter.unusedVariables false

theorem spot_none {w : World} {a : Addr} {v : Value} (h : w.cell? (a.add 0) = some v) : ∃ b o, a = ⟨b, o, none⟩ := by
  obtain ⟨b, o, spot⟩ := a
  have hs : spot = none := by simpa [Addr.add] using World.cell?_spot h
  subst hs
  exact ⟨b, o, rfl⟩
theorem bounds_u8 {a : Int} (h : (Lit.int .u8 a).wf = true) : 0 ≤ a ∧ a ≤ 255 := by
  simp [Lit.wf, IntKind.min, IntKind.max, IntKind.signed, IntKind.bits] at h; omega
theorem bounds_i64 {a : Int} (h : (Lit.int .i64 a).wf = true) : I64 a := by
  simp [Lit.wf, IntKind.min, IntKind.max, IntKind.signed, IntKind.bits] at h; unfold I64; omega
theorem bytes5 : Try.prog.bytesOf 5 = 1 := by kernel_rfl
theorem bytes26 : Try.prog.bytesOf 26 = 32 := by kernel_rfl
theorem bytes24 : Try.prog.bytesOf 24 = 24 := by kernel_rfl

theorem weights_all {H : Type} {P : Program} {e : TypeId} {n : Nat} {d : DataW H} (hn : n ∈ d.weights P e) : ∀ {ds : List (DataW H)}, d ∈ ds → n ∈ DataW.weightsAll P e ds
  | [], h => by cases h
  | x :: r, h => by
    rw [DataW.weightsAll, List.mem_append]
    rcases List.mem_cons.1 h with rfl | h
    · exact .inl hn
    · exact .inr (weights_all hn h)

theorem open_byts {H : Type} {enc : TypeId × Value → H} {w : World} {fuel : Nat} {v : Value} {d : DataW H} {p : List MemPlace} (h : DataW.trod enc Try.prog w 0 (fun _ => true) true fuel 24 [v] = some (d, p)) (hw : ∀ n ∈ d.weights Try.prog 24, n ≤ reachBytes) :
    ∃ a bs c, v = .slice a bs.length c ∧ BytesAt w a bs ∧ (a = none → c = 0) := by
  rcases open_ints Try.underlying24 Try.underlying5 (by kernel_rfl) h with ⟨hcs, _⟩ | ⟨x, l, c, zs, hcs, _, hl, hm, hz, hxe, hcell, hwz⟩
  · simp at hcs
    subst hcs
    exact ⟨none, [], 0, rfl, BytesAt.nil _ _, fun _ => rfl⟩
  · simp at hcs hz
    subst hcs
    simp only [Prod.mk.injEq] at hxe
    obtain ⟨rfl, _⟩ := hxe
    have hs := hw ((l + (zs.length - l)) * 1) (by
      simp only [DataW.weights, Try.underlying24, bytes5, lits, List.length_map, List.length_take, List.length_drop]
      rw [Nat.min_eq_left (by omega)]
      exact List.mem_cons_self ..)
    simp only [reachBytes] at hs
    have hlen : (zs.take l).length = l := by simp; omega
    refine ⟨some x, zs.take l, c, by rw [hlen], ⟨by omega, fun y hy => bounds_u8 (hwz y (List.mem_of_mem_take hy)), fun j hj => ?_⟩, fun h => by cases h⟩
    rw [hlen] at hj
    obtain ⟨b, o, rfl⟩ := spot_none (by have := hcell 0 (by omega); exact this)
    refine ⟨b, o, rfl, ?_⟩
    have := hcell j (by omega)
    rw [add_plain] at this
    rw [this, List.getElem?_take_of_lt hj]
    rfl

theorem open_dats {H : Type} {enc : TypeId × Value → H} {w : World} {fuel : Nat} {v : Value} {d : DataW H} {p : List MemPlace} (h : DataW.trod enc Try.prog w 0 (fun _ => true) true fuel 22 [v] = some (d, p)) (hw : ∀ n ∈ d.weights Try.prog 22, n ≤ reachBytes) :
    ∃ A l c, v = .slice A l.length c ∧ DatsAt w A l.length c l := by
  rcases Deep.open_slice_pairs Try.underlying22 Try.underlying26 (by kernel_rfl) rfl rfl (by kernel_rfl) (by kernel_rfl) h with ⟨hcs, _⟩ | ⟨y, len, cap, m, n, V0, V1, D0, D1, P0, P1, hcs, _, hl, hm, hmm, hx0, hx⟩
  · simp at hcs
    subst hcs
    exact ⟨none, [], 0, rfl, DatsAt.nil _⟩
  · simp at hcs hmm
    subst hcs
    simp only [Prod.mk.injEq] at hx0
    obtain ⟨rfl, _⟩ := hx0
    have each : ∀ i, i < len → ∃ x : En, V0 i = .slice x.a x.bs.length x.c ∧ V1 i = .int .i64 x.t ∧ x.ok w := fun i hi => by
      obtain ⟨_, _, h0, h1⟩ := hx i (by omega)
      obtain ⟨t, e1, _, wf⟩ := DataW.trod_int (k := .i64) Try.underlying3 h1
      simp at e1
      obtain ⟨a, bs, c, e0, hB, hn⟩ := open_byts h0 (fun q hq => hw q (by
        simp only [DataW.weights, Try.underlying22, List.mem_cons, List.mem_append]
        refine .inr (.inl (weights_all (d := .agg [D0 i, D1 i]) ?_ (List.mem_map.2 ⟨i, List.mem_range.2 hi, rfl⟩)))
        simp only [DataW.weights, Try.underlying26]
        exact List.mem_append.2 (.inl hq)))
      exact ⟨⟨a, c, bs, t⟩, e0, e1, hB, hn, bounds_i64 wf⟩
    haveI : Inhabited En := ⟨e0⟩
    obtain ⟨X, hX⟩ := Deep.choose_lt (α := En) each
    have hs := hw ((len + (cap - len)) * 32) (by
      simp only [DataW.weights, Try.underlying22, bytes26, List.length_map, List.length_range, hmm]
      exact List.mem_cons_self ..)
    simp only [reachBytes] at hs
    have hml : ((List.range len).map X).length = len := by simp
    refine ⟨some y, ((List.range len).map X).map En.dg, cap, by simp, (List.range len).map X, rfl, rfl, by simp; omega, by simpa using hl, hm, fun h => (by cases h), fun j x hj => ?_, fun x hx' => ?_⟩
    · have hj' : j < len := by
        rcases Nat.lt_or_ge j len with h | h
        · exact h
        · rw [List.getElem?_eq_none (by omega)] at hj; cases hj
      obtain rfl : x = X j := by simpa [hj'] using hj.symm
      obtain ⟨q0, q1, _, _⟩ := hx j (by omega)
      obtain ⟨b, o, rfl⟩ := spot_none (by have := (hx 0 (by omega)).1; simpa using this)
      rw [add_plain] at q0 q1
      refine ⟨b, o, rfl, ?_, ?_⟩
      · rw [q0, (hX j hj').1]
      · rw [show o + j * 2 + 1 = o + (j * 2 + 1) from by omega, q1, (hX j hj').2.1]
    · obtain ⟨i, hi, rfl⟩ := List.mem_map.1 hx'
      exact (hX i (List.mem_range.1 hi)).2.2
/-- What the reach says of one argument. -/
theorem sized_arg {H : Type} {P : Program} {ts : List TypeId} {ds : List (DataW H)} (h : (DataW.weightsEach P ts ds).all (· ≤ reachBytes) = true) {j : Nat} {t : TypeId} {d : DataW H} (ht : ts[j]? = some t) (hd : ds[j]? = some d) : ∀ n ∈ d.weights P t, n ≤ reachBytes := fun n hn => by
  have := List.all_eq_true.1 h _ (DataW.weights_mem_each ht hd n hn)
  simpa using this
end Go.Proofs.Ytkbgpbhlcmainaa
