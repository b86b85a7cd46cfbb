/- Cells laid over a row: 'copy' of elements of several cells into a row that is known whole. -/
import Derived.Test.YtdmkbnbdbhggkaaStop
import Derived.Laws.CopyRow
import Derived.Laws.IdiomCopy
import Derived.Lib.Overlaps
import Derived.Lib.AppendZerosOnto
import Derived.Laws.Externs
import Derived.Deep.RegionLaw
namespace Go.Proofs.Ytdmkbnbdbhggkaa
open Go.ChangeShapes Go.WideShapes Go.ChangeAt Go.RowKit Go.Shelf
set_option linter.unusedVariables false

/-- Cells laid over others, from a place on. -/
def lay (cur : List Value) (off : Nat) (cs : List Value) : List Value := cur.take off ++ cs ++ cur.drop (off + cs.length)
theorem lay_len {cur cs : List Value} {off : Nat} (h : off + cs.length ≤ cur.length) : (lay cur off cs).length = cur.length := by simp [lay]; omega

theorem run_copy_lay {P : Program} (w : World) (dT sT ty elem : TypeId) (g off dLen dCap : Nat) (ad : Addr) (sLen sCap n k : Nat) (cur cs : List Value) (t : TypeId)
    (hu : P.underlying dT = some (.slice elem)) (hs : (P.info? elem).map (·.size) = some k) (hn : Nat.min sLen dLen = n) (hl : cs.length = n * k) (hg : w.heap[g]? = some (.cells cur.toArray t (0, 0)))
    (hsrc : ∀ j v, cs[j]? = some v → w.cell? (ad.add j) = some v) (hfit : off + cs.length ≤ cur.length) (h1 : ∀ v ∈ cs, v.oneCell' = true) :
    (Builtin.copy_ #[dT, sT] ty #[.slice (some ⟨g, off, none⟩) dLen dCap, .slice (some ad) sLen sCap]).run P w = .ok (goInt n) (w.setRow g (lay cur off cs).toArray) := by
  have hld := run_loadCells_list (P := P) w ad cs hsrc
  have hst := run_storeCells_at P g off t cs 0 cur.toArray w hg (by simpa using hfit) h1
  simp only [Nat.add_zero] at hst
  rw [hl] at hld
  cases hq : P.info? elem with
  | none => simp [hq] at hs
  | some i =>
    have hi : i.size = k := by simpa [hq] using hs
    simp [Builtin.copy_, run_underlying hu, Builtin.lenOf, Builtin.firstCells, sizeOf, typeInfo, hq, hi, hn, hld, hst, lay]

/-- The operation, where its run is known. -/
theorem wpList_copy_is {P : Program} (w : World) {ops : Array Oper} {rest : List Oper} {o : Oper} {a : Act} {Q : Exit → Act → World → Prop} (hgd : o.guard = none) (d s : Operand) (t t' : TypeId)
    (ho : o.op = .call { callee := .builtin .copy, args := #[d, s], argTypes := #[t, t'] }) (v u : Value) (hd : a.eval d = v) (hs : a.eval s = u) {v' : Value} {w' : World}
    (hr : (Builtin.copy_ #[t, t'] o.type #[v, u]).run P w = .ok v' w') (h : wpList P ops Q rest (a.put o.dst v') w') : wpList P ops Q (o :: rest) a w := by
  refine wpList_plain hgd fun K hK => ?_
  unfold Oper.wp
  simp [execOp, ho, resolve, invoke, builtin, hd, hs, hr, Result.andThen]
  exact hK _ _ h
theorem step_copy_is {P : Program} {ops : Array Oper} {o : Oper} {a : Act} {w : World} {K : Act → World → Prop} {Q : Exit → Act → World → Prop} {E : Prop} (hgd : o.guard = none) (d s : Operand) (t t' : TypeId)
    (ho : o.op = .call { callee := .builtin .copy, args := #[d, s], argTypes := #[t, t'] }) (v u : Value) (hd : a.eval d = v) (hs : a.eval s = u) {v' : Value} {w' : World}
    (hr : (Builtin.copy_ #[t, t'] o.type #[v, u]).run P w = .ok v' w') (h : K (a.put o.dst v') w') : if Region.wanted o (yielded ops a.tmps) = true then Oper.wp P o a w K Q else E := by
  rw [if_pos (by simp [Region.wanted, hgd])]
  unfold Oper.wp
  simp [execOp, ho, resolve, invoke, builtin, hd, hs, hr, Result.andThen]
  exact h

/-- Moved up, then laid in. -/
theorem lay_shift {cur T X : List Value} {m n : Nat} (hT : cur.take n = T) (hTl : T.length = n) (hX : X.length = 2) (hm : m ≤ n) (hc : n + 2 ≤ cur.length) :
    (lay (lay cur (m + 2) (T.drop m)) m X).take (n + 2) = T.take m ++ X ++ T.drop m := by
  have h1 : (cur.take (m + 2)).length = m + 2 := by rw [List.length_take]; omega
  have h2 : (T.drop m).length = n - m := by rw [List.length_drop, hTl]
  have e1 : (lay cur (m + 2) (T.drop m)).take m = T.take m := by
    unfold lay
    rw [List.append_assoc, List.take_append_of_le_length (by omega), List.take_take, ← hT, List.take_take]
    congr 1; omega
  have e2 : (lay cur (m + 2) (T.drop m)).drop (m + 2) = T.drop m ++ cur.drop (m + 2 + (n - m)) := by
    unfold lay
    rw [List.append_assoc, List.drop_append_of_le_length (by omega), List.drop_of_length_le (by omega), List.nil_append, h2]
  have e3 : lay (lay cur (m + 2) (T.drop m)) m X = (T.take m ++ X ++ T.drop m) ++ cur.drop (m + 2 + (n - m)) := by
    rw [show lay (lay cur (m + 2) (T.drop m)) m X = (lay cur (m + 2) (T.drop m)).take m ++ X ++ (lay cur (m + 2) (T.drop m)).drop (m + X.length) from rfl, hX, e1, e2]
    simp
  rw [e3, List.take_append_of_le_length (by simp [hX, hTl]; omega), List.take_of_length_le (by simp [hX, hTl]; omega)]

/-- Laid in, then what follows. -/
theorem lay_grow {cur T X : List Value} {m n : Nat} (hT : cur.take m = T.take m) (hTl : T.length = n) (hX : X.length = 2) (hm : m ≤ n) (hc : n + 2 ≤ cur.length) :
    (lay (lay cur m X) (m + 2) (T.drop m)).take (n + 2) = T.take m ++ X ++ T.drop m := by
  have h2 : (T.drop m).length = n - m := by rw [List.length_drop, hTl]
  have h1 : (T.take m).length = m := by rw [List.length_take]; omega
  have e1 : (lay cur m X).take (m + 2) = T.take m ++ X := by
    unfold lay
    rw [hT, List.take_append_of_le_length (by simp [hX]; omega), List.take_of_length_le (by simp [hX]; omega)]
  have e3 : lay (lay cur m X) (m + 2) (T.drop m) = (T.take m ++ X ++ T.drop m) ++ (lay cur m X).drop (m + 2 + (n - m)) := by
    rw [show lay (lay cur m X) (m + 2) (T.drop m) = (lay cur m X).take (m + 2) ++ T.drop m ++ (lay cur m X).drop (m + 2 + (T.drop m).length) from rfl, h2, e1]
  rw [e3, List.take_append_of_le_length (by simp [hX, hTl]; omega), List.take_of_length_le (by simp [hX, hTl]; omega)]

theorem elem22 : Try.prog.elem 22 = 31 := by kernel_rfl
theorem under22 : Try.prog.underlying 22 = some (.slice (Try.prog.elem 22)) := by rw [elem22]; exact Try.underlying22
theorem size31 (w : World) : (sizeOf (Try.prog.elem 22)).run Try.prog w = .ok 2 w := by kernel_rfl
theorem size31' : (Try.prog.info? 31).map (·.size) = some 2 := by kernel_rfl
theorem add_plain (b o k : Nat) : (⟨b, o, none⟩ : Addr).add k = ⟨b, o + k, none⟩ := by unfold Addr.add; split <;> simp_all

/-- Timers cut, from a place that is not the end. -/
theorem sl_from (b o n c l : Nat) (li : Int) (hl : li = (l : Int)) (h1 : l ≤ n) (h2 : l < c) (w : World) :
    (Instr.slice 22 (.slice (some ⟨b, o, none⟩) n c) (some (.int .i64 li)) none none).run Try.prog w = .ok (.slice (some ⟨b, o + l * 2, none⟩) (n - l) (c - l)) w := by
  subst hl
  rw [run_slice_l w 22 (some ⟨b, o, none⟩) n c under22 .i64 l (by omega) (by omega), size31]
  simp [sliced, add_plain]
  omega
theorem sl_upto (a : Option Addr) (n c h : Nat) (hi : Int) (hh : hi = (h : Int)) (h2 : h ≤ c) (w : World) :
    (Instr.slice 22 (.slice a n c) none (some (.int .i64 hi)) none).run Try.prog w = .ok (.slice a h c) w := by
  subst hh
  rw [run_slice_h w 22 a n c under22 .i64 h (by omega) (by omega), size31]
  cases a with
  | none => simp [sliced]
  | some x => simp [sliced, Addr.add]

theorem row_at {w : World} {B : Nat} {va : Option Addr} {L vc : Nat} {l : List Tm} (h : RowT w B va L vc l) (h0 : 0 < L) : ∃ g cur, va = some ⟨g, 0, none⟩ ∧ B ≤ g ∧ w.heap[g]? = some (.cells (List.toArray cur) 31 (0, 0)) ∧ L ≤ vc ∧ vc ≤ maxLen ∧ cur.length = vc * 2 ∧ cur.take (L * 2) = tcells l := by
  rcases h.2 with ⟨e, h0'⟩ | ⟨g, cap, cur, e, hg, hh, hc, hm, hsz, ht⟩
  · omega
  · cases e
    exact ⟨g, cur.toList, rfl, hg, by simpa using hh, hc, hm, by simpa using hsz, ht⟩
theorem row_mk {w : World} {B g L vc : Nat} {l : List Tm} {cur : List Value} (hg : B ≤ g) (hh : w.heap[g]? = some (.cells cur.toArray 31 (0, 0))) (hc : L ≤ vc) (hm : vc ≤ maxLen) (hs : cur.length = vc * 2) (hl : l.length = L) (ht : cur.take (L * 2) = tcells l) : RowT w B (some ⟨g, 0, none⟩) L vc l :=
  ⟨by rw [tcells_len, hl], .inr ⟨g, vc, cur.toArray, rfl, hg, hh, hc, hm, by simpa using hs, by simpa using ht⟩⟩
theorem tcells_ins (l : List Tm) (i : Nat) (x : Tm) : tcells (insI l i x) = (tcells l).take (i * 2) ++ [.int .i64 x.1, .int .i64 x.2] ++ (tcells l).drop (i * 2) := by
  unfold insI
  rw [← List.singleton_append, ← List.append_assoc, tcells_append, tcells_append, tcells_take, tcells_drop]
  rfl
theorem insI_len {l : List Tm} {i : Nat} {x : Tm} (h : i ≤ l.length) : (insI l i x).length = l.length + 1 := by simp [insI]; omega
theorem below_row {B g : Nat} {w0 w : World} (hb : Below B w0 w) (hBg : B ≤ g) (cs : Array Value) : Below B w0 (w.setRow g cs) :=
  hb.trans ⟨rfl, rfl, rfl, by simp [World.setRow], fun k hk => setRow_other w g k cs (by omega)⟩
theorem cell_row {w : World} {g : Nat} {cur : List Value} {t : TypeId} (hg : w.heap[g]? = some (.cells cur.toArray t (0, 0))) (off : Nat) (cs : List Value) (hcs : ∀ j v, cs[j]? = some v → cur[off + j]? = some v) : ∀ j v, cs[j]? = some v → w.cell? ((⟨g, off, none⟩ : Addr).add j) = some v := by
  intro j v hj
  rw [add_plain, World.cell?]
  simp only [hg]
  simpa using hcs j v hj
end Go.Proofs.Ytdmkbnbdbhggkaa
