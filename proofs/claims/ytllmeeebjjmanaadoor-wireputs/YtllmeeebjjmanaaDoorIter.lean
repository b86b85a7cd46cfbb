/- The iterator over the words of all parts: whatever the loop's body, as long as it keeps what lay. -/
import Derived.RangeFuncNested
import Derived.RangeFuncBound
import Derived.RangeFuncCalls
import Derived.RangeFuncLeaves
import Derived.RangeFuncBox
import Derived.Shelf.Abstract
import Derived.Shelf.RegionOpen
import Derived.WalkKit
import Derived.OwnWalkIn
import Derived.TacticsInMore
import Derived.LoopNIn
import Derived.LoopIn
import Derived.Test.YtllmeeebjjmanaaDoorLeaf
namespace Go.Proofs.YtllmeeebjjmanaaDoor
open Go.ChangeShapes Go.WideShapes Go.ChangeAt Go.RowKit Go.Shelf
set_option linter.unusedVariables false
attribute [local go_sem] Oper.semAt_some

/-- A word. -/
abbrev W16 := { x : Int // 0 ≤ x ∧ x ≤ 65535 }

/-- The slice at a, of as many bytes as bs has, holds bs. -/
def BytesAt (w : World) (a : Option Addr) (bs : List Int) : Prop :=
  bs.length ≤ maxLen ∧ Byts bs ∧ ∀ j, j < bs.length → ∃ b o, a = some ⟨b, o, none⟩ ∧ w.cell? ⟨b, o + j, none⟩ = some (.int .u8 (bs[j]?.getD 0))

theorem BytesAt.below {w w' : World} {a : Option Addr} {bs : List Int} (h : BytesAt w a bs) {B : Nat} (hb : Below B w w') (hB : w.heap.size ≤ B) : BytesAt w' a bs := by
  refine ⟨h.1, h.2.1, fun j hj => ?_⟩
  obtain ⟨b, o, e, hc⟩ := h.2.2 j hj
  exact ⟨b, o, e, (hb.cell (p := ⟨b, o + j, none⟩) (by have := lt_of_cell hc; omega)).trans hc⟩

/-- The slice at A holds slices that hold the parts. -/
def PartsAt (w : World) (A : Option Addr) (parts : List (List Int)) : Prop :=
  parts.length ≤ maxLen ∧ ∀ i, i < parts.length → ∃ b o a c, A = some ⟨b, o, none⟩ ∧ w.cell? ⟨b, o + i, none⟩ = some (.slice a (parts[i]?.getD []).length c) ∧ BytesAt w a (parts[i]?.getD [])

theorem PartsAt.below {w w' : World} {A : Option Addr} {parts : List (List Int)} (h : PartsAt w A parts) {B : Nat} (hb : Below B w w') (hB : w.heap.size ≤ B) : PartsAt w' A parts := by
  refine ⟨h.1, fun i hi => ?_⟩
  obtain ⟨b, o, a, c, e, hc, hba⟩ := h.2 i hi
  exact ⟨b, o, a, c, e, (hb.cell (p := ⟨b, o + i, none⟩) (by have := lt_of_cell hc; omega)).trans hc, hba.below hb hB⟩

/-- What is read of the first parts, and of the next one's first bytes. -/
def upto (parts : List (List Int)) (i : Nat) : List Int := (parts.take i).flatten

theorem upto_succ {parts : List (List Int)} {i : Nat} (h : i < parts.length) : upto parts (i + 1) = upto parts i ++ (parts[i]?.getD []) := by
  unfold upto
  rw [List.take_add_one, List.flatten_append]
  simp [h]

theorem upto_le (parts : List (List Int)) (i : Nat) : (upto parts i).length ≤ parts.flatten.length := by
  have h : parts.flatten = (parts.take i).flatten ++ (parts.drop i).flatten := by rw [← List.flatten_append, List.take_append_drop]
  unfold upto
  rw [h, List.length_append]
  omega

/-- Where the iterator stands: the bytes read so far are q; the words that have come are pre; high and half are what is half read. -/
structure At (q : List Int) (pre : List W16) (h : Int) (f : Bool) : Prop where
  st : stI q = (pre.map (·.1), h, f)
  hi : 0 ≤ h ∧ h ≤ 255

theorem At.start : At [] [] 0 false := ⟨rfl, by omega⟩
theorem At.more {q : List Int} {pre : List W16} {h : Int} {x : Int} (hx : 0 ≤ x ∧ x ≤ 255) (a : At q pre h false) : At (q ++ [x]) pre x true :=
  ⟨by rw [st_snoc, a.st]; rfl, hx⟩
theorem At.word {q : List Int} {pre : List W16} {h : Int} {x : Int} (hx : 0 ≤ x ∧ x ≤ 255) (a : At q pre h true) (v : W16) (e : v.1 = 256 * h + x) : At (q ++ [x]) (pre ++ [v]) x false :=
  ⟨by rw [st_snoc, a.st]; simp [stepI, e], hx⟩
theorem At.len {q : List Int} {pre : List W16} {h : Int} {f : Bool} (a : At q pre h f) : pre.length ≤ q.length := by
  have := st_len q
  rw [a.st] at this
  simpa using this
theorem At.done {q : List Int} {pre : List W16} {h : Int} (a : At q pre h false) : pre.map (·.1) = wordsI q := by
  unfold wordsI; rw [a.st]; rfl
theorem At.last {q : List Int} {pre : List W16} {h : Int} (a : At q pre h true) (v : W16) (e : v.1 = 256 * h) : (pre ++ [v]).map (·.1) = wordsI q := by
  unfold wordsI; rw [a.st]; simp [endI, e]

set_option maxRecDepth 100000 in
set_option maxHeartbeats 2000000 in
theorem words1_in (F : Fence) (n : Nat) (h21 : F.fn 50) (hro : F.round = none) (hn : 1 ≤ n) (l Bs n₀ cap : Nat) (A : Option Addr) (parts : List (List Int)) (J Jx : List W16 → World → Prop)
    (hY : ∀ pre (x : W16) W, J pre W → pre.length < parts.flatten.length + 1 → YieldAt F (n - 1) Tryd.prog l #[.int .u16 x.1] W fun e W' =>
      (e = .returned (.bool true) ∧ J (pre ++ [x]) W' ∧ Below n₀ W W') ∨ (e = .returned (.bool false) ∧ Jx (pre ++ [x]) W'))
    (W W0 : World) (hW0 : W0.heap.size ≤ n₀) (hb0 : Below n₀ W0 W) (hP : PartsAt W0 A parts) (hBs : W.cell? ⟨Bs, 0, none⟩ = some (.slice A parts.length cap)) (h0 : J [] W) :
    CallsIn F n Tryd.prog 50 #[.func (.yield l) #[] #[], .pointer (some ⟨Bs, 0, none⟩)] W fun e W' => (∃ v, e = .returned v) ∧
      ((∃ ys : List W16, ys.map (·.1) = wordsI parts.flatten ∧ J ys W') ∨ (∃ pre, True ∧ Jx pre W')) := by
  have hml : parts.length ≤ 9223372036854775807 := hP.1
  refine callsIn_of_wp Tryd.func50 rfl h21 ?_ hro
  simp only [Tryd.ntmps50, List.size_toArray, List.length_cons, List.length_nil, Nat.reduceAdd, Nat.reduceSub, Array.replicate_succ, Array.replicate_zero, List.push_toArray, List.append_toArray, List.nil_append, List.cons_append]
  gi_wp2
  gi_loopw [3, 4, 11] (fun vh vf vi wr => ∃ (i : Nat) (h : Int) (f : Bool) (pre : List W16), i ≤ parts.length ∧ vi = .int .i64 i ∧ vh = .int .u8 h ∧ vf = .bool f ∧ Hid (At (upto parts i) pre h f) ∧ J pre wr ∧ Below n₀ W0 wr)
    (fun _ _ vi _ => parts.length - (intOf vi).toNat)
  case atStart => exact ⟨0, 0, false, [], Nat.zero_le _, rfl, rfl, rfl, At.start, h0, hb0⟩
  case round =>
    obtain ⟨i, h, f, pre, hi, rfl, rfl, rfl, hat, hJs, hnx⟩ := hrel
    by_cases hlt : i < parts.length
    · obtain ⟨b, o, a, c, rfl, hc, hba⟩ := hP.2 i hlt
      have hcx : wr.cell? ⟨b, o + i, none⟩ = some (.slice a (parts[i]?.getD []).length c) := (hnx.cell (p := ⟨b, o + i, none⟩) (by have := lt_of_cell hc; omega)).trans hc
      obtain ⟨bs, hbs0⟩ : ∃ bs, parts[i]?.getD [] = bs := ⟨_, rfl⟩
      rw [hbs0] at hba hcx
      have hbs : Hid (parts[i]?.getD [] = bs) := hbs0
      clear hbs0 hc
      have hbl : bs.length ≤ 9223372036854775807 := hba.1
      gi_wp2
      gi_loopw [3, 4, 17] (fun vh vf vk wr2 => ∃ (k : Nat) (h : Int) (f : Bool) (pre : List W16), k ≤ bs.length ∧ vk = .int .i64 k ∧ vh = .int .u8 h ∧ vf = .bool f ∧ Hid (At (upto parts i ++ bs.take k) pre h f) ∧ J pre wr2 ∧ Below n₀ W0 wr2)
        (fun _ _ vk _ => bs.length - (intOf vk).toNat)
      case atStart => exact ⟨0, h, f, pre, Nat.zero_le _, rfl, rfl, rfl, by simpa using hat, hJs, hnx⟩
      case round =>
        obtain ⟨k, h, f, pre, hk, rfl, rfl, rfl, hat, hJs, hnx⟩ := hrel
        by_cases hlt2 : k < bs.length
        · obtain ⟨b2, o2, rfl, hc2⟩ := hba.2.2 k hlt2
          obtain ⟨x, hx0⟩ : ∃ x, bs[k]?.getD 0 = x := ⟨_, rfl⟩
          rw [hx0] at hc2
          have hx : Hid (bs[k]?.getD 0 = x) := hx0
          clear hx0
          have hcx2 : wr.cell? ⟨b2, o2 + k, none⟩ = some (.int .u8 x) := (hnx.cell (p := ⟨b2, o2 + k, none⟩) (by have := lt_of_cell hc2; omega)).trans hc2
          have hxb : 0 ≤ x ∧ x ≤ 255 := by
            have := hx.out; subst this
            exact hba.2.1 _ (by simp [hlt2])
          have hhb := hat.out.hi
          have htk : bs.take (k + 1) = bs.take k ++ [x] := by
            have := hx.out; subst this
            rw [List.take_add_one]; simp [hlt2]
          have hql : (upto parts i ++ bs.take k).length < parts.flatten.length + 1 := by
            have e1 := upto_succ hlt
            rw [hbs.out] at e1
            have e2 := upto_le parts (i + 1)
            rw [e1, List.length_append] at e2
            rw [List.length_append, List.length_take]
            omega
          have Htk : Hid (bs.take (k + 1) = bs.take k ++ [x]) := htk
          have Hql : Hid ((upto parts i ++ bs.take k).length < parts.flatten.length + 1) := hql
          clear htk hql
          cases f with
          | false =>
            gi_wp2
            refine ⟨fun _ h => (by cases h), ?_⟩
            gi_wp2
            go_roundw
            case rel => exact ⟨k + 1, x, true, pre, by omega, by go_num, rfl, rfl, by rw [Htk.out, ← List.append_assoc]; exact hat.out.more hxb, hJs, hnx⟩
            case measure => simp [intOf]; omega
          | true =>
            have hor : bits BinOp.or IntKind.u16 (h * 256) x = h * 256 + x := bits_join .u16 16 (by decide) (fun n h0 h1 => by rw [u16w]; omega) 8 _ _ (by omega) (by omega) (by omega) (by omega) (by omega) (by omega)
            obtain ⟨fn, tmps, assign, body, hy, hR⟩ := hY pre ⟨h * 256 + x, by omega⟩ wr hJs (Nat.lt_of_le_of_lt hat.out.len Hql.out)
            dsimp only at hy
            gi_wp2
            refine hR.mono ?_
            rintro e W3 (⟨rfl, hJ3, hk3⟩ | ⟨rfl, hJx3⟩)
            · gi_wp2
              go_roundw
              case rel => exact ⟨k + 1, x, false, _, by omega, by go_num, rfl, rfl, by rw [Htk.out, ← List.append_assoc]; exact hat.out.word hxb _ (by simp; omega), hJ3, hnx.trans hk3⟩
              case measure => simp [intOf]; omega
            · gi_wp2
              refine bodyPost_ret (results_none rfl _ _ _) rfl ?_
              exact ⟨⟨_, rfl⟩, .inr ⟨_, trivial, hJx3⟩⟩
        · obtain rfl : k = bs.length := by omega
          gi_wp2
          go_roundw
          case rel => exact ⟨i + 1, h, f, pre, by omega, by go_num, rfl, rfl, by rw [upto_succ hlt, hbs.out]; simpa using hat, hJs, hnx⟩
          case measure => simp [intOf]; omega
    · obtain rfl : i = parts.length := by omega
      have hall : upto parts parts.length = parts.flatten := by simp [upto]
      rw [hall] at hat
      have hhb := hat.out.hi
      cases f with
      | false =>
        gi_wp2
        go_end0
        exact ⟨⟨_, rfl⟩, .inl ⟨_, hat.out.done, hJs⟩⟩
      | true =>
        obtain ⟨fn, tmps, assign, body, hy, hR⟩ := hY pre ⟨h * 256, by omega⟩ wr hJs (Nat.lt_succ_of_le hat.out.len)
        dsimp only at hy
        gi_wp2
        refine hR.mono ?_
        rintro e W3 (⟨rfl, hJ3, hk3⟩ | ⟨rfl, hJx3⟩)
        · gi_wp2
          go_end0
          exact ⟨⟨_, rfl⟩, .inl ⟨_, hat.out.last _ (by simp; omega), hJ3⟩⟩
        · gi_wp2
          go_end0
          exact ⟨⟨_, rfl⟩, .inr ⟨_, trivial, hJx3⟩⟩
end Go.Proofs.YtllmeeebjjmanaaDoor
