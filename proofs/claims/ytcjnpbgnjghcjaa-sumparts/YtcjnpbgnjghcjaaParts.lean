/- SumParts holds for every bytes and every two places: where parts end does not matter to the sum. -/
import Derived.Test.YtcjnpbgnjghcjaaRows
import Derived.Test.YtcjnpbgnjghcjaaPartsWalk
import Derived.WalkKit
import Derived.ProofKit
import Derived.OpenShut
import Derived.ShutString
import Derived.ChangeOld
import Derived.Below
namespace Go.Proofs.Ytcjnpbgnjghcjaa.sumParts
open Go.ChangeShapes Go.WideShapes Go.ChangeAt Go.RowKit
open Go.ChangeMaps (open_string shut_string)
set_option linter.unusedVariables false

theorem own : ownKnob Try.prog.godebug = none := by kernel_rfl
theorem laidOut : laidOutB Try.prog = true := by kernel_rfl

/-- WHAT THE WALK IS TOLD OF A SLICE OF INTEGERS THAT CAME IN: it is nil; or it leads to a row of 'cap' cells, the numbers 'zs' (the first 'len' are its elements, the rest its spare room), each fitting its kind. -/
def IsRow (k : IntKind) (w : World) (a : Option Addr) (len cap : Nat) (zs : List Int) : Prop :=
  (a = none ∧ len = 0 ∧ cap = 0 ∧ zs = []) ∨
  ∃ x, a = some x ∧ len ≤ cap ∧ cap ≤ maxLen ∧ zs.length = cap ∧ (∀ i, i < zs.length → w.cell? (x.add i) = some (.int k (zs.getD i 0))) ∧ ∀ n ∈ zs, (Lit.int k n).wf = true

/-- What came in holds bytes. -/
theorem row_bytes {w : World} {a : Option Addr} {len cap : Nat} {zs : List Int} (h : IsRow .u8 w a len cap zs) : ∃ bs, bs.length = len ∧ BytesAt w a bs := by
  rcases h with ⟨rfl, rfl, rfl, rfl⟩ | ⟨x, rfl, hl, hm, hz, hcell, hwz⟩
  · exact ⟨[], rfl, by decide, by simp [Byts], fun j hj => by simp at hj⟩
  · refine ⟨zs.take len, by simp; omega, by simp; omega, ?_, fun j hj => ?_⟩
    · intro n hn
      have := hwz n (List.mem_of_mem_take hn)
      simp [Lit.wf, IntKind.min, IntKind.max, IntKind.signed, IntKind.bits] at this; omega
    · have hj' : j < len := by simp at hj; omega
      have hc0 := hcell 0 (by omega)
      obtain ⟨b, o, spot⟩ := x
      have hspot : spot = none := by simpa [Addr.add] using World.cell?_spot hc0
      subst hspot
      have hc := hcell j (by omega)
      have hplain : (⟨b, o, none⟩ : Addr).add j = ⟨b, o + j, none⟩ := by unfold Addr.add; split <;> simp_all
      rw [hplain] at hc
      refine ⟨b, o, rfl, ?_⟩
      rw [hc, List.getElem?_take_of_lt hj']
      simp

theorem bytes_cut {w : World} {a : Option Addr} {bs : List Int} (h : BytesAt w a bs) (l n : Nat) (hn : l + n ≤ bs.length) (c : Nat) (hc : bs.length ≤ c) :
    BytesAt w (if c = l then a else a.map (·.add (l * 1))) ((bs.drop l).take n) := by
  have hlen : ((bs.drop l).take n).length = n := by simp; omega
  refine ⟨by rw [hlen]; have := h.1; omega, fun x hx => h.2.1 x (List.mem_of_mem_drop (List.mem_of_mem_take hx)), fun j hj => ?_⟩
  rw [hlen] at hj
  obtain ⟨b, o, rfl, hc'⟩ := h.2.2 (l + j) (by omega)
  have hplain : (⟨b, o, none⟩ : Addr).add (l * 1) = ⟨b, o + l, none⟩ := by rw [Nat.mul_one]; unfold Addr.add; split <;> simp_all
  rw [if_neg (by omega), Option.map_some, hplain]
  refine ⟨b, o + l, rfl, ?_⟩
  rw [Nat.add_assoc, hc', List.getElem?_take_of_lt hj, List.getElem?_drop]

theorem elem24 : Try.prog.elem 24 = 5 := by kernel_rfl
theorem under24 : Try.prog.underlying 24 = some (.slice (Try.prog.elem 24)) := by rw [elem24]; exact Try.underlying24
theorem size5 (w : World) : (sizeOf (Try.prog.elem 24)).run Try.prog w = .ok 1 w := by kernel_rfl

theorem short (a0 : Option Addr) (len c : Nat) (i k : Int) (w : World) (h : i < 0 ∨ k < i ∨ (len : Int) < k) (hl : len ≤ 9223372036854775807) :
    Calls Try.prog 7 #[.slice a0 len c, .int .i64 i, .int .i64 k] w fun e w' => e = .returned (.bool true) ∧ Below w.heap.size w w' := by
  by_cases h1 : i < 0
  · go_enter Try.func7, Try.ntmps7
    go_wp2_with (go_at_call 15; refine (heads_any _).mono ?_; rintro e w' ⟨rfl, hB⟩)
    go_ret
    exact ⟨rfl, hB⟩
  · have g1 : 0 ≤ i := by omega
    by_cases h2 : k < i
    · go_enter Try.func7, Try.ntmps7
      go_wp2_with (go_at_call 15; refine (heads_any _).mono ?_; rintro e w' ⟨rfl, hB⟩)
      go_ret
      exact ⟨rfl, hB⟩
    · have g2 : i ≤ k := by omega
      have g3 : (len : Int) < k := by omega
      clear h h1 h2
      go_enter Try.func7, Try.ntmps7
      go_wp2_with (go_at_call 15; refine (heads_any _).mono ?_; rintro e w' ⟨rfl, hB⟩)
      go_ret
      exact ⟨rfl, hB⟩

/-! ### STEP 1: THE WALK: the Go text returns true, AND WRITES NOTHING THAT WAS THERE: 'Below w.heap.size w w'' (Derived/Below.lean: '.refl', '.alloc', '.drew', '.setCell' at a new block, '.trans'). Open each 'IsRow' by 'rcases' AHEAD of 'go_enter'; part every test ahead of the walk. -/
theorem walk (a0 : Option Addr) (len0 cap0 : Nat) (z0 : List Int) (a1 : Int) (a2 : Int) (w : World) (w0 : IsRow .u8 w a0 len0 cap0 z0) (w1 : (Lit.int .i64 a1).wf = true) (w2 : (Lit.int .i64 a2).wf = true) :
    Calls Try.prog 7 #[.slice a0 len0 cap0, .int .i64 a1, .int .i64 a2] w fun e w' => e = .returned (.bool true) ∧ Below w.heap.size w w' := by
  have hcap : len0 ≤ cap0 ∧ cap0 ≤ 9223372036854775807 := by
    rcases w0 with ⟨_, h1, h2, _⟩ | ⟨x, _, h1, h2, _⟩
    · omega
    · have : maxLen = 9223372036854775807 := rfl
      omega
  obtain ⟨bs, hl, hb⟩ := row_bytes w0
  by_cases h : a1 < 0 ∨ a2 < a1 ∨ (len0 : Int) < a2
  · exact short a0 len0 cap0 a1 a2 w h (by omega)
  · obtain ⟨i, rfl⟩ : ∃ i : Nat, a1 = i := ⟨a1.toNat, by omega⟩
    obtain ⟨k, rfl⟩ : ∃ k : Nat, a2 = k := ⟨a2.toNat, by omega⟩
    have hik : i ≤ k := by omega
    have hkl : k ≤ len0 := by omega
    have q1 := bytes_cut hb 0 i (by omega) cap0 (by omega)
    have q2 := bytes_cut hb i (k - i) (by omega) cap0 (by omega)
    have q3 := bytes_cut hb k (bs.length - k) (by omega) cap0 (by omega)
    have e1 : (bs.drop 0).take i = bs.take i := by simp
    have e3 : (bs.drop k).take (bs.length - k) = bs.drop k := List.take_of_length_le (by simp)
    rw [e1] at q1
    rw [e3] at q3
    have cat : [bs.take i, (bs.drop i).take (k - i), bs.drop k].flatten = bs := by
      simp only [List.flatten_cons, List.flatten_nil, List.append_nil]
      have : bs.drop k = (bs.drop i).drop (k - i) := by rw [List.drop_drop]; congr 1; omega
      rw [this, List.take_append_drop, List.take_append_drop]
    refine parts_walk a0 _ _ _ len0 cap0 (i - 0) (cap0 - 0) (k - i) (cap0 - i) (len0 - k) (cap0 - k) i k bs (bs.take i) ((bs.drop i).take (k - i)) (bs.drop k) (sumI bs) w ?_ ?_ ?_ ⟨hl, hb⟩ ⟨by simp; omega, by simp; omega, by simp; omega⟩ ⟨q1, q2, q3⟩ ⟨by simp, by rw [cat], by simp⟩ hik hkl (by omega)
    · intro w
      rw [run_slice_h w 24 a0 len0 cap0 under24 .i64 i (by omega) (by omega), size5]
      simp [Result.andThen, sliced]
    · intro w
      rw [run_slice_lh w 24 a0 len0 cap0 under24 .i64 .i64 i k (by omega) (by omega) (by omega), size5]
      simp [Result.andThen, sliced]
    · intro w
      rw [run_slice_l w 24 a0 len0 cap0 under24 .i64 k (by omega) (by omega), size5]
      simp [Result.andThen, sliced]

/-! ### THE ROW's STEP: WRITTEN OUT: LEAVE IT -/
set_option maxRecDepth 100000 in
theorem lifted (os : Os) (started : os.Started) (H : Type) (enc : TypeId × Value → H) :
    ReturnsInHanded {} Try.checked os 7 .any (Rows.sumPartsSpec.pre6 enc Try.prog Try.f7 Rows.sumPartsRow.domain false) (Rows.sumPartsSpec.post enc Try.prog Try.f7 false true false false) := by
  refine returnsInHanded_of_change (C := Try.checked) own started (by kernel_rfl) Try.func7
    (ChangeSpec.witness6 (enc := enc) (C := Try.checked) false ⟨#[], #[.slice none 0 0, .int .i64 0, .int .i64 0], []⟩ 8 (by kernel_rfl) (by kernel_rfl) (by kernel_rfl) (by kernel_rfl)) ?_
  intro W base args ds gs before hval0 hW hcnd _
  have hval : ∀ (j : Nat) t v, Try.f7.params[j]? = some t → args[j]? = some v → Value.okWide Try.prog W .any base t v := hval0
  have hW' := hW
  obtain ⟨p, q, hA0, hV, rfl, hfz, hnd⟩ := hW
  have hA : DataW.TrodAll enc Try.prog W 0 (fun _ => true) true Try.f7.params.toList args.toList ds p := hA0
  rw [Try.params7] at hA hval
  obtain ⟨v0, vs0, d0, ds0, p0, q0, hargs, rfl, rfl, h0, r0⟩ := trodAll_cons hA
  obtain ⟨v1, vs1, d1, ds1, p1, q1, rfl, rfl, rfl, h1, r1⟩ := trodAll_cons r0
  obtain ⟨v2, vs2, d2, ds2, p2, q2, rfl, rfl, rfl, h2, r2⟩ := trodAll_cons r1
  obtain ⟨rfl, rfl, rfl⟩ := trodAll_nil r2
  obtain rfl : args = #[v0, v1, v2] := by cases args; simp_all
  obtain ⟨rfl, rfl⟩ := trodVars_none hV
  obtain ⟨a0, len0, cap0, rfl⟩ := okWide_slice Try.underlying24 (hval 0 24 v0 rfl rfl)
  have k0 := h0
  have lt0 : ∀ x ∈ p0, x.block < W.heap.size := by obtain ⟨m, hm⟩ := k0; exact DataW.trod_lt m _ _ _ hm
  obtain ⟨z0, w0⟩ : ∃ zs, IsRow .u8 W a0 len0 cap0 zs := by
    obtain ⟨fuel, hf⟩ := h0
    rcases open_ints Try.underlying24 Try.underlying5 (by kernel_rfl) hf with ⟨hcs, _⟩ | ⟨x, l, c, zs, hcs, _, hl, hm, hz, _, hcell, hwz⟩
    · simp [Value.cells] at hcs
      obtain ⟨rfl, rfl, rfl⟩ := hcs
      exact ⟨[], .inl ⟨rfl, rfl, rfl, rfl⟩⟩
    · simp [Value.cells] at hcs
      obtain ⟨rfl, rfl, rfl⟩ := hcs
      exact ⟨zs, .inr ⟨_, rfl, hl, hm, by simpa using hz, hcell, hwz⟩⟩
  obtain ⟨a1, rfl, rfl, rfl, w1⟩ := open_int Try.underlying3 (hval 1 3 v1 rfl rfl) h1
  obtain ⟨a2, rfl, rfl, rfl, w2⟩ := open_int Try.underlying3 (hval 2 3 v2 rfl rfl) h2
  clear hA0 hval0
  refine (walk a0 len0 cap0 z0 a1 a2 W w0 w1 w2).mono fun e W' ⟨he, bel⟩ => ?_
  subst he
  exact ⟨_, rfl, _, _, _, [], _, [], hW', trodAll_mk1 (shut_bool Try.underlying4 _), (trodAll_cons_mk (Below.trod laidOut (by kernel_rfl) (of_decide_eq_true (by kernel_rfl)) k0 bel lt0) (trodAll_cons_mk (shut_int Try.underlying3 w1) (trodAll_cons_mk (shut_int Try.underlying3 w2) trodAll_mk0))), rfl, bel.frame _, fun h => by cases h⟩

theorem over : Rows.sumPartsRow.holds Try.pinned (OpenSpec.ofChange Rows.sumPartsSpec) :=
  OpenClaim.holds_of_wide 7 Try.f7 rfl rfl rfl rfl rfl rfl rfl ⟨rfl, rfl, rfl, rfl, rfl⟩ rfl rfl rfl rfl rfl (by kernel_rfl) Try.func7 (by kernel_rfl)
    (of_decide_eq_true (by kernel_rfl)) (by unfold Func.isWrapper; first | (rw [if_pos (by decide +kernel)]; kernel_rfl) | (rw [if_neg (by decide +kernel)]; exact ⟨rfl, rfl⟩))
    (fun os started H enc _ => lifted os started H enc)

/-- ████ THE STATEMENT ████ -/
theorem proved : Rows.SumPartsSaid := over
#print axioms proved
end Go.Proofs.Ytcjnpbgnjghcjaa.sumParts
