/- SumSums holds for every parts of bulk at most 1048576 and every two words: the sum of parts is the document's sum of all bytes, Valid says whether it is 0, and Join is the document's. -/
import Derived.Test.YtcjnpbgnjghcjaaRows
import Derived.Test.YtcjnpbgnjghcjaaRefSum
import Derived.WalkKit
import Derived.ProofKit
import Derived.OpenShut
import Derived.ShutString
import Derived.ChangeOld
import Derived.Below
import Derived.JoinedCond
import Derived.Deep.Matrix
namespace Go.Proofs.Ytcjnpbgnjghcjaa.sumSums
open Go.ChangeShapes Go.WideShapes Go.ChangeAt Go.RowKit Go.Deep
set_option linter.unusedVariables false

theorem own : ownKnob Try.prog.godebug = none := by kernel_rfl
theorem laidOut : laidOutB Try.prog = true := by kernel_rfl

theorem bounds_u16 {a : Int} (h : (Lit.int .u16 a).wf = true) : 0 ≤ a ∧ a ≤ 65535 := by
  simp [Lit.wf, IntKind.min, IntKind.max, IntKind.signed, IntKind.bits] at h; omega

set_option maxHeartbeats 1000000 in
theorem walk (A : Option Addr) (c : Nat) (parts : List (List Int)) (a b : Int) (w : World) (hP : PartsNil w A parts) (hr : parts.flatten.length ≤ 1048576) (ha : 0 ≤ a ∧ a ≤ 65535) (hb : 0 ≤ b ∧ b ≤ 65535) :
    Calls Try.prog 3 #[.slice A parts.length c, .int .u16 a, .int .u16 b] w fun e w' => e = .returned (.bool true) ∧ Below w.heap.size w w' := by
  obtain ⟨s, hs⟩ : ∃ s, sumI parts.flatten = s := ⟨_, rfl⟩
  obtain ⟨t, ht⟩ : ∃ t, (s == 0) = t := ⟨_, rfl⟩
  have HS : Hid (sumI parts.flatten = s ∧ (sumI parts.flatten == 0) = t) := ⟨hs, by rw [hs]; exact ht⟩
  have HP : Hid (PartsNil w A parts ∧ parts.flatten.length ≤ 1048576) := ⟨hP, hr⟩
  obtain ⟨n, hn⟩ : ∃ n, parts.length = n := ⟨_, rfl⟩
  obtain ⟨L, hL⟩ : ∃ L, parts.flatten.length = L := ⟨_, rfl⟩
  have HN : Hid (parts.length = n ∧ parts.flatten.length = L) := ⟨hn, hL⟩
  rw [hn]
  clear hs hP hr hn hL
  go_enter Try.func3, Try.ntmps3
  go_wp2_with fail
  have c9 := all_any A c parts w HP.out.1 (by have := HP.out.2; omega)
  rw [HN.out.1, HN.out.2] at c9
  refine c9.mono ?_
  rintro e w1 ⟨v, vc, rfl, hv, hB1⟩
  clear c9
  have P1 := HP.out.1.parts.below hB1 (Nat.le_refl _)
  have HV : Hid (BytesAt w1 v parts.flatten ∧ PartsAt w1 A parts) := ⟨hv, P1⟩
  clear hv P1
  go_wp2_with fail
  have c10 := sum_any A c parts w1 HV.out.2
  rw [HN.out.1, HS.out.1] at c10
  refine c10.mono ?_
  rintro e w2 ⟨rfl, hB2⟩
  clear c10
  go_wp2_with fail
  have c11 := refSum_any v vc parts.flatten w2 (HV.out.1.below hB2 (Nat.le_refl _)) (by have := HP.out.2; omega)
  rw [HN.out.2, HS.out.1] at c11
  refine c11.mono ?_
  rintro e w3 ⟨rfl, rfl⟩
  clear c11
  go_wp2_with fail
  have c12 := valid_any A c parts w3 (HV.out.2.below hB2 (Nat.le_refl _))
  rw [HN.out.1, HS.out.2] at c12
  refine c12.mono ?_
  rintro e w4 ⟨rfl, hB4⟩
  clear c12
  go_wp2_with fail
  have c11 := refSum_any v vc parts.flatten w4 ((HV.out.1.below hB2 (Nat.le_refl _)).below hB4 (Nat.le_refl _)) (by have := HP.out.2; omega)
  rw [HN.out.2, HS.out.1] at c11
  refine c11.mono ?_
  rintro e w5 ⟨rfl, rfl⟩
  clear c11
  go_wp2_with fail
  refine (join_walk a b ha hb _).mono ?_
  rintro e w6 ⟨rfl, rfl⟩
  go_wp2_with fail
  refine (refJoin_walk a b ha hb _).mono ?_
  rintro e w7 ⟨rfl, rfl⟩
  go_wp2_with fail
  refine (heads_any _).mono ?_
  rintro e w' ⟨rfl, hB⟩
  go_wp2
  go_ret
  have k2 := hB1.trans (hB2.mono hB1.size)
  have k4 := k2.trans (hB4.mono k2.size)
  exact ⟨rfl, k4.trans (hB.mono k4.size)⟩

/-! ### What the bound gives -/
theorem row_bulk {H : Type} (A : Option Addr) (L : Nat) (zs : List Int) (hl : L ≤ zs.length) (h0 : A = none → L = 0) : L ≤ Rows.uptoBulk (intRow (H := H) .u8 A L zs) := by
  cases A with
  | none => rw [h0 rfl]; omega
  | some a =>
    simp only [intRow, Rows.uptoBulk]
    have : ∀ l : List Int, l.length ≤ Rows.uptoBulkAll (lits (H := H) .u8 l) := by
      intro l
      induction l with
      | nil => simp
      | cons x r ih => simp only [lits, List.map_cons, Rows.uptoBulkAll, Rows.uptoBulk, List.length_cons] at *; omega
    have := this (zs.take L)
    rw [List.length_take] at this
    omega

theorem rows_bulk {H : Type} (A : Nat → Option Addr) (L : Nat → Nat) (Z : Nat → List Int) : ∀ rs : List Nat, (∀ r ∈ rs, L r ≤ (Z r).length ∧ (A r = none → L r = 0)) →
    (rs.map fun r => (Z r).take (L r)).flatten.length ≤ Rows.uptoBulkAll (rs.map fun r => intRow (H := H) .u8 (A r) (L r) (Z r))
  | [], _ => by simp
  | r :: rs, h => by
    have ih := rows_bulk (H := H) A L Z rs (fun x hx => h x (List.mem_cons_of_mem _ hx))
    obtain ⟨h1, h2⟩ := h r (List.mem_cons_self ..)
    have := row_bulk (H := H) (A r) (L r) (Z r) h1 h2
    simp only [List.map_cons, List.flatten_cons, List.length_append, List.length_take, Rows.uptoBulkAll]
    omega

theorem parts_open {W : World} {a : Addr} {len cap : Nat} {A : Nat → Option Addr} {L C : Nat → Nat} {Z : Nat → List Int} (hl : len ≤ cap) (hm : cap ≤ maxLen)
    (h : ∀ r, r < cap → W.cell? (a.add r) = some (.slice (A r) (L r) (C r)) ∧ L r ≤ C r ∧ C r ≤ maxLen ∧ (Z r).length = C r ∧ (∀ n ∈ Z r, (Lit.int .u8 n).wf = true) ∧ (A r = none → C r = 0) ∧
        ∀ a', A r = some a' → 0 ≤ a'.block ∧ ∀ c, c < C r → W.cell? (a'.add c) = some (.int .u8 ((Z r).getD c 0))) :
    PartsNil W (some a) ((List.range len).map fun r => (Z r).take (L r)) := by
  refine ⟨by simp; omega, fun i hi => ?_⟩
  have hi' : i < len := by simpa using hi
  obtain ⟨hc, h1, h2, h3, h4, h5, h6⟩ := h i (by omega)
  have hget : ((List.range len).map fun r => (Z r).take (L r))[i]?.getD [] = (Z i).take (L i) := by simp [hi']
  rw [hget]
  have hlen : ((Z i).take (L i)).length = L i := by simp; omega
  obtain ⟨b, o, spot⟩ := a
  have hspot : spot = none := by
    have hc0 := (h 0 (by omega)).1
    simpa [Addr.add] using World.cell?_spot hc0
  subst hspot
  have hplain : ∀ (b o j : Nat), (⟨b, o, none⟩ : Addr).add j = ⟨b, o + j, none⟩ := by intro b o j; unfold Addr.add; split <;> simp_all
  rw [hplain] at hc
  refine ⟨b, o, A i, C i, rfl, by rw [hlen]; exact hc, ⟨by omega, ?_, fun j hj => ?_⟩, h5⟩
  · intro n hn
    have := h4 n (List.mem_of_mem_take hn)
    simp [Lit.wf, IntKind.min, IntKind.max, IntKind.signed, IntKind.bits] at this; omega
  · rw [hlen] at hj
    cases hA : A i with
    | none => have := h5 hA; omega
    | some x =>
      obtain ⟨_, hx⟩ := h6 x hA
      have hx0 := hx 0 (by omega)
      obtain ⟨b', o', spot'⟩ := x
      have hspot' : spot' = none := by simpa [Addr.add] using World.cell?_spot hx0
      subst hspot'
      have := hx j (by omega)
      rw [hplain] at this
      refine ⟨b', o', rfl, ?_⟩
      rw [this, List.getElem?_take_of_lt hj]
      simp

/-! ### The row's step -/
set_option maxRecDepth 100000 in
theorem contract (H : Type) (enc : TypeId × Value → H) (W : World) (base : Nat) (args : Array Value) (ds gs : List (DataW H)) (before : List MemPlace)
    (hval : ∀ (j : Nat) t v, Try.f3.params[j]? = some t → args[j]? = some v → Value.okWide Try.prog W .any base t v)
    (hW : DataW.Whole enc Try.prog Try.f3.params.toList Rows.sumSumsSpec.vars false W args.toList ds gs before) (hk : Rows.uptoSmall H (ds ++ gs) = true) :
    Calls Try.prog 3 args W fun e W' => ∃ v, e = .returned v ∧ Rows.sumSumsSpec.post enc Try.prog Try.f3 false true false false W args v W' := by
  have hW' := hW
  obtain ⟨p, q, hA0, hV, rfl, hfz, hnd⟩ := hW
  have hA : DataW.TrodAll enc Try.prog W 0 (fun _ => true) true Try.f3.params.toList args.toList ds p := hA0
  rw [Try.params3] at hA hval
  obtain ⟨v0, vs0, d0, ds0, p0, q0, hargs, rfl, rfl, h0, r0⟩ := trodAll_cons hA
  obtain ⟨v1, vs1, d1, ds1, p1, q1, rfl, rfl, rfl, h1, r1⟩ := trodAll_cons r0
  obtain ⟨v2, vs2, d2, ds2, p2, q2, rfl, rfl, rfl, h2, r2⟩ := trodAll_cons r1
  obtain ⟨rfl, rfl, rfl⟩ := trodAll_nil r2
  obtain rfl : args = #[v0, v1, v2] := by cases args; simp_all
  obtain ⟨rfl, rfl⟩ := trodVars_none hV
  obtain ⟨a0, len0, cap0, rfl⟩ := okWide_slice Try.underlying22 (hval 0 22 v0 rfl rfl)
  have k0 := h0
  have lt0 : ∀ x ∈ p0, x.block < W.heap.size := by obtain ⟨m, hm⟩ := k0; exact DataW.trod_lt m _ _ _ hm
  obtain ⟨a1, rfl, rfl, rfl, w1⟩ := open_int Try.underlying23 (hval 1 23 v1 rfl rfl) h1
  obtain ⟨a2, rfl, rfl, rfl, w2⟩ := open_int Try.underlying23 (hval 2 23 v2 rfl rfl) h2
  clear hA0
  have hbulk : Rows.uptoBulk d0 ≤ 1048576 := by
    have h : Rows.uptoBulkAll ([d0, .lit (.int .u16 a1), .lit (.int .u16 a2)] ++ []) ≤ 1048576 := of_decide_eq_true hk
    simp only [List.append_nil, Rows.uptoBulkAll] at h
    omega
  obtain ⟨parts, hlen, hP, hr⟩ : ∃ parts : List (List Int), parts.length = len0 ∧ PartsNil W a0 parts ∧ parts.flatten.length ≤ 1048576 := by
    obtain ⟨fuel, hf⟩ := h0
    rcases open_int_rows Try.underlying22 Try.underlying24 Try.underlying5 (by kernel_rfl) (by kernel_rfl) hf with ⟨hcs, _⟩ | ⟨x, l, c, A, L, C, Z, hcs, _, hl, hm, hx, hrow⟩
    · simp [Value.cells] at hcs
      obtain ⟨rfl, rfl, rfl⟩ := hcs
      exact ⟨[], rfl, ⟨by decide, fun i hi => by simp at hi⟩, by simp⟩
    · simp [Value.cells] at hcs
      obtain ⟨rfl, rfl, rfl⟩ := hcs
      refine ⟨(List.range len0).map fun r => (Z r).take (L r), by simp, parts_open hl hm hrow, ?_⟩
      have e := congrArg Prod.fst hx
      dsimp only at e
      rw [e] at hbulk
      have hb := rows_bulk (H := H) A L Z (List.range len0) (fun r hr => by
        have := List.mem_range.1 hr
        obtain ⟨_, h1, _, h3, _, h5, _⟩ := hrow r (by omega)
        exact ⟨by omega, fun e => by have := h5 e; omega⟩)
      simp only [Rows.uptoBulk] at hbulk
      omega
  refine (by rw [← hlen]; exact walk a0 cap0 parts a1 a2 W hP hr (bounds_u16 w1) (bounds_u16 w2) : Calls Try.prog 3 #[.slice a0 len0 cap0, .int .u16 a1, .int .u16 a2] W fun e w' => e = .returned (.bool true) ∧ Below W.heap.size W w').mono fun e W' ⟨he, bel⟩ => ?_
  subst he
  exact ⟨_, rfl, _, _, _, [], _, [], hW', trodAll_mk1 (shut_bool Try.underlying4 _), (trodAll_cons_mk (Below.trod laidOut (by kernel_rfl) (of_decide_eq_true (by kernel_rfl)) k0 bel lt0) (trodAll_cons_mk (shut_int Try.underlying23 w1) (trodAll_cons_mk (shut_int Try.underlying23 w2) trodAll_mk0))), rfl, bel.frame _, fun h => by cases h⟩

set_option maxRecDepth 100000 in
theorem lifted (os : Os) (started : os.Started) (H : Type) (enc : TypeId × Value → H) (F : Stop.Interp) :
    ReturnsInHanded {} Try.checked os 3 .any ((Rows.OpenSpec.upto Rows.sumSumsSpec).pre6 enc Try.prog Try.f3 Rows.sumSumsUptoRow.domain false) (((Rows.OpenSpec.upto Rows.sumSumsSpec).at F).post enc Try.prog Try.f3 false true false false) := by
  refine returnsInHanded_of_cond (C := Try.checked) (s := Rows.OpenSpec.upto Rows.sumSumsSpec) (k := Rows.uptoSmall) rfl own started (by kernel_rfl) Try.func3
    (OpenSpec.witness (enc := enc) (C := Try.checked) (s := Rows.OpenSpec.upto Rows.sumSumsSpec) (k := Rows.uptoSmall) rfl false ⟨#[], #[.slice none 0 0, .int .u16 0, .int .u16 0], []⟩ 8 (by kernel_rfl) (by kernel_rfl) (by kernel_rfl)
      (x := ([.nil, .lit (.int .u16 0), .lit (.int .u16 0)], [], [])) (by kernel_rfl) rfl (by kernel_rfl)) ?_
  intro W base args ds gs before hval hW _ hk _
  exact contract H enc W base args ds gs before hval hW hk

theorem proved : Rows.SumSumsUptoSaid :=
  OpenClaim.holds_of_cond 3 Try.f3 rfl rfl rfl rfl rfl rfl rfl ⟨rfl, rfl, rfl, rfl, rfl⟩ rfl rfl rfl rfl rfl (by kernel_rfl) Try.func3 (by kernel_rfl)
    (of_decide_eq_true (by kernel_rfl)) (by unfold Func.isWrapper; first | (rw [if_pos (by decide +kernel)]; kernel_rfl) | (rw [if_neg (by decide +kernel)]; exact ⟨rfl, rfl⟩))
    (fun os started H enc _ F => lifted os started H enc F)
#print axioms proved
end Go.Proofs.Ytcjnpbgnjghcjaa.sumSums
