/- The contract of Spoil. -/
import Derived.Test.YtkbgpbhlcmainaaOld
namespace Go.Proofs.Ytkbgpbhlcmainaa
open Go.ChangeShapes Go.WideShapes Go.ChangeAt Go.RowKit
set_option linter.unusedVariables false

theorem Row.other {w : World} {B : Nat} {va : Option Addr} {L vc : Nat} {bs : List Int} (h : Row w B va L vc bs) (g j : Nat) (u : Value) (hne : va ≠ some ⟨g, 0, none⟩) : Row (w.setCell ⟨g, j, none⟩ u) B va L vc bs := by
  refine ⟨h.1, ?_⟩
  rcases h.2 with h' | ⟨g', c, cur', e, hB, hh, r⟩
  · exact .inl h'
  · refine .inr ⟨g', c, cur', e, hB, (Below.heap_setCell w ⟨g, j, none⟩ u g' (fun e' => ?_)).trans hh, r⟩
    cases e
    exact hne (by rw [show g' = g from e'])
theorem Row.put {w : World} {B g L vc : Nat} {bs : List Int} (h : Row w B (some ⟨g, 0, none⟩) L vc bs) (j : Nat) (z : Int) : Row (w.setCell ⟨g, j, none⟩ (.int .u8 z)) B (some ⟨g, 0, none⟩) L vc (bs.set j z) := by
  have h1 := (World.ownsRow.stored h j (.int .u8 z)).1
  unfold Row
  rw [List.map_set]
  exact h1
theorem RowE.other {w : World} {B : Nat} {va : Option Addr} {L vc : Nat} {es : List En} (h : RowE w B va L vc es) (g j : Nat) (u : Value) {cur : Array Value} (hg : w.heap[g]? = some (.cells cur 5 (0, 0))) : RowE (w.setCell ⟨g, j, none⟩ u) B va L vc es := by
  refine ⟨h.1, ?_⟩
  rcases h.2 with h' | ⟨g', c, cur', e, hB, hh, r⟩
  · exact .inl h'
  · refine .inr ⟨g', c, cur', e, hB, (Below.heap_setCell w ⟨g, j, none⟩ u g' (fun e' => ?_)).trans hh, r⟩
    subst e'
    rw [hg] at hh
    cases hh

theorem Deep.spoil {w : World} {B : Nat} {va : Option Addr} {n vc : Nat} {l : List Dg} (h : Deep w B va n vc l) (j q : Nat) (hj : j < n) (x : Dg) (hx : l[j]?.getD z0 = x) (hq : q < x.1.length) :
    ∃ g g2 yc, va = some ⟨g, 0, none⟩ ∧ w.cell? ⟨g, j * 2, none⟩ = some (.slice (some ⟨g2, 0, none⟩) x.1.length yc) ∧ w.cell? ⟨g2, q, none⟩ = some (.int .u8 (x.1[q]?.getD 0)) ∧ w.frozen? ⟨g2, q, none⟩ = false ∧ B ≤ g2 ∧
      ∀ z, 0 ≤ z ∧ z ≤ 255 → DatsAt (w.setCell ⟨g2, q, none⟩ (.int .u8 z)) va n vc (l.set j (x.1.set q z, x.2)) := by
  obtain ⟨es, rfl, h2, h3, h4, h5⟩ := h
  have hL := h3.len
  have hje : j < es.length := by omega
  obtain ⟨y, hy⟩ : ∃ y, es[j]? = some y := ⟨_, List.getElem?_eq_getElem hje⟩
  have hym : y ∈ es := List.mem_of_getElem? hy
  obtain rfl : x = y.dg := by rw [← hx]; simp [hy]
  obtain ⟨hR, hBy, hsz, ht⟩ := h4 y hym
  have hq' : q < y.bs.length := hq
  rcases hR.at with e | ⟨g2, e, hg2, hlt2, cur2, hcur2⟩
  · rcases hR.2 with ⟨_, h0⟩ | ⟨_, _, _, e', _⟩
    · omega
    · rw [e] at e'; cases e'
  rcases h3.at with e3 | ⟨g, e3, hg, hlt, cur, hcur⟩
  · obtain ⟨b, o, e', _⟩ := h3.ents j y hy
    rw [e3] at e'; cases e'
  obtain ⟨b, o, eA, hc0, hc1⟩ := h3.ents j y hy
  rw [e3] at eA
  cases eA
  rw [e] at hR hc0
  refine ⟨g, g2, y.c, e3, by rw [Nat.zero_add] at hc0; exact hc0, hR.cell q hq', hR.frozen q, hg2, fun z hz => ?_⟩
  have hset : ecells (es.set j ⟨y.a, y.c, y.bs.set q z, y.t⟩) = ecells es := by
    rw [ecells_set]
    have hat := ecells_at es j y hy
    apply List.ext_getElem?
    intro i
    by_cases h1 : j * 2 + 1 = i
    · subst h1
      rw [List.getElem?_set_self (by rw [List.length_set, ecells_len]; omega), hat.2]
    · rw [List.getElem?_set_ne h1]
      by_cases h0 : j * 2 = i
      · subst h0
        rw [List.getElem?_set_self (by rw [ecells_len]; omega), hat.1]
        simp
      · rw [List.getElem?_set_ne h0]
  have hE : RowE (w.setCell ⟨g2, q, none⟩ (.int .u8 z)) B va n vc (es.set j ⟨y.a, y.c, y.bs.set q z, y.t⟩) := by
    unfold RowE
    rw [hset]
    exact h3.other g2 q (.int .u8 z) hcur2
  refine ⟨es.set j ⟨y.a, y.c, y.bs.set q z, y.t⟩, ?_, by simp [hL], h2, h3.max.1, h3.max.2, h3.nil0, hE.ents, fun x' hx' => ?_⟩
  · rw [List.map_set]; rfl
  · obtain ⟨i, hi⟩ := List.mem_iff_getElem?.1 hx'
    by_cases hij : j = i
    · subst hij
      rw [List.getElem?_set_self hje] at hi
      cases hi
      have hR' := hR.put q z
      have hl' : (y.bs.set q z).length = y.bs.length := by simp
      refine ⟨?_, ?_, ht⟩
      · show BytesAt _ y.a (y.bs.set q z)
        rw [e]
        exact hR'.bytes (byts_set hBy hz) (by omega)
      · show y.a = none → y.c = 0
        rw [e]; intro h; cases h
    · rw [List.getElem?_set_ne hij] at hi
      have hm' := List.mem_of_getElem? hi
      obtain ⟨hR1, hB1, hs1, ht1⟩ := h4 x' hm'
      have hne : x'.a ≠ some ⟨g2, 0, none⟩ := by
        have hp := List.pairwise_iff_getElem.1 h5
        have hil : i < es.length := (List.getElem?_eq_some_iff.1 hi).1
        have ei : es[i] = x' := (List.getElem?_eq_some_iff.1 hi).2
        have ej : es[j] = y := (List.getElem?_eq_some_iff.1 hy).2
        rcases Nat.lt_or_gt_of_ne hij with hlt' | hlt'
        · have := hp j i hje hil hlt'
          rw [ei, ej, e] at this
          rcases this with h | h
          · rw [h]; simp
          · exact fun h' => h h'.symm
        · have := hp i j hil hje hlt'
          rw [ei, ej, e] at this
          rcases this with h | h
          · cases h
          · exact h
      exact ⟨(hR1.other g2 q _ hne).bytes hB1 hs1, hR1.nil0, ht1⟩

set_option maxRecDepth 100000 in
set_option maxHeartbeats 2000000 in
theorem spoil_any (A : Option Addr) (n c : Nat) (l : List Dg) (k b : Int) (w : World) (hD : DatsAt w A n c l) (hb : I64 b) (S : List Dg) (hS : spoL l k b = S) (m : Nat) (hm : S.length = m) (r : Int) (hr : spoE l k b = r) :
    Calls Try.prog 19 #[.slice A n c, .int .i64 k, .int .i64 b] w fun e w' => ∃ va vc, e = .returned (.tuple #[.slice va m vc, .int .i64 r]) ∧ DatsAt w' va m vc S ∧ Below w.heap.size w w' := by
  have hln := hD.len
  have cP := isPlace_walk A n c k w
  cases hp : plB n k with
  | false =>
    obtain rfl : S = [] := by rw [← hS, spoL, hln, hp]; simp
    obtain rfl : r = 50 := by rw [← hr, spoE, hln, hp]; simp
    obtain rfl : m = 0 := by rw [← hm]; rfl
    rw [hp] at cP
    clear hS hr hm hD hln
    go_enter Try.func19, Try.ntmps19
    go_wp2_with fail
    refine cP.mono ?_
    rintro e w1 ⟨rfl, rfl⟩
    go_wp2_with fail
    go_ret2
    exact ⟨none, 0, rfl, DatsAt.nil _, Below.refl _ _⟩
  | true =>
    obtain ⟨j, rfl⟩ : ∃ j : Nat, k = (j : Int) := ⟨k.toNat, by simp [plB] at hp; omega⟩
    have hj : j < n := by simp [plB] at hp; exact hp
    have hj' : (j : Int) < (n : Int) := by omega
    obtain ⟨bb, o, x, rfl, hx, hok, hc0, hc1⟩ := hD.get j hj
    have hxl := hok.1.1
    have hS2 : spoL l (j : Int) b = if bitB x.bs.length b = true then l.set j (turnI x.bs b, x.t) else [] := by
      unfold spoL; rw [hln, hp, Int.toNat_natCast, hx, if_pos rfl]; rfl
    have hr2 : spoE l (j : Int) b = if bitB x.bs.length b = true then 0 else 2 := by
      unfold spoE; rw [hln, hp, Int.toNat_natCast, hx, if_pos rfl]; rfl
    rw [hp] at cP
    unfold I64 at hb
    cases hbit : bitB x.bs.length b with
    | false =>
      obtain rfl : S = [] := by rw [← hS, hS2, hbit]; simp
      obtain rfl : r = 2 := by rw [← hr, hr2, hbit]; simp
      obtain rfl : m = 0 := by rw [← hm]; rfl
      rcases (show b < 0 ∨ (0 ≤ b ∧ 8 * (x.bs.length : Int) ≤ b) from by simp [bitB] at hbit; omega) with h | ⟨h, h2⟩
      · clear hS hr hm hD hln hS2 hr2 hx hok hbit hp
        go_enter Try.func19, Try.ntmps19
        go_wp2_with fail
        refine cP.mono ?_
        rintro e w1 ⟨rfl, rfl⟩
        go_wp2_with fail
        go_ret2
        exact ⟨none, 0, rfl, DatsAt.nil _, Below.refl _ _⟩
      · obtain ⟨q, hq1⟩ : ∃ q, b / 8 = q := ⟨_, rfl⟩
        have hq2 : b.tdiv 8 = q := by rw [Int.tdiv_eq_ediv_of_nonneg h]; exact hq1
        have hql : (x.bs.length : Int) ≤ q := by omega
        clear hS hr hm hD hln hS2 hr2 hx hok hbit hp
        go_enter Try.func19, Try.ntmps19
        go_wp2_with fail
        refine cP.mono ?_
        rintro e w1 ⟨rfl, rfl⟩
        go_wp2_with fail
        go_ret2
        exact ⟨none, 0, rfl, DatsAt.nil _, Below.refl _ _⟩
    | true =>
      have hSl : S = l.set j (turnI x.bs b, x.t) := by rw [← hS, hS2, hbit]; simp
      obtain rfl : r = 0 := by rw [← hr, hr2, hbit]; simp
      obtain rfl : m = n := by rw [← hm, hSl]; simp [hln]
      have hbd : 0 ≤ b ∧ b < 8 * (x.bs.length : Int) := by simpa [bitB] using hbit
      obtain ⟨h, h2⟩ := hbd
      obtain ⟨y, z, hy, hyb, htu, hxor, hz, _, _⟩ := turn_at hok.1.2.1 (show 0 ≤ b ∧ b < 8 * (x.bs.length : Int) from ⟨h, h2⟩)
      obtain ⟨q, hq⟩ : ∃ q, b.toNat / 8 = q := ⟨_, rfl⟩
      obtain ⟨t, ht⟩ : ∃ t, b.toNat % 8 = t := ⟨_, rfl⟩
      rw [hq] at hy htu
      rw [ht] at hxor
      have hq1 : b / 8 = (q : Int) := by omega
      have hq2 : b.tdiv 8 = (q : Int) := by rw [Int.tdiv_eq_ediv_of_nonneg h]; exact hq1
      have ht1 : b % 8 = (t : Int) := by omega
      have ht2 : b.tmod 8 = (t : Int) := by rw [Int.tmod_eq_emod_of_nonneg h]; exact ht1
      have ht8 : t < 8 := by omega
      have hql : q < x.bs.length := by omega
      have hql' : (q : Int) < (x.bs.length : Int) := by omega
      have cR := renewed_any (some ⟨bb, o, none⟩) m c l w hD
      have HS : Hid (S = l.set j (x.bs.set q z, x.t) ∧ (0 ≤ z ∧ z ≤ 255) ∧ l[j]?.getD z0 = x.dg ∧ x.bs[q]? = some y) := ⟨by rw [hSl, htu], hz, hx, hy⟩
      clear hS hr hm hD hln hS2 hr2 hx hok hbit hp hSl htu hz hy hq ht
      go_enter Try.func19, Try.ntmps19
      go_wp2_with fail
      refine cP.mono ?_
      rintro e w1 ⟨rfl, rfl⟩
      go_wp2_with fail
      refine cR.mono ?_
      rintro e w2 ⟨va, vc, rfl, hT, hB⟩
      obtain ⟨g, g2, yc, rfl, k0, k1, f1, hg2, hfin⟩ := hT.spoil j q hj x.dg HS.out.2.2.1 hql
      have HF : Hid (Below w1.heap.size w1 w2 ∧ w1.heap.size ≤ g2 ∧ DatsAt (w2.setCell ⟨g2, q, none⟩ (.int .u8 z)) (some ⟨g, 0, none⟩) m vc S) := ⟨hB, hg2, by rw [HS.out.1]; exact hfin z HS.out.2.1⟩
      have k1' : w2.cell? ⟨g2, q, none⟩ = some (.int .u8 y) := by rw [k1]; simp [En.dg, HS.out.2.2.2]
      have k0' : w2.cell? ⟨g, j * 2, none⟩ = some (.slice (some ⟨g2, 0, none⟩) x.bs.length yc) := k0
      clear cP cR hT hB hg2 hfin k0 k1 hc0 hc1
      go_upto_region 6 with fail
      go_region
      all_goals go_wp2_with fail
      all_goals go_ret2
      all_goals exact ⟨_, vc, rfl, HF.out.2.2.later (Below.drew (Below.refl _ _)), Below.drew (HF.out.1.setCell (p := ⟨g2, q, none⟩) HF.out.2.1 _)⟩
end Go.Proofs.Ytkbgpbhlcmainaa
