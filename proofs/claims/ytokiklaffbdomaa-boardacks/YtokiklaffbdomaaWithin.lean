/- The contracts of within and of Sack's test. -/
import Derived.Test.YtokiklaffbdomaaSort
import Derived.Shelf.SlSorted.Search
import Derived.Deep.QuietTactic
import Derived.BigQuiet
import Derived.Deep.RegionWith
import Derived.Deep.RegionHeld3
import Derived.Deep.DeepCutAuto
namespace Go.Proofs.Ytokiklaffbdomaa
open Go.Shelf Go.RowKit Go.Lib Go.Sort
set_option linter.unusedVariables false
attribute [local go_sem] Oper.semAt_some

open Sp (Tm)
set_option maxRecDepth 100000 in
set_option maxHeartbeats 4000000 in
theorem within1_any (i Br Bx L vc : Nat) (va : Option Addr) (rs : List Tm) (f : Int) (W : World) (hi : i < L) (hl : rs.length = L) (hT : Sp.TimsAt W va rs) (hBr : W.cell? ⟨Br, 0, none⟩ = some (.slice va L vc)) (hBx : W.cell? ⟨Bx, 0, none⟩ = some (.int .i64 f)) :
    Calls Try.prog 53 #[.int .i64 i, .pointer (some ⟨Br, 0, none⟩), .pointer (some ⟨Bx, 0, none⟩)] W fun e w' => e = .returned (.bool (decide (f < (nthS rs i).1))) ∧ ∃ q os', w' = grow (W.drewN q) os' := by
  have hml : rs.length ≤ 9223372036854775807 := hT.1
  obtain ⟨b, o, rfl, hc, _⟩ := hT.2 i (by omega)
  change W.cell? ⟨b, o + i * 2, none⟩ = some (.int .i64 (nthS rs i).1) at hc
  rw [hl] at hml
  obtain ⟨s, hs⟩ : ∃ s, (nthS rs i).1 = s := ⟨_, rfl⟩
  rw [hs] at hc ⊢
  clear hT hs hl
  go_enter Try.func53, Try.ntmps53
  go_upto_region 1 with fail
  go_quiet (fail)
  go_wp2_with fail
  go_ret
  exact ⟨rfl, _, #[], by rw [grow_empty]⟩
set_option maxRecDepth 100000 in
set_option maxHeartbeats 4000000 in
theorem within_any (va : Option Addr) (vc : Nat) (rs sp : List Tm) (x : Rc) (w : World) (hT : Sp.TimsAt w va rs) (hR : Reach rs sp) (hL : rs.length ≤ 4611686018427387903) (L : Nat) (hl : rs.length = L) :
    Calls Try.prog 43 #[.slice va L vc, .agg #[.int .i64 x.f, .int .i64 x.t, .bool x.fin, .int .i64 x.sent, .int .i64 x.tx, .bool x.sk, .bool x.lo, .bool x.ag, .int .i64 x.gv, .int .i64 x.ga, .int .i64 x.fa, .bool x.idl]] w fun e W' => e = .returned (.bool (covB sp x.f x.t)) ∧ RowKit.Below w.heap.size w W' := by
  subst hl
  have hB0 : RowKit.Below w.heap.size w ((w.alloc (.cells #[.slice va rs.length vc] 41)).alloc (.cells #[.int .i64 x.f, .int .i64 x.t, .bool x.fin, .int .i64 x.sent, .int .i64 x.tx, .bool x.sk, .bool x.lo, .bool x.ag, .int .i64 x.gv, .int .i64 x.ga, .int .i64 x.fa, .bool x.idl] 28)) := below_more (below_new w _) _
  have bR : Box ((w.alloc (.cells #[.slice va rs.length vc] 41)).alloc (.cells #[.int .i64 x.f, .int .i64 x.t, .bool x.fin, .int .i64 x.sent, .int .i64 x.tx, .bool x.sk, .bool x.lo, .bool x.ag, .int .i64 x.gv, .int .i64 x.ga, .int .i64 x.fa, .bool x.idl] 28)) w.heap.size 41 [.slice va rs.length vc] := (Box.new w 41 _).alloc _
  have bX : Box ((w.alloc (.cells #[.slice va rs.length vc] 41)).alloc (.cells #[.int .i64 x.f, .int .i64 x.t, .bool x.fin, .int .i64 x.sent, .int .i64 x.tx, .bool x.sk, .bool x.lo, .bool x.ag, .int .i64 x.gv, .int .i64 x.ga, .int .i64 x.fa, .bool x.idl] 28)) (w.heap.size + 1) 28 (rv x) := Box.new1 w _ 28 _
  obtain ⟨W0, hW0⟩ : ∃ W0, (w.alloc (.cells #[.slice va rs.length vc] 41)).alloc (.cells #[.int .i64 x.f, .int .i64 x.t, .bool x.fin, .int .i64 x.sent, .int .i64 x.tx, .bool x.sk, .bool x.lo, .bool x.ag, .int .i64 x.gv, .int .i64 x.ga, .int .i64 x.fa, .bool x.idl] 28) = W0 := ⟨_, rfl⟩
  have cS := Any.sort_Search searchL 53 #[.pointer (some ⟨w.heap.size, 0, none⟩), .pointer (some ⟨w.heap.size + 1, 0, none⟩)] rs.length (fun i => decide (x.f < (nthS rs i).1)) W0 (enters_of Try.func53 (by kernel_rfl) rfl) (by omega)
    (fun m os i hi => by
      have hB : RowKit.Below W0.heap.size W0 (grow (W0.drewN m) os) := below_grown_sl W0.heap.size W0 m os (Nat.le_refl _)
      rw [hW0] at bR bX hB0
      exact within1_any i _ _ rs.length vc va rs x.f _ hi rfl ((hT.later hB0).later hB) ((bR.later hB).cell 0 rfl) ((bX.later hB).rc.1))
    (fun a b h1 h2 h3 => by have := hR.up1 a b h1 h2; simp at h3 ⊢; omega)
  change Calls Try.prog 52 _ _ _ at cS
  have HW := within_iff hR x.f x.t
  have hcle : (List.range rs.length).countP (fun i => !decide (x.f < (nthS rs i).1)) ≤ rs.length := by have := List.countP_le_length (p := fun i => !decide (x.f < (nthS rs i).1)) (l := List.range rs.length); simpa using this
  generalize (List.range rs.length).countP (fun i => !decide (x.f < (nthS rs i).1)) = n at cS HW hcle
  have HT : Hid (Sp.TimsAt w va rs) := hT
  have HH : Hid (RowKit.Below w.heap.size w W0 ∧ Box W0 w.heap.size 41 [.slice va rs.length vc] ∧ Box W0 (w.heap.size + 1) 28 (rv x)) := by rw [hW0] at bR bX hB0; exact ⟨hB0, bR, bX⟩
  have HWW : Hid (covB sp x.f x.t = (decide (0 < n) && decide (x.t ≤ (nthS rs (n - 1)).2))) := HW
  have cr : W0.cell? ⟨w.heap.size, 0, none⟩ = some (.slice va rs.length vc) := HH.out.2.1.cell 0 rfl
  clear hT hR bR bX hB0 HW
  go_enter Try.func43, Try.ntmps43
  go_upto_region 1 with fail
  clear hW0
  go_wp2_with fail
  refine cS.mono ?_
  rintro e W1 ⟨rfl, q, os, hw⟩
  have hB1 : RowKit.Below W0.heap.size W0 W1 := by rw [hw]; exact below_grown_sl W0.heap.size W0 q os (Nat.le_refl _)
  have HB1 : Hid (RowKit.Below w.heap.size w W1) := HH.out.1.trans (hB1.mono HH.out.1.size)
  have cr1 : W1.cell? ⟨w.heap.size, 0, none⟩ = some (.slice va rs.length vc) := (HH.out.2.1.later hB1).cell 0 rfl
  have cx1 := (HH.out.2.2.later hB1).rc.2.1
  clear cS cr hw hB1
  rcases Nat.eq_zero_or_pos n with rfl | h0
  · go_upto_region 2 with fail
    go_quiet (fail)
    go_wp2_with fail
    go_ret
    exact ⟨by rw [HWW.out]; rfl, below_drewN HB1.out _⟩
  · obtain ⟨m, rfl⟩ : ∃ m, n = m + 1 := ⟨n - 1, by omega⟩
    obtain ⟨b, o, rfl, _, hc⟩ := (HT.out.later HB1.out).2 m (by omega)
    change W1.cell? ⟨b, o + m * 2 + 1, none⟩ = some (.int .i64 (nthS rs m).2) at hc
    simp only [Nat.add_sub_cancel] at HWW
    obtain ⟨s, hs⟩ : ∃ s, (nthS rs m).2 = s := ⟨_, rfl⟩
    rw [hs] at hc HWW
    have hwm : IntKind.i64.wrap (m : Int) = m := by simp [IntKind.wrap, IntKind.bits, IntKind.signed]; omega
    clear hs HT HH
    go_upto_region 2 with fail
    go_quiet (fail)
    go_wp2_with fail
    go_ret
    exact ⟨by rw [HWW.out]; simp, below_drewN HB1.out _⟩
def freshB (sp : List Tm) (x : Rc) : Bool := !x.sk && covB sp x.f x.t
set_option maxRecDepth 100000 in
set_option maxHeartbeats 4000000 in
theorem fresh_any (Br L vc : Nat) (va : Option Addr) (rs sp : List Tm) (x : Rc) (w : World) (hT : Sp.TimsAt w va rs) (hR : Reach rs sp) (hL : rs.length ≤ 4611686018427387903) (hl : rs.length = L) (hBr : w.cell? ⟨Br, 0, none⟩ = some (.slice va L vc)) :
    Calls Try.prog 42 #[.agg #[.int .i64 x.f, .int .i64 x.t, .bool x.fin, .int .i64 x.sent, .int .i64 x.tx, .bool x.sk, .bool x.lo, .bool x.ag, .int .i64 x.gv, .int .i64 x.ga, .int .i64 x.fa, .bool x.idl], .pointer (some ⟨Br, 0, none⟩)] w fun e W' => e = .returned (.bool (freshB sp x)) ∧ RowKit.Below w.heap.size w W' := by
  have hB0 : RowKit.Below w.heap.size w (w.alloc (.cells #[.int .i64 x.f, .int .i64 x.t, .bool x.fin, .int .i64 x.sent, .int .i64 x.tx, .bool x.sk, .bool x.lo, .bool x.ag, .int .i64 x.gv, .int .i64 x.ga, .int .i64 x.fa, .bool x.idl] 28)) := below_new w _
  have c := within_any va vc rs sp x (w.alloc (.cells #[.int .i64 x.f, .int .i64 x.t, .bool x.fin, .int .i64 x.sent, .int .i64 x.tx, .bool x.sk, .bool x.lo, .bool x.ag, .int .i64 x.gv, .int .i64 x.ga, .int .i64 x.fa, .bool x.idl] 28)) (hT.later hB0) hR hL L hl
  have cb : (w.alloc (.cells #[.int .i64 x.f, .int .i64 x.t, .bool x.fin, .int .i64 x.sent, .int .i64 x.tx, .bool x.sk, .bool x.lo, .bool x.ag, .int .i64 x.gv, .int .i64 x.ga, .int .i64 x.fa, .bool x.idl] 28)).cell? ⟨Br, 0, none⟩ = some (.slice va L vc) := (hB0.cell (p := ⟨Br, 0, none⟩) (lt_of_cell hBr)).trans hBr
  have HB0 : Hid (RowKit.Below w.heap.size w (w.alloc (.cells #[.int .i64 x.f, .int .i64 x.t, .bool x.fin, .int .i64 x.sent, .int .i64 x.tx, .bool x.sk, .bool x.lo, .bool x.ag, .int .i64 x.gv, .int .i64 x.ga, .int .i64 x.fa, .bool x.idl] 28))) := hB0
  have HF : Hid (freshB sp x = (!x.sk && covB sp x.f x.t)) := rfl
  obtain ⟨r, hr⟩ : ∃ r, covB sp x.f x.t = r := ⟨_, rfl⟩
  rw [hr] at c HF
  clear hT hR hL hl hBr hB0 hr
  obtain ⟨f, t, fin, sent, tx, sk, lo, ag, gv, ga, fa, idl⟩ := x
  simp only at c cb HF HB0 ⊢
  cases sk with
  | true =>
    go_enter Try.func42, Try.ntmps42
    go_wp2_with fail
    go_ret
    exact ⟨by rw [HF.out]; rfl, HB0.out⟩
  | false =>
    go_enter Try.func42, Try.ntmps42
    go_wp2_with fail
    refine c.mono ?_
    rintro e W1 ⟨rfl, hB1⟩
    go_wp2_with fail
    go_ret
    exact ⟨by rw [HF.out]; rfl, Below.on HB0.out hB1⟩
end Go.Proofs.Ytokiklaffbdomaa
