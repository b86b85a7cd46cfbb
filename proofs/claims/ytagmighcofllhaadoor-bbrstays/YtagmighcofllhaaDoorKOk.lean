/- What may be stays what may be. -/
import Derived.Test.YtagmighcofllhaaDoorGD
import Derived.Test.YtagmighcofllhaaDoorGC
namespace Go.Proofs.YtagmighcofllhaaDoor
open Go.ChangeShapes Go.WideShapes Go.ChangeAt Go.RowKit
set_option linter.unusedVariables false
set_option linter.unusedSimpArgs false

open Fil
structure SmOk (s : Sm) : Prop where
  nw : 0 ≤ s.nw ∧ s.nw ≤ 1125899906842624
  gv : 0 ≤ s.gv ∧ s.gv ≤ 1125899906842624
  bf : 0 ≤ s.bf ∧ s.bf ≤ 1125899906842624
  rt : 0 ≤ s.rt ∧ s.rt ≤ 1125899906842624
  ak : 0 ≤ s.ak ∧ s.ak ≤ 1073741824
  fl : 0 ≤ s.fl ∧ s.fl ≤ 1073741824
  rr : 0 ≤ s.rr
theorem sm_out {s : Sm} (k : smB s = true) : SmOk s := by
  have h := of_decide_eq_true k
  obtain ⟨h1, h2, h3, h4, h5, h6, h7⟩ := h
  exact ⟨h1, h2, h3, h4, h5, h6, h7⟩
theorem sm_in {s : Sm} (h : SmOk s) : smB s = true := decide_eq_true ⟨h.nw, h.gv, h.bf, h.rt, h.ak, h.fl, h.rr⟩
theorem sm_cap {s : Sm} (h : SmOk s) : SmOk (capS s) ∧ (capS s).rr ≤ 1099511627776 := ⟨⟨h.nw, h.gv, h.bf, h.rt, h.ak, h.fl, by have := h.rr; show 0 ≤ min s.rr 1099511627776; omega⟩, by show min s.rr 1099511627776 ≤ _; omega⟩
theorem ok_rowed {c : Cc} (h : Ok8 c) (a : Option Addr) (n k : Nat) : Ok8 (rowed c a n k) := ⟨h.kd, h.ss, h.ac, h.md, h.mr, h.ma, h.rd, h.na, h.fu, h.fc, h.ph, h.pa, h.da, h.pr, h.ms, h.cw, h.wm, h.ep, h.ck, h.we, h.st⟩
theorem rowed_rnd (c : Cc) (s : Sm) (a : Option Addr) (n k : Nat) : rndE (rowed c a n k) s = rowed (rndE c s) a n k := by
  unfold rndE
  show (if c.na ≤ s.bf then _ else _) = _
  split <;> rfl
theorem rowed_rtt (c : Cc) (s : Sm) (a : Option Addr) (n k : Nat) : rttE (rowed c a n k) s = rowed (rttE c s) a n k := by
  unfold rttE
  show (if rttB c s = true then _ else _) = _
  split <;> rfl
theorem rowed_gro (c : Cc) (b : Int) (a : Option Addr) (n k : Nat) : groE (rowed c a n k) b = rowed (groE c b) a n k := by
  unfold groE
  show (if b = 0 then _ else if 125 * c.fu ≤ 100 * b then _ else if 2 ≤ c.fc then _ else _) = _
  split
  · rfl
  · split
    · rfl
    · split <;> rfl
theorem rowed_cyc (c : Cc) (s : Sm) (P : Int) (a : Option Addr) (n k : Nat) : cycE (rowed c a n k) s P = rowed (cycE c s P) a n k := by
  unfold cycE
  show (if c.md = 2 ∧ s.fl ≤ P then _ else if c.md = 3 ∧ c.pa + c.mr < s.nw then _ else _) = _
  split
  · rfl
  · split <;> rfl
theorem rowed_lev (c : Cc) (t : Int) (a : Option Addr) (n k : Nat) : levE (rowed c a n k) t = rowed (levE c t) a n k := by
  unfold levE
  show (if c.fc = 3 then _ else _) = _
  split <;> rfl
theorem rowed_prb (c : Cc) (s : Sm) (old : Bool) (a : Option Addr) (n k : Nat) : prbE (rowed c a n k) s old = rowed (prbE c s old) a n k := by
  unfold prbE
  rw [rowed_lev]
  show (if c.md = 4 then if c.da = 0 then if s.fl ≤ 4 * c.ms then _ else _ else if c.da ≤ s.nw then _ else _ else if old = true then _ else _) = _
  split
  · split
    · split <;> rfl
    · split <;> rfl
  · split <;> rfl
theorem rowed_rsz (c : Cc) (ak P b : Int) (a : Option Addr) (n k : Nat) : rszE (rowed c a n k) ak P b = rowed (rszE c ak P b) a n k := rfl
theorem ok_rnd {c : Cc} {s : Sm} (h : Ok8 c) (hs : SmOk s) : Ok8 (rndE c s) := by
  unfold rndE
  split
  · exact { h with na := hs.gv, rd := by have := h.rd; show 0 ≤ min (c.rd + 1) 1125899906842624 ∧ min (c.rd + 1) 1125899906842624 ≤ _; omega }
  · exact h
theorem ok_rtt {c : Cc} {s : Sm} (h : Ok8 c) (hs : SmOk s) : Ok8 (rttE c s) := by
  unfold rttE
  split
  · exact { h with mr := hs.rt, ma := hs.nw }
  · exact h
theorem ok_gro {c : Cc} {b : Int} (h : Ok8 c) (hb : 0 ≤ b ∧ b ≤ 1099511627776) : Ok8 (groE c b) := by
  have hc := h.fc
  unfold groE
  split
  · exact h
  · split
    · exact { h with fu := hb, fc := by show (0 : Int) ≤ 0 ∧ (0 : Int) ≤ 3; omega }
    · split
      · exact { h with fc := by show (0 : Int) ≤ 3 ∧ (3 : Int) ≤ 3; omega, md := by show (1 : Int) ≤ 2 ∧ (2 : Int) ≤ 4; omega }
      · exact { h with fc := by show 0 ≤ c.fc + 1 ∧ c.fc + 1 ≤ 3; omega }
theorem ok_jdg {c : Cc} {s : Sm} {f : Bool} {b : Int} (h : Ok8 c) (hb : 0 ≤ b ∧ b ≤ 1099511627776) : Ok8 (jdgE c s f b) := by
  unfold jdgE
  split
  · exact ok_gro h hb
  · exact h
theorem ok_cru {c : Cc} {t : Int} (h : Ok8 c) (ht : 0 ≤ t ∧ t ≤ 1125899906842624) : Ok8 (cruE c t) := { h with md := by show (1 : Int) ≤ 3 ∧ (3 : Int) ≤ 4; omega, ph := by show (0 : Int) ≤ 2 ∧ (2 : Int) < 8; omega, pa := ht }
theorem ok_cyc {c : Cc} {s : Sm} {P : Int} (h : Ok8 c) (hs : SmOk s) : Ok8 (cycE c s P) := by
  unfold cycE
  split
  · exact ok_cru h hs.nw
  · split
    · exact { h with ph := by show 0 ≤ (c.ph + 1) % 8 ∧ (c.ph + 1) % 8 < 8; omega, pa := hs.nw }
    · exact h
theorem ok_lev {c : Cc} {t : Int} (h : Ok8 c) (ht : 0 ≤ t ∧ t ≤ 1125899906842624) : Ok8 (levE c t) := by
  have hc := h.cw; have hp := h.pr
  unfold levE
  split
  · exact { h with ma := ht, cw := by show c.ms ≤ max c.cw c.pr ∧ max c.cw c.pr ≤ 1073741824; omega, da := by show (0 : Int) ≤ 0 ∧ (0 : Int) ≤ 1125899906842624; omega, md := by show (1 : Int) ≤ 3 ∧ (3 : Int) ≤ 4; omega, ph := by show (0 : Int) ≤ 2 ∧ (2 : Int) < 8; omega, pa := ht }
  · exact { h with ma := ht, cw := by show c.ms ≤ max c.cw c.pr ∧ max c.cw c.pr ≤ 1073741824; omega, da := by show (0 : Int) ≤ 0 ∧ (0 : Int) ≤ 1125899906842624; omega, md := by show (1 : Int) ≤ 1 ∧ (1 : Int) ≤ 4; omega }
theorem ok_prb {c : Cc} {s : Sm} {old : Bool} (h : Ok8 c) (hs : SmOk s) : Ok8 (prbE c s old) := by
  have hc := h.cw; have hn := hs.nw; have hm := h.ms
  unfold prbE
  split
  · split
    · split
      · exact { h with da := by show 0 ≤ min (s.nw + 200000) 1125899906842624 ∧ min (s.nw + 200000) 1125899906842624 ≤ 1125899906842624; omega }
      · exact h
    · split
      · exact ok_lev h hs.nw
      · exact h
  · split
    · exact { h with md := by show (1 : Int) ≤ 4 ∧ (4 : Int) ≤ 4; omega, pr := by show 0 ≤ c.cw ∧ c.cw ≤ 1073741824; omega, da := by show (0 : Int) ≤ 0 ∧ (0 : Int) ≤ 1125899906842624; omega }
    · exact h
theorem ok_rsz {c : Cc} {ak P b : Int} (h : Ok8 c) : Ok8 (rszE c ak P b) := by
  have hm := h.ms
  exact { h with cw := by show c.ms ≤ clampI (rawW c ak P b) c.ms 1073741824 ∧ clampI (rawW c ak P b) c.ms 1073741824 ≤ 1073741824; unfold clampI; split <;> (try split) <;> (try split) <;> omega }
theorem ok_fin {c : Cc} {s : Sm} {f : Bool} {b : Int} (h : Ok8 c) (hs : SmOk s) (hb : 0 ≤ b ∧ b ≤ 1099511627776) : Ok8 (finE c s f b) := ok_rsz (ok_prb (ok_cyc (ok_jdg (ok_rtt h hs) hb) hs) hs)
theorem ok_tim {c : Cc} (h : Ok8 c) : Ok8 (timE c) := by
  have hm := h.ms; have hc := h.cw
  exact { h with pr := by show 0 ≤ c.cw ∧ c.cw ≤ 1073741824; omega, cw := by show c.ms ≤ c.ms ∧ c.ms ≤ 1073741824; omega }
theorem prod_bd {b m : Int} (hb : 0 ≤ b) (hm : 0 ≤ m) : 0 ≤ prodI b m ∧ prodI b m ≤ 1073741824 := by
  have h0 : 0 ≤ b * m / 1000000 := Int.ediv_nonneg (Int.mul_nonneg hb hm) (by omega)
  have h1 : 0 ≤ mulDivI b m 1000000 := by unfold mulDivI; rw [if_neg (by omega)]; split <;> omega
  unfold prodI
  omega
theorem ok8_cci {c : Cc} (h : Ok8 c) (hn : c.bn ≤ 9223372036854775807) : CcI c := by
  obtain ⟨h0, h1, h2, b1, b2, b3, b4, b5, b6, b7, b8, b9, b10, b11, m1, m2, a1, a2, a3, a4, a5⟩ := h
  constructor <;> (try unfold I64) <;> omega
-- the row
theorem rat_out {c : Cc} {es : List Tm} (h : rat8 c es = true) : chk true none es = true ∧ ∀ x ∈ es, x.2 ≤ 1099511627776 ∧ x.1 ≤ c.rd := by
  unfold rat8 at h
  simp only [Bool.and_eq_true, List.all_eq_true, decide_eq_true_eq] at h
  exact h
theorem rat_in {c : Cc} {es : List Tm} (h : chk true none es = true) (h2 : ∀ x ∈ es, x.2 ≤ 1099511627776 ∧ x.1 ≤ c.rd) : rat8 c es = true := by
  unfold rat8
  simp only [Bool.and_eq_true, List.all_eq_true, decide_eq_true_eq]
  exact ⟨h, h2⟩
theorem cut_ok {es : List Tm} {r : Int} (hc : chk true none es = true) (hr : ∀ x ∈ es, x.1 ≤ r) : chk true none (cutL es r) = true ∧ (∀ x ∈ cutL es r, x.1 < r) ∧ (∀ x ∈ cutL es r, x ∈ es) ∧ (cutL es r).length ≤ es.length := by
  obtain ⟨he, hp, _⟩ := (chk_iff true es none).1 hc
  have hpw := List.pairwise_iff_getElem.1 hp
  unfold cutL
  cases ha : atB es r with
  | true =>
    rw [if_pos rfl]
    refine ⟨(chk_iff true _ none).2 ⟨fun x hx => he x (List.mem_of_mem_take hx), hp.sublist (List.take_sublist _ _), fun p hp => by cases hp⟩, fun x hx => ?_, fun x hx => List.mem_of_mem_take hx, by simp⟩
    obtain ⟨j, hj, rfl⟩ := List.getElem_of_mem hx
    have hjl : j < es.length - 1 := by simp at hj; omega
    have h1 := hpw j (es.length - 1) (by omega) (by omega) hjl
    rw [fol_iff] at h1
    have h2 := hr es[es.length - 1] (List.getElem_mem _)
    rw [List.getElem_take]
    omega
  | false =>
    rw [if_neg (by simp)]
    refine ⟨hc, fun x hx => ?_, fun x hx => hx, Nat.le_refl _⟩
    obtain ⟨j, hj, rfl⟩ := List.getElem_of_mem hx
    have hne : es.isEmpty = false := by
      cases es with
      | nil => simp at hj
      | cons a l => rfl
    unfold atB at ha
    rw [hne, Bool.not_false, Bool.true_and, decide_eq_false_iff_not] at ha
    have e : es[es.length - 1]?.getD (0, 0) = es[es.length - 1]'(by omega) := by simp [show es.length - 1 < es.length by omega]
    rw [e] at ha
    have h2 := hr (es[es.length - 1]'(by omega)) (List.getElem_mem _)
    rcases Nat.lt_or_ge j (es.length - 1) with h | h
    · have h1 := hpw j (es.length - 1) (by omega) (by omega) h
      rw [fol_iff] at h1
      omega
    · have : j = es.length - 1 := by omega
      subst this
      omega
theorem cutV_bd {es : List Tm} {r v M : Int} (hv : 0 ≤ v ∧ v ≤ M) (he : ∀ x ∈ es, x.2 ≤ M) : 0 ≤ cutV es r v ∧ cutV es r v ≤ M := by
  unfold cutV
  cases ha : atB es r with
  | false => rw [if_neg (by simp)]; exact hv
  | true =>
    rw [if_pos rfl]
    have hl : 0 < es.length := by
      cases es with
      | nil => unfold atB at ha; simp at ha
      | cons a l => simp
    have e : es[es.length - 1]?.getD (0, 0) = es[es.length - 1]'(by omega) := by simp [show es.length - 1 < es.length by omega]
    rw [e]
    have := he (es[es.length - 1]'(by omega)) (List.getElem_mem _)
    omega
theorem put_ok {es : List Tm} {r v : Int} (hc : chk true none es = true) (hr : ∀ x ∈ es, x.1 ≤ r) (hr2 : 0 ≤ r ∧ r ≤ 1125899906842624) (hv : 0 ≤ v ∧ v ≤ 1099511627776) (he : ∀ x ∈ es, x.2 ≤ 1099511627776) : putB true (cutL es r) r (cutV es r v) 10 = true := by
  obtain ⟨h1, h2, h3, _⟩ := cut_ok hc hr
  have h4 := cutV_bd (r := r) hv he
  rw [putB_iff]
  exact ⟨h1, entB_iff.2 ⟨hr2, by show 0 ≤ cutV es r v; omega, by show cutV es r v ≤ 1152921504606846976; omega⟩, by decide, (above_iff h1).2 h2⟩
theorem bw_ok {es : List Tm} {r : Int} {s : Sm} (hc : chk true none es = true) (hr : ∀ x ∈ es, x.2 ≤ 1099511627776 ∧ x.1 ≤ r) (hr2 : 0 ≤ r ∧ r ≤ 1125899906842624) (hs : 0 ≤ s.rr ∧ s.rr ≤ 1099511627776) : chk true none (bwL es r s) = true ∧ (∀ x ∈ bwL es r s, x.2 ≤ 1099511627776 ∧ x.1 ≤ r) ∧ (bwL es r s).length ≤ es.length + 1 := by
  unfold bwL
  split
  · have hp := put_ok hc (fun x hx => (hr x hx).2) hr2 hs (fun x hx => (hr x hx).1)
    have h4 := cutV_bd (r := r) hs (fun x hx => (hr x hx).1)
    obtain ⟨_, _, h3, hlen⟩ := cut_ok hc (fun x hx => (hr x hx).2)
    refine ⟨chk_putL hp, ?_, ?_⟩
    · intro x hx
      rw [putL, if_pos hp] at hx
      rcases List.mem_append.1 hx with h | h
      · exact hr x (h3 x (List.mem_filter.1 h).1)
      · simp at h; subst h; exact ⟨h4.2, by show r ≤ r; omega⟩
    · rw [putL, if_pos hp, List.length_append]
      have := List.length_filter_le (stayB true r (cutV es r s.rr) 10) (cutL es r)
      simp only [List.length_cons, List.length_nil]
      omega
  · exact ⟨hc, hr, by omega⟩
end Go.Proofs.YtagmighcofllhaaDoor
