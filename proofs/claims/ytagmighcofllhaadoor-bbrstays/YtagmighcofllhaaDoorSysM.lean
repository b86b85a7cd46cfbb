/- What stays within bounds, sample by sample. -/
import Derived.Test.YtagmighcofllhaaDoorKStp
namespace Go.Proofs.YtagmighcofllhaaDoor
open Go.ChangeShapes Go.WideShapes Go.ChangeAt Go.RowKit
set_option linter.unusedVariables false
set_option linter.unusedSimpArgs false

open Fil
theorem rtt_ms (c : Cc) (s : Sm) : (rttE c s).ms = c.ms := by
  unfold rttE
  split <;> rfl
theorem jdg_ms (c : Cc) (s : Sm) (f : Bool) (b : Int) : (jdgE c s f b).ms = c.ms := by
  unfold jdgE groE
  (repeat' split) <;> rfl
theorem cyc_ms (c : Cc) (s : Sm) (P : Int) : (cycE c s P).ms = c.ms := by
  unfold cycE cruE
  (repeat' split) <;> rfl
theorem prb_ms (c : Cc) (s : Sm) (o : Bool) : (prbE c s o).ms = c.ms := by
  unfold prbE levE
  (repeat' split) <;> rfl
theorem fin_ms (c : Cc) (s : Sm) (f : Bool) (b : Int) : (finE c s f b).ms = c.ms := by
  unfold finE
  show (prbE _ _ _).ms = c.ms
  rw [prb_ms, cyc_ms, jdg_ms, rtt_ms]
structure SysI (m : Int) (i : Nat) (mst : Int) (d : Cc) (fs : List Tm) : Prop where
  ok : okC d fs = true
  ms : d.ms = m
  len : fs.length ≤ i
  mb : 0 ≤ mst ∧ mst ≤ 1099511627776
  all : ∀ x ∈ fs, x.2 ≤ mst
theorem SysI.best {m : Int} {i : Nat} {mst : Int} {d : Cc} {fs : List Tm} (h : SysI m i mst d fs) : bestV fs ≤ mst := by
  cases fs with
  | nil => exact h.mb.1
  | cons a l => exact h.all a (List.mem_cons_self ..)
theorem SysI.rowed {m : Int} {i : Nat} {mst : Int} {d : Cc} {fs : List Tm} (h : SysI m i mst d fs) (a : Option Addr) (n k : Nat) : SysI m i mst (rowed d a n k) fs := ⟨h.ok, h.ms, h.len, h.mb, h.all⟩
theorem sys_step {m : Int} {i : Nat} {mst : Int} {d : Cc} {fs : List Tm} (h : SysI m i mst d fs) {s : Sm} (k2 : smB s = true) :
    SysI m (i + 1) (max mst (min s.rr 1099511627776)) (ack8 d fs s) (bw8 d fs s) ∧ d.rd ≤ (ack8 d fs s).rd ∧ m ≤ (ack8 d fs s).cw := by
  obtain ⟨k, hrd, hlen⟩ := ack_ok h.ok k2
  obtain ⟨h0, hr0⟩ := ok8_out h.ok
  obtain ⟨hs, hcap⟩ := sm_cap (sm_out k2)
  have hms : (ack8 d fs s).ms = m := by
    unfold ack8
    rw [fin_ms]
    show (rndE d (capS s)).ms = m
    unfold rndE
    split <;> exact h.ms
  have hrr := (sm_out k2).rr
  have hm := h.mb
  have hr := h0.rd
  refine ⟨⟨k, hms, by have := h.len; omega, by omega, ?_⟩, ?_, ?_⟩
  · intro x hx
    have hv : 0 ≤ (capS s).rr ∧ (capS s).rr ≤ max mst (min s.rr 1099511627776) := ⟨by show 0 ≤ min s.rr 1099511627776; omega, by show min s.rr 1099511627776 ≤ _; omega⟩
    have he : ∀ y ∈ fs, y.2 ≤ max mst (min s.rr 1099511627776) := fun y hy => by have := h.all y hy; omega
    unfold bw8 bwL at hx
    split at hx
    · rw [putL] at hx
      split at hx
      · rcases List.mem_append.1 hx with q | q
        · have q2 := (List.mem_filter.1 q).1
          refine he x ?_
          unfold cutL at q2
          split at q2
          · exact List.mem_of_mem_take q2
          · exact q2
        · simp at q
          subst q
          exact (cutV_bd hv he).2
      · cases hx
    · exact he x hx
  · rw [hrd]
    unfold rnd8 rndE
    split
    · show d.rd ≤ min (d.rd + 1) 1125899906842624
      omega
    · exact Int.le_refl _
  · have := (ok8_out k).1.cw
    omega
theorem sys_new {m f : Int} (hb : newB m f = true) : SysI m 0 0 (st8 m f) [] := ⟨st8_ok hb, rfl, by simp, by omega, fun x hx => by cases hx⟩
/-- Whether a sample is taken. -/
theorem ackX_sm {c : Cc} {es : List Tm} {s : Sm} (k : okC c es = true) (k2 : smB s = false) : ackX c es s = 2 := by
  unfold ackX
  rw [if_pos k, if_neg (by rw [k2]; simp)]
end Go.Proofs.YtagmighcofllhaaDoor
