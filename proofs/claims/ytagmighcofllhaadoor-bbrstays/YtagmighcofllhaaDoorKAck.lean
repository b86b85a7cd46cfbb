/- The contract of Acked. -/
import Derived.Test.YtagmighcofllhaaDoorKAckA
import Derived.Test.YtagmighcofllhaaDoorKOk
import Derived.Test.YtagmighcofllhaaDoorGN
import Derived.Test.YtagmighcofllhaaDoorGL
import Derived.Test.YtagmighcofllhaaDoorGM
import Derived.Test.YtagmighcofllhaaDoorKRsz
namespace Go.Proofs.YtagmighcofllhaaDoor
open Go.ChangeShapes Go.WideShapes Go.ChangeAt Go.RowKit
set_option linter.unusedVariables false
set_option linter.unusedSimpArgs false

open Fil
/-- The state behind the rate, and the row. -/
def rnd8 (c : Cc) (s : Sm) : Cc := rndE c (capS s)
def bw8 (c : Cc) (es : List Tm) (s : Sm) : List Tm := bwL es (rnd8 c s).rd (capS s)
def ack8 (c : Cc) (es : List Tm) (s : Sm) : Cc := finE (rnd8 c s) (capS s) (rndB c (capS s)) (bestV (bw8 c es s))
theorem rat_rnd {c : Cc} {es : List Tm} {s : Sm} (h : Ok8 c) (hr : rat8 c es = true) : rat8 (rndE c s) es = true := by
  obtain ⟨h1, h2⟩ := rat_out hr
  refine rat_in h1 (fun x hx => ⟨(h2 x hx).1, ?_⟩)
  have := (h2 x hx).2
  have hd := h.rd
  unfold rndE
  split
  · show x.1 ≤ min (c.rd + 1) 1125899906842624; omega
  · exact this
theorem ack_yes (c : Cc) (es : List Tm) (s : Sm) (hI : CcI c) (k : okC c es = true) (k2 : smB s = true) (w : World) (hR : RowIn w c es) :
    Calls Tryd.prog 8 #[ccv c, agv (smL s)] w fun e w' => ∃ vb vj, e = .returned (.tuple #[ccv (rowed (ack8 c es s) vb (bw8 c es s).length vj), .int .i64 0]) ∧ Fil.RowT w' 0 vb (bw8 c es s).length vj (bw8 c es s) ∧ Below w.heap.size w w' := by
  obtain ⟨h0, hr0⟩ := ok8_out k
  have hs0 := sm_out k2
  obtain ⟨hs, hcap⟩ := sm_cap hs0
  have c1 := fun W (hW : Below w.heap.size w W) => bg8_yes c es hI k W (hR.below hW)
  have c2 := fun W => smp_is s k2 W
  have hz : (if 1099511627776 < s.rr then 1099511627776 else s.rr) = min s.rr 1099511627776 := by split <;> omega
  have h1 : Ok8 (rnd8 c s) := ok_rnd h0 hs
  have hr1 : rat8 (rnd8 c s) es = true := rat_rnd h0 hr0
  obtain ⟨q1, q2⟩ := rat_out hr1
  obtain ⟨f1, f2, f3⟩ := bw_ok (s := capS s) q1 q2 h1.rd ⟨hs.rr, hcap⟩
  have hfr : rat8 (rnd8 c s) (bw8 c es s) = true := rat_in f1 f2
  have hb := best_bd hfr
  obtain ⟨fs, hfs⟩ : ∃ fs, bw8 c es s = fs := ⟨_, rfl⟩
  obtain ⟨L, hL⟩ : ∃ L, fs.length = L := ⟨_, rfl⟩
  obtain ⟨b, hbv⟩ : ∃ b, bestV fs = b := ⟨_, rfl⟩
  obtain ⟨fr, hfrB⟩ : ∃ f, rndB c (capS s) = f := ⟨_, rfl⟩
  unfold ack8
  have hbw : bwL es (rnd8 c s).rd (capS s) = fs := hfs
  rw [hfs, hL, hbv, hfrB]
  rw [hfs] at hb
  rw [hbv] at hb
  have h2 : Ok8 (rttE (rnd8 c s) (capS s)) := ok_rtt h1 hs
  have h3 : Ok8 (jdgE (rttE (rnd8 c s) (capS s)) (capS s) fr b) := ok_jdg h2 hb
  obtain ⟨D1, e1⟩ : ∃ D, rnd8 c s = D := ⟨_, rfl⟩
  have e1' : rndE c (capS s) = D1 := e1
  rw [e1] at h1 h2 h3 hbw ⊢
  obtain ⟨D2, e2⟩ : ∃ D, rttE D1 (capS s) = D := ⟨_, rfl⟩
  obtain ⟨old, eo⟩ : ∃ o, oldB D1 (capS s) = o := ⟨_, rfl⟩
  rw [e2] at h2 h3
  obtain ⟨D3, e3⟩ : ∃ D, jdgE D2 (capS s) fr b = D := ⟨_, rfl⟩
  rw [e3] at h3
  obtain ⟨P3, ep3⟩ : ∃ P, prodI b D3.mr = P := ⟨_, rfl⟩
  have h4 : Ok8 (cycE D3 (capS s) P3) := ok_cyc h3 hs
  obtain ⟨D4, e4⟩ : ∃ D, cycE D3 (capS s) P3 = D := ⟨_, rfl⟩
  rw [e4] at h4
  have h5 : Ok8 (prbE D4 (capS s) old) := ok_prb h4 hs
  obtain ⟨D5, e5⟩ : ∃ D, prbE D4 (capS s) old = D := ⟨_, rfl⟩
  rw [e5] at h5
  obtain ⟨P5, ep5⟩ : ∃ P, prodI b D5.mr = P := ⟨_, rfl⟩
  have hfin : finE D1 (capS s) fr b = rszE D5 s.ak P5 b := by
    unfold finE
    simp only [e2, eo, e3, ep3, e4, e5, ep5]
    rfl
  rw [hfin]
  have hp5 := prod_bd (b := b) (m := D5.mr) hb.1 h5.mr.1
  rw [ep5] at hp5
  have I : ∀ {d : Cc}, Ok8 d → I64 d.mr := fun h => by have := h.mr; unfold I64; omega
  have hbI : I64 b := by unfold I64; omega
  have BW : ∀ (d : Cc) (va : Option Addr) (vk : Nat) (k : Nat) (W : World), Box W k 48 (ccL (rowed d va L vk)) → Fil.RowT W 0 va L vk fs → ∀ U, Chg W k U → Calls Tryd.prog 51 #[ccv (rowed d va L vk)] U fun e w' => e = .returned (.int .i64 b) ∧ Below U.heap.size U w' :=
    fun d va vk k W hB hR U hU => bw_is (rowed d va L vk) fs b hbv hL U (hR.chg hB (by decide) hU).tims
  have PR : ∀ (d : Cc) (P : Int), Ok8 d → prodI b d.mr = P → ∀ (va : Option Addr) (vk : Nat) (k : Nat) (W : World), Box W k 48 (ccL (rowed d va L vk)) → Fil.RowT W 0 va L vk fs → ∀ U, Chg W k U → Calls Tryd.prog 52 #[ccv (rowed d va L vk)] U fun e w' => e = .returned (.int .i64 P) ∧ Below U.heap.size U w' :=
    fun d P hd hP va vk k W hB hR U hU => prd_is (rowed d va L vk) fs b P hbv hP hbI (I (ok_rowed hd va L vk)) hL U (hR.chg hB (by decide) hU).tims
  have c3 : ∀ (va : Option Addr) (vk : Nat) k W, Box W k 48 (ccL (rowed c va c.bn vk)) → Fil.RowT W 0 va c.bn vk es → Calls Tryd.prog 26 #[.pointer (some ⟨k, 0, none⟩), agv (smL (capS s))] W fun e w' => e = .returned (.bool fr) ∧ Chg W k w' ∧ Box w' k 48 (ccL (rowed D1 va c.bn vk)) := fun va vk k W hB _ => by
    have := rnd_is (rowed c va c.bn vk) (capS s) k h0.rd W hB
    rw [rowed_rnd, e1', show rndB (rowed c va c.bn vk) (capS s) = fr from hfrB] at this
    exact this
  have c4 : ∀ (va : Option Addr) (vk : Nat) k W, Box W k 48 (ccL (rowed D1 va c.bn vk)) → Fil.RowT W 0 va c.bn vk es → Calls Tryd.prog 27 #[.pointer (some ⟨k, 0, none⟩), agv (smL (capS s))] W fun e w' => ∃ vb vj, e = .returned (.tuple #[]) ∧ Chg W k w' ∧ Box w' k 48 (ccL (rowed D1 vb L vj)) ∧ Fil.RowT w' 0 vb L vj fs := fun va vk k W hB hRo => by
    have := lrt_is (rowed D1 va c.bn vk) (capS s) k es W hs.rr hR.siz hRo (fun U hU => bw_is (rowed D1 va c.bn vk) es _ rfl hR.len U (Fil.RowT.chg hRo hB (by decide) hU).tims) hB
    rw [show bwL es (rowed D1 va c.bn vk).rd (capS s) = fs from hbw, hL] at this
    exact this
  have c5 : ∀ (va : Option Addr) (vk : Nat) k W, Box W k 48 (ccL (rowed D1 va L vk)) → Fil.RowT W 0 va L vk fs → Calls Tryd.prog 28 #[.pointer (some ⟨k, 0, none⟩), agv (smL (capS s))] W fun e w' => e = .returned (.bool old) ∧ Chg W k w' ∧ Box w' k 48 (ccL (rowed D2 va L vk)) := fun va vk k W hB _ => by
    have := rtt_is (rowed D1 va L vk) (capS s) k h1.mr.1 h1.ma W hB
    rw [rowed_rtt, e2, show oldB (rowed D1 va L vk) (capS s) = old from eo] at this
    exact this
  have c7 : ∀ (va : Option Addr) (vk : Nat) k W, Box W k 48 (ccL (rowed D3 va L vk)) → Fil.RowT W 0 va L vk fs → Calls Tryd.prog 30 #[.pointer (some ⟨k, 0, none⟩), agv (smL (capS s))] W fun e w' => e = .returned (.tuple #[]) ∧ Chg W k w' ∧ Box w' k 48 (ccL (rowed D4 va L vk)) := fun va vk k W hB hRo => by
    have := cyc_is (rowed D3 va L vk) (capS s) k P3 h3.md h3.ph h3.pa h3.mr W (PR D3 P3 h3 ep3 va vk k W hB hRo) hB
    rw [rowed_cyc, e4] at this
    exact this
  have c8 : ∀ (va : Option Addr) (vk : Nat) k W, Box W k 48 (ccL (rowed D4 va L vk)) → Fil.RowT W 0 va L vk fs → Calls Tryd.prog 31 #[.pointer (some ⟨k, 0, none⟩), agv (smL (capS s)), .bool old] W fun e w' => e = .returned (.tuple #[]) ∧ Chg W k w' ∧ Box w' k 48 (ccL (rowed D5 va L vk)) := fun va vk k W hB _ => by
    have := prb_is (rowed D4 va L vk) (capS s) old k h4.ms hs.nw W hB
    rw [rowed_prb, e5] at this
    exact this
  have c9 : ∀ (va : Option Addr) (vk : Nat) k W, Box W k 48 (ccL (rowed D5 va L vk)) → Fil.RowT W 0 va L vk fs → Calls Tryd.prog 32 #[.pointer (some ⟨k, 0, none⟩), .int .i64 s.ak] W fun e w' => e = .returned (.tuple #[]) ∧ Chg W k w' ∧ Box w' k 48 (ccL (rowed (rszE D5 s.ak P5 b) va L vk)) := fun va vk k W hB hRo => by
    have := rez_is (rowed D5 va L vk) k s.ak P5 b h5.ms ⟨by have h6 := h5.cw; have h7 := h5.ms; show 0 ≤ D5.cw; omega, h5.cw.2⟩ hs.ak hp5 W (PR D5 P5 h5 ep5 va vk k W hB hRo) (BW D5 va vk k W hB hRo) hB
    rw [rowed_rsz] at this
    exact this
  by_cases hm : D2.md = 1
  · cases fr with
    | true =>
      cases hi : s.idl with
      | false =>
        have c6 : ∀ (va : Option Addr) (vk : Nat) k W, Box W k 48 (ccL (rowed D2 va L vk)) → Fil.RowT W 0 va L vk fs → Calls Tryd.prog 29 #[.pointer (some ⟨k, 0, none⟩)] W fun e w' => e = .returned (.tuple #[]) ∧ Chg W k w' ∧ Box w' k 48 (ccL (rowed D3 va L vk)) := fun va vk k W hB hRo => by
          have := jdg_is (rowed D2 va L vk) k b hb h2.fu h2.fc W (BW D2 va vk k W hB hRo) hB
          rw [rowed_gro] at this
          have e6 : groE D2 b = D3 := by rw [← e3]; unfold jdgE; rw [if_pos ⟨hm, rfl, hi⟩]
          rw [e6] at this
          exact this
        exact ack_j w c D1 D2 D3 D4 D5 _ s es fs L _ old hz c1 c2 hm hi c3 c4 c5 c6 c7 c8 c9
      | true =>
        have e6 : D2 = D3 := by rw [← e3]; unfold jdgE; rw [if_neg (by rintro ⟨_, _, h⟩; rw [show (capS s).idl = true from hi] at h; cases h)]
        rw [e6] at c5 hm
        exact ack_i w c D1 D3 D4 D5 _ s es fs L _ old hz c1 c2 hm hi c3 c4 c5 c7 c8 c9
    | false =>
      have e6 : D2 = D3 := by rw [← e3]; unfold jdgE; rw [if_neg (by rintro ⟨_, h, _⟩; cases h)]
      rw [e6] at c5 hm
      exact ack_f w c D1 D3 D4 D5 _ s es fs L _ old hz c1 c2 hm c3 c4 c5 c7 c8 c9
  · have e6 : D2 = D3 := by rw [← e3]; unfold jdgE; rw [if_neg (by rintro ⟨h, _⟩; exact hm h)]
    rw [e6] at c5 hm
    exact ack_m w c D1 D3 D4 D5 _ s es fs L _ old fr hz c1 c2 (by simpa using hm) c3 c4 c5 c7 c8 c9
def ackX (c : Cc) (es : List Tm) (s : Sm) : Int := if okC c es = true then if smB s = true then 0 else 2 else 230
theorem ack_bad (c : Cc) (es : List Tm) (s : Sm) (hI : CcI c) (k : (okC c es && smB s) = false) (w : World) (hR : RowIn w c es) : Calls Tryd.prog 8 #[ccv c, agv (smL s)] w fun e w' => e = .returned (.tuple #[ccv zC, .int .i64 (ackX c es s)]) ∧ Below w.heap.size w w' := by
  unfold ackX
  cases h : okC c es with
  | false => rw [if_neg (by simp)]; exact ack_no w c s (fun W hW => bg8_bad c es hI h W (hR.below hW))
  | true =>
    rw [h] at k
    have k2 : smB s = false := by simpa using k
    rw [if_pos rfl, if_neg (by rw [k2]; simp)]
    exact ack_arg w c s es (fun W hW => bg8_yes c es hI h W (hR.below hW)) (fun W => smp_is s k2 W)
end Go.Proofs.YtagmighcofllhaaDoor
