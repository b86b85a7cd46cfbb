/- An even path, round by round, in plain numbers. -/
import Derived.Test.YtagmighcofllhaaDoorKStp
namespace Go.Proofs.YtagmighcofllhaaDoor
open Go.ChangeShapes Go.WideShapes Go.ChangeAt Go.RowKit
set_option linter.unusedVariables false
set_option linter.unusedSimpArgs false

open Fil
def stS (t r ak : Int) (i : Nat) : Sm := ⟨(i : Int) * t, ak, t, r, false, ((i : Int) - 1) * 1000 + 1000, ((i : Int) - 1) * 1000, 0⟩
def stT (m r t : Int) : Int := max (4 * m) (2 * prodI r t)
structure StI (m r t : Int) (i : Nat) (d : Cc) (fs : List Tm) : Prop where
  ok : okC d fs = true
  ms : d.ms = m
  fs : fs = if i = 1 then [] else [((i : Int) - 1, r)]
  rd : d.rd = (i : Int) - 1
  na : d.na = ((i : Int) - 1) * 1000
  md : d.md = if i ≤ 4 then 1 else 3
  fc : d.fc = if i ≤ 2 then 0 else if i ≤ 4 then (i : Int) - 2 else 3
  fu : d.fu = if i = 1 then 0 else r
  mr : d.mr = if i = 1 then 0 else t
  ma : d.ma = ((i : Int) - 1) * t
  cw : if i ≤ 4 then 10 * m ≤ d.cw else d.cw = min (stT m r t) 1073741824 ∨ (10 * m ≤ d.cw ∧ d.cw < stT m r t)
theorem StI.rowed {m r t : Int} {i : Nat} {d : Cc} {fs : List Tm} (h : StI m r t i d fs) (a : Option Addr) (n k : Nat) : StI m r t i (rowed d a n k) fs := ⟨h.ok, h.ms, h.fs, h.rd, h.na, h.md, h.fc, h.fu, h.mr, h.ma, h.cw⟩
theorem st_sm {r t ak : Int} {i : Nat} (hi : 1 ≤ i ∧ i ≤ 12) (hr : 1000 ≤ r ∧ r ≤ 1073741824) (ht : 1000 ≤ t ∧ t ≤ 1000000) (ha : 0 ≤ ak ∧ ak ≤ 1073741824) : smB (stS t r ak i) = true := by
  refine sm_in ?_
  have hn : 0 ≤ (i : Int) * t ∧ (i : Int) * t ≤ 12 * 1000000 := ⟨Int.mul_nonneg (by omega) (by omega), Int.mul_le_mul (by omega) ht.2 (by omega) (by omega)⟩
  constructor <;> (simp only [stS]; omega)
theorem cyc_keep (c : Cc) (s : Sm) (P : Int) : (cycE c s P).fc = c.fc ∧ (cycE c s P).na = c.na ∧ (cycE c s P).fu = c.fu ∧ (cycE c s P).mr = c.mr ∧ (cycE c s P).ma = c.ma ∧ (cycE c s P).cw = c.cw ∧ (cycE c s P).ms = c.ms := by
  unfold cycE cruE
  (repeat' split) <;> exact ⟨rfl, rfl, rfl, rfl, rfl, rfl, rfl⟩
/-- Growth and phases. -/
theorem st_mid {D : Cc} {r P : Int} {i : Nat} {s : Sm} (hr : 1000 ≤ r) (hs : s.idl = false) (hf : s.fl = 0) (hP : 0 ≤ P) (h1 : 1 ≤ i) (hmd : D.md = if i ≤ 4 then 1 else 3) (hfc : D.fc = if i ≤ 2 then 0 else if i ≤ 4 then (i : Int) - 2 else 3) (hfu : D.fu = if i = 1 then 0 else r) :
    (cycE (jdgE D s true r) s P).md = (if i + 1 ≤ 4 then 1 else 3) ∧ (cycE (jdgE D s true r) s P).fc = (if i + 1 ≤ 2 then 0 else if i + 1 ≤ 4 then ((i + 1 : Nat) : Int) - 2 else 3) ∧ (cycE (jdgE D s true r) s P).fu = r ∧ (jdgE D s true r).na = D.na ∧ (jdgE D s true r).mr = D.mr ∧ (jdgE D s true r).ma = D.ma ∧ (jdgE D s true r).cw = D.cw ∧ (jdgE D s true r).ms = D.ms := by
  obtain ⟨k1, _, k3, _⟩ := cyc_keep (jdgE D s true r) s P
  rw [k1, k3]
  have hkeep : ∀ E : Cc, E.md = 3 → (cycE E s P).md = 3 := fun E hE => by
    unfold cycE
    rw [if_neg (by omega)]
    split <;> exact hE
  have hone : ∀ E : Cc, E.md = 1 → (cycE E s P).md = 1 := fun E hE => by
    unfold cycE
    rw [if_neg (by omega), if_neg (by omega)]
    exact hE
  by_cases h5 : 5 ≤ i
  · rw [if_neg (by omega)] at hmd
    rw [if_neg (by omega), if_neg (by omega)] at hfc
    rw [if_neg (by omega)] at hfu
    have e : jdgE D s true r = D := by unfold jdgE; rw [if_neg (by omega)]
    rw [e, if_neg (by omega), if_neg (by omega), if_neg (by omega)]
    exact ⟨hkeep D hmd, hfc, hfu, rfl, rfl, rfl, rfl, rfl⟩
  · rw [if_pos (by omega)] at hmd
    have e : jdgE D s true r = groE D r := by unfold jdgE; rw [if_pos ⟨hmd, rfl, hs⟩]
    rw [e]
    unfold groE
    rw [if_neg (by omega)]
    by_cases hi1 : i = 1
    · rw [if_pos hi1] at hfu
      rw [if_pos (by omega), if_pos (by omega), if_pos (by omega)]
      exact ⟨hone _ hmd, rfl, rfl, rfl, rfl, rfl, rfl, rfl⟩
    · rw [if_neg hi1] at hfu
      rw [if_neg (by omega)]
      by_cases hi4 : i = 4
      · rw [if_neg (by omega), if_pos (by omega)] at hfc
        rw [if_pos (by omega), if_neg (by omega), if_neg (by omega), if_neg (by omega)]
        refine ⟨?_, rfl, hfu, rfl, rfl, rfl, rfl, rfl⟩
        unfold cycE
        rw [if_pos ⟨rfl, by omega⟩]
        rfl
      · have hf2 : D.fc = (i : Int) - 2 := by
          rw [hfc]
          split
          · omega
          · rw [if_pos (by omega)]
        rw [if_neg (by omega), if_pos (by omega), if_neg (by omega), if_pos (by omega)]
        exact ⟨hone _ hmd, by show D.fc + 1 = _; omega, hfu, rfl, rfl, rfl, rfl, rfl⟩
theorem st_bw {c : Cc} {r : Int} {i : Nat} {s : Sm} {es : List Tm} (hok : Ok8 c) (hra : rat8 c es = true) (hr : 1000 ≤ r ∧ r ≤ 1073741824) (h1 : 1 ≤ i) (hfs : es = if i = 1 then [] else [((i : Int) - 1, r)]) (hrd : c.rd = i) (hrr : s.rr = r) (hid : s.idl = false) : bwL es c.rd s = [((i : Int), r)] := by
  obtain ⟨q1, q2⟩ := rat_out hra
  have hp := put_ok (r := c.rd) (v := s.rr) q1 (fun x hx => (q2 x hx).2) hok.rd (by omega) (fun x hx => (q2 x hx).1)
  have hra2 : ratP es s = true := by unfold ratP; rw [hid, hrr]; simp; omega
  unfold bwL
  rw [if_pos hra2, putL, if_pos hp]
  by_cases hi : i = 1
  · rw [if_pos hi] at hfs
    subst hfs
    show [] ++ [(c.rd, s.rr)] = _
    rw [hrd, hrr]
    rfl
  · rw [if_neg hi] at hfs
    subst hfs
    have ha : atB [((i : Int) - 1, r)] c.rd = false := by
      show (true && decide ((i : Int) - 1 = c.rd)) = false
      rw [Bool.true_and, decide_eq_false_iff_not]
      omega
    unfold cutL cutV
    rw [ha, if_neg (by simp), if_neg (by simp), hrr, hrd]
    have hst : stayB true (i : Int) r 10 ((i : Int) - 1, r) = false := by
      show (_ && decide (r < r)) = false
      simp
    rw [List.filter_cons_of_neg (by rw [hst]; simp)]
    rfl
theorem st_step {m r t ak : Int} {i : Nat} {d : Cc} {fs : List Tm} (h : StI m r t i d fs) (hi : 1 ≤ i ∧ i ≤ 12) (hm : 1 ≤ m ∧ m ≤ 10000) (hr : 1000 ≤ r ∧ r ≤ 1073741824) (ht : 1000 ≤ t ∧ t ≤ 1000000) (ha : 0 ≤ ak ∧ ak ≤ 1073741824) :
    StI m r t (i + 1) (ack8 d fs (stS t r ak i)) (bw8 d fs (stS t r ak i)) := by
  have k2 := st_sm (ak := ak) hi hr ht ha
  obtain ⟨k, _, _⟩ := ack_ok h.ok k2
  obtain ⟨N, hN⟩ : ∃ N, ((i : Int) - 1) * t = N := ⟨_, rfl⟩
  have hN2 : (i : Int) * t = N + t := by rw [← hN, Int.sub_mul]; omega
  have hN0 : 0 ≤ N := by rw [← hN]; exact Int.mul_nonneg (by omega) (by omega)
  obtain ⟨h0, hr0⟩ := ok8_out h.ok
  obtain ⟨hs, hcap⟩ := sm_cap (sm_out k2)
  have h1' : Ok8 (rnd8 d (stS t r ak i)) := ok_rnd h0 hs
  have hr1' : rat8 (rnd8 d (stS t r ak i)) fs = true := rat_rnd h0 hr0
  obtain ⟨s, hsd⟩ : ∃ s, stS t r ak i = s := ⟨_, rfl⟩
  have s1 : s.nw = N + t := by rw [← hsd]; exact hN2
  have s2 : s.ak = ak := by rw [← hsd]; rfl
  have s3 : s.rt = t := by rw [← hsd]; rfl
  have s4 : s.rr = r := by rw [← hsd]; rfl
  have s5 : s.idl = false := by rw [← hsd]; rfl
  have s6 : s.gv = ((i : Int) - 1) * 1000 + 1000 := by rw [← hsd]; rfl
  have s7 : s.bf = ((i : Int) - 1) * 1000 := by rw [← hsd]; rfl
  have s8 : s.fl = 0 := by rw [← hsd]; rfl
  rw [hsd] at k h1' hr1' ⊢
  clear hsd hs hcap k2 hr0
  have hz : capS s = s := by
    show { s with rr := min s.rr 1099511627776 } = s
    rw [show min s.rr 1099511627776 = s.rr by omega]
  have e1 : rnd8 d s = { d with na := s.gv, rd := min (d.rd + 1) 1125899906842624 } := by
    unfold rnd8
    rw [hz]
    exact if_pos (by rw [h.na, s7]; omega)
  have eb : rndB d (capS s) = true := by rw [hz]; exact decide_eq_true (by rw [h.na, s7]; omega)
  have hrd1 : (rnd8 d s).rd = i := by rw [e1]; show min (d.rd + 1) _ = _; rw [h.rd]; omega
  have ebw : bw8 d fs s = [((i : Int), r)] := by
    unfold bw8
    rw [hz]
    exact st_bw h1' hr1' hr hi.1 h.fs hrd1 s4 s5
  have hma : d.ma = N := h.ma.trans hN
  have hmr : d.mr = 0 ∨ d.mr = t := by rw [h.mr]; split <;> omega
  have g1 : (rnd8 d s).ma = N := by rw [e1]; exact hma
  have g2 : (rnd8 d s).mr = d.mr := by rw [e1]
  have g3 : (rnd8 d s).md = d.md := by rw [e1]
  have g4 : (rnd8 d s).fc = d.fc := by rw [e1]
  have g5 : (rnd8 d s).fu = d.fu := by rw [e1]
  have g6 : (rnd8 d s).cw = d.cw := by rw [e1]
  have g7 : (rnd8 d s).ms = d.ms := by rw [e1]
  have g8 : (rnd8 d s).na = s.gv := by rw [e1]
  have eack : ack8 d fs s = finE (rnd8 d s) s true r := by
    unfold ack8
    rw [ebw, eb, hz]
    rfl
  have hrdF : (ack8 d fs s).rd = i := by rw [eack, fin_rd, hrd1]
  rw [ebw] at k ⊢
  rw [eack] at k hrdF ⊢
  obtain ⟨D1, hD1⟩ : ∃ D, rnd8 d s = D := ⟨_, rfl⟩
  rw [hD1] at g1 g2 g3 g4 g5 g6 g7 g8 k hrdF ⊢
  clear e1 eack ebw eb hrd1 h1' hr1' hD1
  have ho : oldB D1 s = false := decide_eq_false (by omega)
  have e2 : rttE D1 s = { D1 with mr := s.rt, ma := s.nw } := by
    refine if_pos ?_
    unfold rttB
    rw [ho]
    have hp : 0 < s.rt := by omega
    rcases hmr with q | q
    · rw [g2, decide_eq_true hp, decide_eq_true q]; rfl
    · rw [g2, decide_eq_true hp, decide_eq_true (show s.rt ≤ d.mr by omega), Bool.or_true (decide (d.mr = 0)) |> fun _ => Bool.true_or false, Bool.or_true]; rfl
  obtain ⟨D2, hD2⟩ : ∃ D, rttE D1 s = D := ⟨_, rfl⟩
  have f1 : D2.mr = t := by rw [← hD2, e2]; exact s3
  have f2 : D2.ma = N + t := by rw [← hD2, e2]; exact s1
  have f3 : D2.md = d.md := by rw [← hD2, e2]; exact g3
  have f4 : D2.fc = d.fc := by rw [← hD2, e2]; exact g4
  have f5 : D2.fu = d.fu := by rw [← hD2, e2]; exact g5
  have f6 : D2.cw = d.cw := by rw [← hD2, e2]; exact g6
  have f7 : D2.ms = d.ms := by rw [← hD2, e2]; exact g7
  have f8 : D2.na = s.gv := by rw [← hD2, e2]; exact g8
  obtain ⟨P, hP⟩ : ∃ P, prodI r t = P := ⟨_, rfl⟩
  have hPb := prod_bd (b := r) (m := t) (by omega) (by omega)
  rw [hP] at hPb
  obtain ⟨m1, m2, m3, m4, m5, m6, m7, m8⟩ := st_mid (D := D2) (P := P) (s := s) hr.1 s5 s8 hPb.1 hi.1 (f3.trans h.md) (f4.trans h.fc) (f5.trans h.fu)
  obtain ⟨D3, hD3⟩ : ∃ D, jdgE D2 s true r = D := ⟨_, rfl⟩
  rw [hD3] at m1 m2 m3 m4 m5 m6 m7 m8
  obtain ⟨c1, c2, c3, c4, c5, c6, c7⟩ := cyc_keep D3 s P
  obtain ⟨D4, hD4⟩ : ∃ D, cycE D3 s P = D := ⟨_, rfl⟩
  rw [hD4] at m1 m2 m3 c1 c2 c3 c4 c5 c6 c7
  have ep : prbE D4 s false = D4 := by
    unfold prbE
    rw [if_neg (by rw [m1]; split <;> omega), if_neg (by simp)]
  have efin : finE D1 s true r = rszE D4 ak P r := by
    unfold finE
    simp only [hD2, ho, hD3]
    rw [show D3.mr = t by omega, hP, hD4, ep, show D4.mr = t by omega, hP, s2]
  rw [efin] at k hrdF ⊢
  have hcwb := h0.cw
  have hms := h.ms
  have hTT : tgtI D4 P = stT m r t := by unfold tgtI stT; rw [hP, show D4.ms = m by omega]
  have hT4 : 4 * m ≤ stT m r t := by unfold stT; omega
  obtain ⟨T, hT⟩ : ∃ T, stT m r t = T := ⟨_, rfl⟩
  have hcw0 := h.cw
  rw [hT] at hTT hT4 hcw0
  have hcw : (rszE D4 ak P r).cw = clampI (rawW D4 ak P r) D4.ms 1073741824 := rfl
  refine ⟨k, (by show D4.ms = m; omega), by rw [if_neg (by omega)]; simp, by rw [hrdF]; simp, by show D4.na = _; rw [show D4.na = s.gv by omega, s6]; simp; omega, m1, m2, by rw [if_neg (by omega)]; exact m3, by rw [if_neg (by omega)]; show D4.mr = t; omega, by show D4.ma = _; rw [show D4.ma = N + t by omega, ← hN2]; simp, ?_⟩
  rw [hcw, hT]
  have hraw : rawW D4 ak P r = if D4.fc = 3 then min (D4.cw + ak) T else if D4.cw < T then D4.cw + ak else D4.cw := by
    unfold rawW
    rw [if_neg (by rw [m1]; split <;> omega), hTT]
    by_cases q : D4.fc = 3
    · rw [if_pos q, if_pos q]
    · rw [if_neg q, if_neg q]
      by_cases q2 : D4.cw < T
      · rw [if_pos (.inl q2), if_pos q2]
      · rw [if_neg (by omega), if_neg q2]
  rw [hraw]
  by_cases h4 : i ≤ 3
  · rw [if_pos (by omega)] at hcw0 ⊢
    rw [if_neg (by rw [m2]; split <;> (try split) <;> omega)]
    unfold clampI
    split <;> (try split) <;> (try split) <;> (try split) <;> omega
  · rw [if_neg (by omega)]
    have q3 : D4.fc = 3 := by rw [m2, if_neg (by omega), if_neg (by omega)]
    rw [if_pos q3]
    have hc : 10 * m ≤ D4.cw ∨ D4.cw = min T 1073741824 := by
      by_cases h5 : i ≤ 4
      · rw [if_pos h5] at hcw0; omega
      · rw [if_neg h5] at hcw0; omega
    unfold clampI
    split <;> (try split) <;> (try split) <;> omega
theorem st_new {m r t : Int} (hm : 1 ≤ m ∧ m ≤ 10000) : newB m 10 = true ∧ StI m r t 1 (st8 m 10) [] := by
  have hb : newB m 10 = true := decide_eq_true (by omega)
  refine ⟨hb, ⟨st8_ok hb, rfl, rfl, rfl, rfl, rfl, rfl, rfl, rfl, ?_, ?_⟩⟩
  · show (0 : Int) = ((1 : Nat) - 1 : Int) * t
    simp
  · show 10 * m ≤ 10 * m
    omega
end Go.Proofs.YtagmighcofllhaaDoor
