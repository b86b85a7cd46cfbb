/- Texts: InputN, InputB, AccP. -/
import Derived.Test.YtdodagpkkjpdiaaQA35
import Derived.Test.YtdodagpkkjpdiaaQA41
import Derived.Test.YtdodagpkkjpdiaaQA38
import Derived.Test.YtdodagpkkjpdiaaQA42
namespace Go.Proofs.Ytdodagpkkjpdiaa
open Go.ChangeShapes Go.WideShapes Go.ChangeAt Go.RowKit
set_option linter.unusedVariables false
set_option linter.unusedSimpArgs false
theorem boxes4 (w : World) (cs ds : List Value) {W0 : World} (hW0 : (((w.alloc (.cells cs.toArray 46)).alloc (.cells ds.toArray 28)).alloc (.cells #[.int .i64 0, .slice none 0 0, .slice none 0 0, .int .i64 0, .int .i64 0, .int .i64 0, .int .u32 0, .bool false, .bool false, .int .i64 0, .bool false, .slice none 0 0, .int .u32 0, .int .u32 0, .bool false] 46)).alloc (.cells #[.int .i64 0, .int .i64 0, .int .u32 0, .int .u32 0, .int .i64 0, .int .i64 0, .int .i64 0, .int .i64 0, .int .i64 0, .bool false, .bool false, .int .u32 0, .int .u32 0, .slice none 0 0, .slice none 0 0] 28) = W0) :
    Box W0 w.heap.size 46 cs ∧ Box W0 (w.heap.size + 1) 28 ds ∧ Box W0 (w.heap.size + 2) 46 [.int .i64 0, .slice none 0 0, .slice none 0 0, .int .i64 0, .int .i64 0, .int .i64 0, .int .u32 0, .bool false, .bool false, .int .i64 0, .bool false, .slice none 0 0, .int .u32 0, .int .u32 0, .bool false] ∧ Box W0 (w.heap.size + 3) 28 [.int .i64 0, .int .i64 0, .int .u32 0, .int .u32 0, .int .i64 0, .int .i64 0, .int .i64 0, .int .i64 0, .int .i64 0, .bool false, .bool false, .int .u32 0, .int .u32 0, .slice none 0 0, .slice none 0 0] ∧ W0.heap.size = w.heap.size + 4 ∧ Below w.heap.size w W0 := by
  subst hW0
  refine ⟨Box.alloc (Box.alloc (Box.alloc (Box.new w 46 cs) _) _) _, ?_, ?_, ?_, by simp, below_more (below_more (below_more (below_more (Below.refl _ _) _) _) _) _⟩
  · have := ((Box.new (w.alloc (.cells cs.toArray 46)) 28 ds).alloc (.cells #[.int .i64 0, .slice none 0 0, .slice none 0 0, .int .i64 0, .int .i64 0, .int .i64 0, .int .u32 0, .bool false, .bool false, .int .i64 0, .bool false, .slice none 0 0, .int .u32 0, .int .u32 0, .bool false] 46)).alloc (.cells #[.int .i64 0, .int .i64 0, .int .u32 0, .int .u32 0, .int .i64 0, .int .i64 0, .int .i64 0, .int .i64 0, .int .i64 0, .bool false, .bool false, .int .u32 0, .int .u32 0, .slice none 0 0, .slice none 0 0] 28); rwa [World.size_alloc] at this
  · have := (Box.new ((w.alloc (.cells cs.toArray 46)).alloc (.cells ds.toArray 28)) 46 [.int .i64 0, .slice none 0 0, .slice none 0 0, .int .i64 0, .int .i64 0, .int .i64 0, .int .u32 0, .bool false, .bool false, .int .i64 0, .bool false, .slice none 0 0, .int .u32 0, .int .u32 0, .bool false]).alloc (.cells #[.int .i64 0, .int .i64 0, .int .u32 0, .int .u32 0, .int .i64 0, .int .i64 0, .int .i64 0, .int .i64 0, .int .i64 0, .bool false, .bool false, .int .u32 0, .int .u32 0, .slice none 0 0, .slice none 0 0] 28); rwa [World.size_alloc, World.size_alloc] at this
  · have := Box.new (((w.alloc (.cells cs.toArray 46)).alloc (.cells ds.toArray 28)).alloc (.cells #[.int .i64 0, .slice none 0 0, .slice none 0 0, .int .i64 0, .int .i64 0, .int .i64 0, .int .u32 0, .bool false, .bool false, .int .i64 0, .bool false, .slice none 0 0, .int .u32 0, .int .u32 0, .bool false] 46)) 28 [.int .i64 0, .int .i64 0, .int .u32 0, .int .u32 0, .int .i64 0, .int .i64 0, .int .i64 0, .int .i64 0, .int .i64 0, .bool false, .bool false, .int .u32 0, .int .u32 0, .slice none 0 0, .slice none 0 0]; rwa [World.size_alloc, World.size_alloc, World.size_alloc] at this
end Go.Proofs.Ytdodagpkkjpdiaa
namespace Go.Proofs.Ytdodagpkkjpdiaa
open Go.ChangeShapes Go.WideShapes Go.ChangeAt Go.RowKit
set_option linter.unusedVariables false
set_option linter.unusedSimpArgs false
end Go.Proofs.Ytdodagpkkjpdiaa
namespace Go.Proofs.Ytdodagpkkjpdiaa
open Go.ChangeShapes Go.WideShapes Go.ChangeAt Go.RowKit
set_option linter.unusedVariables false
set_option linter.unusedSimpArgs false
theorem dis_sum {hi : Int} : ∀ {l : List Pl.Pc} {lo : Int}, Pl.disB lo l → (∀ p ∈ l, Pl.pend p ≤ hi) → lo ≤ hi → (((l.map fun p => p.2.length).sum : Nat) : Int) ≤ hi - lo ∧ l.length ≤ (l.map fun p => p.2.length).sum
  | [], lo, _, _, h => by simp; omega
  | p :: r, lo, hd, hm, h => by
    have h1 := hm p (List.mem_cons_self ..)
    have h2 : Pl.pend p = p.1 + (p.2.length : Int) := rfl
    obtain ⟨i1, i2⟩ := dis_sum hd.2.2 (fun q hq => hm q (List.mem_cons_of_mem _ hq)) h1
    have h3 := hd.1
    have h4 := hd.2.1
    simp only [List.map_cons, List.sum_cons, List.length_cons]
    omega
theorem tot_map (es : List En) : tot es = ((es.map En.pc).map fun p => p.2.length).sum := by
  unfold tot
  rw [List.map_map]; rfl
theorem Fam.join {w w' : World} {B : Nat} {a b : List En} (ha : Fam w B a) (hb : Below w.heap.size w w') (hB : B ≤ w.heap.size) (hbb : Fam w' w.heap.size b) : Fam w' B (a ++ b) := by
  refine ⟨fun x hx => ?_, ?_⟩
  · rcases List.mem_append.1 hx with h | h
    · exact (ha.mine x h).later hb
    · exact (hbb.mine x h).mono hB
  · unfold Parted
    rw [List.pairwise_append]
    refine ⟨ha.part, hbb.part, fun x hx y hy => ?_⟩
    rcases (hbb.mine y hy).row.at with e | ⟨g, e, hg, _⟩
    · exact .inl e
    · right
      rcases (ha.mine x hx).row.at with e' | ⟨g', e', _, hlt, _⟩
      · rw [e, e']; simp
      · rw [e, e']
        intro h'
        cases h'
        omega
/-- The receiver ahead of the bytes. -/
def endR (r : Pl.Rv) (g : Pl.Sg) : Pl.Rv := { Pl.stampR r g with fin := Pl.finI r g }
theorem stamp_s (r : Pl.Rv) (g : Pl.Sg) : (Pl.stampR r g).s = r.s ∧ (Pl.stampR r g).cap = r.cap ∧ (Pl.stampR r g).first = r.first ∧ (Pl.stampR r g).shift = r.shift ∧ (Pl.stampR r g).fin = r.fin := by unfold Pl.stampR; split <;> exact ⟨rfl, rfl, rfl, rfl, rfl⟩
theorem stamp_ok {r : Pl.Rv} {g : Pl.Sg} (h : r.Ok) : (Pl.stampR r g).Ok := by
  unfold Pl.stampR
  split
  · exact { h with }
  · exact h
theorem fin_bd {r : Pl.Rv} {g : Pl.Sg} (h : r.Ok) : -1 ≤ Pl.finI r g ∧ Pl.finI r g ≤ 562949953421312 := by
  have h1 := h.f1
  have h2 := h.ff
  obtain ⟨rr1, rr2, rr3, rr4, rr5⟩ := Pl.Ok.reach h
  obtain ⟨le1, le2⟩ := Pl.late_end h
  have h0 := h.n0
  unfold Pl.farI at *
  unfold Pl.finI
  split
  · rename_i hc
    omega
  · exact ⟨h1, h2⟩
theorem end_bound {r : Pl.Rv} {g : Pl.Sg} (h : r.Ok) : boundI (endR r g) = Pl.hiI r g := by
  have hb := fin_bd (g := g) h
  obtain ⟨e1, e2, _⟩ := stamp_s r g
  have el : (endR r g).limit = r.limit := by
    unfold Pl.Rv.limit Pl.Rv.reach endR
    simp only [e1, e2]
  have ef : (endR r g).fin = Pl.finI r g := rfl
  unfold boundI Pl.hiI
  rw [ef, el]
  by_cases hc : Pl.finI r g = -1
  · rw [if_pos hc, if_neg (by omega)]
  · rw [if_neg hc, if_pos (by omega)]
theorem end_low {r : Pl.Rv} {g : Pl.Sg} (h : r.Ok) : lowB (endR r g) := by
  obtain ⟨e1, e2, _, e4, _⟩ := stamp_s r g
  have := ok_low h
  unfold lowB at *
  show (0 ≤ (Pl.stampR r g).s.n ∧ (Pl.stampR r g).s.n ≤ 562949953421312) ∧ (1 ≤ (Pl.stampR r g).cap ∧ (Pl.stampR r g).cap ≤ 1073741824) ∧ (0 ≤ (Pl.stampR r g).shift ∧ (Pl.stampR r g).shift ≤ 14) ∧ ((Pl.stampR r g).s.u.length : Int) ≤ (Pl.stampR r g).cap ∧ ((Pl.stampR r g).s.u.length : Int) ≤ (Pl.stampR r g).s.n
  rw [e1, e2, e4]
  exact this
/-- The fresh pieces. -/
def freshL (r : Pl.Rv) (g : Pl.Sg) : List Pl.Pc := (gapsL (Pl.spansL r.s.l) (Pl.maxJ (Pl.offI r g) r.s.n) (Pl.minJ (Pl.offI r g + (g.ds.length : Int)) (Pl.hiI r g))).map (frP (Pl.offI r g) g.ds)
theorem pend_m {r : Pl.Rv} (h : r.Ok) : ∀ p ∈ r.s.l, Pl.pend p ≤ 562949953421312 := fun p hp => by
  have h1 := h.lim p hp
  have h2 := (Pl.Ok.reach h).2.2.2.2
  unfold Pl.farI at h2
  omega
theorem hi_bd {r : Pl.Rv} {g : Pl.Sg} (h : r.Ok) : Pl.hiI r g ≤ r.limit ∧ r.limit ≤ 562949953421312 := by
  have h2 := (Pl.Ok.reach h).2.2.2.2
  unfold Pl.farI at h2
  refine ⟨?_, h2⟩
  unfold Pl.hiI
  have := Pl.min_le r.limit (Pl.finI r g)
  split <;> omega
theorem fresh_fill {r : Pl.Rv} {g : Pl.Sg} (h : r.Ok) : (fillR (endR r g) (freshL r g)).s = (Pl.takeR r g).1 ∧ (freshL r g = [] ↔ (Pl.takeR r g).2 = false) := by
  obtain ⟨e1, _⟩ := stamp_s r g
  have hb := hi_bd (g := g) h
  have := fill_take (s := r.s) (ds := g.ds) (x := Pl.offI r g) (hi := Pl.hiI r g) (k := r.s.l.length + (freshL r g).length) h.lat (fun p hp => by have := pend_m h p hp; omega) (by omega) (by unfold freshL; rw [List.length_map]; exact Nat.le_refl _)
  refine ⟨?_, ?_⟩
  · show Pl.mrgGo (Pl.bothN ((Pl.stampR r g).s.l.length + (freshL r g).length) (Pl.stampR r g).s.l (freshL r g)) ⟨(Pl.stampR r g).s.n, (Pl.stampR r g).s.u, []⟩ = _
    rw [e1]
    exact this.1
  · unfold freshL
    rw [List.map_eq_nil_iff]
    exact this.2
theorem fresh_in {r : Pl.Rv} {g : Pl.Sg} (h : r.Ok) : Pl.disB r.s.n (freshL r g) ∧ ∀ p ∈ freshL r g, r.s.n ≤ p.1 ∧ Pl.pend p ≤ r.limit := by
  have hb := hi_bd (g := g) h
  have hm : ∀ p ∈ r.s.l, Pl.pend p ≤ 1125899906842624 := fun p hp => by have := pend_m h p hp; omega
  have hc := spans_chk h.lat hm
  have hin := gaps_in (s := r.s) (ds := g.ds) (x := Pl.offI r g) (hi := Pl.hiI r g) h.lat hm
  have hmx := Pl.max_ge (Pl.offI r g) r.s.n
  have hGc := gaps_chk (f := Pl.maxJ (Pl.offI r g) r.s.n) (t := Pl.minJ (Pl.offI r g + (g.ds.length : Int)) (Pl.hiI r g)) hc (by have := Pl.min_le (Pl.offI r g + (g.ds.length : Int)) (Pl.hiI r g); omega)
  refine ⟨(fresh_dis hGc (fun q hq => ⟨(hin q hq).1, (hin q hq).2.1, (hin q hq).2.2.1⟩)).mono (by omega), fun p hp => ?_⟩
  unfold freshL at hp
  obtain ⟨q, hq, rfl⟩ := List.mem_map.1 hp
  obtain ⟨i1, i2, i3, i4, i5⟩ := hin q hq
  rw [fr_pend i1 i2 i3]
  exact ⟨i4, by omega⟩
/-- First behind a segment. -/
theorem first_into {r : Pl.Rv} {g : Pl.Sg} (h : r.Ok) : turnL (Pl.takeR r g).1.l r.first (match backP (Pl.takeR r g).1.l (Pl.offI r g) (Pl.offI r g + (g.ds.length : Int)) with | none => [] | some p => [(p.1, Pl.pend p)]) = (Pl.intoR r g).first := by
  obtain ⟨t1, t2, t3, t4, t5⟩ := Pl.take_spec (ds := g.ds) (lo := r.s.n) (hi := Pl.hiI r g) (x := Pl.offI r g) (f := false) h.lat (Pl.bot_le r.s)
  have h0 := h.n0
  have t3' : r.s.n ≤ (Pl.takeR r g).1.n := t3
  symm
  show Pl.firstsL (Pl.takeR r g).1.l (Pl.headSpan (Pl.takeR r g).1.l g.ds (Pl.offI r g) :: r.first) = _
  refine turn_firsts (lo := (Pl.takeR r g).1.n) t1 (by omega) (fun a ha => ?_)
  have hm := h.fst a ha
  unfold Pl.spansL at hm
  obtain ⟨p, hp, rfl⟩ := List.mem_map.1 hm
  obtain ⟨k1, k2⟩ := lat_from h.lat p hp
  refine ⟨k2, fun hne z hz1 hz2 => ?_⟩
  have hnn : (Pl.takeR r g).1.n < p.1 := by
    by_cases hc : (Pl.takeR r g).1.n < p.1
    · exact hc
    · exact absurd (Pl.has_low (show Pl.latB (Pl.takeR r g).1.n (Pl.takeR r g).1.l from t1) (by omega)) hne
  have hzs : Pl.hasL r.s.l z ≠ none := spans_has.1 ⟨(p.1, Pl.pend p), h.fst _ ha, hz1, hz2⟩
  have hb := Pl.bot_le r.s
  have hat : r.s.at z ≠ none := by rw [Pl.at_late (by omega)]; exact hzs
  have hat2 : (Pl.takeR r g).1.at z ≠ none := by
    have := t4 z (by omega)
    show (Pl.takeGo r.s.n (Pl.hiI r g) g.ds (Pl.offI r g) r.s false).1.at z ≠ none
    rw [this]
    cases hq : r.s.at z with
    | none => exact absurd hq hat
    | some v => simp
  have hz3 : (Pl.takeR r g).1.n ≤ z := by
    have : p.1 ≤ z := hz1
    omega
  rwa [Pl.at_late hz3] at hat2
theorem into_eq {r : Pl.Rv} {g : Pl.Sg} (h : r.Ok) : Pl.intoR r g = { fillR (endR r g) (freshL r g) with dn := decide (Pl.finI r g = (fillR (endR r g) (freshL r g)).s.n), first := (Pl.intoR r g).first } := by
  have e := (fresh_fill (g := g) h).1
  unfold Pl.intoR
  unfold fillR at e ⊢
  simp only at e ⊢
  rw [e]
  rfl
/-- What accepted tells. -/
def blkL (r : Pl.Rv) (g : Pl.Sg) : List Tm := if 0 < g.ds.length ∧ 0 ≤ Pl.offI r g ∧ freshL r g = [] then (Pl.offI r g, Pl.offI r g + (g.ds.length : Int)) :: (Pl.intoR r g).first else (Pl.intoR r g).first
theorem off_bd {r : Pl.Rv} {g : Pl.Sg} (h : r.Ok) : -2147483648 ≤ Pl.offI r g ∧ Pl.offI r g ≤ 562952100904959 := by
  have h1 := h.n0
  have h2 := h.nf
  unfold Pl.farI at h2
  have := df_bd (r.s.n % 4294967296) (Pl.adI g.seq (-r.irs))
  unfold Pl.offI
  omega
end Go.Proofs.Ytdodagpkkjpdiaa
