/- IN ORDER, in plain mathematics: whatever parts of a text come, what is handed over is a beginning of it, and all of it once all has come. -/
import Derived.Test.YtdodagpkkjpdiaaRecvQ
namespace Go.Proofs.Ytdodagpkkjpdiaa.Pl
set_option linter.unusedVariables false

/-- What holds of a receiver that parts of a text came to, and of what was handed over. -/
structure Good (r : Rv) (text got : List Int) (irs : Int) : Prop where
  ok : r.Ok
  kcap : r.cap = 1000
  kstm : r.stamps = true
  krec : r.recent = 0
  kirs : r.irs = irs
  kbot : r.s.bot = (got.length : Int)
  kgl : got.length ≤ text.length
  kgot : got = text.take got.length
  kat : ∀ z v, r.s.bot ≤ z → r.s.at z = some v → z < (text.length : Int) ∧ text[z.toNat]? = some v
  kfin : r.fin = -1 ∨ r.fin = (text.length : Int)
theorem Good.below {r : Rv} {text got : List Int} {irs : Int} (h : Good r text got irs) : below r.s (text.length : Int) := fun z v hz hv => (h.kat z v hz hv).1
theorem Good.next {r : Rv} {text got : List Int} {irs : Int} (h : Good r text got irs) : r.s.n ≤ (text.length : Int) := below_next (by rw [h.kbot]; have := h.kgl; omega) h.below
theorem good_new {text : List Int} {shift irs : Int} {own : Int} {sacks : Bool} (h0 : 0 ≤ shift) (h14 : shift ≤ 14) : Good (newR 1000 shift irs own true sacks) text [] irs := by
  have hw := window_bd (r := newR 1000 shift irs own true sacks) (by show ((0 : Nat) : Int) ≤ 1000; omega)
  have hw' : 0 ≤ (newR 1000 shift irs own true sacks).edge ∧ (newR 1000 shift irs own true sacks).edge ≤ 1000 := by
    have : (newR 1000 shift irs own true sacks).edge = (newR 1000 shift irs own true sacks).window := rfl
    rw [this]
    exact ⟨hw.1, by have := hw.2; have e : (newR 1000 shift irs own true sacks).cap - (((newR 1000 shift irs own true sacks).s.u.length : Nat) : Int) = 1000 := rfl; omega⟩
  refine ⟨{ n0 := (by show (0 : Int) ≤ 0; omega), nf := (by show (0 : Int) ≤ 562949953421312; omega), c1 := (by show (1 : Int) ≤ 1000; omega), cm := (by show (1000 : Int) ≤ 1073741824; omega), s0 := h0, s14 := h14, uc := (by show ((0 : Nat) : Int) ≤ 1000; omega), un := (by show ((0 : Nat) : Int) ≤ 0; omega), f1 := (by show (-1 : Int) ≤ -1; omega), fn := (fun h => by have h' : (0 : Int) ≤ -1 := h; omega), ff := (by show (-1 : Int) ≤ 562949953421312; omega), e0 := hw'.1, er := hw'.2, lat := trivial, lim := (fun p hp => by cases hp), lfin := (fun _ p hp => by cases hp), fst := (fun a ha => by cases ha), nod := (by simp [newR]), dn := rfl, dl := fun _ => rfl }, rfl, rfl, rfl, rfl, rfl, by simp, by simp, fun z v hz hv => ?_, .inl rfl⟩
  have hz' : (0 : Int) ≤ z := hz
  have : (newR 1000 shift irs own true sacks).s.at z = none := by
    rw [at_late (show (0 : Int) ≤ z from hz')]
    rfl
  rw [this] at hv; cases hv

/-- A part of the text, as a segment. -/
structure Part (g : Sg) (text : List Int) (irs : Int) (x t : Nat) : Prop where
  seq : g.seq = adI irs (x : Int)
  xt : x ≤ t
  tl : t ≤ text.length
  small : text.length ≤ 200
  ds : g.ds = (text.take t).drop x
  fin : g.isFin = decide (t = text.length)
  st : g.stamped = true
  val : g.val = 0
theorem Part.len {g : Sg} {text : List Int} {irs : Int} {x t : Nat} (h : Part g text irs x t) : g.ds.length = t - x := by
  rw [h.ds, List.length_drop, List.length_take, Nat.min_eq_left h.tl]
theorem part_off {r : Rv} {g : Sg} {text got : List Int} {irs : Int} {x t : Nat} (h : Good r text got irs) (p : Part g text irs x t) : offI r g = (x : Int) := by
  have h1 := h.next
  have h2 := h.ok.n0
  have h3 := p.xt
  have h4 := p.tl
  have h5 := p.small
  unfold offI dfI adI
  rw [p.seq, h.kirs]
  unfold adI
  omega
theorem part_came {g : Sg} {text : List Int} {irs : Int} {x t : Nat} (p : Part g text irs x t) {lo hi z v : Int} (hz : 0 ≤ z) (hv : came lo hi (x : Int) g.ds z = some v) : z < (t : Int) ∧ text[z.toNat]? = some v := by
  have hl := p.len
  have hx := p.xt
  unfold came at hv
  split at hv
  · rename_i hc
    rw [p.ds, List.getElem?_drop] at hv
    have e : x + (z - (x : Int)).toNat = z.toNat := by omega
    rw [e, List.getElem?_take] at hv
    split at hv
    · exact ⟨by omega, hv⟩
    · cases hv
  · cases hv
theorem good_into {r : Rv} {g : Sg} {text got : List Int} {irs : Int} {x t : Nat} (h : Good r text got irs) (p : Part g text irs x t) : inR r g = tellR (intoR r g) ∧ inB r g = true ∧ Good (inR r g) text got irs ∧ (∀ z, r.s.bot ≤ z → (inR r g).s.at z = (r.s.at z).or (came r.s.n (hiI r g) (x : Int) g.ds z)) ∧ (inR r g).fin = finI r g := by
  have hx := part_off h p
  have hc2 : oldB r g = false := by
    unfold oldB
    rw [h.krec, p.val]
    simp [dfI]
  have e : inR r g = tellR (intoR r g) := by
    unfold inR
    rw [if_neg (by simp [p.st]), if_neg (by rw [hc2]; simp)]
  obtain ⟨k1, k2, k3⟩ := into_ok (g := g) h.ok
  have hbot := bot_le r.s
  obtain ⟨t1, t2, t3, t4, _⟩ := take_spec (ds := g.ds) (lo := r.s.n) (hi := hiI r g) (x := offI r g) (f := false) h.ok.lat hbot
  have hst : (stampR r g).cap = r.cap ∧ (stampR r g).stamps = r.stamps ∧ (stampR r g).recent = 0 ∧ (stampR r g).irs = r.irs := by
    unfold stampR
    split
    · exact ⟨rfl, rfl, p.val, rfl⟩
    · exact ⟨rfl, rfl, h.krec, rfl⟩
  have hat : ∀ z, r.s.bot ≤ z → (takeR r g).1.at z = (r.s.at z).or (came r.s.n (hiI r g) (x : Int) g.ds z) := fun z hz => by rw [← hx]; exact t4 z hz
  refine ⟨e, by unfold inB; simp [p.st], ?_, by rw [e]; exact hat, by rw [e]; rfl⟩
  rw [e]
  have hb0 := h.kbot
  refine ⟨(tell_ok k1).1, hst.1.trans h.kcap, hst.2.1.trans h.kstm, hst.2.2.1, hst.2.2.2.trans h.kirs, k3.trans h.kbot, h.kgl, h.kgot, fun z v hz hv => ?_, ?_⟩
  · have hz' : r.s.bot ≤ z := by rw [← k3]; exact hz
    have hv' : (takeR r g).1.at z = some v := hv
    rw [hat z hz'] at hv'
    cases ha : r.s.at z with
    | some w =>
      rw [ha] at hv'
      have := h.kat z w hz' ha
      have hw : w = v := by simpa using hv'
      rw [← hw]; exact this
    | none =>
      rw [ha] at hv'
      obtain ⟨q1, q2⟩ := part_came p (by omega) (show came r.s.n (hiI r g) (x : Int) g.ds z = some v by simpa using hv')
      have := p.tl
      exact ⟨by omega, q2⟩
  · show finI r g = -1 ∨ finI r g = (text.length : Int)
    unfold finI
    split
    · rename_i hc
      right
      have hf := hc.1
      rw [p.fin] at hf
      have ht := of_decide_eq_true hf
      have hl := p.len
      have hxt := p.xt
      rw [hx]
      omega
    · exact h.kfin
/-- What is read. -/
theorem good_read {r : Rv} {text got : List Int} {irs : Int} (h : Good r text got irs) (n : Int) : Good (readR r n) text (got ++ r.s.u.take (rdN r n)) irs := by
  have hk := cut_len r n
  obtain ⟨c1, c2, c3⟩ := cut_ok (n := n) h.ok
  obtain ⟨q1, q2, q3, q4⟩ := read_ok (n := n) h.ok
  have hf : (readR r n).cap = r.cap ∧ (readR r n).stamps = r.stamps ∧ (readR r n).recent = r.recent ∧ (readR r n).irs = r.irs ∧ (readR r n).fin = r.fin := by
    unfold readR
    split <;> exact ⟨rfl, rfl, rfl, rfl, rfl⟩
  have hb := h.kbot
  have hgl := h.kgl
  have hbn : r.s.bot = r.s.n - (r.s.u.length : Int) := rfl
  have hnx := h.next
  have hul : (r.s.u.take (rdN r n)).length = rdN r n := by rw [List.length_take]; omega
  have hcat : got ++ r.s.u.take (rdN r n) = text.take (got.length + rdN r n) := by
    apply List.ext_getElem?
    intro j
    by_cases h1 : j < got.length
    · rw [List.getElem?_append_left h1, List.getElem?_take_of_lt (by omega)]
      conv => lhs; rw [h.kgot]
      rw [List.getElem?_take_of_lt h1]
    · rw [List.getElem?_append_right (by omega)]
      by_cases h2 : j < got.length + rdN r n
      · rw [List.getElem?_take_of_lt (by omega), List.getElem?_take_of_lt h2]
        have hz1 : r.s.bot ≤ (j : Int) := by omega
        have hz2 : (j : Int) < r.s.n := by omega
        obtain ⟨v, hv⟩ := at_some hz1 hz2
        have ht := (h.kat _ v hz1 hv).2
        rw [at_un hz1 hz2] at hv
        rw [show ((j : Int) - r.s.bot).toNat = j - got.length from by omega] at hv
        rw [hv, ← ht]
        simp
      · rw [List.getElem?_eq_none (by omega), List.getElem?_eq_none (by rw [List.length_take]; omega)]
  have hlen : (got ++ r.s.u.take (rdN r n)).length = got.length + rdN r n := by rw [List.length_append, hul]
  refine ⟨q1, hf.1.trans h.kcap, hf.2.1.trans h.kstm, hf.2.2.1.trans h.krec, hf.2.2.2.1.trans h.kirs, by rw [q2, c3, hlen]; omega, by rw [hlen]; omega, by rw [hlen]; exact hcat, fun z v hz hv => ?_, by rw [hf.2.2.2.2]; exact h.kfin⟩
  rw [q2] at hz hv
  refine h.kat z v (by omega) ?_
  rw [← hv]
  rcases Int.lt_or_le z r.s.n with hl | hl
  · rw [at_un (s := r.s) (by omega) hl, at_un (s := (cutR r n).s) hz hl, c3]
    show r.s.u[(z - r.s.bot).toNat]? = (r.s.u.drop (rdN r n))[(z - (r.s.bot + (rdN r n : Int))).toNat]?
    rw [List.getElem?_drop]
    congr 1
    omega
  · rw [at_late hl, at_late (s := (cutR r n).s) hl]
    rfl
/-- All has come. -/
theorem good_all {r : Rv} {g : Sg} {text got : List Int} {irs : Int} (h : Good r text got irs) (p : Part g text irs 0 text.length) :
    (inR r g).dn = true ∧ (inR r g).s.n = (text.length : Int) ∧ got ++ (inR r g).s.u.take (rdN (inR r g) (text.length : Int)) = text ∧ (readR (inR r g) (text.length : Int)).dn = true := by
  obtain ⟨e, _, ha, hat, hfi⟩ := good_into h p
  have hx := part_off h p
  have hn := h.next
  have hgl := h.kgl
  have hb := h.kbot
  have hsm := p.small
  have hl := p.len
  have hbot := bot_le r.s
  have hlim : (text.length : Int) ≤ r.limit := by
    show (text.length : Int) ≤ minJ r.reach farI
    have hr : r.reach = r.s.bot + r.cap := rfl
    have hc := h.kcap
    unfold minJ farI; split <;> omega
  have hle : lateEnd r.s ≤ (text.length : Int) := by
    unfold lateEnd
    cases hq : r.s.l.getLast? with
    | none => exact hn
    | some q => exact below_pend h.ok.lat h.below q (List.mem_of_getLast? hq)
  have hfin : finI r g = (text.length : Int) := by
    rcases h.kfin with hf | hf
    · unfold finI
      rw [if_pos ⟨by rw [p.fin]; simp, by omega, by rw [hx]; omega, by rw [hx]; omega⟩, hx]
      omega
    · unfold finI
      rw [if_neg (fun hc => by have := hc.2.1; omega)]
      exact hf
  have hhi : hiI r g = (text.length : Int) := by
    unfold hiI
    rw [hfin, if_pos (by omega)]
    unfold minJ; split <;> omega
  have hall : ∀ z, r.s.bot ≤ z → z < (text.length : Int) → (inR r g).s.at z ≠ none := fun z hz1 hz2 hnn => by
    rw [hat z hz1, hhi] at hnn
    cases hv : r.s.at z with
    | some v => rw [hv] at hnn; simp at hnn
    | none =>
      rw [hv] at hnn
      have hzn := (at_none_iff hz1).1 hv
      have hcm : came r.s.n (text.length : Int) ((0 : Nat) : Int) g.ds z = none := by simpa using hnn
      unfold came at hcm
      rw [if_pos ⟨hzn.1, hz2, by omega, by omega⟩] at hcm
      have : (z - ((0 : Nat) : Int)).toNat < g.ds.length := by omega
      rw [List.getElem?_eq_getElem this] at hcm
      cases hcm
  have hbe : (inR r g).s.bot = r.s.bot := by rw [ha.kbot, h.kbot]
  have hn2 : (inR r g).s.n = (text.length : Int) := by
    have h1 := ha.next
    have h2 := bot_le (inR r g).s
    rcases Int.lt_or_le (inR r g).s.n (text.length : Int) with hlt | hge
    · exact absurd (at_next ha.ok.lat) (hall _ (by omega) hlt)
    · omega
  have hdn : (inR r g).dn = true := by
    rw [ha.ok.dn, hfi, hfin, hn2]
    simp
  refine ⟨hdn, hn2, ?_, ?_⟩
  · have hg := good_read ha (text.length : Int)
    have hrd : rdN (inR r g) (text.length : Int) = (inR r g).s.u.length := by
      have hbn : (inR r g).s.bot = (inR r g).s.n - ((inR r g).s.u.length : Int) := rfl
      unfold rdN minJ maxJ
      split <;> split <;> omega
    have hgot := hg.kgot
    have hlen : (got ++ (inR r g).s.u.take (rdN (inR r g) (text.length : Int))).length = text.length := by
      have hbn : (inR r g).s.bot = (inR r g).s.n - ((inR r g).s.u.length : Int) := rfl
      rw [List.length_append, List.length_take, hrd, Nat.min_self]
      omega
    rw [hlen, List.take_length] at hgot
    exact hgot
  · have : (readR (inR r g) (text.length : Int)).dn = (inR r g).dn := by unfold readR; split <;> rfl
    rw [this]; exact hdn
end Go.Proofs.Ytdodagpkkjpdiaa.Pl
