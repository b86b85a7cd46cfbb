/- What Check finds right is what may be. -/
import Derived.Test.YtdodagpkkjpdiaaLateB
import Derived.Test.YtdodagpkkjpdiaaFirstB
import Derived.Test.YtdodagpkkjpdiaaNumD
namespace Go.Proofs.Ytdodagpkkjpdiaa
open Go.ChangeShapes Go.WideShapes Go.ChangeAt Go.RowKit
set_option linter.unusedVariables false
set_option linter.unusedSimpArgs false

/-- What Check finds right. -/
def okB (r : Pl.Rv) (es : List En) : Bool := numB r && lateB r es && fstGo r.s.l r.first []

/-! ### It is P8.1 -/
theorem chk_lat : ∀ {es : List En} {lo : Int}, 0 ≤ lo + 1 → (∀ x ∈ es, I64 x.f ∧ x.bs.length ≤ 140737488351232) → (chk lo (spnsW es) = true ↔ Pl.latB lo (es.map En.pc) ∧ ∀ p ∈ es.map En.pc, Pl.pend p ≤ 1125899906842624)
  | [], lo, _, _ => by simp [spnsW, chk, Pl.latB]
  | x :: r, lo, h0, hx => by
    have hxx := hx x (List.mem_cons_self ..)
    have e : spnsW (x :: r) = spW x :: spnsW r := rfl
    have e2 : (x :: r).map En.pc = x.pc :: r.map En.pc := rfl
    have ep : Pl.pend x.pc = x.f + (x.bs.length : Int) := rfl
    rw [e, e2, chk_cons]
    show (lo < x.f ∧ x.f < wrap64 (x.f + (x.bs.length : Int)) ∧ wrap64 (x.f + (x.bs.length : Int)) ≤ 1125899906842624) ∧ chk (wrap64 (x.f + (x.bs.length : Int))) (spnsW r) = true ↔ (lo < x.f ∧ 0 < x.bs.length ∧ Pl.latB (Pl.pend x.pc) (r.map En.pc)) ∧ ∀ p ∈ x.pc :: r.map En.pc, Pl.pend p ≤ 1125899906842624
    unfold I64 at hxx
    by_cases hw : x.f + (x.bs.length : Int) ≤ 9223372036854775807
    · rw [wrap64_id (by omega) hw]
      constructor
      · rintro ⟨⟨h1, h2, h3⟩, h4⟩
        have ih := (chk_lat (es := r) (lo := x.f + (x.bs.length : Int)) (by omega) (fun y hy => hx y (List.mem_cons_of_mem _ hy))).1 h4
        refine ⟨⟨h1, by omega, ih.1⟩, fun p hp => ?_⟩
        rcases List.mem_cons.1 hp with rfl | hp
        · rw [ep]; exact h3
        · exact ih.2 p hp
      · rintro ⟨⟨h1, h2, h3⟩, h4⟩
        have h5 := h4 x.pc (List.mem_cons_self ..)
        rw [ep] at h5
        refine ⟨⟨h1, by omega, h5⟩, (chk_lat (es := r) (lo := x.f + (x.bs.length : Int)) (by omega) (fun y hy => hx y (List.mem_cons_of_mem _ hy))).2 ⟨h3, fun p hp => h4 p (List.mem_cons_of_mem _ hp)⟩⟩
    · have hneg : wrap64 (x.f + (x.bs.length : Int)) < x.f := by unfold wrap64; omega
      constructor
      · rintro ⟨⟨h1, h2, h3⟩, h4⟩; omega
      · rintro ⟨⟨h1, h2, h3⟩, h4⟩
        have h5 := h4 x.pc (List.mem_cons_self ..)
        rw [ep] at h5
        omega
theorem lat_last : ∀ {l : List Pl.Pc} {lo : Int} {q : Pl.Pc}, Pl.latB lo l → l.getLast? = some q → ∀ p ∈ l, Pl.pend p ≤ Pl.pend q
  | [], _, _, _, h, _, _ => by cases h
  | a :: r, lo, q, hl, h, p, hp => by
    cases r with
    | nil =>
      simp at h hp
      rw [hp, h]; exact Int.le_refl _
    | cons b s =>
      have h' : (b :: s).getLast? = some q := by rw [List.getLast?_cons_cons] at h; exact h
      rcases List.mem_cons.1 hp with rfl | hp
      · have hb := lat_last hl.2.2 h' b (List.mem_cons_self ..)
        have := hl.2.2.1
        have := Pl.pend_lt hl.2.2.2.1
        omega
      · exact lat_last hl.2.2 h' p hp
theorem spans_get {l : List Pl.Pc} {i : Nat} {p : Pl.Pc} (h : l[i]? = some p) : (p.1, Pl.pend p) ∈ Pl.spansL l := List.mem_map.2 ⟨p, List.mem_of_getElem? h, rfl⟩
theorem hix_at {l : List Pl.Pc} {lo : Int} {i : Nat} {p : Pl.Pc} {x : Int} (h : Pl.latB lo l) (hp : l[i]? = some p) (h1 : p.1 ≤ x) (h2 : x < Pl.pend p) : hix l x = i ∧ hfd l x = true := by
  have hA : ¬ i < hix l x := fun hc => by have := (hix_iff (x := x) h hp).2 hc; omega
  have hi : hix l x = i := by
    rcases Nat.lt_or_ge (hix l x) i with hlt | hge
    · exfalso
      have hll : hix l x < l.length := by have := (List.getElem?_eq_some_iff.1 hp).1; omega
      have hq : l[hix l x]? = some l[hix l x] := List.getElem?_eq_getElem hll
      have hn : ¬ Pl.pend l[hix l x] ≤ x := fun hc => by have := (hix_iff (x := x) h hq).1 hc; omega
      have hlt2 : Pl.pend l[hix l x] ≤ p.1 := by
        have key : ∀ {l : List Pl.Pc} {lo : Int} {j i : Nat} {q p : Pl.Pc}, Pl.latB lo l → l[j]? = some q → l[i]? = some p → j < i → Pl.pend q < p.1 := by
          intro l
          induction l with
          | nil => intro lo j i q p _ hq; simp at hq
          | cons a r ih =>
            intro lo j i q p hl hq hp hji
            cases i with
            | zero => omega
            | succ i =>
              cases j with
              | zero =>
                simp at hq hp
                subst hq
                have := lat_from hl.2.2 p (List.mem_of_getElem? hp)
                exact this.1
              | succ j => exact ih hl.2.2 (by simpa using hq) (by simpa using hp) (by omega)
        have := key h hq hp hlt
        omega
      omega
    · omega
  refine ⟨hi, ?_⟩
  unfold hfd
  rw [hi, hp]
  simpa using h1
theorem hfd_get {l : List Pl.Pc} {lo : Int} {x : Int} (h : Pl.latB lo l) (hf : hfd l x = true) : ∃ p, l[hix l x]? = some p ∧ p.1 ≤ x ∧ x < Pl.pend p := by
  unfold hfd at hf
  cases hp : l[hix l x]? with
  | none => rw [hp] at hf; simp at hf
  | some p =>
    rw [hp] at hf
    have h1 : p.1 ≤ x := by simpa using hf
    refine ⟨p, rfl, h1, ?_⟩
    rcases Int.lt_or_le x (Pl.pend p) with h2 | h2
    · exact h2
    · have := (hix_iff (x := x) h hp).1 h2; omega
theorem fst_iff {l : List Pl.Pc} {lo : Int} (h : Pl.latB lo l) : ∀ {al : List Tm} {seen : List Nat}, (fstGo l al seen = true ↔ (∀ a ∈ al, a ∈ Pl.spansL l) ∧ al.Nodup ∧ ∀ a ∈ al, hix l a.1 ∉ seen)
  | [], seen => by simp [fstGo]
  | a :: r, seen => by
    rw [fstGo]
    simp only [Bool.and_eq_true, Bool.not_eq_true', decide_eq_false_iff_not, decide_eq_true_iff]
    rw [fst_iff h (al := r)]
    constructor
    · rintro ⟨⟨⟨h1, h2⟩, h3⟩, h4, h5, h6⟩
      obtain ⟨p, hp, hp1, hp2⟩ := hfd_get h h1
      rw [hp] at h3
      have ha : a = (p.1, Pl.pend p) := by simpa using h3.symm
      refine ⟨fun b hb => ?_, ?_, fun b hb => ?_⟩
      · rcases List.mem_cons.1 hb with rfl | hb
        · rw [ha]; exact spans_get hp
        · exact h4 b hb
      · refine List.nodup_cons.2 ⟨fun hc => ?_, h5⟩
        exact h6 a hc (List.mem_cons_self ..)
      · rcases List.mem_cons.1 hb with rfl | hb
        · exact h2
        · exact fun hc => h6 b hb (List.mem_cons_of_mem _ hc)
    · rintro ⟨h1, h2, h3⟩
      obtain ⟨p, hp, ha⟩ := List.mem_map.1 (h1 a (List.mem_cons_self ..))
      obtain ⟨i, hi, hpi⟩ := List.getElem_of_mem hp
      have hpi' : l[i]? = some p := by rw [List.getElem?_eq_getElem hi, hpi]
      have hpp := lat_from h p hp
      have ha1 : a.1 = p.1 := by rw [← ha]
      obtain ⟨k1, k2⟩ := hix_at h hpi' (show p.1 ≤ a.1 by omega) (by omega)
      obtain ⟨n1, n2⟩ := List.nodup_cons.1 h2
      refine ⟨⟨⟨k2, h3 a (List.mem_cons_self ..)⟩, ?_⟩, fun b hb => h1 b (List.mem_cons_of_mem _ hb), n2, fun b hb hc => ?_⟩
      · rw [k1, hpi']; simp [ha]
      · rcases List.mem_cons.1 hc with hc | hc
        · obtain ⟨q, hq, hb'⟩ := List.mem_map.1 (h1 b (List.mem_cons_of_mem _ hb))
          obtain ⟨j, hj, hqj⟩ := List.getElem_of_mem hq
          have hqj' : l[j]? = some q := by rw [List.getElem?_eq_getElem hj, hqj]
          have hqq := lat_from h q hq
          have hb1 : b.1 = q.1 := by rw [← hb']
          obtain ⟨m1, _⟩ := hix_at h hqj' (show q.1 ≤ b.1 by omega) (by omega)
          rw [k1, m1] at hc
          subst hc
          rw [hpi'] at hqj'
          have : p = q := Option.some.inj hqj'
          rw [← hb', ← this, ha] at hb
          exact n1 hb
        · exact h3 b (List.mem_cons_of_mem _ hb) hc
theorem okB_iff {w : World} {r : Pl.Rv} {h : Hd} (H : RvAt w r h) : okB r h.es = true ↔ r.Ok := by
  have hxs : ∀ x ∈ h.es, I64 x.f ∧ x.bs.length ≤ 140737488351232 := fun x hx => ⟨(H.late.ok x hx).2, (H.late.ok x hx).1.1.1⟩
  have hchk := chk_lat (es := h.es) (lo := -1) (by omega) hxs
  rw [H.les] at hchk
  have hlen := H.len
  unfold okB numB lateB
  simp only [Bool.and_eq_true, Bool.or_eq_true, lowBb_iff, decide_eq_true_iff, hchk, beq_iff_eq]
  have hsp : ∀ i p, r.s.l[i]? = some p → ((spnsW h.es)[i]?.getD ((0, 0) : Tm)).1 = p.1 ∧ (p.1 + (p.2.length : Int) ≤ 9223372036854775807 → ((spnsW h.es)[i]?.getD ((0, 0) : Tm)).2 = Pl.pend p) := fun i p hp => by
    rw [← H.les, List.getElem?_map] at hp
    cases hx : h.es[i]? with
    | none => rw [hx] at hp; cases hp
    | some x =>
      rw [hx] at hp
      have hpx : x.pc = p := by simpa using hp
      have e : (spnsW h.es)[i]?.getD (0, 0) = spW x := by unfold spnsW; rw [List.getElem?_map, hx]; rfl
      rw [e, ← hpx]
      have hb := (hxs x (List.mem_of_getElem? hx)).1
      unfold I64 at hb
      refine ⟨rfl, fun hle => ?_⟩
      show wrap64 (x.f + (x.bs.length : Int)) = x.f + (x.bs.length : Int)
      exact wrap64_id (by omega) hle
  constructor
  · rintro ⟨⟨⟨⟨⟨⟨hlow, hfin⟩, he0⟩, her⟩, hdn⟩, ⟨hlat, hbd⟩, hlast⟩, hfst⟩
    obtain ⟨⟨a1, a2⟩, ⟨a3, a4⟩, ⟨a5, a6⟩, a7, a8⟩ := hlow
    have hfin' : r.fin = -1 ∨ (r.s.n ≤ r.fin ∧ r.fin ≤ 562949953421312) := by
      unfold finB at hfin
      simpa using hfin
    have hlatn : Pl.latB r.s.n r.s.l ∧ ∀ p ∈ r.s.l, Pl.pend p ≤ boundI r := by
      cases hl : r.s.l with
      | nil => exact ⟨trivial, fun p hp => by cases hp⟩
      | cons p rest =>
        have hne : h.es.length ≠ 0 := by rw [← hlen, hl]; simp
        rcases hlast with hlast | ⟨hf, ht⟩
        · exact absurd hlast hne
        · have h0 := (hsp 0 p (by rw [hl]; rfl)).1
          rw [h0] at hf
          rw [hl] at hlat
          refine ⟨⟨hf, hlat.2⟩, fun q hq => ?_⟩
          obtain ⟨z, hz⟩ : ∃ z, r.s.l.getLast? = some z := by rw [hl]; exact ⟨_, List.getLast?_eq_some_getLast (by simp)⟩
          have hz2 := hz
          rw [List.getLast?_eq_getElem?, hlen] at hz2
          have hzm : z ∈ r.s.l := List.mem_of_getLast? hz
          have hzb := hbd z hzm
          have hzl := (hsp _ z hz2).2 (by have : Pl.pend z = z.1 + (z.2.length : Int) := rfl; omega)
          rw [hzl] at ht
          have hla : Pl.latB (-1) r.s.l := by rw [hl]; exact hlat
          have := lat_last hla hz q (by rw [hl]; exact hq)
          omega
    have hbnd : boundI r ≤ r.limit ∧ (0 ≤ r.fin → boundI r ≤ r.fin) := by
      unfold boundI
      obtain ⟨m1, m2, _⟩ := Pl.min_le r.limit r.fin
      split
      · exact ⟨Int.le_refl _, fun hc => by omega⟩
      · exact ⟨m1, fun _ => m2⟩
    have hf := (fst_iff hlatn.1).1 hfst
    have hdn' : r.dn = decide (r.fin = r.s.n) := by rw [hdn, Bool.eq_iff_iff]; simp
    exact { n0 := a1, nf := a2, c1 := a3, cm := a4, s0 := a5, s14 := a6, uc := a7, un := a8, f1 := (by omega), fn := (fun hc => by omega), ff := (by unfold Pl.farI; omega), e0 := he0, er := her, lat := hlatn.1, lim := (fun p hp => by have := hlatn.2 p hp; omega), lfin := (fun hc p hp => by have := hlatn.2 p hp; have := hbnd.2 hc; omega), fst := hf.1, nod := hf.2.1, dn := hdn', dl := (fun hd => by
      rw [hdn'] at hd
      have hd' : r.fin = r.s.n := by simpa using hd
      cases hl : r.s.l with
      | nil => rfl
      | cons p rest =>
        exfalso
        have hp : p ∈ r.s.l := by rw [hl]; exact List.mem_cons_self ..
        have h1 := lat_from hlatn.1 p hp
        have h2 := hlatn.2 p hp
        have h3 := hbnd.2 (by omega)
        omega) }
  · intro ho
    have hlim := (Pl.Ok.reach ho).2.2.2.2
    unfold Pl.farI at hlim
    have hbnd : ∀ p ∈ r.s.l, Pl.pend p ≤ boundI r := fun p hp => by
      unfold boundI
      have h1 := ho.lim p hp
      split
      · exact h1
      · rename_i hc
        have := ho.lfin (by have := ho.f1; omega) p hp
        unfold Pl.minJ; split <;> omega
    have hff := ho.ff
    unfold Pl.farI at hff
    refine ⟨⟨⟨⟨⟨⟨⟨⟨ho.n0, ho.nf⟩, ⟨ho.c1, ho.cm⟩, ⟨ho.s0, ho.s14⟩, ho.uc, ho.un⟩, ?_⟩, ho.e0⟩, ho.er⟩, ?_⟩, ⟨?_, fun p hp => by have := ho.lim p hp; omega⟩, ?_⟩, (fst_iff ho.lat).2 ⟨ho.fst, ho.nod, fun a _ hc => by cases hc⟩⟩
    · unfold finB
      simp only [Bool.or_eq_true, Bool.and_eq_true, decide_eq_true_iff]
      have := ho.f1
      by_cases hc : r.fin = -1
      · exact .inl hc
      · exact .inr ⟨ho.fn (by omega), hff⟩
    · rw [ho.dn, Bool.eq_iff_iff]; simp
    · exact ho.lat.mono (by have := ho.n0; omega)
    · by_cases hc : h.es.length = 0
      · exact .inl hc
      · right
        have hpos : 0 < r.s.l.length := by omega
        have h0 : r.s.l[0]? = some r.s.l[0] := List.getElem?_eq_getElem hpos
        have hl1 : r.s.l[h.es.length - 1]? = some r.s.l[h.es.length - 1] := List.getElem?_eq_getElem (by omega)
        have g0 := (hsp 0 _ h0).1
        have hb1 := ho.lim _ (List.mem_of_getElem? hl1)
        have g1 := (hsp _ _ hl1).2 (by have : Pl.pend r.s.l[h.es.length - 1] = r.s.l[h.es.length - 1].1 + (r.s.l[h.es.length - 1].2.length : Int) := rfl; omega)
        rw [g0, g1]
        exact ⟨(lat_from ho.lat _ (List.mem_of_getElem? h0)).1, hbnd _ (List.mem_of_getElem? hl1)⟩
end Go.Proofs.Ytdodagpkkjpdiaa
