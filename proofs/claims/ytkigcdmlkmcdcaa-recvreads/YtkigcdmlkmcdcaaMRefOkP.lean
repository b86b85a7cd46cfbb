/- The document's Check in plain words: what it finds right is what may be. -/
import Derived.Test.YtkigcdmlkmcdcaaZ
import Derived.Test.YtkigcdmlkmcdcaaGJ
namespace Go.Proofs.Ytkigcdmlkmcdcaa
open Go.ChangeShapes Go.WideShapes Go.ChangeAt Go.RowKit
set_option linter.unusedVariables false
set_option linter.unusedSimpArgs false

def bad3 (r : Pl.Rv) : Bool := decide (r.fin < -1 ∨ (0 ≤ r.fin ∧ r.fin < r.s.n) ∨ 562949953421312 < r.fin ∨ r.edge < 0 ∨ r.reach < r.edge)
def badL (r : Pl.Rv) (last f : Int) (m : Nat) : Bool := decide ((m : Int) < 1) || decide (f ≤ last) || decide (r.limit - (m : Int) < f) || (decide (0 ≤ r.fin) && decide (r.fin - (m : Int) < f))
def zb9 (r : Pl.Rv) : Int → List Pl.Pc → Bool
 | _, [] => true
 | last, p :: q => !(badL r last p.1 p.2.length) && zb9 r (Pl.pend p) q
theorem badL_iff {r : Pl.Rv} {last f : Int} {m : Nat} : badL r last f m = false ↔ 1 ≤ m ∧ last < f ∧ f + (m : Int) ≤ r.limit ∧ (0 ≤ r.fin → f + (m : Int) ≤ r.fin) := by
 unfold badL
 simp only [Bool.or_eq_false_iff, Bool.and_eq_false_iff, decide_eq_false_iff_not]
 omega
theorem zee {r : Pl.Rv} : ∀ {l : List Pl.Pc} {last : Int}, zb9 r last l = true ↔ Pl.latB last l ∧ (∀ p ∈ l, Pl.pend p ≤ r.limit) ∧ (0 ≤ r.fin → ∀ p ∈ l, Pl.pend p ≤ r.fin)
 | [], last => by simp [zb9, Pl.latB]
 | p :: q, last => by
  have ep : Pl.pend p = p.1 + (p.2.length : Int) := rfl
  have hl : Pl.latB last (p :: q) ↔ (last < p.1 ∧ 0 < p.2.length ∧ Pl.latB (Pl.pend p) q) := Iff.rfl
  unfold zb9
  simp only [Bool.and_eq_true, Bool.not_eq_true', badL_iff, zee (l := q), hl, List.forall_mem_cons]
  constructor
  · rintro ⟨⟨h1, h2, h3, h4⟩, h5, h6, h7⟩
    exact ⟨⟨h2, by omega, h5⟩, ⟨by omega, h6⟩, fun hf => ⟨by have := h4 hf; omega, h7 hf⟩⟩
  · rintro ⟨⟨h1, h2, h3⟩, ⟨h4, h5⟩, h6⟩
    exact ⟨⟨by omega, h1, by omega, fun hf => by have := (h6 hf).1; omega⟩, h3, h5, fun hf => (h6 hf).2⟩
def fsGo (sp : List Tm) : List Tm → List Tm → Bool
 | _, [] => true
 | seen, x :: q => !(!(decide (x ∈ sp)) || decide (x ∈ seen)) && fsGo sp (seen ++ [x]) q
theorem fsGo_iff {sp : List Tm} : ∀ {l seen : List Tm}, fsGo sp seen l = true ↔ (∀ x ∈ l, x ∈ sp) ∧ l.Nodup ∧ ∀ x ∈ l, x ∉ seen
 | [], seen => by simp [fsGo]
 | x :: q, seen => by
  unfold fsGo
  simp only [Bool.and_eq_true, Bool.not_eq_true', Bool.or_eq_false_iff, Bool.not_eq_false', decide_eq_true_eq, decide_eq_false_iff_not, fsGo_iff (l := q), List.forall_mem_cons, List.nodup_cons]
  constructor
  · rintro ⟨⟨h1, h2⟩, h3, h4, h5⟩
    exact ⟨⟨h1, h3⟩, ⟨fun hx => h5 x hx (by simp), h4⟩, h2, fun y hy hs => h5 y hy (List.mem_append.2 (.inl hs))⟩
  · rintro ⟨⟨h1, h3⟩, ⟨h6, h4⟩, h2, h5⟩
    refine ⟨⟨h1, h2⟩, h3, h4, fun y hy hs => ?_⟩
    rcases List.mem_append.1 hs with h | h
    · exact h5 y hy h
    · have : y = x := by simpa using h
      exact h6 (this ▸ hy)
def zdk (r : Pl.Rv) : Bool := lowBb r && !(bad3 r) && zb9 r r.s.n r.s.l && fsGo (Pl.spansL r.s.l) [] r.first && (r.dn == (r.fin == r.s.n)) && !(r.dn && decide (0 < r.s.l.length))
theorem zeb {r : Pl.Rv} : zdk r = true ↔ r.Ok := by
 unfold zdk
 simp only [Bool.and_eq_true, Bool.not_eq_true', zc6, zee, fsGo_iff, beq_iff_eq]
 constructor
 · rintro ⟨⟨⟨⟨⟨hlow, h3⟩, hl1, hl2, hl3⟩, hf1, hf2, _⟩, hdn⟩, hdl⟩
   obtain ⟨⟨a1, a2⟩, ⟨a3, a4⟩, ⟨a5, a6⟩, a7, a8⟩ := hlow
   have h3' := of_decide_eq_false h3
   have hdn' : r.dn = decide (r.fin = r.s.n) := by rw [hdn, Bool.eq_iff_iff]; simp
   exact { n0 := a1, nf := a2, c1 := a3, cm := a4, s0 := a5, s14 := a6, uc := a7, un := a8, f1 := (by omega), fn := (fun hc => by omega), ff := (by unfold Pl.farI; omega), e0 := (by omega), er := (by omega), lat := hl1, lim := hl2, lfin := hl3, fst := hf1, nod := hf2, dn := hdn', dl := (fun hd => by
    rw [hd] at hdl
    simp at hdl
    exact hdl) }
 · intro ho
   have h1 := ho.ff
   unfold Pl.farI at h1
   have h2 := ho.f1
   have h3 := ho.fn
   have h4 := ho.e0
   have h5 := ho.er
   refine ⟨⟨⟨⟨⟨⟨⟨ho.n0, ho.nf⟩, ⟨ho.c1, ho.cm⟩, ⟨ho.s0, ho.s14⟩, ho.uc, ho.un⟩, ?_⟩, ho.lat, ho.lim, ho.lfin⟩, ho.fst, ho.nod, fun x _ hx => by cases hx⟩, ?_⟩, ?_⟩
   · apply decide_eq_false
     rintro (h | ⟨h, h'⟩ | h | h | h)
     · omega
     · have := h3 h; omega
     · omega
     · omega
     · omega
   · rw [ho.dn, Bool.eq_iff_iff]; simp
   · cases hd : r.dn with
     | false => rfl
     | true => simp [ho.dl hd]
end Go.Proofs.Ytkigcdmlkmcdcaa

