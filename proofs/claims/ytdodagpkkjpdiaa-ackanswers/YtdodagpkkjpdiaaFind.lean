/- The contract of holder: which piece has an offset. -/
import Derived.Test.YtdodagpkkjpdiaaHold
namespace Go.Proofs.Ytdodagpkkjpdiaa
open Go.ChangeShapes Go.WideShapes Go.ChangeAt Go.RowKit
set_option linter.unusedVariables false
set_option linter.unusedSimpArgs false

/-- How many pieces end at an offset or ahead of it. -/
def hix : List Pl.Pc → Int → Nat
  | [], _ => 0
  | p :: r, x => if Pl.pend p ≤ x then hix r x + 1 else 0
def hfd (l : List Pl.Pc) (x : Int) : Bool := match l[hix l x]? with | none => false | some p => decide (p.1 ≤ x)
theorem hix_le : ∀ (l : List Pl.Pc) (x : Int), hix l x ≤ l.length
  | [], _ => Nat.le_refl _
  | p :: r, x => by
    unfold hix
    split
    · have := hix_le r x; simp; omega
    · simp
theorem hix_low : ∀ {l : List Pl.Pc} {lo x : Int}, Pl.latB lo l → x ≤ lo → hix l x = 0
  | [], _, _, _, _ => rfl
  | p :: r, lo, x, h, hx => by
    have := Pl.pend_lt h.2.1
    have := h.1
    unfold hix
    rw [if_neg (by omega)]
theorem hix_iff : ∀ {l : List Pl.Pc} {lo x : Int} {j : Nat} {p : Pl.Pc}, Pl.latB lo l → l[j]? = some p → (Pl.pend p ≤ x ↔ j < hix l x)
  | [], _, _, _, _, _, h => by simp at h
  | q :: r, lo, x, 0, p, h, hp => by
    simp at hp; subst hp
    unfold hix
    split <;> simp_all
  | q :: r, lo, x, j + 1, p, h, hp => by
    have ih := hix_iff (x := x) h.2.2 (show r[j]? = some p by simpa using hp)
    unfold hix
    by_cases hq : Pl.pend q ≤ x
    · rw [if_pos hq]; omega
    · rw [if_neg hq]
      have := hix_low h.2.2 (show x ≤ Pl.pend q by omega)
      omega
/-- Pieces that may be, within the bounds of offsets. -/
def Fits (l : List Pl.Pc) : Prop := ∃ lo, 0 ≤ lo ∧ Pl.latB lo l ∧ ∀ p ∈ l, Pl.pend p ≤ 562949953421312
theorem lat_from : ∀ {l : List Pl.Pc} {lo : Int}, Pl.latB lo l → ∀ p ∈ l, lo < p.1 ∧ p.1 < Pl.pend p
  | [], _, _, p, hp => by cases hp
  | q :: r, lo, h, p, hp => by
    have k := Pl.pend_lt h.2.1
    have := h.1
    rcases List.mem_cons.1 hp with rfl | hp
    · exact ⟨by omega, k⟩
    · have := lat_from h.2.2 p hp
      exact ⟨by omega, this.2⟩
theorem Fits.bd {l : List Pl.Pc} (h : Fits l) {p : Pl.Pc} (hp : p ∈ l) : 0 < p.1 ∧ p.1 < Pl.pend p ∧ Pl.pend p ≤ 562949953421312 := by
  obtain ⟨lo, h0, h1, h2⟩ := h
  have := lat_from h1 p hp
  have := h2 p hp
  omega
theorem spW_fit {x : En} (h : 0 < x.f ∧ x.f < Pl.pend x.pc ∧ Pl.pend x.pc ≤ 562949953421312) : wrap64 (x.f + (x.bs.length : Int)) = Pl.pend x.pc := by
  have e : Pl.pend x.pc = x.f + (x.bs.length : Int) := rfl
  rw [← e]
  exact wrap64_id (by omega) (by omega)

def cmpI (f t x : Int) : Int := if t ≤ x then -1 else if x < f then 1 else 0
set_option maxRecDepth 100000 in
set_option maxHeartbeats 4000000 in
theorem cmp_walk (f : Int) (a : Option Addr) (n c : Nat) (x : Int) (w : World) (t : Int) (ht : wrap64 (f + (n : Int)) = t) :
    Calls Try.prog 75 #[.agg #[.int .i64 f, .slice a n c], .int .i64 x] w fun e w' => e = .returned (.int .i64 (cmpI f t x)) ∧ Below w.heap.size w w' := by
  have cS := fun W => spanOf_walk f a n c W t ht
  have hb0 : Below w.heap.size w (w.alloc (.cells #[.int .i64 f, .slice a n c] 53)) := below_more (Below.refl _ _) _
  have HB : Hid (Below w.heap.size w (w.alloc (.cells #[.int .i64 f, .slice a n c] 53))) := hb0
  clear ht hb0
  go_enter Try.func75, Try.ntmps75
  go_wp2_with fail
  refine (cS _).mono ?_
  rintro e w1 ⟨rfl, hb⟩
  have HB1 : Hid (Below w.heap.size w w1) := Below.on HB.out hb
  clear hb
  go_wp2_with fail
  all_goals go_ret
  all_goals (refine ⟨ret_int ?_, below_more HB1.out _⟩; unfold cmpI; first | (rw [if_pos (by omega)]) | (rw [if_neg (by omega), if_pos (by omega)]) | (rw [if_neg (by omega), if_neg (by omega)]))

set_option maxRecDepth 100000 in
set_option maxHeartbeats 4000000 in
theorem search_any (A : Option Addr) (c : Nat) (es : List En) (x : Int) (w : World) (hP : PcsAt w A c es) (hF : Fits (es.map En.pc)) :
    Calls Try.prog 74 #[.slice A es.length c, .int .i64 x, .func (.func 75) #[] #[]] w fun e w' => e = .returned (.tuple #[.int .i64 (hix (es.map En.pc) x), .bool (hfd (es.map En.pc) x)]) ∧ Below w.heap.size w w' := by
  have hr := hP.reach
  have HD : Hid (PcsAt w A c es) := hP
  have HF : Hid (Fits (es.map En.pc)) := hF
  obtain ⟨lo, _, hlat, _⟩ := hF
  have HL : Hid (Pl.latB lo (es.map En.pc)) := hlat
  have hle := hix_le (es.map En.pc) x
  rw [List.length_map] at hle
  obtain ⟨n, hn⟩ : ∃ n, es.length = n := ⟨_, rfl⟩
  have HN : Hid (es.length = n) := hn
  obtain ⟨X, hX⟩ : ∃ X, hix (es.map En.pc) x = X := ⟨_, rfl⟩
  have HX : Hid (hix (es.map En.pc) x = X) := hX
  rw [hX, hn] at hle
  rw [hn] at hr
  rw [hX, hn]
  have cC := fun (y : En) W (t : Int) ht => cmp_walk y.f y.a y.bs.length y.c x W t ht
  clear hP hlat hn hX
  go_enter Try.func74, Try.ntmps74
  go_wp2_with fail
  go_loopw [9, 10] (fun vi vj wr => ∃ (i j : Nat), vi = .int .i64 i ∧ vj = .int .i64 j ∧ i ≤ X ∧ X ≤ j ∧ j ≤ n ∧ Hid (Below w.heap.size w wr))
    (fun vi vj _ => (intOf vj).toNat - (intOf vi).toNat)
  case atStart => exact ⟨0, n, rfl, rfl, Nat.zero_le _, hle, Nat.le_refl _, Below.refl _ _⟩
  case round =>
    obtain ⟨i, j, rfl, rfl, h1, h2, h3, HB⟩ := hrel
    by_cases hlt : i < j
    · obtain ⟨m, hm⟩ : ∃ m, (i + j) / 2 = m := ⟨_, rfl⟩
      have hm1 : i ≤ m ∧ m < j := by omega
      have hme : ((i : Int) + (j : Int)) / 2 = (m : Int) := by omega
      obtain ⟨b, o, y, rfl, hy, hok, hc0, hc1⟩ := (HD.out.later HB.out).get m (by rw [HN.out]; omega)
      have hmem : y.pc ∈ es.map En.pc := List.mem_map.2 ⟨y, List.mem_of_getElem? hy, rfl⟩
      have hfit := spW_fit (HF.out.bd hmem)
      have hiff := hix_iff (x := x) HL.out (show (es.map En.pc)[m]? = some y.pc by rw [List.getElem?_map, hy]; rfl)
      rw [HX.out] at hiff
      have c1 := fun W => cC y W _ hfit
      obtain ⟨t, ht⟩ : ∃ t, Pl.pend y.pc = t := ⟨_, rfl⟩
      rw [ht] at hiff c1
      have hcm : (cmpI y.f t x < 0) ↔ t ≤ x := by unfold cmpI; split <;> (try split) <;> omega
      obtain ⟨cm, hcme⟩ : ∃ cm, cmpI y.f t x = cm := ⟨_, rfl⟩
      rw [hcme] at c1 hcm
      clear hok hmem hfit ht hy hm hcme
      by_cases hc : t ≤ x
      · have hneg := hcm.2 hc
        have hXm := hiff.1 hc
        clear hcm hiff hc
        go_wp2_with (go_at_call 75; refine (c1 _).mono ?_; rintro e w1 ⟨rfl, hb⟩)
        go_roundw
        case rel => exact ⟨m + 1, j, by go_num, rfl, by omega, by omega, by omega, Below.on HB.out hb⟩
        case measure => simp [intOf]; omega
      · have hneg : ¬ cm < 0 := fun h => hc (hcm.1 h)
        have hXm : ¬ m < X := fun h => hc (hiff.2 h)
        clear hcm hiff hc
        go_wp2_with (go_at_call 75; refine (c1 _).mono ?_; rintro e w1 ⟨rfl, hb⟩)
        go_roundw
        case rel => exact ⟨i, m, rfl, rfl, by omega, by omega, by omega, Below.on HB.out hb⟩
        case measure => simp [intOf]; omega
    · obtain rfl : i = X := by omega
      by_cases hin : i < n
      · obtain ⟨b, o, y, rfl, hy, hok, hc0, hc1⟩ := (HD.out.later HB.out).get i (by rw [HN.out]; exact hin)
        have hmem : y.pc ∈ es.map En.pc := List.mem_map.2 ⟨y, List.mem_of_getElem? hy, rfl⟩
        have hfit := spW_fit (HF.out.bd hmem)
        have hget : (es.map En.pc)[i]? = some y.pc := by rw [List.getElem?_map, hy]; rfl
        have hiff := hix_iff (x := x) HL.out hget
        rw [HX.out] at hiff
        have c1 := fun W => cC y W _ hfit
        have hres : hfd (es.map En.pc) x = (cmpI y.f (Pl.pend y.pc) x == 0) := by
          unfold hfd
          rw [HX.out, hget]
          show decide (y.f ≤ x) = _
          unfold cmpI
          rw [if_neg (fun h => by have := hiff.1 h; omega)]
          by_cases hz : x < y.f
          · rw [if_pos hz]; simp; omega
          · rw [if_neg hz]; simp; omega
        obtain ⟨cm, hcme⟩ : ∃ cm, cmpI y.f (Pl.pend y.pc) x = cm := ⟨_, rfl⟩
        rw [hcme] at c1 hres
        have HR : Hid (hfd (es.map En.pc) x = (cm == 0)) := hres
        clear hok hmem hfit hy hget hiff hres hcme h1 h2
        go_wp2_with (go_at_call 75; refine (c1 _).mono ?_; rintro e w1 ⟨rfl, hb⟩)
        go_ret2
        exact ⟨by rw [HR.out]; rfl, Below.on HB.out hb⟩
      · have hres : hfd (es.map En.pc) x = false := by
          unfold hfd
          rw [HX.out, List.getElem?_eq_none (by rw [List.length_map, HN.out]; omega)]
        have HR : Hid (hfd (es.map En.pc) x = false) := hres
        clear hres
        go_wp2_with fail
        go_ret2
        exact ⟨by rw [HR.out]; rfl, HB.out⟩

set_option maxRecDepth 100000 in
set_option maxHeartbeats 4000000 in
theorem holder_any (A : Option Addr) (c : Nat) (es : List En) (x : Int) (w : World) (hP : PcsAt w A c es) (hF : Fits (es.map En.pc)) :
    Calls Try.prog 63 #[.slice A es.length c, .int .i64 x] w fun e w' => e = .returned (.tuple #[.int .i64 (hix (es.map En.pc) x), .bool (hfd (es.map En.pc) x)]) ∧ Below w.heap.size w w' := by
  have c1 := search_any A c es x w hP hF
  obtain ⟨X, hX⟩ : ∃ X, hix (es.map En.pc) x = X := ⟨_, rfl⟩
  obtain ⟨b, hb⟩ : ∃ b, hfd (es.map En.pc) x = b := ⟨_, rfl⟩
  rw [hX, hb] at c1 ⊢
  clear hX hb hP hF
  go_enter Try.func63, Try.ntmps63
  go_wp2_with (go_at_call 74; refine c1.mono ?_; rintro e w1 ⟨rfl, hB⟩)
  go_ret2
  exact ⟨rfl, hB⟩
end Go.Proofs.Ytdodagpkkjpdiaa
