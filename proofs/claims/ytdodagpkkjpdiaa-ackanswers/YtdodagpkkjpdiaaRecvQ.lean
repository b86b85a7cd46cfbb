/- What follows of a receiver, in plain mathematics: nothing falls, twice is as once, windows, old stamps. -/
import Derived.Test.YtdodagpkkjpdiaaRecvP
namespace Go.Proofs.Ytdodagpkkjpdiaa.Pl
set_option linter.unusedVariables false

theorem in_ok {r : Rv} {g : Sg} (h : r.Ok) : (inR r g).Ok ∧ r.s.n ≤ (inR r g).s.n ∧ r.edge ≤ (inR r g).edge ∧ (inR r g).s.bot = r.s.bot := by
  unfold inR
  split
  · exact ⟨h, Int.le_refl _, Int.le_refl _, rfl⟩
  · split
    · exact ⟨(tell_ok h).1, Int.le_refl _, (tell_ok h).2, rfl⟩
    · obtain ⟨h1, h2, h3⟩ := into_ok (g := g) h
      have h4 := tell_ok h1
      have he : (intoR r g).edge = r.edge := by
        show (stampR r g).edge = r.edge
        unfold stampR; split <;> rfl
      exact ⟨h4.1, h2, by have := h4.2; omega, h3⟩

/-! ### Twice is as once -/
theorem off_bd (r : Rv) (g : Sg) : r.s.n - 2147483648 ≤ offI r g ∧ offI r g ≤ r.s.n + 2147483647 := by unfold offI dfI; omega
theorem off_mod (r : Rv) (g : Sg) : (offI r g - (g.seq - r.irs)) % 4294967296 = 0 := by unfold offI dfI adI; omega
theorem off_same {r a : Rv} {g : Sg} (hi : a.irs = r.irs) (h1 : a.s.n - 2147483648 ≤ offI r g) (h2 : offI r g ≤ a.s.n + 2147483647) : offI a g = offI r g := by
  have b1 := off_bd a g
  have m1 := off_mod a g
  have m2 := off_mod r g
  rw [hi] at m1
  omega
theorem late_grows {r a : Rv} (hr : r.Ok) (ha : a.Ok) (hb : a.s.bot = r.s.bot) (hn : r.s.n ≤ a.s.n) (h : ∀ z v, r.s.bot ≤ z → r.s.at z = some v → a.s.at z = some v) : lateEnd r.s ≤ lateEnd a.s := by
  obtain ⟨l1, l2⟩ := late_end ha
  have hbel : below a.s (lateEnd a.s) := below_of l1 l2
  unfold lateEnd
  cases hl : r.s.l.getLast? with
  | none => show r.s.n ≤ lateEnd a.s; omega
  | some p =>
    show pend p ≤ lateEnd a.s
    obtain ⟨g1, g2, v, g3⟩ := has_last hr.lat p (List.mem_of_getLast? hl)
    have b1 := bot_le r.s
    have := hbel (pend p - 1) v (by omega) (h _ v (by omega) (by rw [at_late (by omega)]; exact g3))
    omega
theorem dfI_self (v : Int) : dfI v v = 0 := by unfold dfI; omega
theorem came_sub {lo lo' hi x : Int} {ds : List Int} {z : Int} (h : lo ≤ lo') : came lo' hi x ds z = none ∨ came lo' hi x ds z = came lo hi x ds z := by
  unfold came
  by_cases hc : lo' ≤ z ∧ z < hi ∧ x ≤ z ∧ z < x + (ds.length : Int)
  · right
    rw [if_pos hc, if_pos ⟨by omega, hc.2⟩]
  · left
    rw [if_neg hc]
theorem twice {r : Rv} {g : Sg} (h : r.Ok) (hd : g.ds.length ≤ 500) :
    (inR (inR r g) g).s = (inR r g).s ∧ (inR (inR r g) g).fin = (inR r g).fin ∧ (inR (inR r g) g).dn = (inR r g).dn ∧ inB (inR r g) g = inB r g := by
  by_cases c1 : r.stamps = true ∧ g.stamped = false
  · have e : inR r g = r := by unfold inR; rw [if_pos c1]
    rw [e, e]
    exact ⟨rfl, rfl, rfl, rfl⟩
  · by_cases c2 : oldB r g = true
    · have e : inR r g = tellR r := by unfold inR; rw [if_neg c1, if_pos c2]
      have e2 : inR (tellR r) g = tellR (tellR r) := by
        have c1' : ¬ ((tellR r).stamps = true ∧ g.stamped = false) := c1
        have c2' : oldB (tellR r) g = true := c2
        unfold inR
        rw [if_neg c1', if_pos c2']
      rw [e, e2]
      exact ⟨rfl, rfl, rfl, rfl⟩
    · have e : inR r g = tellR (intoR r g) := by unfold inR; rw [if_neg c1, if_neg c2]
      obtain ⟨k1, k2, k3⟩ := into_ok (g := g) h
      have kt := (tell_ok k1).1
      obtain ⟨a, ha⟩ : ∃ a, tellR (intoR r g) = a := ⟨_, rfl⟩
      have as : a.s = (takeR r g).1 := by rw [← ha]; rfl
      have afin : a.fin = finI r g := by rw [← ha]; rfl
      have adn : a.dn = decide (finI r g = (takeR r g).1.n) := by rw [← ha]; rfl
      have acap : a.cap = r.cap := by
        rw [← ha]
        show (stampR r g).cap = r.cap
        unfold stampR; split <;> rfl
      have airs : a.irs = r.irs := by
        rw [← ha]
        show (stampR r g).irs = r.irs
        unfold stampR; split <;> rfl
      have astm : a.stamps = r.stamps := by
        rw [← ha]
        show (stampR r g).stamps = r.stamps
        unfold stampR; split <;> rfl
      have aold : oldB a g = false := by
        have hb : oldB r g = false := by simpa using c2
        rw [← ha]
        show ((stampR r g).stamps && (stampR r g).stamp && decide (dfI (stampR r g).recent g.val < 0)) = false
        unfold stampR
        split
        · simp [dfI_self]
        · exact hb
      rw [ha] at kt
      obtain ⟨rr1, rr2, rr3, rr4, rr5⟩ := Ok.reach h
      have hbot := bot_le r.s
      obtain ⟨t1, t2, t3, t4, _⟩ := take_spec (ds := g.ds) (lo := r.s.n) (hi := hiI r g) (x := offI r g) (f := false) h.lat hbot
      have abot : a.s.bot = r.s.bot := by rw [as]; exact t2
      have an : r.s.n ≤ a.s.n := by rw [as]; exact t3
      have aat : ∀ z, r.s.bot ≤ z → a.s.at z = (r.s.at z).or (came r.s.n (hiI r g) (offI r g) g.ds z) := fun z hz => by rw [as]; exact t4 z hz
      have areach : a.reach = r.reach := by unfold Rv.reach; rw [abot, acap]
      have alim : a.limit = r.limit := by unfold Rv.limit; rw [areach]
      have aoff : offI a g = offI r g := by
        have b1 := off_bd r g
        rcases Int.lt_or_le r.s.n a.s.n with hl | hl
        · obtain ⟨v, hv⟩ := at_some (s := a.s) (y := r.s.n) (by omega) hl
          rw [aat _ hbot, at_next h.lat] at hv
          have hv' : came r.s.n (hiI r g) (offI r g) g.ds r.s.n = some v := by simpa using hv
          have hc : offI r g ≤ r.s.n ∧ r.s.n < offI r g + (g.ds.length : Int) := by
            unfold came at hv'
            split at hv'
            · rename_i hc; omega
            · cases hv'
          obtain ⟨q1, q2, q3, q4, q5⟩ := Ok.reach kt
          have hrr : r.reach = r.s.bot + r.cap := rfl
          have := h.cm
          exact off_same airs (by omega) (by omega)
        · exact off_same airs (by omega) (by omega)
      have afin2 : finI a g = finI r g := by
        unfold finI
        rw [aoff, alim, afin]
        by_cases hf : finI r g < 0
        · rw [if_neg (fun hc => ?_)]
          · unfold finI; rfl
          · have hle := late_grows h kt abot an (fun z v hz hv => by rw [aat z hz, hv]; rfl)
            have hcond : g.isFin = true ∧ r.fin < 0 ∧ lateEnd r.s ≤ offI r g + (g.ds.length : Int) ∧ offI r g + (g.ds.length : Int) ≤ r.limit := by
              refine ⟨hc.1, ?_, by omega, hc.2.2.2⟩
              unfold finI at hf
              split at hf
              · rename_i hc'; exact hc'.2.1
              · exact hf
            have hE : finI r g = offI r g + (g.ds.length : Int) := by unfold finI; rw [if_pos hcond]
            have hle2 := (late_end h).1
            have := h.n0
            omega
        · rw [if_neg (fun hc => hf hc.2.1)]
          unfold finI; rfl
      have ahi : hiI a g = hiI r g := by unfold hiI; rw [afin2, alim]
      have atk : (takeR a g).1 = a.s := by
        obtain ⟨u1, u2, u3, u4, _⟩ := take_spec (ds := g.ds) (lo := a.s.n) (hi := hiI a g) (x := offI a g) (f := false) kt.lat (bot_le a.s)
        refine rx_eq u1 kt.lat u2 (fun y hy => ?_)
        have hy' : a.s.bot ≤ y := by rw [← u2]; exact hy
        show (takeGo a.s.n (hiI a g) g.ds (offI a g) a.s false).1.at y = a.s.at y
        rw [u4 y hy', ahi, aoff]
        have hya := aat y (by omega)
        rcases came_sub (hi := hiI r g) (x := offI r g) (ds := g.ds) (z := y) an with hc | hc
        · rw [hc, Option.or_none]
        · rw [hc]
          cases hv : a.s.at y with
          | some v => rfl
          | none =>
            rw [hv] at hya
            cases hr2 : r.s.at y with
            | some v => rw [hr2] at hya; simp at hya
            | none =>
              rw [hr2] at hya
              simpa using hya.symm
      have e2 : inR a g = tellR (intoR a g) := by
        unfold inR
        rw [if_neg (by rw [astm]; exact c1), if_neg (by rw [aold]; simp)]
      rw [e, ha, e2]
      refine ⟨?_, ?_, ?_, ?_⟩
      · show (takeR a g).1 = a.s; exact atk
      · show finI a g = a.fin; rw [afin2, afin]
      · show decide (finI a g = (takeR a g).1.n) = a.dn
        rw [atk, afin2, adn, as]
      · unfold inB; rw [astm]

/-! ### Windows -/
theorem cut_len (r : Rv) (n : Int) : rdN r n ≤ r.s.u.length := by
  obtain ⟨m1, m2, m3⟩ := min_le (maxJ n 0) (r.s.u.length : Int)
  unfold rdN; omega
theorem cut_ok {r : Rv} {n : Int} (h : r.Ok) : (cutR r n).Ok ∧ r.s.bot ≤ (cutR r n).s.bot ∧ (cutR r n).s.bot = r.s.bot + (rdN r n : Int) := by
  have hk := cut_len r n
  have hl : (r.s.u.drop (rdN r n)).length = r.s.u.length - rdN r n := List.length_drop ..
  have hb : (cutR r n).s.bot = r.s.bot + (rdN r n : Int) := by
    show r.s.n - ((r.s.u.drop (rdN r n)).length : Int) = r.s.n - (r.s.u.length : Int) + (rdN r n : Int)
    rw [hl]; omega
  have hreach : (cutR r n).reach = r.reach + (rdN r n : Int) := by
    show (cutR r n).s.bot + r.cap = r.s.bot + r.cap + (rdN r n : Int)
    rw [hb]; omega
  have hlim : r.limit ≤ (cutR r n).limit := by
    show minJ r.reach farI ≤ minJ (cutR r n).reach farI
    rw [hreach]
    unfold minJ; split <;> split <;> omega
  refine ⟨{ n0 := h.n0, nf := h.nf, c1 := h.c1, cm := h.cm, s0 := h.s0, s14 := h.s14, uc := ?_, un := ?_, f1 := h.f1, fn := h.fn, ff := h.ff, e0 := h.e0, er := ?_, lat := h.lat, lim := ?_, lfin := h.lfin, fst := h.fst, nod := h.nod, dn := h.dn, dl := h.dl }, by omega, hb⟩
  · have := h.uc
    show ((r.s.u.drop (rdN r n)).length : Int) ≤ r.cap
    rw [hl]; omega
  · have := h.un
    show ((r.s.u.drop (rdN r n)).length : Int) ≤ r.s.n
    rw [hl]; omega
  · rw [hreach]; have := h.er; show r.edge ≤ _; omega
  · intro p hp; have := h.lim p hp; omega
theorem read_ok {r : Rv} {n : Int} (h : r.Ok) : (readR r n).Ok ∧ (readR r n).s = (cutR r n).s ∧ r.edge ≤ (readR r n).edge ∧ (readR r n).window = (cutR r n).window := by
  have h1 := (cut_ok (n := n) h).1
  unfold readR
  split
  · exact ⟨(tell_ok h1).1, rfl, (tell_ok h1).2, rfl⟩
  · exact ⟨h1, rfl, Int.le_refl _, rfl⟩
theorem window_cut {r : Rv} {n : Int} (h : r.Ok) : r.window ≤ (cutR r n).window ∧ (cutR r n).window ≤ r.window + (rdN r n : Int) + (2 : Int) ^ r.shift.toNat := by
  have hk := cut_len r n
  have hl : (r.s.u.drop (rdN r n)).length = r.s.u.length - rdN r n := List.length_drop ..
  have hu := h.uc
  have h1 := two_pos r.shift.toNat
  have ew : (cutR r n).window = minJ ((r.cap - ((r.s.u.drop (rdN r n)).length : Int)) / (2 : Int) ^ r.shift.toNat) 65535 * (2 : Int) ^ r.shift.toNat := rfl
  have ew0 : r.window = minJ ((r.cap - (r.s.u.length : Int)) / (2 : Int) ^ r.shift.toNat) 65535 * (2 : Int) ^ r.shift.toNat := rfl
  rw [ew, ew0, hl]
  obtain ⟨u, hu'⟩ : ∃ u, (2 : Int) ^ r.shift.toNat = u := ⟨_, rfl⟩
  rw [hu'] at h1 ⊢
  obtain ⟨k, hk'⟩ : ∃ k : Nat, rdN r n = k := ⟨_, rfl⟩
  rw [hk'] at hk ⊢
  obtain ⟨A, hA⟩ : ∃ A, r.cap - (r.s.u.length : Int) = A := ⟨_, rfl⟩
  have hA2 : r.cap - ((r.s.u.length - k : Nat) : Int) = A + (k : Int) := by omega
  rw [hA, hA2]
  obtain ⟨p1, p2⟩ := div_part (a := A) h1
  obtain ⟨p3, p4⟩ := div_part (a := A + (k : Int)) h1
  have hmono : A / u ≤ (A + (k : Int)) / u := Int.ediv_le_ediv (by omega) (by omega)
  obtain ⟨q, hq⟩ : ∃ q, A / u = q := ⟨_, rfl⟩
  obtain ⟨q2, hq2⟩ : ∃ q2, (A + (k : Int)) / u = q2 := ⟨_, rfl⟩
  rw [hq] at p1 p2 hmono ⊢
  rw [hq2] at p3 p4 hmono ⊢
  unfold minJ
  constructor
  · split <;> split
    · exact Int.le_refl _
    · omega
    · exact Int.mul_le_mul_of_nonneg_right (by omega) (by omega)
    · exact Int.mul_le_mul_of_nonneg_right hmono (by omega)
  · split <;> split
    · omega
    · have : 65535 * u ≤ q2 * u := Int.mul_le_mul_of_nonneg_right (by omega) (by omega)
      omega
    · omega
    · omega
/-- What is told is the window by its unit. -/
theorem window_unit (r : Rv) : r.window / (2 : Int) ^ r.shift.toNat * (2 : Int) ^ r.shift.toNat = r.window := by
  unfold Rv.window
  have h1 := two_pos r.shift.toNat
  rw [Int.mul_ediv_cancel _ (by omega)]

/-! ### Old stamps -/
theorem old_is {r : Rv} {behind : Int} (h1 : 1 ≤ behind) (h2 : behind ≤ 2147483647) (hr : 0 ≤ r.recent ∧ r.recent < 4294967296) : dfI r.recent ((r.recent - behind) % 4294967296) < 0 := by
  unfold dfI; omega
theorem old_in {r : Rv} {g : Sg} (hs : r.stamps = true) (hp : r.stamp = true) (hg : g.stamped = true) (hv : dfI r.recent g.val < 0) : inR r g = tellR r ∧ inB r g = true := by
  have c2 : oldB r g = true := by unfold oldB; simp [hs, hp, hv]
  refine ⟨?_, ?_⟩
  · unfold inR
    rw [if_neg (by simp [hg]), if_pos c2]
  · unfold inB; simp [hg]
end Go.Proofs.Ytdodagpkkjpdiaa.Pl
