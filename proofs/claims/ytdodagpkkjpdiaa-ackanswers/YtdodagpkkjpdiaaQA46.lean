/- Texts: AckP, Ans, AnsH, Inv, InvG, Det. -/
import Derived.Test.YtdodagpkkjpdiaaQA35
import Derived.Test.YtdodagpkkjpdiaaRecvQ
import Derived.Test.YtdodagpkkjpdiaaLast
namespace Go.Proofs.Ytdodagpkkjpdiaa.Ak
set_option linter.unusedVariables false
def dif (a b : Int) : Int := (b - a + 2147483648) % 4294967296 - 2147483648
def sat (x : Int) : Int := if 9223372036854775807 < x then 9223372036854775807 else if x < -9223372036854775808 then -9223372036854775808 else x
/-- The offset of a sequence number, near another offset. -/
def ofs (near s first : Int) : Int := sat (near + dif (near % 4294967296) ((s - first) % 4294967296))
/-- What a sender knows. -/
structure As where
  una : Int
  nxt : Int
  iss : Int
  per : Int
  irs : Int
  stm : Bool
  rcn : Int
  now : Int
  sck : Bool
/-- What of a segment is looked at: has it the flag Ack, has it Syn or Rst. -/
structure Sn where
  sq : Int
  ak : Int
  fa : Bool
  fs : Bool
  wn : Int
  st : Bool
  va : Int
  ec : Int
  sk : List (Int × Int)
/-- What is heard. -/
structure Hr where
  cn : Bool
  ak : Int
  old : Bool
  pos : Int
  wn : Int
  rcn : Int
  rtt : Int
  tw : Bool
  sp : List Tm
def hrZ : Hr := ⟨false, 0, false, 0, 0, 0, 0, false, []⟩
def xI (a : As) (s : Sn) : Int := ofs a.una s.ak a.iss
def posI (a : As) (s : Sn) : Int := ofs a.per s.sq a.irs
/-- P22.1. -/
def cntB (a : As) (s : Sn) : Bool := decide (0 ≤ a.una ∧ a.una ≤ a.nxt ∧ a.nxt ≤ 1125899906842625) && (s.fa && (!s.fs && ((!a.stm || (s.st && decide (0 ≤ dif a.rcn s.va))) && (decide (posI a s = a.per) && decide (0 ≤ xI a s ∧ xI a s ≤ a.nxt)))))
def blks (a : As) (s : Sn) : List Tm := s.sk.map fun b => (ofs a.una b.1 a.iss, ofs a.una b.2 a.iss)
def secB (b : Tm) : List Tm → Bool
  | [] => false
  | c :: _ => decide (c.1 ≤ b.1 ∧ b.2 ≤ c.2)
/-- Twice, as the program reads it: the words on an empty block speak of what lies below x alone. -/
def twB (x : Int) : List Tm → Bool
  | [] => false
  | b :: r => (decide (b.1 < b.2) && decide (b.2 ≤ x)) || secB b r
def keepB (lo hi : Int) (b : Tm) : Bool := decide (lo ≤ b.1 ∧ b.1 < b.2 ∧ b.2 ≤ hi ∧ b.2 ≤ 1125899906842624)
def laidL (lo hi : Int) (l : List Tm) : List Tm := l.foldl (fun r b => if keepB lo hi b = true then addV r b else r) []
def leftL (x : Int) (l : List Tm) : List Tm := if twB x l = true then l.drop 1 else l
/-- P22.2. -/
def hear (a : As) (s : Sn) : Hr :=
  if cntB a s = true then
    ⟨true, max (xI a s) a.una, decide (xI a s < a.una), posI a s, s.wn, if a.stm = true then s.va else 0, if a.stm = true ∧ a.una < xI a s then max (dif s.ec a.now) 0 else 0,
      a.sck && twB (xI a s) (blks a s), if a.sck = true then laidL (max (xI a s) a.una) a.nxt (leftL (xI a s) (blks a s)) else []⟩
  else hrZ
theorem laid_go {lo hi : Int} (h0 : 0 ≤ lo) : ∀ (l r : List Tm), chk (-1) r = true → chk (-1) (l.foldl (fun r b => if keepB lo hi b = true then addV r b else r) r) = true ∧ ∀ o, Has (l.foldl (fun r b => if keepB lo hi b = true then addV r b else r) r) o ↔ (∃ b ∈ l, keepB lo hi b = true ∧ b.1 ≤ o ∧ o < b.2) ∨ Has r o
  | [], r, h => ⟨h, fun o => by simp⟩
  | b :: l, r, h => by
    show chk (-1) (l.foldl _ (if keepB lo hi b = true then addV r b else r)) = true ∧ ∀ o, Has (l.foldl _ (if keepB lo hi b = true then addV r b else r)) o ↔ _
    by_cases hk : keepB lo hi b = true
    · have hk2 := of_decide_eq_true (show decide (lo ≤ b.1 ∧ b.1 < b.2 ∧ b.2 ≤ hi ∧ b.2 ≤ 1125899906842624) = true from hk)
      have hr : rightB b = true := rightB_iff.2 ⟨by omega, by omega, by omega⟩
      rw [if_pos hk]
      obtain ⟨g1, g2⟩ := laid_go h0 l (addV r b) (addV_chk h hr)
      refine ⟨g1, fun o => ?_⟩
      rw [g2 o, addV_has h hr]
      constructor
      · rintro (⟨c, hc, k⟩ | k | k)
        · exact .inl ⟨c, List.mem_cons_of_mem _ hc, k⟩
        · exact .inl ⟨b, List.mem_cons_self .., hk, k⟩
        · exact .inr k
      · rintro (⟨c, hc, k1, k2⟩ | k)
        · rcases List.mem_cons.1 hc with rfl | hc
          · exact .inr (.inl k2)
          · exact .inl ⟨c, hc, k1, k2⟩
        · exact .inr (.inr k)
    · rw [if_neg hk]
      obtain ⟨g1, g2⟩ := laid_go h0 l r h
      refine ⟨g1, fun o => ?_⟩
      rw [g2 o]
      constructor
      · rintro (⟨c, hc, k⟩ | k)
        · exact .inl ⟨c, List.mem_cons_of_mem _ hc, k⟩
        · exact .inr k
      · rintro (⟨c, hc, k1, k2⟩ | k)
        · rcases List.mem_cons.1 hc with rfl | hc
          · exact absurd k1 hk
          · exact .inl ⟨c, hc, k1, k2⟩
        · exact .inr k
theorem laid_chk {lo hi : Int} (h0 : 0 ≤ lo) (l : List Tm) : chk (-1) (laidL lo hi l) = true := (laid_go h0 l [] rfl).1
theorem laid_has {lo hi : Int} (h0 : 0 ≤ lo) (l : List Tm) (o : Int) : Has (laidL lo hi l) o ↔ ∃ b ∈ l, keepB lo hi b = true ∧ b.1 ≤ o ∧ o < b.2 := by
  rw [show Has (laidL lo hi l) o ↔ _ from (laid_go h0 l [] rfl).2 o]
  constructor
  · rintro (k | k)
    · exact k
    · exact absurd k (has_nil o)
  · exact .inl
theorem chk_each : ∀ {l : List Tm} {e : Int}, chk e l = true → ∀ s ∈ l, e < s.1 ∧ s.1 < s.2
  | [], _, _, s, hs => by cases hs
  | x :: r, e, h, s, hs => by
    obtain ⟨k1, k2⟩ := chk_cons.1 h
    rcases List.mem_cons.1 hs with rfl | hs
    · exact ⟨k1.1, k1.2.1⟩
    · have := chk_each k2 s hs; omega
/-- Each span that is told lies between. -/
theorem laid_in {lo hi : Int} (h0 : 0 ≤ lo) (l : List Tm) : ∀ s ∈ laidL lo hi l, lo ≤ s.1 ∧ s.2 ≤ hi := fun s hs => by
  have hc := (chk_each (laid_chk h0 l) s hs).2
  obtain ⟨b, _, hk, k1, k2⟩ := (laid_has (hi := hi) h0 l s.1).1 ⟨s, hs, Int.le_refl _, hc⟩
  obtain ⟨c, _, hk', k3, k4⟩ := (laid_has (hi := hi) h0 l (s.2 - 1)).1 ⟨s, hs, by omega, by omega⟩
  have e1 := of_decide_eq_true (show decide (lo ≤ b.1 ∧ b.1 < b.2 ∧ b.2 ≤ hi ∧ b.2 ≤ 1125899906842624) = true from hk)
  have e2 := of_decide_eq_true (show decide (lo ≤ c.1 ∧ c.1 < c.2 ∧ c.2 ≤ hi ∧ c.2 ≤ 1125899906842624) = true from hk')
  omega
/-- A row that has the offsets of the blocks is what is laid. -/
theorem laid_is {lo hi : Int} (h0 : 0 ≤ lo) {l r : List Tm} (hr : chk (-1) r = true) (hk : ∀ b ∈ l, keepB lo hi b = true) (h1 : ∀ b ∈ l, b ∈ r) (h2 : ∀ b ∈ r, b ∈ l) : laidL lo hi l = r := by
  refine row_eq (laid_chk h0 l) hr fun o => ?_
  rw [laid_has h0]
  constructor
  · rintro ⟨b, hb, _, k⟩; exact ⟨b, h1 b hb, k⟩
  · rintro ⟨b, hb, k⟩; exact ⟨b, h2 b hb, hk b (h2 b hb), k⟩
theorem cnt_out {a : As} {s : Sn} (h : cntB a s = true) : (0 ≤ a.una ∧ a.una ≤ a.nxt ∧ a.nxt ≤ 1125899906842625) ∧ s.fa = true ∧ s.fs = false ∧ (a.stm = true → s.st = true ∧ 0 ≤ dif a.rcn s.va) ∧ posI a s = a.per ∧ 0 ≤ xI a s ∧ xI a s ≤ a.nxt := by
  unfold cntB at h
  simp only [Bool.and_eq_true, Bool.or_eq_true, Bool.not_eq_true', decide_eq_true_eq] at h
  obtain ⟨k1, k2, k3, k4, k5, k6⟩ := h
  refine ⟨k1, k2, k3, fun hs => ?_, k5, k6⟩
  rcases k4 with k4 | k4
  · rw [hs] at k4; cases k4
  · exact k4
theorem cnt_in {a : As} {s : Sn} (h1 : 0 ≤ a.una ∧ a.una ≤ a.nxt ∧ a.nxt ≤ 1125899906842625) (h2 : s.fa = true) (h3 : s.fs = false) (h4 : a.stm = true → s.st = true ∧ 0 ≤ dif a.rcn s.va) (h5 : posI a s = a.per) (h6 : 0 ≤ xI a s ∧ xI a s ≤ a.nxt) : cntB a s = true := by
  unfold cntB
  simp only [Bool.and_eq_true, Bool.or_eq_true, Bool.not_eq_true', decide_eq_true_eq]
  refine ⟨h1, h2, h3, ?_, h5, h6⟩
  cases hs : a.stm with
  | false => exact .inl rfl
  | true => exact .inr (h4 hs)
/-- AckWithin. -/
theorem within {a : As} {s : Sn} (h : cntB a s = true) : (hear a s).cn = true ∧ a.una ≤ (hear a s).ak ∧ (hear a s).ak ≤ a.nxt ∧ 0 ≤ (hear a s).rtt ∧ chk (-1) (hear a s).sp = true ∧ ((hear a s).old = true → (hear a s).ak = a.una) ∧ ∀ c ∈ (hear a s).sp, (hear a s).ak ≤ c.1 ∧ c.2 ≤ a.nxt := by
  obtain ⟨k1, _, _, _, _, k6⟩ := cnt_out h
  have hm : 0 ≤ max (xI a s) a.una := by omega
  unfold hear
  rw [if_pos h]
  refine ⟨rfl, ?_, ?_, ?_, ?_, fun ho => ?_, ?_⟩
  · show a.una ≤ max (xI a s) a.una; omega
  · show max (xI a s) a.una ≤ a.nxt; omega
  · show 0 ≤ if a.stm = true ∧ a.una < xI a s then max (dif s.ec a.now) 0 else 0
    split <;> omega
  · show chk (-1) (if a.sck = true then _ else []) = true
    split
    · exact laid_chk hm _
    · rfl
  · have : xI a s < a.una := of_decide_eq_true ho
    show max (xI a s) a.una = a.una
    omega
  · show ∀ c ∈ (if a.sck = true then _ else []), _
    split
    · exact laid_in hm _
    · intro c hc; cases hc
theorem without {a : As} {s : Sn} (h : cntB a s = false) : hear a s = hrZ := by unfold hear; rw [if_neg (by simp [h])]
/-- AckPlain. -/
theorem plain (a : As) (s : Sn) : hear { a with sck := false } s = { hear a s with sp := [], tw := false } ∧ hear a { s with sk := [] } = { hear a s with sp := [], tw := false } := by
  have e1 : cntB { a with sck := false } s = cntB a s := rfl
  have e2 : cntB a { s with sk := [] } = cntB a s := rfl
  cases h : cntB a s with
  | false => rw [without (a := { a with sck := false }) (e1.trans h), without (s := { s with sk := [] }) (e2.trans h), without h]; exact ⟨rfl, rfl⟩
  | true =>
    constructor
    · unfold hear
      rw [if_pos (e1.trans h), if_pos h]
      rfl
    · unfold hear
      rw [if_pos (e2.trans h), if_pos h]
      have : laidL (max (xI a { s with sk := [] }) a.una) a.nxt (leftL (xI a { s with sk := [] }) (blks a { s with sk := [] })) = [] := rfl
      simp only [this]
      cases a.sck with
      | true => rfl
      | false => rfl
theorem len_in : ∀ {l : List Tm} {e hi : Int}, chk e l = true → (∀ s ∈ l, s.2 ≤ hi) → e ≤ hi → e + 2 * (l.length : Int) ≤ hi
  | [], _, _, _, _, h => by simpa using h
  | x :: r, e, hi, h, hs, he => by
    obtain ⟨k1, k2⟩ := chk_cons.1 h
    have k3 := hs x (List.mem_cons_self ..)
    have := len_in k2 (fun s hs' => hs s (List.mem_cons_of_mem _ hs')) k3
    simp only [List.length_cons, Int.natCast_add, Int.natCast_one]
    omega
theorem chk_up : ∀ {l : List Tm} {e a : Int}, chk e l = true → (∀ s ∈ l, a < s.1) → chk a l = true
  | [], _, _, _, _ => rfl
  | x :: r, e, a, h, hs => by
    obtain ⟨k1, k2⟩ := chk_cons.1 h
    exact chk_cons.2 ⟨⟨hs x (List.mem_cons_self ..), k1.2⟩, k2⟩
/-- Blocks whose offsets lie within 2^32: no more than 2^31 spans come of them. -/
theorem laid_len {lo hi A : Int} (h0 : 0 ≤ lo) (l : List Tm) (hw : ∀ b ∈ l, A ≤ b.1 ∧ b.2 ≤ A + 4294967296) : (laidL lo hi l).length ≤ 2147483648 := by
  cases hn : laidL lo hi l with
  | nil => simp
  | cons x r =>
    rw [← hn]
    have hc := laid_chk (hi := hi) h0 l
    have key : ∀ s ∈ laidL lo hi l, A - 1 < s.1 ∧ s.2 ≤ A + 4294967296 := fun s hs => by
      have hk := (chk_each hc s hs).2
      obtain ⟨b, hb, _, k1, k2⟩ := (laid_has (hi := hi) h0 l s.1).1 ⟨s, hs, Int.le_refl _, hk⟩
      obtain ⟨c, hc', _, k3, k4⟩ := (laid_has (hi := hi) h0 l (s.2 - 1)).1 ⟨s, hs, by omega, by omega⟩
      have := hw b hb
      have := hw c hc'
      omega
    have := len_in (chk_up hc fun s hs => (key s hs).1) (fun s hs => (key s hs).2) (by have := key x (by rw [hn]; exact List.mem_cons_self ..); have := chk_each hc x (by rw [hn]; exact List.mem_cons_self ..); omega)
    omega
theorem laid_snoc (lo hi : Int) (l : List Tm) (b : Tm) : laidL lo hi (l ++ [b]) = if keepB lo hi b = true then addV (laidL lo hi l) b else laidL lo hi l := by
  unfold laidL; rw [List.foldl_append]; rfl
/-- Two bounds of MaxOffset and Next in one. -/
theorem keep_min {lo hi : Int} (b : Tm) : keepB lo (min hi 1125899906842624) b = keepB lo hi b := by
  unfold keepB
  rw [Bool.eq_iff_iff, decide_eq_true_eq, decide_eq_true_eq]
  omega
theorem laid_min {lo hi : Int} (l : List Tm) : laidL lo (min hi 1125899906842624) l = laidL lo hi l := by
  unfold laidL
  congr 1
  funext r b
  rw [keep_min]
theorem dif_bd (a b : Int) : -2147483648 ≤ dif a b ∧ dif a b ≤ 2147483647 := by unfold dif; omega
theorem ofs_bd {near : Int} (h : 0 ≤ near ∧ near ≤ 1125899906842625) (s first : Int) : near - 2147483648 ≤ ofs near s first ∧ ofs near s first ≤ near + 2147483647 := by
  have := dif_bd (near % 4294967296) ((s - first) % 4294967296)
  unfold ofs sat
  split
  · omega
  · split <;> omega
theorem blks_in {a : As} (h : 0 ≤ a.una ∧ a.una ≤ 1125899906842625) (s : Sn) : ∀ b ∈ blks a s, a.una - 2147483648 ≤ b.1 ∧ b.2 ≤ a.una - 2147483648 + 4294967296 := fun b hb => by
  obtain ⟨c, _, rfl⟩ := List.mem_map.1 hb
  have h1 := ofs_bd h c.1 a.iss
  have h2 := ofs_bd h c.2 a.iss
  show a.una - 2147483648 ≤ ofs a.una c.1 a.iss ∧ ofs a.una c.2 a.iss ≤ _
  omega
end Go.Proofs.Ytdodagpkkjpdiaa.Ak
namespace Go.Proofs.Ytdodagpkkjpdiaa.Pl
set_option linter.unusedVariables false
theorem lat_gap : ∀ {l : List Pc} {lo : Int}, latB lo l → ∀ p ∈ l, lo < p.1 ∧ p.1 < pend p ∧ hasL l (p.1 - 1) = none ∧ hasL l (pend p) = none
  | [], _, _, p, hp => by cases hp
  | q :: r, lo, h, p, hp => by
    have k1 := h.1
    have k2 := pend_lt h.2.1
    rcases List.mem_cons.1 hp with rfl | hp
    · refine ⟨k1, k2, ?_, ?_⟩
      · rw [has_out (.inl (by omega))]; exact has_low h.2.2 (by omega)
      · rw [has_out (.inr (by omega))]; exact has_low h.2.2 (Int.le_refl _)
    · obtain ⟨g1, g2, g3, g4⟩ := lat_gap h.2.2 p hp
      exact ⟨by omega, g2, by rw [has_out (.inr (by omega))]; exact g3, by rw [has_out (.inr (by omega))]; exact g4⟩
theorem has_of : ∀ {l : List Pc} {lo : Int}, latB lo l → ∀ p ∈ l, ∀ z, p.1 ≤ z → z < pend p → hasL l z ≠ none
  | [], _, _, p, hp => by cases hp
  | q :: r, lo, h, p, hp => fun z h1 h2 => by
    rcases List.mem_cons.1 hp with rfl | hp
    · obtain ⟨v, hv⟩ := has_some (p := p) (r := r) h1 h2
      rw [hv]; simp
    · have g := lat_gap h.2.2 p hp
      rw [has_out (.inr (by omega))]
      exact has_of h.2.2 p hp z h1 h2
/-- Firsts: what is within a piece brings it. -/
theorem fst_keep {a : Int × Int} : ∀ (sp out : List (Int × Int)), ∀ s ∈ out, s ∈ fstIn sp a out
  | [], out, s, hs => hs
  | x :: r, out, s, hs => by
    show s ∈ fstIn r a (if x.1 ≤ a.1 ∧ a.2 ≤ x.2 ∧ a.1 < a.2 ∧ ¬ x ∈ out then out ++ [x] else out)
    split
    · exact fst_keep r _ s (List.mem_append_left _ hs)
    · exact fst_keep r _ s hs
theorem fst_puts {a : Int × Int} : ∀ (sp out : List (Int × Int)), ∀ s ∈ sp, s.1 ≤ a.1 → a.2 ≤ s.2 → a.1 < a.2 → s ∈ fstIn sp a out
  | [], _, s, hs, _, _, _ => by cases hs
  | x :: r, out, s, hs, h1, h2, h3 => by
    show s ∈ fstIn r a (if x.1 ≤ a.1 ∧ a.2 ≤ x.2 ∧ a.1 < a.2 ∧ ¬ x ∈ out then out ++ [x] else out)
    rcases List.mem_cons.1 hs with rfl | hs
    · refine fst_keep r _ s ?_
      split
      · simp
      · rename_i hn
        by_cases hm : s ∈ out
        · exact hm
        · exact absurd ⟨h1, h2, h3, hm⟩ hn
    · exact fst_puts r _ s hs h1 h2 h3
theorem firsts_mem {late : List Pc} {s a : Int × Int} : ∀ (all out : List (Int × Int)), (s ∈ out ∨ (a ∈ all ∧ s ∈ spansL late ∧ s.1 ≤ a.1 ∧ a.2 ≤ s.2 ∧ a.1 < a.2)) → s ∈ all.foldl (fun out a => fstIn (spansL late) a out) out
  | [], out, h => by
    rcases h with h | ⟨h, _⟩
    · exact h
    · cases h
  | b :: r, out, h => by
    show s ∈ r.foldl _ (fstIn (spansL late) b out)
    rcases h with h | ⟨h, h1, h2, h3, h4⟩
    · exact firsts_mem (a := a) r _ (.inl (fst_keep _ _ s h))
    · rcases List.mem_cons.1 h with rfl | h
      · exact firsts_mem (a := a) r _ (.inl (fst_puts _ _ s h1 h2 h3 h4))
      · exact firsts_mem r _ (.inr ⟨h, h1, h2, h3, h4⟩)
theorem firsts_has {late : List Pc} {s a : Int × Int} {all : List (Int × Int)} (h : a ∈ all) (h1 : s ∈ spansL late) (h2 : s.1 ≤ a.1) (h3 : a.2 ≤ s.2) (h4 : a.1 < a.2) : s ∈ firstsL late all := firsts_mem all [] (.inr ⟨h, h1, h2, h3, h4⟩)
/-- What the first of all asks stands first. -/
theorem fst_head {a : Int × Int} : ∀ (sp : List (Int × Int)) (c : Int × Int) (out : List (Int × Int)), ∃ r, fstIn sp a (c :: out) = c :: r
  | [], c, out => ⟨out, rfl⟩
  | x :: r, c, out => by
    show ∃ t, fstIn r a (if x.1 ≤ a.1 ∧ a.2 ≤ x.2 ∧ a.1 < a.2 ∧ ¬ x ∈ (c :: out) then (c :: out) ++ [x] else c :: out) = c :: t
    split
    · exact fst_head r c (out ++ [x])
    · exact fst_head r c out
theorem firsts_head {late : List Pc} : ∀ (all : List (Int × Int)) (c : Int × Int) (out : List (Int × Int)), ∃ r, all.foldl (fun out a => fstIn (spansL late) a out) (c :: out) = c :: r
  | [], c, out => ⟨out, rfl⟩
  | b :: r, c, out => by
    obtain ⟨t, ht⟩ := fst_head (a := b) (spansL late) c out
    obtain ⟨t2, ht2⟩ := firsts_head (late := late) r c t
    exact ⟨t2, by show r.foldl _ (fstIn (spansL late) b (c :: out)) = _; rw [ht]; exact ht2⟩
theorem fst_one {a : Int × Int} : ∀ {sp : List (Int × Int)}, (∃ s ∈ sp, s.1 ≤ a.1 ∧ a.2 ≤ s.2) → a.1 < a.2 → ∃ c r, fstIn sp a [] = c :: r ∧ c ∈ sp ∧ c.1 ≤ a.1 ∧ a.2 ≤ c.2
  | [], ⟨s, hs, _⟩, _ => by cases hs
  | x :: r, ⟨s, hs, h1⟩, h3 => by
    show ∃ c t, fstIn r a (if x.1 ≤ a.1 ∧ a.2 ≤ x.2 ∧ a.1 < a.2 ∧ ¬ x ∈ [] then [] ++ [x] else []) = c :: t ∧ c ∈ (x :: r) ∧ c.1 ≤ a.1 ∧ a.2 ≤ c.2
    by_cases hx : x.1 ≤ a.1 ∧ a.2 ≤ x.2
    · rw [if_pos ⟨hx.1, hx.2, h3, by simp⟩]
      obtain ⟨t, ht⟩ := fst_head (a := a) r x []
      exact ⟨x, t, ht, List.mem_cons_self .., hx⟩
    · rw [if_neg (fun k => hx ⟨k.1, k.2.1⟩)]
      have hr : ∃ s ∈ r, s.1 ≤ a.1 ∧ a.2 ≤ s.2 := by
        rcases List.mem_cons.1 hs with rfl | hs
        · exact absurd h1 hx
        · exact ⟨s, hs, h1⟩
      obtain ⟨c, t, k1, k2, k3⟩ := fst_one hr h3
      exact ⟨c, t, k1, List.mem_cons_of_mem _ k2, k3⟩
theorem firsts_top {late : List Pc} {a : Int × Int} (all : List (Int × Int)) (h : ∃ s ∈ spansL late, s.1 ≤ a.1 ∧ a.2 ≤ s.2) (ha : a.1 < a.2) : ∃ c r, firstsL late (a :: all) = c :: r ∧ c ∈ spansL late ∧ c.1 ≤ a.1 ∧ a.2 ≤ c.2 := by
  obtain ⟨c, t, k1, k2, k3⟩ := fst_one h ha
  obtain ⟨r, hr⟩ := firsts_head (late := late) all c t
  refine ⟨c, r, ?_, k2, k3⟩
  show all.foldl _ (fstIn (spansL late) a []) = c :: r
  rw [k1]; exact hr
theorem last_is {l : List Pc} : ∀ (ds : List Int) (x a : Int), 0 < ds.length → hasL l (x + (ds.length : Int) - 1) ≠ none → lastGo l ds x a = x + (ds.length : Int) - 1
  | [], x, a, h, _ => by simp at h
  | [d], x, a, _, h2 => by
    have e : x + (([d] : List Int).length : Int) - 1 = x := by simp
    rw [e] at h2 ⊢
    show (if hasL l x = none then a else x) = x
    rw [if_neg h2]
  | d :: d2 :: r, x, a, _, h2 => by
    have e : x + ((d :: d2 :: r).length : Int) - 1 = (x + 1) + ((d2 :: r).length : Int) - 1 := by simp; omega
    rw [e] at h2 ⊢
    show lastGo l (d2 :: r) (x + 1) _ = _
    exact last_is (d2 :: r) (x + 1) _ (by simp) h2
theorem came_some {lo hi x z : Int} {ds : List Int} : came lo hi x ds z ≠ none ↔ lo ≤ z ∧ z < hi ∧ x ≤ z ∧ z < x + (ds.length : Int) := by
  unfold came
  constructor
  · intro h
    by_cases hc : lo ≤ z ∧ z < hi ∧ x ≤ z ∧ z < x + (ds.length : Int)
    · exact hc
    · rw [if_neg hc] at h; exact absurd rfl h
  · intro h
    rw [if_pos h]
    have : (z - x).toNat < ds.length := by omega
    rw [List.getElem?_eq_getElem this]
    simp
theorem or_some {a b : Option Int} : a.or b ≠ none ↔ a ≠ none ∨ b ≠ none := by
  cases a <;> simp
/-- A receiver that parts of a text of n bytes have come to, nothing read. -/
structure Ans (r : Rv) (n irs : Int) : Prop where
  ok : r.Ok
  cap : r.cap = 1000
  stm : r.stamps = false
  sck : r.sacks = true
  num : r.irs = irs
  own : r.own = 77
  nfin : r.fin = -1
  bot : r.s.bot = 0
  low : below r.s n
  full : ∀ s ∈ spansL r.s.l, s ∈ r.first
theorem ans_new (n irs : Int) : Ans (newR 1000 0 irs 77 false true) n irs := by
  have hw := window_bd (r := newR 1000 0 irs 77 false true) (by show ((0 : Nat) : Int) ≤ 1000; omega)
  have hw' : 0 ≤ (newR 1000 0 irs 77 false true).edge ∧ (newR 1000 0 irs 77 false true).edge ≤ 1000 := by
    have : (newR 1000 0 irs 77 false true).edge = (newR 1000 0 irs 77 false true).window := rfl
    rw [this]
    have e : (newR 1000 0 irs 77 false true).cap - ((newR 1000 0 irs 77 false true).s.u.length : Int) = 1000 := rfl
    rw [e] at hw
    exact hw
  have hok : (newR 1000 0 irs 77 false true).Ok := by
    refine { n0 := ?_, nf := ?_, c1 := ?_, cm := ?_, s0 := ?_, s14 := ?_, uc := ?_, un := ?_, f1 := ?_, fn := fun h => ?_, ff := ?_, e0 := hw'.1, er := ?_, lat := trivial, lim := fun p hp => (by cases hp), lfin := fun _ p hp => (by cases hp), fst := fun p hp => (by cases hp), nod := List.nodup_nil, dn := rfl, dl := fun h => (by cases h) }
    · show (0 : Int) ≤ 0; omega
    · show (0 : Int) ≤ 562949953421312; omega
    · show (1 : Int) ≤ 1000; omega
    · show (1000 : Int) ≤ 1073741824; omega
    · show (0 : Int) ≤ 0; omega
    · show (0 : Int) ≤ 14; omega
    · show ((0 : Nat) : Int) ≤ 1000; omega
    · show ((0 : Nat) : Int) ≤ 0; omega
    · show (-1 : Int) ≤ -1; omega
    · have : (0 : Int) ≤ -1 := h
      omega
    · show (-1 : Int) ≤ 562949953421312; omega
    · have : (newR 1000 0 irs 77 false true).reach = 1000 := rfl
      rw [this]; exact hw'.2
  refine ⟨hok, rfl, rfl, rfl, rfl, rfl, rfl, rfl, fun z v hz hv => ?_, fun s hs => by cases hs⟩
  have hz' : (0 : Int) ≤ z := hz
  have : (newR 1000 0 irs 77 false true).s.at z = none := at_late (s := (newR 1000 0 irs 77 false true).s) hz'
  rw [this] at hv; cases hv
/-- A part of the text comes. -/
structure Piece (g : Sg) (irs : Int) (n x t : Nat) : Prop where
  seq : g.seq = adI irs (x : Int)
  nof : g.isFin = false
  xt : x ≤ t
  tl : t ≤ n
  small : n ≤ 200
  len : g.ds.length = t - x
theorem piece_off {r : Rv} {g : Sg} {irs : Int} {n x t : Nat} (h : Ans r n irs) (p : Piece g irs n x t) : offI r g = (x : Int) := by
  have h1 : r.s.n ≤ (n : Int) := below_next (by rw [h.bot]; omega) h.low
  have h2 := h.ok.n0
  have h3 := p.xt
  have h4 := p.tl
  have h5 := p.small
  unfold offI
  rw [p.seq, h.num]
  unfold dfI adI
  omega
theorem limit_is {r : Rv} {n irs : Int} (h : Ans r n irs) : r.limit = 1000 := by
  have e : r.reach = 1000 := by show r.s.bot + r.cap = 1000; rw [h.bot, h.cap]; rfl
  show minJ r.reach farI = 1000
  rw [e]
  decide
/-- What is told of a segment: its blocks. -/
def tolds (r : Rv) (g : Sg) : List (Int × Int) := if 0 < g.ds.length ∧ 0 ≤ offI r g ∧ (takeR r g).2 = false then (offI r g, offI r g + (g.ds.length : Int)) :: (intoR r g).first else (intoR r g).first
structure After (r : Rv) (g : Sg) (R : Rv) (n irs : Int) (x t : Nat) : Prop where
  ans : Ans R n irs
  up : r.s.n ≤ R.s.n
  top : R.s.n ≤ n
  fst : R.first = (intoR r g).first
  dup : x < t → (takeR r g).2 = false → (t : Int) ≤ R.s.n ∨ ∃ c q, R.first = c :: q ∧ c.1 ≤ (x : Int) ∧ (t : Int) ≤ c.2
theorem ans_in {r : Rv} {g : Sg} {irs : Int} {n x t : Nat} (h : Ans r n irs) (p : Piece g irs n x t) : oldB r g = false ∧ inR r g = tellR (intoR r g) ∧ inB r g = true ∧ After r g (inR r g) n irs x t := by
  have hx := piece_off h p
  have h3 := p.xt
  have h4 := p.tl
  have h5 := p.small
  have hlen : (g.ds.length : Int) = (t : Int) - (x : Int) := by rw [p.len]; omega
  have hc2 : oldB r g = false := by unfold oldB; rw [h.stm]; rfl
  have e : inR r g = tellR (intoR r g) := by unfold inR; rw [if_neg (by rw [h.stm]; simp), if_neg (by rw [hc2]; simp)]
  have hb : inB r g = true := by unfold inB; rw [h.stm]; rfl
  have hst : stampR r g = r := by unfold stampR; rw [if_neg (by rw [h.stm]; simp)]
  have hfi : finI r g = -1 := by unfold finI; rw [if_neg (by rw [p.nof]; simp)]; exact h.nfin
  have hhi : hiI r g = 1000 := by unfold hiI; rw [hfi, if_neg (by omega)]; exact limit_is h
  obtain ⟨t1, t2, t3, t4, t5⟩ := take_spec (ds := g.ds) (lo := r.s.n) (hi := hiI r g) (x := offI r g) (s := r.s) (f := false) h.ok.lat (bot_le _)
  rw [hhi, hx] at t4 t5
  have hok := (in_ok (g := g) h.ok).1
  have hs : (inR r g).s = (takeR r g).1 := by rw [e]; rfl
  have hT : (takeR r g).1 = (takeGo r.s.n (hiI r g) g.ds (offI r g) r.s false).1 := rfl
  have hF : (inR r g).first = (intoR r g).first := by rw [e]; rfl
  have hF2 : (inR r g).first = firstsL (takeR r g).1.l (headSpan (takeR r g).1.l g.ds (offI r g) :: r.first) := by rw [hF]; rfl
  rw [hx] at hF2
  have hhi2 : takeR r g = takeGo r.s.n 1000 g.ds x r.s false := by unfold takeR; rw [hhi, hx]
  rw [← hhi2] at t4 t5
  rw [← show takeR r g = takeGo r.s.n (hiI r g) g.ds (offI r g) r.s false from rfl] at t1 t2 t3
  have hbot : (takeR r g).1.bot = 0 := t2.trans h.bot
  have hb0 := h.bot
  -- every byte lies below n
  have hlow : below (takeR r g).1 n := fun z v hz hv => by
    rw [hbot] at hz
    rw [t4 z (by omega)] at hv
    cases ha : r.s.at z with
    | some u => exact h.low z u (by omega) ha
    | none =>
      rw [ha] at hv
      have hc : came r.s.n 1000 (x : Int) g.ds z ≠ none := by
        have : came r.s.n 1000 (x : Int) g.ds z = some v := by simpa using hv
        rw [this]; simp
      have := came_some.1 hc
      omega
  have hnn : (takeR r g).1.n ≤ (n : Int) := below_next (by rw [hbot]; omega) hlow
  -- what is there: as before, or a byte of the segment
  have hat : ∀ z, (takeR r g).1.n ≤ z → (hasL (takeR r g).1.l z ≠ none ↔ hasL r.s.l z ≠ none ∨ (x : Int) ≤ z ∧ z < (t : Int)) := fun z hz => by
    have hz0 := bot_le (takeR r g).1
    have hzn : r.s.n ≤ z := by omega
    have h0 := h.ok.n0
    rw [← at_late hz, t4 z (by omega), at_late hzn, or_some, came_some]
    constructor
    · rintro (k | k)
      · exact .inl k
      · exact .inr ⟨k.2.2.1, by omega⟩
    · rintro (k | k)
      · exact .inl k
      · exact .inr ⟨hzn, by omega, k.1, by omega⟩
  have hgap := lat_gap (show latB (takeR r g).1.n (takeR r g).1.l from t1)
  have hfull : ∀ s ∈ spansL (takeR r g).1.l, s ∈ (inR r g).first := fun s hs => by
    obtain ⟨q, hq, rfl⟩ := List.mem_map.1 hs
    obtain ⟨g1, g2, g3, g4⟩ := hgap q hq
    rw [hF2]
    by_cases hex : ∃ z, q.1 ≤ z ∧ z < pend q ∧ hasL r.s.l z ≠ none
    · obtain ⟨z, z1, z2, z3⟩ := hex
      obtain ⟨v, hv⟩ : ∃ v, hasL r.s.l z = some v := by
        cases hh : hasL r.s.l z with
        | none => exact absurd hh z3
        | some v => exact ⟨v, rfl⟩
      obtain ⟨b, hbm, b1, b2, _⟩ := has_mem hv
      refine firsts_has (a := (b.1, pend b)) (List.mem_cons_of_mem _ (h.full _ (List.mem_map.2 ⟨b, hbm, rfl⟩))) hs ?_ ?_ (by show b.1 < pend b; omega)
      · show q.1 ≤ b.1
        rcases Int.lt_or_le b.1 q.1 with hlt | hle
        · exact absurd g3 ((hat _ (by omega)).2 (.inl (has_of h.ok.lat b hbm _ (by omega) (by omega))))
        · exact hle
      · show pend b ≤ pend q
        rcases Int.lt_or_le (pend q) (pend b) with hlt | hle
        · exact absurd g4 ((hat _ (by omega)).2 (.inl (has_of h.ok.lat b hbm _ (by omega) (by omega))))
        · exact hle
    · have hno : ∀ z, q.1 ≤ z → z < pend q → (x : Int) ≤ z ∧ z < (t : Int) := fun z z1 z2 => by
        rcases (hat z (by omega)).1 (has_of (show latB (takeR r g).1.n (takeR r g).1.l from t1) q hq z z1 z2) with k | k
        · exact absurd ⟨z, z1, z2, k⟩ hex
        · exact k
      have k1 := hno q.1 (Int.le_refl _) g2
      have k2 := hno (pend q - 1) (by omega) (by omega)
      have hend : pend q = (t : Int) := by
        rcases Int.lt_or_le (pend q) t with hlt | hle
        · exact absurd g4 ((hat _ (by omega)).2 (.inr ⟨by omega, hlt⟩))
        · omega
      have hl : lastGo (takeR r g).1.l g.ds (x : Int) (-1) = (x : Int) + (g.ds.length : Int) - 1 := last_is g.ds x (-1) (by omega) (by
        rw [show (x : Int) + (g.ds.length : Int) - 1 = pend q - 1 by omega]
        exact has_of (show latB (takeR r g).1.n (takeR r g).1.l from t1) q hq _ (by omega) (by omega))
      refine firsts_has (a := headSpan (takeR r g).1.l g.ds (x : Int)) (List.mem_cons_self ..) hs ?_ ?_ ?_
      · unfold headSpan; rw [hl, if_neg (by omega)]; show q.1 ≤ _; omega
      · unfold headSpan; rw [hl, if_neg (by omega)]; show _ ≤ pend q; omega
      · unfold headSpan; rw [hl, if_neg (by omega)]; show (x : Int) + (g.ds.length : Int) - 1 < (x : Int) + (g.ds.length : Int) - 1 + 1; omega
  refine ⟨hc2, e, hb, ⟨⟨hok, ?_, ?_, ?_, ?_, ?_, ?_, ?_, ?_, ?_⟩, ?_, ?_, hF, ?_⟩⟩
  · rw [e]; show (stampR r g).cap = 1000; rw [hst]; exact h.cap
  · rw [e]; show (stampR r g).stamps = false; rw [hst]; exact h.stm
  · rw [e]; show (stampR r g).sacks = true; rw [hst]; exact h.sck
  · rw [e]; show (stampR r g).irs = irs; rw [hst]; exact h.num
  · rw [e]; show (stampR r g).own = 77; rw [hst]; exact h.own
  · rw [e]; show finI r g = -1; exact hfi
  · rw [hs]; exact hbot
  · rw [hs]; exact hlow
  · rw [hs]; exact hfull
  · rw [hs]; exact t3
  · rw [hs]; exact hnn
  · intro hxt hdup
    rw [hs]
    rcases Int.lt_or_le (takeR r g).1.n (t : Int) with hlt | hle
    · right
      have hnone : ∀ z, r.s.bot ≤ z → came r.s.n 1000 (x : Int) g.ds z ≠ none → r.s.at z ≠ none := fun z z1 z2 z3 => by
        have := t5.2 (.inr ⟨z, z1, z3, z2⟩)
        rw [hdup] at this; cases this
      have h0 := h.ok.n0
      -- nothing of it is at Next
      have hxn : (takeR r g).1.n < (x : Int) := by
        rcases Int.lt_or_le (takeR r g).1.n (x : Int) with k | k
        · exact k
        · have hn1 := at_next (show (takeR r g).1.ok from t1)
          rw [t4 _ (by omega)] at hn1
          exact absurd hn1 (or_some.2 (.inr (came_some.2 ⟨t3, by omega, k, by omega⟩)))
      have hlast : hasL (takeR r g).1.l ((x : Int) + (g.ds.length : Int) - 1) ≠ none := (hat _ (by omega)).2 (.inr ⟨by omega, by omega⟩)
      have hl : lastGo (takeR r g).1.l g.ds (x : Int) (-1) = (x : Int) + (g.ds.length : Int) - 1 := last_is g.ds x (-1) (by omega) hlast
      obtain ⟨v, hv⟩ : ∃ v, hasL (takeR r g).1.l ((x : Int) + (g.ds.length : Int) - 1) = some v := by
        cases hh : hasL (takeR r g).1.l ((x : Int) + (g.ds.length : Int) - 1) with
        | none => exact absurd hh hlast
        | some v => exact ⟨v, rfl⟩
      obtain ⟨q, hq, q1, q2, _⟩ := has_mem hv
      have hhs : headSpan (takeR r g).1.l g.ds (x : Int) = ((t : Int) - 1, (t : Int)) := by
        unfold headSpan
        rw [hl, if_neg (by omega)]
        exact Prod.ext (by show _ = (t : Int) - 1; omega) (by show _ = (t : Int); omega)
      obtain ⟨c, rr, k1, k2, k3, k4⟩ := firsts_top (late := (takeR r g).1.l) (a := headSpan (takeR r g).1.l g.ds (x : Int)) r.first ⟨(q.1, pend q), List.mem_map.2 ⟨q, hq, rfl⟩, by rw [hhs]; show q.1 ≤ (t : Int) - 1; omega, by rw [hhs]; show (t : Int) ≤ pend q; omega⟩ (by rw [hhs]; show (t : Int) - 1 < (t : Int); omega)
      rw [hhs] at k3 k4
      refine ⟨c, rr, by rw [hF2]; exact k1, ?_, k4⟩
      obtain ⟨b, hbm, rfl⟩ := List.mem_map.1 k2
      obtain ⟨g1, g2, g3, g4⟩ := hgap b hbm
      have k3' : b.1 ≤ (t : Int) - 1 := k3
      show b.1 ≤ (x : Int)
      rcases Int.lt_or_le (x : Int) b.1 with hlt2 | hle2
      · exact absurd g3 ((hat _ (by omega)).2 (.inr ⟨by omega, by omega⟩))
      · exact hle2
    · exact .inl hle
end Go.Proofs.Ytdodagpkkjpdiaa.Pl
namespace Go.Proofs.Ytdodagpkkjpdiaa.Pl
set_option linter.unusedVariables false
theorem lat_same : ∀ {l : List Pc} {lo : Int}, latB lo l → ∀ p ∈ l, ∀ q ∈ l, ∀ z, p.1 ≤ z → z < pend p → q.1 ≤ z → z < pend q → p = q
  | [], _, _, p, hp => by cases hp
  | a :: r, lo, h, p, hp => fun q hq z h1 h2 h3 h4 => by
    rcases List.mem_cons.1 hp with e1 | hp
    · rcases List.mem_cons.1 hq with e2 | hq
      · rw [e1, e2]
      · have := (lat_gap h.2.2 q hq).1
        rw [e1] at h2; omega
    · rcases List.mem_cons.1 hq with e2 | hq
      · have := (lat_gap h.2.2 p hp).1
        rw [e2] at h4; omega
      · exact lat_same h.2.2 p hp q hq z h1 h2 h3 h4
theorem spans_chk : ∀ {l : List Pc} {lo : Int}, latB lo l → (∀ p ∈ l, pend p ≤ 1125899906842624) → chk lo (spansL l) = true
  | [], _, _, _ => rfl
  | p :: r, lo, h, hb => by
    have k2 := pend_lt h.2.1
    exact chk_cons.2 ⟨⟨h.1, k2, hb p (List.mem_cons_self ..)⟩, spans_chk h.2.2 fun q hq => hb q (List.mem_cons_of_mem _ hq)⟩
theorem nod_len : ∀ {l m : List (Int × Int)}, l.Nodup → (∀ x ∈ l, x ∈ m) → l.length ≤ m.length
  | [], m, _, _ => Nat.zero_le _
  | a :: r, m, h, hs => by
    have hn := List.nodup_cons.1 h
    have ha := hs a (List.mem_cons_self ..)
    have := nod_len (m := m.erase a) hn.2 (fun x hx => by
      have hne : x ≠ a := fun e => hn.1 (e ▸ hx)
      exact (List.mem_erase_of_ne hne).2 (hs x (List.mem_cons_of_mem _ hx)))
    have hl := List.length_erase_of_mem ha
    have hp := List.length_pos_of_mem ha
    simp only [List.length_cons]
    omega
def ansA (n una irs : Int) : Ak.As := ⟨una, n, irs, 0, 77, false, 0, 0, true⟩
def ansS (R : Rv) (bl : List (Int × Int)) (irs wn : Int) : Ak.Sn := ⟨77, adI irs R.s.n, true, false, wn, false, 0, 0, (bl.take 4).map fun b => (adI irs b.1, adI irs b.2)⟩
theorem ofs_ad {near o irs : Int} (h1 : 0 ≤ near ∧ near ≤ 200) (h2 : 0 ≤ o ∧ o ≤ 200) : Ak.ofs near (adI irs o) irs = o := by
  unfold Ak.ofs adI
  have : near + Ak.dif (near % 4294967296) (((irs + o) % 4294967296 - irs) % 4294967296) = o := by unfold Ak.dif; omega
  rw [this]
  unfold Ak.sat
  rw [if_neg (by omega), if_neg (by omega)]
/-- AckAnswers, a step. -/
theorem ans_heard {r : Rv} {g : Sg} {irs : Int} {n x t : Nat} (h : Ans r n irs) (p : Piece g irs n x t) (wn : Int) :
    (Ak.hear (ansA n r.s.n irs) (ansS (inR r g) (tolds r g) irs wn)).cn = true ∧ (Ak.hear (ansA n r.s.n irs) (ansS (inR r g) (tolds r g) irs wn)).old = false ∧
      (Ak.hear (ansA n r.s.n irs) (ansS (inR r g) (tolds r g) irs wn)).ak = (inR r g).s.n ∧ ((inR r g).s.l.length ≤ 3 → (Ak.hear (ansA n r.s.n irs) (ansS (inR r g) (tolds r g) irs wn)).sp = spansL (inR r g).s.l) := by
  obtain ⟨_, he, _, A⟩ := ans_in h p
  have hx := piece_off h p
  have h3 := p.xt
  have h4 := p.tl
  have h5 := p.small
  have hlen : (g.ds.length : Int) = (t : Int) - (x : Int) := by rw [p.len]; omega
  have h0 := h.ok.n0
  have hu := A.up
  have ht := A.top
  obtain ⟨R, hR⟩ : ∃ R, inR r g = R := ⟨_, rfl⟩
  rw [hR] at A hu ht ⊢
  have hRok := A.ans.ok
  have hspan : ∀ b ∈ spansL R.s.l, R.s.n < b.1 ∧ b.1 < b.2 ∧ b.2 ≤ (n : Int) := fun b hb => by
    obtain ⟨q, hq, rfl⟩ := List.mem_map.1 hb
    obtain ⟨g1, g2, _, _⟩ := lat_gap hRok.lat q hq
    exact ⟨g1, g2, below_pend hRok.lat A.ans.low q hq⟩
  have hfst : ∀ b ∈ R.first, b ∈ spansL R.s.l := hRok.fst
  -- the blocks that are told
  obtain ⟨bl, hbl⟩ : ∃ bl, tolds r g = bl := ⟨_, rfl⟩
  have hbd : ∀ b ∈ bl, (0 ≤ b.1 ∧ b.1 ≤ 200) ∧ (0 ≤ b.2 ∧ b.2 ≤ 200) := fun b hb => by
    rw [← hbl] at hb
    unfold tolds at hb
    rw [← A.fst] at hb
    have key : ∀ b ∈ R.first, (0 ≤ b.1 ∧ b.1 ≤ 200) ∧ (0 ≤ b.2 ∧ b.2 ≤ 200) := fun b hb => by
      have := hspan b (hfst b hb)
      omega
    split at hb
    · rcases List.mem_cons.1 hb with rfl | hb
      · rw [hx]; constructor <;> constructor <;> (simp only; omega)
      · exact key b hb
    · exact key b hb
  rw [hbl]
  have ex : Ak.xI (ansA n r.s.n irs) (ansS R bl irs wn) = R.s.n := by
    show Ak.ofs r.s.n (adI irs R.s.n) irs = R.s.n
    exact ofs_ad (by omega) (by omega)
  have ep : Ak.posI (ansA n r.s.n irs) (ansS R bl irs wn) = 0 := by
    show Ak.ofs 0 77 77 = 0
    decide
  have eb : Ak.blks (ansA n r.s.n irs) (ansS R bl irs wn) = bl.take 4 := by
    show ((bl.take 4).map _).map _ = bl.take 4
    rw [List.map_map]
    have : ∀ b ∈ bl.take 4, ((fun b : Int × Int => (Ak.ofs r.s.n b.1 irs, Ak.ofs r.s.n b.2 irs)) ∘ fun b => (adI irs b.1, adI irs b.2)) b = b := fun b hb => by
      have := hbd b (List.mem_of_mem_take hb)
      exact Prod.ext (ofs_ad (by omega) this.1) (ofs_ad (by omega) this.2)
    exact (List.map_congr_left this).trans (List.map_id _)
  have hc : Ak.cntB (ansA n r.s.n irs) (ansS R bl irs wn) = true := by
    refine Ak.cnt_in ⟨h0, by show r.s.n ≤ (n : Int); omega, by show (n : Int) ≤ 1125899906842625; omega⟩ rfl rfl (fun k => by cases k) ep ?_
    rw [ex]
    exact ⟨by omega, ht⟩
  unfold Ak.hear
  rw [if_pos hc, ex, eb]
  refine ⟨rfl, decide_eq_false (by show ¬ R.s.n < r.s.n; omega), by show max R.s.n r.s.n = R.s.n; omega, fun hl3 => ?_⟩
  have hlf : R.first.length ≤ 3 := by
    have := nod_len hRok.nod hfst
    unfold spansL at this
    rw [List.length_map] at this
    omega
  have hmax : max R.s.n r.s.n = R.s.n := by omega
  show Ak.laidL (max R.s.n r.s.n) (n : Int) (Ak.leftL R.s.n (bl.take 4)) = spansL R.s.l
  rw [hmax]
  have hleft : Ak.leftL R.s.n (bl.take 4) = R.first := by
    unfold tolds at hbl
    rw [← A.fst, hx] at hbl
    by_cases hd : 0 < g.ds.length ∧ (0 : Int) ≤ (x : Int) ∧ (takeR r g).2 = false
    · rw [if_pos hd] at hbl
      have htw : Ak.twB R.s.n (bl.take 4) = true := by
        rw [← hbl]
        show ((decide ((x : Int) < (x : Int) + (g.ds.length : Int)) && decide ((x : Int) + (g.ds.length : Int) ≤ R.s.n)) || Ak.secB ((x : Int), (x : Int) + (g.ds.length : Int)) (R.first.take 3)) = true
        rw [Bool.or_eq_true, Bool.and_eq_true]
        rcases A.dup (by omega) hd.2.2 with k | ⟨c, q, k1, k2, k3⟩
        · exact .inl ⟨decide_eq_true (by omega), decide_eq_true (by omega)⟩
        · right
          rw [k1]
          exact decide_eq_true ⟨k2, by show (x : Int) + (g.ds.length : Int) ≤ c.2; omega⟩
      unfold Ak.leftL
      rw [if_pos htw, ← hbl]
      show R.first.take 3 = R.first
      exact List.take_of_length_le hlf
    · rw [if_neg hd] at hbl
      have htw : Ak.twB R.s.n (bl.take 4) = false := by
        rw [← hbl, List.take_of_length_le (by omega)]
        cases hf : R.first with
        | nil => rfl
        | cons b q =>
          have hb := hfst b (by rw [hf]; exact List.mem_cons_self ..)
          have kb := hspan b hb
          show ((decide (b.1 < b.2) && decide (b.2 ≤ R.s.n)) || Ak.secB b q) = false
          rw [Bool.or_eq_false_iff]
          refine ⟨by rw [Bool.and_eq_false_iff]; exact .inr (decide_eq_false (by omega)), ?_⟩
          cases q with
          | nil => rfl
          | cons c q =>
            refine decide_eq_false ?_
            rintro ⟨k1, k2⟩
            have hcm := hfst c (by rw [hf]; exact List.mem_cons_of_mem _ (List.mem_cons_self ..))
            obtain ⟨u, hu1, hu2⟩ := List.mem_map.1 hb
            obtain ⟨v, hv1, hv2⟩ := List.mem_map.1 hcm
            have e := lat_same hRok.lat u hu1 v hv1 b.1 (by rw [← hu2]; exact Int.le_refl _) (by rw [← hu2] at kb ⊢; exact kb.2.1) (by rw [← hv2] at k1; exact k1) (by rw [← hv2] at k2; have k2' : b.2 ≤ pend v := k2; omega)
            have hbc : b = c := by rw [← hu2, ← hv2, e]
            have hn := hRok.nod
            rw [hf] at hn
            exact (List.nodup_cons.1 hn).1 (by rw [hbc]; exact List.mem_cons_self ..)
      unfold Ak.leftL
      rw [if_neg (by rw [htw]; simp), ← hbl]
      exact List.take_of_length_le (by omega)
  rw [hleft]
  refine Ak.laid_is (by omega) ?_ (fun b hb => ?_) hfst A.ans.full
  · exact (chk_mono (spans_chk hRok.lat fun q hq => by have := below_pend hRok.lat A.ans.low q hq; omega) (by omega))
  · have := hspan b (hfst b hb)
    exact decide_eq_true (by omega)
theorem spans_size : ∀ (l : List Pc), sizeL (spansL l) = (l.map fun q => (q.2.length : Int)).sum
  | [] => rfl
  | q :: r => by
    have ih := spans_size r
    show (((q.1, pend q) :: spansL r).map fun x : Tm => x.2 - x.1).sum = _
    rw [List.map_cons, List.map_cons, List.sum_cons, List.sum_cons, ← ih]
    show pend q - q.1 + sizeL (spansL r) = _
    unfold pend; omega
/-- How much is late: no more than the text. -/
theorem size_bd : ∀ {l : List Tm} {e hi : Int}, chk e l = true → (∀ s ∈ l, s.2 ≤ hi) → e ≤ hi → 0 ≤ sizeL l ∧ sizeL l ≤ hi - e
  | [], e, hi, _, _, h => by show 0 ≤ (0 : Int) ∧ (0 : Int) ≤ hi - e; omega
  | x :: r, e, hi, h, hs, he => by
    obtain ⟨k1, k2⟩ := chk_cons.1 h
    have k3 := hs x (List.mem_cons_self ..)
    have ih := size_bd k2 (fun s hs' => hs s (List.mem_cons_of_mem _ hs')) k3
    have e1 : sizeL (x :: r) = (x.2 - x.1) + sizeL r := rfl
    rw [e1]
    omega
theorem ans_sizes {r : Rv} {n irs : Int} (h : Ans r n irs) (h0 : 0 ≤ n) : chk (-1) (spansL r.s.l) = true ∧ 0 ≤ sizeL (spansL r.s.l) ∧ sizeL (spansL r.s.l) ≤ n - r.s.n := by
  have hn := below_next (by rw [h.bot]; exact h0) h.low
  have hb : ∀ q ∈ r.s.l, pend q ≤ n := below_pend h.ok.lat h.low
  have hc : chk r.s.n (spansL r.s.l) = true := spans_chk h.ok.lat fun q hq => by
    have := h.ok.lim q hq
    have h2 := (Ok.reach h.ok).2.2.2.2
    unfold farI at h2
    omega
  have hs := size_bd hc (hi := n) (fun s hs => by obtain ⟨q, hq, rfl⟩ := List.mem_map.1 hs; exact hb q hq) hn
  exact ⟨chk_mono hc (by have := h.ok.n0; omega), hs⟩
end Go.Proofs.Ytdodagpkkjpdiaa.Pl
namespace Go.Proofs.Ytdodagpkkjpdiaa
open Go.ChangeShapes Go.WideShapes Go.ChangeAt Go.RowKit Go.Shelf
set_option linter.unusedVariables false
set_option linter.unusedSimpArgs false
section
variable {P : Program} {ops : Array Oper} {Q : Exit → Act → World → Prop} {md : Region.Mode}
/-- How many of these are not done. -/
def undone (done : Array Bool) : List Nat → Nat
  | [] => 0
  | i :: r => (if done.getD i true = false then 1 else 0) + undone done r
theorem getD_set_same (done : Array Bool) (i : Nat) : (done.setIfInBounds i true).getD i true = true := by
  rcases Nat.lt_or_ge i done.size with h | h
  · simp [h]
  · simp [h]
theorem undone_le (done : Array Bool) (i : Nat) : ∀ L, undone (done.setIfInBounds i true) L ≤ undone done L
  | [] => Nat.le_refl _
  | j :: r => by
    have ih := undone_le done i r
    unfold undone
    by_cases h : i = j
    · subst h
      rw [getD_set_same, if_neg (by simp)]
      omega
    · rw [getD_set_ne true h]
      omega
theorem undone_lt {done : Array Bool} {i : Nat} (hi : done.getD i true = false) : ∀ {L}, i ∈ L → undone (done.setIfInBounds i true) L < undone done L
  | j :: r, hm => by
    unfold undone
    by_cases h : i = j
    · subst h
      have := undone_le done i r
      rw [getD_set_same, if_neg (by simp), if_pos hi]
      omega
    · have ih := undone_lt hi (L := r) (by simpa [h] using hm)
      rw [getD_set_ne true h]
      omega
/-- A region, by an invariant over what is done. -/
theorem wpAny_inv (J : Array Bool → Act → World → Prop)
    (hstep : ∀ done a w, J done a w → ∀ i ∈ Region.ready md ops done, wpOp P ops Q i (fun a' w' => J (done.setIfInBounds i true) a' w') a w)
    (hfin : ∀ done a w, J done a w → Region.ready md ops done = [] → Q .normal a w) :
    ∀ (k : Nat) (done : Array Bool) (a : Act) (w : World), J done a w → undone done (List.range ops.size) ≤ k → wpAny P md ops Q k done a w := by
  intro k
  induction k with
  | zero =>
    intro done a w hJ hk
    have hr : Region.ready md ops done = [] := by
      apply List.eq_nil_iff_forall_not_mem.2
      intro i hi
      obtain ⟨h1, o, h2, _⟩ := mem_ready.1 hi
      have hlt : i < ops.size := (Array.getElem?_eq_some_iff.1 h2).1
      have := undone_lt h1 (L := List.range ops.size) (List.mem_range.2 hlt)
      omega
    exact ⟨hr, hfin done a w hJ hr⟩
  | succ k ih =>
    intro done a w hJ hk
    refine ⟨fun hr => hfin done a w hJ hr, fun i hi => ?_⟩
    obtain ⟨h1, o, h2, _⟩ := mem_ready.1 hi
    have hlt : i < ops.size := (Array.getElem?_eq_some_iff.1 h2).1
    have := undone_lt h1 (L := List.range ops.size) (List.mem_range.2 hlt)
    exact wpOp_mono (fun a' w' h' => ih _ a' w' h' (by omega)) (hstep done a w hJ i hi)
end
/-! ### Slots -/
theorem put_comm (a : Act) {d d' : Option Tmp} (v v' : Value) (h : d ≠ d' ∨ d = none) : (a.put d v).put d' v' = (a.put d' v').put d v := by
  cases d with
  | none => rfl
  | some x =>
    cases d' with
    | none => rfl
    | some y =>
      have hxy : x ≠ y := fun e => by
        rcases h with h | h
        · exact h (by rw [e])
        · cases h
      simp only [Act.put]
      rw [Array.setIfInBounds_comm _ _ hxy]
def upd (f : Nat → Value) (i : Nat) (v : Value) : Nat → Value := fun j => if j = i then v else f j
theorem upd_at (f : Nat → Value) (i : Nat) (v : Value) : upd f i v i = v := if_pos rfl
theorem upd_ne (f : Nat → Value) {i j : Nat} (v : Value) (h : j ≠ i) : upd f i v j = f j := if_neg h
/-- The slots, where some are done. -/
def selA (dst : Nat → Option Tmp) (vals : Nat → Value) (done : Nat → Bool) : List Nat → Act → Act
  | [], a => a
  | i :: r, a => selA dst vals done r (if done i = true then a.put (dst i) (vals i) else a)
theorem put_size (a : Act) (d : Option Tmp) (v : Value) : (a.put d v).tmps.size = a.tmps.size := by cases d <;> simp [Act.put]
theorem selA_push {dst : Nat → Option Tmp} {vals : Nat → Value} {done : Nat → Bool} {d : Option Tmp} {v : Value} : ∀ (L : List Nat) (a : Act), (∀ j ∈ L, d ≠ dst j ∨ d = none) → (selA dst vals done L a).put d v = selA dst vals done L (a.put d v)
  | [], a, _ => rfl
  | i :: r, a, h => by
    unfold selA
    rw [selA_push r _ (fun j hj => h j (List.mem_cons_of_mem _ hj))]
    congr 1
    split
    · rcases h i (List.mem_cons_self ..) with e | e
      · exact put_comm a _ _ (.inl (Ne.symm e))
      · subst e; rfl
    · rfl
theorem selA_congr {dst : Nat → Option Tmp} {vals vals' : Nat → Value} {done done' : Nat → Bool} : ∀ (L : List Nat) (a : Act), (∀ j ∈ L, vals j = vals' j ∧ done j = done' j) → selA dst vals done L a = selA dst vals' done' L a
  | [], a, _ => rfl
  | i :: r, a, h => by
    unfold selA
    rw [(h i (List.mem_cons_self ..)).1, (h i (List.mem_cons_self ..)).2]
    exact selA_congr r _ (fun j hj => h j (List.mem_cons_of_mem _ hj))
/-- Number i is done, too. -/
theorem selA_set {dst : Nat → Option Tmp} {vals : Nat → Value} {done done' : Nat → Bool} {i : Nat} {v : Value} (hd : done i = false) (hd' : done' i = true) (ho : ∀ j, j ≠ i → done' j = done j) :
    ∀ (L : List Nat) (a : Act), i ∈ L → L.Nodup → (∀ j ∈ L, ∀ k ∈ L, j ≠ k → dst j ≠ dst k ∨ dst j = none) → (selA dst vals done L a).put (dst i) v = selA dst (upd vals i v) done' L a
  | j :: r, a, hi, hn, hD => by
    obtain ⟨hj, hr⟩ := List.nodup_cons.1 hn
    by_cases h : j = i
    · subst h
      unfold selA
      rw [hd, hd', if_neg (by simp), if_pos rfl, upd_at]
      rw [selA_push r a (fun k hk => hD j (List.mem_cons_self ..) k (List.mem_cons_of_mem _ hk) (fun e => hj (e ▸ hk)))]
      exact selA_congr r _ (fun k hk => ⟨(upd_ne vals v (fun (e : k = j) => hj (e ▸ hk))).symm, (ho k (fun (e : k = j) => hj (e ▸ hk))).symm⟩)
    · unfold selA
      rw [ho j h, upd_ne vals v h]
      exact selA_set hd hd' ho r _ (by simpa [Ne.symm h] using hi) hr (fun x hx y hy => hD x (List.mem_cons_of_mem _ hx) y (List.mem_cons_of_mem _ hy))
theorem selA_else {dst : Nat → Option Tmp} {vals : Nat → Value} {done : Nat → Bool} {t : Tmp} : ∀ (L : List Nat) (a : Act), (∀ j ∈ L, done j = true → dst j ≠ some t) → (selA dst vals done L a).eval (.tmp t) = a.eval (.tmp t)
  | [], a, _ => rfl
  | i :: r, a, h => by
    unfold selA
    rw [selA_else r _ (fun j hj => h j (List.mem_cons_of_mem _ hj))]
    split
    · rename_i hd
      have := h i (List.mem_cons_self ..) hd
      cases e : dst i with
      | none => rfl
      | some x =>
        have hx : x ≠ t := fun e2 => this (by rw [e, e2])
        simp [Act.eval, Act.put, Array.getElem?_setIfInBounds_ne hx]
    · rfl
theorem selA_at {dst : Nat → Option Tmp} {vals : Nat → Value} {done : Nat → Bool} {i : Nat} {t : Tmp} (hd : done i = true) (ht : dst i = some t) :
    ∀ (L : List Nat) (a : Act), i ∈ L → L.Nodup → (∀ j ∈ L, ∀ k ∈ L, j ≠ k → dst j ≠ dst k ∨ dst j = none) → t < a.tmps.size → (selA dst vals done L a).eval (.tmp t) = vals i
  | j :: r, a, hi, hn, hD, hs => by
    obtain ⟨hj, hr⟩ := List.nodup_cons.1 hn
    unfold selA
    by_cases h : j = i
    · subst h
      rw [hd, if_pos rfl, selA_else r _ (fun k hk _ e => ?_)]
      · rw [ht]
        simp [Act.eval, Act.put, hs]
      · rcases hD j (List.mem_cons_self ..) k (List.mem_cons_of_mem _ hk) (fun e2 => hj (e2 ▸ hk)) with e3 | e3
        · exact e3 (by rw [ht, e])
        · rw [ht] at e3; cases e3
    · refine selA_at hd ht r _ (by simpa [Ne.symm h] using hi) hr (fun x hx y hy => hD x (List.mem_cons_of_mem _ hx) y (List.mem_cons_of_mem _ hy)) ?_
      split
      · rw [put_size]; exact hs
      · exact hs
/-! ### The law -/
end Go.Proofs.Ytdodagpkkjpdiaa
namespace Go.Proofs.Ytdodagpkkjpdiaa
open Go.ChangeShapes Go.WideShapes Go.ChangeAt Go.RowKit Go.Shelf
set_option linter.unusedVariables false
set_option linter.unusedSimpArgs false
section
variable {P : Program} {ops : Array Oper} {Q : Exit → Act → World → Prop} {i : Nat} {o : Oper} {K : Act → World → Prop} {a : Act} {w : World}
end
theorem run_call {a : Act} {o : Oper} {f : FuncId} {args : Array Operand} {ts : Array TypeId} (ho : o.op = .call { callee := .value (.func f), args := args, argTypes := ts }) (eg : ∀ args w, (callFunc f args).run Try.prog w = .ok (.enter f args) w) (w : World) : (execOp a.eval o).run Try.prog w = .ok (.enter f (args.map a.eval)) w := by
  unfold execOp
  simp only [ho]
  go_simp
theorem each_of {ops : Array Oper} {f : Oper → Nat → Bool} (h : ops.toList.zipIdx.all (fun p => f p.1 p.2) = true) (i : Nat) (o : Oper) (ho : ops[i]? = some o) : f o i = true := by
  rw [List.all_eq_true] at h
  exact h (o, i) (List.mem_zipIdx_iff_getElem?.2 (by simpa using ho))
/-- Where nothing is left to be done, all is done. -/
theorem ends_of {ops : Array Oper} {n : Nat} (hn : ops.size = n) (hord : ∀ i o, ops[i]? = some o → ∀ e ∈ o.after, Region.binds .any e = true → e.on < i) (done : Array Bool) (hs : done.size = n) (hr : Region.ready .any ops done = []) : ∀ i, i < n → done.getD i true = true := by
  intro i
  induction i using Nat.strongRecOn with
  | _ i ih =>
    intro hi
    cases hd : done.getD i true with
    | true => rfl
    | false =>
      exfalso
      have hlt : i < ops.size := by omega
      have hm : i ∈ Region.ready .any ops done := by
        refine mem_ready.2 ⟨hd, ops[i], Array.getElem?_eq_getElem hlt, fun e he hb => ?_⟩
        have hlo := hord i _ (Array.getElem?_eq_getElem hlt) e he hb
        have := ih e.on hlo (by omega)
        have hl : e.on < done.size := by omega
        simp [hl] at this ⊢
        exact this
      rw [hr] at hm
      cases hm
end Go.Proofs.Ytdodagpkkjpdiaa
namespace Go.Proofs.Ytdodagpkkjpdiaa
open Go.ChangeShapes Go.WideShapes Go.ChangeAt Go.RowKit Go.Shelf
set_option linter.unusedVariables false
set_option linter.unusedSimpArgs false
section
variable {P : Program} {ops : Array Oper} {Q : Exit → Act → World → Prop} {i : Nat} {o : Oper} {K : Act → World → Prop} {a : Act} {w : World}
theorem op_valW (ho : ops[i]? = some o) (hw : Region.wanted o (yielded ops a.tmps) = true) {v : Value} {w' : World} (hr : (execOp a.eval o).run P w = .ok (.value v) w') (hK : K (a.put o.dst v) w') : wpOp P ops Q i K a w := by
  refine wpOp_step ho (fun K' hK' => ?_)
  rw [if_pos hw]
  unfold Oper.wp
  rw [hr]
  exact hK' _ _ hK
theorem op_enterW (ho : ops[i]? = some o) (hw : Region.wanted o (yielded ops a.tmps) = true) {f : FuncId} {args : Array Value} (hr : (execOp a.eval o).run P w = .ok (.enter f args) w) (hc : Calls P f args w fun e w' => ∃ v, e = .returned v ∧ K (a.put o.dst v) w') : wpOp P ops Q i K a w := by
  refine wpOp_step ho (fun K' hK' => ?_)
  rw [if_pos hw]
  unfold Oper.wp
  rw [hr, Oper.upon_enter]
  refine hc.mono ?_
  rintro e w' ⟨v, rfl, h⟩
  exact hK' _ _ h
end
end Go.Proofs.Ytdodagpkkjpdiaa
