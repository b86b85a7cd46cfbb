/- What a segment tells a sender, in plain mathematics: what the document's words answer, and what follows (P22.1 to P22.3). -/
import Derived.Test.YtdodagpkkjpdiaaSPlain2
namespace Go.Proofs.Ytdodagpkkjpdiaa.Ak
set_option linter.unusedVariables false

def dif (a b : Int) : Int := (b - a + 2147483648) % 4294967296 - 2147483648
def sat (x : Int) : Int := if 9223372036854775807 < x then 9223372036854775807 else if x < -9223372036854775808 then -9223372036854775808 else x
/-- The offset of a sequence number, near another offset. -/
def ofs (near s first : Int) : Int := sat (near + dif (near % 4294967296) ((s - first) % 4294967296))
/-- What a sender knows. -/
structure As where
  una : Int
  nxt : Int
  iss : Int
  per : Int
  irs : Int
  stm : Bool
  rcn : Int
  now : Int
  sck : Bool
/-- What of a segment is looked at: has it the flag Ack, has it Syn or Rst. -/
structure Sn where
  sq : Int
  ak : Int
  fa : Bool
  fs : Bool
  wn : Int
  st : Bool
  va : Int
  ec : Int
  sk : List (Int × Int)
/-- What is heard. -/
structure Hr where
  cn : Bool
  ak : Int
  old : Bool
  pos : Int
  wn : Int
  rcn : Int
  rtt : Int
  tw : Bool
  sp : List Tm
def hrZ : Hr := ⟨false, 0, false, 0, 0, 0, 0, false, []⟩
def xI (a : As) (s : Sn) : Int := ofs a.una s.ak a.iss
def posI (a : As) (s : Sn) : Int := ofs a.per s.sq a.irs
/-- P22.1. -/
def cntB (a : As) (s : Sn) : Bool := decide (0 ≤ a.una ∧ a.una ≤ a.nxt ∧ a.nxt ≤ 1125899906842625) && (s.fa && (!s.fs && ((!a.stm || (s.st && decide (0 ≤ dif a.rcn s.va))) && (decide (posI a s = a.per) && decide (0 ≤ xI a s ∧ xI a s ≤ a.nxt)))))
def blks (a : As) (s : Sn) : List Tm := s.sk.map fun b => (ofs a.una b.1 a.iss, ofs a.una b.2 a.iss)
def secB (b : Tm) : List Tm → Bool
  | [] => false
  | c :: _ => decide (c.1 ≤ b.1 ∧ b.2 ≤ c.2)
/-- Twice, as the program reads it: the words on an empty block speak of what lies below x alone. -/
def twB (x : Int) : List Tm → Bool
  | [] => false
  | b :: r => (decide (b.1 < b.2) && decide (b.2 ≤ x)) || secB b r
def keepB (lo hi : Int) (b : Tm) : Bool := decide (lo ≤ b.1 ∧ b.1 < b.2 ∧ b.2 ≤ hi ∧ b.2 ≤ 1125899906842624)
def laidL (lo hi : Int) (l : List Tm) : List Tm := l.foldl (fun r b => if keepB lo hi b = true then addV r b else r) []
def leftL (x : Int) (l : List Tm) : List Tm := if twB x l = true then l.drop 1 else l
/-- P22.2. -/
def hear (a : As) (s : Sn) : Hr :=
  if cntB a s = true then
    ⟨true, max (xI a s) a.una, decide (xI a s < a.una), posI a s, s.wn, if a.stm = true then s.va else 0, if a.stm = true ∧ a.una < xI a s then max (dif s.ec a.now) 0 else 0,
      a.sck && twB (xI a s) (blks a s), if a.sck = true then laidL (max (xI a s) a.una) a.nxt (leftL (xI a s) (blks a s)) else []⟩
  else hrZ

theorem laid_go {lo hi : Int} (h0 : 0 ≤ lo) : ∀ (l r : List Tm), chk (-1) r = true → chk (-1) (l.foldl (fun r b => if keepB lo hi b = true then addV r b else r) r) = true ∧ ∀ o, Has (l.foldl (fun r b => if keepB lo hi b = true then addV r b else r) r) o ↔ (∃ b ∈ l, keepB lo hi b = true ∧ b.1 ≤ o ∧ o < b.2) ∨ Has r o
  | [], r, h => ⟨h, fun o => by simp⟩
  | b :: l, r, h => by
    show chk (-1) (l.foldl _ (if keepB lo hi b = true then addV r b else r)) = true ∧ ∀ o, Has (l.foldl _ (if keepB lo hi b = true then addV r b else r)) o ↔ _
    by_cases hk : keepB lo hi b = true
    · have hk2 := of_decide_eq_true (show decide (lo ≤ b.1 ∧ b.1 < b.2 ∧ b.2 ≤ hi ∧ b.2 ≤ 1125899906842624) = true from hk)
      have hr : rightB b = true := rightB_iff.2 ⟨by omega, by omega, by omega⟩
      rw [if_pos hk]
      obtain ⟨g1, g2⟩ := laid_go h0 l (addV r b) (addV_chk h hr)
      refine ⟨g1, fun o => ?_⟩
      rw [g2 o, addV_has h hr]
      constructor
      · rintro (⟨c, hc, k⟩ | k | k)
        · exact .inl ⟨c, List.mem_cons_of_mem _ hc, k⟩
        · exact .inl ⟨b, List.mem_cons_self .., hk, k⟩
        · exact .inr k
      · rintro (⟨c, hc, k1, k2⟩ | k)
        · rcases List.mem_cons.1 hc with rfl | hc
          · exact .inr (.inl k2)
          · exact .inl ⟨c, hc, k1, k2⟩
        · exact .inr (.inr k)
    · rw [if_neg hk]
      obtain ⟨g1, g2⟩ := laid_go h0 l r h
      refine ⟨g1, fun o => ?_⟩
      rw [g2 o]
      constructor
      · rintro (⟨c, hc, k⟩ | k)
        · exact .inl ⟨c, List.mem_cons_of_mem _ hc, k⟩
        · exact .inr k
      · rintro (⟨c, hc, k1, k2⟩ | k)
        · rcases List.mem_cons.1 hc with rfl | hc
          · exact absurd k1 hk
          · exact .inl ⟨c, hc, k1, k2⟩
        · exact .inr k
theorem laid_chk {lo hi : Int} (h0 : 0 ≤ lo) (l : List Tm) : chk (-1) (laidL lo hi l) = true := (laid_go h0 l [] rfl).1
theorem laid_has {lo hi : Int} (h0 : 0 ≤ lo) (l : List Tm) (o : Int) : Has (laidL lo hi l) o ↔ ∃ b ∈ l, keepB lo hi b = true ∧ b.1 ≤ o ∧ o < b.2 := by
  rw [show Has (laidL lo hi l) o ↔ _ from (laid_go h0 l [] rfl).2 o]
  constructor
  · rintro (k | k)
    · exact k
    · exact absurd k (has_nil o)
  · exact .inl
theorem chk_each : ∀ {l : List Tm} {e : Int}, chk e l = true → ∀ s ∈ l, e < s.1 ∧ s.1 < s.2
  | [], _, _, s, hs => by cases hs
  | x :: r, e, h, s, hs => by
    obtain ⟨k1, k2⟩ := chk_cons.1 h
    rcases List.mem_cons.1 hs with rfl | hs
    · exact ⟨k1.1, k1.2.1⟩
    · have := chk_each k2 s hs; omega
/-- Each span that is told lies between. -/
theorem laid_in {lo hi : Int} (h0 : 0 ≤ lo) (l : List Tm) : ∀ s ∈ laidL lo hi l, lo ≤ s.1 ∧ s.2 ≤ hi := fun s hs => by
  have hc := (chk_each (laid_chk h0 l) s hs).2
  obtain ⟨b, _, hk, k1, k2⟩ := (laid_has (hi := hi) h0 l s.1).1 ⟨s, hs, Int.le_refl _, hc⟩
  obtain ⟨c, _, hk', k3, k4⟩ := (laid_has (hi := hi) h0 l (s.2 - 1)).1 ⟨s, hs, by omega, by omega⟩
  have e1 := of_decide_eq_true (show decide (lo ≤ b.1 ∧ b.1 < b.2 ∧ b.2 ≤ hi ∧ b.2 ≤ 1125899906842624) = true from hk)
  have e2 := of_decide_eq_true (show decide (lo ≤ c.1 ∧ c.1 < c.2 ∧ c.2 ≤ hi ∧ c.2 ≤ 1125899906842624) = true from hk')
  omega
/-- A row that has the offsets of the blocks is what is laid. -/
theorem laid_is {lo hi : Int} (h0 : 0 ≤ lo) {l r : List Tm} (hr : chk (-1) r = true) (hk : ∀ b ∈ l, keepB lo hi b = true) (h1 : ∀ b ∈ l, b ∈ r) (h2 : ∀ b ∈ r, b ∈ l) : laidL lo hi l = r := by
  refine row_eq (laid_chk h0 l) hr fun o => ?_
  rw [laid_has h0]
  constructor
  · rintro ⟨b, hb, _, k⟩; exact ⟨b, h1 b hb, k⟩
  · rintro ⟨b, hb, k⟩; exact ⟨b, h2 b hb, hk b (h2 b hb), k⟩
theorem cnt_out {a : As} {s : Sn} (h : cntB a s = true) : (0 ≤ a.una ∧ a.una ≤ a.nxt ∧ a.nxt ≤ 1125899906842625) ∧ s.fa = true ∧ s.fs = false ∧ (a.stm = true → s.st = true ∧ 0 ≤ dif a.rcn s.va) ∧ posI a s = a.per ∧ 0 ≤ xI a s ∧ xI a s ≤ a.nxt := by
  unfold cntB at h
  simp only [Bool.and_eq_true, Bool.or_eq_true, Bool.not_eq_true', decide_eq_true_eq] at h
  obtain ⟨k1, k2, k3, k4, k5, k6⟩ := h
  refine ⟨k1, k2, k3, fun hs => ?_, k5, k6⟩
  rcases k4 with k4 | k4
  · rw [hs] at k4; cases k4
  · exact k4
theorem cnt_in {a : As} {s : Sn} (h1 : 0 ≤ a.una ∧ a.una ≤ a.nxt ∧ a.nxt ≤ 1125899906842625) (h2 : s.fa = true) (h3 : s.fs = false) (h4 : a.stm = true → s.st = true ∧ 0 ≤ dif a.rcn s.va) (h5 : posI a s = a.per) (h6 : 0 ≤ xI a s ∧ xI a s ≤ a.nxt) : cntB a s = true := by
  unfold cntB
  simp only [Bool.and_eq_true, Bool.or_eq_true, Bool.not_eq_true', decide_eq_true_eq]
  refine ⟨h1, h2, h3, ?_, h5, h6⟩
  cases hs : a.stm with
  | false => exact .inl rfl
  | true => exact .inr (h4 hs)
/-- AckWithin. -/
theorem within {a : As} {s : Sn} (h : cntB a s = true) : (hear a s).cn = true ∧ a.una ≤ (hear a s).ak ∧ (hear a s).ak ≤ a.nxt ∧ 0 ≤ (hear a s).rtt ∧ chk (-1) (hear a s).sp = true ∧ ((hear a s).old = true → (hear a s).ak = a.una) ∧ ∀ c ∈ (hear a s).sp, (hear a s).ak ≤ c.1 ∧ c.2 ≤ a.nxt := by
  obtain ⟨k1, _, _, _, _, k6⟩ := cnt_out h
  have hm : 0 ≤ max (xI a s) a.una := by omega
  unfold hear
  rw [if_pos h]
  refine ⟨rfl, ?_, ?_, ?_, ?_, fun ho => ?_, ?_⟩
  · show a.una ≤ max (xI a s) a.una; omega
  · show max (xI a s) a.una ≤ a.nxt; omega
  · show 0 ≤ if a.stm = true ∧ a.una < xI a s then max (dif s.ec a.now) 0 else 0
    split <;> omega
  · show chk (-1) (if a.sck = true then _ else []) = true
    split
    · exact laid_chk hm _
    · rfl
  · have : xI a s < a.una := of_decide_eq_true ho
    show max (xI a s) a.una = a.una
    omega
  · show ∀ c ∈ (if a.sck = true then _ else []), _
    split
    · exact laid_in hm _
    · intro c hc; cases hc
theorem without {a : As} {s : Sn} (h : cntB a s = false) : hear a s = hrZ := by unfold hear; rw [if_neg (by simp [h])]
/-- Numbers of both sides moved. -/
theorem ofs_shift (near s first by_ : Int) : ofs near ((s + by_) % 4294967296) ((first + by_) % 4294967296) = ofs near s first := by
  unfold ofs
  rw [show ((s + by_) % 4294967296 - (first + by_) % 4294967296) % 4294967296 = (s - first) % 4294967296 by omega]
def shiftA (a : As) (u v : Int) : As := { a with iss := (a.iss + u) % 4294967296, irs := (a.irs + v) % 4294967296 }
def shiftS (s : Sn) (u v : Int) : Sn := { s with ak := (s.ak + u) % 4294967296, sq := (s.sq + v) % 4294967296, sk := s.sk.map fun b => ((b.1 + u) % 4294967296, (b.2 + u) % 4294967296) }
/-- AckShifts. -/
theorem shifts (a : As) (s : Sn) (u v : Int) : hear (shiftA a u v) (shiftS s u v) = hear a s := by
  have e1 : xI (shiftA a u v) (shiftS s u v) = xI a s := ofs_shift a.una s.ak a.iss u
  have e2 : posI (shiftA a u v) (shiftS s u v) = posI a s := ofs_shift a.per s.sq a.irs v
  have e3 : blks (shiftA a u v) (shiftS s u v) = blks a s := by
    show (s.sk.map _).map _ = s.sk.map _
    rw [List.map_map]
    refine List.map_congr_left fun b _ => ?_
    show (ofs a.una _ _, ofs a.una _ _) = _
    exact Prod.ext (ofs_shift a.una b.1 a.iss u) (ofs_shift a.una b.2 a.iss u)
  have e4 : cntB (shiftA a u v) (shiftS s u v) = cntB a s := by unfold cntB; rw [e1, e2]; rfl
  unfold hear
  rw [e1, e2, e3, e4]
  rfl
/-- AckPlain. -/
theorem plain (a : As) (s : Sn) : hear { a with sck := false } s = { hear a s with sp := [], tw := false } ∧ hear a { s with sk := [] } = { hear a s with sp := [], tw := false } := by
  have e1 : cntB { a with sck := false } s = cntB a s := rfl
  have e2 : cntB a { s with sk := [] } = cntB a s := rfl
  cases h : cntB a s with
  | false => rw [without (a := { a with sck := false }) (e1.trans h), without (s := { s with sk := [] }) (e2.trans h), without h]; exact ⟨rfl, rfl⟩
  | true =>
    constructor
    · unfold hear
      rw [if_pos (e1.trans h), if_pos h]
      rfl
    · unfold hear
      rw [if_pos (e2.trans h), if_pos h]
      have : laidL (max (xI a { s with sk := [] }) a.una) a.nxt (leftL (xI a { s with sk := [] }) (blks a { s with sk := [] })) = [] := rfl
      simp only [this]
      cases a.sck with
      | true => rfl
      | false => rfl

theorem len_in : ∀ {l : List Tm} {e hi : Int}, chk e l = true → (∀ s ∈ l, s.2 ≤ hi) → e ≤ hi → e + 2 * (l.length : Int) ≤ hi
  | [], _, _, _, _, h => by simpa using h
  | x :: r, e, hi, h, hs, he => by
    obtain ⟨k1, k2⟩ := chk_cons.1 h
    have k3 := hs x (List.mem_cons_self ..)
    have := len_in k2 (fun s hs' => hs s (List.mem_cons_of_mem _ hs')) k3
    simp only [List.length_cons, Int.natCast_add, Int.natCast_one]
    omega
theorem chk_up : ∀ {l : List Tm} {e a : Int}, chk e l = true → (∀ s ∈ l, a < s.1) → chk a l = true
  | [], _, _, _, _ => rfl
  | x :: r, e, a, h, hs => by
    obtain ⟨k1, k2⟩ := chk_cons.1 h
    exact chk_cons.2 ⟨⟨hs x (List.mem_cons_self ..), k1.2⟩, k2⟩
/-- Blocks whose offsets lie within 2^32: no more than 2^31 spans come of them. -/
theorem laid_len {lo hi A : Int} (h0 : 0 ≤ lo) (l : List Tm) (hw : ∀ b ∈ l, A ≤ b.1 ∧ b.2 ≤ A + 4294967296) : (laidL lo hi l).length ≤ 2147483648 := by
  cases hn : laidL lo hi l with
  | nil => simp
  | cons x r =>
    rw [← hn]
    have hc := laid_chk (hi := hi) h0 l
    have key : ∀ s ∈ laidL lo hi l, A - 1 < s.1 ∧ s.2 ≤ A + 4294967296 := fun s hs => by
      have hk := (chk_each hc s hs).2
      obtain ⟨b, hb, _, k1, k2⟩ := (laid_has (hi := hi) h0 l s.1).1 ⟨s, hs, Int.le_refl _, hk⟩
      obtain ⟨c, hc', _, k3, k4⟩ := (laid_has (hi := hi) h0 l (s.2 - 1)).1 ⟨s, hs, by omega, by omega⟩
      have := hw b hb
      have := hw c hc'
      omega
    have := len_in (chk_up hc fun s hs => (key s hs).1) (fun s hs => (key s hs).2) (by have := key x (by rw [hn]; exact List.mem_cons_self ..); have := chk_each hc x (by rw [hn]; exact List.mem_cons_self ..); omega)
    omega
theorem laid_snoc (lo hi : Int) (l : List Tm) (b : Tm) : laidL lo hi (l ++ [b]) = if keepB lo hi b = true then addV (laidL lo hi l) b else laidL lo hi l := by
  unfold laidL; rw [List.foldl_append]; rfl
/-- Two bounds of MaxOffset and Next in one. -/
theorem keep_min {lo hi : Int} (b : Tm) : keepB lo (min hi 1125899906842624) b = keepB lo hi b := by
  unfold keepB
  rw [Bool.eq_iff_iff, decide_eq_true_eq, decide_eq_true_eq]
  omega
theorem laid_min {lo hi : Int} (l : List Tm) : laidL lo (min hi 1125899906842624) l = laidL lo hi l := by
  unfold laidL
  congr 1
  funext r b
  rw [keep_min]
theorem dif_bd (a b : Int) : -2147483648 ≤ dif a b ∧ dif a b ≤ 2147483647 := by unfold dif; omega
theorem ofs_bd {near : Int} (h : 0 ≤ near ∧ near ≤ 1125899906842625) (s first : Int) : near - 2147483648 ≤ ofs near s first ∧ ofs near s first ≤ near + 2147483647 := by
  have := dif_bd (near % 4294967296) ((s - first) % 4294967296)
  unfold ofs sat
  split
  · omega
  · split <;> omega
theorem ofs_i64 (near s first : Int) : -9223372036854775808 ≤ ofs near s first ∧ ofs near s first ≤ 9223372036854775807 := by
  unfold ofs sat
  split
  · omega
  · split <;> omega
theorem blks_in {a : As} (h : 0 ≤ a.una ∧ a.una ≤ 1125899906842625) (s : Sn) : ∀ b ∈ blks a s, a.una - 2147483648 ≤ b.1 ∧ b.2 ≤ a.una - 2147483648 + 4294967296 := fun b hb => by
  obtain ⟨c, _, rfl⟩ := List.mem_map.1 hb
  have h1 := ofs_bd h c.1 a.iss
  have h2 := ofs_bd h c.2 a.iss
  show a.una - 2147483648 ≤ ofs a.una c.1 a.iss ∧ ofs a.una c.2 a.iss ≤ _
  omega
end Go.Proofs.Ytdodagpkkjpdiaa.Ak
