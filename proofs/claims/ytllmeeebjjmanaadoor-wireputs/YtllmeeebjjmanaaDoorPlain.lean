/- The plain mathematics of the checksum: words out of bytes, their joined sum, what one byte weighs. -/
import Derived.RowKit
namespace Go.Proofs.YtllmeeebjjmanaaDoor

/-- Two words joined: their sum; beyond 16 bits without the highest bit, and one more. -/
def joinI (a b : Int) : Int := if 65535 < a + b then a + b - 65535 else a + b

theorem join_bd {a b : Int} (ha : 0 ≤ a ∧ a ≤ 65535) (hb : 0 ≤ b ∧ b ≤ 65535) : 0 ≤ joinI a b ∧ joinI a b ≤ 65535 := by
  unfold joinI; split <;> omega

/-- One byte more: the words so far, the byte that is half a word, whether one is. -/
def stepI (s : List Int × Int × Bool) (b : Int) : List Int × Int × Bool :=
  if s.2.2 = true then (s.1 ++ [256 * s.2.1 + b], b, false) else (s.1, b, true)

def stI (bs : List Int) : List Int × Int × Bool := bs.foldl stepI ([], 0, false)

def endI (s : List Int × Int × Bool) : List Int := if s.2.2 = true then s.1 ++ [256 * s.2.1] else s.1

/-- The words of bytes. -/
def wordsI (bs : List Int) : List Int := endI (stI bs)

/-- The words, joined from 0 on. -/
def accI (bs : List Int) : Int := (wordsI bs).foldl joinI 0

/-- The checksum. -/
def sumI (bs : List Int) : Int := 65535 - accI bs

def Byts (bs : List Int) : Prop := ∀ x ∈ bs, 0 ≤ x ∧ x ≤ 255

theorem st_snoc (bs : List Int) (b : Int) : stI (bs ++ [b]) = stepI (stI bs) b := by simp [stI]

theorem st_high {bs : List Int} (h : Byts bs) : 0 ≤ (stI bs).2.1 ∧ (stI bs).2.1 ≤ 255 := by
  have : ∀ (bs : List Int) (s : List Int × Int × Bool), Byts bs → (0 ≤ s.2.1 ∧ s.2.1 ≤ 255) → 0 ≤ (bs.foldl stepI s).2.1 ∧ (bs.foldl stepI s).2.1 ≤ 255 := by
    intro bs
    induction bs with
    | nil => intro s _ hs; simpa using hs
    | cons b r ih =>
      intro s hb hs
      rw [List.foldl_cons]
      refine ih _ (fun x hx => hb x (List.mem_cons_of_mem _ hx)) ?_
      have := hb b (List.mem_cons_self ..)
      unfold stepI; split <;> exact this
  exact this bs _ h (by simp)

theorem st_words {bs : List Int} (h : Byts bs) : ∀ x ∈ (stI bs).1, 0 ≤ x ∧ x ≤ 65535 := by
  have : ∀ (bs : List Int) (s : List Int × Int × Bool), Byts bs → (0 ≤ s.2.1 ∧ s.2.1 ≤ 255) → (∀ x ∈ s.1, 0 ≤ x ∧ x ≤ 65535) → ∀ x ∈ (bs.foldl stepI s).1, 0 ≤ x ∧ x ≤ 65535 := by
    intro bs
    induction bs with
    | nil => intro s _ _ hs; simpa using hs
    | cons b r ih =>
      intro s hb hs hw
      have hb0 := hb b (List.mem_cons_self ..)
      rw [List.foldl_cons]
      refine ih _ (fun x hx => hb x (List.mem_cons_of_mem _ hx)) ?_ ?_
      · unfold stepI; split <;> exact hb0
      · unfold stepI; split
        · intro x hx
          simp only [List.mem_append, List.mem_singleton] at hx
          rcases hx with hx | rfl
          · exact hw x hx
          · omega
        · exact hw
  exact this bs _ h (by simp) (by simp)

theorem words_bd {bs : List Int} (h : Byts bs) : ∀ x ∈ wordsI bs, 0 ≤ x ∧ x ≤ 65535 := by
  intro x hx
  unfold wordsI endI at hx
  split at hx
  · simp only [List.mem_append, List.mem_singleton] at hx
    rcases hx with hx | rfl
    · exact st_words h x hx
    · have := st_high h; omega
  · exact st_words h x hx

theorem fold_bd : ∀ (ws : List Int) (a : Int), (0 ≤ a ∧ a ≤ 65535) → (∀ x ∈ ws, 0 ≤ x ∧ x ≤ 65535) → 0 ≤ ws.foldl joinI a ∧ ws.foldl joinI a ≤ 65535
  | [], a, ha, _ => ha
  | x :: r, a, ha, h => by
    rw [List.foldl_cons]
    exact fold_bd r _ (join_bd ha (h x (List.mem_cons_self ..))) (fun y hy => h y (List.mem_cons_of_mem _ hy))

theorem acc_bd {bs : List Int} (h : Byts bs) : 0 ≤ accI bs ∧ accI bs ≤ 65535 := fold_bd _ _ (by omega) (words_bd h)

/-- How many words have come. -/
theorem st_len (bs : List Int) : (stI bs).1.length ≤ bs.length := by
  have : ∀ (bs : List Int) (s : List Int × Int × Bool), (bs.foldl stepI s).1.length ≤ s.1.length + bs.length := by
    intro bs
    induction bs with
    | nil => intro s; simp
    | cons b r ih =>
      intro s
      rw [List.foldl_cons]
      refine Nat.le_trans (ih _) ?_
      unfold stepI; split <;> simp <;> omega
  have := this bs ([], 0, false)
  simpa [stI] using this

/-! ### What the bytes weigh -/

/-- The weight of bytes, the first one's place being odd or not. -/
def wt : Bool → List Int → Int
  | _, [] => 0
  | false, b :: r => 256 * b + wt true r
  | true, b :: r => b + wt false r

theorem end_sum : ∀ (bs : List Int) (s : List Int × Int × Bool),
    (endI (bs.foldl stepI s)).sum = s.1.sum + (if s.2.2 = true then 256 * s.2.1 + wt true bs else wt false bs)
  | [], s => by
    obtain ⟨ws, h, f⟩ := s
    cases f <;> simp [wt, endI]
  | b :: r, s => by
    rw [List.foldl_cons, end_sum r]
    obtain ⟨ws, h, f⟩ := s
    cases f <;> simp [stepI, wt] <;> omega

theorem words_sum (bs : List Int) : (wordsI bs).sum = wt false bs := by
  have := end_sum bs ([], 0, false)
  simpa [wordsI, stI] using this

/-- The number from 1 to 65535 that leaves the same; 0 for 0. -/
def cnorm (s : Int) : Int := if s = 0 then 0 else (s - 1) % 65535 + 1

theorem cnorm_join {s b : Int} (hs : 0 ≤ s) (hb : 0 ≤ b ∧ b ≤ 65535) : joinI (cnorm s) b = cnorm (s + b) := by
  unfold joinI cnorm
  by_cases h : s = 0
  · subst h
    simp only [if_pos]
    by_cases hb0 : b = 0
    · subst hb0; simp
    · rw [if_neg (by omega), if_neg (by omega)]
      omega
  · rw [if_neg h, if_neg (show ¬ s + b = 0 by omega)]
    split <;> omega

theorem fold_cnorm : ∀ (ws : List Int) (s : Int), 0 ≤ s → (∀ x ∈ ws, 0 ≤ x ∧ x ≤ 65535) → ws.foldl joinI (cnorm s) = cnorm (s + ws.sum)
  | [], s, _, _ => by simp
  | x :: r, s, hs, h => by
    have hx := h x (List.mem_cons_self ..)
    rw [List.foldl_cons, cnorm_join hs hx, fold_cnorm r _ (by omega) (fun y hy => h y (List.mem_cons_of_mem _ hy)), List.sum_cons, Int.add_assoc]

theorem acc_eq {bs : List Int} (h : Byts bs) : accI bs = cnorm (wt false bs) := by
  have := fold_cnorm (wordsI bs) 0 (by omega) (words_bd h)
  rw [words_sum, Int.zero_add] at this
  exact this

theorem wt_nonneg : ∀ (f : Bool) (bs : List Int), Byts bs → 0 ≤ wt f bs
  | _, [], _ => by simp [wt]
  | false, b :: r, h => by
    have := wt_nonneg true r (fun x hx => h x (List.mem_cons_of_mem _ hx))
    have := h b (List.mem_cons_self ..)
    simp only [wt]; omega
  | true, b :: r, h => by
    have := wt_nonneg false r (fun x hx => h x (List.mem_cons_of_mem _ hx))
    have := h b (List.mem_cons_self ..)
    simp only [wt]; omega

/-- Another byte at a place. -/
theorem wt_set : ∀ (k : Nat) (f : Bool) (bs : List Int) (x : Int), k < bs.length →
    wt f (bs.set k x) = wt f bs + (if (f = true ↔ k % 2 = 1) then 256 else 1) * (x - bs[k]?.getD 0)
  | _, _, [], _, h => by simp at h
  | 0, f, b :: r, x, _ => by
    cases f <;> simp [wt] <;> omega
  | k + 1, f, b :: r, x, h => by
    have hk : k < r.length := by simpa using h
    have e1 := wt_set k true r x hk
    have e2 := wt_set k false r x hk
    cases f
    · simp only [List.set_cons_succ, wt, e1, List.getElem?_cons_succ]
      by_cases hp : k % 2 = 1
      · have : ¬ (k + 1) % 2 = 1 := by omega
        simp [hp, this]; omega
      · have : (k + 1) % 2 = 1 := by omega
        simp [hp, this]; omega
    · simp only [List.set_cons_succ, wt, e2, List.getElem?_cons_succ]
      by_cases hp : k % 2 = 1
      · have : ¬ (k + 1) % 2 = 1 := by omega
        simp [hp, this]; omega
      · have : (k + 1) % 2 = 1 := by omega
        simp [hp, this]; omega

theorem byts_set {bs : List Int} (h : Byts bs) (k : Nat) {x : Int} (hx : 0 ≤ x ∧ x ≤ 255) : Byts (bs.set k x) := by
  intro y hy
  rcases List.mem_or_eq_of_mem_set hy with hy | rfl
  · exact h y hy
  · exact hx

theorem byts_append {as bs : List Int} (ha : Byts as) (hb : Byts bs) : Byts (as ++ bs) := by
  intro x hx
  rcases List.mem_append.1 hx with h | h
  · exact ha x h
  · exact hb x h

/-- A text is valid just where its weight is a multiple of 65535 that is not 0. -/
theorem sum_zero {bs : List Int} (h : Byts bs) : sumI bs = 0 ↔ (0 < wt false bs ∧ wt false bs % 65535 = 0) := by
  have := wt_nonneg false bs h
  unfold sumI
  rw [acc_eq h]
  unfold cnorm
  split <;> omega

/-- With its sum in it a text is valid. -/
theorem fit_valid {b0 b1 : List Int} (h0 : Byts b0) (h1 : Byts b1) (e : wt false b1 = wt false b0 + sumI b0) : sumI b1 = 0 := by
  rw [sum_zero h1, e]
  have := wt_nonneg false b0 h0
  unfold sumI
  rw [acc_eq h0]
  unfold cnorm
  split <;> omega
end Go.Proofs.YtllmeeebjjmanaaDoor
