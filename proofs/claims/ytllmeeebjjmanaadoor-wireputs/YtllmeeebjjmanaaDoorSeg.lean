/- The plain mathematics of segments as bytes: what is written, what is read. -/
import Derived.Test.YtllmeeebjjmanaaDoorFit
namespace Go.Proofs.YtllmeeebjjmanaaDoor
set_option linter.unusedVariables false

/-- The four bytes of a number, the highest first. -/
def fourI (x : Int) : List Int := [x / 16777216, x / 65536 % 256, x / 256 % 256, x % 256]
/-- The two low bytes of a number, the highest first. -/
def twoI (x : Int) : List Int := [x / 256 % 256, x % 256]
/-- The twelve bytes that stand ahead. -/
def pseudoI (src dst n : Int) : List Int := fourI src ++ fourI dst ++ [0, 6, n / 256 % 256, n % 256]

def U32 (x : Int) : Prop := 0 ≤ x ∧ x ≤ 4294967295

theorem four_byts {x : Int} (h : 0 ≤ x ∧ x ≤ 4294967295) : Byts (fourI x) := by
  intro y hy
  simp only [fourI, List.mem_cons, List.not_mem_nil, or_false] at hy
  omega
theorem two_byts (x : Int) : Byts (twoI x) := by
  intro y hy
  simp only [twoI, List.mem_cons, List.not_mem_nil, or_false] at hy
  omega
theorem pseudo_byts {src dst n : Int} (hs : 0 ≤ src ∧ src ≤ 4294967295) (hd : 0 ≤ dst ∧ dst ≤ 4294967295) : Byts (pseudoI src dst n) := by
  refine byts_append (byts_append (four_byts hs) (four_byts hd)) ?_
  intro y hy
  simp only [List.mem_cons, List.not_mem_nil, or_false] at hy
  omega

/-- A segment. -/
structure Seg where
  sp : Int
  dp : Int
  sq : Int
  ak : Int
  fl : Int
  wn : Int
  ur : Int
  ms : Int
  sc : Int
  so : Bool
  st : Bool
  va : Int
  ec : Int
  sk : List (Int × Int)
  da : List Int

def zeroS : Seg := ⟨0, 0, 0, 0, 0, 0, 0, 0, 0, false, false, 0, 0, [], []⟩

/-- What a segment's fields hold by their types. -/
structure SegOk (s : Seg) : Prop where
  sq : U32 s.sq
  ak : U32 s.ak
  va : U32 s.va
  ec : U32 s.ec
  sk : ∀ b ∈ s.sk, U32 b.1 ∧ U32 b.2
  da : Byts s.da

def blkI (b : Int × Int) : List Int := fourI b.1 ++ fourI b.2
def blksI (l : List (Int × Int)) : List Int := l.flatMap blkI

theorem blks_len (l : List (Int × Int)) : (blksI l).length = 8 * l.length := by
  induction l with
  | nil => rfl
  | cons a r ih =>
    have : blksI (a :: r) = blkI a ++ blksI r := rfl
    rw [this, List.length_append, ih]
    simp [blkI, fourI]; omega

def mssI (m : Int) : List Int := if 0 ≤ m then [2, 4, m / 256 % 256, m % 256] else []
def scaI (m : Int) : List Int := if 0 ≤ m then [3, 3, m % 256] else []
def sokI (b : Bool) : List Int := if b = true then [4, 2] else []
def stpI (b : Bool) (v e : Int) : List Int := if b = true then [8, 10] ++ fourI v ++ fourI e else []
def sksI (l : List (Int × Int)) : List Int := if l = [] then [] else [5, (2 + 8 * (l.length : Int)) % 256] ++ blksI l

/-- The options, not yet padded. -/
def rawI (s : Seg) : List Int := mssI s.ms ++ scaI s.sc ++ sokI s.so ++ stpI s.st s.va s.ec ++ sksI s.sk
def padI (l : List Int) : List Int := l ++ List.replicate ((4 - l.length % 4) % 4) 0
def optI (s : Seg) : List Int := padI (rawI s)

theorem raw_len (s : Seg) : (rawI s).length = (if 0 ≤ s.ms then 4 else 0) + (if 0 ≤ s.sc then 3 else 0) + (if s.so = true then 2 else 0) + (if s.st = true then 10 else 0) + (if s.sk = [] then 0 else 2 + 8 * s.sk.length) := by
  simp only [rawI, List.length_append]
  congr 1
  · congr 1
    · congr 1
      · congr 1
        · unfold mssI; split <;> rfl
        · unfold scaI; split <;> rfl
      · unfold sokI; split <;> rfl
    · unfold stpI; split <;> rfl
  · unfold sksI; split
    · rfl
    · rw [List.length_append, blks_len]; rfl

theorem pad_len (l : List Int) : (padI l).length = (l.length + 3) / 4 * 4 := by
  simp only [padI, List.length_append, List.length_replicate]; omega
theorem opt_len4 (s : Seg) : (optI s).length % 4 = 0 := by
  unfold optI; rw [pad_len]; omega

theorem blks_byts : ∀ (l : List (Int × Int)), (∀ b ∈ l, U32 b.1 ∧ U32 b.2) → Byts (blksI l)
  | [], _ => by intro x hx; simp [blksI] at hx
  | a :: r, h => by
    have : blksI (a :: r) = blkI a ++ blksI r := rfl
    rw [this]
    have ha := h a (List.mem_cons_self ..)
    exact byts_append (byts_append (four_byts ha.1) (four_byts ha.2)) (blks_byts r (fun b hb => h b (List.mem_cons_of_mem _ hb)))

theorem raw_byts {s : Seg} (h : SegOk s) : Byts (rawI s) := by
  unfold rawI
  refine byts_append (byts_append (byts_append (byts_append ?_ ?_) ?_) ?_) ?_
  · unfold mssI; split
    · intro x hx; simp only [List.mem_cons, List.not_mem_nil, or_false] at hx; omega
    · intro x hx; simp at hx
  · unfold scaI; split
    · intro x hx; simp only [List.mem_cons, List.not_mem_nil, or_false] at hx; omega
    · intro x hx; simp at hx
  · unfold sokI; split
    · intro x hx; simp only [List.mem_cons, List.not_mem_nil, or_false] at hx; omega
    · intro x hx; simp at hx
  · unfold stpI; split
    · refine byts_append (byts_append ?_ (four_byts h.va)) (four_byts h.ec)
      intro x hx; simp only [List.mem_cons, List.not_mem_nil, or_false] at hx; omega
    · intro x hx; simp at hx
  · unfold sksI; split
    · intro x hx; simp at hx
    · refine byts_append ?_ (blks_byts _ h.sk)
      intro x hx; simp only [List.mem_cons, List.not_mem_nil, or_false] at hx; omega

theorem pad_byts {l : List Int} (h : Byts l) : Byts (padI l) := by
  refine byts_append h ?_
  intro x hx
  have := List.eq_of_mem_replicate hx
  omega
theorem opt_byts {s : Seg} (h : SegOk s) : Byts (optI s) := pad_byts (raw_byts h)

/-- May it be? -/
def ChkI (s : Seg) : Prop := (0 ≤ s.sp ∧ s.sp ≤ 65535) ∧ (0 ≤ s.dp ∧ s.dp ≤ 65535) ∧ (0 ≤ s.wn ∧ s.wn ≤ 65535) ∧ (0 ≤ s.ur ∧ s.ur ≤ 65535) ∧ (0 ≤ s.fl ∧ s.fl ≤ 255) ∧
  (-1 ≤ s.ms ∧ s.ms ≤ 65535) ∧ (-1 ≤ s.sc ∧ s.sc ≤ 14) ∧ (s.st = true ∨ (s.va = 0 ∧ s.ec = 0)) ∧ s.da.length ≤ 65000 ∧ s.sk.length ≤ 4 ∧ (optI s).length ≤ 40

def headI (s : Seg) (o : Nat) : List Int := twoI s.sp ++ twoI s.dp ++ fourI s.sq ++ fourI s.ak ++ [(16 * (5 + (o : Int) / 4)), s.fl] ++ twoI s.wn ++ [0, 0] ++ twoI s.ur
def bodyI (s : Seg) : List Int := headI s (optI s).length ++ optI s ++ s.da
def sealI (src dst : Int) (b : List Int) : List Int := (b.set 16 (sumI (pseudoI src dst b.length ++ b) / 256)).set 17 (sumI (pseudoI src dst b.length ++ b) % 256)
/-- The bytes of a segment. -/
def putI (s : Seg) (src dst : Int) : List Int := sealI src dst (bodyI s)

theorem head_len (s : Seg) (o : Nat) : (headI s o).length = 20 := rfl
theorem body_len (s : Seg) : (bodyI s).length = 20 + (optI s).length + s.da.length := by
  simp only [bodyI, List.length_append, head_len]
theorem seal_len (src dst : Int) (b : List Int) : (sealI src dst b).length = b.length := by simp [sealI]
theorem put_len (s : Seg) (src dst : Int) : (putI s src dst).length = 20 + (optI s).length + s.da.length := by
  rw [putI, seal_len, body_len]

theorem head_byts {s : Seg} (h : SegOk s) {o : Nat} (ho : o ≤ 40) (hf : 0 ≤ s.fl ∧ s.fl ≤ 255) : Byts (headI s o) := by
  unfold headI
  refine byts_append (byts_append (byts_append (byts_append (byts_append (byts_append (byts_append ?_ ?_) ?_) ?_) ?_) ?_) ?_) ?_
  · exact two_byts _
  · exact two_byts _
  · exact four_byts h.sq
  · exact four_byts h.ak
  · intro x hx; simp only [List.mem_cons, List.not_mem_nil, or_false] at hx; omega
  · exact two_byts _
  · intro x hx; simp only [List.mem_cons, List.not_mem_nil, or_false] at hx; omega
  · exact two_byts _
theorem body_byts {s : Seg} (h : SegOk s) (hc : ChkI s) : Byts (bodyI s) := by
  obtain ⟨_, _, _, _, hf, _, _, _, _, _, ho⟩ := hc
  exact byts_append (byts_append (head_byts h ho hf) (opt_byts h)) h.da

theorem sum_bd {bs : List Int} (h : Byts bs) : 0 ≤ sumI bs ∧ sumI bs ≤ 65535 := by
  have := acc_bd h; unfold sumI; omega

theorem seal_byts {src dst : Int} {b : List Int} (hs : U32 src) (hd : U32 dst) (h : Byts b) : Byts (sealI src dst b) := by
  have hb := sum_bd (byts_append (pseudo_byts (n := b.length) hs hd) h)
  exact byts_set (byts_set h _ (by omega)) _ (by omega)

theorem pseudo_len (src dst n : Int) : (pseudoI src dst n).length = 12 := rfl

/-- With its sum in it, where 0 stood, a text is valid. -/
theorem seal_valid {src dst : Int} {b : List Int} (hs : U32 src) (hd : U32 dst) (h : Byts b) (hl : 20 ≤ b.length) (z0 : b[16]?.getD 0 = 0) (z1 : b[17]?.getD 0 = 0) :
    sumI (pseudoI src dst (sealI src dst b).length ++ sealI src dst b) = 0 := by
  have hy := byts_append (pseudo_byts (n := b.length) hs hd) h
  have := fit_put (b0 := pseudoI src dst b.length ++ b) (k := 28) (s := sumI (pseudoI src dst b.length ++ b)) hy (by decide) (by rw [List.length_append, pseudo_len]; omega)
    (by rw [List.getElem?_append_right (by rw [pseudo_len]; omega), pseudo_len]; exact z0)
    (by rw [List.getElem?_append_right (by rw [pseudo_len]; omega), pseudo_len]; exact z1) rfl
  rw [seal_len]
  rw [List.set_append_right (s := pseudoI src dst b.length) (i := 28) (h := by rw [pseudo_len]; omega), List.set_append_right (s := pseudoI src dst b.length) (h := by rw [pseudo_len]; omega), pseudo_len] at this
  exact this

/-! ### What is read -/

def nth (b : List Int) (i : Nat) : Int := b[i]?.getD 0
def wordAt (b : List Int) (i : Nat) : Int := nth b i * 256 + nth b (i + 1)
def longAt (b : List Int) (i : Nat) : Int := wordAt b i * 65536 + wordAt b (i + 2)

theorem nth_bd {b : List Int} (h : Byts b) (i : Nat) : 0 ≤ nth b i ∧ nth b i ≤ 255 := by
  unfold nth
  by_cases hi : i < b.length
  · exact byts_get h i hi
  · rw [List.getElem?_eq_none (by omega)]; decide
theorem word_bd {b : List Int} (h : Byts b) (i : Nat) : 0 ≤ wordAt b i ∧ wordAt b i ≤ 65535 := by
  have := nth_bd h i; have := nth_bd h (i + 1); unfold wordAt; omega
theorem long_bd {b : List Int} (h : Byts b) (i : Nat) : U32 (longAt b i) := by
  have := word_bd h i; have := word_bd h (i + 2); unfold longAt U32; omega

/-- Blocks, one behind the other. -/
def rdBlk : Nat → List Int → List (Int × Int)
  | 0, _ => []
  | n + 1, b => (longAt b 0, longAt b 4) :: rdBlk n (b.drop 8)

theorem rdBlk_len : ∀ (n : Nat) (b : List Int), (rdBlk n b).length = n
  | 0, _ => rfl
  | n + 1, b => by rw [rdBlk, List.length_cons, rdBlk_len n]

theorem byts_drop {b : List Int} (h : Byts b) (n : Nat) : Byts (b.drop n) := fun x hx => h x (List.mem_of_mem_drop hx)
theorem byts_take {b : List Int} (h : Byts b) (n : Nat) : Byts (b.take n) := fun x hx => h x (List.mem_of_mem_take hx)

theorem rdBlk_ok : ∀ (n : Nat) (b : List Int), Byts b → ∀ x ∈ rdBlk n b, U32 x.1 ∧ U32 x.2
  | 0, _, _, x, hx => by simp [rdBlk] at hx
  | n + 1, b, h, x, hx => by
    rw [rdBlk, List.mem_cons] at hx
    rcases hx with rfl | hx
    · exact ⟨long_bd h 0, long_bd h 4⟩
    · exact rdBlk_ok n _ (byts_drop h 8) x hx

theorem rdBlk_blks : ∀ (l : List (Int × Int)), (∀ b ∈ l, U32 b.1 ∧ U32 b.2) → rdBlk l.length (blksI l) = l
  | [], _ => rfl
  | a :: r, h => by
    have e : blksI (a :: r) = blkI a ++ blksI r := rfl
    obtain ⟨⟨h1, h2⟩, ⟨h3, h4⟩⟩ := h a (List.mem_cons_self ..)
    have e2 : (blkI a ++ blksI r).drop 8 = blksI r := rfl
    rw [List.length_cons, rdBlk, e, e2, rdBlk_blks r (fun b hb => h b (List.mem_cons_of_mem _ hb))]
    have e3 : longAt (blkI a ++ blksI r) 0 = a.1 := by
      show (a.1 / 16777216 * 256 + a.1 / 65536 % 256) * 65536 + (a.1 / 256 % 256 * 256 + a.1 % 256) = a.1
      omega
    have e4 : longAt (blkI a ++ blksI r) 4 = a.2 := by
      show (a.2 / 16777216 * 256 + a.2 / 65536 % 256) * 65536 + (a.2 / 256 % 256 * 256 + a.2 % 256) = a.2
      omega
    rw [e3, e4]

/-- One option that was read: what it holds behind its kind and its length. -/
def opt1 (s : Seg) (k : Int) (b : List Int) : Option Seg :=
  if k = 2 then (if s.ms < 0 ∧ b.length = 2 then some { s with ms := wordAt b 0 } else none)
  else if k = 3 then (if s.sc < 0 ∧ b.length = 1 then some { s with sc := min (nth b 0) 14 } else none)
  else if k = 4 then (if s.so = false ∧ b.length = 0 then some { s with so := true } else none)
  else if k = 8 then (if s.st = false ∧ b.length = 8 then some { s with st := true, va := longAt b 0, ec := longAt b 4 } else none)
  else if k = 5 then (if s.sk = [] ∧ (b.length % 8 = 0 ∧ 8 ≤ b.length ∧ b.length ≤ 32) then some { s with sk := rdBlk (b.length / 8) b } else none)
  else some s

def roptS (n : Nat) (f : Seg → List Int → Option Seg) (s : Seg) (l : List Int) : Option Seg :=
  if l = [] ∨ nth l 0 = 0 then some s
  else if nth l 0 = 1 then f s (l.drop 1)
  else if l.length < 2 ∨ nth l 1 < 2 ∨ (l.length : Int) < nth l 1 then none
  else (opt1 s (nth l 0) ((l.take (nth l 1).toNat).drop 2)).bind fun s' => f s' (l.drop (nth l 1).toNat)

def ropt : Nat → Seg → List Int → Option Seg
  | 0, s, l => some s
  | n + 1, s, l => roptS n (ropt n) s l

theorem ropt_fuel : ∀ (n m : Nat) (s : Seg) (l : List Int), l.length ≤ n → l.length ≤ m → ropt n s l = ropt m s l
  | 0, 0, _, _, _, _ => rfl
  | 0, m + 1, s, l, h, _ => by
    have : l = [] := List.eq_nil_of_length_eq_zero (by omega)
    subst this; simp [ropt, roptS]
  | n + 1, 0, s, l, _, h => by
    have : l = [] := List.eq_nil_of_length_eq_zero (by omega)
    subst this; simp [ropt, roptS]
  | n + 1, m + 1, s, l, hn, hm => by
    simp only [ropt, roptS]
    by_cases h0 : l = [] ∨ nth l 0 = 0
    · rw [if_pos h0, if_pos h0]
    rw [if_neg h0, if_neg h0]
    have hl : l ≠ [] := fun h => h0 (.inl h)
    have hp := List.length_pos_iff.2 hl
    by_cases h1 : nth l 0 = 1
    · rw [if_pos h1, if_pos h1]
      exact ropt_fuel n m s _ (by rw [List.length_drop]; omega) (by rw [List.length_drop]; omega)
    rw [if_neg h1, if_neg h1]
    by_cases h2 : l.length < 2 ∨ nth l 1 < 2 ∨ (l.length : Int) < nth l 1
    · rw [if_pos h2, if_pos h2]
    rw [if_neg h2, if_neg h2]
    congr 1
    funext s'
    exact ropt_fuel n m s' _ (by rw [List.length_drop]; omega) (by rw [List.length_drop]; omega)

/-- Options that are read into a segment. -/
def rdI (s : Seg) (l : List Int) : Option Seg := ropt l.length s l

theorem rd_end {s : Seg} {l : List Int} (h : l = [] ∨ nth l 0 = 0) : rdI s l = some s := by
  unfold rdI
  cases hl : l.length with
  | zero => rfl
  | succ n => simp only [ropt, roptS]; rw [if_pos h]
theorem rd_pass {s : Seg} {l : List Int} (hl : l ≠ []) (h : nth l 0 = 1) : rdI s l = rdI s (l.drop 1) := by
  have hp := List.length_pos_iff.2 hl
  obtain ⟨n, hn⟩ : ∃ n, l.length = n + 1 := ⟨l.length - 1, by omega⟩
  have hd : (l.drop 1).length = n := by rw [List.length_drop]; omega
  unfold rdI
  rw [hn, hd]
  simp only [ropt, roptS]
  rw [if_neg (by rw [h]; simp [hl]), if_pos h]
theorem rd_none {s : Seg} {l : List Int} (hl : l ≠ []) (h0 : nth l 0 ≠ 0) (h1 : nth l 0 ≠ 1) (h : l.length < 2 ∨ nth l 1 < 2 ∨ (l.length : Int) < nth l 1) : rdI s l = none := by
  have hp := List.length_pos_iff.2 hl
  obtain ⟨n, hn⟩ : ∃ n, l.length = n + 1 := ⟨l.length - 1, by omega⟩
  unfold rdI
  rw [hn]
  simp only [ropt, roptS]
  rw [if_neg (by simp [hl, h0]), if_neg h1, if_pos h]
theorem rd_some {s : Seg} {l : List Int} (h0 : nth l 0 ≠ 0) (h1 : nth l 0 ≠ 1) (h2 : 2 ≤ l.length) (h3 : 2 ≤ nth l 1) (h4 : nth l 1 ≤ (l.length : Int)) :
    rdI s l = (opt1 s (nth l 0) ((l.take (nth l 1).toNat).drop 2)).bind fun s' => rdI s' (l.drop (nth l 1).toNat) := by
  have hl : l ≠ [] := fun h => by subst h; simp at h2
  obtain ⟨n, hn⟩ : ∃ n, l.length = n + 1 := ⟨l.length - 1, by omega⟩
  unfold rdI
  rw [hn]
  simp only [ropt, roptS]
  rw [if_neg (by simp [hl, h0]), if_neg h1, if_neg (by omega)]
  congr 1
  funext s'
  exact ropt_fuel _ _ _ _ (by rw [List.length_drop]; omega) (Nat.le_refl _)

/-- Where data begin. -/
def offI (b : List Int) : Nat := 4 * (nth b 12 / 16).toNat
def segI (b : List Int) : Seg := ⟨wordAt b 0, wordAt b 2, longAt b 4, longAt b 8, nth b 13, wordAt b 14, wordAt b 18, -1, -1, false, false, 0, 0, [], b.drop (offI b)⟩

/-- The segment that bytes are, or what is wrong with them. -/
def getI (b : List Int) (src dst : Int) : Int × Seg :=
  if b.length < 20 then (30, zeroS)
  else if offI b < 20 then (31, zeroS)
  else if b.length < offI b then (30, zeroS)
  else if sumI (pseudoI src dst b.length ++ b) ≠ 0 then (32, zeroS)
  else if 65000 < b.length - offI b then (31, zeroS)
  else match rdI (segI b) ((b.take (offI b)).drop 20) with
    | none => (31, zeroS)
    | some s => (0, s)
end Go.Proofs.YtllmeeebjjmanaaDoor
