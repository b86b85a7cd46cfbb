/- What is written is read as it was: the plain mathematics. -/
import Derived.Test.YtllmeeebjjmanaaDoorSeg
namespace Go.Proofs.YtllmeeebjjmanaaDoor
set_option linter.unusedVariables false

theorem body_form (s : Seg) : bodyI s = [s.sp / 256 % 256, s.sp % 256, s.dp / 256 % 256, s.dp % 256, s.sq / 16777216, s.sq / 65536 % 256, s.sq / 256 % 256, s.sq % 256, s.ak / 16777216, s.ak / 65536 % 256, s.ak / 256 % 256, s.ak % 256,
    16 * (5 + ((optI s).length : Int) / 4), s.fl, s.wn / 256 % 256, s.wn % 256, 0, 0, s.ur / 256 % 256, s.ur % 256] ++ (optI s ++ s.da) := by
  simp [bodyI, headI, twoI, fourI]

theorem put_form (s : Seg) (src dst : Int) : ∃ c d, putI s src dst = [s.sp / 256 % 256, s.sp % 256, s.dp / 256 % 256, s.dp % 256, s.sq / 16777216, s.sq / 65536 % 256, s.sq / 256 % 256, s.sq % 256, s.ak / 16777216, s.ak / 65536 % 256, s.ak / 256 % 256, s.ak % 256,
    16 * (5 + ((optI s).length : Int) / 4), s.fl, s.wn / 256 % 256, s.wn % 256, c, d, s.ur / 256 % 256, s.ur % 256] ++ (optI s ++ s.da) := by
  refine ⟨sumI (pseudoI src dst (bodyI s).length ++ bodyI s) / 256, sumI (pseudoI src dst (bodyI s).length ++ bodyI s) % 256, ?_⟩
  unfold putI sealI
  generalize sumI (pseudoI src dst (bodyI s).length ++ bodyI s) = C
  rw [body_form]
  rfl

theorem put_valid {s : Seg} (h : SegOk s) (hc : ChkI s) {src dst : Int} (hs : U32 src) (hd : U32 dst) : sumI (pseudoI src dst (putI s src dst).length ++ putI s src dst) = 0 := by
  unfold putI
  refine seal_valid hs hd (body_byts h hc) (by rw [body_len]; omega) ?_ ?_
  · rw [body_form]; rfl
  · rw [body_form]; rfl

theorem rd_mss {t : Seg} {m : Int} {r : List Int} (ht : t.ms = -1) (hm : -1 ≤ m ∧ m ≤ 65535) : rdI t (mssI m ++ r) = rdI { t with ms := m } r := by
  unfold mssI
  by_cases h : 0 ≤ m
  · rw [if_pos h]
    show rdI t (2 :: 4 :: (m / 256 % 256) :: (m % 256) :: r) = _
    rw [rd_some (by simp [nth]) (by simp [nth]) (by simp) (by simp [nth]) (by simp [nth]; omega)]
    have e : opt1 t (nth (2 :: 4 :: (m / 256 % 256) :: (m % 256) :: r) 0) (((2 :: 4 :: (m / 256 % 256) :: (m % 256) :: r).take (nth (2 :: 4 :: (m / 256 % 256) :: (m % 256) :: r) 1).toNat).drop 2) = some { t with ms := m } := by
      show opt1 t 2 [m / 256 % 256, m % 256] = _
      unfold opt1
      rw [if_pos rfl, if_pos ⟨by omega, rfl⟩]
      have : wordAt [m / 256 % 256, m % 256] 0 = m := by
        show m / 256 % 256 * 256 + m % 256 = m
        omega
      rw [this]
    rw [e]
    rfl
  · rw [if_neg h]
    have : m = -1 := by omega
    subst this
    rw [← ht]
    rfl

theorem rd_sca {t : Seg} {m : Int} {r : List Int} (ht : t.sc = -1) (hm : -1 ≤ m ∧ m ≤ 14) : rdI t (scaI m ++ r) = rdI { t with sc := m } r := by
  unfold scaI
  by_cases h : 0 ≤ m
  · rw [if_pos h]
    show rdI t (3 :: 3 :: (m % 256) :: r) = _
    rw [rd_some (by simp [nth]) (by simp [nth]) (by simp) (by simp [nth]) (by simp [nth]; omega)]
    have e : opt1 t (nth (3 :: 3 :: (m % 256) :: r) 0) (((3 :: 3 :: (m % 256) :: r).take (nth (3 :: 3 :: (m % 256) :: r) 1).toNat).drop 2) = some { t with sc := m } := by
      show opt1 t 3 [m % 256] = _
      unfold opt1
      rw [if_neg (by decide), if_pos rfl, if_pos ⟨by omega, rfl⟩]
      have : min (nth [m % 256] 0) 14 = m := by
        show min (m % 256) 14 = m
        omega
      rw [this]
    rw [e]
    rfl
  · rw [if_neg h]
    have : m = -1 := by omega
    subst this
    rw [← ht]
    rfl

theorem rd_sok {t : Seg} {b : Bool} {r : List Int} (ht : t.so = false) : rdI t (sokI b ++ r) = rdI { t with so := b } r := by
  unfold sokI
  cases b
  · rw [if_neg (by decide), ← ht]
    rfl
  · rw [if_pos rfl]
    show rdI t (4 :: 2 :: r) = _
    rw [rd_some (by simp [nth]) (by simp [nth]) (by simp) (by simp [nth]) (by simp [nth]; omega)]
    have e : opt1 t (nth (4 :: 2 :: r) 0) (((4 :: 2 :: r).take (nth (4 :: 2 :: r) 1).toNat).drop 2) = some { t with so := true } := by
      show opt1 t 4 [] = _
      unfold opt1
      rw [if_neg (by decide), if_neg (by decide), if_pos rfl, if_pos ⟨ht, rfl⟩]
    rw [e]
    rfl

theorem rd_stp {t : Seg} {b : Bool} {v e : Int} {r : List Int} (ht : t.st = false) (hv : t.va = 0) (he : t.ec = 0) (uv : U32 v) (ue : U32 e) (h0 : b = true ∨ (v = 0 ∧ e = 0)) : rdI t (stpI b v e ++ r) = rdI { t with st := b, va := v, ec := e } r := by
  obtain ⟨u1, u2⟩ := uv
  obtain ⟨u3, u4⟩ := ue
  unfold stpI
  cases b
  · obtain ⟨rfl, rfl⟩ : v = 0 ∧ e = 0 := by simpa using h0
    rw [if_neg (by decide)]
    have : { t with st := false, va := 0, ec := 0 } = t := by cases t; simp at ht hv he; subst ht hv he; rfl
    rw [this]
    rfl
  · rw [if_pos rfl]
    show rdI t (8 :: 10 :: (v / 16777216) :: (v / 65536 % 256) :: (v / 256 % 256) :: (v % 256) :: (e / 16777216) :: (e / 65536 % 256) :: (e / 256 % 256) :: (e % 256) :: r) = _
    rw [rd_some (by simp [nth]) (by simp [nth]) (by simp) (by simp [nth]) (by simp [nth]; omega)]
    have e : opt1 t (nth (8 :: 10 :: (v / 16777216) :: (v / 65536 % 256) :: (v / 256 % 256) :: (v % 256) :: (e / 16777216) :: (e / 65536 % 256) :: (e / 256 % 256) :: (e % 256) :: r) 0) (((8 :: 10 :: (v / 16777216) :: (v / 65536 % 256) :: (v / 256 % 256) :: (v % 256) :: (e / 16777216) :: (e / 65536 % 256) :: (e / 256 % 256) :: (e % 256) :: r).take (nth (8 :: 10 :: (v / 16777216) :: (v / 65536 % 256) :: (v / 256 % 256) :: (v % 256) :: (e / 16777216) :: (e / 65536 % 256) :: (e / 256 % 256) :: (e % 256) :: r) 1).toNat).drop 2) = some { t with st := true, va := v, ec := e } := by
      show opt1 t 8 [v / 16777216, v / 65536 % 256, v / 256 % 256, v % 256, e / 16777216, e / 65536 % 256, e / 256 % 256, e % 256] = _
      unfold opt1
      rw [if_neg (by decide), if_neg (by decide), if_neg (by decide), if_pos rfl, if_pos ⟨ht, rfl⟩]
      have e1 : longAt [v / 16777216, v / 65536 % 256, v / 256 % 256, v % 256, e / 16777216, e / 65536 % 256, e / 256 % 256, e % 256] 0 = v := by
        show (v / 16777216 * 256 + v / 65536 % 256) * 65536 + (v / 256 % 256 * 256 + v % 256) = v
        omega
      have e2 : longAt [v / 16777216, v / 65536 % 256, v / 256 % 256, v % 256, e / 16777216, e / 65536 % 256, e / 256 % 256, e % 256] 4 = e := by
        show (e / 16777216 * 256 + e / 65536 % 256) * 65536 + (e / 256 % 256 * 256 + e % 256) = e
        omega
      rw [e1, e2]
    rw [e]
    rfl

theorem rd_sks {t : Seg} {l : List (Int × Int)} {r : List Int} (ht : t.sk = []) (hl : l.length ≤ 4) (hu : ∀ b ∈ l, U32 b.1 ∧ U32 b.2) : rdI t (sksI l ++ r) = rdI { t with sk := l } r := by
  unfold sksI
  by_cases h : l = []
  · rw [if_pos h, h, ← ht]
    rfl
  · rw [if_neg h]
    have hp := List.length_pos_iff.2 h
    have hm : (2 + 8 * (l.length : Int)) % 256 = ((2 + 8 * l.length : Nat) : Int) := by omega
    rw [hm]
    show rdI t (5 :: ((2 + 8 * l.length : Nat) : Int) :: (blksI l ++ r)) = _
    have hb := blks_len l
    have n1 : nth (5 :: ((2 + 8 * l.length : Nat) : Int) :: (blksI l ++ r)) 1 = ((2 + 8 * l.length : Nat) : Int) := rfl
    have n0 : nth (5 :: ((2 + 8 * l.length : Nat) : Int) :: (blksI l ++ r)) 0 = 5 := rfl
    rw [rd_some (by rw [n0]; decide) (by rw [n0]; decide) (by simp) (by rw [n1]; omega) (by rw [n1]; simp [hb]; omega), n0, n1, Int.toNat_natCast]
    have e1 : ((5 :: ((2 + 8 * l.length : Nat) : Int) :: (blksI l ++ r)).take (2 + 8 * l.length)).drop 2 = blksI l := by
      rw [show 2 + 8 * l.length = 8 * l.length + 1 + 1 from by omega, List.take_succ_cons, List.take_succ_cons]
      show (blksI l ++ r).take (8 * l.length) = blksI l
      rw [← hb, List.take_left]
    have e2 : (5 :: ((2 + 8 * l.length : Nat) : Int) :: (blksI l ++ r)).drop (2 + 8 * l.length) = r := by
      rw [show 2 + 8 * l.length = 8 * l.length + 1 + 1 from by omega, List.drop_succ_cons, List.drop_succ_cons, ← hb, List.drop_left]
    rw [e1, e2]
    have e3 : opt1 t 5 (blksI l) = some { t with sk := l } := by
      unfold opt1
      rw [if_neg (by decide), if_neg (by decide), if_neg (by decide), if_neg (by decide), if_pos rfl, if_pos ⟨ht, by omega⟩, hb]
      rw [show 8 * l.length / 8 = l.length from by omega, rdBlk_blks l hu]
    rw [e3]
    rfl

theorem rd_pad (t : Seg) (k : Nat) : rdI t (List.replicate k 0) = some t := by
  refine rd_end ?_
  cases k with
  | zero => exact .inl rfl
  | succ k => exact .inr rfl

theorem rd_opt {t s : Seg} (h1 : t.ms = -1) (h2 : t.sc = -1) (h3 : t.so = false) (h4 : t.st = false) (h5 : t.va = 0) (h6 : t.ec = 0) (h7 : t.sk = []) (h : SegOk s) (hc : ChkI s) :
    rdI t (optI s) = some { t with ms := s.ms, sc := s.sc, so := s.so, st := s.st, va := s.va, ec := s.ec, sk := s.sk } := by
  obtain ⟨_, _, _, _, _, cm, cs, ct, _, ck, _⟩ := hc
  unfold optI padI rawI
  simp only [List.append_assoc]
  rw [rd_mss h1 cm, rd_sca (t := { t with ms := s.ms }) h2 cs, rd_sok (t := { t with ms := s.ms, sc := s.sc }) h3, rd_stp (t := { t with ms := s.ms, sc := s.sc, so := s.so }) h4 h5 h6 h.va h.ec ct, rd_sks (t := { t with ms := s.ms, sc := s.sc, so := s.so, st := s.st, va := s.va, ec := s.ec }) h7 ck h.sk, rd_pad]

/-- What is written is read as it was. -/
theorem get_put {s : Seg} (h : SegOk s) (hc : ChkI s) {src dst : Int} (hs : U32 src) (hd : U32 dst) : getI (putI s src dst) src dst = (0, s) := by
  have hv := put_valid h hc hs hd
  have hl := put_len s src dst
  have h4 := opt_len4 s
  obtain ⟨c, d, hf⟩ := put_form s src dst
  have h40 : (optI s).length ≤ 40 := hc.2.2.2.2.2.2.2.2.2.2
  have hda : s.da.length ≤ 65000 := hc.2.2.2.2.2.2.2.2.1
  have hoff : offI (putI s src dst) = 20 + (optI s).length := by
    rw [hf]
    show 4 * ((16 * (5 + ((optI s).length : Int) / 4)) / 16).toNat = _
    omega
  have hdrop : (putI s src dst).drop (20 + (optI s).length) = s.da := by
    rw [hf, ← List.drop_drop]
    show (optI s ++ s.da).drop (optI s).length = s.da
    rw [List.drop_left]
  have htake : ((putI s src dst).take (20 + (optI s).length)).drop 20 = optI s := by
    rw [List.drop_take, hf]
    show (optI s ++ s.da).take (20 + (optI s).length - 20) = optI s
    rw [show 20 + (optI s).length - 20 = (optI s).length from by omega, List.take_left]
  have hseg : segI (putI s src dst) = { s with ms := -1, sc := -1, so := false, st := false, va := 0, ec := 0, sk := [] } := by
    obtain ⟨c0, c1, c2, c3, c4, _⟩ := hc
    obtain ⟨q1, q2⟩ := h.sq
    obtain ⟨a1, a2⟩ := h.ak
    have e0 : wordAt (putI s src dst) 0 = s.sp := by
      rw [hf]; show s.sp / 256 % 256 * 256 + s.sp % 256 = s.sp; omega
    have e2 : wordAt (putI s src dst) 2 = s.dp := by
      rw [hf]; show s.dp / 256 % 256 * 256 + s.dp % 256 = s.dp; omega
    have e4 : longAt (putI s src dst) 4 = s.sq := by
      rw [hf]; show (s.sq / 16777216 * 256 + s.sq / 65536 % 256) * 65536 + (s.sq / 256 % 256 * 256 + s.sq % 256) = s.sq; omega
    have e8 : longAt (putI s src dst) 8 = s.ak := by
      rw [hf]; show (s.ak / 16777216 * 256 + s.ak / 65536 % 256) * 65536 + (s.ak / 256 % 256 * 256 + s.ak % 256) = s.ak; omega
    have e13 : nth (putI s src dst) 13 = s.fl := by rw [hf]; rfl
    have e14 : wordAt (putI s src dst) 14 = s.wn := by
      rw [hf]; show s.wn / 256 % 256 * 256 + s.wn % 256 = s.wn; omega
    have e18 : wordAt (putI s src dst) 18 = s.ur := by
      rw [hf]; show s.ur / 256 % 256 * 256 + s.ur % 256 = s.ur; omega
    unfold segI
    rw [e0, e2, e4, e8, e13, e14, e18, hoff, hdrop]
  unfold getI
  rw [if_neg (by omega), hoff, if_neg (by omega), if_neg (by omega), if_neg (by simpa using hv), if_neg (by omega), htake, hseg]
  rw [rd_opt rfl rfl rfl rfl rfl rfl rfl h hc]
end Go.Proofs.YtllmeeebjjmanaaDoor
