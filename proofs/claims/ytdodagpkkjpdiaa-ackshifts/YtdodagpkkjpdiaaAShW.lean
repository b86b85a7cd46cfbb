/- AckShifts' walk. -/
import Derived.Test.YtdodagpkkjpdiaaAHeads
import Derived.Test.YtdodagpkkjpdiaaAShR
import Derived.Deep.Quiet
namespace Go.Proofs.Ytdodagpkkjpdiaa
open Go.ChangeShapes Go.WideShapes Go.ChangeAt Go.RowKit Go.Shelf
set_option linter.unusedVariables false
set_option linter.unusedSimpArgs false
attribute [local go_sem] Oper.semAt_some


def shL (u : Int) (l : List (Int × Int)) : List (Int × Int) := l.map fun b => ((b.1 + u) % 4294967296, (b.2 + u) % 4294967296)
def shS (s : Seg) (u v : Int) (l : List (Int × Int)) : Seg := { s with ak := (s.ak + u) % 4294967296, sq := (s.sq + v) % 4294967296, sk := l }
theorem shL_len (u : Int) (l : List (Int × Int)) : (shL u l).length = l.length := by unfold shL; rw [List.length_map]
theorem shL_more {u : Int} {l : List (Int × Int)} {i : Nat} {x : Int × Int} (h : l[i]? = some x) : shL u (l.take i) ++ [((x.1 + u) % 4294967296, (x.2 + u) % 4294967296)] = shL u (l.take (i + 1)) := by
  unfold shL
  rw [List.take_add_one, h]
  simp
/-- One block appended, at a step of a region that draws. -/
theorem step_appK {w : World} {ops : Array Oper} {o : Oper} {a : Act} {K : Act → World → Prop} {Q : Exit → Act → World → Prop} {E : Prop} (hgd : o.guard = none) (s x : Operand)
    (ho : o.op = .call { callee := .builtin .append, args := #[s, x], argTypes := #[25, 25] })
    (B : Nat) (va : Option Addr) (n vc : Nat) (xs : List (Int × Int)) (A : Addr) (y : Int × Int) (hs : a.eval s = .slice va n vc) (hx : a.eval x = .slice (some A) 1 1)
    (hO : RowB w B va n vc xs) (hB : B ≤ w.heap.size) (hT : ∀ j u, [Value.int .u32 y.1, Value.int .u32 y.2][j]? = some u → w.cell? (A.add j) = some u) (hb : (n + 1) * 8 ≤ 140737488355328)
    (h : ∀ va' vc' w', RowB w' B va' (n + 1) vc' (xs ++ [y]) → w.grownBy w' (Value.slice va n vc).ownBlock → Below B w w' → K (a.put o.dst (.slice va' (n + 1) vc')) w') :
    if Region.wanted o (yielded ops a.tmps) = true then Oper.wp Try.prog o a w K Q else E := by
  have hw : Region.wanted o (yielded ops a.tmps) = true := by simp [Region.wanted, hgd]
  rw [if_pos hw]
  obtain ⟨va', vc', w', hr, h1, h2, h3⟩ := appB_run w B va n vc xs hO hB A y o.type hT hb
  unfold Oper.wp execOp
  simp only [ho, resolve, invoke, builtin, Sem.run_bind, Sem.run_pure, Result.andThen_ok, List.map_toArray, List.map_cons, List.map_nil, hs, hx, hr]
  exact h va' vc' w' h1 h2 h3
theorem RowB.besB {w : World} {B g L vc : Nat} {va : Option Addr} {l : List (Int × Int)} {t : TypeId} {cs : List Value} (h : RowB w B va L vc l) (hb : Box w g t cs) (ht : t ≠ 41) (j : Nat) (u : Value) : RowB (w.setCell ⟨g, j, none⟩ u) B va L vc l := by
  refine ⟨h.1, ?_⟩
  rcases h.2 with h' | ⟨g', c, cur', e1, hB, hh, r⟩
  · exact .inl h'
  · refine .inr ⟨g', c, cur', e1, hB, (Below.heap_setCell w ⟨g, j, none⟩ u g' (fun e' => ?_)).trans hh, r⟩
    subst e'
    exact Box.ne hb hh ht rfl
/-- Boxes stay where a row of blocks grows. -/
theorem Box.growB {w w' : World} {B g L vc : Nat} {va : Option Addr} {l : List (Int × Int)} {t : TypeId} {cs : List Value} (hb : Box w g t cs) (h : RowB w B va L vc l) (ht : t ≠ 41) (hg : w.grownBy w' (Value.slice va L vc).ownBlock) : Box w' g t cs :=
  hb.kept hg fun e => by
    rcases h.2 with ⟨e1, _⟩ | ⟨g', c, cur, e1, _, hh, _⟩
    · rw [e1] at e; simp [Value.ownBlock] at e
    · rw [e1] at e; simp only [Value.ownBlock, Option.some.injEq] at e; subst e; exact Box.ne hb hh ht rfl
/-- What holds in the loop. -/
structure ShR (w wr : World) (a : Ak.As) (s : Seg) (k : Hs) (u v : Int) (g b p q i : Nat) (va : Option Addr) (vc : Nat) : Prop where
  bel : Below w.heap.size w wr
  bg : Box wr g 24 (asL a)
  bb : Box wr b 28 (sgL s k)
  bp : Box wr p 24 (asL (Ak.shiftA a u v))
  bq : Box wr q 28 (sgL (shS s u v (shL u (s.sk.take i))) { k with ka := va, kc := vc })
  row : RowB wr w.heap.size va i vc (shL u (s.sk.take i))
set_option maxRecDepth 100000 in
set_option maxHeartbeats 4000000 in
theorem sh_far {n : Nat} (hn : 100 < n) (a : Ak.As) (s : Seg) (k : Hs) (u v : Int) (w : World) (HK : Hid (BlksAt w k.ka s.sk ∧ s.sk.length = n)) : Calls Try.prog 6 #[agv (asL a), agv (sgL s k), .int .u32 u, .int .u32 v] w fun e w' => e = .returned (.bool true) ∧ Below w.heap.size w w' := by
  have hn1 : (100 : Int) < (n : Int) := by omega
  go_enter Try.func6, Try.ntmps6
  go_wp2_with (first | (refine wpS_box rfl rfl rfl ?_))
  intro X1 g HN
  have HX1 : Hid (Below w.heap.size w X1 ∧ Box X1 g 24 (asL a) ∧ w.heap.size ≤ g ∧ True) := by
    have hb := Below.refl w.heap.size w
    obtain ⟨hg, hb2, bn⟩ := HN.out
    have hz := hb.size
    exact ⟨Below.on hb hb2, bn, by omega, trivial⟩
  clear HN 
  go_wp2_with (first | (refine wpS_box rfl rfl rfl ?_))
  intro X2 b HN
  have HX2 : Hid (Below w.heap.size w X2 ∧ Box X2 g 24 (asL a) ∧ Box X2 b 28 (sgL s k) ∧ w.heap.size ≤ g ∧ g < b ∧ True) := by
    obtain ⟨hb, b0, l0, _⟩ := HX1.out
    obtain ⟨hg, hb2, bn⟩ := HN.out
    have z0 := b0.lt
    exact ⟨Below.on hb hb2, b0.later hb2, bn, l0, by omega, trivial⟩
  clear HN HX1
  have j13 : X2.cell? ⟨b, 13, none⟩ = some (.slice k.ka n k.kc) := by
    have h13 : X2.cell? ⟨b, 13, none⟩ = some (.slice k.ka s.sk.length k.kc) := Box.cell (HX2.out.2.2.1) 13 rfl
    rwa [HK.out.2] at h13
  go_wp2_with fail
  refine (heads_is _).mono ?_
  rintro e w3 ⟨rfl, hB⟩
  have HX3 : Hid (Below w.heap.size w w3 ∧ Box w3 g 24 (asL a) ∧ Box w3 b 28 (sgL s k) ∧ w.heap.size ≤ g ∧ g < b ∧ True) := by
    obtain ⟨hb, b0, b1, l0, l1, _⟩ := HX2.out
    exact ⟨Below.on hb hB, b0.later hB, b1.later hB, l0, l1, trivial⟩
  clear hB  HX2
  go_wp2_with fail
  go_ret
  exact ⟨rfl, HX3.out.1⟩
set_option maxRecDepth 100000 in
set_option maxHeartbeats 4000000 in
theorem sh_near {n : Nat} (hn : n ≤ 100) (a : Ak.As) (s : Seg) (k : Hs) (u v : Int) (w : World) (HK : Hid (BlksAt w k.ka s.sk ∧ s.sk.length = n)) (hA : AsI a) : Calls Try.prog 6 #[agv (asL a), agv (sgL s k), .int .u32 u, .int .u32 v] w fun e w' => e = .returned (.bool true) ∧ Below w.heap.size w w' := by
  have hn1 : (n : Int) ≤ 100 := by omega
  go_enter Try.func6, Try.ntmps6
  go_wp2_with (first | (refine wpS_box rfl rfl rfl ?_))
  intro X1 g HN
  have HX1 : Hid (Below w.heap.size w X1 ∧ Box X1 g 24 (asL a) ∧ w.heap.size ≤ g ∧ True) := by
    have hb := Below.refl w.heap.size w
    obtain ⟨hg, hb2, bn⟩ := HN.out
    have hz := hb.size
    exact ⟨Below.on hb hb2, bn, by omega, trivial⟩
  clear HN 
  go_wp2_with (first | (refine wpS_box rfl rfl rfl ?_))
  intro X2 b HN
  have HX2 : Hid (Below w.heap.size w X2 ∧ Box X2 g 24 (asL a) ∧ Box X2 b 28 (sgL s k) ∧ w.heap.size ≤ g ∧ g < b ∧ True) := by
    obtain ⟨hb, b0, l0, _⟩ := HX1.out
    obtain ⟨hg, hb2, bn⟩ := HN.out
    have z0 := b0.lt
    exact ⟨Below.on hb hb2, b0.later hb2, bn, l0, by omega, trivial⟩
  clear HN HX1
  have j13 : X2.cell? ⟨b, 13, none⟩ = some (.slice k.ka n k.kc) := by
    have h13 : X2.cell? ⟨b, 13, none⟩ = some (.slice k.ka s.sk.length k.kc) := Box.cell (HX2.out.2.2.1) 13 rfl
    rwa [HK.out.2] at h13
  go_upto_region 3 with fail
  refine sh3_reg (by rfl) a s k g b X2.heap.size w.heap.size w rfl rfl (HX2.out.1).size (HX2.out.2.1).lt (HX2.out.2.2.1).lt ⟨HX2.out.1, Nat.le_refl _, (HX2.out.2.1), (HX2.out.2.2.1)⟩ ?_
  intro c T X3 h2 h3 hS
  simp only [Act.put, List.setIfInBounds_toArray, List.set_cons_zero, List.set_cons_succ]
  simp only [h2, h3]
  obtain ⟨s0, _, s1, s2, s3, s4, _⟩ := hS
  have m2 := s3 rfl
  have m3 := s4 rfl
  rw [if_pos rfl] at m2
  rw [if_pos rfl, if_pos rfl] at m3
  obtain ⟨p, hp⟩ : ∃ x, c 2 = x := ⟨_, rfl⟩
  obtain ⟨q, hq⟩ : ∃ x, c 3 = x := ⟨_, rfl⟩
  rw [hp] at m2
  rw [hq] at m3
  rw [hp, hq]
  clear s3 s4 h2 h3 hp hq
  have lbt := (HX2.out.2.2.1).lt
  have HX3 : Hid (Below w.heap.size w X3 ∧ Box X3 g 24 (asL a) ∧ Box X3 b 28 (sgL s k) ∧ Box X3 p 24 (asL a) ∧ Box X3 q 28 (sgL s k) ∧ w.heap.size ≤ g ∧ g < b ∧ b < p ∧ b < q ∧ p ≠ q ∧ True) := by
    obtain ⟨hb, b0, b1, l0, l1, _⟩ := HX2.out
    exact ⟨s0, s1, s2, m2.2, m3.2, l0, l1, by omega, by omega, box_ne m2.2 m3.2 (by decide), trivial⟩
  clear s0 s1 s2 m2 m3 lbt j13 HX2
  go_upto_region 4 with fail
  refine sh4_reg (by rfl) a s k u v g b p q w.heap.size w rfl rfl rfl rfl (by have h1 := HX3.out.2.2.2.2.2.1; have h2 := HX3.out.2.2.2.2.2.2.1; have h3 := HX3.out.2.2.2.2.2.2.2.1; have h4 := HX3.out.2.2.2.2.2.2.2.2.1; have h5 := HX3.out.2.2.2.2.2.2.2.2.2.1; omega) (by have h1 := HX3.out.2.2.2.2.2.1; have h2 := HX3.out.2.2.2.2.2.2.1; have h3 := HX3.out.2.2.2.2.2.2.2.1; have h4 := HX3.out.2.2.2.2.2.2.2.2.1; have h5 := HX3.out.2.2.2.2.2.2.2.2.2.1; omega) (by have h1 := HX3.out.2.2.2.2.2.1; have h2 := HX3.out.2.2.2.2.2.2.1; have h3 := HX3.out.2.2.2.2.2.2.2.1; have h4 := HX3.out.2.2.2.2.2.2.2.2.1; have h5 := HX3.out.2.2.2.2.2.2.2.2.2.1; omega) (by have h1 := HX3.out.2.2.2.2.2.1; have h2 := HX3.out.2.2.2.2.2.2.1; have h3 := HX3.out.2.2.2.2.2.2.2.1; have h4 := HX3.out.2.2.2.2.2.2.2.2.1; have h5 := HX3.out.2.2.2.2.2.2.2.2.2.1; omega) ⟨HX3.out.1, HX3.out.2.1, HX3.out.2.2.1, HX3.out.2.2.2.1, HX3.out.2.2.2.2.1, trivial⟩ ?_
  intro T X4 hS
  simp only [Act.put, List.setIfInBounds_toArray, List.set_cons_zero, List.set_cons_succ]
  have HX4 : Hid (Below w.heap.size w X4 ∧ Box X4 g 24 (asL a) ∧ Box X4 b 28 (sgL s k) ∧ Box X4 p 24 (asL (Ak.shiftA a u v)) ∧ Box X4 q 28 (sgL s k) ∧ w.heap.size ≤ g ∧ g < b ∧ b < p ∧ b < q ∧ p ≠ q ∧ True) := by
    obtain ⟨hb, b0, b1, b2, b3, l0, l1, l2, l3, l4, _⟩ := HX3.out
    obtain ⟨s0, s1, s2, s3, s4, _⟩ := hS
    exact ⟨s0, s1, s2, s3, s4, l0, l1, l2, l3, l4, trivial⟩
  clear hS HX3
  go_upto_region 5 with fail
  refine sh5_reg (by rfl) a s k u v g b p q w.heap.size w rfl rfl rfl rfl (by have h1 := HX4.out.2.2.2.2.2.1; have h2 := HX4.out.2.2.2.2.2.2.1; have h3 := HX4.out.2.2.2.2.2.2.2.1; have h4 := HX4.out.2.2.2.2.2.2.2.2.1; have h5 := HX4.out.2.2.2.2.2.2.2.2.2.1; omega) (by have h1 := HX4.out.2.2.2.2.2.1; have h2 := HX4.out.2.2.2.2.2.2.1; have h3 := HX4.out.2.2.2.2.2.2.2.1; have h4 := HX4.out.2.2.2.2.2.2.2.2.1; have h5 := HX4.out.2.2.2.2.2.2.2.2.2.1; omega) (by have h1 := HX4.out.2.2.2.2.2.1; have h2 := HX4.out.2.2.2.2.2.2.1; have h3 := HX4.out.2.2.2.2.2.2.2.1; have h4 := HX4.out.2.2.2.2.2.2.2.2.1; have h5 := HX4.out.2.2.2.2.2.2.2.2.2.1; omega) (by have h1 := HX4.out.2.2.2.2.2.1; have h2 := HX4.out.2.2.2.2.2.2.1; have h3 := HX4.out.2.2.2.2.2.2.2.1; have h4 := HX4.out.2.2.2.2.2.2.2.2.1; have h5 := HX4.out.2.2.2.2.2.2.2.2.2.1; omega) ⟨HX4.out.1, HX4.out.2.1, HX4.out.2.2.1, HX4.out.2.2.2.1, HX4.out.2.2.2.2.1, trivial⟩ ?_
  intro T X5 hS
  simp only [Act.put, List.setIfInBounds_toArray, List.set_cons_zero, List.set_cons_succ]
  have HX5 : Hid (Below w.heap.size w X5 ∧ Box X5 g 24 (asL a) ∧ Box X5 b 28 (sgL s k) ∧ Box X5 p 24 (asL (Ak.shiftA a u v)) ∧ Box X5 q 28 (sgL (shS s u v s.sk) k) ∧ w.heap.size ≤ g ∧ g < b ∧ b < p ∧ b < q ∧ p ≠ q ∧ True) := by
    obtain ⟨hb, b0, b1, b2, b3, l0, l1, l2, l3, l4, _⟩ := HX4.out
    obtain ⟨s0, s1, s2, s3, s4, _⟩ := hS
    exact ⟨s0, s1, s2, s3, s4, l0, l1, l2, l3, l4, trivial⟩
  clear hS HX4
  have q13 := Box.cell (HX5.out.2.2.2.2.1) 13 rfl
  have fq := fun i => Box.frozen (HX5.out.2.2.2.2.1) i
  go_upto_region 7 with fail
  obtain ⟨X6, hX⟩ : ∃ X, X5.setCell ⟨q, 13, none⟩ (.slice none 0 0) = X := ⟨_, rfl⟩
  try rw [hX]
  have HX6 : Hid (Below w.heap.size w X6 ∧ Box X6 g 24 (asL a) ∧ Box X6 b 28 (sgL s k) ∧ Box X6 p 24 (asL (Ak.shiftA a u v)) ∧ Box X6 q 28 (sgL (shS s u v []) { k with ka := none, kc := 0 }) ∧ w.heap.size ≤ g ∧ g < b ∧ b < p ∧ b < q ∧ p ≠ q ∧ True) := by
    obtain ⟨hb, b0, b1, b2, b3, l0, l1, l2, l3, l4, _⟩ := HX5.out
    have st := (Sto.refl X5 q).set 13 (.slice none 0 0)
    rw [hX] at st
    subst hX
    exact ⟨below_set hb _ _ _ (by omega), b0.aside _ _ _ (by omega), b1.aside _ _ _ (by omega), b2.aside _ _ _ (by omega), b3.set 13 _, l0, l1, l2, l3, l4, trivial⟩
  clear hX HX5
  clear q13 fq
  have HQ : Hid (w.heap.size ≤ g ∧ w.heap.size ≤ q ∧ q ≠ g ∧ q ≠ b ∧ q ≠ p) := ⟨HX6.out.2.2.2.2.2.1, by have h1 := HX6.out.2.2.2.2.2.1; have h2 := HX6.out.2.2.2.2.2.2.1; have h4 := HX6.out.2.2.2.2.2.2.2.2.1; omega, by have h2 := HX6.out.2.2.2.2.2.2.1; have h4 := HX6.out.2.2.2.2.2.2.2.2.1; omega, by have h4 := HX6.out.2.2.2.2.2.2.2.2.1; omega, fun e => HX6.out.2.2.2.2.2.2.2.2.2.1 e.symm⟩
  have HST : Hid (ShR w X6 a s k u v g b p q 0 none 0) := ⟨HX6.out.1, HX6.out.2.1, HX6.out.2.2.1, HX6.out.2.2.2.1, HX6.out.2.2.2.2.1, RowB.nil _ _⟩
  clear HX6
  go_wp2_with fail
  go_loopw [11] (fun vi wr => ∃ (i : Nat) (va : Option Addr) (vc : Nat), vi = .int .i64 (i : Int) ∧ i ≤ n ∧ Hid (ShR w wr a s k u v g b p q i va vc)) (fun vi _ => n - (intOf vi).toNat)
  case atStart => exact ⟨0, none, 0, rfl, Nat.zero_le _, HST⟩
  case round =>
    obtain ⟨i, va, vc, rfl, hi, HR⟩ := hrel
    clear HST
    have j13 : wr.cell? ⟨b, 13, none⟩ = some (.slice k.ka n k.kc) := by
      have h13 : wr.cell? ⟨b, 13, none⟩ = some (.slice k.ka s.sk.length k.kc) := Box.cell HR.out.bb 13 rfl
      rwa [HK.out.2] at h13
    by_cases hlt : i < n
    · have hlt' : (i : Int) < (n : Int) := by omega
      have hi' : i < s.sk.length := by have := HK.out.2; omega
      obtain ⟨kb, ko, hka, hc0, hc1⟩ := (HK.out.1.below HR.out.bel (Nat.le_refl _)).2 i hi'
      obtain ⟨x, hx⟩ : ∃ x, s.sk[i]? = some x := ⟨_, List.getElem?_eq_getElem hi'⟩
      have HX : Hid (s.sk[i]? = some x) := hx
      rw [hx] at hc0 hc1
      simp only [Option.getD_some] at hc0 hc1
      obtain ⟨f, hf⟩ : ∃ f, x.1 = f := ⟨_, rfl⟩
      obtain ⟨t, ht⟩ : ∃ t, x.2 = t := ⟨_, rfl⟩
      have HF : Hid (x = (f, t)) := by rw [← hf, ← ht]; rfl
      rw [hf] at hc0
      rw [ht] at hc1
      rw [hka] at j13
      have HKA : Hid (k.ka = some ⟨kb, ko, none⟩) := hka
      clear hka
      have q13 : wr.cell? ⟨q, 13, none⟩ = some (.slice va i vc) := by
        have h13 : wr.cell? ⟨q, 13, none⟩ = some (.slice va (shL u (s.sk.take i)).length vc) := Box.cell HR.out.bq 13 rfl
        rwa [shL_len, List.length_take, Nat.min_eq_left (by omega)] at h13
      obtain ⟨f', hf'⟩ : ∃ z, (f + u) % 4294967296 = z := ⟨_, rfl⟩
      obtain ⟨t', ht'⟩ : ∃ z, (t + u) % 4294967296 = z := ⟨_, rfl⟩
      have hw1 : IntKind.u32.wrap (f + u) = f' := by rw [wrapU]; exact hf'
      have hw2 : IntKind.u32.wrap (t + u) = t' := by rw [wrapU]; exact ht'
      have HN2 : Hid (shL u (s.sk.take i) ++ [(f', t')] = shL u (s.sk.take (i + 1))) := by
        unfold Hid
        rw [← shL_more HX.out, HF.out, hf', ht']
      obtain ⟨S, hS⟩ : ∃ S : World → Prop, S = fun W => W.cell? ⟨b, 13, none⟩ = some (.slice (some ⟨kb, ko, none⟩) n k.kc) ∧ W.cell? ⟨q, 13, none⟩ = some (.slice va i vc) ∧ W.cell? ⟨kb, ko + i * 2, none⟩ = some (.int .u32 f) ∧ W.cell? ⟨kb, ko + i * 2 + 1, none⟩ = some (.int .u32 t) := ⟨_, rfl⟩
      have HS1 : Hid (S wr) := by rw [hS]; exact ⟨j13, q13, hc0, hc1⟩
      have hkw : kb < w.heap.size := by
        obtain ⟨kb', ko', e', hc0', _⟩ := HK.out.1.2 i hi'
        rw [HKA.out] at e'
        cases e'
        exact lt_of_cell hc0'
      have HSK : Hid (∀ W, Below w.heap.size wr W → Box W b 28 (sgL s k) → Box W q 28 (sgL (shS s u v (shL u (s.sk.take i))) { k with ka := va, kc := vc }) → S W) := fun W hW b1 b2 => by
        rw [hS]
        refine ⟨?_, ?_, (hW.cell (p := ⟨_, _, none⟩) hkw).trans hc0, (hW.cell (p := ⟨_, _, none⟩) hkw).trans hc1⟩
        · have h13 : W.cell? ⟨b, 13, none⟩ = some (.slice k.ka s.sk.length k.kc) := Box.cell b1 13 rfl
          rwa [HK.out.2, HKA.out] at h13
        · have h13 : W.cell? ⟨q, 13, none⟩ = some (.slice va (shL u (s.sk.take i)).length vc) := Box.cell b2 13 rfl
          rwa [shL_len, List.length_take, Nat.min_eq_left (by omega)] at h13
      go_upto_region 10 with fail
      clear hf' ht' hx hf ht hc0 hc1 hi' hkw j13 q13
      have y0 : ∀ {ps : String} (ev : Operand → Value), ev (.tmp 10) = .pointer (some ⟨q, 0, none⟩) → ∀ W, S W → (execOp ev { dst := some 47, op := Go.Op.fieldAddr 28 (Go.Operand.tmp 10) 13, type := 0, pos := ps, after := #[], guard := none }).run Try.prog W = .ok (.value (.pointer (some ⟨q, 13, none⟩))) W := by
        intro ps ev h0 W hSw
        rw [hS] at hSw
        try dsimp only at hSw
        first | (go_simp; done) | (go_simp; with_reducible rfl)
      have y1 : ∀ {ps : String} (ev : Operand → Value), ev (.tmp 47) = .pointer (some ⟨q, 13, none⟩) → ∀ W, S W → (execOp ev { dst := some 48, op := Go.Op.load 25 (Go.Operand.tmp 47), type := 25, pos := ps, after := #[{ on := 0, ground := Go.Ground.data }], guard := none }).run Try.prog W = .ok (.value (.slice va i vc)) W := by
        intro ps ev h0 W hSw
        rw [hS] at hSw
        try dsimp only at hSw
        first | (go_simp; done) | (go_simp; with_reducible rfl)
      have y2 : ∀ {ps : String} (ev : Operand → Value), ev (.tmp 5) = .pointer (some ⟨b, 0, none⟩) → ∀ W, S W → (execOp ev { dst := some 49, op := Go.Op.fieldAddr 28 (Go.Operand.tmp 5) 13, type := 0, pos := ps, after := #[], guard := none }).run Try.prog W = .ok (.value (.pointer (some ⟨b, 13, none⟩))) W := by
        intro ps ev h0 W hSw
        rw [hS] at hSw
        try dsimp only at hSw
        first | (go_simp; done) | (go_simp; with_reducible rfl)
      have y3 : ∀ {ps : String} (ev : Operand → Value), ev (.tmp 49) = .pointer (some ⟨b, 13, none⟩) → ∀ W, S W → (execOp ev { dst := some 50, op := Go.Op.load 25 (Go.Operand.tmp 49), type := 25, pos := ps, after := #[{ on := 2, ground := Go.Ground.data }], guard := none }).run Try.prog W = .ok (.value (.slice (some ⟨kb, ko, none⟩) n k.kc)) W := by
        intro ps ev h0 W hSw
        rw [hS] at hSw
        try dsimp only at hSw
        first | (go_simp; done) | (go_simp; with_reducible rfl)
      have y4 : ∀ {ps : String} (ev : Operand → Value), ev (.tmp 11) = .int .i64 (i : Int) → ∀ W, S W → (execOp ev { dst := some 51, op := Go.Op.move (Go.Operand.tmp 11), type := 3, pos := ps, after := #[], guard := none }).run Try.prog W = .ok (.value (.int .i64 (i : Int))) W := by
        intro ps ev h0 W hSw
        rw [hS] at hSw
        try dsimp only at hSw
        first | (go_simp; done) | (go_simp; with_reducible rfl)
      have y5 : ∀ {ps : String} (ev : Operand → Value), ev (.tmp 50) = .slice (some ⟨kb, ko, none⟩) n k.kc → ev (.tmp 51) = .int .i64 (i : Int) → ∀ W, S W → (execOp ev { dst := some 52, op := Go.Op.indexAddr 25 (Go.Operand.tmp 50) (Go.Operand.tmp 51), type := 0, pos := ps, after := #[{ on := 3, ground := Go.Ground.data }, { on := 4, ground := Go.Ground.data }], guard := none }).run Try.prog W = .ok (.value (.pointer (some ⟨kb, ko + i * 2, none⟩))) W := by
        intro ps ev h0 h1 W hSw
        rw [hS] at hSw
        try dsimp only at hSw
        first | (go_simp; done) | (go_simp; with_reducible rfl)
      have y6 : ∀ {ps : String} (ev : Operand → Value), ev (.tmp 52) = .pointer (some ⟨kb, ko + i * 2, none⟩) → ∀ W, S W → (execOp ev { dst := some 53, op := Go.Op.fieldAddr 41 (Go.Operand.tmp 52) 0, type := 0, pos := ps, after := #[{ on := 5, ground := Go.Ground.data }], guard := none }).run Try.prog W = .ok (.value (.pointer (some ⟨kb, ko + i * 2, none⟩))) W := by
        intro ps ev h0 W hSw
        rw [hS] at hSw
        try dsimp only at hSw
        first | (go_simp; done) | (go_simp; with_reducible rfl)
      have y7 : ∀ {ps : String} (ev : Operand → Value), ev (.tmp 53) = .pointer (some ⟨kb, ko + i * 2, none⟩) → ∀ W, S W → (execOp ev { dst := some 54, op := Go.Op.load 22 (Go.Operand.tmp 53), type := 22, pos := ps, after := #[{ on := 6, ground := Go.Ground.data }], guard := none }).run Try.prog W = .ok (.value (.int .u32 f)) W := by
        intro ps ev h0 W hSw
        rw [hS] at hSw
        try dsimp only at hSw
        first | (go_simp; done) | (go_simp; with_reducible rfl)
      have y8 : ∀ {ps : String} (ev : Operand → Value), ev (.tmp 2) = .int .u32 u → ∀ W, S W → (execOp ev { dst := some 55, op := Go.Op.move (Go.Operand.tmp 2), type := 22, pos := ps, after := #[], guard := none }).run Try.prog W = .ok (.value (.int .u32 u)) W := by
        intro ps ev h0 W hSw
        rw [hS] at hSw
        try dsimp only at hSw
        first | (go_simp; done) | (go_simp; with_reducible rfl)
      have y9 : ∀ {ps : String} (ev : Operand → Value), ev (.tmp 54) = .int .u32 f → ev (.tmp 55) = .int .u32 u → ∀ W, S W → (execOp ev { dst := some 56, op := Go.Op.binOp Go.BinOp.add 22 (Go.Operand.tmp 54) (Go.Operand.tmp 55) 22, type := 22, pos := ps, after := #[{ on := 7, ground := Go.Ground.data }, { on := 8, ground := Go.Ground.data }], guard := none }).run Try.prog W = .ok (.value (.int .u32 f')) W := by
        intro ps ev h0 h1 W hSw
        rw [hS] at hSw
        try dsimp only at hSw
        first | (go_simp; done) | (go_simp; with_reducible rfl)
      have y10 : ∀ {ps : String} (ev : Operand → Value), ev (.tmp 5) = .pointer (some ⟨b, 0, none⟩) → ∀ W, S W → (execOp ev { dst := some 57, op := Go.Op.fieldAddr 28 (Go.Operand.tmp 5) 13, type := 0, pos := ps, after := #[], guard := none }).run Try.prog W = .ok (.value (.pointer (some ⟨b, 13, none⟩))) W := by
        intro ps ev h0 W hSw
        rw [hS] at hSw
        try dsimp only at hSw
        first | (go_simp; done) | (go_simp; with_reducible rfl)
      have y11 : ∀ {ps : String} (ev : Operand → Value), ev (.tmp 57) = .pointer (some ⟨b, 13, none⟩) → ∀ W, S W → (execOp ev { dst := some 58, op := Go.Op.load 25 (Go.Operand.tmp 57), type := 25, pos := ps, after := #[{ on := 10, ground := Go.Ground.data }], guard := none }).run Try.prog W = .ok (.value (.slice (some ⟨kb, ko, none⟩) n k.kc)) W := by
        intro ps ev h0 W hSw
        rw [hS] at hSw
        try dsimp only at hSw
        first | (go_simp; done) | (go_simp; with_reducible rfl)
      have y12 : ∀ {ps : String} (ev : Operand → Value), ev (.tmp 11) = .int .i64 (i : Int) → ∀ W, S W → (execOp ev { dst := some 59, op := Go.Op.move (Go.Operand.tmp 11), type := 3, pos := ps, after := #[], guard := none }).run Try.prog W = .ok (.value (.int .i64 (i : Int))) W := by
        intro ps ev h0 W hSw
        rw [hS] at hSw
        try dsimp only at hSw
        first | (go_simp; done) | (go_simp; with_reducible rfl)
      have y13 : ∀ {ps : String} (ev : Operand → Value), ev (.tmp 58) = .slice (some ⟨kb, ko, none⟩) n k.kc → ev (.tmp 59) = .int .i64 (i : Int) → ∀ W, S W → (execOp ev { dst := some 60, op := Go.Op.indexAddr 25 (Go.Operand.tmp 58) (Go.Operand.tmp 59), type := 0, pos := ps, after := #[{ on := 11, ground := Go.Ground.data }, { on := 12, ground := Go.Ground.data }], guard := none }).run Try.prog W = .ok (.value (.pointer (some ⟨kb, ko + i * 2, none⟩))) W := by
        intro ps ev h0 h1 W hSw
        rw [hS] at hSw
        try dsimp only at hSw
        first | (go_simp; done) | (go_simp; with_reducible rfl)
      have y14 : ∀ {ps : String} (ev : Operand → Value), ev (.tmp 60) = .pointer (some ⟨kb, ko + i * 2, none⟩) → ∀ W, S W → (execOp ev { dst := some 61, op := Go.Op.fieldAddr 41 (Go.Operand.tmp 60) 1, type := 0, pos := ps, after := #[{ on := 13, ground := Go.Ground.data }], guard := none }).run Try.prog W = .ok (.value (.pointer (some ⟨kb, ko + i * 2 + 1, none⟩))) W := by
        intro ps ev h0 W hSw
        rw [hS] at hSw
        try dsimp only at hSw
        first | (go_simp; done) | (go_simp; with_reducible rfl)
      have y15 : ∀ {ps : String} (ev : Operand → Value), ev (.tmp 61) = .pointer (some ⟨kb, ko + i * 2 + 1, none⟩) → ∀ W, S W → (execOp ev { dst := some 62, op := Go.Op.load 22 (Go.Operand.tmp 61), type := 22, pos := ps, after := #[{ on := 14, ground := Go.Ground.data }], guard := none }).run Try.prog W = .ok (.value (.int .u32 t)) W := by
        intro ps ev h0 W hSw
        rw [hS] at hSw
        try dsimp only at hSw
        first | (go_simp; done) | (go_simp; with_reducible rfl)
      have y16 : ∀ {ps : String} (ev : Operand → Value), ev (.tmp 2) = .int .u32 u → ∀ W, S W → (execOp ev { dst := some 63, op := Go.Op.move (Go.Operand.tmp 2), type := 22, pos := ps, after := #[], guard := none }).run Try.prog W = .ok (.value (.int .u32 u)) W := by
        intro ps ev h0 W hSw
        rw [hS] at hSw
        try dsimp only at hSw
        first | (go_simp; done) | (go_simp; with_reducible rfl)
      have y17 : ∀ {ps : String} (ev : Operand → Value), ev (.tmp 62) = .int .u32 t → ev (.tmp 63) = .int .u32 u → ∀ W, S W → (execOp ev { dst := some 64, op := Go.Op.binOp Go.BinOp.add 22 (Go.Operand.tmp 62) (Go.Operand.tmp 63) 22, type := 22, pos := ps, after := #[{ on := 15, ground := Go.Ground.data }, { on := 16, ground := Go.Ground.data }], guard := none }).run Try.prog W = .ok (.value (.int .u32 t')) W := by
        intro ps ev h0 h1 W hSw
        rw [hS] at hSw
        try dsimp only at hSw
        first | (go_simp; done) | (go_simp; with_reducible rfl)
      have y18 : ∀ {ps : String} (ev : Operand → Value), ev (.tmp 56) = .int .u32 f' → ev (.tmp 64) = .int .u32 t' → ∀ W, S W → (execOp ev { dst := some 65, op := Go.Op.build 41 #[(0, Go.Operand.tmp 56), (1, Go.Operand.tmp 64)], type := 41, pos := ps, after := #[{ on := 9, ground := Go.Ground.data }, { on := 17, ground := Go.Ground.data }], guard := none }).run Try.prog W = .ok (.value (.agg #[.int .u32 f', .int .u32 t'])) W := by
        intro ps ev h0 h1 W hSw
        rw [hS] at hSw
        try dsimp only at hSw
        first | (go_simp; done) | (go_simp; with_reducible rfl)
      refine wp_region_X S 22 (by kernel_rfl) (HSK.out _ (Below.drew (Below.refl _ _)) HR.out.bb HR.out.bq) (fun hHeld => ?_)
      refine wpX_take (i := 0) (oi := { dst := some 47, op := Go.Op.fieldAddr 28 (Go.Operand.tmp 10) 13, type := 0, pos := _, after := #[], guard := none }) (v := .pointer (some ⟨q, 13, none⟩)) rfl (by kernel_rfl) (by kernel_rfl) (by kernel_rfl) (fun _ _ _ h => h) ⟨_, rfl, { on := 0, ground := Go.Ground.phase }, by simp, by rfl, rfl⟩ (by decide) (Or.inl ⟨by rfl, y0 _ rfl⟩) (by assumption) ?_
      try simp only [Act.put, List.setIfInBounds_toArray, List.set_cons_zero, List.set_cons_succ]
      refine wpX_take (i := 1) (oi := { dst := some 48, op := Go.Op.load 25 (Go.Operand.tmp 47), type := 25, pos := _, after := #[{ on := 0, ground := Go.Ground.data }], guard := none }) (v := .slice va i vc) rfl (by kernel_rfl) (by kernel_rfl) (by kernel_rfl) (fun _ _ _ h => h) ⟨_, rfl, { on := 1, ground := Go.Ground.phase }, by simp, by rfl, rfl⟩ (by decide) (Or.inl ⟨by rfl, y1 _ rfl⟩) (by assumption) ?_
      try simp only [Act.put, List.setIfInBounds_toArray, List.set_cons_zero, List.set_cons_succ]
      refine wpX_take (i := 2) (oi := { dst := some 49, op := Go.Op.fieldAddr 28 (Go.Operand.tmp 5) 13, type := 0, pos := _, after := #[], guard := none }) (v := .pointer (some ⟨b, 13, none⟩)) rfl (by kernel_rfl) (by kernel_rfl) (by kernel_rfl) (fun _ _ _ h => h) ⟨_, rfl, { on := 2, ground := Go.Ground.phase }, by simp, by rfl, rfl⟩ (by decide) (Or.inl ⟨by rfl, y2 _ rfl⟩) (by assumption) ?_
      try simp only [Act.put, List.setIfInBounds_toArray, List.set_cons_zero, List.set_cons_succ]
      refine wpX_take (i := 3) (oi := { dst := some 50, op := Go.Op.load 25 (Go.Operand.tmp 49), type := 25, pos := _, after := #[{ on := 2, ground := Go.Ground.data }], guard := none }) (v := .slice (some ⟨kb, ko, none⟩) n k.kc) rfl (by kernel_rfl) (by kernel_rfl) (by kernel_rfl) (fun _ _ _ h => h) ⟨_, rfl, { on := 3, ground := Go.Ground.phase }, by simp, by rfl, rfl⟩ (by decide) (Or.inl ⟨by rfl, y3 _ rfl⟩) (by assumption) ?_
      try simp only [Act.put, List.setIfInBounds_toArray, List.set_cons_zero, List.set_cons_succ]
      refine wpX_take (i := 4) (oi := { dst := some 51, op := Go.Op.move (Go.Operand.tmp 11), type := 3, pos := _, after := #[], guard := none }) (v := .int .i64 (i : Int)) rfl (by kernel_rfl) (by kernel_rfl) (by kernel_rfl) (fun _ _ _ h => h) ⟨_, rfl, { on := 4, ground := Go.Ground.phase }, by simp, by rfl, rfl⟩ (by decide) (Or.inl ⟨by rfl, y4 _ rfl⟩) (by assumption) ?_
      try simp only [Act.put, List.setIfInBounds_toArray, List.set_cons_zero, List.set_cons_succ]
      refine wpX_take (i := 5) (oi := { dst := some 52, op := Go.Op.indexAddr 25 (Go.Operand.tmp 50) (Go.Operand.tmp 51), type := 0, pos := _, after := #[{ on := 3, ground := Go.Ground.data }, { on := 4, ground := Go.Ground.data }], guard := none }) (v := .pointer (some ⟨kb, ko + i * 2, none⟩)) rfl (by kernel_rfl) (by kernel_rfl) (by kernel_rfl) (fun _ _ _ h => h) ⟨_, rfl, { on := 5, ground := Go.Ground.phase }, by simp, by rfl, rfl⟩ (by decide) (Or.inl ⟨by rfl, y5 _ rfl rfl⟩) (by assumption) ?_
      try simp only [Act.put, List.setIfInBounds_toArray, List.set_cons_zero, List.set_cons_succ]
      refine wpX_take (i := 6) (oi := { dst := some 53, op := Go.Op.fieldAddr 41 (Go.Operand.tmp 52) 0, type := 0, pos := _, after := #[{ on := 5, ground := Go.Ground.data }], guard := none }) (v := .pointer (some ⟨kb, ko + i * 2, none⟩)) rfl (by kernel_rfl) (by kernel_rfl) (by kernel_rfl) (fun _ _ _ h => h) ⟨_, rfl, { on := 6, ground := Go.Ground.phase }, by simp, by rfl, rfl⟩ (by decide) (Or.inl ⟨by rfl, y6 _ rfl⟩) (by assumption) ?_
      try simp only [Act.put, List.setIfInBounds_toArray, List.set_cons_zero, List.set_cons_succ]
      refine wpX_take (i := 7) (oi := { dst := some 54, op := Go.Op.load 22 (Go.Operand.tmp 53), type := 22, pos := _, after := #[{ on := 6, ground := Go.Ground.data }], guard := none }) (v := .int .u32 f) rfl (by kernel_rfl) (by kernel_rfl) (by kernel_rfl) (fun _ _ _ h => h) ⟨_, rfl, { on := 7, ground := Go.Ground.phase }, by simp, by rfl, rfl⟩ (by decide) (Or.inl ⟨by rfl, y7 _ rfl⟩) (by assumption) ?_
      try simp only [Act.put, List.setIfInBounds_toArray, List.set_cons_zero, List.set_cons_succ]
      refine wpX_take (i := 8) (oi := { dst := some 55, op := Go.Op.move (Go.Operand.tmp 2), type := 22, pos := _, after := #[], guard := none }) (v := .int .u32 u) rfl (by kernel_rfl) (by kernel_rfl) (by kernel_rfl) (fun _ _ _ h => h) ⟨_, rfl, { on := 8, ground := Go.Ground.phase }, by simp, by rfl, rfl⟩ (by decide) (Or.inl ⟨by rfl, y8 _ rfl⟩) (by assumption) ?_
      try simp only [Act.put, List.setIfInBounds_toArray, List.set_cons_zero, List.set_cons_succ]
      refine wpX_take (i := 9) (oi := { dst := some 56, op := Go.Op.binOp Go.BinOp.add 22 (Go.Operand.tmp 54) (Go.Operand.tmp 55) 22, type := 22, pos := _, after := #[{ on := 7, ground := Go.Ground.data }, { on := 8, ground := Go.Ground.data }], guard := none }) (v := .int .u32 f') rfl (by kernel_rfl) (by kernel_rfl) (by kernel_rfl) (fun _ _ _ h => h) ⟨_, rfl, { on := 9, ground := Go.Ground.phase }, by simp, by rfl, rfl⟩ (by decide) (Or.inl ⟨by rfl, y9 _ rfl rfl⟩) (by assumption) ?_
      try simp only [Act.put, List.setIfInBounds_toArray, List.set_cons_zero, List.set_cons_succ]
      refine wpX_take (i := 10) (oi := { dst := some 57, op := Go.Op.fieldAddr 28 (Go.Operand.tmp 5) 13, type := 0, pos := _, after := #[], guard := none }) (v := .pointer (some ⟨b, 13, none⟩)) rfl (by kernel_rfl) (by kernel_rfl) (by kernel_rfl) (fun _ _ _ h => h) ⟨_, rfl, { on := 10, ground := Go.Ground.phase }, by simp, by rfl, rfl⟩ (by decide) (Or.inl ⟨by rfl, y10 _ rfl⟩) (by assumption) ?_
      try simp only [Act.put, List.setIfInBounds_toArray, List.set_cons_zero, List.set_cons_succ]
      refine wpX_take (i := 11) (oi := { dst := some 58, op := Go.Op.load 25 (Go.Operand.tmp 57), type := 25, pos := _, after := #[{ on := 10, ground := Go.Ground.data }], guard := none }) (v := .slice (some ⟨kb, ko, none⟩) n k.kc) rfl (by kernel_rfl) (by kernel_rfl) (by kernel_rfl) (fun _ _ _ h => h) ⟨_, rfl, { on := 11, ground := Go.Ground.phase }, by simp, by rfl, rfl⟩ (by decide) (Or.inl ⟨by rfl, y11 _ rfl⟩) (by assumption) ?_
      try simp only [Act.put, List.setIfInBounds_toArray, List.set_cons_zero, List.set_cons_succ]
      refine wpX_take (i := 12) (oi := { dst := some 59, op := Go.Op.move (Go.Operand.tmp 11), type := 3, pos := _, after := #[], guard := none }) (v := .int .i64 (i : Int)) rfl (by kernel_rfl) (by kernel_rfl) (by kernel_rfl) (fun _ _ _ h => h) ⟨_, rfl, { on := 12, ground := Go.Ground.phase }, by simp, by rfl, rfl⟩ (by decide) (Or.inl ⟨by rfl, y12 _ rfl⟩) (by assumption) ?_
      try simp only [Act.put, List.setIfInBounds_toArray, List.set_cons_zero, List.set_cons_succ]
      refine wpX_take (i := 13) (oi := { dst := some 60, op := Go.Op.indexAddr 25 (Go.Operand.tmp 58) (Go.Operand.tmp 59), type := 0, pos := _, after := #[{ on := 11, ground := Go.Ground.data }, { on := 12, ground := Go.Ground.data }], guard := none }) (v := .pointer (some ⟨kb, ko + i * 2, none⟩)) rfl (by kernel_rfl) (by kernel_rfl) (by kernel_rfl) (fun _ _ _ h => h) ⟨_, rfl, { on := 13, ground := Go.Ground.phase }, by simp, by rfl, rfl⟩ (by decide) (Or.inl ⟨by rfl, y13 _ rfl rfl⟩) (by assumption) ?_
      try simp only [Act.put, List.setIfInBounds_toArray, List.set_cons_zero, List.set_cons_succ]
      refine wpX_take (i := 14) (oi := { dst := some 61, op := Go.Op.fieldAddr 41 (Go.Operand.tmp 60) 1, type := 0, pos := _, after := #[{ on := 13, ground := Go.Ground.data }], guard := none }) (v := .pointer (some ⟨kb, ko + i * 2 + 1, none⟩)) rfl (by kernel_rfl) (by kernel_rfl) (by kernel_rfl) (fun _ _ _ h => h) ⟨_, rfl, { on := 14, ground := Go.Ground.phase }, by simp, by rfl, rfl⟩ (by decide) (Or.inl ⟨by rfl, y14 _ rfl⟩) (by assumption) ?_
      try simp only [Act.put, List.setIfInBounds_toArray, List.set_cons_zero, List.set_cons_succ]
      refine wpX_take (i := 15) (oi := { dst := some 62, op := Go.Op.load 22 (Go.Operand.tmp 61), type := 22, pos := _, after := #[{ on := 14, ground := Go.Ground.data }], guard := none }) (v := .int .u32 t) rfl (by kernel_rfl) (by kernel_rfl) (by kernel_rfl) (fun _ _ _ h => h) ⟨_, rfl, { on := 15, ground := Go.Ground.phase }, by simp, by rfl, rfl⟩ (by decide) (Or.inl ⟨by rfl, y15 _ rfl⟩) (by assumption) ?_
      try simp only [Act.put, List.setIfInBounds_toArray, List.set_cons_zero, List.set_cons_succ]
      refine wpX_take (i := 16) (oi := { dst := some 63, op := Go.Op.move (Go.Operand.tmp 2), type := 22, pos := _, after := #[], guard := none }) (v := .int .u32 u) rfl (by kernel_rfl) (by kernel_rfl) (by kernel_rfl) (fun _ _ _ h => h) ⟨_, rfl, { on := 16, ground := Go.Ground.phase }, by simp, by rfl, rfl⟩ (by decide) (Or.inl ⟨by rfl, y16 _ rfl⟩) (by assumption) ?_
      try simp only [Act.put, List.setIfInBounds_toArray, List.set_cons_zero, List.set_cons_succ]
      refine wpX_take (i := 17) (oi := { dst := some 64, op := Go.Op.binOp Go.BinOp.add 22 (Go.Operand.tmp 62) (Go.Operand.tmp 63) 22, type := 22, pos := _, after := #[{ on := 15, ground := Go.Ground.data }, { on := 16, ground := Go.Ground.data }], guard := none }) (v := .int .u32 t') rfl (by kernel_rfl) (by kernel_rfl) (by kernel_rfl) (fun _ _ _ h => h) ⟨_, rfl, { on := 17, ground := Go.Ground.phase }, by simp, by rfl, rfl⟩ (by decide) (Or.inl ⟨by rfl, y17 _ rfl rfl⟩) (by assumption) ?_
      try simp only [Act.put, List.setIfInBounds_toArray, List.set_cons_zero, List.set_cons_succ]
      refine wpX_take (i := 18) (oi := { dst := some 65, op := Go.Op.build 41 #[(0, Go.Operand.tmp 56), (1, Go.Operand.tmp 64)], type := 41, pos := _, after := #[{ on := 9, ground := Go.Ground.data }, { on := 17, ground := Go.Ground.data }], guard := none }) (v := .agg #[.int .u32 f', .int .u32 t']) rfl (by kernel_rfl) (by kernel_rfl) (by kernel_rfl) (fun _ _ _ h => h) ⟨_, rfl, { on := 18, ground := Go.Ground.phase }, by simp, by rfl, rfl⟩ (by decide) (Or.inl ⟨by rfl, y18 _ rfl rfl⟩) (by assumption) ?_
      try simp only [Act.put, List.setIfInBounds_toArray, List.set_cons_zero, List.set_cons_succ]
      refine wpX_one (i := 19) (o := { dst := some 66, op := Go.Op.buildSlice 25 1 #[(0, Go.Operand.tmp 65)], type := 25, pos := _, after := #[{ on := 18, ground := Go.Ground.data }], guard := none }) (by kernel_rfl) rfl (fun K hK => ?_)
      rw [if_pos (by rfl)]
      go_simp
      obtain ⟨X6, hX6⟩ : ∃ X6, (wr.alloc (.cells #[.int .u32 f', .int .u32 t'] 41)).drew = X6 := ⟨_, rfl⟩
      have b6 : Below wr.heap.size wr X6 := by rw [← hX6]; exact Below.drew (below_more (Below.refl _ _) _)
      have b6' : Below w.heap.size wr X6 := b6.mono HR.out.bel.size
      have hT6 : ∀ j u, [Value.int .u32 f', Value.int .u32 t'][j]? = some u → X6.cell? ((⟨wr.heap.size, 0, none⟩ : Addr).add j) = some u := by
        intro j u hj
        have hb := (Box.new wr 41 [.int .u32 f', .int .u32 t']).later (Below.drew (Below.refl _ _))
        rw [← hX6]
        rw [add_plain, Nat.zero_add]
        exact hb.cell j hj
      have hO6 : RowB X6 w.heap.size va i vc (shL u (s.sk.take i)) := HR.out.row.later b6
      have hs6 : w.heap.size ≤ X6.heap.size := by have := HR.out.bel.size; have := b6.size; omega
      try rw [hX6]
      refine hK.out _ _ ⟨fun _ => HSK.out _ b6' (HR.out.bb.later b6) (HR.out.bq.later b6), ?_⟩
      clear hK K hHeld hX6
      try simp only [Act.put, List.setIfInBounds_toArray, List.set_cons_zero, List.set_cons_succ]
      refine wpX_one (i := 20) (o := { dst := some 67, op := Go.Op.call { callee := Go.Callee.builtin Go.Builtin.append, args := #[Go.Operand.tmp 48, Go.Operand.tmp 66], argTypes := #[25, 25] }, type := 25, pos := _, after := #[{ on := 1, ground := Go.Ground.data }, { on := 19, ground := Go.Ground.data }], guard := none }) (by kernel_rfl) rfl (fun K hK => ?_)
      refine step_appK rfl (.tmp 48) (.tmp 66) rfl w.heap.size va i vc (shL u (s.sk.take i)) ⟨wr.heap.size, 0, none⟩ (f', t') rfl rfl hO6 hs6 hT6 (by omega) ?_
      intro va' vc' w7 hr7 hg7 hl7
      rw [HN2.out] at hr7
      have hq7 : Box w7 q 28 (sgL (shS s u v (shL u (s.sk.take i))) { k with ka := va, kc := vc }) := (HR.out.bq.later b6).growB hO6 (by decide) hg7
      have HR7 : Hid (Below w.heap.size w w7 ∧ Box w7 g 24 (asL a) ∧ Box w7 b 28 (sgL s k) ∧ Box w7 p 24 (asL (Ak.shiftA a u v)) ∧ Box w7 q 28 (sgL (shS s u v (shL u (s.sk.take i))) { k with ka := va, kc := vc }) ∧ RowB w7 w.heap.size va' (i + 1) vc' (shL u (s.sk.take (i + 1)))) :=
        ⟨HR.out.bel.trans (b6'.trans hl7), (HR.out.bg.later b6).growB hO6 (by decide) hg7, (HR.out.bb.later b6).growB hO6 (by decide) hg7, (HR.out.bp.later b6).growB hO6 (by decide) hg7, hq7, hr7⟩
      refine hK.out _ _ ⟨fun _ => HSK.out _ (b6'.trans hl7) HR7.out.2.2.1 hq7, ?_⟩
      clear hK K
      try simp only [Act.put, List.setIfInBounds_toArray, List.set_cons_zero, List.set_cons_succ]
      refine wpX_one (i := 21) (o := { dst := some 68, op := Go.Op.fieldAddr 28 (Go.Operand.tmp 10) 13, type := 0, pos := _, after := #[{ on := 0, ground := Go.Ground.phase }, { on := 1, ground := Go.Ground.phase }, { on := 2, ground := Go.Ground.phase }, { on := 3, ground := Go.Ground.phase }, { on := 4, ground := Go.Ground.phase }, { on := 5, ground := Go.Ground.phase }, { on := 6, ground := Go.Ground.phase }, { on := 7, ground := Go.Ground.phase }, { on := 8, ground := Go.Ground.phase }, { on := 9, ground := Go.Ground.phase }, { on := 10, ground := Go.Ground.phase }, { on := 11, ground := Go.Ground.phase }, { on := 12, ground := Go.Ground.phase }, { on := 13, ground := Go.Ground.phase }, { on := 14, ground := Go.Ground.phase }, { on := 15, ground := Go.Ground.phase }, { on := 16, ground := Go.Ground.phase }, { on := 17, ground := Go.Ground.phase }, { on := 18, ground := Go.Ground.phase }, { on := 19, ground := Go.Ground.phase }, { on := 20, ground := Go.Ground.phase }], guard := none }) (by kernel_rfl) rfl (fun K hK => ?_)
      rw [if_pos (by rfl)]
      go_simp
      refine hK.out _ _ ⟨fun _ => HSK.out _ (b6'.trans hl7) HR7.out.2.2.1 hq7, ?_⟩
      clear hK K
      try simp only [Act.put, List.setIfInBounds_toArray, List.set_cons_zero, List.set_cons_succ]
      have q13 := Box.cell hq7 13 rfl
      have fq := Box.frozen hq7 13
      refine wpX_one (i := 22) (o := { dst := none, op := Go.Op.store 25 (Go.Operand.tmp 68) (Go.Operand.tmp 67), type := 0, pos := _, after := #[{ on := 21, ground := Go.Ground.data }, { on := 20, ground := Go.Ground.data }, { on := 20, ground := Go.Ground.chain }, { on := 0, ground := Go.Ground.phase }, { on := 1, ground := Go.Ground.phase }, { on := 2, ground := Go.Ground.phase }, { on := 3, ground := Go.Ground.phase }, { on := 4, ground := Go.Ground.phase }, { on := 5, ground := Go.Ground.phase }, { on := 6, ground := Go.Ground.phase }, { on := 7, ground := Go.Ground.phase }, { on := 8, ground := Go.Ground.phase }, { on := 9, ground := Go.Ground.phase }, { on := 10, ground := Go.Ground.phase }, { on := 11, ground := Go.Ground.phase }, { on := 12, ground := Go.Ground.phase }, { on := 13, ground := Go.Ground.phase }, { on := 14, ground := Go.Ground.phase }, { on := 15, ground := Go.Ground.phase }, { on := 16, ground := Go.Ground.phase }, { on := 17, ground := Go.Ground.phase }, { on := 18, ground := Go.Ground.phase }, { on := 19, ground := Go.Ground.phase }, { on := 20, ground := Go.Ground.phase }], guard := none }) (by kernel_rfl) rfl (fun K hK => ?_)
      rw [if_pos (by rfl)]
      go_simp
      refine hK.out _ _ ⟨fun h => absurd rfl h, ?_⟩
      clear hK K
      refine wpX_done (by kernel_rfl) ?_ _
      try simp only [Act.put, List.setIfInBounds_toArray, List.set_cons_zero, List.set_cons_succ]
      have HN : Hid (ShR w (w7.setCell ⟨q, 13, none⟩ (.slice va' (i + 1) vc')) a s k u v g b p q (i + 1) va' vc') := by
        obtain ⟨r0, r1, r2, r3, r4, r5⟩ := HR7.out
        obtain ⟨n0, n1, n2, n3, n4⟩ := HQ.out
        refine ⟨below_set r0 _ _ _ n1, r1.aside _ _ _ (fun e => n2 e.symm), r2.aside _ _ _ (fun e => n3 e.symm), r3.aside _ _ _ (fun e => n4 e.symm), ?_, r5.besB r4 (by decide) _ _⟩
        have h := r4.set 13 (.slice va' (i + 1) vc')
        have hl : (shL u (s.sk.take (i + 1))).length = i + 1 := by rw [shL_len, List.length_take, Nat.min_eq_left (by have := HK.out.2; omega)]
        rw [show (sgL (shS s u v (shL u (s.sk.take i))) { k with ka := va, kc := vc }).set 13 (.slice va' (i + 1) vc') = sgL (shS s u v (shL u (s.sk.take (i + 1)))) { k with ka := va', kc := vc' } from by
          rw [show sgL (shS s u v (shL u (s.sk.take (i + 1)))) { k with ka := va', kc := vc' } = (sgL (shS s u v (shL u (s.sk.take i))) { k with ka := va, kc := vc }).set 13 (.slice va' (shL u (s.sk.take (i + 1))).length vc') from rfl, hl]] at h
        exact h
      clear y0 y1 y2 y3 y4 y5 y6 y7 y8 y9 y10 y11 y12 y13 y14 y15 y16 y17 y18 hS HSK b6 b6' hT6 hO6 hs6 hr7 hg7 hl7 HR HR7 hq7 q13 fq HN2 hw1 hw2 HX HF HKA HS1
      go_wp2_with fail
      go_roundw
      case rel => exact ⟨i + 1, va', vc', by go_num, by omega, HN⟩
      case measure => simp [intOf]; omega
    · obtain rfl : i = n := by omega
      have hge : ¬ ((i : Int) < (i : Int)) := by omega
      have htk : s.sk.take i = s.sk := List.take_of_length_le (by rw [HK.out.2]; exact Nat.le_refl _)
      have HF : Hid (ShR w wr a s k u v g b p q i va vc ∧ Box wr q 28 (sgL (shS s u v (shL u s.sk)) { k with ka := va, kc := vc })) := ⟨HR.out, by have h := HR.out.bq; rwa [htk] at h⟩
      have HT : Hid (BlksAt wr va (shL u s.sk)) := by
        have h := HR.out.row
        rw [htk] at h
        exact h.blks (by rw [shL_len, HK.out.2]; omega)
      go_upto_region 11 with fail
      refine sh11_reg (by rfl) a (Ak.shiftA a u v) s (shS s u v (shL u s.sk)) k { k with ka := va, kc := vc } (Ak.hear a (snOf s)) g b p q wr.heap.size wr rfl rfl rfl rfl ?_ ?_ ?_ ?_ ?_
      · exact Nat.le_refl _
      · exact fun W hW => weigh_is a s k hA W (HK.out.1.below (HF.out.1.bel.trans (hW.mono HF.out.1.bel.size)) (Nat.le_refl _)) (by rw [HK.out.2]; omega)
      · exact fun W hW => by
          have h := weigh_is (Ak.shiftA a u v) (shS s u v (shL u s.sk)) { k with ka := va, kc := vc } { una := hA.una, nxt := hA.nxt, per := hA.per, rcn := hA.rcn, now := hA.now, iss := by unfold U32 Ak.shiftA; simp only; omega, irs := by unfold U32 Ak.shiftA; simp only; omega } W (HT.out.below hW (Nat.le_refl _)) (by show (shL u s.sk).length * 16 ≤ _; rw [shL_len, HK.out.2]; omega)
          rwa [show Ak.hear (Ak.shiftA a u v) (snOf (shS s u v (shL u s.sk))) = Ak.hear a (snOf s) from Ak.shifts a (snOf s) u v] at h
      · exact ⟨Below.refl _ _, HF.out.1.bg, HF.out.1.bb, HF.out.1.bp, HF.out.2⟩
      · intro c T X9 h10 hS
        simp only [Act.put, List.setIfInBounds_toArray, List.set_cons_zero, List.set_cons_succ]
        simp only [h10]
        have HE : Hid (Below w.heap.size w X9) := HF.out.1.bel.trans (hS.1.mono HF.out.1.bel.size)
        clear hS
        go_wp2_with fail
        go_ret
        exact ⟨rfl, HE.out⟩

theorem shifts_walk (a : Ak.As) (s : Seg) (k : Hs) (u v : Int) (w : World) (ha : AsI a) (hK : BlksAt w k.ka s.sk ∧ s.sk.length * 16 ≤ 281474976710656) (hu : U32 u) (hv : U32 v) : Calls Try.prog 6 #[agv (asL a), agv (sgL s k), .int .u32 u, .int .u32 v] w fun e w' => e = .returned (.bool true) ∧ Below w.heap.size w w' := by
  by_cases h : s.sk.length ≤ 100
  · exact sh_near h a s k u v w ⟨hK.1, rfl⟩ ha
  · exact sh_far (by omega) a s k u v w ⟨hK.1, rfl⟩
end Go.Proofs.Ytdodagpkkjpdiaa
