/- The contract of readOptions, of options that are right. -/
import Derived.Test.YtllmeeebjjmanaaDoorOpt1
namespace Go.Proofs.YtllmeeebjjmanaaDoor
open Go.ChangeShapes Go.WideShapes Go.ChangeAt Go.RowKit Go.Shelf
set_option linter.unusedVariables false

theorem cutA_block {a : Option Addr} {c l p : Nat} (h : ∀ x, a = some x → x.block ≠ p) : ∀ x, cutA a c l = some x → x.block ≠ p := by
  intro x hx
  unfold cutA at hx
  split at hx
  · exact h x hx
  · cases a with
    | none => simp at hx
    | some y =>
      simp only [Option.map_some, Option.some.injEq] at hx
      subst hx
      have := h y rfl
      unfold Addr.add
      split <;> simpa using this

/-- Where the reading stands: what is left, the segment so far. -/
structure Left (w wr : World) (p : Nat) (S : Seg) (da : Option Addr) (dc : Nat) (l : List Int) (la : Option Addr) (s : Seg) (ka : Option Addr) (kc : Nat) : Prop where
  bytes : BytesAt wr la l
  ap : ∀ x, la = some x → x.block ≠ p
  cells : SegCells wr p s ka kc da dc
  blks : BlksAt wr ka s.sk
  kp : ∀ x, ka = some x → p < x.block
  rd : rdI s l = some S
  but : But p w wr

set_option maxRecDepth 100000 in
set_option maxHeartbeats 2000000 in
theorem readOptions_any (p : Nat) (s S : Seg) (ka : Option Addr) (kc : Nat) (da : Option Addr) (dc : Nat) (la : Option Addr) (ll lc : Nat) (l : List Int) (w : World)
    (hp : SegCells w p s ka kc da dc) (hk : BlksAt w ka s.sk) (hkp : ∀ x, ka = some x → p < x.block) (hb : BytesAt w la l) (hap : ∀ x, la = some x → x.block ≠ p) (hl : l.length = ll) (hc : ll ≤ lc) (hll : ll ≤ 40) (h : rdI s l = some S) :
    Calls Tryd.prog 47 #[.pointer (some ⟨p, 0, none⟩), .slice la ll lc] w fun e w' => e = .returned (.tuple #[]) ∧ (∃ ka' kc', SegCells w' p S ka' kc' da dc ∧ BlksAt w' ka' S.sk ∧ ∀ x, ka' = some x → p < x.block) ∧ But p w w' := by
  have H0 : Hid (Left w w p S da dc l la s ka kc) := ⟨hb, hap, hp, hk, hkp, h, But.refl _ _⟩
  have HL : Hid (l.length = ll) := hl
  clear hp hk hkp hb hap h hl
  go_enter Tryd.func47, Tryd.ntmps47
  go_wp2_with fail
  go_step3
  go_wp2_with fail
  go_step3
  go_wp2_with fail
  go_loopw [1] (fun v wr => ∃ (n c : Nat) (x : Option Addr) (r : List Int) (s : Seg) (ka : Option Addr) (kc : Nat), v = .slice x n c ∧ Hid (Left w wr p S da dc r x s ka kc) ∧ Hid (r.length = n) ∧ n ≤ c ∧ n ≤ 40)
    (fun v _ => lenOf v)
  case atStart => exact ⟨ll, lc, la, l, s, ka, kc, rfl, H0.out, HL.out, hc, hll⟩
  case round =>
    obtain ⟨n, c, x, r, s, ka, kc, rfl, H, HN, hnc, hn40⟩ := hrel
    clear H0
    by_cases h0 : n = 0
    · subst h0
      have hr : r = [] := List.eq_nil_of_length_eq_zero HN.out
      have hS : s = S := by
        have := H.out.rd
        rw [rd_end (.inl hr)] at this
        exact Option.some.inj this
      go_wp2_with fail
      rw [Exit.noGoto_normal]
      go_end0
      subst hS
      exact ⟨rfl, ⟨ka, kc, H.out.cells, H.out.blks, H.out.kp⟩, H.out.but⟩
    · have hrl : 0 < r.length := by have := HN.out; omega
      obtain ⟨b, o, rfl, hc0⟩ := H.out.bytes.2.2 0 hrl
      have hc0' : wr.cell? ⟨b, o, none⟩ = some (.int .u8 (nth r 0)) := hc0
      have hkb := nth_bd H.out.bytes.2.1 0
      obtain ⟨kind, hkind⟩ : ∃ kind, nth r 0 = kind := ⟨_, rfl⟩
      rw [hkind] at hc0' hkb
      have hp0 : (0 : Int) < (n : Int) := by omega
      have hrne : r ≠ [] := fun e => by rw [e] at hrl; simp at hrl
      by_cases k0 : kind = 0
      · have hS : s = S := by
          have := H.out.rd
          rw [rd_end (.inr (by rw [hkind, k0]))] at this
          exact Option.some.inj this
        subst k0
        clear hkind hc0
        go_wp2_with fail
        rw [Exit.noGoto_normal]
        go_end0
        subst hS
        exact ⟨rfl, ⟨ka, kc, H.out.cells, H.out.blks, H.out.kp⟩, H.out.but⟩
      · by_cases k1 : kind = 1
        · have hsl := sl_l (some ⟨b, o, none⟩) n c 1 1 rfl (by omega)
          obtain ⟨y, hy⟩ : ∃ y, cutA (some ⟨b, o, none⟩) c 1 = y := ⟨_, rfl⟩
          have HY : Hid (Left w wr p S da dc (r.drop 1) y s ka kc) := by
            refine { H.out with bytes := ?_, ap := ?_, rd := ?_ }
            · rw [← hy]; exact bytes_from H.out.bytes 1 (by omega) c (by have := HN.out; omega)
            · rw [← hy]; exact cutA_block H.out.ap
            · rw [← rd_pass hrne (by rw [hkind, k1])]; exact H.out.rd
          rw [hy] at hsl
          subst k1
          clear hkind hc0 hy
          go_wp2_with fail
          go_roundw
          case rel => exact ⟨n - 1, c - 1, y, r.drop 1, s, ka, kc, rfl, HY.out, by rw [Hid, List.length_drop, HN.out], by omega, by omega⟩
          case measure => simp [lenOf]; omega
        · have e0 : (kind == 0) = false := by simpa using k0
          have e1 : (kind == 1) = false := by simpa using k1
          have hn0 : nth r 0 ≠ 0 := by rw [hkind]; exact k0
          have hn1 : nth r 0 ≠ 1 := by rw [hkind]; exact k1
          have hlen : 2 ≤ r.length ∧ 2 ≤ nth r 1 ∧ nth r 1 ≤ (r.length : Int) := by
            by_cases hh : r.length < 2 ∨ nth r 1 < 2 ∨ (r.length : Int) < nth r 1
            · have := H.out.rd
              rw [rd_none hrne hn0 hn1 hh] at this
              cases this
            · omega
          obtain ⟨_, _, eb, hc1⟩ := H.out.bytes.2.2 1 (by omega)
          cases eb
          have hmb := nth_bd H.out.bytes.2.1 1
          obtain ⟨m, hm⟩ : ∃ m : Nat, nth r 1 = (m : Int) := ⟨(nth r 1).toNat, by omega⟩
          have hc1' : wr.cell? ⟨b, o + 1, none⟩ = some (.int .u8 m) := by rw [← hm]; exact hc1
          rw [hm] at hlen hmb
          have hn := HN.out
          have hmn : 2 ≤ m ∧ m ≤ n ∧ m ≤ 255 := by omega
          have hrd := H.out.rd
          rw [rd_some hn0 hn1 (by omega) (by rw [hm]; omega) (by rw [hm]; omega), hm, hkind, Int.toNat_natCast] at hrd
          obtain ⟨s', hs', hrd'⟩ := Option.bind_eq_some_iff.1 hrd
          have hbody : (r.take m).drop 2 = (r.drop 2).take (m - 2) := by rw [List.drop_take]
          rw [hbody] at hs'
          have hsl := sl_lh (some ⟨b, o, none⟩) n c 2 m 2 (m : Int) rfl rfl (by omega) (by omega)
          have hsm := sl_l (some ⟨b, o, none⟩) n c m (m : Int) rfl (by omega)
          obtain ⟨y, hy⟩ : ∃ y, cutA (some ⟨b, o, none⟩) c 2 = y := ⟨_, rfl⟩
          obtain ⟨z, hz⟩ : ∃ z, cutA (some ⟨b, o, none⟩) c m = z := ⟨_, rfl⟩
          have hbz : BytesAt wr z (r.drop m) := by rw [← hz]; exact bytes_from H.out.bytes m (by omega) c (by omega)
          have hzp : ∀ x, z = some x → x.block ≠ p := by rw [← hz]; exact cutA_block H.out.ap
          have hby : BytesAt wr y ((r.drop 2).take (m - 2)) := by rw [← hy]; exact bytes_cut H.out.bytes 2 (m - 2) (by omega) c (by omega)
          have hro := fun j => readOption_any p s s' ka kc da dc kind y (m - 2) (c - 2) ((r.drop 2).take (m - 2)) (wr.drewN j) H.out.cells H.out.blks H.out.kp hby (by simp; omega) (by omega) hs'
          obtain ⟨yl, hyl⟩ : ∃ yl, m - 2 = yl := ⟨_, rfl⟩
          obtain ⟨yc, hyc⟩ : ∃ yc, c - 2 = yc := ⟨_, rfl⟩
          obtain ⟨zl, hzl⟩ : ∃ zl, n - m = zl := ⟨_, rfl⟩
          obtain ⟨zc, hzc⟩ : ∃ zc, c - m = zc := ⟨_, rfl⟩
          rw [hyl, hyc] at hro
          rw [hy, hyl, hyc] at hsl
          rw [hz, hzl, hzc] at hsm
          have HRO : Hid (∀ j, Calls Tryd.prog 54 #[.pointer (some ⟨p, 0, none⟩), .int .u8 kind, .slice y yl yc] (wr.drewN j) fun e w' => e = .returned (.tuple #[]) ∧ (∃ ka' kc', SegCells w' p s' ka' kc' da dc ∧ BlksAt w' ka' s'.sk ∧ ∀ x, ka' = some x → p < x.block) ∧ But p (wr.drewN j) w') := hro
          have HZ : Hid ((r.drop m).length = zl ∧ zl ≤ zc ∧ zl ≤ 40 ∧ zl < n ∧ rdI s' (r.drop m) = some S) := ⟨by rw [List.length_drop]; omega, by omega, by omega, by omega, hrd'⟩
          have HBZ : Hid (BytesAt wr z (r.drop m) ∧ ∀ x, z = some x → x.block ≠ p) := ⟨hbz, hzp⟩
          have hm2 : (2 : Int) ≤ (m : Int) := by omega
          have hmn' : (m : Int) ≤ (n : Int) := by omega
          have hm255 : (m : Int) ≤ 255 := by omega
          have hn2 : (2 : Int) ≤ (n : Int) := by omega
          clear hro hbody hs' hrd hrd' hyl hyc hzl hzc hy hz hby hbz hzp hn hc0 hc1 hkind hlen hmb hm hmn hn0 hn1 hrne hrl
          go_wp2_with (go_at_call 53; refine (optionLen_ok b o n c (m : Int) _ hn2 hc1' ⟨hm2, hm255⟩ hmn').mono ?_; rintro e w' ⟨rfl, rfl⟩)
          have HBP : Hid (b ≠ p) := H.out.ap _ rfl
          go_region_held3 (fun wq => wq.cell? ⟨b, o, none⟩ = some (.int .u8 kind)) (first | exact hc0' | exact hc2.out)
            (first
              | (go_at_call 54; refine (HRO.out 1).mono ?_; rintro e w2 ⟨rfl, hq, hbut⟩; have hc2 : Hid (w2.cell? ⟨b, o, none⟩ = some (.int .u8 kind)) := hbut.cell (a := ⟨b, o, none⟩) hc0' HBP.out; have HQ : Hid (∃ ka' kc', SegCells w2 p s' ka' kc' da dc ∧ BlksAt w2 ka' s'.sk ∧ ∀ x, ka' = some x → p < x.block) := hq; have HBUT : Hid (But p (World.drewN _ 1) w2) := hbut; clear hq hbut))
          clear hc0' hc1'
          go_wp2_with fail
          go_roundw
          case rel =>
            obtain ⟨ka', kc', h1, h2, h3⟩ := HQ.out
            have hbb := (But.drewN p _ 1).trans HBUT.out
            exact ⟨zl, zc, z, r.drop m, s', ka', kc', rfl, ⟨HBZ.out.1.but hbb HBZ.out.2, HBZ.out.2, h1, h2, h3, HZ.out.2.2.2.2, H.out.but.trans hbb⟩, HZ.out.1, HZ.out.2.1, HZ.out.2.2.1⟩
          case measure => simp [lenOf]; exact HZ.out.2.2.2.1
end Go.Proofs.YtllmeeebjjmanaaDoor
