/- The contracts of fall, count and grow. -/
import Derived.Test.YtikcjdoeoghoeaaLeaf
namespace Go.Proofs.Ytikcjdoeoghoeaa
open Go.ChangeShapes Go.WideShapes Go.ChangeAt Go.RowKit
set_option linter.unusedVariables false


theorem Sto.refl (w : World) (g : Nat) : Sto w g w := ⟨rfl, fun _ _ => rfl, fun _ _ _ h => h⟩
theorem Sto.set {w X : World} {g : Nat} (h : Sto w g X) (i : Nat) (v : Value) : Sto w g (X.setCell ⟨g, i, none⟩ v) :=
  ⟨by simp [World.setCell, h.size], fun k hk => (Below.heap_setCell X ⟨g, i, none⟩ v k hk).trans (h.other k hk), fun B a hB hb => below_set (h.below B a hB hb) g i v hB⟩
theorem Sto.drewN {w X : World} {g : Nat} (h : Sto w g X) (n : Nat) : Sto w g (X.drewN n) := ⟨h.size, h.other, fun B a hB hb => below_drewN (h.below B a hB hb) n⟩
theorem Box.drewN {W : World} {g : Nat} {t : TypeId} {cs : List Value} (h : Box W g t cs) (n : Nat) : Box (W.drewN n) g t cs := h
theorem Sto.drew {w X : World} {g : Nat} (h : Sto w g X) : Sto w g X.drew := ⟨h.size, h.other, fun B a hB hb => (h.below B a hB hb).drew⟩
theorem Box.drew {W : World} {g : Nat} {t : TypeId} {cs : List Value} (h : Box W g t cs) : Box W.drew g t cs := h
theorem Sto.trans {w X Y : World} {g : Nat} (h : Sto w g X) (h' : Sto X g Y) : Sto w g Y := ⟨h'.size.trans h.size, fun k hk => (h'.other k hk).trans (h.other k hk), fun B a hB hb => h'.below B a hB (h.below B a hB hb)⟩

def halfI (n m : Int) : Int := max (n / 2) (2 * m)
set_option maxRecDepth 100000 in
set_option maxHeartbeats 4000000 in
theorem count_lo (c : Cc) (g : Nat) (n : Int) (w : World) (hb : Box w g 69 (ccL c)) (hn : 0 ≤ n ∧ n ≤ 1073741824) (ha : 0 ≤ c.ac ∧ c.ac ≤ 1073741824) (hm : 1 ≤ c.ms ∧ c.ms ≤ 65000) (hc : 0 ≤ c.cw ∧ c.cw ≤ 1073741824) (h : c.ac + n < c.cw) : Calls Try.prog 61 #[.pointer (some ⟨g, 0, none⟩), .int .i64 n] w fun e w' => e = .returned (.tuple #[]) ∧ Sto w g w' ∧ Box w' g 69 (ccL { c with ac := c.ac + n }) := by
  have HF : Hid (Sto w g w ∧ Box w g 69 (ccL c)) := ⟨Sto.refl w g, hb⟩
  have k1 := Box.cell hb 1 rfl
  have k2 := Box.cell hb 2 rfl
  have k3 := Box.cell hb 3 rfl
  have k4 := Box.cell hb 4 rfl
  have fz := fun i => Box.frozen hb i
  have hlt := hb.lt
  clear hb
  go_enter Try.func61, Try.ntmps61
  go_upto_region 1 with fail
  go_quiet (fail)
  go_wp2_with fail
  go_end0
  exact ⟨rfl, ((HF.out.1.set 4 _).drewN _), ((HF.out.2.set 4 _).drewN _)⟩

set_option maxRecDepth 100000 in
set_option maxHeartbeats 4000000 in
theorem count_hi (c : Cc) (g : Nat) (n : Int) (w : World) (hb : Box w g 69 (ccL c)) (hn : 0 ≤ n ∧ n ≤ 1073741824) (ha : 0 ≤ c.ac ∧ c.ac ≤ 1073741824) (hm : 1 ≤ c.ms ∧ c.ms ≤ 65000) (hc : 0 ≤ c.cw ∧ c.cw ≤ 1073741824) (h : c.cw ≤ c.ac + n) : Calls Try.prog 61 #[.pointer (some ⟨g, 0, none⟩), .int .i64 n] w fun e w' => e = .returned (.tuple #[]) ∧ Sto w g w' ∧ Box w' g 69 (ccL { c with ac := c.ac + n - c.cw, cw := c.cw + c.ms }) := by
  have HF : Hid (Sto w g w ∧ Box w g 69 (ccL c)) := ⟨Sto.refl w g, hb⟩
  have k1 := Box.cell hb 1 rfl
  have k2 := Box.cell hb 2 rfl
  have k3 := Box.cell hb 3 rfl
  have k4 := Box.cell hb 4 rfl
  have fz := fun i => Box.frozen hb i
  have hlt := hb.lt
  clear hb
  go_enter Try.func61, Try.ntmps61
  go_upto_region 1 with fail
  go_quiet (fail)
  go_upto_region 2 with fail
  go_region
  go_upto_region 3 with fail
  go_region
  go_wp2_with fail
  go_end0
  exact ⟨rfl, (((((HF.out.1.set 4 _).drewN _).set 4 _).set 2 _).drew), (((((HF.out.2.set 4 _).drewN _).set 4 _).set 2 _).drew)⟩

set_option maxRecDepth 100000 in
set_option maxHeartbeats 4000000 in
theorem grow_aa (c : Cc) (g : Nat) (n : Int) (w : World) (hb : Box w g 69 (ccL c)) (hn : 0 ≤ n ∧ n ≤ 1073741824) (ha : 0 ≤ c.ac ∧ c.ac ≤ 1073741824) (hm : 1 ≤ c.ms ∧ c.ms ≤ 65000) (hc : 0 ≤ c.cw ∧ c.cw ≤ 1073741824) (hs : c.cw < c.ss) (hy : n ≤ c.ms) (hx : c.cw + n ≤ 1073741824) : Calls Try.prog 56 #[.pointer (some ⟨g, 0, none⟩), .int .i64 n] w fun e w' => e = .returned (.tuple #[]) ∧ Sto w g w' ∧ Box w' g 69 (ccL { c with cw := (c.cw + n) }) := by
  have HF : Hid (Sto w g w ∧ Box w g 69 (ccL c)) := ⟨Sto.refl w g, hb⟩
  have k1 := Box.cell hb 1 rfl
  have k2 := Box.cell hb 2 rfl
  have k3 := Box.cell hb 3 rfl
  have k4 := Box.cell hb 4 rfl
  have fz := fun i => Box.frozen hb i
  have hlt := hb.lt
  clear hb
  go_enter Try.func56, Try.ntmps56
  go_upto_region 0 with fail
  go_quiet (fail)
  go_upto_region 1 with fail
  go_region
  go_wp2_with fail
  go_end0
  exact ⟨rfl, ((((HF.out.1.drewN _).set 2 _).set 2 _).set 4 _), ((((HF.out.2.drewN _).set 2 _).set 2 _).set 4 _)⟩

set_option maxRecDepth 100000 in
set_option maxHeartbeats 4000000 in
theorem grow_ab (c : Cc) (g : Nat) (n : Int) (w : World) (hb : Box w g 69 (ccL c)) (hn : 0 ≤ n ∧ n ≤ 1073741824) (ha : 0 ≤ c.ac ∧ c.ac ≤ 1073741824) (hm : 1 ≤ c.ms ∧ c.ms ≤ 65000) (hc : 0 ≤ c.cw ∧ c.cw ≤ 1073741824) (hs : c.cw < c.ss) (hy : n ≤ c.ms) (hx : 1073741824 < c.cw + n) : Calls Try.prog 56 #[.pointer (some ⟨g, 0, none⟩), .int .i64 n] w fun e w' => e = .returned (.tuple #[]) ∧ Sto w g w' ∧ Box w' g 69 (ccL { c with cw := 1073741824 }) := by
  have HF : Hid (Sto w g w ∧ Box w g 69 (ccL c)) := ⟨Sto.refl w g, hb⟩
  have k1 := Box.cell hb 1 rfl
  have k2 := Box.cell hb 2 rfl
  have k3 := Box.cell hb 3 rfl
  have k4 := Box.cell hb 4 rfl
  have fz := fun i => Box.frozen hb i
  have hlt := hb.lt
  clear hb
  go_enter Try.func56, Try.ntmps56
  go_upto_region 0 with fail
  go_quiet (fail)
  go_upto_region 1 with fail
  go_region
  go_wp2_with fail
  go_end0
  exact ⟨rfl, ((((HF.out.1.drewN _).set 2 _).set 2 _).set 4 _), ((((HF.out.2.drewN _).set 2 _).set 2 _).set 4 _)⟩

set_option maxRecDepth 100000 in
set_option maxHeartbeats 4000000 in
theorem grow_ba (c : Cc) (g : Nat) (n : Int) (w : World) (hb : Box w g 69 (ccL c)) (hn : 0 ≤ n ∧ n ≤ 1073741824) (ha : 0 ≤ c.ac ∧ c.ac ≤ 1073741824) (hm : 1 ≤ c.ms ∧ c.ms ≤ 65000) (hc : 0 ≤ c.cw ∧ c.cw ≤ 1073741824) (hs : c.cw < c.ss) (hy : c.ms < n) (hx : c.cw + c.ms ≤ 1073741824) : Calls Try.prog 56 #[.pointer (some ⟨g, 0, none⟩), .int .i64 n] w fun e w' => e = .returned (.tuple #[]) ∧ Sto w g w' ∧ Box w' g 69 (ccL { c with cw := (c.cw + c.ms) }) := by
  have HF : Hid (Sto w g w ∧ Box w g 69 (ccL c)) := ⟨Sto.refl w g, hb⟩
  have k1 := Box.cell hb 1 rfl
  have k2 := Box.cell hb 2 rfl
  have k3 := Box.cell hb 3 rfl
  have k4 := Box.cell hb 4 rfl
  have fz := fun i => Box.frozen hb i
  have hlt := hb.lt
  clear hb
  go_enter Try.func56, Try.ntmps56
  go_upto_region 0 with fail
  go_quiet (fail)
  go_upto_region 1 with fail
  go_region
  go_wp2_with fail
  go_end0
  exact ⟨rfl, ((((HF.out.1.drewN _).set 2 _).set 2 _).set 4 _), ((((HF.out.2.drewN _).set 2 _).set 2 _).set 4 _)⟩

set_option maxRecDepth 100000 in
set_option maxHeartbeats 4000000 in
theorem grow_bb (c : Cc) (g : Nat) (n : Int) (w : World) (hb : Box w g 69 (ccL c)) (hn : 0 ≤ n ∧ n ≤ 1073741824) (ha : 0 ≤ c.ac ∧ c.ac ≤ 1073741824) (hm : 1 ≤ c.ms ∧ c.ms ≤ 65000) (hc : 0 ≤ c.cw ∧ c.cw ≤ 1073741824) (hs : c.cw < c.ss) (hy : c.ms < n) (hx : 1073741824 < c.cw + c.ms) : Calls Try.prog 56 #[.pointer (some ⟨g, 0, none⟩), .int .i64 n] w fun e w' => e = .returned (.tuple #[]) ∧ Sto w g w' ∧ Box w' g 69 (ccL { c with cw := 1073741824 }) := by
  have HF : Hid (Sto w g w ∧ Box w g 69 (ccL c)) := ⟨Sto.refl w g, hb⟩
  have k1 := Box.cell hb 1 rfl
  have k2 := Box.cell hb 2 rfl
  have k3 := Box.cell hb 3 rfl
  have k4 := Box.cell hb 4 rfl
  have fz := fun i => Box.frozen hb i
  have hlt := hb.lt
  clear hb
  go_enter Try.func56, Try.ntmps56
  go_upto_region 0 with fail
  go_quiet (fail)
  go_upto_region 1 with fail
  go_region
  go_wp2_with fail
  go_end0
  exact ⟨rfl, ((((HF.out.1.drewN _).set 2 _).set 2 _).set 4 _), ((((HF.out.2.drewN _).set 2 _).set 2 _).set 4 _)⟩

set_option maxRecDepth 100000 in
set_option maxHeartbeats 4000000 in
theorem grow_caa (c : Cc) (g : Nat) (n : Int) (w : World) (hb : Box w g 69 (ccL c)) (hn : 0 ≤ n ∧ n ≤ 1073741824) (ha : 0 ≤ c.ac ∧ c.ac ≤ 1073741824) (hm : 1 ≤ c.ms ∧ c.ms ≤ 65000) (hc : 0 ≤ c.cw ∧ c.cw ≤ 1073741824) (hs : c.ss ≤ c.cw) (d : Cc) (k : ∀ W, Box W g 69 (ccL c) → Calls Try.prog 61 #[.pointer (some ⟨g, 0, none⟩), .int .i64 n] W fun e w' => e = .returned (.tuple #[]) ∧ Sto W g w' ∧ Box w' g 69 (ccL d)) (hx : d.cw ≤ 1073741824) (hz : d.ac ≤ 1073741824) : Calls Try.prog 56 #[.pointer (some ⟨g, 0, none⟩), .int .i64 n] w fun e w' => e = .returned (.tuple #[]) ∧ Sto w g w' ∧ Box w' g 69 (ccL { d with cw := d.cw, ac := d.ac }) := by
  have HF : Hid (Sto w g w ∧ Box w g 69 (ccL c)) := ⟨Sto.refl w g, hb⟩
  have k1 := Box.cell hb 1 rfl
  have k2 := Box.cell hb 2 rfl
  have k3 := Box.cell hb 3 rfl
  have k4 := Box.cell hb 4 rfl
  have fz := fun i => Box.frozen hb i
  have hlt := hb.lt
  clear hb
  go_enter Try.func56, Try.ntmps56
  have HK : Hid (∀ W, Box W g 69 (ccL c) → Calls Try.prog 61 #[.pointer (some ⟨g, 0, none⟩), .int .i64 n] W fun e w' => e = .returned (.tuple #[]) ∧ Sto W g w' ∧ Box w' g 69 (ccL d)) := k
  clear k
  go_upto_region 0 with fail
  go_quiet (fail)
  go_wp2_with fail
  refine (HK.out _ (HF.out.2.drewN _)).mono ?_
  rintro e w1 ⟨rfl, hS, hB⟩
  have HG : Hid (Sto w g w1 ∧ Box w1 g 69 (ccL d)) := ⟨(HF.out.1.drewN _).trans hS, hB⟩
  clear k1 k2 k3 k4 fz hlt HF HK hS
  have k2 := Box.cell hB 2 rfl
  have k4 := Box.cell hB 4 rfl
  have fz := fun i => Box.frozen hB i
  have hlt := hB.lt
  clear hB
  go_wp2_with fail
  go_end0
  exact ⟨rfl, ((HG.out.1.set 2 _).set 4 _), ((HG.out.2.set 2 _).set 4 _)⟩

set_option maxRecDepth 100000 in
set_option maxHeartbeats 4000000 in
theorem grow_cab (c : Cc) (g : Nat) (n : Int) (w : World) (hb : Box w g 69 (ccL c)) (hn : 0 ≤ n ∧ n ≤ 1073741824) (ha : 0 ≤ c.ac ∧ c.ac ≤ 1073741824) (hm : 1 ≤ c.ms ∧ c.ms ≤ 65000) (hc : 0 ≤ c.cw ∧ c.cw ≤ 1073741824) (hs : c.ss ≤ c.cw) (d : Cc) (k : ∀ W, Box W g 69 (ccL c) → Calls Try.prog 61 #[.pointer (some ⟨g, 0, none⟩), .int .i64 n] W fun e w' => e = .returned (.tuple #[]) ∧ Sto W g w' ∧ Box w' g 69 (ccL d)) (hx : d.cw ≤ 1073741824) (hz : 1073741824 < d.ac) : Calls Try.prog 56 #[.pointer (some ⟨g, 0, none⟩), .int .i64 n] w fun e w' => e = .returned (.tuple #[]) ∧ Sto w g w' ∧ Box w' g 69 (ccL { d with cw := d.cw, ac := 1073741824 }) := by
  have HF : Hid (Sto w g w ∧ Box w g 69 (ccL c)) := ⟨Sto.refl w g, hb⟩
  have k1 := Box.cell hb 1 rfl
  have k2 := Box.cell hb 2 rfl
  have k3 := Box.cell hb 3 rfl
  have k4 := Box.cell hb 4 rfl
  have fz := fun i => Box.frozen hb i
  have hlt := hb.lt
  clear hb
  go_enter Try.func56, Try.ntmps56
  have HK : Hid (∀ W, Box W g 69 (ccL c) → Calls Try.prog 61 #[.pointer (some ⟨g, 0, none⟩), .int .i64 n] W fun e w' => e = .returned (.tuple #[]) ∧ Sto W g w' ∧ Box w' g 69 (ccL d)) := k
  clear k
  go_upto_region 0 with fail
  go_quiet (fail)
  go_wp2_with fail
  refine (HK.out _ (HF.out.2.drewN _)).mono ?_
  rintro e w1 ⟨rfl, hS, hB⟩
  have HG : Hid (Sto w g w1 ∧ Box w1 g 69 (ccL d)) := ⟨(HF.out.1.drewN _).trans hS, hB⟩
  clear k1 k2 k3 k4 fz hlt HF HK hS
  have k2 := Box.cell hB 2 rfl
  have k4 := Box.cell hB 4 rfl
  have fz := fun i => Box.frozen hB i
  have hlt := hB.lt
  clear hB
  go_wp2_with fail
  go_end0
  exact ⟨rfl, ((HG.out.1.set 2 _).set 4 _), ((HG.out.2.set 2 _).set 4 _)⟩

set_option maxRecDepth 100000 in
set_option maxHeartbeats 4000000 in
theorem grow_cba (c : Cc) (g : Nat) (n : Int) (w : World) (hb : Box w g 69 (ccL c)) (hn : 0 ≤ n ∧ n ≤ 1073741824) (ha : 0 ≤ c.ac ∧ c.ac ≤ 1073741824) (hm : 1 ≤ c.ms ∧ c.ms ≤ 65000) (hc : 0 ≤ c.cw ∧ c.cw ≤ 1073741824) (hs : c.ss ≤ c.cw) (d : Cc) (k : ∀ W, Box W g 69 (ccL c) → Calls Try.prog 61 #[.pointer (some ⟨g, 0, none⟩), .int .i64 n] W fun e w' => e = .returned (.tuple #[]) ∧ Sto W g w' ∧ Box w' g 69 (ccL d)) (hx : 1073741824 < d.cw) (hz : d.ac ≤ 1073741824) : Calls Try.prog 56 #[.pointer (some ⟨g, 0, none⟩), .int .i64 n] w fun e w' => e = .returned (.tuple #[]) ∧ Sto w g w' ∧ Box w' g 69 (ccL { d with cw := 1073741824, ac := d.ac }) := by
  have HF : Hid (Sto w g w ∧ Box w g 69 (ccL c)) := ⟨Sto.refl w g, hb⟩
  have k1 := Box.cell hb 1 rfl
  have k2 := Box.cell hb 2 rfl
  have k3 := Box.cell hb 3 rfl
  have k4 := Box.cell hb 4 rfl
  have fz := fun i => Box.frozen hb i
  have hlt := hb.lt
  clear hb
  go_enter Try.func56, Try.ntmps56
  have HK : Hid (∀ W, Box W g 69 (ccL c) → Calls Try.prog 61 #[.pointer (some ⟨g, 0, none⟩), .int .i64 n] W fun e w' => e = .returned (.tuple #[]) ∧ Sto W g w' ∧ Box w' g 69 (ccL d)) := k
  clear k
  go_upto_region 0 with fail
  go_quiet (fail)
  go_wp2_with fail
  refine (HK.out _ (HF.out.2.drewN _)).mono ?_
  rintro e w1 ⟨rfl, hS, hB⟩
  have HG : Hid (Sto w g w1 ∧ Box w1 g 69 (ccL d)) := ⟨(HF.out.1.drewN _).trans hS, hB⟩
  clear k1 k2 k3 k4 fz hlt HF HK hS
  have k2 := Box.cell hB 2 rfl
  have k4 := Box.cell hB 4 rfl
  have fz := fun i => Box.frozen hB i
  have hlt := hB.lt
  clear hB
  go_wp2_with fail
  go_end0
  exact ⟨rfl, ((HG.out.1.set 2 _).set 4 _), ((HG.out.2.set 2 _).set 4 _)⟩

set_option maxRecDepth 100000 in
set_option maxHeartbeats 4000000 in
theorem grow_cbb (c : Cc) (g : Nat) (n : Int) (w : World) (hb : Box w g 69 (ccL c)) (hn : 0 ≤ n ∧ n ≤ 1073741824) (ha : 0 ≤ c.ac ∧ c.ac ≤ 1073741824) (hm : 1 ≤ c.ms ∧ c.ms ≤ 65000) (hc : 0 ≤ c.cw ∧ c.cw ≤ 1073741824) (hs : c.ss ≤ c.cw) (d : Cc) (k : ∀ W, Box W g 69 (ccL c) → Calls Try.prog 61 #[.pointer (some ⟨g, 0, none⟩), .int .i64 n] W fun e w' => e = .returned (.tuple #[]) ∧ Sto W g w' ∧ Box w' g 69 (ccL d)) (hx : 1073741824 < d.cw) (hz : 1073741824 < d.ac) : Calls Try.prog 56 #[.pointer (some ⟨g, 0, none⟩), .int .i64 n] w fun e w' => e = .returned (.tuple #[]) ∧ Sto w g w' ∧ Box w' g 69 (ccL { d with cw := 1073741824, ac := 1073741824 }) := by
  have HF : Hid (Sto w g w ∧ Box w g 69 (ccL c)) := ⟨Sto.refl w g, hb⟩
  have k1 := Box.cell hb 1 rfl
  have k2 := Box.cell hb 2 rfl
  have k3 := Box.cell hb 3 rfl
  have k4 := Box.cell hb 4 rfl
  have fz := fun i => Box.frozen hb i
  have hlt := hb.lt
  clear hb
  go_enter Try.func56, Try.ntmps56
  have HK : Hid (∀ W, Box W g 69 (ccL c) → Calls Try.prog 61 #[.pointer (some ⟨g, 0, none⟩), .int .i64 n] W fun e w' => e = .returned (.tuple #[]) ∧ Sto W g w' ∧ Box w' g 69 (ccL d)) := k
  clear k
  go_upto_region 0 with fail
  go_quiet (fail)
  go_wp2_with fail
  refine (HK.out _ (HF.out.2.drewN _)).mono ?_
  rintro e w1 ⟨rfl, hS, hB⟩
  have HG : Hid (Sto w g w1 ∧ Box w1 g 69 (ccL d)) := ⟨(HF.out.1.drewN _).trans hS, hB⟩
  clear k1 k2 k3 k4 fz hlt HF HK hS
  have k2 := Box.cell hB 2 rfl
  have k4 := Box.cell hB 4 rfl
  have fz := fun i => Box.frozen hB i
  have hlt := hB.lt
  clear hB
  go_wp2_with fail
  go_end0
  exact ⟨rfl, ((HG.out.1.set 2 _).set 4 _), ((HG.out.2.set 2 _).set 4 _)⟩

def grwC (c : Cc) (n : Int) : Int := if c.cw < c.ss then min (c.cw + min n c.ms) 1073741824 else if c.ac + n < c.cw then c.cw else min (c.cw + c.ms) 1073741824
def grwA (c : Cc) (n : Int) : Int := if c.cw < c.ss then c.ac else if c.ac + n < c.cw then min (c.ac + n) 1073741824 else min (c.ac + n - c.cw) 1073741824
theorem grow_is (c : Cc) (g : Nat) (n : Int) (w : World) (hb : Box w g 69 (ccL c)) (hn : 0 ≤ n ∧ n ≤ 1073741824) (ha : 0 ≤ c.ac ∧ c.ac ≤ 1073741824) (hm : 1 ≤ c.ms ∧ c.ms ≤ 65000) (hc : 0 ≤ c.cw ∧ c.cw ≤ 1073741824) :
    Calls Try.prog 56 #[.pointer (some ⟨g, 0, none⟩), .int .i64 n] w fun e w' => e = .returned (.tuple #[]) ∧ Sto w g w' ∧ Box w' g 69 (ccL { c with cw := grwC c n, ac := grwA c n }) := by
  unfold grwC grwA
  by_cases hs : c.cw < c.ss
  · rw [if_pos hs, if_pos hs]
    by_cases hy : n ≤ c.ms
    · rw [show min n c.ms = n by omega]
      by_cases hx : c.cw + n ≤ 1073741824
      · rw [show min (c.cw + n) 1073741824 = c.cw + n by omega]; exact grow_aa c g n w hb hn ha hm hc hs hy hx
      · rw [show min (c.cw + n) 1073741824 = 1073741824 by omega]; exact grow_ab c g n w hb hn ha hm hc hs hy (by omega)
    · rw [show min n c.ms = c.ms by omega]
      by_cases hx : c.cw + c.ms ≤ 1073741824
      · rw [show min (c.cw + c.ms) 1073741824 = c.cw + c.ms by omega]; exact grow_ba c g n w hb hn ha hm hc hs (by omega) hx
      · rw [show min (c.cw + c.ms) 1073741824 = 1073741824 by omega]; exact grow_bb c g n w hb hn ha hm hc hs (by omega) (by omega)
  · rw [if_neg hs, if_neg hs]
    by_cases h : c.ac + n < c.cw
    · rw [if_pos h, if_pos h, show min (c.ac + n) 1073741824 = c.ac + n by omega]
      exact grow_caa c g n w hb hn ha hm hc (by omega) { c with ac := c.ac + n } (fun W hW => count_lo c g n W hW hn ha hm hc h) hc.2 (by show c.ac + n ≤ 1073741824; omega)
    · rw [if_neg h, if_neg h]
      have k := fun W hW => count_hi c g n W hW hn ha hm hc (by omega)
      by_cases hx : c.cw + c.ms ≤ 1073741824
      · rw [show min (c.cw + c.ms) 1073741824 = c.cw + c.ms by omega]
        by_cases hz : c.ac + n - c.cw ≤ 1073741824
        · rw [show min (c.ac + n - c.cw) 1073741824 = c.ac + n - c.cw by omega]; exact grow_caa c g n w hb hn ha hm hc (by omega) { c with ac := c.ac + n - c.cw, cw := c.cw + c.ms } k hx hz
        · rw [show min (c.ac + n - c.cw) 1073741824 = 1073741824 by omega]; exact grow_cab c g n w hb hn ha hm hc (by omega) { c with ac := c.ac + n - c.cw, cw := c.cw + c.ms } k hx (by show 1073741824 < c.ac + n - c.cw; omega)
      · rw [show min (c.cw + c.ms) 1073741824 = 1073741824 by omega]
        by_cases hz : c.ac + n - c.cw ≤ 1073741824
        · rw [show min (c.ac + n - c.cw) 1073741824 = c.ac + n - c.cw by omega]; exact grow_cba c g n w hb hn ha hm hc (by omega) { c with ac := c.ac + n - c.cw, cw := c.cw + c.ms } k (by show 1073741824 < c.cw + c.ms; omega) hz
        · rw [show min (c.ac + n - c.cw) 1073741824 = 1073741824 by omega]; exact grow_cbb c g n w hb hn ha hm hc (by omega) { c with ac := c.ac + n - c.cw, cw := c.cw + c.ms } k (by show 1073741824 < c.cw + c.ms; omega) (by show 1073741824 < c.ac + n - c.cw; omega)
end Go.Proofs.Ytikcjdoeoghoeaa
