/- seg: bytes of a text as a segment. -/
import Derived.Test.YtkigcdmlkmcdcaaMInAll
namespace Go.Proofs.Ytkigcdmlkmcdcaa
open Go.ChangeShapes Go.WideShapes Go.ChangeAt Go.RowKit
set_option linter.unusedVariables false
set_option linter.unusedSimpArgs false

theorem res_s {fn : Func} {p : Tmp} (h : fn.results = #[.cell p 34]) (tmps : Array Value) (w : World) (g : Nat) (cs : List Value) (hl : cs.length = 15) (hp : tmps.getD p undef = .pointer (some ⟨g, 0, none⟩)) (hg : Box w g 34 cs) : (results fn tmps).run Try.prog w = .ok (.agg cs.toArray) w := by
  have hp' : tmps[p]?.getD undef = .pointer (some ⟨g, 0, none⟩) := by simpa using hp
  simp [results, h, hp', asAddr, run_seg hl hg]
set_option maxRecDepth 100000 in
set_option maxHeartbeats 4000000 in
theorem seg_more (irs : Int) (a : Option Addr) (L c x n : Nat) (w : World) (hi : U32 irs) (hx : x ≤ L) (hc : L ≤ c) (hL : L ≤ 200) (hn : n ≤ 200) (ht : x + n < L) (A : Option Addr) (hA : cutB a c x = A) :
    Calls Try.prog 25 #[.int .u32 irs, .slice a L c, .int .i64 (x : Int), .int .i64 (n : Int), .bool true] w fun e w' => e = .returned (.agg #[.int .i64 0, .int .i64 0, .int .u32 ((irs + (x : Int)) % 4294967296), .int .u32 0, .int .i64 0, .int .i64 0, .int .i64 0, .int .i64 (-1), .int .i64 (-1), .bool false, .bool true, .int .u32 0, .int .u32 0, .slice none 0 0, .slice A n (c - x)]) ∧ Below w.heap.size w w' := by
  have hsl : ∀ W, (Instr.slice 22 (.slice a L c) (some (.int .i64 (x : Int))) (some (.int .i64 ((x : Int) + (n : Int)))) none).run Try.prog W = .ok (.slice A n (c - x)) W := fun W => by
    have := sl_lh a L c x (x + n) (x : Int) ((x : Int) + (n : Int)) rfl (by omega) (by omega) (by omega) W
    rw [hA] at this
    rw [show x + n - x = n from by omega] at this
    exact this
  unfold U32 at hi
  obtain ⟨V, hV⟩ : ∃ V, (w.alloc (.cells #[.int .i64 0, .int .i64 0, .int .u32 0, .int .u32 0, .int .i64 0, .int .i64 0, .int .i64 0, .int .i64 0, .int .i64 0, .bool false, .bool false, .int .u32 0, .int .u32 0, .slice none 0 0, .slice none 0 0] 34)).alloc (.cells #[.int .i64 0, .int .i64 0, .int .u32 ((irs + (x : Int)) % 4294967296), .int .u32 0, .int .i64 0, .int .i64 0, .int .i64 0, .int .i64 (-1), .int .i64 (-1), .bool false, .bool true, .int .u32 0, .int .u32 0, .slice none 0 0, .slice A n (c - x)] 34) = V := ⟨_, rfl⟩
  have hz : Box V w.heap.size 34 [.int .i64 0, .int .i64 0, .int .u32 0, .int .u32 0, .int .i64 0, .int .i64 0, .int .i64 0, .int .i64 0, .int .i64 0, .bool false, .bool false, .int .u32 0, .int .u32 0, .slice none 0 0, .slice none 0 0] := by rw [← hV]; exact (Box.new w 34 [.int .i64 0, .int .i64 0, .int .u32 0, .int .u32 0, .int .i64 0, .int .i64 0, .int .i64 0, .int .i64 0, .int .i64 0, .bool false, .bool false, .int .u32 0, .int .u32 0, .slice none 0 0, .slice none 0 0]).alloc _
  have hy : Box V (w.heap.size + 1) 34 [.int .i64 0, .int .i64 0, .int .u32 ((irs + (x : Int)) % 4294967296), .int .u32 0, .int .i64 0, .int .i64 0, .int .i64 0, .int .i64 (-1), .int .i64 (-1), .bool false, .bool true, .int .u32 0, .int .u32 0, .slice none 0 0, .slice A n (c - x)] := by
    rw [← hV]
    have := Box.new (w.alloc (.cells #[.int .i64 0, .int .i64 0, .int .u32 0, .int .u32 0, .int .i64 0, .int .i64 0, .int .i64 0, .int .i64 0, .int .i64 0, .bool false, .bool false, .int .u32 0, .int .u32 0, .slice none 0 0, .slice none 0 0] 34)) 34 [.int .i64 0, .int .i64 0, .int .u32 ((irs + (x : Int)) % 4294967296), .int .u32 0, .int .i64 0, .int .i64 0, .int .i64 0, .int .i64 (-1), .int .i64 (-1), .bool false, .bool true, .int .u32 0, .int .u32 0, .slice none 0 0, .slice A n (c - x)]
    rwa [World.size_alloc] at this
  have hb : Below w.heap.size w V := by rw [← hV]; exact below_more (below_more (Below.refl _ _) _) _
  have HF : Hid (Box (setAll V w.heap.size 0 [.int .i64 0, .int .i64 0, .int .u32 ((irs + (x : Int)) % 4294967296), .int .u32 0, .int .i64 0, .int .i64 0, .int .i64 0, .int .i64 (-1), .int .i64 (-1), .bool false, .bool true, .int .u32 0, .int .u32 0, .slice none 0 0, .slice A n (c - x)]) w.heap.size 34 [.int .i64 0, .int .i64 0, .int .u32 ((irs + (x : Int)) % 4294967296), .int .u32 0, .int .i64 0, .int .i64 0, .int .i64 0, .int .i64 (-1), .int .i64 (-1), .bool false, .bool true, .int .u32 0, .int .u32 0, .slice none 0 0, .slice A n (c - x)] ∧ Below w.heap.size w (setAll V w.heap.size 0 [.int .i64 0, .int .i64 0, .int .u32 ((irs + (x : Int)) % 4294967296), .int .u32 0, .int .i64 0, .int .i64 0, .int .i64 0, .int .i64 (-1), .int .i64 (-1), .bool false, .bool true, .int .u32 0, .int .u32 0, .slice none 0 0, .slice A n (c - x)])) := ⟨hz.put _ rfl, setAll_below (Nat.le_refl _) hb⟩
  have HV : Hid ((w.alloc (.cells #[.int .i64 0, .int .i64 0, .int .u32 0, .int .u32 0, .int .i64 0, .int .i64 0, .int .i64 0, .int .i64 0, .int .i64 0, .bool false, .bool false, .int .u32 0, .int .u32 0, .slice none 0 0, .slice none 0 0] 34)).alloc (.cells #[.int .i64 0, .int .i64 0, .int .u32 ((irs + (x : Int)) % 4294967296), .int .u32 0, .int .i64 0, .int .i64 0, .int .i64 0, .int .i64 (-1), .int .i64 (-1), .bool false, .bool true, .int .u32 0, .int .u32 0, .slice none 0 0, .slice A n (c - x)] 34) = V) := hV
  have HC : Hid (Box V w.heap.size 34 [.int .i64 0, .int .i64 0, .int .u32 0, .int .u32 0, .int .i64 0, .int .i64 0, .int .i64 0, .int .i64 0, .int .i64 0, .bool false, .bool false, .int .u32 0, .int .u32 0, .slice none 0 0, .slice none 0 0] ∧ Box V (w.heap.size + 1) 34 [.int .i64 0, .int .i64 0, .int .u32 ((irs + (x : Int)) % 4294967296), .int .u32 0, .int .i64 0, .int .i64 0, .int .i64 0, .int .i64 (-1), .int .i64 (-1), .bool false, .bool true, .int .u32 0, .int .u32 0, .slice none 0 0, .slice A n (c - x)]) := ⟨hz, hy⟩
  clear hz hy hb hV hA
  go_enter Try.func25, Try.ntmps25
  go_upto_region 7 with fail
  try rw [HV.out]
  obtain ⟨c0, c1, c2, c3, c4, c5, c6, c7, c8, c9, c10, c11, c12, c13, c14⟩ := Box.c15 HC.out.1
  obtain ⟨d0, d1, d2, d3, d4, d5, d6, d7, d8, d9, d10, d11, d12, d13, d14⟩ := Box.c15 HC.out.2
  obtain ⟨f0, f1, f2, f3, f4, f5, f6, f7, f8, f9, f10, f11, f12, f13, f14⟩ := Box.f15 HC.out.1
  clear HV hsl HC
  go_wp2_with fail
  refine bodyPost_ret (res_s rfl _ _ w.heap.size [.int .i64 0, .int .i64 0, .int .u32 ((irs + (x : Int)) % 4294967296), .int .u32 0, .int .i64 0, .int .i64 0, .int .i64 0, .int .i64 (-1), .int .i64 (-1), .bool false, .bool true, .int .u32 0, .int .u32 0, .slice none 0 0, .slice A n (c - x)] rfl rfl HF.out.1) rfl ?_
  exact ⟨rfl, HF.out.2⟩
set_option maxRecDepth 100000 in
set_option maxHeartbeats 4000000 in
theorem seg_last (irs : Int) (a : Option Addr) (L c x n : Nat) (w : World) (hi : U32 irs) (hx : x ≤ L) (hc : L ≤ c) (hL : L ≤ 200) (hn : n ≤ 200) (ht : ¬ x + n < L) (A : Option Addr) (hA : cutB a c x = A) :
    Calls Try.prog 25 #[.int .u32 irs, .slice a L c, .int .i64 (x : Int), .int .i64 (n : Int), .bool true] w fun e w' => e = .returned (.agg #[.int .i64 0, .int .i64 0, .int .u32 ((irs + (x : Int)) % 4294967296), .int .u32 0, .int .i64 1, .int .i64 0, .int .i64 0, .int .i64 (-1), .int .i64 (-1), .bool false, .bool true, .int .u32 0, .int .u32 0, .slice none 0 0, .slice A (L - x) (c - x)]) ∧ Below w.heap.size w w' := by
  have hsl : ∀ W, (Instr.slice 22 (.slice a L c) (some (.int .i64 (x : Int))) (some (.int .i64 (L : Int))) none).run Try.prog W = .ok (.slice A (L - x) (c - x)) W := fun W => by
    have := sl_lh a L c x L (x : Int) (L : Int) rfl rfl (by omega) (by omega) W
    rw [hA] at this
    exact this
  unfold U32 at hi
  obtain ⟨V, hV⟩ : ∃ V, (w.alloc (.cells #[.int .i64 0, .int .i64 0, .int .u32 0, .int .u32 0, .int .i64 0, .int .i64 0, .int .i64 0, .int .i64 0, .int .i64 0, .bool false, .bool false, .int .u32 0, .int .u32 0, .slice none 0 0, .slice none 0 0] 34)).alloc (.cells #[.int .i64 0, .int .i64 0, .int .u32 ((irs + (x : Int)) % 4294967296), .int .u32 0, .int .i64 1, .int .i64 0, .int .i64 0, .int .i64 (-1), .int .i64 (-1), .bool false, .bool true, .int .u32 0, .int .u32 0, .slice none 0 0, .slice A (L - x) (c - x)] 34) = V := ⟨_, rfl⟩
  have hz : Box V w.heap.size 34 [.int .i64 0, .int .i64 0, .int .u32 0, .int .u32 0, .int .i64 0, .int .i64 0, .int .i64 0, .int .i64 0, .int .i64 0, .bool false, .bool false, .int .u32 0, .int .u32 0, .slice none 0 0, .slice none 0 0] := by rw [← hV]; exact (Box.new w 34 [.int .i64 0, .int .i64 0, .int .u32 0, .int .u32 0, .int .i64 0, .int .i64 0, .int .i64 0, .int .i64 0, .int .i64 0, .bool false, .bool false, .int .u32 0, .int .u32 0, .slice none 0 0, .slice none 0 0]).alloc _
  have hy : Box V (w.heap.size + 1) 34 [.int .i64 0, .int .i64 0, .int .u32 ((irs + (x : Int)) % 4294967296), .int .u32 0, .int .i64 1, .int .i64 0, .int .i64 0, .int .i64 (-1), .int .i64 (-1), .bool false, .bool true, .int .u32 0, .int .u32 0, .slice none 0 0, .slice A (L - x) (c - x)] := by
    rw [← hV]
    have := Box.new (w.alloc (.cells #[.int .i64 0, .int .i64 0, .int .u32 0, .int .u32 0, .int .i64 0, .int .i64 0, .int .i64 0, .int .i64 0, .int .i64 0, .bool false, .bool false, .int .u32 0, .int .u32 0, .slice none 0 0, .slice none 0 0] 34)) 34 [.int .i64 0, .int .i64 0, .int .u32 ((irs + (x : Int)) % 4294967296), .int .u32 0, .int .i64 1, .int .i64 0, .int .i64 0, .int .i64 (-1), .int .i64 (-1), .bool false, .bool true, .int .u32 0, .int .u32 0, .slice none 0 0, .slice A (L - x) (c - x)]
    rwa [World.size_alloc] at this
  have hb : Below w.heap.size w V := by rw [← hV]; exact below_more (below_more (Below.refl _ _) _) _
  have HF : Hid (Box (setAll V w.heap.size 0 [.int .i64 0, .int .i64 0, .int .u32 ((irs + (x : Int)) % 4294967296), .int .u32 0, .int .i64 1, .int .i64 0, .int .i64 0, .int .i64 (-1), .int .i64 (-1), .bool false, .bool true, .int .u32 0, .int .u32 0, .slice none 0 0, .slice A (L - x) (c - x)]) w.heap.size 34 [.int .i64 0, .int .i64 0, .int .u32 ((irs + (x : Int)) % 4294967296), .int .u32 0, .int .i64 1, .int .i64 0, .int .i64 0, .int .i64 (-1), .int .i64 (-1), .bool false, .bool true, .int .u32 0, .int .u32 0, .slice none 0 0, .slice A (L - x) (c - x)] ∧ Below w.heap.size w (setAll V w.heap.size 0 [.int .i64 0, .int .i64 0, .int .u32 ((irs + (x : Int)) % 4294967296), .int .u32 0, .int .i64 1, .int .i64 0, .int .i64 0, .int .i64 (-1), .int .i64 (-1), .bool false, .bool true, .int .u32 0, .int .u32 0, .slice none 0 0, .slice A (L - x) (c - x)])) := ⟨hz.put _ rfl, setAll_below (Nat.le_refl _) hb⟩
  have HV : Hid ((w.alloc (.cells #[.int .i64 0, .int .i64 0, .int .u32 0, .int .u32 0, .int .i64 0, .int .i64 0, .int .i64 0, .int .i64 0, .int .i64 0, .bool false, .bool false, .int .u32 0, .int .u32 0, .slice none 0 0, .slice none 0 0] 34)).alloc (.cells #[.int .i64 0, .int .i64 0, .int .u32 ((irs + (x : Int)) % 4294967296), .int .u32 0, .int .i64 1, .int .i64 0, .int .i64 0, .int .i64 (-1), .int .i64 (-1), .bool false, .bool true, .int .u32 0, .int .u32 0, .slice none 0 0, .slice A (L - x) (c - x)] 34) = V) := hV
  have HC : Hid (Box V w.heap.size 34 [.int .i64 0, .int .i64 0, .int .u32 0, .int .u32 0, .int .i64 0, .int .i64 0, .int .i64 0, .int .i64 0, .int .i64 0, .bool false, .bool false, .int .u32 0, .int .u32 0, .slice none 0 0, .slice none 0 0] ∧ Box V (w.heap.size + 1) 34 [.int .i64 0, .int .i64 0, .int .u32 ((irs + (x : Int)) % 4294967296), .int .u32 0, .int .i64 1, .int .i64 0, .int .i64 0, .int .i64 (-1), .int .i64 (-1), .bool false, .bool true, .int .u32 0, .int .u32 0, .slice none 0 0, .slice A (L - x) (c - x)]) := ⟨hz, hy⟩
  clear hz hy hb hV hA
  go_enter Try.func25, Try.ntmps25
  go_upto_region 7 with fail
  try rw [HV.out]
  obtain ⟨c0, c1, c2, c3, c4, c5, c6, c7, c8, c9, c10, c11, c12, c13, c14⟩ := Box.c15 HC.out.1
  obtain ⟨d0, d1, d2, d3, d4, d5, d6, d7, d8, d9, d10, d11, d12, d13, d14⟩ := Box.c15 HC.out.2
  obtain ⟨f0, f1, f2, f3, f4, f5, f6, f7, f8, f9, f10, f11, f12, f13, f14⟩ := Box.f15 HC.out.1
  clear HV hsl HC
  go_wp2_with fail
  refine bodyPost_ret (res_s rfl _ _ w.heap.size [.int .i64 0, .int .i64 0, .int .u32 ((irs + (x : Int)) % 4294967296), .int .u32 0, .int .i64 1, .int .i64 0, .int .i64 0, .int .i64 (-1), .int .i64 (-1), .bool false, .bool true, .int .u32 0, .int .u32 0, .slice none 0 0, .slice A (L - x) (c - x)] rfl rfl HF.out.1) rfl ?_
  exact ⟨rfl, HF.out.2⟩
end Go.Proofs.Ytkigcdmlkmcdcaa
