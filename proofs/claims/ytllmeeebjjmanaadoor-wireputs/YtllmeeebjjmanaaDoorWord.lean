/- The contracts of word and long: numbers read off bytes. -/
import Derived.Test.YtllmeeebjjmanaaDoorPut
import Derived.Laws.BitsLemmas
namespace Go.Proofs.YtllmeeebjjmanaaDoor
open Go.ChangeShapes Go.WideShapes Go.ChangeAt Go.RowKit Go.Shelf
set_option linter.unusedVariables false

theorem i64w {n : Int} (h0 : 0 ≤ n) (h1 : n < 4294967296) : IntKind.i64.wrap n = n := by
  simp [IntKind.wrap, IntKind.bits, IntKind.signed]; omega
theorem u32w' {n : Int} (h0 : 0 ≤ n) (h1 : n < 4294967296) : IntKind.u32.wrap n = n := by
  simp [IntKind.wrap, IntKind.bits, IntKind.signed]; omega

theorem or_i64 (x y : Int) (hx : 0 ≤ x ∧ x ≤ 255) (hy : 0 ≤ y ∧ y ≤ 255) : bits BinOp.or IntKind.i64 (x * 256) y = x * 256 + y :=
  bits_join .i64 32 (by decide) (fun n h0 h1 => i64w h0 (by omega)) 8 _ _ (by omega) (by omega) (by omega) (by omega) (by omega) (by omega)
theorem or_u32 (x y : Int) (hx : 0 ≤ x ∧ x ≤ 65535) (hy : 0 ≤ y ∧ y ≤ 65535) : bits BinOp.or IntKind.u32 (x * 65536) y = x * 65536 + y :=
  bits_join .u32 32 (by decide) (fun n h0 h1 => u32w' h0 (by omega)) 16 _ _ (by omega) (by omega) (by omega) (by omega) (by omega) (by omega)

theorem elem24 : Tryd.prog.elem 24 = 5 := by kernel_rfl
theorem under24 : Tryd.prog.underlying 24 = some (.slice (Tryd.prog.elem 24)) := by rw [elem24]; exact Tryd.underlying24
theorem size5 (w : World) : (sizeOf (Tryd.prog.elem 24)).run Tryd.prog w = .ok 1 w := by kernel_rfl

/-- 'x[l:]', whatever x: where it lies is one term. -/
def cutA (a : Option Addr) (c l : Nat) : Option Addr := if c = l then a else a.map (·.add (l * 1))

theorem sl_l (a : Option Addr) (n c l : Nat) (li : Int) (hl : li = (l : Int)) (h1 : l ≤ n) (w : World) :
    (Instr.slice 24 (.slice a n c) (some (.int .i64 li)) none none).run Tryd.prog w = .ok (.slice (cutA a c l) (n - l) (c - l)) w := by
  subst hl
  rw [run_slice_l w 24 a n c under24 .i64 l (by omega) (by omega), size5]
  simp [cutA, sliced]
theorem sl_lh (a : Option Addr) (n c l h : Nat) (li hi : Int) (hl : li = (l : Int)) (hh : hi = (h : Int)) (h1 : l ≤ h) (h2 : h ≤ c) (w : World) :
    (Instr.slice 24 (.slice a n c) (some (.int .i64 li)) (some (.int .i64 hi)) none).run Tryd.prog w = .ok (.slice (cutA a c l) (h - l) (c - l)) w := by
  subst hl hh
  rw [run_slice_lh w 24 a n c under24 .i64 .i64 l h (by omega) (by omega) (by omega), size5]
  simp [cutA, sliced]
theorem cutA_some (b o c l : Nat) (h : l < c) : cutA (some ⟨b, o, none⟩) c l = some ⟨b, o + l, none⟩ := by
  have hplain : (⟨b, o, none⟩ : Addr).add (l * 1) = ⟨b, o + l, none⟩ := by rw [Nat.mul_one]; unfold Addr.add; split <;> simp_all
  rw [cutA, if_neg (by omega), Option.map_some, hplain]
theorem bytes_cut {w : World} {a : Option Addr} {bs : List Int} (h : BytesAt w a bs) (l n : Nat) (hn : l + n ≤ bs.length) (c : Nat) (hc : bs.length ≤ c) :
    BytesAt w (cutA a c l) ((bs.drop l).take n) := by
  have hlen : ((bs.drop l).take n).length = n := by simp; omega
  refine ⟨by rw [hlen]; have := h.1; omega, fun x hx => h.2.1 x (List.mem_of_mem_drop (List.mem_of_mem_take hx)), fun j hj => ?_⟩
  rw [hlen] at hj
  obtain ⟨b, o, rfl, hc'⟩ := h.2.2 (l + j) (by omega)
  rw [cutA_some b o c l (by omega)]
  refine ⟨b, o + l, rfl, ?_⟩
  rw [Nat.add_assoc, hc', List.getElem?_take_of_lt hj, List.getElem?_drop]
theorem bytes_from {w : World} {a : Option Addr} {bs : List Int} (h : BytesAt w a bs) (l : Nat) (hl : l ≤ bs.length) (c : Nat) (hc : bs.length ≤ c) : BytesAt w (cutA a c l) (bs.drop l) := by
  have := bytes_cut h l (bs.length - l) (by omega) c hc
  rwa [List.take_of_length_le (by simp)] at this

theorem word_any (b o n c : Nat) (x0 x1 : Int) (w : World) (hn : (1 : Int) < (n : Int)) (h0 : w.cell? ⟨b, o, none⟩ = some (.int .u8 x0)) (h1 : w.cell? ⟨b, o + 1, none⟩ = some (.int .u8 x1)) (b0 : 0 ≤ x0 ∧ x0 ≤ 255) (b1 : 0 ≤ x1 ∧ x1 ≤ 255) :
    Calls Tryd.prog 45 #[.slice (some ⟨b, o, none⟩) n c] w fun e w' => e = .returned (.int .i64 (x0 * 256 + x1)) ∧ ∃ k, w' = w.drewN k := by
  have hor := or_i64 x0 x1 b0 b1
  go_enter Tryd.func45, Tryd.ntmps45
  go_wp2_with fail
  go_quiet (fail)
  go_wp2
  go_ret
  exact ⟨rfl, _, rfl⟩

theorem long_any (b o n c : Nat) (x0 x1 x2 x3 : Int) (w : World) (hn : (3 : Int) < (n : Int)) (hc : (n : Int) ≤ (c : Int)) (h0 : w.cell? ⟨b, o, none⟩ = some (.int .u8 x0)) (h1 : w.cell? ⟨b, o + 1, none⟩ = some (.int .u8 x1)) (h2 : w.cell? ⟨b, o + 2, none⟩ = some (.int .u8 x2)) (h3 : w.cell? ⟨b, o + 2 + 1, none⟩ = some (.int .u8 x3)) (b0 : 0 ≤ x0 ∧ x0 ≤ 255) (b1 : 0 ≤ x1 ∧ x1 ≤ 255) (b2 : 0 ≤ x2 ∧ x2 ≤ 255) (b3 : 0 ≤ x3 ∧ x3 ≤ 255) :
    Calls Tryd.prog 46 #[.slice (some ⟨b, o, none⟩) n c] w fun e w' => e = .returned (.int .u32 ((x0 * 256 + x1) * 65536 + (x2 * 256 + x3))) ∧ ∃ k, w' = w.drewN k := by
  have hor := or_u32 (x0 * 256 + x1) (x2 * 256 + x3) (by omega) (by omega)
  have hsl := sl_l (some ⟨b, o, none⟩) n c 2 2 rfl (by omega)
  rw [cutA_some b o c 2 (by omega)] at hsl
  obtain ⟨n2, hn2⟩ : ∃ n2, n - 2 = n2 := ⟨_, rfl⟩
  obtain ⟨c2, hc2⟩ : ∃ c2, c - 2 = c2 := ⟨_, rfl⟩
  rw [hn2, hc2] at hsl
  have hn2' : (1 : Int) < (n2 : Int) := by omega
  clear hn2 hc2
  go_enter Tryd.func46, Tryd.ntmps46
  go_wp2_with fail
  go_quiet ((first
    | (go_at_call_of 45 (n2); exact Calls.quiet_of (word_any b (o + 2) n2 c2 x2 x3 _ hn2' h2 h3 b2 b3))
    | (go_at_call_of 45 (n); exact Calls.quiet_of (word_any b o n c x0 x1 _ (by omega) h0 h1 b0 b1))))
  go_wp2
  go_ret
  exact ⟨rfl, _, rfl⟩
end Go.Proofs.YtllmeeebjjmanaaDoor
