/- The walk of SumParts: in whatever order the slices are built and the sums are called. -/
import Derived.Test.YtcjnpbgnjghcjaaOwn
import Derived.Deep.RegionWith
namespace Go.Proofs.Ytcjnpbgnjghcjaa
open Go.ChangeShapes Go.WideShapes Go.ChangeAt Go.RowKit Go.Shelf
set_option linter.unusedVariables false

/-- Block N is o. -/
def Lies (W : World) (N : Nat) (o : Obj) : Prop := W.heap[N]? = some o
theorem Lies.new {W : World} {N : Nat} {o : Obj} (h : N = W.heap.size) : Lies (W.alloc o) N o := by subst h; exact World.alloc_heap_new W o
theorem Lies.lt {W : World} {N : Nat} {o : Obj} (h : Lies W N o) : N < W.heap.size := (Array.getElem?_eq_some_iff.1 h).1
theorem Lies.alloc {W : World} {N : Nat} {o o' : Obj} (h : Lies W N o) : Lies (W.alloc o') N o := (Below.heap_alloc _ _ _ h.lt).trans h
theorem Lies.drew {W : World} {N : Nat} {o : Obj} (h : Lies W N o) : Lies W.drew N o := h
theorem Lies.below {W W' : World} {N : Nat} {o : Obj} (hb : Below W.heap.size W W') (h : Lies W N o) : Lies W' N o := (hb.block N h.lt).trans h

theorem Below.more {w W : World} {o : Obj} (h : Below w.heap.size w W) : Below w.heap.size w (W.alloc o) := h.alloc h.size o
theorem Below.thru {w W W' : World} (hb : Below W.heap.size W W') (h : Below w.heap.size w W) : Below w.heap.size w W' := h.trans (hb.mono h.size)

theorem cell_lies {W : World} {N : Nat} {vs : Array Value} (h : Lies W N (.cells vs 24)) (i : Nat) : W.cell? ⟨N, 0 + i, none⟩ = vs[i]? := by
  unfold World.cell?
  rw [show W.heap[N]? = _ from h]
  simp

theorem bytes_none {W : World} {x : Option Addr} : BytesAt W x [] := ⟨by decide, by simp [Byts], fun j hj => by simp at hj⟩

theorem one_in {W : World} {N : Nat} {a : Option Addr} {len c : Nat} {bs : List Int} (h : Lies W N (.cells #[.slice a len c] 24)) (hl : bs.length = len) (hb : BytesAt W a bs) : PartsAt W (some ⟨N, 0, none⟩) [bs] := by
  subst hl
  refine ⟨by simp [maxLen], fun i hi => ⟨N, 0, a, c, rfl, ?_, ?_⟩⟩
  · obtain rfl : i = 0 := by simpa using hi
    rw [cell_lies h]; simp
  · obtain rfl : i = 0 := by simpa using hi
    simpa using hb

theorem three_in {W : World} {N : Nat} {a1 a2 a3 : Option Addr} {n1 c1 n2 c2 n3 c3 : Nat} {p1 p2 p3 : List Int} (h : Lies W N (.cells #[.slice a1 n1 c1, .slice a2 n2 c2, .slice a3 n3 c3] 24))
    (hl : p1.length = n1 ∧ p2.length = n2 ∧ p3.length = n3) (h1 : BytesAt W a1 p1) (h2 : BytesAt W a2 p2) (h3 : BytesAt W a3 p3) : PartsAt W (some ⟨N, 0, none⟩) [p1, p2, p3] := by
  obtain ⟨rfl, rfl, rfl⟩ := hl
  refine ⟨by simp [maxLen], fun i hi => ?_⟩
  have : i = 0 ∨ i = 1 ∨ i = 2 := by simp at hi; omega
  rcases this with rfl | rfl | rfl
  · exact ⟨N, 0, a1, c1, rfl, by rw [cell_lies h]; simp, by simpa using h1⟩
  · exact ⟨N, 0, a2, c2, rfl, by rw [cell_lies h]; simp, by simpa using h2⟩
  · exact ⟨N, 0, a3, c3, rfl, by rw [cell_lies h]; simp, by simpa using h3⟩

theorem sum_at (W : World) (A : Option Addr) (parts : List (List Int)) (n : Nat) (s : Int) (hp : PartsAt W A parts) (hn : parts.length = n) (hs : sumI parts.flatten = s) :
    Calls Try.prog 10 #[.slice A n n] W fun e W' => e = .returned (.int .u16 s) ∧ Below W.heap.size W W' := by
  subst hn
  rw [← hs]
  exact sum_any A parts.length parts W hp

theorem cut_at {P : Program} {md : _} {ops : Array Oper} {Q : Exit → Act → World → Prop} {f : Nat} {l : Array Bool} {a : Act} {w : World} (n : Nat) (l' : Array Bool) (R : Act → World → Prop)
    (h2 : ∀ a w, R a w → wpAny P md ops Q n l' a w) (h1 : (∀ a w, R a w → wpAny P md ops Q n l' a w) → wpAny P md ops Q f l a w) : wpAny P md ops Q f l a w := h1 h2
theorem cast_listed {P : Program} {md : _} {ops : Array Oper} {Q : Exit → Act → World → Prop} {n : Nat} {l l' : Array Bool} {a : Act} {w : World} (h : l = l') (hk : wpAny P md ops Q n l' a w) : wpAny P md ops Q n l a w := h ▸ hk

set_option maxRecDepth 100000 in
set_option maxHeartbeats 16000000 in
theorem parts_walk (a0 x1 x2 x3 : Option Addr) (len c n1 c1 n2 c2 n3 c3 i k : Nat) (bs p1 p2 p3 : List Int) (s : Int) (w : World)
    (h5 : ∀ w : World, (Instr.slice 24 (.slice a0 len c) none (some (.int .i64 i)) none).run Try.prog w = .ok (.slice x1 n1 c1) w)
    (h9 : ∀ w : World, (Instr.slice 24 (.slice a0 len c) (some (.int .i64 i)) (some (.int .i64 k)) none).run Try.prog w = .ok (.slice x2 n2 c2) w)
    (h12 : ∀ w : World, (Instr.slice 24 (.slice a0 len c) (some (.int .i64 k)) none none).run Try.prog w = .ok (.slice x3 n3 c3) w)
    (H0 : Hid (bs.length = len ∧ BytesAt w a0 bs)) (H1 : Hid (p1.length = n1 ∧ p2.length = n2 ∧ p3.length = n3)) (H2 : Hid (BytesAt w x1 p1 ∧ BytesAt w x2 p2 ∧ BytesAt w x3 p3))
    (HS : Hid (sumI [bs].flatten = s ∧ sumI [p1, p2, p3].flatten = s ∧ sumI [[], bs, []].flatten = s)) (hik : i ≤ k) (hkl : k ≤ len) (hlm : len ≤ 9223372036854775807) :
    Calls Try.prog 7 #[.slice a0 len c, .int .i64 i, .int .i64 k] w fun e w' => e = .returned (.bool true) ∧ Below w.heap.size w w' := by
  have f3 : (i : Int) ≤ (k : Int) := by omega
  have f4 : (k : Int) ≤ (len : Int) := by omega
  go_enter Try.func7, Try.ntmps7
  go_wp2
  refine wp_region_any (by kernel_rfl) ?_
  try (change wpAny _ _ _ _ _ _ _ (World.drew _))
  refine cut_at 6 #[true, true, true, true, true, true, true, true, true, true, true, true, true, true, true, true, true, true, true, true, true, true, true, true, false, false, false, false, false, false] (fun a wm => ∃ v22 v34 v39 v42 v43, a = { tmps := #[.slice a0 len c, .int .i64 i, .int .i64 k, undef, undef, undef, .bool false, .int .i64 i, .bool (decide ((i : Int) < 0)), .bool (decide ((i : Int) < 0)), .int .i64 k, .int .i64 i, .bool false, .bool (decide ((i : Int) < 0)), .bool (decide ((i : Int) < 0)), .int .i64 k, .slice a0 len c, .int .i64 len, .bool false, .bool (decide ((i : Int) < 0)), undef, .slice a0 len c, v22, .int .u16 s, .slice a0 len c, .int .i64 i, .slice x1 n1 c1, .slice a0 len c, .int .i64 i, .int .i64 k, .slice x2 n2 c2, .slice a0 len c, .int .i64 k, .slice x3 n3 c3, v34, .int .u16 s, .bool true, .bool true, .slice a0 len c, v39, .int .u16 s, .slice a0 len c, v42, v43, .int .u16 s, undef, undef, undef, undef, undef], defers := [] } ∧ Below w.heap.size w wm) ?_ (fun key2 => ?_)
  · rintro a wm ⟨v22, v34, v39, v42, v43, rfl, hM⟩
    refine wpAny_take (i := 24) (v := ?_) rfl (by kernel_rfl) (by kernel_rfl) (by kernel_rfl) (fun _ _ _ h => h) (Or.inl ⟨by rfl, ?_⟩) ?_
    rotate_left
    (focus (intro w; go_simp; try with_reducible rfl))
    refine wpAny_take (i := 25) (v := ?_) rfl (by kernel_rfl) (by kernel_rfl) (by kernel_rfl) (fun _ _ _ h => h) (Or.inl ⟨by rfl, ?_⟩) ?_
    rotate_left
    (focus (intro w; go_simp; try with_reducible rfl))
    refine wpAny_take (i := 26) (v := ?_) rfl (by kernel_rfl) (by kernel_rfl) (by kernel_rfl) (fun _ _ _ h => h) (Or.inl ⟨by rfl, ?_⟩) ?_
    rotate_left
    (focus (intro w; go_simp; try with_reducible rfl))
    refine wpAny_ready (rs := [27]) (by kernel_rfl) (by simp) ?_
    refine AllReady.cons rfl (fun K hK => ?_) AllReady.nil
    go_simp
    go_wp2_with (go_at_call 15; refine (heads_any _).mono ?_; rintro e wn ⟨rfl, hB27⟩)
    try (refine hK _ _ ?_)
    try clear hK K
    refine wpAny_take (i := 28) (v := ?_) rfl (by kernel_rfl) (by kernel_rfl) (by kernel_rfl) (fun _ _ _ h => h) (Or.inl ⟨by rfl, ?_⟩) ?_
    rotate_left
    (focus (intro w; go_simp; try with_reducible rfl))
    refine wpAny_ready (rs := [29]) (by kernel_rfl) (by simp) ?_
    refine AllReady.cons rfl (fun K hK => ?_) AllReady.nil
    go_simp
    refine hK _ _ ?_
    clear hK K
    refine wpAny_done (by kernel_rfl) ?_ _
    go_wp2
    go_ret
    refine ⟨rfl, ?_⟩
    repeat (first | with_reducible refine Below.drew ?_ | with_reducible exact Below.refl _ _ | with_reducible exact hM | with_reducible refine Below.more ?_ | with_reducible refine Below.thru hB27 ?_)
  refine cut_at 15 #[true, true, true, true, true, true, true, true, true, true, true, true, true, true, true, false, false, false, false, false, false, false, false, false, false, false, false, false, false, false] (fun a wm => ∃ v22 v34, a = { tmps := #[.slice a0 len c, .int .i64 i, .int .i64 k, undef, undef, undef, .bool false, .int .i64 i, .bool (decide ((i : Int) < 0)), .bool (decide ((i : Int) < 0)), .int .i64 k, .int .i64 i, .bool false, .bool (decide ((i : Int) < 0)), .bool (decide ((i : Int) < 0)), .int .i64 k, .slice a0 len c, .int .i64 len, .bool false, .bool (decide ((i : Int) < 0)), undef, .slice a0 len c, v22, .int .u16 s, .slice a0 len c, .int .i64 i, .slice x1 n1 c1, .slice a0 len c, .int .i64 i, .int .i64 k, .slice x2 n2 c2, .slice a0 len c, .int .i64 k, .slice x3 n3 c3, v34, .int .u16 s, undef, undef, undef, undef, undef, undef, undef, undef, undef, undef, undef, undef, undef, undef], defers := [] } ∧ Below w.heap.size w wm) ?_ (fun key1 => ?_)
  · rintro a wm ⟨v22, v34, rfl, hM⟩
    refine wpAny_take (i := 15) (v := ?_) rfl (by kernel_rfl) (by kernel_rfl) (by kernel_rfl) (fun _ _ _ h => h) (Or.inl ⟨by rfl, ?_⟩) ?_
    rotate_left
    (focus (intro w; go_simp; try with_reducible rfl))
    refine wpAny_take (i := 16) (v := ?_) rfl (by kernel_rfl) (by kernel_rfl) (by kernel_rfl) (fun _ _ _ h => h) (Or.inl ⟨by rfl, ?_⟩) ?_
    rotate_left
    (focus (intro w; go_simp; try with_reducible rfl))
    refine wpAny_take (i := 17) (v := ?_) rfl (by kernel_rfl) (by kernel_rfl) (by kernel_rfl) (fun _ _ _ h => h) (Or.inl ⟨by rfl, ?_⟩) ?_
    rotate_left
    (focus (intro w; go_simp; try with_reducible rfl))
    refine wpAny_take (i := 20) (v := ?_) rfl (by kernel_rfl) (by kernel_rfl) (by kernel_rfl) (fun _ _ _ h => h) (Or.inl ⟨by rfl, ?_⟩) ?_
    rotate_left
    (focus (intro w; go_simp; try with_reducible rfl))
    refine wpAny_ready (rs := [18, 21]) (by kernel_rfl) (by simp) ?_
    refine AllReady.cons rfl (fun K hK => ?_) (AllReady.cons rfl (fun K hK => ?_) AllReady.nil)
    · skip
      go_simp
      refine hK _ _ ?_
      clear hK K
      refine wpAny_ready (rs := [19, 21]) (by kernel_rfl) (by simp) ?_
      refine AllReady.cons rfl (fun K hK => ?_) (AllReady.cons rfl (fun K hK => ?_) AllReady.nil)
      · skip
        go_simp
        go_wp2_with (go_at_call 10; refine (sum_at _ _ [bs] 1 s ?_ rfl HS.out.1).mono ?_; (focus (apply one_in; (focus (repeat (first | with_reducible refine Lies.drew ?_ | with_reducible exact Lies.new (by simp) | with_reducible refine Lies.alloc ?_))); (focus (exact H0.out.1)); (focus (refine H0.out.2.below (B := w.heap.size) ?_ (Nat.le_refl _); repeat (first | with_reducible refine Below.drew ?_ | with_reducible exact Below.refl _ _ | with_reducible exact hM | with_reducible refine Below.more ?_))))); rintro e wn ⟨rfl, hB19⟩)
        try (refine hK _ _ ?_)
        try clear hK K
        refine wpAny_ready (rs := [21]) (by kernel_rfl) (by simp) ?_
        refine AllReady.cons rfl (fun K hK => ?_) AllReady.nil
        go_simp
        refine hK _ _ ?_
        clear hK K
        refine wpAny_ready (rs := [22]) (by kernel_rfl) (by simp) ?_
        refine AllReady.cons rfl (fun K hK => ?_) AllReady.nil
        go_simp
        refine hK _ _ ?_
        clear hK K
        refine wpAny_ready (rs := [23]) (by kernel_rfl) (by simp) ?_
        refine AllReady.cons rfl (fun K hK => ?_) AllReady.nil
        go_simp
        go_wp2_with (go_at_call 10; refine (sum_at _ _ [[], bs, []] 3 s ?_ rfl HS.out.2.2).mono ?_; (focus (apply three_in; (focus (repeat (first | with_reducible refine Lies.drew ?_ | with_reducible exact Lies.new (by simp) | with_reducible refine Lies.alloc ?_ | with_reducible refine Lies.below hB19 ?_))); (focus (exact ⟨rfl, H0.out.1, rfl⟩)); (focus (exact bytes_none)); (focus (refine H0.out.2.below (B := w.heap.size) ?_ (Nat.le_refl _); repeat (first | with_reducible refine Below.drew ?_ | with_reducible exact Below.refl _ _ | with_reducible exact hM | with_reducible refine Below.more ?_ | with_reducible refine Below.thru hB19 ?_))); (focus (exact bytes_none)))); rintro e wn ⟨rfl, hB23⟩)
        try (refine hK _ _ ?_)
        try clear hK K
        refine cast_listed (by kernel_rfl) (key2 _ _ ⟨_, _, _, _, _, rfl, ?_⟩)
        repeat (first | with_reducible refine Below.drew ?_ | with_reducible exact Below.refl _ _ | with_reducible exact hM | with_reducible refine Below.more ?_ | with_reducible refine Below.thru hB23 ?_ | with_reducible refine Below.thru hB19 ?_)
      · skip
        go_simp
        refine hK _ _ ?_
        clear hK K
        refine wpAny_ready (rs := [19, 22]) (by kernel_rfl) (by simp) ?_
        refine AllReady.cons rfl (fun K hK => ?_) (AllReady.cons rfl (fun K hK => ?_) AllReady.nil)
        · skip
          go_simp
          go_wp2_with (go_at_call 10; refine (sum_at _ _ [bs] 1 s ?_ rfl HS.out.1).mono ?_; (focus (apply one_in; (focus (repeat (first | with_reducible refine Lies.drew ?_ | with_reducible exact Lies.new (by simp) | with_reducible refine Lies.alloc ?_))); (focus (exact H0.out.1)); (focus (refine H0.out.2.below (B := w.heap.size) ?_ (Nat.le_refl _); repeat (first | with_reducible refine Below.drew ?_ | with_reducible exact Below.refl _ _ | with_reducible exact hM | with_reducible refine Below.more ?_))))); rintro e wn ⟨rfl, hB19⟩)
          try (refine hK _ _ ?_)
          try clear hK K
          refine wpAny_ready (rs := [22]) (by kernel_rfl) (by simp) ?_
          refine AllReady.cons rfl (fun K hK => ?_) AllReady.nil
          go_simp
          refine hK _ _ ?_
          clear hK K
          refine wpAny_ready (rs := [23]) (by kernel_rfl) (by simp) ?_
          refine AllReady.cons rfl (fun K hK => ?_) AllReady.nil
          go_simp
          go_wp2_with (go_at_call 10; refine (sum_at _ _ [[], bs, []] 3 s ?_ rfl HS.out.2.2).mono ?_; (focus (apply three_in; (focus (repeat (first | with_reducible refine Lies.drew ?_ | with_reducible exact Lies.new (by simp) | with_reducible refine Lies.alloc ?_ | with_reducible refine Lies.below hB19 ?_))); (focus (exact ⟨rfl, H0.out.1, rfl⟩)); (focus (exact bytes_none)); (focus (refine H0.out.2.below (B := w.heap.size) ?_ (Nat.le_refl _); repeat (first | with_reducible refine Below.drew ?_ | with_reducible exact Below.refl _ _ | with_reducible exact hM | with_reducible refine Below.more ?_ | with_reducible refine Below.thru hB19 ?_))); (focus (exact bytes_none)))); rintro e wn ⟨rfl, hB23⟩)
          try (refine hK _ _ ?_)
          try clear hK K
          refine cast_listed (by kernel_rfl) (key2 _ _ ⟨_, _, _, _, _, rfl, ?_⟩)
          repeat (first | with_reducible refine Below.drew ?_ | with_reducible exact Below.refl _ _ | with_reducible exact hM | with_reducible refine Below.more ?_ | with_reducible refine Below.thru hB23 ?_ | with_reducible refine Below.thru hB19 ?_)
        · skip
          go_simp
          refine hK _ _ ?_
          clear hK K
          refine wpAny_ready (rs := [19]) (by kernel_rfl) (by simp) ?_
          refine AllReady.cons rfl (fun K hK => ?_) AllReady.nil
          go_simp
          go_wp2_with (go_at_call 10; refine (sum_at _ _ [bs] 1 s ?_ rfl HS.out.1).mono ?_; (focus (apply one_in; (focus (repeat (first | with_reducible refine Lies.drew ?_ | with_reducible exact Lies.new (by simp) | with_reducible refine Lies.alloc ?_))); (focus (exact H0.out.1)); (focus (refine H0.out.2.below (B := w.heap.size) ?_ (Nat.le_refl _); repeat (first | with_reducible refine Below.drew ?_ | with_reducible exact Below.refl _ _ | with_reducible exact hM | with_reducible refine Below.more ?_))))); rintro e wn ⟨rfl, hB19⟩)
          try (refine hK _ _ ?_)
          try clear hK K
          refine wpAny_ready (rs := [23]) (by kernel_rfl) (by simp) ?_
          refine AllReady.cons rfl (fun K hK => ?_) AllReady.nil
          go_simp
          go_wp2_with (go_at_call 10; refine (sum_at _ _ [[], bs, []] 3 s ?_ rfl HS.out.2.2).mono ?_; (focus (apply three_in; (focus (repeat (first | with_reducible refine Lies.drew ?_ | with_reducible exact Lies.new (by simp) | with_reducible refine Lies.alloc ?_ | with_reducible refine Lies.below hB19 ?_))); (focus (exact ⟨rfl, H0.out.1, rfl⟩)); (focus (exact bytes_none)); (focus (refine H0.out.2.below (B := w.heap.size) ?_ (Nat.le_refl _); repeat (first | with_reducible refine Below.drew ?_ | with_reducible exact Below.refl _ _ | with_reducible exact hM | with_reducible refine Below.more ?_ | with_reducible refine Below.thru hB19 ?_))); (focus (exact bytes_none)))); rintro e wn ⟨rfl, hB23⟩)
          try (refine hK _ _ ?_)
          try clear hK K
          refine cast_listed (by kernel_rfl) (key2 _ _ ⟨_, _, _, _, _, rfl, ?_⟩)
          repeat (first | with_reducible refine Below.drew ?_ | with_reducible exact Below.refl _ _ | with_reducible exact hM | with_reducible refine Below.more ?_ | with_reducible refine Below.thru hB23 ?_ | with_reducible refine Below.thru hB19 ?_)
    · skip
      go_simp
      refine hK _ _ ?_
      clear hK K
      refine wpAny_ready (rs := [18, 22]) (by kernel_rfl) (by simp) ?_
      refine AllReady.cons rfl (fun K hK => ?_) (AllReady.cons rfl (fun K hK => ?_) AllReady.nil)
      · skip
        go_simp
        refine hK _ _ ?_
        clear hK K
        refine wpAny_ready (rs := [19, 22]) (by kernel_rfl) (by simp) ?_
        refine AllReady.cons rfl (fun K hK => ?_) (AllReady.cons rfl (fun K hK => ?_) AllReady.nil)
        · skip
          go_simp
          go_wp2_with (go_at_call 10; refine (sum_at _ _ [bs] 1 s ?_ rfl HS.out.1).mono ?_; (focus (apply one_in; (focus (repeat (first | with_reducible refine Lies.drew ?_ | with_reducible exact Lies.new (by simp) | with_reducible refine Lies.alloc ?_))); (focus (exact H0.out.1)); (focus (refine H0.out.2.below (B := w.heap.size) ?_ (Nat.le_refl _); repeat (first | with_reducible refine Below.drew ?_ | with_reducible exact Below.refl _ _ | with_reducible exact hM | with_reducible refine Below.more ?_))))); rintro e wn ⟨rfl, hB19⟩)
          try (refine hK _ _ ?_)
          try clear hK K
          refine wpAny_ready (rs := [22]) (by kernel_rfl) (by simp) ?_
          refine AllReady.cons rfl (fun K hK => ?_) AllReady.nil
          go_simp
          refine hK _ _ ?_
          clear hK K
          refine wpAny_ready (rs := [23]) (by kernel_rfl) (by simp) ?_
          refine AllReady.cons rfl (fun K hK => ?_) AllReady.nil
          go_simp
          go_wp2_with (go_at_call 10; refine (sum_at _ _ [[], bs, []] 3 s ?_ rfl HS.out.2.2).mono ?_; (focus (apply three_in; (focus (repeat (first | with_reducible refine Lies.drew ?_ | with_reducible exact Lies.new (by simp) | with_reducible refine Lies.alloc ?_ | with_reducible refine Lies.below hB19 ?_))); (focus (exact ⟨rfl, H0.out.1, rfl⟩)); (focus (exact bytes_none)); (focus (refine H0.out.2.below (B := w.heap.size) ?_ (Nat.le_refl _); repeat (first | with_reducible refine Below.drew ?_ | with_reducible exact Below.refl _ _ | with_reducible exact hM | with_reducible refine Below.more ?_ | with_reducible refine Below.thru hB19 ?_))); (focus (exact bytes_none)))); rintro e wn ⟨rfl, hB23⟩)
          try (refine hK _ _ ?_)
          try clear hK K
          refine cast_listed (by kernel_rfl) (key2 _ _ ⟨_, _, _, _, _, rfl, ?_⟩)
          repeat (first | with_reducible refine Below.drew ?_ | with_reducible exact Below.refl _ _ | with_reducible exact hM | with_reducible refine Below.more ?_ | with_reducible refine Below.thru hB23 ?_ | with_reducible refine Below.thru hB19 ?_)
        · skip
          go_simp
          refine hK _ _ ?_
          clear hK K
          refine wpAny_ready (rs := [19]) (by kernel_rfl) (by simp) ?_
          refine AllReady.cons rfl (fun K hK => ?_) AllReady.nil
          go_simp
          go_wp2_with (go_at_call 10; refine (sum_at _ _ [bs] 1 s ?_ rfl HS.out.1).mono ?_; (focus (apply one_in; (focus (repeat (first | with_reducible refine Lies.drew ?_ | with_reducible exact Lies.new (by simp) | with_reducible refine Lies.alloc ?_))); (focus (exact H0.out.1)); (focus (refine H0.out.2.below (B := w.heap.size) ?_ (Nat.le_refl _); repeat (first | with_reducible refine Below.drew ?_ | with_reducible exact Below.refl _ _ | with_reducible exact hM | with_reducible refine Below.more ?_))))); rintro e wn ⟨rfl, hB19⟩)
          try (refine hK _ _ ?_)
          try clear hK K
          refine wpAny_ready (rs := [23]) (by kernel_rfl) (by simp) ?_
          refine AllReady.cons rfl (fun K hK => ?_) AllReady.nil
          go_simp
          go_wp2_with (go_at_call 10; refine (sum_at _ _ [[], bs, []] 3 s ?_ rfl HS.out.2.2).mono ?_; (focus (apply three_in; (focus (repeat (first | with_reducible refine Lies.drew ?_ | with_reducible exact Lies.new (by simp) | with_reducible refine Lies.alloc ?_ | with_reducible refine Lies.below hB19 ?_))); (focus (exact ⟨rfl, H0.out.1, rfl⟩)); (focus (exact bytes_none)); (focus (refine H0.out.2.below (B := w.heap.size) ?_ (Nat.le_refl _); repeat (first | with_reducible refine Below.drew ?_ | with_reducible exact Below.refl _ _ | with_reducible exact hM | with_reducible refine Below.more ?_ | with_reducible refine Below.thru hB19 ?_))); (focus (exact bytes_none)))); rintro e wn ⟨rfl, hB23⟩)
          try (refine hK _ _ ?_)
          try clear hK K
          refine cast_listed (by kernel_rfl) (key2 _ _ ⟨_, _, _, _, _, rfl, ?_⟩)
          repeat (first | with_reducible refine Below.drew ?_ | with_reducible exact Below.refl _ _ | with_reducible exact hM | with_reducible refine Below.more ?_ | with_reducible refine Below.thru hB23 ?_ | with_reducible refine Below.thru hB19 ?_)
      · skip
        go_simp
        refine hK _ _ ?_
        clear hK K
        refine wpAny_ready (rs := [18]) (by kernel_rfl) (by simp) ?_
        refine AllReady.cons rfl (fun K hK => ?_) AllReady.nil
        go_simp
        refine hK _ _ ?_
        clear hK K
        refine wpAny_ready (rs := [19]) (by kernel_rfl) (by simp) ?_
        refine AllReady.cons rfl (fun K hK => ?_) AllReady.nil
        go_simp
        go_wp2_with (go_at_call 10; refine (sum_at _ _ [bs] 1 s ?_ rfl HS.out.1).mono ?_; (focus (apply one_in; (focus (repeat (first | with_reducible refine Lies.drew ?_ | with_reducible exact Lies.new (by simp) | with_reducible refine Lies.alloc ?_))); (focus (exact H0.out.1)); (focus (refine H0.out.2.below (B := w.heap.size) ?_ (Nat.le_refl _); repeat (first | with_reducible refine Below.drew ?_ | with_reducible exact Below.refl _ _ | with_reducible exact hM | with_reducible refine Below.more ?_))))); rintro e wn ⟨rfl, hB19⟩)
        try (refine hK _ _ ?_)
        try clear hK K
        refine wpAny_ready (rs := [23]) (by kernel_rfl) (by simp) ?_
        refine AllReady.cons rfl (fun K hK => ?_) AllReady.nil
        go_simp
        go_wp2_with (go_at_call 10; refine (sum_at _ _ [[], bs, []] 3 s ?_ rfl HS.out.2.2).mono ?_; (focus (apply three_in; (focus (repeat (first | with_reducible refine Lies.drew ?_ | with_reducible exact Lies.new (by simp) | with_reducible refine Lies.alloc ?_ | with_reducible refine Lies.below hB19 ?_))); (focus (exact ⟨rfl, H0.out.1, rfl⟩)); (focus (exact bytes_none)); (focus (refine H0.out.2.below (B := w.heap.size) ?_ (Nat.le_refl _); repeat (first | with_reducible refine Below.drew ?_ | with_reducible exact Below.refl _ _ | with_reducible exact hM | with_reducible refine Below.more ?_ | with_reducible refine Below.thru hB19 ?_))); (focus (exact bytes_none)))); rintro e wn ⟨rfl, hB23⟩)
        try (refine hK _ _ ?_)
        try clear hK K
        refine cast_listed (by kernel_rfl) (key2 _ _ ⟨_, _, _, _, _, rfl, ?_⟩)
        repeat (first | with_reducible refine Below.drew ?_ | with_reducible exact Below.refl _ _ | with_reducible exact hM | with_reducible refine Below.more ?_ | with_reducible refine Below.thru hB23 ?_ | with_reducible refine Below.thru hB19 ?_)
  refine wpAny_take (i := 0) (v := ?_) rfl (by kernel_rfl) (by kernel_rfl) (by kernel_rfl) (fun _ _ _ h => h) (Or.inl ⟨by rfl, ?_⟩) ?_
  rotate_left
  (focus (intro w; go_simp; try with_reducible rfl))
  refine wpAny_take (i := 3) (v := ?_) rfl (by kernel_rfl) (by kernel_rfl) (by kernel_rfl) (fun _ _ _ h => h) (Or.inl ⟨by rfl, ?_⟩) ?_
  rotate_left
  (focus (intro w; go_simp; try with_reducible rfl))
  refine wpAny_take (i := 4) (v := ?_) rfl (by kernel_rfl) (by kernel_rfl) (by kernel_rfl) (fun _ _ _ h => h) (Or.inl ⟨by rfl, ?_⟩) ?_
  rotate_left
  (focus (intro w; go_simp; try with_reducible rfl))
  refine wpAny_take (i := 5) (v := ?_) rfl (by kernel_rfl) (by kernel_rfl) (by kernel_rfl) (fun _ _ _ h => h) (Or.inl ⟨by rfl, ?_⟩) ?_
  rotate_left
  (focus (intro w; go_simp; try with_reducible rfl))
  refine wpAny_take (i := 6) (v := ?_) rfl (by kernel_rfl) (by kernel_rfl) (by kernel_rfl) (fun _ _ _ h => h) (Or.inl ⟨by rfl, ?_⟩) ?_
  rotate_left
  (focus (intro w; go_simp; try with_reducible rfl))
  refine wpAny_take (i := 7) (v := ?_) rfl (by kernel_rfl) (by kernel_rfl) (by kernel_rfl) (fun _ _ _ h => h) (Or.inl ⟨by rfl, ?_⟩) ?_
  rotate_left
  (focus (intro w; go_simp; try with_reducible rfl))
  refine wpAny_take (i := 8) (v := ?_) rfl (by kernel_rfl) (by kernel_rfl) (by kernel_rfl) (fun _ _ _ h => h) (Or.inl ⟨by rfl, ?_⟩) ?_
  rotate_left
  (focus (intro w; go_simp; try with_reducible rfl))
  refine wpAny_take (i := 9) (v := ?_) rfl (by kernel_rfl) (by kernel_rfl) (by kernel_rfl) (fun _ _ _ h => h) (Or.inl ⟨by rfl, ?_⟩) ?_
  rotate_left
  (focus (intro w; go_simp; try with_reducible rfl))
  refine wpAny_take (i := 10) (v := ?_) rfl (by kernel_rfl) (by kernel_rfl) (by kernel_rfl) (fun _ _ _ h => h) (Or.inl ⟨by rfl, ?_⟩) ?_
  rotate_left
  (focus (intro w; go_simp; try with_reducible rfl))
  refine wpAny_take (i := 11) (v := ?_) rfl (by kernel_rfl) (by kernel_rfl) (by kernel_rfl) (fun _ _ _ h => h) (Or.inl ⟨by rfl, ?_⟩) ?_
  rotate_left
  (focus (intro w; go_simp; try with_reducible rfl))
  refine wpAny_take (i := 12) (v := ?_) rfl (by kernel_rfl) (by kernel_rfl) (by kernel_rfl) (fun _ _ _ h => h) (Or.inl ⟨by rfl, ?_⟩) ?_
  rotate_left
  (focus (intro w; go_simp; try with_reducible rfl))
  refine wpAny_ready (rs := [1, 13]) (by kernel_rfl) (by simp) ?_
  refine AllReady.cons rfl (fun K hK => ?_) (AllReady.cons rfl (fun K hK => ?_) AllReady.nil)
  · skip
    go_simp
    refine hK _ _ ?_
    clear hK K
    refine wpAny_ready (rs := [2, 13]) (by kernel_rfl) (by simp) ?_
    refine AllReady.cons rfl (fun K hK => ?_) (AllReady.cons rfl (fun K hK => ?_) AllReady.nil)
    · skip
      go_simp
      go_wp2_with (go_at_call 10; refine (sum_at _ _ [bs] 1 s ?_ rfl HS.out.1).mono ?_; (focus (apply one_in; (focus (repeat (first | with_reducible refine Lies.drew ?_ | with_reducible exact Lies.new (by simp) | with_reducible refine Lies.alloc ?_))); (focus (exact H0.out.1)); (focus (refine H0.out.2.below (B := w.heap.size) ?_ (Nat.le_refl _); repeat (first | with_reducible refine Below.drew ?_ | with_reducible exact Below.refl _ _ | with_reducible refine Below.more ?_))))); rintro e wn ⟨rfl, hB2⟩)
      try (refine hK _ _ ?_)
      try clear hK K
      refine wpAny_ready (rs := [13]) (by kernel_rfl) (by simp) ?_
      refine AllReady.cons rfl (fun K hK => ?_) AllReady.nil
      go_simp
      refine hK _ _ ?_
      clear hK K
      refine wpAny_ready (rs := [14]) (by kernel_rfl) (by simp) ?_
      refine AllReady.cons rfl (fun K hK => ?_) AllReady.nil
      go_simp
      go_wp2_with (go_at_call 10; refine (sum_at _ _ [p1, p2, p3] 3 s ?_ rfl HS.out.2.1).mono ?_; (focus (apply three_in; (focus (repeat (first | with_reducible refine Lies.drew ?_ | with_reducible exact Lies.new (by simp) | with_reducible refine Lies.alloc ?_ | with_reducible refine Lies.below hB2 ?_))); (focus (exact H1.out)); (focus (refine H2.out.1.below (B := w.heap.size) ?_ (Nat.le_refl _); repeat (first | with_reducible refine Below.drew ?_ | with_reducible exact Below.refl _ _ | with_reducible refine Below.more ?_ | with_reducible refine Below.thru hB2 ?_))); (focus (refine H2.out.2.1.below (B := w.heap.size) ?_ (Nat.le_refl _); repeat (first | with_reducible refine Below.drew ?_ | with_reducible exact Below.refl _ _ | with_reducible refine Below.more ?_ | with_reducible refine Below.thru hB2 ?_))); (focus (refine H2.out.2.2.below (B := w.heap.size) ?_ (Nat.le_refl _); repeat (first | with_reducible refine Below.drew ?_ | with_reducible exact Below.refl _ _ | with_reducible refine Below.more ?_ | with_reducible refine Below.thru hB2 ?_))))); rintro e wn ⟨rfl, hB14⟩)
      try (refine hK _ _ ?_)
      try clear hK K
      refine cast_listed (by kernel_rfl) (key1 _ _ ⟨_, _, rfl, ?_⟩)
      repeat (first | with_reducible refine Below.drew ?_ | with_reducible exact Below.refl _ _ | with_reducible refine Below.more ?_ | with_reducible refine Below.thru hB14 ?_ | with_reducible refine Below.thru hB2 ?_)
    · skip
      go_simp
      refine hK _ _ ?_
      clear hK K
      refine wpAny_ready (rs := [2]) (by kernel_rfl) (by simp) ?_
      refine AllReady.cons rfl (fun K hK => ?_) AllReady.nil
      go_simp
      go_wp2_with (go_at_call 10; refine (sum_at _ _ [bs] 1 s ?_ rfl HS.out.1).mono ?_; (focus (apply one_in; (focus (repeat (first | with_reducible refine Lies.drew ?_ | with_reducible exact Lies.new (by simp) | with_reducible refine Lies.alloc ?_))); (focus (exact H0.out.1)); (focus (refine H0.out.2.below (B := w.heap.size) ?_ (Nat.le_refl _); repeat (first | with_reducible refine Below.drew ?_ | with_reducible exact Below.refl _ _ | with_reducible refine Below.more ?_))))); rintro e wn ⟨rfl, hB2⟩)
      try (refine hK _ _ ?_)
      try clear hK K
      refine wpAny_ready (rs := [14]) (by kernel_rfl) (by simp) ?_
      refine AllReady.cons rfl (fun K hK => ?_) AllReady.nil
      go_simp
      go_wp2_with (go_at_call 10; refine (sum_at _ _ [p1, p2, p3] 3 s ?_ rfl HS.out.2.1).mono ?_; (focus (apply three_in; (focus (repeat (first | with_reducible refine Lies.drew ?_ | with_reducible exact Lies.new (by simp) | with_reducible refine Lies.alloc ?_ | with_reducible refine Lies.below hB2 ?_))); (focus (exact H1.out)); (focus (refine H2.out.1.below (B := w.heap.size) ?_ (Nat.le_refl _); repeat (first | with_reducible refine Below.drew ?_ | with_reducible exact Below.refl _ _ | with_reducible refine Below.more ?_ | with_reducible refine Below.thru hB2 ?_))); (focus (refine H2.out.2.1.below (B := w.heap.size) ?_ (Nat.le_refl _); repeat (first | with_reducible refine Below.drew ?_ | with_reducible exact Below.refl _ _ | with_reducible refine Below.more ?_ | with_reducible refine Below.thru hB2 ?_))); (focus (refine H2.out.2.2.below (B := w.heap.size) ?_ (Nat.le_refl _); repeat (first | with_reducible refine Below.drew ?_ | with_reducible exact Below.refl _ _ | with_reducible refine Below.more ?_ | with_reducible refine Below.thru hB2 ?_))))); rintro e wn ⟨rfl, hB14⟩)
      try (refine hK _ _ ?_)
      try clear hK K
      refine cast_listed (by kernel_rfl) (key1 _ _ ⟨_, _, rfl, ?_⟩)
      repeat (first | with_reducible refine Below.drew ?_ | with_reducible exact Below.refl _ _ | with_reducible refine Below.more ?_ | with_reducible refine Below.thru hB14 ?_ | with_reducible refine Below.thru hB2 ?_)
  · skip
    go_simp
    refine hK _ _ ?_
    clear hK K
    refine wpAny_ready (rs := [1]) (by kernel_rfl) (by simp) ?_
    refine AllReady.cons rfl (fun K hK => ?_) AllReady.nil
    go_simp
    refine hK _ _ ?_
    clear hK K
    refine wpAny_ready (rs := [2]) (by kernel_rfl) (by simp) ?_
    refine AllReady.cons rfl (fun K hK => ?_) AllReady.nil
    go_simp
    go_wp2_with (go_at_call 10; refine (sum_at _ _ [bs] 1 s ?_ rfl HS.out.1).mono ?_; (focus (apply one_in; (focus (repeat (first | with_reducible refine Lies.drew ?_ | with_reducible exact Lies.new (by simp) | with_reducible refine Lies.alloc ?_))); (focus (exact H0.out.1)); (focus (refine H0.out.2.below (B := w.heap.size) ?_ (Nat.le_refl _); repeat (first | with_reducible refine Below.drew ?_ | with_reducible exact Below.refl _ _ | with_reducible refine Below.more ?_))))); rintro e wn ⟨rfl, hB2⟩)
    try (refine hK _ _ ?_)
    try clear hK K
    refine wpAny_ready (rs := [14]) (by kernel_rfl) (by simp) ?_
    refine AllReady.cons rfl (fun K hK => ?_) AllReady.nil
    go_simp
    go_wp2_with (go_at_call 10; refine (sum_at _ _ [p1, p2, p3] 3 s ?_ rfl HS.out.2.1).mono ?_; (focus (apply three_in; (focus (repeat (first | with_reducible refine Lies.drew ?_ | with_reducible exact Lies.new (by simp) | with_reducible refine Lies.alloc ?_ | with_reducible refine Lies.below hB2 ?_))); (focus (exact H1.out)); (focus (refine H2.out.1.below (B := w.heap.size) ?_ (Nat.le_refl _); repeat (first | with_reducible refine Below.drew ?_ | with_reducible exact Below.refl _ _ | with_reducible refine Below.more ?_ | with_reducible refine Below.thru hB2 ?_))); (focus (refine H2.out.2.1.below (B := w.heap.size) ?_ (Nat.le_refl _); repeat (first | with_reducible refine Below.drew ?_ | with_reducible exact Below.refl _ _ | with_reducible refine Below.more ?_ | with_reducible refine Below.thru hB2 ?_))); (focus (refine H2.out.2.2.below (B := w.heap.size) ?_ (Nat.le_refl _); repeat (first | with_reducible refine Below.drew ?_ | with_reducible exact Below.refl _ _ | with_reducible refine Below.more ?_ | with_reducible refine Below.thru hB2 ?_))))); rintro e wn ⟨rfl, hB14⟩)
    try (refine hK _ _ ?_)
    try clear hK K
    refine cast_listed (by kernel_rfl) (key1 _ _ ⟨_, _, rfl, ?_⟩)
    repeat (first | with_reducible refine Below.drew ?_ | with_reducible exact Below.refl _ _ | with_reducible refine Below.more ?_ | with_reducible refine Below.thru hB14 ?_ | with_reducible refine Below.thru hB2 ?_)
end Go.Proofs.Ytcjnpbgnjghcjaa
