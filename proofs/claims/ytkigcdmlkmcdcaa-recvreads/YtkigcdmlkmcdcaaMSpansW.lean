/- The document's spans. -/
import Derived.Test.YtkigcdmlkmcdcaaZ
import Derived.Test.YtkigcdmlkmcdcaaMRefLow
namespace Go.Proofs.Ytkigcdmlkmcdcaa
open Go.ChangeShapes Go.WideShapes Go.ChangeAt Go.RowKit
set_option linter.unusedVariables false
set_option linter.unusedSimpArgs false

theorem take_more {l : List Tm} {i : Nat} {y : Tm} (h : l[i]? = some y) : l.take i ++ [y] = l.take (i + 1) := by
 rw [List.take_add_one, h]; rfl
set_option maxRecDepth 100000 in
set_option maxHeartbeats 4000000 in
theorem refSpans_any (A : Option Addr) (c : Nat) (es : List En) (w : World) (hP : PcsAt w A c es) (n : Nat) (hn : es.length = n) :
 Calls Try.prog 46 #[.slice A n c] w fun e w' => ∃ va vc, e = .returned (.slice va n vc) ∧ RowT w' w.heap.size va n vc (spnsW es) ∧ Below w.heap.size w w' := by
 have HS : Hid (PcsAt w A c es ∧ es.length = n ∧ (spnsW es).length = n) := ⟨hP, hn, by unfold spnsW; rw [List.length_map, hn]⟩
 have hb1 : n * 32 ≤ 140737488351232 := by have := hP.reach; omega
 clear hP hn
 go_enter Try.func46, Try.ntmps46
 go_wp2_with fail
 go_loopw [3, 4] (fun vo vi wr => ∃ (i : Nat) (va : Option Addr) (vc : Nat), vi = .int .i64 (i : Int) ∧ vo = .slice va i vc ∧ i ≤ n ∧ Hid (RowT wr w.heap.size va i vc ((spnsW es).take i) ∧ Below w.heap.size w wr)) (fun _ vi _ => n - (intOf vi).toNat)
 case atStart => exact ⟨0, none, 0, rfl, rfl, Nat.zero_le _, World.ownsRow_nil _ _ _ _, Below.refl _ _⟩
 case round =>
  obtain ⟨i, va, vc, rfl, rfl, hi, HR⟩ := hrel
  by_cases hlt : i < n
  · have hlt' : (i : Int) < (n : Int) := by omega
    obtain ⟨x, hx⟩ : ∃ x, es[i]? = some x := ⟨_, List.getElem?_eq_getElem (by rw [HS.out.2.1]; exact hlt)⟩
    obtain ⟨b, o, ka, e1, e2⟩ := (HS.out.1.later HR.out.2).ents i x hx
    subst ka
    obtain ⟨t, ht⟩ : ∃ t, wrap64 (x.f + (x.bs.length : Int)) = t := ⟨_, rfl⟩
    have ht2 : IntKind.i64.wrap (x.f + (x.bs.length : Int)) = t := by rw [← ht]; simp [IntKind.wrap, IntKind.signed, IntKind.bits, wrap64]; split <;> omega
    have hsp : (spnsW es)[i]? = some (x.f, t) := by unfold spnsW; rw [List.getElem?_map, hx]; simp [spW, ht]
    obtain ⟨S, hS⟩ : ∃ S : World → Prop, S = fun W => W.cell? ⟨b, o + i * 2, none⟩ = some (.int .i64 x.f) ∧ W.cell? ⟨b, o + i * 2 + 1, none⟩ = some (.slice x.a x.bs.length x.c) := ⟨_, rfl⟩
    have hbw : b < w.heap.size := by
     obtain ⟨b', o', ka', e1', _⟩ := HS.out.1.ents i x hx
     cases ka'
     exact zac e1'
    have HSK : Hid (∀ W, Below w.heap.size wr W → S W) := fun W hW => by
     rw [hS]
     exact ⟨(hW.cell (p := ⟨_, _, none⟩) hbw).trans e1, (hW.cell (p := ⟨_, _, none⟩) hbw).trans e2⟩
    have HT : Hid ((spnsW es)[i]? = some (x.f, t)) := hsp
    clear e1 e2 hx hsp ht hbw
    go_wp2_with fail
    as_aux_lemma =>
     obtain ⟨y0, y1, y2, y3, y4, y5, y6, y7, y8, y9, y10, y11, y12, y13, y14, y15, y16, y17, y18⟩ : (∀ {ps} (ev : EV), ev (.tmp 3) = .slice va i vc → Yl Try.prog S ev { dst := some 11, op := .move (.tmp 3), type := 25, pos := ps, after := #[], guard := none } ((.slice va i vc))) ∧ (∀ {ps} (ev : EV), ev (.tmp 0) = .slice (some ⟨b, o, none⟩) n c → Yl Try.prog S ev { dst := some 12, op := .move (.tmp 0), type := 23, pos := ps, after := #[], guard := none } ((.slice (some ⟨b, o, none⟩) n c))) ∧ (∀ {ps} (ev : EV), ev (.tmp 4) = .int .i64 (i : Int) → Yl Try.prog S ev { dst := some 13, op := .move (.tmp 4), type := 3, pos := ps, after := #[], guard := none } ((.int .i64 (i : Int)))) ∧ (∀ {ps} (ev : EV), ev (.tmp 12) = .slice (some ⟨b, o, none⟩) n c → ev (.tmp 13) = .int .i64 (i : Int) → Yl Try.prog S ev { dst := some 14, op := .indexAddr 23 (.tmp 12) (.tmp 13), type := 0, pos := ps, after := #[{ on := 1, ground := .data }, { on := 2, ground := .data }], guard := none } ((.pointer (some ⟨b, o + i * 2, none⟩)))) ∧ (∀ {ps} (ev : EV), ev (.tmp 14) = .pointer (some ⟨b, o + i * 2, none⟩) → Yl Try.prog S ev { dst := some 15, op := .fieldAddr 74 (.tmp 14) 0, type := 0, pos := ps, after := #[{ on := 3, ground := .data }], guard := none } ((.pointer (some ⟨b, o + i * 2, none⟩)))) ∧ (∀ {ps} (ev : EV), ev (.tmp 15) = .pointer (some ⟨b, o + i * 2, none⟩) → Yl Try.prog S ev { dst := some 16, op := .load 3 (.tmp 15), type := 3, pos := ps, after := #[{ on := 4, ground := .data }], guard := none } ((.int .i64 x.f))) ∧ (∀ {ps} (ev : EV), ev (.tmp 0) = .slice (some ⟨b, o, none⟩) n c → Yl Try.prog S ev { dst := some 17, op := .move (.tmp 0), type := 23, pos := ps, after := #[], guard := none } ((.slice (some ⟨b, o, none⟩) n c))) ∧ (∀ {ps} (ev : EV), ev (.tmp 4) = .int .i64 (i : Int) → Yl Try.prog S ev { dst := some 18, op := .move (.tmp 4), type := 3, pos := ps, after := #[], guard := none } ((.int .i64 (i : Int)))) ∧ (∀ {ps} (ev : EV), ev (.tmp 17) = .slice (some ⟨b, o, none⟩) n c → ev (.tmp 18) = .int .i64 (i : Int) → Yl Try.prog S ev { dst := some 19, op := .indexAddr 23 (.tmp 17) (.tmp 18), type := 0, pos := ps, after := #[{ on := 6, ground := .data }, { on := 7, ground := .data }], guard := none } ((.pointer (some ⟨b, o + i * 2, none⟩)))) ∧ (∀ {ps} (ev : EV), ev (.tmp 19) = .pointer (some ⟨b, o + i * 2, none⟩) → Yl Try.prog S ev { dst := some 20, op := .fieldAddr 74 (.tmp 19) 0, type := 0, pos := ps, after := #[{ on := 8, ground := .data }], guard := none } ((.pointer (some ⟨b, o + i * 2, none⟩)))) ∧ (∀ {ps} (ev : EV), ev (.tmp 20) = .pointer (some ⟨b, o + i * 2, none⟩) → Yl Try.prog S ev { dst := some 21, op := .load 3 (.tmp 20), type := 3, pos := ps, after := #[{ on := 9, ground := .data }], guard := none } ((.int .i64 x.f))) ∧ (∀ {ps} (ev : EV), ev (.tmp 0) = .slice (some ⟨b, o, none⟩) n c → Yl Try.prog S ev { dst := some 22, op := .move (.tmp 0), type := 23, pos := ps, after := #[], guard := none } ((.slice (some ⟨b, o, none⟩) n c))) ∧ (∀ {ps} (ev : EV), ev (.tmp 4) = .int .i64 (i : Int) → Yl Try.prog S ev { dst := some 23, op := .move (.tmp 4), type := 3, pos := ps, after := #[], guard := none } ((.int .i64 (i : Int)))) ∧ (∀ {ps} (ev : EV), ev (.tmp 22) = .slice (some ⟨b, o, none⟩) n c → ev (.tmp 23) = .int .i64 (i : Int) → Yl Try.prog S ev { dst := some 24, op := .indexAddr 23 (.tmp 22) (.tmp 23), type := 0, pos := ps, after := #[{ on := 11, ground := .data }, { on := 12, ground := .data }], guard := none } ((.pointer (some ⟨b, o + i * 2, none⟩)))) ∧ (∀ {ps} (ev : EV), ev (.tmp 24) = .pointer (some ⟨b, o + i * 2, none⟩) → Yl Try.prog S ev { dst := some 25, op := .fieldAddr 74 (.tmp 24) 1, type := 0, pos := ps, after := #[{ on := 13, ground := .data }], guard := none } ((.pointer (some ⟨b, o + i * 2 + 1, none⟩)))) ∧ (∀ {ps} (ev : EV), ev (.tmp 25) = .pointer (some ⟨b, o + i * 2 + 1, none⟩) → Yl Try.prog S ev { dst := some 26, op := .load 22 (.tmp 25), type := 22, pos := ps, after := #[{ on := 14, ground := .data }], guard := none } ((.slice x.a x.bs.length x.c))) ∧ (∀ {ps} (ev : EV), ev (.tmp 26) = .slice x.a x.bs.length x.c → Yl Try.prog S ev { dst := some 27, op := .call { callee := .builtin .len, args := #[.tmp 26], argTypes := #[22] }, type := 3, pos := ps, after := #[{ on := 15, ground := .data }], guard := none } ((.int .i64 (x.bs.length : Int)))) ∧ (∀ {ps} (ev : EV), ev (.tmp 21) = .int .i64 x.f → ev (.tmp 27) = .int .i64 (x.bs.length : Int) → Yl Try.prog S ev { dst := some 28, op := .binOp .add 3 (.tmp 21) (.tmp 27) 3, type := 3, pos := ps, after := #[{ on := 10, ground := .data }, { on := 16, ground := .data }], guard := none } ((.int .i64 t))) ∧ (∀ {ps} (ev : EV), ev (.tmp 16) = .int .i64 x.f → ev (.tmp 28) = .int .i64 t → Yl Try.prog S ev { dst := some 29, op := .build 78 #[(0, .tmp 16), (1, .tmp 28)], type := 78, pos := ps, after := #[{ on := 5, ground := .data }, { on := 17, ground := .data }], guard := none } ((.agg #[.int .i64 x.f, .int .i64 t]))) := by
      refine ⟨?_, ?_, ?_, ?_, ?_, ?_, ?_, ?_, ?_, ?_, ?_, ?_, ?_, ?_, ?_, ?_, ?_, ?_, ?_⟩ <;> (intros; intro W hSw; rw [hS] at hSw; (try dsimp only at hSw); go_simp <;> with_reducible rfl)
     refine zar S 21 (by kernel_rfl) (HSK.out _ (Below.drew (Below.refl _ _))) (fun hHeld => ?_)
     refine zk 0 (y0 _ rfl) ?_
     try simp only [Act.put, qA, qZ, qS]
     refine zk 1 (y1 _ rfl) ?_
     try simp only [Act.put, qA, qZ, qS]
     refine zk 2 (y2 _ rfl) ?_
     try simp only [Act.put, qA, qZ, qS]
     refine zk 3 (y3 _ rfl rfl) ?_
     try simp only [Act.put, qA, qZ, qS]
     refine zk 4 (y4 _ rfl) ?_
     try simp only [Act.put, qA, qZ, qS]
     refine zk 5 (y5 _ rfl) ?_
     try simp only [Act.put, qA, qZ, qS]
     refine zk 6 (y6 _ rfl) ?_
     try simp only [Act.put, qA, qZ, qS]
     refine zk 7 (y7 _ rfl) ?_
     try simp only [Act.put, qA, qZ, qS]
     refine zk 8 (y8 _ rfl rfl) ?_
     try simp only [Act.put, qA, qZ, qS]
     refine zk 9 (y9 _ rfl) ?_
     try simp only [Act.put, qA, qZ, qS]
     refine zk 10 (y10 _ rfl) ?_
     try simp only [Act.put, qA, qZ, qS]
     refine zk 11 (y11 _ rfl) ?_
     try simp only [Act.put, qA, qZ, qS]
     refine zk 12 (y12 _ rfl) ?_
     try simp only [Act.put, qA, qZ, qS]
     refine zk 13 (y13 _ rfl rfl) ?_
     try simp only [Act.put, qA, qZ, qS]
     refine zk 14 (y14 _ rfl) ?_
     try simp only [Act.put, qA, qZ, qS]
     refine zk 15 (y15 _ rfl) ?_
     try simp only [Act.put, qA, qZ, qS]
     refine zk 16 (y16 _ rfl) ?_
     try simp only [Act.put, qA, qZ, qS]
     refine zk 17 (y17 _ rfl rfl) ?_
     try simp only [Act.put, qA, qZ, qS]
     refine zk 18 (y18 _ rfl rfl) ?_
     try simp only [Act.put, qA, qZ, qS]
     refine zal (i := 19) (o := { dst := some 30, op := .buildSlice 25 1 #[(0, .tmp 29)], type := 25, pos := _, after := #[{ on := 18, ground := .data }], guard := none }) (by kernel_rfl) rfl (fun K hK => ?_)
     rw [if_pos (by rfl)]
     go_simp
     obtain ⟨X6, hX6⟩ : ∃ X6, (wr.alloc (.cells #[.int .i64 x.f, .int .i64 t] 78)).drew = X6 := ⟨_, rfl⟩
     have b6 : Below wr.heap.size wr X6 := by rw [← hX6]; exact Below.drew (zaa (Below.refl _ _) _)
     have b6' : Below w.heap.size wr X6 := b6.mono HR.out.2.size
     have hT6 : ∀ j u, [Value.int .i64 x.f, Value.int .i64 t][j]? = some u → X6.cell? ((⟨wr.heap.size, 0, none⟩ : Addr).add j) = some u := by
      intro j u hj
      have hb := (Box.new wr 78 [.int .i64 x.f, .int .i64 t]).later (Below.drew (Below.refl _ _))
      rw [← hX6]
      rw [zb0, Nat.zero_add]
      exact hb.cell j hj
     have hO6 : RowT X6 w.heap.size va i vc ((spnsW es).take i) := HR.out.1.later b6
     have hs6 : w.heap.size ≤ X6.heap.size := by have := HR.out.2.size; have := b6.size; omega
     try rw [hX6]
     refine hK.out _ _ ⟨fun _ => HSK.out _ b6', ?_⟩
     clear hK K hHeld hX6
     try simp only [Act.put, qA, qZ, qS]
     refine zal (i := 20) (o := { dst := some 31, op := .call { callee := .builtin .append, args := #[.tmp 11, .tmp 30], argTypes := #[25, 25] }, type := 25, pos := _, after := #[{ on := 0, ground := .data }, { on := 19, ground := .data }], guard := none }) (by kernel_rfl) rfl (fun K hK => ?_)
     refine step_appT rfl (.tmp 11) (.tmp 30) rfl w.heap.size va i vc ((spnsW es).take i) ⟨wr.heap.size, 0, none⟩ (x.f, t) rfl rfl hO6 hs6 hT6 (by omega) ?_
     intro va' vc' w7 hr7 hg7 hl7
     have b7 : Below w.heap.size wr w7 := za5 b6' hs6 hO6 hg7
     refine hK.out _ _ ⟨fun _ => HSK.out _ b7, ?_⟩
     clear hK K
     try simp only [Act.put, qA, qZ, qS]
     refine zal (i := 21) (o := { dst := some 3, op := .assign (.tmp 31), type := 25, pos := _, after := #[{ on := 20, ground := .data }, { on := 20, ground := .chain }, { on := 0, ground := .phase }, { on := 1, ground := .phase }, { on := 2, ground := .phase }, { on := 3, ground := .phase }, { on := 4, ground := .phase }, { on := 5, ground := .phase }, { on := 6, ground := .phase }, { on := 7, ground := .phase }, { on := 8, ground := .phase }, { on := 9, ground := .phase }, { on := 10, ground := .phase }, { on := 11, ground := .phase }, { on := 12, ground := .phase }, { on := 13, ground := .phase }, { on := 14, ground := .phase }, { on := 15, ground := .phase }, { on := 16, ground := .phase }, { on := 17, ground := .phase }, { on := 18, ground := .phase }, { on := 19, ground := .phase }, { on := 20, ground := .phase }], guard := none }) (by kernel_rfl) rfl (fun K hK => ?_)
     rw [if_pos (by rfl)]
     go_simp
     refine hK.out _ _ ⟨fun h => absurd rfl h, ?_⟩
     clear hK K
     refine za2 (by kernel_rfl) ?_ _
     try simp only [Act.put, qA, qZ, qS]
     rw [take_more HT.out] at hr7
     have HN : Hid (RowT w7 w.heap.size va' (i + 1) vc' ((spnsW es).take (i + 1)) ∧ Below w.heap.size w w7) := ⟨hr7, HR.out.2.trans b7⟩
     clear y0 y1 y2 y3 y4 y5 y6 y7 y8 y9 y10 y11 y12 y13 y14 y15 y16 y17 y18 hS HSK b6 b6' hT6 hO6 hs6 hr7 hg7 hl7 b7 HR HT
     go_wp2_with fail
     go_roundw
     case rel => exact ⟨i + 1, va', vc', by go_num, rfl, by omega, HN⟩
     case measure => simp [intOf]; omega
  · obtain rfl : i = n := by omega
    have hge : ¬ ((i : Int) < (i : Int)) := by omega
    go_wp2_with fail
    go_ret
    refine ⟨va, vc, rfl, ?_, HR.out.2⟩
    have := HR.out.1
    rw [List.take_of_length_le (by rw [HS.out.2.2]; exact Nat.le_refl _)] at this
    exact this
end Go.Proofs.Ytkigcdmlkmcdcaa

