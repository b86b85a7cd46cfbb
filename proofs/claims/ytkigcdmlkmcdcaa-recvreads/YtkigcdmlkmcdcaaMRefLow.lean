/- The document's reach, limit and in. -/
import Derived.Test.YtkigcdmlkmcdcaaZ
import Derived.Test.YtkigcdmlkmcdcaaMRefNew
namespace Go.Proofs.Ytkigcdmlkmcdcaa
open Go.ChangeShapes Go.WideShapes Go.ChangeAt Go.RowKit
set_option linter.unusedVariables false
set_option linter.unusedSimpArgs false

theorem zd2 (r : Pl.Rv) (h : Hd) (w : World) (hl : lowB r) :
 Calls Try.prog 45 #[.agg #[.int .i64 r.s.n, .slice h.ua r.s.u.length h.uc, .slice h.la h.es.length h.lc, .int .i64 r.cap, .int .i64 r.shift, .int .i64 r.edge, .int .u32 r.recent, .bool r.stamps, .bool r.sacks, .int .i64 r.fin, .bool r.dn, .slice h.fa r.first.length h.fc, .int .u32 r.irs, .int .u32 r.own, .bool r.stamp]] w fun e w' => e = .returned (.int .i64 r.reach) ∧ Below w.heap.size w w' := by
 obtain ⟨h1, h2, h3, h4, h5⟩ := hl
 go_enter Try.func45, Try.ntmps45
 go_wp2
 go_ret
 exact ⟨zbe (by unfold Pl.Rv.reach Pl.Rx.bot; omega), (Below.refl _ _).alloc (Nat.le_refl _) _⟩
theorem zgj (r : Pl.Rv) (h : Hd) (w : World) (hl : lowB r) :
 Calls Try.prog 41 #[.agg #[.int .i64 r.s.n, .slice h.ua r.s.u.length h.uc, .slice h.la h.es.length h.lc, .int .i64 r.cap, .int .i64 r.shift, .int .i64 r.edge, .int .u32 r.recent, .bool r.stamps, .bool r.sacks, .int .i64 r.fin, .bool r.dn, .slice h.fa r.first.length h.fc, .int .u32 r.irs, .int .u32 r.own, .bool r.stamp]] w fun e w' => e = .returned (.int .i64 r.limit) ∧ Below w.heap.size w w' := by
 have c := fun W => zd2 r h W hl
 obtain ⟨R, hR⟩ : ∃ R, r.reach = R := ⟨_, rfl⟩
 have HL : Hid (r.limit = Pl.minJ R 562949953421312) := by unfold Hid Pl.Rv.limit; rw [hR]; rfl
 rw [hR] at c
 clear hR hl
 go_enter Try.func41, Try.ntmps41
 go_wp2_with (go_at_call 45; refine (c _).mono ?_; rintro e w1 ⟨rfl, hB⟩)
 all_goals go_ret
 all_goals (refine ⟨zbe ?_, ((Below.refl _ w).alloc (Nat.le_refl _) _).trans (hB.mono (by simp))⟩; rw [HL.out]; unfold Pl.minJ; first | rw [if_pos (by assumption)] | rw [if_neg (by omega)])
set_option maxRecDepth 100000 in
set_option maxHeartbeats 4000000 in
theorem refIn_any (x : Tm) (a : Option Addr) (c : Nat) (l : List Tm) (w : World) (H : za1 w a l) (n : Nat) (hn : l.length = n) (b : Bool) (hb : decide (x ∈ l) = b) :
 Calls Try.prog 47 #[.agg #[.int .i64 x.1, .int .i64 x.2], .slice a n c] w fun e w' => e = .returned (.bool b) ∧ Below w.heap.size w w' := by
 obtain ⟨W0, hW0⟩ : ∃ W0, w.alloc (.cells #[.int .i64 x.1, .int .i64 x.2] 78) = W0 := ⟨_, rfl⟩
 have hX : Box W0 w.heap.size 78 [.int .i64 x.1, .int .i64 x.2] := by rw [← hW0]; exact Box.new w 78 [.int .i64 x.1, .int .i64 x.2]
 have b0 : Below w.heap.size w W0 := by rw [← hW0]; exact zaa (Below.refl _ _) _
 have hb1 : n ≤ 9223372036854775807 := by have := H.1; unfold maxLen at this; omega
 have HS : Hid (za1 W0 a l ∧ Below w.heap.size w W0 ∧ Box W0 w.heap.size 78 [.int .i64 x.1, .int .i64 x.2] ∧ l.length = n ∧ decide (x ∈ l) = b) := ⟨H.later b0, b0, hX, hn, hb⟩
 obtain ⟨x1, hx1⟩ : ∃ y, x.1 = y := ⟨_, rfl⟩
 obtain ⟨x2, hx2⟩ : ∃ y, x.2 = y := ⟨_, rfl⟩
 have HXX : Hid (x.1 = x1 ∧ x.2 = x2) := ⟨hx1, hx2⟩
 rw [hx1, hx2] at HS hW0 ⊢
 clear hX b0 hn hb H hx1 hx2
 go_enter Try.func47, Try.ntmps47
 go_wp2_with fail
 try rw [hW0]
 clear hW0
 go_loopw [5] (fun vj wr => ∃ j : Nat, vj = .int .i64 (j : Int) ∧ j ≤ n ∧ Hid (Below W0.heap.size W0 wr ∧ ∀ i, i < j → l[i]? ≠ some x)) (fun vj _ => n - (intOf vj).toNat)
 case atStart => exact ⟨0, rfl, Nat.zero_le _, Below.refl _ _, fun i hi => by omega⟩
 case round =>
  obtain ⟨j, rfl, hj, HR⟩ := hrel
  by_cases hlt : j < n
  · have hlt' : (j : Int) < (n : Int) := by omega
    obtain ⟨bb, o, ka, e1, e2⟩ := (HS.out.1.later HR.out.1).2 j (by rw [HS.out.2.2.2.1]; exact hlt)
    subst ka
    obtain ⟨y, hy⟩ : ∃ y, l[j]? = some y := ⟨_, List.getElem?_eq_getElem (by rw [HS.out.2.2.2.1]; exact hlt)⟩
    rw [hy] at e1 e2
    simp only [Option.getD_some] at e1 e2
    obtain ⟨f, hf⟩ : ∃ f, y.1 = f := ⟨_, rfl⟩
    obtain ⟨t, ht⟩ : ∃ t, y.2 = t := ⟨_, rfl⟩
    rw [hf] at e1
    rw [ht] at e2
    have hyx : y = x ↔ f = x1 ∧ t = x2 := by
     obtain ⟨g1, g2⟩ := HXX.out
     rw [← hf, ← ht, ← g1, ← g2]
     exact ⟨fun h => by rw [h]; exact ⟨rfl, rfl⟩, fun h => Prod.ext h.1 h.2⟩
    clear hf ht
    by_cases q1 : f = x1
    · by_cases q2 : t = x2
      · have HY : Hid (x = y) := (hyx.2 ⟨q1, q2⟩).symm
        clear hyx
        subst q1; subst q2
        have c0 := (HS.out.2.2.1.later HR.out.1).cell 0 rfl
        have c1 := (HS.out.2.2.1.later HR.out.1).cell 1 rfl
        obtain ⟨S, hS⟩ : ∃ S : World → Prop, S = fun W => W.cell? ⟨w.heap.size, 0, none⟩ = some (.int .i64 f) ∧ W.cell? ⟨w.heap.size, 1, none⟩ = some (.int .i64 t) ∧ W.cell? ⟨bb, o + j * 2, none⟩ = some (.int .i64 f) ∧ W.cell? ⟨bb, o + j * 2 + 1, none⟩ = some (.int .i64 t) := ⟨_, rfl⟩
        have HSK : Hid (∀ W, Below wr.heap.size wr W → S W) := fun W hW => by
         rw [hS]
         exact ⟨(hW.cell (p := ⟨_, _, none⟩) (zac c0)).trans c0, (hW.cell (p := ⟨_, _, none⟩) (zac c1)).trans c1, (hW.cell (p := ⟨_, _, none⟩) (zac e1)).trans e1, (hW.cell (p := ⟨_, _, none⟩) (zac e2)).trans e2⟩
        clear e1 e2 c0 c1
        go_wp2_with fail
        as_aux_lemma =>
         obtain ⟨y0, y1, y2, y3, y4, y5⟩ : (∀ {ps} (ev : EV), ev (.tmp 1) = .slice (some ⟨bb, o, none⟩) n c → Yl Try.prog S ev { dst := some 12, op := .move (.tmp 1), type := 25, pos := ps, after := #[], guard := none } ((.slice (some ⟨bb, o, none⟩) n c))) ∧ (∀ {ps} (ev : EV), ev (.tmp 5) = .int .i64 (j : Int) → Yl Try.prog S ev { dst := some 13, op := .move (.tmp 5), type := 3, pos := ps, after := #[], guard := none } ((.int .i64 (j : Int)))) ∧ (∀ {ps} (ev : EV), ev (.tmp 12) = .slice (some ⟨bb, o, none⟩) n c → ev (.tmp 13) = .int .i64 (j : Int) → Yl Try.prog S ev { dst := some 14, op := .indexAddr 25 (.tmp 12) (.tmp 13), type := 0, pos := ps, after := #[{ on := 0, ground := .data }, { on := 1, ground := .data }], guard := none } ((.pointer (some ⟨bb, o + j * 2, none⟩)))) ∧ (∀ {ps} (ev : EV), ev (.tmp 14) = .pointer (some ⟨bb, o + j * 2, none⟩) → Yl Try.prog S ev { dst := some 15, op := .load 78 (.tmp 14), type := 78, pos := ps, after := #[{ on := 2, ground := .data }], guard := none } ((.agg #[.int .i64 f, .int .i64 t]))) ∧ (∀ {ps} (ev : EV), ev (.tmp 2) = .pointer (some ⟨w.heap.size, 0, none⟩) → Yl Try.prog S ev { dst := some 16, op := .load 78 (.tmp 2), type := 78, pos := ps, after := #[], guard := none } ((.agg #[.int .i64 f, .int .i64 t]))) ∧ (∀ {ps} (ev : EV), ev (.tmp 15) = .agg #[.int .i64 f, .int .i64 t] → ev (.tmp 16) = .agg #[.int .i64 f, .int .i64 t] → Yl Try.prog S ev { dst := some 17, op := .binOp .eql 78 (.tmp 15) (.tmp 16) 78, type := 4, pos := ps, after := #[{ on := 3, ground := .data }, { on := 4, ground := .data }], guard := none } ((.bool true))) := by
          refine ⟨?_, ?_, ?_, ?_, ?_, ?_⟩ <;> (intros; intro W hSw; rw [hS] at hSw; (try dsimp only at hSw); go_simp <;> with_reducible rfl)
         refine zdf (fun W' => S W' ∧ Below wr.heap.size wr W') (by kernel_rfl) (by kernel_rfl) ?hC ?_
         case hC => exact ⟨HSK.out _ (Below.drew (Below.refl _ _)), Below.drew (Below.refl _ _)⟩
         refine zag (by kernel_rfl) (fun W hW => y0 _ rfl W hW.1) ?_
         try simp only [Act.put, qA, qZ, qS]
         refine zag (by kernel_rfl) (fun W hW => y1 _ rfl W hW.1) ?_
         try simp only [Act.put, qA, qZ, qS]
         refine zag (by kernel_rfl) (fun W hW => y2 _ rfl rfl W hW.1) ?_
         try simp only [Act.put, qA, qZ, qS]
         refine zag (by kernel_rfl) (fun W hW => y3 _ rfl W hW.1) ?_
         try simp only [Act.put, qA, qZ, qS]
         refine zag (by kernel_rfl) (fun W hW => y4 _ rfl W hW.1) ?_
         try simp only [Act.put, qA, qZ, qS]
         refine zag (by kernel_rfl) (fun W hW => y5 _ rfl rfl W hW.1) ?_
         try simp only [Act.put, qA, qZ, qS]
         refine zcf ?_
         intro W5 hC5
         have HB5 : Hid (Below W0.heap.size W0 W5) := Below.on HR.out.1 hC5.2
         clear y0 y1 y2 y3 y4 y5 hC5 HSK
         have hbt : b = true := by rw [← HS.out.2.2.2.2, HY.out]; exact decide_eq_true (List.mem_of_getElem? hy)
         go_wp2_with fail
         go_ret
         exact ⟨by first | rfl | exact zaw hbt.symm, Below.on HS.out.2.1 HB5.out⟩
      · have HY : Hid (¬ y = x) := fun h => q2 (hyx.1 h).2
        clear hyx
        subst q1
        have c0 := (HS.out.2.2.1.later HR.out.1).cell 0 rfl
        have c1 := (HS.out.2.2.1.later HR.out.1).cell 1 rfl
        obtain ⟨S, hS⟩ : ∃ S : World → Prop, S = fun W => W.cell? ⟨w.heap.size, 0, none⟩ = some (.int .i64 f) ∧ W.cell? ⟨w.heap.size, 1, none⟩ = some (.int .i64 x2) ∧ W.cell? ⟨bb, o + j * 2, none⟩ = some (.int .i64 f) ∧ W.cell? ⟨bb, o + j * 2 + 1, none⟩ = some (.int .i64 t) := ⟨_, rfl⟩
        have HSK : Hid (∀ W, Below wr.heap.size wr W → S W) := fun W hW => by
         rw [hS]
         exact ⟨(hW.cell (p := ⟨_, _, none⟩) (zac c0)).trans c0, (hW.cell (p := ⟨_, _, none⟩) (zac c1)).trans c1, (hW.cell (p := ⟨_, _, none⟩) (zac e1)).trans e1, (hW.cell (p := ⟨_, _, none⟩) (zac e2)).trans e2⟩
        clear e1 e2 c0 c1
        go_wp2_with fail
        as_aux_lemma =>
         obtain ⟨y0, y1, y2, y3, y4, y5⟩ : (∀ {ps} (ev : EV), ev (.tmp 1) = .slice (some ⟨bb, o, none⟩) n c → Yl Try.prog S ev { dst := some 12, op := .move (.tmp 1), type := 25, pos := ps, after := #[], guard := none } ((.slice (some ⟨bb, o, none⟩) n c))) ∧ (∀ {ps} (ev : EV), ev (.tmp 5) = .int .i64 (j : Int) → Yl Try.prog S ev { dst := some 13, op := .move (.tmp 5), type := 3, pos := ps, after := #[], guard := none } ((.int .i64 (j : Int)))) ∧ (∀ {ps} (ev : EV), ev (.tmp 12) = .slice (some ⟨bb, o, none⟩) n c → ev (.tmp 13) = .int .i64 (j : Int) → Yl Try.prog S ev { dst := some 14, op := .indexAddr 25 (.tmp 12) (.tmp 13), type := 0, pos := ps, after := #[{ on := 0, ground := .data }, { on := 1, ground := .data }], guard := none } ((.pointer (some ⟨bb, o + j * 2, none⟩)))) ∧ (∀ {ps} (ev : EV), ev (.tmp 14) = .pointer (some ⟨bb, o + j * 2, none⟩) → Yl Try.prog S ev { dst := some 15, op := .load 78 (.tmp 14), type := 78, pos := ps, after := #[{ on := 2, ground := .data }], guard := none } ((.agg #[.int .i64 f, .int .i64 t]))) ∧ (∀ {ps} (ev : EV), ev (.tmp 2) = .pointer (some ⟨w.heap.size, 0, none⟩) → Yl Try.prog S ev { dst := some 16, op := .load 78 (.tmp 2), type := 78, pos := ps, after := #[], guard := none } ((.agg #[.int .i64 f, .int .i64 x2]))) ∧ (∀ {ps} (ev : EV), ev (.tmp 15) = .agg #[.int .i64 f, .int .i64 t] → ev (.tmp 16) = .agg #[.int .i64 f, .int .i64 x2] → Yl Try.prog S ev { dst := some 17, op := .binOp .eql 78 (.tmp 15) (.tmp 16) 78, type := 4, pos := ps, after := #[{ on := 3, ground := .data }, { on := 4, ground := .data }], guard := none } ((.bool false))) := by
          refine ⟨?_, ?_, ?_, ?_, ?_, ?_⟩ <;> (intros; intro W hSw; rw [hS] at hSw; (try dsimp only at hSw); go_simp <;> with_reducible rfl)
         refine zdf (fun W' => S W' ∧ Below wr.heap.size wr W') (by kernel_rfl) (by kernel_rfl) ?hC ?_
         case hC => exact ⟨HSK.out _ (Below.drew (Below.refl _ _)), Below.drew (Below.refl _ _)⟩
         refine zag (by kernel_rfl) (fun W hW => y0 _ rfl W hW.1) ?_
         try simp only [Act.put, qA, qZ, qS]
         refine zag (by kernel_rfl) (fun W hW => y1 _ rfl W hW.1) ?_
         try simp only [Act.put, qA, qZ, qS]
         refine zag (by kernel_rfl) (fun W hW => y2 _ rfl rfl W hW.1) ?_
         try simp only [Act.put, qA, qZ, qS]
         refine zag (by kernel_rfl) (fun W hW => y3 _ rfl W hW.1) ?_
         try simp only [Act.put, qA, qZ, qS]
         refine zag (by kernel_rfl) (fun W hW => y4 _ rfl W hW.1) ?_
         try simp only [Act.put, qA, qZ, qS]
         refine zag (by kernel_rfl) (fun W hW => y5 _ rfl rfl W hW.1) ?_
         try simp only [Act.put, qA, qZ, qS]
         refine zcf ?_
         intro W5 hC5
         have HB5 : Hid (Below W0.heap.size W0 W5) := Below.on HR.out.1 hC5.2
         clear y0 y1 y2 y3 y4 y5 hC5 HSK
         go_wp2_with fail
         go_roundw
         case rel =>
          refine ⟨j + 1, by go_num, by omega, HB5.out, fun i hi => ?_⟩
          rcases Nat.lt_or_ge i j with h | h
          · exact HR.out.2 i h
          · obtain rfl : i = j := by omega
            rw [hy]
            intro e
            injection e with e
            exact HY.out e
         case measure => simp [intOf]; omega
    · have HY : Hid (¬ y = x) := fun h => q1 (hyx.1 h).1
      clear hyx
      have c0 := (HS.out.2.2.1.later HR.out.1).cell 0 rfl
      have c1 := (HS.out.2.2.1.later HR.out.1).cell 1 rfl
      obtain ⟨S, hS⟩ : ∃ S : World → Prop, S = fun W => W.cell? ⟨w.heap.size, 0, none⟩ = some (.int .i64 x1) ∧ W.cell? ⟨w.heap.size, 1, none⟩ = some (.int .i64 x2) ∧ W.cell? ⟨bb, o + j * 2, none⟩ = some (.int .i64 f) ∧ W.cell? ⟨bb, o + j * 2 + 1, none⟩ = some (.int .i64 t) := ⟨_, rfl⟩
      have HSK : Hid (∀ W, Below wr.heap.size wr W → S W) := fun W hW => by
       rw [hS]
       exact ⟨(hW.cell (p := ⟨_, _, none⟩) (zac c0)).trans c0, (hW.cell (p := ⟨_, _, none⟩) (zac c1)).trans c1, (hW.cell (p := ⟨_, _, none⟩) (zac e1)).trans e1, (hW.cell (p := ⟨_, _, none⟩) (zac e2)).trans e2⟩
      clear e1 e2 c0 c1
      go_wp2_with fail
      as_aux_lemma =>
       obtain ⟨y0, y1, y2, y3, y4, y5⟩ : (∀ {ps} (ev : EV), ev (.tmp 1) = .slice (some ⟨bb, o, none⟩) n c → Yl Try.prog S ev { dst := some 12, op := .move (.tmp 1), type := 25, pos := ps, after := #[], guard := none } ((.slice (some ⟨bb, o, none⟩) n c))) ∧ (∀ {ps} (ev : EV), ev (.tmp 5) = .int .i64 (j : Int) → Yl Try.prog S ev { dst := some 13, op := .move (.tmp 5), type := 3, pos := ps, after := #[], guard := none } ((.int .i64 (j : Int)))) ∧ (∀ {ps} (ev : EV), ev (.tmp 12) = .slice (some ⟨bb, o, none⟩) n c → ev (.tmp 13) = .int .i64 (j : Int) → Yl Try.prog S ev { dst := some 14, op := .indexAddr 25 (.tmp 12) (.tmp 13), type := 0, pos := ps, after := #[{ on := 0, ground := .data }, { on := 1, ground := .data }], guard := none } ((.pointer (some ⟨bb, o + j * 2, none⟩)))) ∧ (∀ {ps} (ev : EV), ev (.tmp 14) = .pointer (some ⟨bb, o + j * 2, none⟩) → Yl Try.prog S ev { dst := some 15, op := .load 78 (.tmp 14), type := 78, pos := ps, after := #[{ on := 2, ground := .data }], guard := none } ((.agg #[.int .i64 f, .int .i64 t]))) ∧ (∀ {ps} (ev : EV), ev (.tmp 2) = .pointer (some ⟨w.heap.size, 0, none⟩) → Yl Try.prog S ev { dst := some 16, op := .load 78 (.tmp 2), type := 78, pos := ps, after := #[], guard := none } ((.agg #[.int .i64 x1, .int .i64 x2]))) ∧ (∀ {ps} (ev : EV), ev (.tmp 15) = .agg #[.int .i64 f, .int .i64 t] → ev (.tmp 16) = .agg #[.int .i64 x1, .int .i64 x2] → Yl Try.prog S ev { dst := some 17, op := .binOp .eql 78 (.tmp 15) (.tmp 16) 78, type := 4, pos := ps, after := #[{ on := 3, ground := .data }, { on := 4, ground := .data }], guard := none } ((.bool false))) := by
        refine ⟨?_, ?_, ?_, ?_, ?_, ?_⟩ <;> (intros; intro W hSw; rw [hS] at hSw; (try dsimp only at hSw); go_simp <;> with_reducible rfl)
       refine zdf (fun W' => S W' ∧ Below wr.heap.size wr W') (by kernel_rfl) (by kernel_rfl) ?hC ?_
       case hC => exact ⟨HSK.out _ (Below.drew (Below.refl _ _)), Below.drew (Below.refl _ _)⟩
       refine zag (by kernel_rfl) (fun W hW => y0 _ rfl W hW.1) ?_
       try simp only [Act.put, qA, qZ, qS]
       refine zag (by kernel_rfl) (fun W hW => y1 _ rfl W hW.1) ?_
       try simp only [Act.put, qA, qZ, qS]
       refine zag (by kernel_rfl) (fun W hW => y2 _ rfl rfl W hW.1) ?_
       try simp only [Act.put, qA, qZ, qS]
       refine zag (by kernel_rfl) (fun W hW => y3 _ rfl W hW.1) ?_
       try simp only [Act.put, qA, qZ, qS]
       refine zag (by kernel_rfl) (fun W hW => y4 _ rfl W hW.1) ?_
       try simp only [Act.put, qA, qZ, qS]
       refine zag (by kernel_rfl) (fun W hW => y5 _ rfl rfl W hW.1) ?_
       try simp only [Act.put, qA, qZ, qS]
       refine zcf ?_
       intro W5 hC5
       have HB5 : Hid (Below W0.heap.size W0 W5) := Below.on HR.out.1 hC5.2
       clear y0 y1 y2 y3 y4 y5 hC5 HSK
       go_wp2_with fail
       go_roundw
       case rel =>
        refine ⟨j + 1, by go_num, by omega, HB5.out, fun i hi => ?_⟩
        rcases Nat.lt_or_ge i j with h | h
        · exact HR.out.2 i h
        · obtain rfl : i = j := by omega
          rw [hy]
          intro e
          injection e with e
          exact HY.out e
       case measure => simp [intOf]; omega
  · obtain rfl : j = n := by omega
    have hge : ¬ ((j : Int) < (j : Int)) := by omega
    have hbf : b = false := by
     rw [← HS.out.2.2.2.2]
     apply decide_eq_false
     intro hm
     obtain ⟨i, hi, e⟩ := List.getElem_of_mem hm
     exact HR.out.2 i (by rw [HS.out.2.2.2.1] at hi; exact hi) (by rw [List.getElem?_eq_getElem hi, e])
    go_wp2_with fail
    go_ret
    exact ⟨by first | rfl | exact zaw hbf.symm, Below.on HS.out.2.1 HR.out.1⟩
end Go.Proofs.Ytkigcdmlkmcdcaa

