/- The contract of wire.Put. -/
import Derived.Test.YtllmeeebjjmanaaDoorCheck
namespace Go.Proofs.YtllmeeebjjmanaaDoor
open Go.ChangeShapes Go.WideShapes Go.ChangeAt Go.RowKit Go.Shelf
set_option linter.unusedVariables false

/-- The cells of a variable that holds a segment, in a later world. -/
structure BoxAt (wr : World) (p : Nat) (s : Seg) (ka : Option Addr) (kc : Nat) (da : Option Addr) (dc : Nat) : Prop where
  c0 : wr.cell? ⟨p, 0, none⟩ = some (.int .i64 s.sp)
  c1 : wr.cell? ⟨p, 1, none⟩ = some (.int .i64 s.dp)
  c2 : wr.cell? ⟨p, 2, none⟩ = some (.int .u32 s.sq)
  c3 : wr.cell? ⟨p, 3, none⟩ = some (.int .u32 s.ak)
  c4 : wr.cell? ⟨p, 4, none⟩ = some (.int .i64 s.fl)
  c5 : wr.cell? ⟨p, 5, none⟩ = some (.int .i64 s.wn)
  c6 : wr.cell? ⟨p, 6, none⟩ = some (.int .i64 s.ur)
  c7 : wr.cell? ⟨p, 7, none⟩ = some (.int .i64 s.ms)
  c8 : wr.cell? ⟨p, 8, none⟩ = some (.int .i64 s.sc)
  c9 : wr.cell? ⟨p, 9, none⟩ = some (.bool s.so)
  c10 : wr.cell? ⟨p, 10, none⟩ = some (.bool s.st)
  c11 : wr.cell? ⟨p, 11, none⟩ = some (.int .u32 s.va)
  c12 : wr.cell? ⟨p, 12, none⟩ = some (.int .u32 s.ec)
  c13 : wr.cell? ⟨p, 13, none⟩ = some (.slice ka s.sk.length kc)
  c14 : wr.cell? ⟨p, 14, none⟩ = some (.slice da s.da.length dc)

theorem boxAt_of {wr : World} {p : Nat} {s : Seg} {ka : Option Addr} {kc : Nat} {da : Option Addr} {dc : Nat} (h : wr.heap[p]? = some (.cells (segV s ka kc da dc) 26)) : BoxAt wr p s ka kc da dc := by
  have hc : ∀ k, wr.cell? ⟨p, k, none⟩ = (segV s ka kc da dc)[k]? := fun k => by simp [World.cell?, h]
  exact ⟨hc 0, hc 1, hc 2, hc 3, hc 4, hc 5, hc 6, hc 7, hc 8, hc 9, hc 10, hc 11, hc 12, hc 13, hc 14⟩

theorem block_keep {w w' : World} {p : Nat} {o : Obj} (h : w.heap[p]? = some o) {B : Nat} (hb : Below B w w') (hB : w.heap.size ≤ B) : w'.heap[p]? = some o :=
  (hb.block p (by have := (Array.getElem?_eq_some_iff.1 h).1; omega)).trans h

theorem Row.cases {w : World} {B : Nat} {va : Option Addr} {L vc : Nat} {bs : List Int} (h : Row w B va L vc bs) : (va = none ∧ L = 0 ∧ vc = 0 ∧ bs = []) ∨ ∃ g, va = some ⟨g, 0, none⟩ := by
  have hl := h.len
  rcases h.2 with ⟨e, h0⟩ | ⟨g, c, cur, e, _⟩
  · cases e
    exact .inl ⟨rfl, rfl, rfl, List.eq_nil_of_length_eq_zero hl⟩
  · cases e
    exact .inr ⟨g, rfl⟩

theorem news_all {w : World} {x : Addr} {bs : List Int} (h : BytesAt w (some x) bs) : ∀ j u, (bs.map (Value.int .u8))[j]? = some u → w.cell? (x.add j) = some u := by
  intro j u hj
  have hjl : j < bs.length := by
    rcases Nat.lt_or_ge j bs.length with h | h
    · exact h
    · rw [List.getElem?_eq_none (by simpa using h)] at hj; cases hj
  obtain ⟨b, o, e, hc⟩ := h.2.2 j hjl
  cases e
  exact h.news j u hj

set_option maxRecDepth 100000 in
set_option maxHeartbeats 1000000 in
theorem put_no (s : Seg) (ka : Option Addr) (kc : Nat) (da : Option Addr) (dc : Nat) (src dst : Int) (w : World) (a0 a1 a2 : Addr) (hE : Errs w a0 a1 a2) (hs : SegIn w s ka da) (hc : ¬ ChkI s) :
    Calls Tryd.prog 9 #[.agg (segV s ka kc da dc), .int .u32 src, .int .u32 dst] w fun e w' => e = .returned (.tuple #[.slice none 0 0, .int .i64 2]) ∧ Below w.heap.size w w' := by
  obtain ⟨W0, hW0⟩ : ∃ W0, w.alloc (.cells (segV s ka kc da dc) 26) = W0 := ⟨_, rfl⟩
  have hblk : W0.heap[w.heap.size]? = some (.cells (segV s ka kc da dc) 26) := by rw [← hW0]; exact World.alloc_heap_new w _
  have b0 : Below w.heap.size w W0 := by rw [← hW0]; exact (Below.refl _ w).alloc (Nat.le_refl _) _
  have hk := check_any s ka kc da dc W0 a0 a1 a2 (hE.below b0 (Nat.le_refl _)) (hs.below b0 (Nat.le_refl _))
  obtain ⟨c0, c1, c2, c3, c4, c5, c6, c7, c8, c9, c10, c11, c12, c13, c14⟩ := boxAt_of hblk
  have HK : Hid (Calls Tryd.prog 13 #[.agg (segV s ka kc da dc)] W0 fun e w' => ((ChkI s ∧ e = .returned (.int .i64 0)) ∨ (¬ ChkI s ∧ e = .returned (.int .i64 2))) ∧ Below W0.heap.size W0 w') := hk
  clear hk hblk hE hs
  unfold segV at *
  go_enter Tryd.func9, Tryd.ntmps9
  go_wp2_with fail
  refine HK.out.mono ?_
  rintro e w1 ⟨he, hB1⟩
  rcases he with ⟨hn, _⟩ | ⟨_, rfl⟩
  · exact absurd hn hc
  go_wp2_with fail
  go_ret2
  exact ⟨rfl, b0.trans (hB1.mono b0.size)⟩

set_option maxRecDepth 100000 in
set_option maxHeartbeats 4000000 in
theorem put_ok (s : Seg) (ka : Option Addr) (kc : Nat) (da : Option Addr) (dc : Nat) (src dst : Int) (w : World) (a0 a1 a2 : Addr) (hE : Errs w a0 a1 a2) (hs : SegIn w s ka da) (hc : ChkI s) (hdc : da = none → dc = 0) (hsrc : U32 src) (hdst : U32 dst) :
    Calls Tryd.prog 9 #[.agg (segV s ka kc da dc), .int .u32 src, .int .u32 dst] w fun e w' => ∃ va vc, e = .returned (.tuple #[.slice va (putI s src dst).length vc, .int .i64 0]) ∧ Row w' w.heap.size va (putI s src dst).length vc (putI s src dst) ∧ Below w.heap.size w w' := by
  obtain ⟨i0, hi, hz0, hz1, hz2⟩ := info_parts Tryd.info5
  obtain ⟨W0, hW0⟩ : ∃ W0, w.alloc (.cells (segV s ka kc da dc) 26) = W0 := ⟨_, rfl⟩
  have hsz : W0.heap.size = w.heap.size + 1 := by rw [← hW0]; simp
  have hblk : W0.heap[w.heap.size]? = some (.cells (segV s ka kc da dc) 26) := by rw [← hW0]; exact World.alloc_heap_new w _
  have b0 : Below w.heap.size w W0 := by rw [← hW0]; exact (Below.refl _ w).alloc (Nat.le_refl _) _
  have hs0 := hs.below b0 (Nat.le_refl _)
  have hk := check_any s ka kc da dc W0 a0 a1 a2 (hE.below b0 (Nat.le_refl _)) hs0
  obtain ⟨c0, c1, c2, c3, c4, c5, c6, c7, c8, c9, c10, c11, c12, c13, c14⟩ := boxAt_of hblk
  have HK : Hid (Calls Tryd.prog 13 #[.agg (segV s ka kc da dc)] W0 fun e w' => ((ChkI s ∧ e = .returned (.int .i64 0)) ∨ (¬ ChkI s ∧ e = .returned (.int .i64 2))) ∧ Below W0.heap.size W0 w') := hk
  have HC : Hid (ChkI s) := hc
  have HBLK : Hid (W0.heap[w.heap.size]? = some (.cells (segV s ka kc da dc) 26)) := hblk
  have HS0 : Hid (SegIn W0 s ka da) := hs0
  have HS : Hid (U32 src ∧ U32 dst) := ⟨hsrc, hdst⟩
  clear hk hblk hE hs hs0 hc hsrc hdst
  have hseg : Hid (segV s ka kc da dc = #[.int .i64 s.sp, .int .i64 s.dp, .int .u32 s.sq, .int .u32 s.ak, .int .i64 s.fl, .int .i64 s.wn, .int .i64 s.ur, .int .i64 s.ms, .int .i64 s.sc, .bool s.so, .bool s.st, .int .u32 s.va, .int .u32 s.ec, .slice ka s.sk.length kc, .slice da s.da.length dc]) := rfl
  unfold segV at *
  go_enter Tryd.func9, Tryd.ntmps9
  go_wp2_with fail
  refine HK.out.mono ?_
  rintro e w1 ⟨he, hB1⟩
  have hblk1 := block_keep HBLK.out hB1 (Nat.le_refl _)
  rcases he with ⟨_, rfl⟩ | ⟨hn, _⟩
  case inr => exact absurd HC.out hn
  clear c0 c1 c2 c3 c4 c5 c6 c7 c8 c9 c10 c11 c12 c13 c14 hW0
  obtain ⟨c0, c1, c2, c3, c4, c5, c6, c7, c8, c9, c10, c11, c12, c13, c14⟩ := boxAt_of hblk1
  have HBLK1 : Hid (w1.heap[w.heap.size]? = some (.cells (segV s ka kc da dc) 26)) := hblk1
  have HS1 : Hid (SegIn w1 s ka da) := HS0.out.below hB1 (Nat.le_refl _)
  have HB1 : Hid (Below w.heap.size w w1) := b0.trans (hB1.mono b0.size)
  have hz1' := hB1.size
  clear hblk1 hB1 b0 HBLK HS0 HK
  go_wp2_with fail
  have hopt := options_any s ka kc da dc w1 HS1.out (by have := HC.out.2.2.2.2.2.2.2.2.2.1; omega)
  unfold segV at hopt
  refine hopt.mono ?_
  clear hopt
  rintro e w2 ⟨oa, oc, rfl, hRo, hB2⟩
  obtain ⟨os, hos⟩ : ∃ os, optI s = os := ⟨_, rfl⟩
  rw [hos] at hRo ⊢
  obtain ⟨ol, hol⟩ : ∃ ol, os.length = ol := ⟨_, rfl⟩
  rw [hol] at hRo ⊢
  have hol40 : ol ≤ 40 := by rw [← hol, ← hos]; exact HC.out.2.2.2.2.2.2.2.2.2.2
  have hol4 : ol % 4 = 0 := by rw [← hol, ← hos]; exact opt_len4 s
  have HOS : Hid (optI s = os ∧ os.length = ol ∧ Byts os) := ⟨hos, hol, by rw [← hos]; exact opt_byts HS1.out.ok⟩
  have HRo : Hid (Row w2 w1.heap.size oa ol oc os) := hRo
  have hblk2 := block_keep HBLK1.out hB2 (Nat.le_refl _)
  clear c0 c1 c2 c3 c4 c5 c6 c7 c8 c9 c10 c11 c12 c13 c14 hos hol hRo
  have HBLK2 : Hid (w2.heap[w.heap.size]? = some (.cells (segV s ka kc da dc) 26)) := hblk2
  have HS2 : Hid (SegIn w2 s ka da) := HS1.out.below hB2 (Nat.le_refl _)
  have HB2 : Hid (Below w.heap.size w w2) := HB1.out.trans (hB2.mono HB1.out.size)
  have hz2' : w.heap.size + 1 ≤ w2.heap.size := by have := hB2.size; omega
  have BX : Hid (∀ wr, Below w2.heap.size w2 wr → BoxAt wr w.heap.size s ka kc da dc) := fun wr h => boxAt_of (block_keep hblk2 h (Nat.le_refl _))
  have hdl : s.da.length ≤ 65000 := HC.out.2.2.2.2.2.2.2.2.1
  obtain ⟨dl, hdl'⟩ : ∃ dl, s.da.length = dl := ⟨_, rfl⟩
  rw [hdl'] at hdl
  have HDL : Hid (s.da.length = dl) := hdl'
  have c14 := (BX.out _ (Below.refl _ _)).c14
  rw [hdl'] at c14
  clear hblk2 hB2 HBLK1 HS1 HB1 hz1' hdl'
  clear hsz
  go_wp2_with (at_make; refine wpList_make_own _ rfl _ _ 24 rfl w2.heap.size 5 i0 (.int .u8 0) 1 Tryd.underlying24 hi hz0 hz1 .i64 .i64 (20 + (ol : Int) + (dl : Int)) (20 + ol + dl) rfl rfl (by omega) (by rw [hz2]; omega) (by unfold maxLen; omega) (Nat.le_refl _) ?_; intro w3 hown3 hg3; have hb3 : Below w2.heap.size w2 w3 := (Below.refl _ _).grown hg3 (Nat.le_refl _) (fun k e => by cases e); have hR3 : Row w3 w2.heap.size (some ⟨w2.heap.size, 0, none⟩) 0 (20 + ol + dl) [] := hown3; have c0 := (BX.out _ hb3).c0; clear hown3 hg3 c14)
  refine (appWord _ w2.heap.size _ _ _ _ _ hR3 hb3.size (by omega) HS2.out.i0).mono ?_
  rintro e w4 ⟨v4, n4, rfl, hR4, hc4, _⟩
  have hb4 := hb3.trans hc4
  have c1' := (BX.out _ hb4).c1
  clear hR3 hb3 hc4 c0
  go_wp2_with fail
  refine (appWord _ w2.heap.size _ _ _ _ _ hR4 hb4.size (by omega) HS2.out.i1).mono ?_
  rintro e w5 ⟨v5, n5, rfl, hR5, hc5, _⟩
  have hb5 := hb4.trans hc5
  have c2' := (BX.out _ hb5).c2
  clear hR4 hb4 hc5 c1'
  go_wp2_with fail
  refine (appLong _ w2.heap.size _ _ _ _ _ hR5 hb5.size (by omega) HS2.out.ok.sq).mono ?_
  rintro e w6 ⟨v6, n6, rfl, hR6, hc6, _⟩
  have hb6 := hb5.trans hc6
  have c3' := (BX.out _ hb6).c3
  clear hR5 hb5 hc6 c2'
  go_wp2_with fail
  refine (appLong _ w2.heap.size _ _ _ _ _ hR6 hb6.size (by omega) HS2.out.ok.ak).mono ?_
  rintro e w7 ⟨v7, n7, rfl, hR7, hc7, _⟩
  have hb7 := hb6.trans hc7
  have c4' := (BX.out _ hb7).c4
  clear hR6 hb6 hc7 c3'
  obtain ⟨hfl0, hfl1⟩ := HC.out.2.2.2.2.1
  have oR := hR7.alloc (.cells ([16 * (5 + (ol : Int) / 4), s.fl].map (Value.int .u8)).toArray 5)
  have hs7 := hb7.size
  go_wp2_with (at_builtin; refine wpList_append_own _ rfl (.tmp 43) (.tmp 53) 24 rfl w2.heap.size 5 i0 (.int .u8 0) 1 1 Tryd.underlying24 hi hz0 hz1 hz2 rfl (by decide) _ 12 _ rfl oR ⟨w7.heap.size, 0, none⟩ 2 2 ([16 * (5 + (ol : Int) / 4), s.fl].map (Value.int .u8)) rfl rfl (cells_new w7 ([16 * (5 + (ol : Int) / 4), s.fl].map (Value.int .u8)) 5) (ints_one _ _) (by decide) (by decide) (by simp; omega) ?_; intro v8' w8 hown8 hg8 _; have hb8 : Below w2.heap.size w2 w8 := below_append (hb7.alloc hs7 _) (by simp; omega) oR hg8; rw [← List.map_append] at hown8; obtain ⟨v8, n8, rfl, hR8⟩ := row_of hown8; have c5' := (BX.out _ hb8).c5; clear hown8 hg8)
  clear oR hs7 hR7 hb7 c4' hfl0 hfl1
  refine (appWord _ w2.heap.size _ _ _ _ _ hR8 hb8.size (by omega) HS2.out.i5).mono ?_
  rintro e w9 ⟨v9, n9, rfl, hR9, hc9, _⟩
  have hb9 := hb8.trans hc9
  clear hR8 hb8 hc9 c5'
  go_wp2_with fail
  refine (appWord _ w2.heap.size _ _ _ _ _ hR9 hb9.size (by omega) (by decide)).mono ?_
  rintro e w10 ⟨v10, n10, rfl, hR10, hc10, _⟩
  have hb10 := hb9.trans hc10
  have c6' := (BX.out _ hb10).c6
  clear hR9 hb9 hc10 
  go_wp2_with fail
  refine (appWord _ w2.heap.size _ _ _ _ _ hR10 hb10.size (by omega) HS2.out.i6).mono ?_
  rintro e w11 ⟨v11, n11, rfl, hR11, hc11, _⟩
  have hb11 := hb10.trans hc11
  clear hR10 hb10 hc11 c6'
  obtain ⟨hd, hhd⟩ : ∃ hd, headI s (optI s).length = hd := ⟨_, rfl⟩
  have hR11' : Row w11 w2.heap.size v11 20 n11 hd := by rw [← hhd, HOS.out.1, HOS.out.2.1]; exact hR11
  have HHD : Hid (headI s (optI s).length = hd) := hhd
  have HR11 : Hid (Row w11 w2.heap.size v11 20 n11 hd) := hR11'
  clear hhd hR11 hR11'
  go_upto_region 14 with fail
  go_cut [10] (fun v wr => Upto w2 w2.heap.size (hd ++ os) v wr)
  case first =>
    have hb11s := hb11.size
    rcases HRo.out.cases with ⟨rfl, rfl, rfl, hnil⟩ | ⟨g, rfl⟩
    · have oR := HR11.out
      go_wp2_with (at_builtin; refine wpList_append_own_none rfl (.tmp 65) (.tmp 66) 24 rfl w2.heap.size 5 i0 1 Tryd.underlying24 hi _ 20 _ rfl oR rfl ?_)
      go_meet
      exact ⟨_, _, _, rfl, by rw [hnil, List.append_nil]; exact HR11.out, hb11⟩
    · have hby : BytesAt w11 (some ⟨g, 0, none⟩) os := (HRo.out.bytes HOS.out.2.2 (by rw [HOS.out.2.1]; unfold maxLen; omega)).below hb11 (Nat.le_refl _)
      have oR := HR11.out
      go_wp2_with (at_builtin; refine wpList_append_own _ rfl (.tmp 65) (.tmp 66) 24 rfl w2.heap.size 5 i0 (.int .u8 0) 1 1 Tryd.underlying24 hi hz0 hz1 hz2 rfl (by decide) _ 20 _ rfl oR ⟨g, 0, none⟩ ol oc (os.map (Value.int .u8)) rfl (by have := HOS.out.2.1; simpa using this) (news_all hby) (ints_one _ _) (by unfold maxLen; omega) (by omega) hb11s ?_; intro v12' w12 hown12 hg12 _; have hb12 : Below w2.heap.size w2 w12 := below_append hb11 hb11s oR hg12; rw [← List.map_append] at hown12; obtain ⟨v12, n12, rfl, hR12⟩ := row_of hown12)
      go_meet
      exact ⟨_, _, _, rfl, hR12, hb12⟩
  case rest =>
    clear hb11 HR11
    obtain ⟨v12, L12, n12, rfl, hR12, hb12⟩ := hcut
    have hL12 : L12 = 20 + ol := by rw [← hR12.len, List.length_append, ← HHD.out, head_len, HOS.out.2.1]
    subst hL12
    have HR12 : Hid (Row wc w2.heap.size v12 (20 + ol) n12 (hd ++ os)) := hR12
    have c14 := (BX.out _ hb12).c14
    rw [HDL.out] at c14
    have hb12s := hb12.size
    clear hR12
    go_upto_region 15 with fail
    go_cut [10] (fun v wr => Upto w2 w2.heap.size (hd ++ os ++ s.da) v wr)
    case first =>
      cases da with
      | none =>
        obtain rfl : dc = 0 := hdc rfl
        have hnil : Hid (s.da = []) := HS2.out.dn rfl
        obtain rfl : dl = 0 := by rw [← HDL.out, hnil.out]; rfl
        have oR := HR12.out
        go_wp2_with (at_builtin; refine wpList_append_own_none rfl (.tmp 68) (.tmp 70) 24 rfl w2.heap.size 5 i0 1 Tryd.underlying24 hi _ (20 + ol) _ rfl oR rfl ?_)
        go_meet
        exact ⟨_, _, _, rfl, by rw [hnil.out, List.append_nil]; exact HR12.out, hb12⟩
      | some x =>
        have hby : BytesAt wc (some x) s.da := HS2.out.ds.below hb12 (Nat.le_refl _)
        have oR := HR12.out
        go_wp2_with (at_builtin; refine wpList_append_own _ rfl (.tmp 68) (.tmp 70) 24 rfl w2.heap.size 5 i0 (.int .u8 0) 1 1 Tryd.underlying24 hi hz0 hz1 hz2 rfl (by decide) _ (20 + ol) _ rfl oR x dl dc (s.da.map (Value.int .u8)) rfl (by have := HDL.out; simpa using this) (news_all hby) (ints_one _ _) (by unfold maxLen; omega) (by omega) hb12s ?_; intro v13' w13 hown13 hg13 _; have hb13 : Below w2.heap.size w2 w13 := below_append hb12 hb12s oR hg13; rw [← List.map_append] at hown13; obtain ⟨v13, n13, rfl, hR13⟩ := row_of hown13)
        go_meet
        exact ⟨_, _, _, rfl, hR13, hb13⟩
    case rest =>
      clear hb12 HR12 hb12s c14
      obtain ⟨v13, L13, n13, rfl, hR13, hb13⟩ := hcut
      have hbody : hd ++ os ++ s.da = bodyI s := by rw [bodyI, HHD.out, HOS.out.1]
      rw [hbody] at hR13
      obtain ⟨N, hN⟩ : ∃ N, 20 + ol + dl = N := ⟨_, rfl⟩
      have hbl : (bodyI s).length = N := by rw [body_len, HOS.out.1, HOS.out.2.1, HDL.out, hN]
      have hL13 : L13 = N := by rw [← hR13.len, hbl]
      subst hL13
      have hNb : 20 ≤ L13 ∧ L13 ≤ 65060 := by omega
      have hyb : Byts (bodyI s) := body_byts HS2.out.ok HC.out
      obtain ⟨g, rfl, hO13⟩ := hR13.owns (by omega)
      obtain ⟨bs, hbs⟩ : ∃ bs, bodyI s = bs := ⟨_, rfl⟩
      rw [hbs] at hbl hyb hO13
      have HBS : Hid (bodyI s = bs ∧ bs.length = L13 ∧ Byts bs) := ⟨hbs, hbl, hyb⟩
      have HO13 : Hid (Owns wc w2.heap.size g n13 bs) := hO13
      clear hR13 hbody hbl hbs hyb hO13 hN
      go_wp2_with fail
      refine (pseudo_any src dst (L13 : Int) _ HS.out.1 HS.out.2).mono ?_
      rintro e w14 ⟨pa, pc, rfl, hpb, hB14⟩
      have hb14 : Below w2.heap.size w2 w14 := hb13.trans (hB14.mono hb13.size)
      have HO14 : Hid (Owns w14 w2.heap.size g n13 bs) := HO13.out.below hB14 (Nat.le_refl _)
      have hP := parts_new w14 [(pa, pseudoI src dst (L13 : Int), pc), (some ⟨g, 0, none⟩, bs, n13)] (by simp [maxLen]) (fun v hv => by
        simp only [List.mem_cons, List.not_mem_nil, or_false] at hv
        rcases hv with rfl | rfl
        · exact hpb
        · exact HO14.out.bytes HBS.out.2.2)
      have hP' : PartsAt (w14.alloc (.cells #[.slice pa 12 pc, .slice (some ⟨g, 0, none⟩) L13 n13] 24)) (some ⟨w14.heap.size, 0, none⟩) [pseudoI src dst (L13 : Int), bs] := by
        have := hP
        simp only [List.map_cons, List.map_nil, HBS.out.2.1, pseudo_len] at this
        exact this
      have HP : Hid (PartsAt (w14.alloc (.cells #[.slice pa 12 pc, .slice (some ⟨g, 0, none⟩) L13 n13] 24)) (some ⟨w14.heap.size, 0, none⟩) [pseudoI src dst (L13 : Int), bs]) := hP'
      clear hP hP' hpb hB14 hb13
      go_wp2_with fail
      refine (sum_any _ _ [pseudoI src dst (L13 : Int), bs] _ HP.out).mono ?_
      rintro e w15 ⟨he, hB15⟩
      obtain ⟨c, hc⟩ : ∃ c, sumI (pseudoI src dst (L13 : Int) ++ bs) = c := ⟨_, rfl⟩
      have he' : [pseudoI src dst (L13 : Int), bs].flatten = pseudoI src dst (L13 : Int) ++ bs := by simp
      rw [he', hc] at he
      subst he
      have hcb : 0 ≤ c ∧ c ≤ 65535 := by rw [← hc]; exact sum_bd (byts_append (pseudo_byts HS.out.1 HS.out.2) HBS.out.2.2)
      have hO15 : Owns w15 w2.heap.size g n13 bs := (HO14.out.alloc _).below hB15 (Nat.le_refl _)
      have hb15 : Below w2.heap.size w2 w15 := (hb14.alloc hb14.size _).trans (hB15.mono (by have := hb14.size; simp; omega))
      have HCC : Hid (sumI (pseudoI src dst (L13 : Int) ++ bs) = c) := hc
      have hc16 := hO15.cell 16 (by rw [HBS.out.2.1]; omega)
      have hf16 := hO15.frozen 16
      have hc17 := hO15.cell 17 (by rw [HBS.out.2.1]; omega)
      have hf17 := hO15.frozen 17
      have HO15 : Hid (Owns w15 w2.heap.size g n13 bs) := hO15
      clear hB15 hc he' hO15 HO14 HP hb14
      go_wp2_with fail
      go_ret2
      have hput : putI s src dst = (bs.set 16 (c / 256)).set 17 (c % 256) := by
        rw [putI, HBS.out.1, sealI, HBS.out.2.1, HCC.out]
      have hpl : (putI s src dst).length = L13 := by rw [hput]; simp [HBS.out.2.1]
      rw [hpl, hput]
      have hO17 := (HO15.out.set 16 (c / 256)).set 17 (c % 256)
      refine ⟨_, _, rfl, ?_, HB2.out.trans (((hb15.setCell (p := ⟨g, 16, none⟩) HO15.out.ge _).setCell (p := ⟨g, 17, none⟩) HO15.out.ge _).mono (by omega))⟩
      have hR17 : Row ((w15.setCell ⟨g, 16, none⟩ (.int .u8 (c / 256))).setCell ⟨g, 17, none⟩ (.int .u8 (c % 256))) w2.heap.size (some ⟨g, 0, none⟩) ((bs.set 16 (c / 256)).set 17 (c % 256)).length n13 ((bs.set 16 (c / 256)).set 17 (c % 256)) := hO17
      have hl17 : ((bs.set 16 (c / 256)).set 17 (c % 256)).length = L13 := by simp [HBS.out.2.1]
      rw [hl17] at hR17
      exact hR17.mono (by omega)
end Go.Proofs.YtllmeeebjjmanaaDoor
