/- The contract of the document's Set. -/
import Derived.Test.YtdmkbnbdbhggkaaApp
namespace Go.Proofs.Ytdmkbnbdbhggkaa
open Go.ChangeShapes Go.WideShapes Go.ChangeAt Go.RowKit Go.Shelf
set_option linter.unusedVariables false

theorem tims_one (w : World) (x : Tm) : TimsAt (w.alloc (.cells #[.int .i64 x.1, .int .i64 x.2] 31)) (some ⟨w.heap.size, 0, none⟩) [x] := by
  refine ⟨by simp [maxLen], fun j hj => ⟨_, _, rfl, ?_⟩⟩
  have hb := BoxT.new w x
  obtain rfl : j = 0 := by simp at hj; exact hj
  exact ⟨hb.cell0, hb.cell1⟩

/-- The three appends of the document's Set. -/
theorem set_apps (w2 : World) (va : Option Addr) (vc : Nat) (os : List Tm) (k t : Int) (B : Nat) (hR : RowT w2 B va os.length vc os) (h5 : os.length ≤ 5) (n : Nat) (hn : n ≤ os.length) :
    ∃ va3 vc3 w3 va4 vc4 w4 va5 vc5 w5,
      (Builtin.append_ #[22, 22] 22 #[.slice (some ⟨w2.heap.size, 0, none⟩) 0 0, .slice va n vc]).run Try.prog (w2.alloc (.cells #[] 31)) = .ok (.slice va3 n vc3) w3 ∧
      (Builtin.append_ #[22, 22] 22 #[.slice va3 n vc3, .slice (some ⟨w3.heap.size, 0, none⟩) 1 1]).run Try.prog (w3.alloc (.cells #[.int .i64 k, .int .i64 t] 31)) = .ok (.slice va4 (n + 1) vc4) w4 ∧
      (Builtin.append_ #[22, 22] 22 #[.slice va4 (n + 1) vc4, .slice (cutT va vc n) (os.length - n) (vc - n)]).run Try.prog w4 = .ok (.slice va5 (os.length + 1) vc5) w5 ∧
      RowT w5 w2.heap.size va5 (os.length + 1) vc5 (insI os n (k, t)) ∧ Below w2.heap.size w2 w5 := by
  have hm := hR.max
  have hT := hR.tims
  have htl : (os.take n).length = n := by simp; omega
  have hdl : (os.drop n).length = os.length - n := by simp
  have b0 : Below w2.heap.size w2 (w2.alloc (.cells #[] 31)) := (Below.refl _ w2).alloc (Nat.le_refl _) _
  obtain ⟨va3, vc3, w3, r3, R3, g3⟩ := app_row (w2.alloc (.cells #[] 31)) w2.heap.size _ 0 0 [] (owns_empty w2 w2.heap.size (Nat.le_refl _)) (by simp) va vc (os.take n) ((hT.take n).below b0 (Nat.le_refl _)) (row_none hR) (by rw [htl]; omega)
  rw [htl, Nat.zero_add] at r3 R3
  have b3 : Below w2.heap.size w2 w3 := below_append b0 (by simp) (owns_empty w2 w2.heap.size (Nat.le_refl _)) g3
  have hs3 := b3.size
  obtain ⟨va4, vc4, w4, r4, R4, g4⟩ := app_row (w3.alloc (.cells #[.int .i64 k, .int .i64 t] 31)) w2.heap.size va3 n vc3 _ (R3.alloc _) (by simp; omega) (some ⟨w3.heap.size, 0, none⟩) 1 [(k, t)] (tims_one w3 (k, t)) (fun h => by cases h) (by simp; omega)
  have b4 : Below w2.heap.size w2 w4 := below_append (b3.alloc hs3 _) (by simp; omega) (R3.alloc _) g4
  have hs4 := b4.size
  obtain ⟨va5, vc5, w5, r5, R5, g5⟩ := app_row w4 w2.heap.size va4 (n + 1) vc4 _ R4 hs4 (cutT va vc n) (vc - n) (os.drop n) ((hT.cut n vc hn (by omega)).below b4 (Nat.le_refl _)) (cutT_none (row_none hR)) (by rw [hdl]; omega)
  have b5 : Below w2.heap.size w2 w5 := below_append b4 hs4 R4 g5
  rw [hdl, show n + 1 + (os.length - n) = os.length + 1 from by omega] at r5 R5
  refine ⟨va3, vc3, w3, va4, vc4, w4, va5, vc5, w5, r3, r4, r5, ?_, b5⟩
  have e : insI os n (k, t) = [] ++ os.take n ++ [(k, t)] ++ os.drop n := by simp [insI]
  rw [e]
  exact R5

theorem placeR_all {l : List Tm} {k : Int} (h : ∀ y ∈ l, y.1 < k) : placeR l k = l.length := by
  unfold placeR
  have : l.takeWhile (fun x => decide (x.1 < k)) = l := by
    induction l with
    | nil => rfl
    | cons a r ih => rw [List.takeWhile_cons_of_pos (by simpa using h a (by simp)), ih (fun y hy => h y (by simp [hy]))]
  rw [this]
theorem placeR_stop {l : List Tm} {n : Nat} {x : Tm} {k : Int} (hn : n < l.length) (hx : l[n]?.getD (0, 0) = x) (h : ∀ y ∈ l.take n, y.1 < k) (hk : ¬ x.1 < k) : placeR l k = n := by
  unfold placeR
  have hl : l = l.take n ++ x :: l.drop (n + 1) := by
    subst hx
    conv => lhs; rw [← List.take_append_drop n l]
    congr 1
    rw [List.drop_eq_getElem_cons hn]
    simp [hn]
  have : l.takeWhile (fun x => decide (x.1 < k)) = l.take n := by
    conv => lhs; rw [hl]
    generalize l.take n = p at h
    induction p with
    | nil => rw [List.nil_append, List.takeWhile_cons_of_neg (by simpa using hk)]
    | cons a r ih => rw [List.cons_append, List.takeWhile_cons_of_pos (by simpa using h a (by simp)), ih (fun y hy => h y (by simp [hy]))]
  rw [this]
  simp; omega

set_option maxRecDepth 100000 in
set_option maxHeartbeats 4000000 in
theorem refSet_any (A : Option Addr) (cap : Nat) (ts : List Tm) (k t : Int) (w : World) (hT : TimsAt w A ts) :
    Calls Try.prog 12 #[.slice A ts.length cap, .int .i64 k, .int .i64 t] w fun e w' => ∃ va vc, e = .returned (.tuple #[.slice va (setL ts k t).length vc, .int .i64 (setE ts k t)]) ∧ RowT w' w.heap.size va (setL ts k t).length vc (setL ts k t) ∧ Below w.heap.size w w' := by
  have cC := refCheck_any A cap ts w hT
  cases hc : chk 0 ts with
  | false =>
    have hE : errI ts = 40 := by simp [errI, hc]
    have HE : Hid (setE ts k t = 40 ∧ setL ts k t = []) := by unfold Hid setE setL; simp [hc]
    rw [hE] at cC
    clear hE hc
    go_enter Try.func12, Try.ntmps12
    go_wp2_with (go_at_call 17; refine cC.mono ?_; rintro e w1 ⟨rfl, n, rfl⟩)
    go_ret2
    exact ⟨none, 0, by rw [HE.out.1, HE.out.2]; rfl, by rw [HE.out.2]; exact RowT.nil _ _, ⟨rfl, rfl, rfl, Nat.le_refl _, fun _ _ => rfl⟩⟩
  | true =>
    have hE : errI ts = 0 := by simp [errI, hc]
    rw [hE] at cC
    cases hk : kindB k with
    | false =>
      have HE : Hid (setE ts k t = 2 ∧ setL ts k t = []) := by unfold Hid setE setL; simp [hc, hk]
      clear hE hc
      go_enter Try.func12, Try.ntmps12
      go_wp2_with (first | (go_at_call 17; refine cC.mono ?_; rintro e w1 ⟨rfl, n, rfl⟩) | (go_at_call 22; refine (refKind_walk _ _).mono ?_; rintro e w1 ⟨rfl, rfl⟩))
      go_ret2
      exact ⟨none, 0, by rw [HE.out.1, HE.out.2]; rfl, by rw [HE.out.2]; exact RowT.nil _ _, ⟨rfl, rfl, rfl, Nat.le_refl _, fun _ _ => rfl⟩⟩
    | true =>
      cases ht : timeB t with
      | false =>
        have HE : Hid (setE ts k t = 2 ∧ setL ts k t = []) := by unfold Hid setE setL; simp [hc, ht]
        clear hE hc
        go_enter Try.func12, Try.ntmps12
        go_wp2_with (first | (go_at_call 17; refine cC.mono ?_; rintro e w1 ⟨rfl, n, rfl⟩) | (go_at_call 22; refine (refKind_walk _ _).mono ?_; rintro e w1 ⟨rfl, rfl⟩) | (go_at_call 23; refine (refTime_walk _ _).mono ?_; rintro e w1 ⟨rfl, rfl⟩))
        go_ret2
        exact ⟨none, 0, by rw [HE.out.1, HE.out.2]; rfl, by rw [HE.out.2]; exact RowT.nil _ _, ⟨rfl, rfl, rfl, Nat.le_refl _, fun _ _ => rfl⟩⟩
      | true =>
        have HE : Hid (setE ts k t = 0 ∧ setL ts k t = insI (wo ts k) (placeR (wo ts k) k) (k, t)) := by unfold Hid setE setL; rw [place_eq wo_none, ins_set hc]; simp [hc, hk, ht]
        have cW := fun n => without_any A cap ts k (w.drewN n) hT (chk0_len hc)
        have hwl : (wo ts k).length ≤ 5 := Nat.le_trans (wo_len _ _) (chk0_len hc)
        clear hE hc
        obtain ⟨os, hos⟩ : ∃ os, wo ts k = os := ⟨_, rfl⟩
        rw [hos] at HE cW hwl
        clear hos
        obtain ⟨L, hL⟩ : ∃ L, os.length = L := ⟨_, rfl⟩
        have HL : Hid (os.length = L) := hL
        rw [hL] at cW hwl
        clear hL
        go_enter Try.func12, Try.ntmps12
        go_wp2_with (first | (go_at_call 17; refine cC.mono ?_; rintro e w1 ⟨rfl, n0, rfl⟩) | (go_at_call 22; refine (refKind_walk _ _).mono ?_; rintro e w1 ⟨rfl, rfl⟩) | (go_at_call 23; refine (refTime_walk _ _).mono ?_; rintro e w1 ⟨rfl, rfl⟩) | (go_at_call 24; refine (cW _).mono ?_; rintro e w2 ⟨va, vc, rfl, hR, hB⟩))
        have HB : Hid (Below w.heap.size w w2) := ⟨hB.os, hB.tape, hB.output, hB.size, hB.block⟩
        have HR : Hid (RowT w2 w.heap.size va L vc os) := hR
        have hvc := hR.max
        clear hB hR cW cC
        have tail : ∀ n, n ≤ L → placeR os k = n → ∃ va3 vc3 w3 va4 vc4 w4 va5 vc5 w5,
            (Builtin.append_ #[22, 22] 22 #[.slice (some ⟨w2.heap.size, 0, none⟩) 0 0, .slice va n vc]).run Try.prog (w2.alloc (.cells #[] 31)) = .ok (.slice va3 n vc3) w3 ∧
            (Builtin.append_ #[22, 22] 22 #[.slice va3 n vc3, .slice (some ⟨w3.heap.size, 0, none⟩) 1 1]).run Try.prog (w3.alloc (.cells #[.int .i64 k, .int .i64 t] 31)) = .ok (.slice va4 (n + 1) vc4) w4 ∧
            (Builtin.append_ #[22, 22] 22 #[.slice va4 (n + 1) vc4, .slice (cutT va vc n) (L - n) (vc - n)]).run Try.prog w4 = .ok (.slice va5 (L + 1) vc5) w5 ∧
            RowT w5 w.heap.size va5 (setL ts k t).length vc5 (setL ts k t) ∧ (setL ts k t).length = L + 1 ∧ Below w.heap.size w w5 := fun n hn hp => by
          have h1 := HR.out
          have e := HL.out
          subst e
          obtain ⟨va3, vc3, w3, va4, vc4, w4, va5, vc5, w5, r3, r4, r5, R5, b5⟩ := set_apps w2 va vc os k t w.heap.size h1 hwl n hn
          have hl : (setL ts k t).length = os.length + 1 := by rw [HE.out.2, insI_len (by rw [hp]; exact hn)]
          exact ⟨va3, vc3, w3, va4, vc4, w4, va5, vc5, w5, r3, r4, r5, by rw [hl, HE.out.2, hp]; exact R5.mono HB.out.size, hl, HB.out.trans (b5.mono HB.out.size)⟩
        have TAIL : Hid (∀ n, n ≤ L → placeR os k = n → _) := tail
        clear tail
        go_loop [9] (fun v => ∃ n : Nat, v = .int .i64 n ∧ n ≤ L ∧ Hid (∀ y ∈ os.take n, y.1 < k))
          (fun v => L - (intOf v).toNat)
        case atStart => exact ⟨0, rfl, Nat.zero_le _, fun y hy => by simp at hy⟩
        case round =>
          obtain ⟨n, rfl, hn, HP⟩ := hrel
          by_cases hlt : n < L
          · have hn' : n < os.length := by have := HL.out; omega
            obtain ⟨b, o, hva, hc0, _⟩ := HR.out.tims.2 n hn'
            subst hva
            obtain ⟨x, hx⟩ : ∃ x, os[n]?.getD (0, 0) = x := ⟨_, rfl⟩
            rw [hx] at hc0
            have hlt' : (n : Int) < (L : Int) := by omega
            by_cases hxk : x.1 < k
            · have HP' : Hid (∀ y ∈ os.take (n + 1), y.1 < k) := fun y hy => by
                rw [take_snoc hn' hx] at hy
                rcases List.mem_append.1 hy with hy | hy
                · exact HP.out y hy
                · simp at hy; subst hy; exact hxk
              clear hx hn'
              go_wp2_with fail
              go_round
              case rel => exact ⟨n + 1, by go_num, by omega, HP'.out⟩
              case measure => simp [intOf]; omega
            · obtain ⟨va3, vc3, w3, va4, vc4, w4, va5, vc5, w5, r3, r4, r5, R5, hl, b5⟩ := TAIL.out n hn (placeR_stop hn' hx HP.out hxk)
              have e1 := sl_upto (some ⟨b, o, none⟩) L vc n (n : Int) rfl (by omega)
              have e2 := sl_cut (some ⟨b, o, none⟩) L vc n (n : Int) rfl hn
              obtain ⟨ca, hca⟩ : ∃ ca, cutT (some ⟨b, o, none⟩) vc n = ca := ⟨_, rfl⟩
              obtain ⟨cl, hcl⟩ : ∃ cl, L - n = cl := ⟨_, rfl⟩
              obtain ⟨cc, hcc⟩ : ∃ cc, vc - n = cc := ⟨_, rfl⟩
              rw [hca, hcl, hcc] at e2 r5
              have HF : Hid (RowT w5 w.heap.size va5 (setL ts k t).length vc5 (setL ts k t) ∧ (setL ts k t).length = L + 1 ∧ Below w.heap.size w w5) := ⟨R5, hl, b5⟩
              have A3 : Hid (_ = _) := r3
              have A4 : Hid (_ = _) := r4
              have A5 : Hid (_ = _) := r5
              clear hx hn' hca hcl hcc R5 hl b5 r3 r4 r5
              go_wp2_with (first | (at_builtin; refine Lib.wpList_append_run (w2.alloc (.cells #[] 31)) rfl (.tmp 40) (.tmp 43) 22 22 rfl (.slice (some ⟨w2.heap.size, 0, none⟩) 0 0) (.slice (some ⟨b, o, none⟩) n vc) rfl rfl (.slice va3 n vc3) w3 A3.out ?_) | (at_builtin; refine Lib.wpList_append_run (w3.alloc (.cells #[.int .i64 k, .int .i64 t] 31)) rfl (.tmp 44) (.tmp 48) 22 22 rfl (.slice va3 n vc3) (.slice (some ⟨w3.heap.size, 0, none⟩) 1 1) rfl rfl (.slice va4 (n + 1) vc4) w4 A4.out ?_) | (at_builtin; refine Lib.wpList_append_run w4 rfl (.tmp 50) (.tmp 53) 22 22 rfl (.slice va4 (n + 1) vc4) (.slice ca cl cc) rfl rfl _ w5 A5.out ?_))
              go_ret2
              exact ⟨va5, vc5, by rw [HE.out.1, HF.out.2.1]; rfl, HF.out.1, HF.out.2.2⟩
          · obtain rfl : n = L := by omega
            have hp : placeR os k = n := by
              have := HP.out
              rw [← HL.out, List.take_length] at this
              rw [placeR_all this, HL.out]
            obtain ⟨va3, vc3, w3, va4, vc4, w4, va5, vc5, w5, r3, r4, r5, R5, hl, b5⟩ := TAIL.out n hn hp
            have e1 := sl_upto va n vc n (n : Int) rfl (by omega)
            have e2 := sl_cut va n vc n (n : Int) rfl hn
            obtain ⟨ca, hca⟩ : ∃ ca, cutT va vc n = ca := ⟨_, rfl⟩
            obtain ⟨cl, hcl⟩ : ∃ cl, n - n = cl := ⟨_, rfl⟩
            obtain ⟨cc, hcc⟩ : ∃ cc, vc - n = cc := ⟨_, rfl⟩
            rw [hca, hcl, hcc] at e2 r5
            have HF : Hid (RowT w5 w.heap.size va5 (setL ts k t).length vc5 (setL ts k t) ∧ (setL ts k t).length = n + 1 ∧ Below w.heap.size w w5) := ⟨R5, hl, b5⟩
            have A3 : Hid (_ = _) := r3
            have A4 : Hid (_ = _) := r4
            have A5 : Hid (_ = _) := r5
            clear hca hcl hcc R5 hl b5 r3 r4 r5 hp
            go_wp2_with (first | (at_builtin; refine Lib.wpList_append_run (w2.alloc (.cells #[] 31)) rfl (.tmp 40) (.tmp 43) 22 22 rfl (.slice (some ⟨w2.heap.size, 0, none⟩) 0 0) (.slice va n vc) rfl rfl (.slice va3 n vc3) w3 A3.out ?_) | (at_builtin; refine Lib.wpList_append_run (w3.alloc (.cells #[.int .i64 k, .int .i64 t] 31)) rfl (.tmp 44) (.tmp 48) 22 22 rfl (.slice va3 n vc3) (.slice (some ⟨w3.heap.size, 0, none⟩) 1 1) rfl rfl (.slice va4 (n + 1) vc4) w4 A4.out ?_) | (at_builtin; refine Lib.wpList_append_run w4 rfl (.tmp 50) (.tmp 53) 22 22 rfl (.slice va4 (n + 1) vc4) (.slice ca cl cc) rfl rfl _ w5 A5.out ?_))
            go_ret2
            exact ⟨va5, vc5, by rw [HE.out.1, HF.out.2.1]; rfl, HF.out.1, HF.out.2.2⟩
end Go.Proofs.Ytdmkbnbdbhggkaa
