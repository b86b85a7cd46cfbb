/- The contracts of Send, Take and Double. -/
import Derived.Test.YtkbgpbhlcmainaaOld
namespace Go.Proofs.Ytkbgpbhlcmainaa
open Go.ChangeShapes Go.WideShapes Go.ChangeAt Go.RowKit
set_option linter.unusedVariables false

theorem results_box3 {fn : Func} {p u v : Tmp} (h : fn.results = #[.cell p 26, .tmp u, .tmp v]) (tmps : Array Value) (w : World) (g : Nat) (x y : Value) (hp : tmps.getD p undef = .pointer (some ⟨g, 0, none⟩)) (hg : BoxD w g x y) :
    (results fn tmps).run Try.prog w = .ok (.tuple #[.agg #[x, y], tmps.getD u undef, tmps.getD v undef]) w := by
  have hp' : tmps[p]?.getD undef = .pointer (some ⟨g, 0, none⟩) := by simpa using hp
  simp [results, h, hp', asAddr, run_loadVar_row (P := Try.prog) w g 26 26 #[x, y] (0, 0) _ hg Try.underlying26 rfl (by kernel_rfl)]

theorem RowE.aside {w : World} {B : Nat} {va : Option Addr} {L vc : Nat} {es : List En} (h : RowE w B va L vc es) (p : Addr) (u : Value) (hp : p.block < B) : RowE (w.setCell p u) B va L vc es := by
  refine ⟨h.1, ?_⟩
  rcases h.2 with h' | ⟨g, c, cur, e, hB, hh, r⟩
  · exact .inl h'
  · exact .inr ⟨g, c, cur, e, hB, (Below.heap_setCell w p u g (by omega)).trans hh, r⟩
theorem Deep.aside {w : World} {B : Nat} {va : Option Addr} {n vc : Nat} {l : List Dg} (h : Deep w B va n vc l) (p : Addr) (u : Value) (hp : p.block < B) : Deep (w.setCell p u) B va n vc l := by
  obtain ⟨es, h1, h2, h3, h4, h5⟩ := h
  exact ⟨es, h1, h2, h3.aside p u hp, fun x hx => ⟨(h4 x hx).1.aside p u hp, (h4 x hx).2⟩, h5⟩

set_option maxRecDepth 100000 in
set_option maxHeartbeats 2000000 in
theorem send_any (A : Option Addr) (n c : Nat) (l : List Dg) (da : Option Addr) (dc : Nat) (bs : List Int) (t : Int) (w : World) (hD : DatsAt w A n c l) (hb : BytesAt w da bs) (h0 : da = none → dc = 0) (ht : I64 t) (S : List Dg) (hS : sendL l bs t = S) (m : Nat) (hm : S.length = m) (r : Int) (hr : sendE l = r) :
    Calls Try.prog 12 #[.slice A n c, .slice da bs.length dc, .int .i64 t] w fun e w' => ∃ va vc, e = .returned (.tuple #[.slice va m vc, .int .i64 r]) ∧ DatsAt w' va m vc S ∧ Below w.heap.size w w' := by
  have hln := hD.len
  have cF := isFull_walk A n c w
  by_cases hf : 65536 ≤ n
  · obtain rfl : S = [] := by rw [← hS, sendL, if_pos (by omega)]
    obtain rfl : r = 70 := by rw [← hr, sendE, if_pos (by omega)]
    obtain rfl : m = 0 := by rw [← hm]; rfl
    rw [show decide (65536 ≤ n) = true from by simpa using hf] at cF
    clear hS hr hm hD hb h0 ht hf hln
    go_enter Try.func12, Try.ntmps12
    go_wp2_with fail
    refine cF.mono ?_
    rintro e w1 ⟨rfl, rfl⟩
    go_wp2_with fail
    go_ret2
    exact ⟨none, 0, rfl, DatsAt.nil _, Below.refl _ _⟩
  · have hSl : S = l ++ [(bs, t)] := by rw [← hS, sendL, if_neg (by omega)]
    obtain rfl : r = 0 := by rw [← hr, sendE, if_neg (by omega)]
    obtain rfl : m = n + 1 := by rw [← hm, hSl]; simp [hln]
    have cW := with_any A n c l ⟨da, dc, bs, t⟩ w hD ⟨hb, h0, ht⟩ (by omega)
    rw [show decide (65536 ≤ n) = false from by simpa using hf] at cF
    have HS : Hid (S = l ++ [(bs, t)]) := hSl
    clear hS hr hm hSl hD hb h0 ht hf hln
    go_enter Try.func12, Try.ntmps12
    go_wp2_with fail
    refine cF.mono ?_
    rintro e w1 ⟨rfl, rfl⟩
    go_wp2_with fail
    refine cW.mono ?_
    rintro e w2 ⟨va, vc, rfl, hT, hB⟩
    have cR := renewed_any va (n + 1) vc _ w2 hT
    have HB : Hid (Below w1.heap.size w1 w2) := hB
    clear cW cF hT hB
    go_wp2_with fail
    refine cR.mono ?_
    rintro e w3 ⟨va3, vc3, rfl, hT3, hB3⟩
    go_wp2_with fail
    go_ret2
    exact ⟨va3, vc3, rfl, by rw [HS.out]; exact hT3.dats, Below.on HB.out hB3⟩

set_option maxRecDepth 100000 in
set_option maxHeartbeats 2000000 in
theorem take_any (A : Option Addr) (n c : Nat) (l : List Dg) (k : Int) (w : World) (hD : DatsAt w A n c l) (S : List Dg) (hS : takeL l k = S) (m : Nat) (hm : S.length = m) (r : Int) (hr : takeE l k = r) (d : Dg) (hd : takeD l k = d) :
    Calls Try.prog 14 #[.slice A n c, .int .i64 k] w fun e w' => ∃ da dc va vc, e = .returned (.tuple #[.agg #[.slice da d.1.length dc, .int .i64 d.2], .slice va m vc, .int .i64 r]) ∧ En.ok w' ⟨da, dc, d.1, d.2⟩ ∧ DatsAt w' va m vc S ∧ Below w.heap.size w w' := by
  have hln := hD.len
  have b0 : Below w.heap.size w (w.alloc (.cells #[.slice none 0 0, .int .i64 0] 26)) := below_more (Below.refl _ _) _
  have hX := BoxD.new w (.slice none 0 0) (.int .i64 0)
  have cP := isPlace_walk A n c k (w.alloc (.cells #[.slice none 0 0, .int .i64 0] 26))
  cases hp : plB n k with
  | false =>
    obtain rfl : S = [] := by rw [← hS, takeL, hln, hp]; simp
    obtain rfl : r = 50 := by rw [← hr, takeE, hln, hp]; simp
    obtain rfl : d = z0 := by rw [← hd, takeD, hln, hp]; simp
    obtain rfl : m = 0 := by rw [← hm]; rfl
    rw [hp] at cP
    have HX : Hid (BoxD (w.alloc (.cells #[.slice none 0 0, .int .i64 0] 26)) w.heap.size (.slice none 0 0) (.int .i64 0)) := hX
    have HB : Hid (Below w.heap.size w (w.alloc (.cells #[.slice none 0 0, .int .i64 0] 26))) := b0
    clear hS hr hm hD hd hln hX b0
    go_enter Try.func14, Try.ntmps14
    go_wp2_with fail
    refine cP.mono ?_
    rintro e w1 ⟨rfl, rfl⟩
    go_wp2_with fail
    refine bodyPost_ret (results_box3 rfl _ _ w.heap.size _ _ rfl HX.out) rfl ?_
    exact ⟨none, 0, none, 0, rfl, ⟨BytesAt.nil _ _, fun _ => rfl, by unfold I64 z0; simp⟩, DatsAt.nil _, HB.out⟩
  | true =>
    obtain ⟨j, rfl⟩ : ∃ j : Nat, k = (j : Int) := ⟨k.toNat, by simp [plB] at hp; omega⟩
    have hj : j < n := by simp [plB] at hp; exact hp
    have hSl : S = l.take j ++ l.drop (j + 1) := by rw [← hS, takeL, hln, hp]; simp
    obtain rfl : r = 0 := by rw [← hr, takeE, hln, hp]; simp
    obtain rfl : m = n - 1 := by rw [← hm, hSl]; simp [hln]; omega
    obtain ⟨b, o, x, rfl, hx, hok, hc0, hc1⟩ := (hD.later b0).get j hj
    obtain rfl : d = x.dg := by rw [← hd, takeD, hln, hp]; simp; simpa using hx
    have HD : Hid (DatsAt w (some ⟨b, o, none⟩) n c l ∧ S = l.take j ++ l.drop (j + 1)) := ⟨hD, hSl⟩
    have HX : Hid (BoxD (w.alloc (.cells #[.slice none 0 0, .int .i64 0] 26)) w.heap.size (.slice none 0 0) (.int .i64 0)) := hX
    have HB : Hid (Below w.heap.size w (w.alloc (.cells #[.slice none 0 0, .int .i64 0] 26))) := b0
    have cR := renew_any x (w.alloc (.cells #[.slice none 0 0, .int .i64 0] 26)) hok
    have HK : Hid (x.ok (w.alloc (.cells #[.slice none 0 0, .int .i64 0] 26))) := hok
    rw [hp] at cP
    have hsz : (w.alloc (.cells #[.slice none 0 0, .int .i64 0] 26)).heap.size = w.heap.size + 1 := by simp
    obtain ⟨W0, hW0⟩ : ∃ W0, w.alloc (.cells #[.slice none 0 0, .int .i64 0] 26) = W0 := ⟨_, rfl⟩
    rw [hW0] at HX HB HK cR cP hc0 hc1 hsz
    have HZ : Hid (W0.heap.size = w.heap.size + 1) := hsz
    clear hS hr hm hD hd hln hX b0 hSl hx hok hp hsz
    go_enter Try.func14, Try.ntmps14
    go_upto_region 1 with fail
    try rw [hW0]
    clear hW0
    go_wp2_with fail
    refine cP.mono ?_
    rintro e w1 ⟨rfl, rfl⟩
    go_wp2_with fail
    refine cR.mono ?_
    rintro e w2 ⟨va2, vc2, rfl, hR2, hB2⟩
    have HR2 : Hid (Row w2 w1.heap.size va2 x.bs.length vc2 x.bs ∧ Below w1.heap.size w1 w2) := ⟨hR2, hB2⟩
    have HB2 : Hid (Below w.heap.size w w2) := Below.on HB.out hB2
    have cO := without_any (some ⟨b, o, none⟩) n c j l w2 (HD.out.1.later HB2.out) hj
    clear cR cP hR2 hB2 hc0 hc1
    go_wp2_with fail
    refine cO.mono ?_
    rintro e w3 ⟨va3, vc3, rfl, hT3, hB3⟩
    have cN := renewed_any va3 (n - 1) vc3 _ w3 hT3
    have HB3 : Hid (Below w2.heap.size w2 w3) := hB3
    clear cO hT3 hB3
    go_wp2_with fail
    refine cN.mono ?_
    rintro e w4 ⟨va4, vc4, rfl, hT4, hB4⟩
    have hB24 : Below w2.heap.size w2 w4 := Below.on HB3.out hB4
    have hX4 : BoxD w4 w.heap.size (.slice none 0 0) (.int .i64 0) := HX.out.later (Below.on HR2.out.2 hB24)
    have k0 := hX4.cell0
    have k1 := hX4.cell1
    have f0 := hX4.frozen 0
    have f1 := hX4.frozen 1
    have HX4 : Hid (BoxD w4 w.heap.size (.slice none 0 0) (.int .i64 0) ∧ Below w2.heap.size w2 w4 ∧ Deep w4 w3.heap.size va4 (n - 1) vc4 (l.take j ++ l.drop (j + 1))) := ⟨hX4, hB24, hT4⟩
    clear cN hT4 hB4 hB24 hX4
    go_wp2_with fail
    refine bodyPost_ret (results_box3 rfl _ _ w.heap.size _ _ rfl (HX4.out.1.put _ _)) rfl ?_
    have hlt : w.heap.size < w1.heap.size := by rw [HZ.out]; omega
    have hge : w1.heap.size ≤ w3.heap.size := Nat.le_trans HR2.out.2.size HB3.out.size
    refine ⟨va2, vc2, va4, vc4, rfl, ⟨?_, HR2.out.1.nil0, HK.out.2.2⟩, ?_, ?_⟩
    · exact (((HR2.out.1.later HX4.out.2.1).aside ⟨w.heap.size, 0, none⟩ _ hlt).aside ⟨w.heap.size, 1, none⟩ _ hlt).bytes HK.out.1.2.1 HK.out.1.1
    · rw [HD.out.2]
      exact ((HX4.out.2.2.aside ⟨w.heap.size, 0, none⟩ _ (by show w.heap.size < _; omega)).aside ⟨w.heap.size, 1, none⟩ _ (by show w.heap.size < _; omega)).dats
    · exact ((Below.on HB2.out HX4.out.2.1).setCell (Nat.le_refl _) _).setCell (Nat.le_refl _) _

set_option maxRecDepth 100000 in
set_option maxHeartbeats 2000000 in
theorem double_any (A : Option Addr) (n c : Nat) (l : List Dg) (k : Int) (w : World) (hD : DatsAt w A n c l) (S : List Dg) (hS : dblL l k = S) (m : Nat) (hm : S.length = m) (r : Int) (hr : dblE l k = r) :
    Calls Try.prog 17 #[.slice A n c, .int .i64 k] w fun e w' => ∃ va vc, e = .returned (.tuple #[.slice va m vc, .int .i64 r]) ∧ DatsAt w' va m vc S ∧ Below w.heap.size w w' := by
  have hln := hD.len
  have cP := isPlace_walk A n c k w
  have cF := isFull_walk A n c w
  cases hp : plB n k with
  | false =>
    obtain rfl : S = [] := by rw [← hS, dblL, hln, hp]; simp
    obtain rfl : r = 50 := by rw [← hr, dblE, hln, hp]; simp
    obtain rfl : m = 0 := by rw [← hm]; rfl
    rw [hp] at cP
    clear hS hr hm hD hln cF
    go_enter Try.func17, Try.ntmps17
    go_wp2_with fail
    refine cP.mono ?_
    rintro e w1 ⟨rfl, rfl⟩
    go_wp2_with fail
    go_ret2
    exact ⟨none, 0, rfl, DatsAt.nil _, Below.refl _ _⟩
  | true =>
    rw [hp] at cP
    by_cases hf : 65536 ≤ n
    · obtain rfl : S = [] := by rw [← hS, dblL, hln, hp, if_pos rfl, if_pos hf]
      obtain rfl : r = 70 := by rw [← hr, dblE, hln, hp, if_pos rfl, if_pos hf]
      obtain rfl : m = 0 := by rw [← hm]; rfl
      rw [show decide (65536 ≤ n) = true from by simpa using hf] at cF
      clear hS hr hm hD hf hln hp
      go_enter Try.func17, Try.ntmps17
      go_wp2_with fail
      refine cP.mono ?_
      rintro e w1 ⟨rfl, rfl⟩
      go_wp2_with fail
      refine cF.mono ?_
      rintro e w1 ⟨rfl, rfl⟩
      go_wp2_with fail
      go_ret2
      exact ⟨none, 0, rfl, DatsAt.nil _, Below.refl _ _⟩
    · obtain ⟨j, rfl⟩ : ∃ j : Nat, k = (j : Int) := ⟨k.toNat, by simp [plB] at hp; omega⟩
      have hj : j < n := by simp [plB] at hp; exact hp
      obtain ⟨b, o, x, rfl, hx, hok, hc0, hc1⟩ := hD.get j hj
      have hSl : S = l ++ [x.dg] := by rw [← hS, dblL, hln, hp, if_pos rfl, if_neg hf]; simp; simpa using hx
      obtain rfl : r = 0 := by rw [← hr, dblE, hln, hp, if_pos rfl, if_neg hf]
      obtain rfl : m = n + 1 := by rw [← hm, hSl]; simp [hln]
      have cW := with_any (some ⟨b, o, none⟩) n c l x w hD hok (by omega)
      rw [show decide (65536 ≤ n) = false from by simpa using hf] at cF
      have HS : Hid (S = l ++ [x.dg]) := hSl
      clear hS hr hm hSl hD hf hln hx hok hp
      go_enter Try.func17, Try.ntmps17
      go_wp2_with fail
      refine cP.mono ?_
      rintro e w1 ⟨rfl, rfl⟩
      go_wp2_with fail
      refine cF.mono ?_
      rintro e w1 ⟨rfl, rfl⟩
      go_wp2_with fail
      refine cW.mono ?_
      rintro e w2 ⟨va, vc, rfl, hT, hB⟩
      have cR := renewed_any va (n + 1) vc _ w2 hT
      have HB : Hid (Below w1.heap.size w1 w2) := hB
      clear cW cF cP hT hB hc0 hc1
      go_wp2_with fail
      refine cR.mono ?_
      rintro e w3 ⟨va3, vc3, rfl, hT3, hB3⟩
      go_wp2_with fail
      go_ret2
      exact ⟨va3, vc3, rfl, by rw [HS.out]; exact hT3.dats, Below.on HB.out hB3⟩
end Go.Proofs.Ytkbgpbhlcmainaa
