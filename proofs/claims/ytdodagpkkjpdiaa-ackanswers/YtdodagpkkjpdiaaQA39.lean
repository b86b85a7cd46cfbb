/- Texts: Merged. -/
import Derived.Test.YtdodagpkkjpdiaaQA36
import Derived.Test.YtdodagpkkjpdiaaSmall
namespace Go.Proofs.Ytdodagpkkjpdiaa
open Go.ChangeShapes Go.WideShapes Go.ChangeAt Go.RowKit
set_option linter.unusedVariables false
set_option linter.unusedSimpArgs false
open Go.Shelf
attribute [local go_sem] Oper.semAt_some
/-- Of what lay only the box g and bytes have turned. -/
structure Oth (g : Nat) (w V : World) : Prop where
  size : w.heap.size ≤ V.heap.size
  same : ∀ k, k < w.heap.size → k ≠ g → ¬ is5 w k → V.heap[k]? = w.heap[k]?
theorem Oth.box {g : Nat} {w V : World} (h : Oth g w V) {p : Nat} {t : TypeId} {cs : List Value} (hb : Box w p t cs) (ht : t ≠ 5) (hp : p ≠ g) : Box V p t cs := (h.same p hb.lt hp (fun ⟨cur, fr, e⟩ => hb.ne e ht rfl)).trans hb
structure KO (B g : Nat) (wf w V : World) : Prop where
  kp : Keep B wf V
  ot : Oth g w V
  hw : wf.heap.size ≤ w.heap.size
  hg : wf.heap.size ≤ g
theorem KO.step {B g : Nat} {wf w V V' : World} {S : Nat → Prop} (h : KO B g wf w V) (hB : B ≤ wf.heap.size) (hc : Chg S V V') (hS : ∀ k, S k → w.heap.size ≤ k ∨ k = g ∨ (B ≤ k ∧ is5 V k)) : KO B g wf w V' := by
  have h1 := h.hw
  have h2 := h.hg
  have h3 := h.ot.size
  refine ⟨h.kp.step hB hc (fun k hk => ?_), ⟨Nat.le_trans h3 hc.flat.size, fun k hk hne hn => (hc.same k (by omega) (fun hs => ?_)).trans (h.ot.same k hk hne hn)⟩, h1, h2⟩
  · rcases hS k hk with h' | h' | h'
    · exact .inl (by omega)
    · exact .inl (by omega)
    · exact .inr h'
  · rcases hS k hs with h' | h' | ⟨_, cur, fr, h'⟩
    · omega
    · exact hne h'
    · rw [h.ot.same k hk hne hn] at h'
      exact hn ⟨cur, fr, h'⟩
theorem KO.later {B g : Nat} {wf w V V' : World} (h : KO B g wf w V) (hB : B ≤ wf.heap.size) (hb : Below V.heap.size V V') : KO B g wf w V' := h.step hB (S := fun _ => False) (Chg.of_below hb) (fun k h => h.elim)
/-- What holds between rounds. -/
structure MI (wm wf : World) (B Bo b g : Nat) (R : Nat → Prop) (cs : List Value) (s0 : Pl.Rx) (T pre : List En) (Z : Nat → Prop) (V : World) : Prop where
  ex : ∃ n us out rest va vc ua uc, Mrg Bo B (fun k => Z k ∨ (k < b ∧ ¬ R k)) g (Bo + 1) cs n us out rest va vc ua uc V ∧ MP s0 T pre n us out rest
  tk : Boxed V Bo 105 (.func (.func 68) #[] #[.pointer (some ⟨g, 0, none⟩)])
  kp : KO B g wf wm V
theorem chg_apart {b : Nat} {Z : Nat → Prop} {X Y : World} (hA : Apart b Z X Y) : Chg (fun k => ¬ (k < b ∨ Z k)) X Y := ⟨hA.flat, fun k hk hn => hA.same k hk (Classical.not_not.1 hn)⟩
theorem MI.apart {wm wf : World} {B Bo b g : Nat} {R : Nat → Prop} {cs : List Value} {s0 : Pl.Rx} {T pre : List En} {Z : Nat → Prop} {X Y : World} (h : MI wm wf B Bo b g R cs s0 T pre Z X) (hA : Apart b Z X Y) (hB : B ≤ wf.heap.size) (hw : wm.heap.size ≤ b) (hb : Bo < b) : MI wm wf B Bo b g R cs s0 T pre Z Y := by
  obtain ⟨n, us, out, rest, va, vc, ua, uc, hM, hP⟩ := h.ex
  refine ⟨⟨n, us, out, rest, va, vc, ua, uc, hM.moved (fun k hk ho => hA.same k hk (ho.elim .inr (fun h => .inl h.1))), hP⟩, (hA.same Bo h.tk.lt (.inl hb)).trans h.tk, h.kp.step hB (chg_apart hA) (fun k hk => .inl ?_)⟩
  rcases Nat.lt_or_ge k b with h1 | h1
  · exact absurd (Or.inl h1) hk
  · omega
theorem mi_close {wm wf : World} {B Bo b g : Nat} {R : Nat → Prop} {cs : List Value} {s0 : Pl.Rx} {T pre : List En} {Z : Nat → Prop} {W2 V We : World} {x : En} {n : Int} {us : List Int} {out rest : List En} {va ua : Option Addr} {vc uc : Nat}
    (hM : Mrg Bo B (fun k => (Z k ∨ (k < b ∧ ¬ R k)) ∨ (V.heap.size ≤ k ∧ k < We.heap.size)) g (Bo + 1) cs n us out rest va vc ua uc We) (hV : W2.heap.size ≤ V.heap.size) (hP : MP s0 T (pre ++ [x]) n us out rest) (hT : Boxed We Bo 105 (.func (.func 68) #[] #[.pointer (some ⟨g, 0, none⟩)])) (hK : KO B g wf wm We) (hC : Chg (fun k => Z k ∨ (k < b ∧ ¬ R k)) W2 We) (hZ : ∀ k, Z k → k < W2.heap.size) :
    ∃ Z', Mine b R Z W2 Z' We ∧ MI wm wf B Bo b g R cs s0 T (pre ++ [x]) Z' We :=
  ⟨_, Mine.of_chg hC (fun k h => h) hZ, ⟨⟨_, _, _, _, _, _, _, _, hM.mono (own_next hV), hP⟩, hT, hK⟩⟩
theorem mrg_push {Bo B : Nat} {own : Nat → Prop} {g bo : Nat} {cs : List Value} {n : Int} {us : List Int} {out rest : List En} {x : En} {va : Option Addr} {vc : Nat} {ua : Option Addr} {uc : Nat} {V w2 : World} {L : Nat} {v' : Value} {tmp : Obj}
    (h : Mrg Bo B own g bo cs n us out (x :: rest) va vc ua uc V) (hL : out.length = L) (hown : w2.ownsRow Bo 53 2 v' (L + 1) (ecells out ++ [.int .i64 x.f, .slice x.a x.bs.length x.c])) (hgrow : (V.alloc tmp).grownBy w2 (Value.slice va L vc).ownBlock) (hat : v'.ownBlock = (Value.slice va L vc).ownBlock ∨ v'.ownBlock = some (V.alloc tmp).heap.size) :
    ∃ va5 vc5, v' = .slice va5 (L + 1) vc5 ∧ Boxed w2 bo 44 (.slice va L vc) ∧ Hid (RowE w2 Bo va5 (out ++ [x]).length vc5 (out ++ [x]) ∧ Chg (lies va) V w2 ∧ (∀ k, lies va5 k → lies va k ∨ V.heap.size ≤ k)) := by
  have hr := h.row
  have hb := h.bx
  rw [hL] at hr hb
  obtain ⟨va5, vc5, e, hr5, hC5, hN5⟩ := push_step tmp hr hown hgrow hat
  refine ⟨va5, vc5, e, (hC5.same _ hb.lt (fun h' => ?_)).trans hb, hr5, hC5, hN5⟩
  obtain ⟨_, _, _, cur, e2⟩ := owns_lies hr h'
  exact absurd (is_type hb e2) (by decide)
set_option maxRecDepth 100000 in
set_option maxHeartbeats 4000000 in
theorem merged_any (wf w : World) (B g : Nat) (cs : List Value) (s0 : Pl.Rx) (hl0 : s0.l = []) (ua : Option Addr) (uc : Nat) (T : List En) (lb : Array Value) (R : Nat → Prop) (Sp : List En → Prop) (hRw : ∀ k, R k → k < w.heap.size) (hR : ∀ k, R k → ∃ cur, w.heap[k]? = some (.cells cur 53 (0, 0)))
    (hseq : SeqDeep Fence.wide 5 Try.prog 78 lb (fun x : En => #[Value.agg #[.int .i64 x.f, .slice x.a x.bs.length x.c]]) R (fun ys => ys = T) Sp (fun q => q <+: T) w)
    (hbox : Box w g 46 (.int .i64 s0.n :: .slice ua s0.u.length uc :: cs)) (hfam : Fam w B (⟨0, ua, uc, s0.u⟩ :: T)) (hk : Keep B wf w) (hB : B ≤ wf.heap.size) (hg : wf.heap.size ≤ g)
    (n0 : 0 ≤ s0.n) (nb : s0.n + (tot T : Int) ≤ 1125899906842624) (ub : s0.u.length + tot T ≤ 140737488351232) (cb : T.length * 32 ≤ 140737488351232) (bd : ∀ e ∈ T, 0 ≤ e.f ∧ e.f + (e.bs.length : Int) ≤ 1125899906842624) :
    Calls Try.prog 69 #[.func (.func 78) #[] lb, .func (.func 68) #[] #[.pointer (some ⟨g, 0, none⟩)]] w fun e W' => ∃ n us out va vc ua' uc' own, e = .returned (.slice va out.length vc) ∧ Mrg w.heap.size B own g (w.heap.size + 1) cs n us out [] va vc ua' uc' W' ∧ MP s0 T T n us out [] ∧ Keep B wf W' ∧ Oth g w W' := by
  obtain ⟨i0, hi, hz0, hz1, hz2⟩ := info_parts Try.infoPc
  have bT := (Boxed.new w 105 (.func (.func 68) #[] #[.pointer (some ⟨g, 0, none⟩)])).alloc (.cells #[.slice none 0 0] 44)
  have bO := Boxed.new (w.alloc (.cells #[.func (.func 68) #[] #[.pointer (some ⟨g, 0, none⟩)]] 105)) 44 (.slice none 0 0)
  simp only [World.size_alloc] at bO
  have hB0 : Below w.heap.size w ((w.alloc (.cells #[.func (.func 68) #[] #[.pointer (some ⟨g, 0, none⟩)]] 105)).alloc (.cells #[.slice none 0 0] 44)) := ((Below.refl _ w).alloc (Nat.le_refl _) _).alloc (by simp) _
  have hsz : ((w.alloc (.cells #[.func (.func 68) #[] #[.pointer (some ⟨g, 0, none⟩)]] 105)).alloc (.cells #[.slice none 0 0] 44)).heap.size = w.heap.size + 2 := by simp
  obtain ⟨W0, hW0⟩ : ∃ W0, (w.alloc (.cells #[.func (.func 68) #[] #[.pointer (some ⟨g, 0, none⟩)]] 105)).alloc (.cells #[.slice none 0 0] 44) = W0 := ⟨_, rfl⟩
  rw [hW0] at bT bO hB0 hsz
  have hgw : g < w.heap.size := hbox.lt
  have hwf := hk.bel.size
  have hI0 : MI w wf B w.heap.size W0.heap.size g R cs s0 T [] (fun _ => False) W0 := by
    have hnR : ∀ k (t : TypeId), t ≠ 53 → (∃ cur fr, w.heap[k]? = some (.cells cur t fr)) → ¬ R k := fun k t ht ⟨cur, fr, e⟩ hr => by
      obtain ⟨c, e2⟩ := hR k hr
      exact ht (is_type e e2)
    refine ⟨⟨s0.n, s0.u, [], T, none, 0, ua, uc, ⟨bO, RowE.nil _ _, hbox.later hB0, hfam.later hB0, fun k hk => (by obtain ⟨_, _, e⟩ := hk; cases e), ?_, ?_, ?_⟩, ⟨rfl, ?_, n0, by simpa [tot] using nb, by simpa [tot] using ub, by simpa using cb, by simpa using bd⟩⟩, bT, ⟨hk.trans (Keep.of_below hB0 (by omega)), ⟨hB0.size, fun k hk _ _ => hB0.block k hk⟩, hwf, hg⟩⟩
    · intro x hx k hl
      obtain ⟨_, _, hlt, cur, e⟩ := (hfam.mine x (by simpa using hx)).lies hl
      exact .inr ⟨by omega, hnR k 5 (by decide) ⟨_, _, e⟩⟩
    · exact .inr ⟨by omega, hnR g 46 (by decide) ⟨_, _, hbox⟩⟩
    · exact .inr ⟨by omega, fun h => by have := hRw _ h; omega⟩
    · show s0 = ⟨s0.n, s0.u, []⟩
      rw [← hl0]
  clear hbox hfam hk n0 nb ub cb bd hR
  refine (callsIn_wide (n := 6)).1 ?_
  refine callsIn_of_wp_marks Try.func69 rfl trivial ?_ rfl
  simp only [Try.ntmps69, List.size_toArray, List.length_cons, List.length_nil, Nat.reduceAdd, Nat.reduceSub, Array.replicate_succ, Array.replicate_zero, List.push_toArray, List.append_toArray, List.nil_append, List.cons_append]
  gi_wp2
  refine wpIn_scope ?_
  gi_wp2
  refine wpIn_label ?_
  gi_wp2
  clear hW0
  refine wpIn_deep (F := Fence.wide) (n := 6) rfl (by omega) (gf := 78) (lb := lb) rfl trivial (enters_of Try.func78 (by kernel_rfl) rfl) hseq hB0 (fun _ => rfl)
    (fun k hk => by have := hRw k hk; omega)
    (fun pre Z V => MI w wf B w.heap.size W0.heap.size g R cs s0 T pre Z V)
    (fun c pre Z V => False)
    ?hI (fun _ _ _ _ _ h _ => h) hI0 ?round ?done ?stop
  case hI =>
    rintro pre Z X Y h hA
    exact h.apart hA hB (by omega) (by omega)
  case round =>
    rintro l pre x Z W1 hl hll hz hMI hG
    obtain ⟨n, us, out, rest0, va, vc, ua1, uc1, hM, hP⟩ := hMI.ex
    have htk := hMI.tk
    have hkp := hMI.kp
    obtain ⟨rest, rfl⟩ : ∃ rest, rest0 = x :: rest := by
      have h1 := hP.tt
      rw [h1] at hG
      have h2 := List.prefix_append_right_inj pre |>.1 hG
      cases rest0 with
      | nil => simp at h2
      | cons a r => simp at h2; exact ⟨r, by rw [h2]⟩
    clear hMI hG hI0 bT bO hseq hB0
    unfold RoundOwes
    gi_wp2
    refine ⟨Mine.alloc (fun k hk => (hz k hk).2.1) _, ?_⟩
    intro W2 hg2 hr2
    have hs2 : W1.heap.size + 1 ≤ W2.heap.size := by have := hg2.size; simp at this; exact this
    have hmv : ∀ k, k < W1.heap.size → k ≠ l → W2.heap[k]? = W1.heap[k]? := fun k hk hne => (hg2.block k (by simp; omega) (fun e => hne (by cases e; rfl))).trans (Below.heap_alloc _ _ _ hk)
    have M2 : Mrg w.heap.size B (fun k => Z k ∨ (k < W0.heap.size ∧ ¬ R k)) g (w.heap.size + 1) cs n us out (x :: rest) va vc ua1 uc1 W2 := hM.moved (fun k hk ho => hmv k hk (ho.elim (fun h => (hz k h).2.2) (fun h => by omega)))
    have bT2 : Boxed W2 w.heap.size 105 (.func (.func 68) #[] #[.pointer (some ⟨g, 0, none⟩)]) := (hmv _ htk.lt (by omega)).trans htk
    have hp2 : Box W2 W1.heap.size 53 [.int .i64 x.f, .slice x.a x.bs.length x.c] := (hg2.block W1.heap.size (by simp) (fun e => by cases e; omega)).trans (Box.new W1 53 [.int .i64 x.f, .slice x.a x.bs.length x.c])
    have K2 : KO B g wf w W2 := hkp.step hB ((Chg.of_below (below_more (Below.refl _ _) _)).trans (Chg.of_grown hg2 (fun k e => by cases e; rfl)) : Chg (fun k => k = l) W1 W2) (fun k e => .inl (by subst e; omega))
    have hZ2 : ∀ k, Z k → k < W2.heap.size := fun k hk => by have := (hz k hk).2.1; omega
    have hx2 := M2.fam.mine x (by simp)
    have hu2 := M2.fam.mine ⟨0, ua1, uc1, us⟩ (List.mem_cons_self ..)
    clear hM htk hkp hg2 hr2 hmv hz
    obtain ⟨L, hL⟩ : ∃ L, out.length = L := ⟨_, rfl⟩
    obtain ⟨ul, hul⟩ : ∃ ul, us.length = ul := ⟨_, rfl⟩
    have cO : W2.cell? ⟨w.heap.size + 1, 0, none⟩ = some (.slice va L vc) := by rw [← hL]; exact M2.bx.cell
    have cT := bT2.cell
    have cP0 := hp2.cell 0 rfl
    have cP1 := hp2.cell 1 rfl
    have hcb := hP.cb
    rw [hL] at hcb
    simp only [List.length_cons] at hcb
    obtain ⟨la, hla⟩ : ∃ la : Int, (L : Int) - 1 = la := ⟨_, rfl⟩
    have hlab : -1 ≤ la ∧ la ≤ 140737488351232 := by omega
    have hns : W2.heap.size = W2.heap.size := rfl
    by_cases hxn : x.f = n
    · have hnb := hP.nb
      have hub := hP.ub
      rw [tot_cons] at hnb hub
      have cF := filled1_yes B g n ua1 us.length uc1 us cs x.a x.bs.length x.c x.bs W2 M2.box hu2.row (by have := K2.kp.bel.size; omega) hx2.ok.1 rfl (by omega) ⟨hP.n0, by omega⟩
      rw [hul] at cF
      have HM : Hid (Mrg _ _ _ _ _ _ _ _ _ _ _ _ _ _ _) := M2
      have HQ : Hid (Boxed W2 w.heap.size 105 (.func (.func 68) #[] #[.pointer (some ⟨g, 0, none⟩)]) ∧ KO B g wf w W2 ∧ (∀ k, Z k → k < W2.heap.size)) := ⟨bT2, K2, hZ2⟩
      have HP : Hid (MP s0 T pre n us out (x :: rest)) := hP
      have HUL : Hid (us.length = ul) := hul
      have HXN : Hid (x.f = n) := hxn
      clear M2 bT2 K2 hZ2 hP hul hu2 hx2 hnb hub hp2
      rw [hxn] at cP0
      clear hxn
      gi_wp2_with (refine ⟨trivial, ?_⟩; gi_at_call 68; refine (callsIn_round cF).mono ?_; rintro e W3 ⟨rfl, va3, vc3, hb3, hr3, hC3, hN3⟩)
      have hlen : (us ++ x.bs).length = ul + x.bs.length := by rw [List.length_append, HUL.out]
      have hne : ∀ k (t : TypeId), t ≠ 5 → (∃ cur fr, W2.heap[k]? = some (.cells cur t fr)) → ¬ lies ua1 k := fun k t ht ⟨cur, fr, e⟩ hl => by
        obtain ⟨_, _, _, c, e2⟩ := (HM.out.fam.mine ⟨0, ua1, uc1, us⟩ (List.mem_cons_self ..)).lies hl
        exact ht (is_type e e2)
      have hub := HP.out.ub
      rw [tot_cons] at hub
      refine mi_close (V := W2) (HM.out.take (n' := n + (x.bs.length : Int)) (ua' := va3) (uc' := vc3) hC3 (by omega) (by rw [hlen]; exact hb3) (by rw [hlen]; exact hr3) (by rw [List.length_append]; omega) hN3) (Nat.le_refl _) (HP.out.take HXN.out) ((hC3.same _ HQ.out.1.lt (fun h => ?_)).trans HQ.out.1) (HQ.out.2.1.step hB hC3 (fun k h => ?_)) (hC3.mono (fun k _ h => ?_)) HQ.out.2.2
      · rcases h with h | h
        · omega
        · exact hne _ 105 (by decide) ⟨_, _, HQ.out.1⟩ h
      · rcases h with h | h
        · exact .inr (.inl h)
        · obtain ⟨_, h1, _, cur, e2⟩ := (HM.out.fam.mine ⟨0, ua1, uc1, us⟩ (List.mem_cons_self ..)).lies h
          exact .inr (.inr ⟨h1, cur, _, e2⟩)
      · rcases h with h | h
        · subst h; exact HM.out.og
        · exact HM.out.fo _ (List.mem_cons_self ..) k h
    · have cF := filled1_no g n (.slice ua1 us.length uc1) cs x.f x.a x.bs.length x.c W2 M2.box hxn
      have HM : Hid (Mrg _ _ _ _ _ _ _ _ _ _ _ _ _ _ _) := M2
      have HQ : Hid (Boxed W2 w.heap.size 105 (.func (.func 68) #[] #[.pointer (some ⟨g, 0, none⟩)]) ∧ KO B g wf w W2 ∧ (∀ k, Z k → k < W2.heap.size) ∧ Box W2 W1.heap.size 53 [.int .i64 x.f, .slice x.a x.bs.length x.c]) := ⟨bT2, K2, hZ2, hp2⟩
      have HP : Hid (MP s0 T pre n us out (x :: rest)) := hP
      have HXN : Hid (x.f ≠ n) := hxn
      clear M2 bT2 K2 hZ2 hP hul hu2 hx2 hp2 hxn
      gi_wp2_with (refine ⟨trivial, ?_⟩; gi_at_call 68; refine (callsIn_round cF).mono ?_; rintro e W3 ⟨rfl, hB3⟩)
      have HB3 : Hid (Below W2.heap.size W2 W3) := hB3
      clear hB3 cF cT cO cP0 cP1
      rcases List.eq_nil_or_concat out with ho | ⟨init, q, ho⟩
      · subst ho
        have HLN : Hid (([] : List En).length = L) := hL
        have hL0 : L ≤ 0 := by rw [← hL]; simp
        clear hL
        have hneg : ¬ (0 ≤ la) := by omega
        have hneg2 : decide (0 ≤ la) = false := by simpa using hneg
        obtain ⟨S, hS⟩ : ∃ S : World → Prop, S = fun W' => True := ⟨_, rfl⟩
        have y0 : ∀ {ps : String} (ev : Operand → Value), ev (.tmp 7) = .int .i64 la → ∀ W, S W → (execOp ev { dst := some 18, op := Go.Op.move (Go.Operand.tmp 7), type := 3, pos := ps, after := #[], guard := none }).run Try.prog W = .ok (.value (.int .i64 la)) W := by
          intro ps ev h0 W hSw
          rw [hS] at hSw
          try dsimp only at hSw
          first | (go_simp; done) | (go_simp; with_reducible rfl)
        have y1 : ∀ {ps : String} (ev : Operand → Value), ev (.tmp 18) = .int .i64 la → ev (.const (Go.Value.int Go.IntKind.i64 0)) = (Go.Value.int Go.IntKind.i64 0) → ∀ W, S W → (execOp ev { dst := some 19, op := Go.Op.binOp Go.BinOp.geq 3 (Go.Operand.tmp 18) (Go.Operand.const (Go.Value.int Go.IntKind.i64 0)) 3, type := 4, pos := ps, after := #[{ on := 0, ground := Go.Ground.data }], guard := none }).run Try.prog W = .ok (.value (.bool false)) W := by
          intro ps ev h0 h1 W hSw
          rw [hS] at hSw
          try dsimp only at hSw
          first | (go_simp; done) | (go_simp; with_reducible rfl)
        have y2 : ∀ {ps : String} (ev : Operand → Value), ev (.tmp 19) = .bool false → ∀ W, S W → (execOp ev { dst := some 20, op := Go.Op.move (Go.Operand.tmp 19), type := 4, pos := ps, after := #[{ on := 1, ground := Go.Ground.data }], guard := none }).run Try.prog W = .ok (.value (.bool false)) W := by
          intro ps ev h0 W hSw
          rw [hS] at hSw
          try dsimp only at hSw
          first | (go_simp; done) | (go_simp; with_reducible rfl)
        have y12 : ∀ {ps : String} (ev : Operand → Value), ev (.tmp 20) = .bool false → ev (.const (Go.Value.bool false)) = (Go.Value.bool false) → ∀ W, S W → (execOp ev { dst := some 30, op := Go.Op.pick (Go.Operand.tmp 20) (Go.Operand.tmp 29) (Go.Operand.const (Go.Value.bool false)), type := 4, pos := ps, after := #[{ on := 2, ground := Go.Ground.data }, { on := 11, ground := Go.Ground.data }], guard := none }).run Try.prog W = .ok (.value (.bool false)) W := by
          intro ps ev h0 h1 W hSw
          rw [hS] at hSw
          try dsimp only at hSw
          first | (go_simp; done) | (go_simp; with_reducible rfl)
        have y13 : ∀ {ps : String} (ev : Operand → Value), ev (.tmp 30) = .bool false → ∀ W, S W → (execOp ev { dst := some 17, op := Go.Op.assign (Go.Operand.tmp 30), type := 4, pos := ps, after := #[{ on := 12, ground := Go.Ground.data }, { on := 7, ground := Go.Ground.chain }], guard := none }).run Try.prog W = .ok (.value (.bool false)) W := by
          intro ps ev h0 W hSw
          rw [hS] at hSw
          try dsimp only at hSw
          first | (go_simp; done) | (go_simp; with_reducible rfl)
        refine wpIn_round_class (fun W' => S W' ∧ Below W3.heap.size W3 W') (by kernel_rfl) (by kernel_rfl) (by kernel_rfl) ?hC ?_
        case hC => exact ⟨by rw [hS]; trivial, by repeat (first | with_reducible exact Below.refl _ _ | with_reducible assumption | with_reducible refine Below.drew ?_ | with_reducible refine below_drewN ?_ _ | with_reducible refine below_more ?_ _)⟩
        refine qs_val (by kernel_rfl) (fun W hW => y0 _ rfl W hW.1) ?_
        try simp only [Act.put, List.setIfInBounds_toArray, List.set_cons_zero, List.set_cons_succ]
        refine qs_val (by kernel_rfl) (fun W hW => y1 _ rfl rfl W hW.1) ?_
        try simp only [Act.put, List.setIfInBounds_toArray, List.set_cons_zero, List.set_cons_succ]
        refine qs_val (by kernel_rfl) (fun W hW => y2 _ rfl W hW.1) ?_
        try simp only [Act.put, List.setIfInBounds_toArray, List.set_cons_zero, List.set_cons_succ]
        refine qs_skip (by kernel_rfl) ?_
        try simp only [Act.put, List.setIfInBounds_toArray, List.set_cons_zero, List.set_cons_succ]
        refine qs_skip (by kernel_rfl) ?_
        try simp only [Act.put, List.setIfInBounds_toArray, List.set_cons_zero, List.set_cons_succ]
        refine qs_skip (by kernel_rfl) ?_
        try simp only [Act.put, List.setIfInBounds_toArray, List.set_cons_zero, List.set_cons_succ]
        refine qs_skip (by kernel_rfl) ?_
        try simp only [Act.put, List.setIfInBounds_toArray, List.set_cons_zero, List.set_cons_succ]
        refine qs_skip (by kernel_rfl) ?_
        try simp only [Act.put, List.setIfInBounds_toArray, List.set_cons_zero, List.set_cons_succ]
        refine qs_skip (by kernel_rfl) ?_
        try simp only [Act.put, List.setIfInBounds_toArray, List.set_cons_zero, List.set_cons_succ]
        refine qs_skip (by kernel_rfl) ?_
        try simp only [Act.put, List.setIfInBounds_toArray, List.set_cons_zero, List.set_cons_succ]
        refine qs_skip (by kernel_rfl) ?_
        try simp only [Act.put, List.setIfInBounds_toArray, List.set_cons_zero, List.set_cons_succ]
        refine qs_skip (by kernel_rfl) ?_
        try simp only [Act.put, List.setIfInBounds_toArray, List.set_cons_zero, List.set_cons_succ]
        refine qs_val (by kernel_rfl) (fun W hW => y12 _ rfl rfl W hW.1) ?_
        try simp only [Act.put, List.setIfInBounds_toArray, List.set_cons_zero, List.set_cons_succ]
        refine qs_val (by kernel_rfl) (fun W hW => y13 _ rfl W hW.1) ?_
        try simp only [Act.put, List.setIfInBounds_toArray, List.set_cons_zero, List.set_cons_succ]
        refine qs_nil ?_
        intro W4 hC4
        have HB4 : Hid (Below W2.heap.size W2 W4) := Below.on HB3.out hC4.2
        clear hC4 y0 y1 y2 y12 y13 hS HB3 hneg hneg2
        have M4 := HM.out.moved (V' := W4) (fun k hk _ => HB4.out.block k hk)
        have hp4 := HQ.out.2.2.2.later HB4.out
        have HR : Hid (RowE W4 w.heap.size va (L) vc ([] : List En)) := by have := M4.row; rw [HLN.out] at this; exact this
        have cO : W4.cell? ⟨w.heap.size + 1, 0, none⟩ = some (.slice va (L) vc) := by have := M4.bx.cell; rw [HLN.out] at this; exact this
        have cP0 := hp4.cell 0 rfl
        have cP1 := hp4.cell 1 rfl
        have hw4 : w.heap.size ≤ W4.heap.size := by have := M4.bx.lt; omega
        have HM4 : Hid (Mrg _ _ _ _ _ _ _ _ _ _ _ _ _ _ _) := M4
        clear M4 hp4
        have hx1 : L + 1 ≤ maxLen := by unfold maxLen; omega
        have hx2 : (L + 1) * 32 ≤ 140737488355328 := by omega
        have hx3 : w.heap.size ≤ (W4.alloc (.cells #[.int .i64 x.f, .slice x.a x.bs.length x.c] 53)).heap.size := by simp; omega
        have HRA : Hid ((W4.alloc (.cells #[.int .i64 x.f, .slice x.a x.bs.length x.c] 53)).ownsRow w.heap.size 53 2 (.slice va (L) vc) (L) (ecells ([] : List En))) := HR.out.alloc _
        have HX : Hid (_ ∧ _ ∧ _) := ⟨hx1, hx2, hx3⟩
        have HCN : Hid (∀ _, _) := cells_new W4 [.int .i64 x.f, .slice x.a x.bs.length x.c] 53
        clear hx1 hx2 hx3
        gi_wp2_with (gi_at_builtin; refine wpListIn_append_own_at _ rfl _ _ 44 rfl w.heap.size 53 i0 (.agg #[.int .i64 0, .slice none 0 0]) 2 32 Try.underlying44 hi hz0 hz1 hz2 rfl (by decide) (.slice va (L) vc) (L) (ecells ([] : List En)) rfl HRA.out ⟨W4.heap.size, 0, none⟩ 1 1 [.int .i64 x.f, .slice x.a x.bs.length x.c] rfl rfl HCN.out (ecells1 x) HX.out.1 HX.out.2.1 HX.out.2.2 ?_; intro v' w5 hown hgrow _ hat; obtain ⟨va5, vc5, rfl, hbx5, H5⟩ := mrg_push HM4.out HLN.out hown hgrow hat; have hc5 := hbx5.cell; have hf5 := hbx5.frozen; clear hown hgrow hat hbx5)
        obtain ⟨hr5, hC5, hN5⟩ := H5.out
        have hj := HM4.out.push hC5 hr5 hN5
        have hlen : (([] : List En) ++ [x]).length = L + 1 := by rw [List.length_append, HLN.out]; rfl
        rw [hlen] at hj
        have hne : ∀ k (t : TypeId), t ≠ 53 → (∃ cur fr, W4.heap[k]? = some (.cells cur t fr)) → ¬ lies va k := fun k t ht ⟨cur, fr, e⟩ hl => by
          obtain ⟨_, _, _, c, e2⟩ := owns_lies HR.out hl
          exact ht (is_type e e2)
        have hbT4 := boxed_bel HQ.out.1 HB4.out HQ.out.1.lt
        refine mi_close hj HB4.out.size (HP.out.push HXN.out (fun init q h => by simp at h)) ((Below.heap_setCell w5 ⟨w.heap.size + 1, 0, none⟩ _ w.heap.size (by simp)).trans ((hC5.same _ hbT4.lt (hne _ 105 (by decide) ⟨_, _, hbT4⟩)).trans hbT4)) (((HQ.out.2.1.later hB HB4.out).step hB hC5 (fun k hk => .inl ?_)).step hB (Chg.set (S := fun k => k = w.heap.size + 1) _ _ _ _ rfl) (fun k hk => .inl (by omega))) (((Chg.of_below HB4.out).trans (hC5.mono (fun k _ h => HM4.out.ro k h))).trans (Chg.set _ _ _ _ HM4.out.ob)) HQ.out.2.2.1
        have := (owns_lies HR.out hk).2.1
        omega
      · rw [List.concat_eq_append] at ho
        subst ho
        obtain ⟨i, hi0⟩ : ∃ i, init.length = i := ⟨_, rfl⟩
        have hLi : L = i + 1 := by rw [← hL, List.length_append, hi0]; rfl
        obtain rfl : la = (i : Int) := by omega
        obtain ⟨gl, rfl⟩ : ∃ gl, va = some ⟨gl, 0, none⟩ := by
          rcases HM.out.row.at with e | ⟨gl, e, _⟩
          · have h1 := HM.out.row.nil0 e
            have h2 := HM.out.row.max.1
            rw [List.length_append] at h2
            simp at h2
            omega
          · exact ⟨gl, e⟩
        obtain ⟨t, ht⟩ : ∃ t, q.f + (q.bs.length : Int) = t := ⟨_, rfl⟩
        have hbq := HP.out.bd q (by simp)
        have cS := fun W => spanOf_walk q.f q.a q.bs.length q.c W t (by rw [← ht]; exact wrap64_id (by omega) (by omega))
        have hqc := fun (W : World) (hW : Below W2.heap.size W2 W) => (HM.out.moved (V' := W) (fun k hk _ => hW.block k hk)).row.cellE init.length q (by simp)
        rw [hi0] at hqc
        obtain ⟨S, hS⟩ : ∃ S : World → Prop, S = fun W' => W'.cell? ⟨w.heap.size + 1, 0, none⟩ = some (.slice (some ⟨gl, 0, none⟩) L vc) ∧ W'.cell? ⟨W1.heap.size, 0, none⟩ = some (.int .i64 x.f) ∧ W'.cell? ⟨W1.heap.size, 1, none⟩ = some (.slice x.a x.bs.length x.c) ∧ W'.cell? ⟨gl, i * 2, none⟩ = some (.int .i64 q.f) ∧ W'.cell? ⟨gl, i * 2 + 1, none⟩ = some (.slice q.a q.bs.length q.c) := ⟨_, rfl⟩
        have HSK : Hid (∀ W, Below W2.heap.size W2 W → S W) := fun W hW => by
          have h0 := (HM.out.moved (V' := W) (fun k hk _ => hW.block k hk)).bx.cell
          have h1 := HQ.out.2.2.2.later hW
          rw [hL] at h0
          rw [hS]
          exact ⟨h0, h1.cell 0 rfl, h1.cell 1 rfl, (hqc W hW).1, (hqc W hW).2⟩
        have HQB : Hid (q.f + (q.bs.length : Int) = t ∧ init.length = i ∧ (init ++ [q]).length = L) := ⟨ht, hi0, hL⟩
        have hge : (0 : Int) ≤ (i : Int) := by omega
        have hii : (i : Int) < (L : Int) := by omega
        have hii2 : i < L := by omega
        clear ht hi0 hL hqc hbq hla hLi
        have hfl := fun W => fld1 q.f t W
        by_cases htx : t = x.f
        · have HTX : Hid (t = x.f) := htx
          have tb : (t == x.f) = true := by simpa using htx
          have tb2 : decide (t = x.f) = true := by simpa using htx
          clear htx
          have y0 : ∀ {ps : String} (ev : Operand → Value), ev (.tmp 7) = .int .i64 (i : Int) → ∀ W, S W → (execOp ev { dst := some 18, op := Go.Op.move (Go.Operand.tmp 7), type := 3, pos := ps, after := #[], guard := none }).run Try.prog W = .ok (.value (.int .i64 (i : Int))) W := by
            intro ps ev h0 W hSw
            rw [hS] at hSw
            try dsimp only at hSw
            first | (go_simp; done) | (go_simp; with_reducible rfl)
          have y1 : ∀ {ps : String} (ev : Operand → Value), ev (.tmp 18) = .int .i64 (i : Int) → ev (.const (Go.Value.int Go.IntKind.i64 0)) = (Go.Value.int Go.IntKind.i64 0) → ∀ W, S W → (execOp ev { dst := some 19, op := Go.Op.binOp Go.BinOp.geq 3 (Go.Operand.tmp 18) (Go.Operand.const (Go.Value.int Go.IntKind.i64 0)) 3, type := 4, pos := ps, after := #[{ on := 0, ground := Go.Ground.data }], guard := none }).run Try.prog W = .ok (.value (.bool true)) W := by
            intro ps ev h0 h1 W hSw
            rw [hS] at hSw
            try dsimp only at hSw
            first | (go_simp; done) | (go_simp; with_reducible rfl)
          have y2 : ∀ {ps : String} (ev : Operand → Value), ev (.tmp 19) = .bool true → ∀ W, S W → (execOp ev { dst := some 20, op := Go.Op.move (Go.Operand.tmp 19), type := 4, pos := ps, after := #[{ on := 1, ground := Go.Ground.data }], guard := none }).run Try.prog W = .ok (.value (.bool true)) W := by
            intro ps ev h0 W hSw
            rw [hS] at hSw
            try dsimp only at hSw
            first | (go_simp; done) | (go_simp; with_reducible rfl)
          have y3 : ∀ {ps : String} (ev : Operand → Value), ev (.tmp 5) = .pointer (some ⟨w.heap.size + 1, 0, none⟩) → ∀ W, S W → (execOp ev { dst := some 21, op := Go.Op.load 44 (Go.Operand.tmp 5), type := 44, pos := ps, after := #[{ on := 2, ground := Go.Ground.guard }], guard := some (2, true) }).run Try.prog W = .ok (.value (.slice (some ⟨gl, 0, none⟩) L vc)) W := by
            intro ps ev h0 W hSw
            rw [hS] at hSw
            try dsimp only at hSw
            first | (go_simp; done) | (go_simp; with_reducible rfl)
          have y4 : ∀ {ps : String} (ev : Operand → Value), ev (.tmp 7) = .int .i64 (i : Int) → ∀ W, S W → (execOp ev { dst := some 22, op := Go.Op.move (Go.Operand.tmp 7), type := 3, pos := ps, after := #[{ on := 2, ground := Go.Ground.guard }], guard := some (2, true) }).run Try.prog W = .ok (.value (.int .i64 (i : Int))) W := by
            intro ps ev h0 W hSw
            rw [hS] at hSw
            try dsimp only at hSw
            first | (go_simp; done) | (go_simp; with_reducible rfl)
          have y5 : ∀ {ps : String} (ev : Operand → Value), ev (.tmp 21) = .slice (some ⟨gl, 0, none⟩) L vc → ev (.tmp 22) = .int .i64 (i : Int) → ∀ W, S W → (execOp ev { dst := some 23, op := Go.Op.indexAddr 44 (Go.Operand.tmp 21) (Go.Operand.tmp 22), type := 0, pos := ps, after := #[{ on := 3, ground := Go.Ground.data }, { on := 4, ground := Go.Ground.data }, { on := 2, ground := Go.Ground.guard }], guard := some (2, true) }).run Try.prog W = .ok (.value (.pointer (some ⟨gl, i * 2, none⟩))) W := by
            intro ps ev h0 h1 W hSw
            rw [hS] at hSw
            try dsimp only at hSw
            first | (go_simp; done) | (go_simp; with_reducible rfl)
          have y6 : ∀ {ps : String} (ev : Operand → Value), ev (.tmp 23) = .pointer (some ⟨gl, i * 2, none⟩) → ∀ W, S W → (execOp ev { dst := some 24, op := Go.Op.load 53 (Go.Operand.tmp 23), type := 53, pos := ps, after := #[{ on := 5, ground := Go.Ground.data }, { on := 2, ground := Go.Ground.guard }], guard := some (2, true) }).run Try.prog W = .ok (.value (.agg #[.int .i64 q.f, .slice q.a q.bs.length q.c])) W := by
            intro ps ev h0 W hSw
            rw [hS] at hSw
            try dsimp only at hSw
            first | (go_simp; done) | (go_simp; with_reducible rfl)
          have y8 : ∀ {ps : String} (ev : Operand → Value), ev (.tmp 25) = .agg #[.int .i64 q.f, .int .i64 t] → ∀ W, S W → (execOp ev { dst := some 26, op := Go.Op.field 39 (Go.Operand.tmp 25) 1, type := 3, pos := ps, after := #[{ on := 7, ground := Go.Ground.data }, { on := 2, ground := Go.Ground.guard }], guard := some (2, true) }).run Try.prog W = .ok (.value (.int .i64 t)) W := by
            intro ps ev h0 W hSw
            rw [hS] at hSw
            try dsimp only at hSw
            first | (go_simp; done) | (go_simp; with_reducible rfl)
          have y9 : ∀ {ps : String} (ev : Operand → Value), ev (.tmp 6) = .pointer (some ⟨W1.heap.size, 0, none⟩) → ∀ W, S W → (execOp ev { dst := some 27, op := Go.Op.fieldAddr 53 (Go.Operand.tmp 6) 0, type := 0, pos := ps, after := #[{ on := 2, ground := Go.Ground.guard }], guard := some (2, true) }).run Try.prog W = .ok (.value (.pointer (some ⟨W1.heap.size, 0, none⟩))) W := by
            intro ps ev h0 W hSw
            rw [hS] at hSw
            try dsimp only at hSw
            first | (go_simp; done) | (go_simp; with_reducible rfl)
          have y10 : ∀ {ps : String} (ev : Operand → Value), ev (.tmp 27) = .pointer (some ⟨W1.heap.size, 0, none⟩) → ∀ W, S W → (execOp ev { dst := some 28, op := Go.Op.load 3 (Go.Operand.tmp 27), type := 3, pos := ps, after := #[{ on := 9, ground := Go.Ground.data }, { on := 2, ground := Go.Ground.guard }], guard := some (2, true) }).run Try.prog W = .ok (.value (.int .i64 x.f)) W := by
            intro ps ev h0 W hSw
            rw [hS] at hSw
            try dsimp only at hSw
            first | (go_simp; done) | (go_simp; with_reducible rfl)
          have y11 : ∀ {ps : String} (ev : Operand → Value), ev (.tmp 26) = .int .i64 t → ev (.tmp 28) = .int .i64 x.f → ∀ W, S W → (execOp ev { dst := some 29, op := Go.Op.binOp Go.BinOp.eql 3 (Go.Operand.tmp 26) (Go.Operand.tmp 28) 3, type := 4, pos := ps, after := #[{ on := 8, ground := Go.Ground.data }, { on := 10, ground := Go.Ground.data }, { on := 2, ground := Go.Ground.guard }], guard := some (2, true) }).run Try.prog W = .ok (.value (.bool true)) W := by
            intro ps ev h0 h1 W hSw
            rw [hS] at hSw
            try dsimp only at hSw
            first | (go_simp; done) | (go_simp; with_reducible rfl)
          have y12 : ∀ {ps : String} (ev : Operand → Value), ev (.tmp 20) = .bool true → ev (.tmp 29) = .bool true → ev (.const (Go.Value.bool false)) = (Go.Value.bool false) → ∀ W, S W → (execOp ev { dst := some 30, op := Go.Op.pick (Go.Operand.tmp 20) (Go.Operand.tmp 29) (Go.Operand.const (Go.Value.bool false)), type := 4, pos := ps, after := #[{ on := 2, ground := Go.Ground.data }, { on := 11, ground := Go.Ground.data }], guard := none }).run Try.prog W = .ok (.value (.bool true)) W := by
            intro ps ev h0 h1 h2 W hSw
            rw [hS] at hSw
            try dsimp only at hSw
            first | (go_simp; done) | (go_simp; with_reducible rfl)
          have y13 : ∀ {ps : String} (ev : Operand → Value), ev (.tmp 30) = .bool true → ∀ W, S W → (execOp ev { dst := some 17, op := Go.Op.assign (Go.Operand.tmp 30), type := 4, pos := ps, after := #[{ on := 12, ground := Go.Ground.data }, { on := 7, ground := Go.Ground.chain }], guard := none }).run Try.prog W = .ok (.value (.bool true)) W := by
            intro ps ev h0 W hSw
            rw [hS] at hSw
            try dsimp only at hSw
            first | (go_simp; done) | (go_simp; with_reducible rfl)
          refine wpIn_round_class (fun W' => S W' ∧ Below W3.heap.size W3 W') (by kernel_rfl) (by kernel_rfl) (by kernel_rfl) ?hC ?_
          case hC => exact ⟨HSK.out _ (Below.on HB3.out (by repeat (first | with_reducible exact Below.refl _ _ | with_reducible assumption | with_reducible refine Below.drew ?_ | with_reducible refine below_drewN ?_ _ | with_reducible refine below_more ?_ _))), by repeat (first | with_reducible exact Below.refl _ _ | with_reducible assumption | with_reducible refine Below.drew ?_ | with_reducible refine below_drewN ?_ _ | with_reducible refine below_more ?_ _)⟩
          refine qs_val (by kernel_rfl) (fun W hW => y0 _ rfl W hW.1) ?_
          try simp only [Act.put, List.setIfInBounds_toArray, List.set_cons_zero, List.set_cons_succ]
          refine qs_val (by kernel_rfl) (fun W hW => y1 _ rfl rfl W hW.1) ?_
          try simp only [Act.put, List.setIfInBounds_toArray, List.set_cons_zero, List.set_cons_succ]
          refine qs_val (by kernel_rfl) (fun W hW => y2 _ rfl W hW.1) ?_
          try simp only [Act.put, List.setIfInBounds_toArray, List.set_cons_zero, List.set_cons_succ]
          refine qs_val (by kernel_rfl) (fun W hW => y3 _ rfl W hW.1) ?_
          try simp only [Act.put, List.setIfInBounds_toArray, List.set_cons_zero, List.set_cons_succ]
          refine qs_val (by kernel_rfl) (fun W hW => y4 _ rfl W hW.1) ?_
          try simp only [Act.put, List.setIfInBounds_toArray, List.set_cons_zero, List.set_cons_succ]
          refine qs_val (by kernel_rfl) (fun W hW => y5 _ rfl rfl W hW.1) ?_
          try simp only [Act.put, List.setIfInBounds_toArray, List.set_cons_zero, List.set_cons_succ]
          refine qs_val (by kernel_rfl) (fun W hW => y6 _ rfl W hW.1) ?_
          try simp only [Act.put, List.setIfInBounds_toArray, List.set_cons_zero, List.set_cons_succ]
          refine qs_enter (v := .agg #[.int .i64 q.f, .int .i64 t]) (f := 64) (args := #[.agg #[.int .i64 q.f, .slice q.a q.bs.length q.c]]) (by kernel_rfl) ?hy7q1 ?hc7q1 ?rest7q1
          case hy7q1 => (intro w hSw; (try dsimp only at hSw); first | (go_simp; done) | (go_simp; with_reducible rfl))
          case hc7q1 => (intro w hSw; refine (cS w).mono ?_; rintro e w1 ⟨rfl, hB⟩; exact ⟨rfl, HSK.out _ (Below.on HB3.out (Below.on hSw.2 hB)), Below.on hSw.2 hB⟩)
          try simp only [Act.put, List.setIfInBounds_toArray, List.set_cons_zero, List.set_cons_succ]
          refine qs_val (by kernel_rfl) (fun W hW => y8 _ rfl W hW.1) ?_
          try simp only [Act.put, List.setIfInBounds_toArray, List.set_cons_zero, List.set_cons_succ]
          refine qs_val (by kernel_rfl) (fun W hW => y9 _ rfl W hW.1) ?_
          try simp only [Act.put, List.setIfInBounds_toArray, List.set_cons_zero, List.set_cons_succ]
          refine qs_val (by kernel_rfl) (fun W hW => y10 _ rfl W hW.1) ?_
          try simp only [Act.put, List.setIfInBounds_toArray, List.set_cons_zero, List.set_cons_succ]
          refine qs_val (by kernel_rfl) (fun W hW => y11 _ rfl rfl W hW.1) ?_
          try simp only [Act.put, List.setIfInBounds_toArray, List.set_cons_zero, List.set_cons_succ]
          refine qs_val (by kernel_rfl) (fun W hW => y12 _ rfl rfl rfl W hW.1) ?_
          try simp only [Act.put, List.setIfInBounds_toArray, List.set_cons_zero, List.set_cons_succ]
          refine qs_val (by kernel_rfl) (fun W hW => y13 _ rfl W hW.1) ?_
          try simp only [Act.put, List.setIfInBounds_toArray, List.set_cons_zero, List.set_cons_succ]
          refine qs_nil ?_
          intro W4 hC4
          have HB4 : Hid (Below W2.heap.size W2 W4) := Below.on HB3.out hC4.2
          clear hC4 y0 y1 y2 y3 y4 y5 y6 y8 y9 y10 y11 y12 y13 HB3 tb tb2 cS
          gi_wp2
          have z0 : ∀ {ps : String} (ev : Operand → Value), ev (.tmp 5) = .pointer (some ⟨w.heap.size + 1, 0, none⟩) → ∀ W, S W → (execOp ev { dst := some 31, op := Go.Op.load 44 (Go.Operand.tmp 5), type := 44, pos := ps, after := #[], guard := none }).run Try.prog W = .ok (.value (.slice (some ⟨gl, 0, none⟩) L vc)) W := by
            intro ps ev h0 W hSw
            rw [hS] at hSw
            try dsimp only at hSw
            first | (go_simp; done) | (go_simp; with_reducible rfl)
          have z1 : ∀ {ps : String} (ev : Operand → Value), ev (.tmp 7) = .int .i64 (i : Int) → ∀ W, S W → (execOp ev { dst := some 32, op := Go.Op.move (Go.Operand.tmp 7), type := 3, pos := ps, after := #[], guard := none }).run Try.prog W = .ok (.value (.int .i64 (i : Int))) W := by
            intro ps ev h0 W hSw
            rw [hS] at hSw
            try dsimp only at hSw
            first | (go_simp; done) | (go_simp; with_reducible rfl)
          have z2 : ∀ {ps : String} (ev : Operand → Value), ev (.tmp 5) = .pointer (some ⟨w.heap.size + 1, 0, none⟩) → ∀ W, S W → (execOp ev { dst := some 33, op := Go.Op.load 44 (Go.Operand.tmp 5), type := 44, pos := ps, after := #[], guard := none }).run Try.prog W = .ok (.value (.slice (some ⟨gl, 0, none⟩) L vc)) W := by
            intro ps ev h0 W hSw
            rw [hS] at hSw
            try dsimp only at hSw
            first | (go_simp; done) | (go_simp; with_reducible rfl)
          have z3 : ∀ {ps : String} (ev : Operand → Value), ev (.tmp 7) = .int .i64 (i : Int) → ∀ W, S W → (execOp ev { dst := some 34, op := Go.Op.move (Go.Operand.tmp 7), type := 3, pos := ps, after := #[], guard := none }).run Try.prog W = .ok (.value (.int .i64 (i : Int))) W := by
            intro ps ev h0 W hSw
            rw [hS] at hSw
            try dsimp only at hSw
            first | (go_simp; done) | (go_simp; with_reducible rfl)
          have z4 : ∀ {ps : String} (ev : Operand → Value), ev (.tmp 33) = .slice (some ⟨gl, 0, none⟩) L vc → ev (.tmp 34) = .int .i64 (i : Int) → ∀ W, S W → (execOp ev { dst := some 35, op := Go.Op.indexAddr 44 (Go.Operand.tmp 33) (Go.Operand.tmp 34), type := 0, pos := ps, after := #[{ on := 2, ground := Go.Ground.data }, { on := 3, ground := Go.Ground.data }], guard := none }).run Try.prog W = .ok (.value (.pointer (some ⟨gl, i * 2, none⟩))) W := by
            intro ps ev h0 h1 W hSw
            rw [hS] at hSw
            try dsimp only at hSw
            first | (go_simp; done) | (go_simp; with_reducible rfl)
          have z5 : ∀ {ps : String} (ev : Operand → Value), ev (.tmp 35) = .pointer (some ⟨gl, i * 2, none⟩) → ∀ W, S W → (execOp ev { dst := some 36, op := Go.Op.fieldAddr 53 (Go.Operand.tmp 35) 1, type := 0, pos := ps, after := #[{ on := 4, ground := Go.Ground.data }], guard := none }).run Try.prog W = .ok (.value (.pointer (some ⟨gl, i * 2 + 1, none⟩))) W := by
            intro ps ev h0 W hSw
            rw [hS] at hSw
            try dsimp only at hSw
            first | (go_simp; done) | (go_simp; with_reducible rfl)
          have z6 : ∀ {ps : String} (ev : Operand → Value), ev (.tmp 36) = .pointer (some ⟨gl, i * 2 + 1, none⟩) → ∀ W, S W → (execOp ev { dst := some 37, op := Go.Op.load 26 (Go.Operand.tmp 36), type := 26, pos := ps, after := #[{ on := 5, ground := Go.Ground.data }], guard := none }).run Try.prog W = .ok (.value (.slice q.a q.bs.length q.c)) W := by
            intro ps ev h0 W hSw
            rw [hS] at hSw
            try dsimp only at hSw
            first | (go_simp; done) | (go_simp; with_reducible rfl)
          have z7 : ∀ {ps : String} (ev : Operand → Value), ev (.tmp 6) = .pointer (some ⟨W1.heap.size, 0, none⟩) → ∀ W, S W → (execOp ev { dst := some 38, op := Go.Op.fieldAddr 53 (Go.Operand.tmp 6) 1, type := 0, pos := ps, after := #[], guard := none }).run Try.prog W = .ok (.value (.pointer (some ⟨W1.heap.size, 1, none⟩))) W := by
            intro ps ev h0 W hSw
            rw [hS] at hSw
            try dsimp only at hSw
            first | (go_simp; done) | (go_simp; with_reducible rfl)
          have z8 : ∀ {ps : String} (ev : Operand → Value), ev (.tmp 38) = .pointer (some ⟨W1.heap.size, 1, none⟩) → ∀ W, S W → (execOp ev { dst := some 39, op := Go.Op.load 26 (Go.Operand.tmp 38), type := 26, pos := ps, after := #[{ on := 7, ground := Go.Ground.data }], guard := none }).run Try.prog W = .ok (.value (.slice x.a x.bs.length x.c)) W := by
            intro ps ev h0 W hSw
            rw [hS] at hSw
            try dsimp only at hSw
            first | (go_simp; done) | (go_simp; with_reducible rfl)
          refine wpIn_round_X S 12 (by kernel_rfl) (by kernel_rfl) (HSK.out _ (Below.on HB4.out (by repeat (first | with_reducible exact Below.refl _ _ | with_reducible assumption | with_reducible refine Below.drew ?_ | with_reducible refine below_drewN ?_ _ | with_reducible refine below_more ?_ _)))) (fun hHeld => ?_)
          obtain ⟨W5, hW5⟩ : ∃ W5, W4.drew = W5 := ⟨_, rfl⟩
          have HB5 : Hid (Below W2.heap.size W2 W5) := by rw [← hW5]; exact Below.drew HB4.out
          rw [hW5] at hHeld ⊢
          clear hW5
          refine wpX_take (i := 0) (oi := { dst := some 31, op := Go.Op.load 44 (Go.Operand.tmp 5), type := 44, pos := _, after := #[], guard := none }) (v := .slice (some ⟨gl, 0, none⟩) L vc) rfl (by kernel_rfl) (by kernel_rfl) (by kernel_rfl) (fun _ _ _ h => h) ⟨_, rfl, { on := 0, ground := Go.Ground.phase }, by simp, by rfl, rfl⟩ (by decide) (Or.inl ⟨by rfl, z0 _ rfl⟩) (by assumption) ?_
          try simp only [Act.put, List.setIfInBounds_toArray, List.set_cons_zero, List.set_cons_succ]
          refine wpX_take (i := 1) (oi := { dst := some 32, op := Go.Op.move (Go.Operand.tmp 7), type := 3, pos := _, after := #[], guard := none }) (v := .int .i64 (i : Int)) rfl (by kernel_rfl) (by kernel_rfl) (by kernel_rfl) (fun _ _ _ h => h) ⟨_, rfl, { on := 1, ground := Go.Ground.phase }, by simp, by rfl, rfl⟩ (by decide) (Or.inl ⟨by rfl, z1 _ rfl⟩) (by assumption) ?_
          try simp only [Act.put, List.setIfInBounds_toArray, List.set_cons_zero, List.set_cons_succ]
          refine wpX_take (i := 2) (oi := { dst := some 33, op := Go.Op.load 44 (Go.Operand.tmp 5), type := 44, pos := _, after := #[], guard := none }) (v := .slice (some ⟨gl, 0, none⟩) L vc) rfl (by kernel_rfl) (by kernel_rfl) (by kernel_rfl) (fun _ _ _ h => h) ⟨_, rfl, { on := 2, ground := Go.Ground.phase }, by simp, by rfl, rfl⟩ (by decide) (Or.inl ⟨by rfl, z2 _ rfl⟩) (by assumption) ?_
          try simp only [Act.put, List.setIfInBounds_toArray, List.set_cons_zero, List.set_cons_succ]
          refine wpX_take (i := 3) (oi := { dst := some 34, op := Go.Op.move (Go.Operand.tmp 7), type := 3, pos := _, after := #[], guard := none }) (v := .int .i64 (i : Int)) rfl (by kernel_rfl) (by kernel_rfl) (by kernel_rfl) (fun _ _ _ h => h) ⟨_, rfl, { on := 3, ground := Go.Ground.phase }, by simp, by rfl, rfl⟩ (by decide) (Or.inl ⟨by rfl, z3 _ rfl⟩) (by assumption) ?_
          try simp only [Act.put, List.setIfInBounds_toArray, List.set_cons_zero, List.set_cons_succ]
          refine wpX_take (i := 4) (oi := { dst := some 35, op := Go.Op.indexAddr 44 (Go.Operand.tmp 33) (Go.Operand.tmp 34), type := 0, pos := _, after := #[{ on := 2, ground := Go.Ground.data }, { on := 3, ground := Go.Ground.data }], guard := none }) (v := .pointer (some ⟨gl, i * 2, none⟩)) rfl (by kernel_rfl) (by kernel_rfl) (by kernel_rfl) (fun _ _ _ h => h) ⟨_, rfl, { on := 4, ground := Go.Ground.phase }, by simp, by rfl, rfl⟩ (by decide) (Or.inl ⟨by rfl, z4 _ rfl rfl⟩) (by assumption) ?_
          try simp only [Act.put, List.setIfInBounds_toArray, List.set_cons_zero, List.set_cons_succ]
          refine wpX_take (i := 5) (oi := { dst := some 36, op := Go.Op.fieldAddr 53 (Go.Operand.tmp 35) 1, type := 0, pos := _, after := #[{ on := 4, ground := Go.Ground.data }], guard := none }) (v := .pointer (some ⟨gl, i * 2 + 1, none⟩)) rfl (by kernel_rfl) (by kernel_rfl) (by kernel_rfl) (fun _ _ _ h => h) ⟨_, rfl, { on := 5, ground := Go.Ground.phase }, by simp, by rfl, rfl⟩ (by decide) (Or.inl ⟨by rfl, z5 _ rfl⟩) (by assumption) ?_
          try simp only [Act.put, List.setIfInBounds_toArray, List.set_cons_zero, List.set_cons_succ]
          refine wpX_take (i := 6) (oi := { dst := some 37, op := Go.Op.load 26 (Go.Operand.tmp 36), type := 26, pos := _, after := #[{ on := 5, ground := Go.Ground.data }], guard := none }) (v := .slice q.a q.bs.length q.c) rfl (by kernel_rfl) (by kernel_rfl) (by kernel_rfl) (fun _ _ _ h => h) ⟨_, rfl, { on := 6, ground := Go.Ground.phase }, by simp, by rfl, rfl⟩ (by decide) (Or.inl ⟨by rfl, z6 _ rfl⟩) (by assumption) ?_
          try simp only [Act.put, List.setIfInBounds_toArray, List.set_cons_zero, List.set_cons_succ]
          refine wpX_take (i := 7) (oi := { dst := some 38, op := Go.Op.fieldAddr 53 (Go.Operand.tmp 6) 1, type := 0, pos := _, after := #[], guard := none }) (v := .pointer (some ⟨W1.heap.size, 1, none⟩)) rfl (by kernel_rfl) (by kernel_rfl) (by kernel_rfl) (fun _ _ _ h => h) ⟨_, rfl, { on := 7, ground := Go.Ground.phase }, by simp, by rfl, rfl⟩ (by decide) (Or.inl ⟨by rfl, z7 _ rfl⟩) (by assumption) ?_
          try simp only [Act.put, List.setIfInBounds_toArray, List.set_cons_zero, List.set_cons_succ]
          refine wpX_take (i := 8) (oi := { dst := some 39, op := Go.Op.load 26 (Go.Operand.tmp 38), type := 26, pos := _, after := #[{ on := 7, ground := Go.Ground.data }], guard := none }) (v := .slice x.a x.bs.length x.c) rfl (by kernel_rfl) (by kernel_rfl) (by kernel_rfl) (fun _ _ _ h => h) ⟨_, rfl, { on := 8, ground := Go.Ground.phase }, by simp, by rfl, rfl⟩ (by decide) (Or.inl ⟨by rfl, z8 _ rfl⟩) (by assumption) ?_
          try simp only [Act.put, List.setIfInBounds_toArray, List.set_cons_zero, List.set_cons_succ]
          have M5 := HM.out.moved (V' := W5) (fun k hk _ => HB5.out.block k hk)
          have hq5 := M5.fam.mine q (by simp)
          have hx5 := M5.fam.mine x (by simp)
          have hub := HP.out.ub
          rw [tot_cons, tot_app, tot_cons] at hub
          refine wpX_one (i := 9) (o := { dst := some 40, op := Go.Op.call { callee := Go.Callee.builtin Go.Builtin.append, args := #[Go.Operand.tmp 37, Go.Operand.tmp 39], argTypes := #[26, 26] }, type := 26, pos := _, after := #[{ on := 6, ground := Go.Ground.data }, { on := 8, ground := Go.Ground.data }], guard := none }) (by kernel_rfl) rfl (fun K hK => ?_)
          refine step_appA rfl (.tmp 37) (.tmp 39) rfl B q.a q.bs.length q.c q.bs x.a x.bs.length x.c x.bs rfl rfl hq5.row hx5.ok.1.1 rfl hx5.ok.1.2.1 (by omega) (by have := HQ.out.2.1.kp.bel.size; have := HB5.out.size; omega) ?_
          intro qa qc w6 hr6 hC6 hN6
          have hlq : (q.bs ++ x.bs).length = q.bs.length + x.bs.length := List.length_append
          have hj := M5.join hC6 (by rw [hlq]; exact hr6) (by rw [hlq]; omega) hN6
          rw [hlq, HQB.out.2.1] at hj
          have hq5n : ∀ k (t : TypeId), t ≠ 5 → (∃ cur fr, W5.heap[k]? = some (.cells cur t fr)) → ¬ lies q.a k := fun k t ht ⟨cur, fr, e⟩ hl => by
            obtain ⟨_, _, _, c, e2⟩ := hq5.lies hl
            exact ht (is_type e e2)
          have hgl5 : ∃ cur fr, W5.heap[gl]? = some (.cells cur 53 fr) := by
            obtain ⟨_, _, _, cur, e⟩ := owns_lies M5.row (k := gl) ⟨_, _, rfl⟩
            exact ⟨_, _, e⟩
          have hp5 := HQ.out.2.2.2.later HB5.out
          have hS6 : S w6 := by
            have := HSK.out _ HB5.out
            rw [hS] at this ⊢
            have e1 : w6.heap[w.heap.size + 1]? = W5.heap[w.heap.size + 1]? := hC6.same _ M5.bx.lt (hq5n _ 44 (by decide) ⟨_, _, M5.bx⟩)
            have e2 : w6.heap[W1.heap.size]? = W5.heap[W1.heap.size]? := hC6.same _ hp5.lt (hq5n _ 53 (by decide) ⟨_, _, hp5⟩)
            have e3 : w6.heap[gl]? = W5.heap[gl]? := by
              obtain ⟨cur, fr, e⟩ := hgl5
              exact hC6.same _ (Array.getElem?_eq_some_iff.1 e).1 (hq5n _ 53 (by decide) ⟨_, _, e⟩)
            exact ⟨(World.cell?_of_block (w := W5) e1).trans this.1, (World.cell?_of_block (w := W5) e2).trans this.2.1, (World.cell?_of_block (w := W5) e2).trans this.2.2.1, (World.cell?_of_block (w := W5) e3).trans this.2.2.2.1, (World.cell?_of_block (w := W5) e3).trans this.2.2.2.2⟩
          have hrow6 : RowE w6 w.heap.size (some ⟨gl, 0, none⟩) (init ++ [q]).length vc (init ++ [q]) := ownsRow_moved M5.row (fun k hk hlk => hC6.same k hk (by
            obtain ⟨_, _, _, cur, e2⟩ := owns_lies M5.row hlk
            exact hq5n k 53 (by decide) ⟨_, _, e2⟩))
          have zc := (hrow6.cellE init.length q (by simp)).2
          rw [HQB.out.2.1] at zc
          have zf := hrow6.frozen (i * 2 + 1)
          have hown5 : ∀ k, lies q.a k → Z k ∨ (k < W0.heap.size ∧ ¬ R k) := fun k hk => M5.fo q (by simp) k hk
          have hbT5 := boxed_bel HQ.out.1 HB5.out HQ.out.1.lt
          have hK5 := HQ.out.2.1.later hB HB5.out
          have hCC : Chg (fun k => Z k ∨ (k < W0.heap.size ∧ ¬ R k)) W2 (w6.setCell ⟨gl, i * 2 + 1, none⟩ (.slice qa (q.bs.length + x.bs.length) qc)) := ((Chg.of_below HB5.out).trans (hC6.mono (fun k _ h => hown5 k h))).trans (Chg.set _ _ _ _ (M5.ro gl ⟨_, _, rfl⟩))
          have hgT : gl ≠ w.heap.size := fun e => by obtain ⟨cur, fr, e2⟩ := hgl5; rw [e] at e2; exact absurd (is_type hbT5 e2) (by decide)
          have hTT : Boxed (w6.setCell ⟨gl, i * 2 + 1, none⟩ (.slice qa (q.bs.length + x.bs.length) qc)) w.heap.size 105 (.func (.func 68) #[] #[.pointer (some ⟨g, 0, none⟩)]) := (Below.heap_setCell w6 ⟨gl, _, none⟩ _ w.heap.size (fun e => hgT e.symm)).trans ((hC6.same _ hbT5.lt (hq5n _ 105 (by decide) ⟨_, _, hbT5⟩)).trans hbT5)
          have hKK : KO B g wf w (w6.setCell ⟨gl, i * 2 + 1, none⟩ (.slice qa (q.bs.length + x.bs.length) qc)) := (hK5.step hB hC6 (fun k hk => by obtain ⟨_, h1, _, cur, e2⟩ := hq5.lies hk; exact .inr (.inr ⟨h1, cur, _, e2⟩))).step hB (Chg.set (S := fun k => k = gl) _ _ _ _ rfl) (fun k hk => .inl (by have h1 := (owns_lies M5.row (k := gl) ⟨_, _, rfl⟩).2.1; omega))
          have HE : Hid (∃ Z', Mine W0.heap.size R Z W2 Z' (w6.setCell ⟨gl, i * 2 + 1, none⟩ (.slice qa (q.bs.length + x.bs.length) qc)) ∧ MI w wf B w.heap.size W0.heap.size g R cs s0 T (pre ++ [x]) Z' (w6.setCell ⟨gl, i * 2 + 1, none⟩ (.slice qa (q.bs.length + x.bs.length) qc))) := mi_close hj HB5.out.size (HP.out.join qa qc HXN.out (HQB.out.1.trans HTX.out)) hTT hKK hCC HQ.out.2.2.1
          clear hj hq5 hx5 hr6 hC6 hN6 hgl5 hp5 hrow6 hown5 hbT5 hK5 hCC hTT hKK M5 hq5n hgT hub
          refine hK.out _ _ ⟨fun _ => hS6, ?_⟩
          clear hK K hHeld
          try simp only [Act.put, List.setIfInBounds_toArray, List.set_cons_zero, List.set_cons_succ]
          refine wpX_one (i := 10) (o := { dst := some 41, op := Go.Op.indexAddr 44 (Go.Operand.tmp 31) (Go.Operand.tmp 32), type := 0, pos := _, after := #[{ on := 0, ground := Go.Ground.data }, { on := 1, ground := Go.Ground.data }, { on := 0, ground := Go.Ground.phase }, { on := 1, ground := Go.Ground.phase }, { on := 2, ground := Go.Ground.phase }, { on := 3, ground := Go.Ground.phase }, { on := 4, ground := Go.Ground.phase }, { on := 5, ground := Go.Ground.phase }, { on := 6, ground := Go.Ground.phase }, { on := 7, ground := Go.Ground.phase }, { on := 8, ground := Go.Ground.phase }, { on := 9, ground := Go.Ground.phase }], guard := none }) (by kernel_rfl) rfl (fun K hK => ?_)
          rw [if_pos (by rfl)]
          go_simp
          refine hK.out _ _ ⟨fun _ => hS6, ?_⟩
          clear hK K
          try simp only [Act.put, List.setIfInBounds_toArray, List.set_cons_zero, List.set_cons_succ]
          refine wpX_one (i := 11) (o := { dst := some 42, op := Go.Op.fieldAddr 53 (Go.Operand.tmp 41) 1, type := 0, pos := _, after := #[{ on := 10, ground := Go.Ground.data }, { on := 0, ground := Go.Ground.phase }, { on := 1, ground := Go.Ground.phase }, { on := 2, ground := Go.Ground.phase }, { on := 3, ground := Go.Ground.phase }, { on := 4, ground := Go.Ground.phase }, { on := 5, ground := Go.Ground.phase }, { on := 6, ground := Go.Ground.phase }, { on := 7, ground := Go.Ground.phase }, { on := 8, ground := Go.Ground.phase }, { on := 9, ground := Go.Ground.phase }], guard := none }) (by kernel_rfl) rfl (fun K hK => ?_)
          rw [if_pos (by rfl)]
          go_simp
          refine hK.out _ _ ⟨fun _ => hS6, ?_⟩
          clear hK K
          try simp only [Act.put, List.setIfInBounds_toArray, List.set_cons_zero, List.set_cons_succ]
          refine wpX_one (i := 12) (o := { dst := none, op := Go.Op.store 26 (Go.Operand.tmp 42) (Go.Operand.tmp 40), type := 0, pos := _, after := #[{ on := 11, ground := Go.Ground.data }, { on := 9, ground := Go.Ground.data }, { on := 9, ground := Go.Ground.chain }, { on := 0, ground := Go.Ground.phase }, { on := 1, ground := Go.Ground.phase }, { on := 2, ground := Go.Ground.phase }, { on := 3, ground := Go.Ground.phase }, { on := 4, ground := Go.Ground.phase }, { on := 5, ground := Go.Ground.phase }, { on := 6, ground := Go.Ground.phase }, { on := 7, ground := Go.Ground.phase }, { on := 8, ground := Go.Ground.phase }, { on := 9, ground := Go.Ground.phase }], guard := none }) (by kernel_rfl) rfl (fun K hK => ?_)
          rw [if_pos (by rfl)]
          go_simp
          refine hK.out _ _ ⟨fun h => absurd rfl h, ?_⟩
          clear hK K
          refine wpXN_done (by kernel_rfl) ?_ _
          try simp only [Act.put, List.setIfInBounds_toArray, List.set_cons_zero, List.set_cons_succ]
          clear z0 z1 z2 z3 z4 z5 z6 z7 z8 hS6 zc zf hS HSK
          gi_wp2
          exact HE.out
        · have HTX : Hid (¬ t = x.f) := htx
          have tb : (t == x.f) = false := by simpa using htx
          have tb2 : decide (t = x.f) = false := by simpa using htx
          clear htx
          have y0 : ∀ {ps : String} (ev : Operand → Value), ev (.tmp 7) = .int .i64 (i : Int) → ∀ W, S W → (execOp ev { dst := some 18, op := Go.Op.move (Go.Operand.tmp 7), type := 3, pos := ps, after := #[], guard := none }).run Try.prog W = .ok (.value (.int .i64 (i : Int))) W := by
            intro ps ev h0 W hSw
            rw [hS] at hSw
            try dsimp only at hSw
            first | (go_simp; done) | (go_simp; with_reducible rfl)
          have y1 : ∀ {ps : String} (ev : Operand → Value), ev (.tmp 18) = .int .i64 (i : Int) → ev (.const (Go.Value.int Go.IntKind.i64 0)) = (Go.Value.int Go.IntKind.i64 0) → ∀ W, S W → (execOp ev { dst := some 19, op := Go.Op.binOp Go.BinOp.geq 3 (Go.Operand.tmp 18) (Go.Operand.const (Go.Value.int Go.IntKind.i64 0)) 3, type := 4, pos := ps, after := #[{ on := 0, ground := Go.Ground.data }], guard := none }).run Try.prog W = .ok (.value (.bool true)) W := by
            intro ps ev h0 h1 W hSw
            rw [hS] at hSw
            try dsimp only at hSw
            first | (go_simp; done) | (go_simp; with_reducible rfl)
          have y2 : ∀ {ps : String} (ev : Operand → Value), ev (.tmp 19) = .bool true → ∀ W, S W → (execOp ev { dst := some 20, op := Go.Op.move (Go.Operand.tmp 19), type := 4, pos := ps, after := #[{ on := 1, ground := Go.Ground.data }], guard := none }).run Try.prog W = .ok (.value (.bool true)) W := by
            intro ps ev h0 W hSw
            rw [hS] at hSw
            try dsimp only at hSw
            first | (go_simp; done) | (go_simp; with_reducible rfl)
          have y3 : ∀ {ps : String} (ev : Operand → Value), ev (.tmp 5) = .pointer (some ⟨w.heap.size + 1, 0, none⟩) → ∀ W, S W → (execOp ev { dst := some 21, op := Go.Op.load 44 (Go.Operand.tmp 5), type := 44, pos := ps, after := #[{ on := 2, ground := Go.Ground.guard }], guard := some (2, true) }).run Try.prog W = .ok (.value (.slice (some ⟨gl, 0, none⟩) L vc)) W := by
            intro ps ev h0 W hSw
            rw [hS] at hSw
            try dsimp only at hSw
            first | (go_simp; done) | (go_simp; with_reducible rfl)
          have y4 : ∀ {ps : String} (ev : Operand → Value), ev (.tmp 7) = .int .i64 (i : Int) → ∀ W, S W → (execOp ev { dst := some 22, op := Go.Op.move (Go.Operand.tmp 7), type := 3, pos := ps, after := #[{ on := 2, ground := Go.Ground.guard }], guard := some (2, true) }).run Try.prog W = .ok (.value (.int .i64 (i : Int))) W := by
            intro ps ev h0 W hSw
            rw [hS] at hSw
            try dsimp only at hSw
            first | (go_simp; done) | (go_simp; with_reducible rfl)
          have y5 : ∀ {ps : String} (ev : Operand → Value), ev (.tmp 21) = .slice (some ⟨gl, 0, none⟩) L vc → ev (.tmp 22) = .int .i64 (i : Int) → ∀ W, S W → (execOp ev { dst := some 23, op := Go.Op.indexAddr 44 (Go.Operand.tmp 21) (Go.Operand.tmp 22), type := 0, pos := ps, after := #[{ on := 3, ground := Go.Ground.data }, { on := 4, ground := Go.Ground.data }, { on := 2, ground := Go.Ground.guard }], guard := some (2, true) }).run Try.prog W = .ok (.value (.pointer (some ⟨gl, i * 2, none⟩))) W := by
            intro ps ev h0 h1 W hSw
            rw [hS] at hSw
            try dsimp only at hSw
            first | (go_simp; done) | (go_simp; with_reducible rfl)
          have y6 : ∀ {ps : String} (ev : Operand → Value), ev (.tmp 23) = .pointer (some ⟨gl, i * 2, none⟩) → ∀ W, S W → (execOp ev { dst := some 24, op := Go.Op.load 53 (Go.Operand.tmp 23), type := 53, pos := ps, after := #[{ on := 5, ground := Go.Ground.data }, { on := 2, ground := Go.Ground.guard }], guard := some (2, true) }).run Try.prog W = .ok (.value (.agg #[.int .i64 q.f, .slice q.a q.bs.length q.c])) W := by
            intro ps ev h0 W hSw
            rw [hS] at hSw
            try dsimp only at hSw
            first | (go_simp; done) | (go_simp; with_reducible rfl)
          have y8 : ∀ {ps : String} (ev : Operand → Value), ev (.tmp 25) = .agg #[.int .i64 q.f, .int .i64 t] → ∀ W, S W → (execOp ev { dst := some 26, op := Go.Op.field 39 (Go.Operand.tmp 25) 1, type := 3, pos := ps, after := #[{ on := 7, ground := Go.Ground.data }, { on := 2, ground := Go.Ground.guard }], guard := some (2, true) }).run Try.prog W = .ok (.value (.int .i64 t)) W := by
            intro ps ev h0 W hSw
            rw [hS] at hSw
            try dsimp only at hSw
            first | (go_simp; done) | (go_simp; with_reducible rfl)
          have y9 : ∀ {ps : String} (ev : Operand → Value), ev (.tmp 6) = .pointer (some ⟨W1.heap.size, 0, none⟩) → ∀ W, S W → (execOp ev { dst := some 27, op := Go.Op.fieldAddr 53 (Go.Operand.tmp 6) 0, type := 0, pos := ps, after := #[{ on := 2, ground := Go.Ground.guard }], guard := some (2, true) }).run Try.prog W = .ok (.value (.pointer (some ⟨W1.heap.size, 0, none⟩))) W := by
            intro ps ev h0 W hSw
            rw [hS] at hSw
            try dsimp only at hSw
            first | (go_simp; done) | (go_simp; with_reducible rfl)
          have y10 : ∀ {ps : String} (ev : Operand → Value), ev (.tmp 27) = .pointer (some ⟨W1.heap.size, 0, none⟩) → ∀ W, S W → (execOp ev { dst := some 28, op := Go.Op.load 3 (Go.Operand.tmp 27), type := 3, pos := ps, after := #[{ on := 9, ground := Go.Ground.data }, { on := 2, ground := Go.Ground.guard }], guard := some (2, true) }).run Try.prog W = .ok (.value (.int .i64 x.f)) W := by
            intro ps ev h0 W hSw
            rw [hS] at hSw
            try dsimp only at hSw
            first | (go_simp; done) | (go_simp; with_reducible rfl)
          have y11 : ∀ {ps : String} (ev : Operand → Value), ev (.tmp 26) = .int .i64 t → ev (.tmp 28) = .int .i64 x.f → ∀ W, S W → (execOp ev { dst := some 29, op := Go.Op.binOp Go.BinOp.eql 3 (Go.Operand.tmp 26) (Go.Operand.tmp 28) 3, type := 4, pos := ps, after := #[{ on := 8, ground := Go.Ground.data }, { on := 10, ground := Go.Ground.data }, { on := 2, ground := Go.Ground.guard }], guard := some (2, true) }).run Try.prog W = .ok (.value (.bool false)) W := by
            intro ps ev h0 h1 W hSw
            rw [hS] at hSw
            try dsimp only at hSw
            first | (go_simp; done) | (go_simp; with_reducible rfl)
          have y12 : ∀ {ps : String} (ev : Operand → Value), ev (.tmp 20) = .bool true → ev (.tmp 29) = .bool false → ev (.const (Go.Value.bool false)) = (Go.Value.bool false) → ∀ W, S W → (execOp ev { dst := some 30, op := Go.Op.pick (Go.Operand.tmp 20) (Go.Operand.tmp 29) (Go.Operand.const (Go.Value.bool false)), type := 4, pos := ps, after := #[{ on := 2, ground := Go.Ground.data }, { on := 11, ground := Go.Ground.data }], guard := none }).run Try.prog W = .ok (.value (.bool false)) W := by
            intro ps ev h0 h1 h2 W hSw
            rw [hS] at hSw
            try dsimp only at hSw
            first | (go_simp; done) | (go_simp; with_reducible rfl)
          have y13 : ∀ {ps : String} (ev : Operand → Value), ev (.tmp 30) = .bool false → ∀ W, S W → (execOp ev { dst := some 17, op := Go.Op.assign (Go.Operand.tmp 30), type := 4, pos := ps, after := #[{ on := 12, ground := Go.Ground.data }, { on := 7, ground := Go.Ground.chain }], guard := none }).run Try.prog W = .ok (.value (.bool false)) W := by
            intro ps ev h0 W hSw
            rw [hS] at hSw
            try dsimp only at hSw
            first | (go_simp; done) | (go_simp; with_reducible rfl)
          refine wpIn_round_class (fun W' => S W' ∧ Below W3.heap.size W3 W') (by kernel_rfl) (by kernel_rfl) (by kernel_rfl) ?hC ?_
          case hC => exact ⟨HSK.out _ (Below.on HB3.out (by repeat (first | with_reducible exact Below.refl _ _ | with_reducible assumption | with_reducible refine Below.drew ?_ | with_reducible refine below_drewN ?_ _ | with_reducible refine below_more ?_ _))), by repeat (first | with_reducible exact Below.refl _ _ | with_reducible assumption | with_reducible refine Below.drew ?_ | with_reducible refine below_drewN ?_ _ | with_reducible refine below_more ?_ _)⟩
          refine qs_val (by kernel_rfl) (fun W hW => y0 _ rfl W hW.1) ?_
          try simp only [Act.put, List.setIfInBounds_toArray, List.set_cons_zero, List.set_cons_succ]
          refine qs_val (by kernel_rfl) (fun W hW => y1 _ rfl rfl W hW.1) ?_
          try simp only [Act.put, List.setIfInBounds_toArray, List.set_cons_zero, List.set_cons_succ]
          refine qs_val (by kernel_rfl) (fun W hW => y2 _ rfl W hW.1) ?_
          try simp only [Act.put, List.setIfInBounds_toArray, List.set_cons_zero, List.set_cons_succ]
          refine qs_val (by kernel_rfl) (fun W hW => y3 _ rfl W hW.1) ?_
          try simp only [Act.put, List.setIfInBounds_toArray, List.set_cons_zero, List.set_cons_succ]
          refine qs_val (by kernel_rfl) (fun W hW => y4 _ rfl W hW.1) ?_
          try simp only [Act.put, List.setIfInBounds_toArray, List.set_cons_zero, List.set_cons_succ]
          refine qs_val (by kernel_rfl) (fun W hW => y5 _ rfl rfl W hW.1) ?_
          try simp only [Act.put, List.setIfInBounds_toArray, List.set_cons_zero, List.set_cons_succ]
          refine qs_val (by kernel_rfl) (fun W hW => y6 _ rfl W hW.1) ?_
          try simp only [Act.put, List.setIfInBounds_toArray, List.set_cons_zero, List.set_cons_succ]
          refine qs_enter (v := .agg #[.int .i64 q.f, .int .i64 t]) (f := 64) (args := #[.agg #[.int .i64 q.f, .slice q.a q.bs.length q.c]]) (by kernel_rfl) ?hy7q2 ?hc7q2 ?rest7q2
          case hy7q2 => (intro w hSw; (try dsimp only at hSw); first | (go_simp; done) | (go_simp; with_reducible rfl))
          case hc7q2 => (intro w hSw; refine (cS w).mono ?_; rintro e w1 ⟨rfl, hB⟩; exact ⟨rfl, HSK.out _ (Below.on HB3.out (Below.on hSw.2 hB)), Below.on hSw.2 hB⟩)
          try simp only [Act.put, List.setIfInBounds_toArray, List.set_cons_zero, List.set_cons_succ]
          refine qs_val (by kernel_rfl) (fun W hW => y8 _ rfl W hW.1) ?_
          try simp only [Act.put, List.setIfInBounds_toArray, List.set_cons_zero, List.set_cons_succ]
          refine qs_val (by kernel_rfl) (fun W hW => y9 _ rfl W hW.1) ?_
          try simp only [Act.put, List.setIfInBounds_toArray, List.set_cons_zero, List.set_cons_succ]
          refine qs_val (by kernel_rfl) (fun W hW => y10 _ rfl W hW.1) ?_
          try simp only [Act.put, List.setIfInBounds_toArray, List.set_cons_zero, List.set_cons_succ]
          refine qs_val (by kernel_rfl) (fun W hW => y11 _ rfl rfl W hW.1) ?_
          try simp only [Act.put, List.setIfInBounds_toArray, List.set_cons_zero, List.set_cons_succ]
          refine qs_val (by kernel_rfl) (fun W hW => y12 _ rfl rfl rfl W hW.1) ?_
          try simp only [Act.put, List.setIfInBounds_toArray, List.set_cons_zero, List.set_cons_succ]
          refine qs_val (by kernel_rfl) (fun W hW => y13 _ rfl W hW.1) ?_
          try simp only [Act.put, List.setIfInBounds_toArray, List.set_cons_zero, List.set_cons_succ]
          refine qs_nil ?_
          intro W4 hC4
          have HB4 : Hid (Below W2.heap.size W2 W4) := Below.on HB3.out hC4.2
          have HLN : Hid ((init ++ [q]).length = L) := HQB.out.2.2
          clear hC4 y0 y1 y2 y3 y4 y5 y6 y8 y9 y10 y11 y12 y13 HB3 tb tb2 cS hS HSK
          have M4 := HM.out.moved (V' := W4) (fun k hk _ => HB4.out.block k hk)
          have hp4 := HQ.out.2.2.2.later HB4.out
          have HR : Hid (RowE W4 w.heap.size (some ⟨gl, 0, none⟩) (L) vc (init ++ [q])) := by have := M4.row; rw [HLN.out] at this; exact this
          have cO : W4.cell? ⟨w.heap.size + 1, 0, none⟩ = some (.slice (some ⟨gl, 0, none⟩) (L) vc) := by have := M4.bx.cell; rw [HLN.out] at this; exact this
          have cP0 := hp4.cell 0 rfl
          have cP1 := hp4.cell 1 rfl
          have hw4 : w.heap.size ≤ W4.heap.size := by have := M4.bx.lt; omega
          have HM4 : Hid (Mrg _ _ _ _ _ _ _ _ _ _ _ _ _ _ _) := M4
          clear M4 hp4
          have hx1 : L + 1 ≤ maxLen := by unfold maxLen; omega
          have hx2 : (L + 1) * 32 ≤ 140737488355328 := by omega
          have hx3 : w.heap.size ≤ (W4.alloc (.cells #[.int .i64 x.f, .slice x.a x.bs.length x.c] 53)).heap.size := by simp; omega
          have HRA : Hid ((W4.alloc (.cells #[.int .i64 x.f, .slice x.a x.bs.length x.c] 53)).ownsRow w.heap.size 53 2 (.slice (some ⟨gl, 0, none⟩) (L) vc) (L) (ecells (init ++ [q]))) := HR.out.alloc _
          have HX : Hid (_ ∧ _ ∧ _) := ⟨hx1, hx2, hx3⟩
          have HCN : Hid (∀ _, _) := cells_new W4 [.int .i64 x.f, .slice x.a x.bs.length x.c] 53
          clear hx1 hx2 hx3
          gi_wp2_with (gi_at_builtin; refine wpListIn_append_own_at _ rfl _ _ 44 rfl w.heap.size 53 i0 (.agg #[.int .i64 0, .slice none 0 0]) 2 32 Try.underlying44 hi hz0 hz1 hz2 rfl (by decide) (.slice (some ⟨gl, 0, none⟩) (L) vc) (L) (ecells (init ++ [q])) rfl HRA.out ⟨W4.heap.size, 0, none⟩ 1 1 [.int .i64 x.f, .slice x.a x.bs.length x.c] rfl rfl HCN.out (ecells1 x) HX.out.1 HX.out.2.1 HX.out.2.2 ?_; intro v' w5 hown hgrow _ hat; obtain ⟨va5, vc5, rfl, hbx5, H5⟩ := mrg_push HM4.out HLN.out hown hgrow hat; have hc5 := hbx5.cell; have hf5 := hbx5.frozen; clear hown hgrow hat hbx5)
          obtain ⟨hr5, hC5, hN5⟩ := H5.out
          have hj := HM4.out.push hC5 hr5 hN5
          have hlen : ((init ++ [q]) ++ [x]).length = L + 1 := by rw [List.length_append, HLN.out]; rfl
          rw [hlen] at hj
          have hne : ∀ k (t : TypeId), t ≠ 53 → (∃ cur fr, W4.heap[k]? = some (.cells cur t fr)) → ¬ lies (some ⟨gl, 0, none⟩) k := fun k t ht ⟨cur, fr, e⟩ hl => by
            obtain ⟨_, _, _, c, e2⟩ := owns_lies HR.out hl
            exact ht (is_type e e2)
          have hbT4 := boxed_bel HQ.out.1 HB4.out HQ.out.1.lt
          refine mi_close hj HB4.out.size (HP.out.push HXN.out (fun init' q' h => by have h2 := List.append_inj_right' h rfl; simp at h2; subst h2; rw [HQB.out.1]; exact HTX.out)) ((Below.heap_setCell w5 ⟨w.heap.size + 1, 0, none⟩ _ w.heap.size (by simp)).trans ((hC5.same _ hbT4.lt (hne _ 105 (by decide) ⟨_, _, hbT4⟩)).trans hbT4)) (((HQ.out.2.1.later hB HB4.out).step hB hC5 (fun k hk => .inl ?_)).step hB (Chg.set (S := fun k => k = w.heap.size + 1) _ _ _ _ rfl) (fun k hk => .inl (by omega))) (((Chg.of_below HB4.out).trans (hC5.mono (fun k _ h => HM4.out.ro k h))).trans (Chg.set _ _ _ _ HM4.out.ob)) HQ.out.2.2.1
          have := (owns_lies HR.out hk).2.1
          omega
  case done =>
    rintro D ys Z V hD hz hys hMI hK
    obtain rfl := hys.symm
    obtain ⟨n, us, out, rest0, va, vc, ua1, uc1, hM, hP⟩ := hMI.ex
    obtain rfl : rest0 = [] := by
      have := congrArg List.length hP.tt
      simp at this
      exact this
    have cO := hM.bx.cell
    have HM : Hid (_ ∧ _) := ⟨hM, hP⟩
    have HKP := hMI.kp
    clear hI0 bT bO hMI hM hP hseq
    gi_wp2
    refine ⟨by simp, .inl ⟨_, _, rfl, run_takeDeferred hK, ?_⟩⟩
    refine ⟨_, results_tmp rfl _ _ _, n, us, out, va, vc, ua1, uc1, _, rfl, HM.out.1.moved (fun k hk ho => World.putObj_heap_other (fun e => ?_)), HM.out.2, (HKP.step hB (Chg.of_grown (grownBy_putObj' _ _ _) (fun k e => by cases e; rfl) : Chg (fun k => k = D) _ _) (fun k e => .inl (by subst e; omega))).kp, (HKP.step hB (Chg.of_grown (grownBy_putObj' _ _ _) (fun k e => by cases e; rfl) : Chg (fun k => k = D) _ _) (fun k e => .inl (by subst e; omega))).ot⟩
    rcases ho with h | h
    · exact (hz k h).2.2 e
    · omega
  case stop =>
    rintro D c pre Z V hD hz hpre h hK
    exact h.elim
end Go.Proofs.Ytdodagpkkjpdiaa
