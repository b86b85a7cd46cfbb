/- The contract of the document's Copy. -/
import Derived.Test.YtkbgpbhlcmainaaOld
import Derived.WalkSmall
namespace Go.Proofs.Ytkbgpbhlcmainaa
open Go.ChangeShapes Go.WideShapes Go.ChangeAt Go.RowKit
set_option linter.unusedVariables false

theorem Row.of_heap {w w' : World} {B : Nat} {va : Option Addr} {L vc : Nat} {bs : List Int} (h : Row w B va L vc bs) (e : w'.heap = w.heap) : Row w' B va L vc bs := by
  refine ⟨h.1, ?_⟩
  rw [e]
  exact h.2
theorem RowE.of_heap {w w' : World} {B : Nat} {va : Option Addr} {L vc : Nat} {es : List En} (h : RowE w B va L vc es) (e : w'.heap = w.heap) : RowE w' B va L vc es := by
  refine ⟨h.1, ?_⟩
  rw [e]
  exact h.2
/-- Bytes of one's own, behind an append to the row. -/
theorem Row.grown {w w' : World} {B B' : Nat} {va : Option Addr} {L vc : Nat} {bs : List Int} {vb : Option Addr} {n c : Nat} {es : List En} (h : Row w B va L vc bs) (hE : RowE w B' vb n c es) (hg : w.grownBy w' (Value.slice vb n c).ownBlock) : Row w' B va L vc bs := by
  refine World.ownsRow.kept h hg ?_
  rcases h.at with rfl | ⟨g, rfl, _, _, cur, hc⟩
  · exact .inl rfl
  · right
    rcases hE.at with rfl | ⟨g', rfl, _, _, cur', hc'⟩
    · simp [Value.ownBlock]
    · simp only [Value.ownBlock, ne_eq, Option.some.injEq]
      intro e
      subst e
      rw [hc] at hc'
      cases hc'
theorem En.mine.grown {w w' : World} {B B' : Nat} {x : En} {vb : Option Addr} {n c : Nat} {es : List En} (h : x.mine w B) (hE : RowE w B' vb n c es) (hg : w.grownBy w' (Value.slice vb n c).ownBlock) : x.mine w' B := ⟨h.1.grown hE hg, h.2⟩

/-- What Copy has laid, up to a place. -/
def CopiedTo (w0 wr : World) (l : List Dg) (va : Option Addr) (vc i : Nat) (es : List En) : Prop :=
  RowE wr w0.heap.size va i vc es ∧ es.map En.dg = l.take i ∧ (∀ x ∈ es, x.mine wr w0.heap.size) ∧ Parted es ∧ Below w0.heap.size w0 wr

theorem copied_next {w wr w1 X w2 : World} {l : List Dg} {va : Option Addr} {vc i : Nat} {es : List En} {a1 : Option Addr} {c1 : Nat} {x : En} {va2 : Option Addr} {vc2 : Nat} (HL : CopiedTo w wr l va vc i es) (hb1 : Below wr.heap.size wr w1) (hbX : Below w1.heap.size w1 X) (hE : RowE X w.heap.size va i vc es) (hg : X.grownBy w2 (Value.slice va i vc).ownBlock)
    (hE2 : RowE w2 w.heap.size va2 (i + 1) vc2 (es ++ [⟨a1, c1, x.bs, x.t⟩])) (hb2 : Below w.heap.size X w2) (hR1 : Row w1 wr.heap.size a1 x.bs.length c1 x.bs) (hx : l[i]?.getD z0 = x.dg) (hil : i < l.length) (hB : Byts x.bs) (hs : x.bs.length ≤ 140737488351232) (ht : I64 x.t) : CopiedTo w w2 l va2 vc2 (i + 1) (es ++ [⟨a1, c1, x.bs, x.t⟩]) := by
  obtain ⟨h1, h2, h3, h4, h5⟩ := HL
  have hbr : Below wr.heap.size wr X := Below.on hb1 hbX
  refine ⟨hE2, ?_, ?_, parted_snoc (x := ⟨a1, c1, x.bs, x.t⟩) h4 h3 hR1, (h5.trans (hbr.mono h5.size)).trans hb2⟩
  · rw [List.map_append, h2, take_snoc hil hx]; rfl
  · intro y hy
    rcases List.mem_append.1 hy with hy | hy
    · exact ((h3 y hy).later hbr).grown hE hg
    · simp at hy; subst hy
      exact En.mine.grown (x := ⟨a1, c1, x.bs, x.t⟩) ⟨(hR1.later hbX).mono h5.size, hB, hs, ht⟩ hE hg

/-- Bytes appended to none, at a step of a region that draws. -/
theorem step_app0 {w : World} {ops : Array Oper} {o : Oper} {a : Act} {K : Act → World → Prop} {Q : Exit → Act → World → Prop} {E : Prop} (hgd : o.guard = none) (s x : Operand)
    (ho : o.op = .call { callee := .builtin .append, args := #[s, x], argTypes := #[24, 24] })
    (B : Nat) (va : Option Addr) (vc : Nat) (xa : Option Addr) (m xc : Nat) (news : List Int) (hs : a.eval s = .slice va 0 vc) (hx : a.eval x = .slice xa m xc)
    (hR : Row w B va 0 vc []) (hn : BytesAt w xa news) (hl : news.length = m) (h0 : xa = none → xc = 0) (hb : m ≤ 140737488355328) (hB : B ≤ w.heap.size)
    (h : ∀ va' vc' w', Row w' B va' m vc' news → Below B w w' → K (a.put o.dst (.slice va' m vc')) w') :
    if Region.wanted o (yielded ops a.tmps) = true then Oper.wp Try.prog o a w K Q else E :=
  step_app hgd s x ho B va 0 vc [] xa m xc news hs hx hR hn hl h0 (by omega) hB (fun va' vc' w' h1 h2 h3 => by
    have hz : 0 + m = m := Nat.zero_add m
    rw [hz] at h1 ⊢
    exact h va' vc' w' (by simpa using h1) h2)

set_option maxRecDepth 100000 in
set_option maxHeartbeats 4000000 in
theorem copy_any (A : Option Addr) (n c : Nat) (l : List Dg) (w : World) (hD : DatsAt w A n c l) :
    Calls Try.prog 11 #[.slice A n c] w fun e w' => ∃ va vc, e = .returned (.slice va n vc) ∧ Deep w' w.heap.size va n vc l ∧ Below w.heap.size w w' := by
  have hr := hD.reach
  have HD : Hid (DatsAt w A n c l) := hD
  clear hD
  go_enter Try.func11, Try.ntmps11
  go_wp2_with fail
  go_loopw [3, 4] (fun vf vi wr => ∃ (i : Nat) (va : Option Addr) (vc : Nat) (es : List En), vi = .int .i64 i ∧ vf = .slice va i vc ∧ i ≤ n ∧ Hid (CopiedTo w wr l va vc i es))
    (fun _ vi _ => n - (intOf vi).toNat)
  case atStart => exact ⟨0, none, 0, [], rfl, rfl, Nat.zero_le _, RowE.nil _ _, by simp, fun x hx => by simp at hx, by simp [Parted], Below.refl _ _⟩
  case round =>
    obtain ⟨i, va, vc, es, rfl, rfl, hin, HL⟩ := hrel
    by_cases hlt : i < n
    · have hlt' : (i : Int) < (n : Int) := by omega
      obtain ⟨b, o, x, rfl, hx, hok, hc0, hc1⟩ := HD.out.get i hlt
      have hxl := hok.1.1
      have hbr := HL.out.2.2.2.2
      have HX : Hid (l[i]?.getD z0 = x.dg ∧ Byts x.bs ∧ I64 x.t ∧ (x.a = none → x.c = 0) ∧ i < l.length) := ⟨hx, hok.1.2.1, hok.2.2, hok.2.1, by rw [HD.out.len]; exact hlt⟩
      have HC : Hid (∀ W, Below w.heap.size w W → W.cell? ⟨b, o + i * 2, none⟩ = some (.slice x.a x.bs.length x.c) ∧ W.cell? ⟨b, o + i * 2 + 1, none⟩ = some (.int .i64 x.t) ∧ BytesAt W x.a x.bs) := fun W hW =>
        ⟨(hW.cell (p := ⟨b, o + i * 2, none⟩) (lt_of_cell hc0)).trans hc0, (hW.cell (p := ⟨b, o + i * 2 + 1, none⟩) (lt_of_cell hc1)).trans hc1, hok.1.later hW⟩
      have hz := hbr.size
      clear hx hok hc0 hc1
      go_upto_region 5 with fail
      go_region_held3 (fun W => W.cell? ⟨b, o + i * 2, none⟩ = some (.slice x.a x.bs.length x.c) ∧ W.cell? ⟨b, o + i * 2 + 1, none⟩ = some (.int .i64 x.t) ∧ Below w.heap.size w W)
        (refine ⟨(HC.out _ ?_).1, (HC.out _ ?_).2.1, ?_⟩ <;> (repeat (first | with_reducible assumption | with_reducible refine Below.drew ?_ | with_reducible refine below_drewN ?_ _ | with_reducible refine below_more ?_ _)))
        (first
          | (refine step_app0 rfl (.tmp 12) (.tmp 17) rfl wr.heap.size (some ⟨wr.heap.size, 0, none⟩) 0 x.a x.bs.length x.c x.bs rfl rfl (Row.of_heap (row_empty wr wr.heap.size (Nat.le_refl _)) (by rfl)) (HC.out _ (by repeat (first | with_reducible assumption | with_reducible refine Below.drew ?_ | with_reducible refine below_drewN ?_ _ | with_reducible refine below_more ?_ _))).2.2 rfl HX.out.2.2.2.1 (by omega) (Below.size (B := wr.heap.size) (w := wr) (by repeat (first | with_reducible exact Below.refl _ _ | with_reducible refine Below.drew ?_ | with_reducible refine below_drewN ?_ _ | with_reducible refine below_more ?_ _))) ?_; intro a1 c1 w1 hR1 hb1'; have hb1 : Below wr.heap.size wr w1 := Below.trans (by repeat (first | with_reducible exact Below.refl _ _ | with_reducible refine Below.drew ?_ | with_reducible refine below_drewN ?_ _ | with_reducible refine below_more ?_ _)) hb1'; have hb01 : Below w.heap.size w w1 := hbr.trans (hb1.mono hz))
          | (refine step_own rfl (.tmp 11) (.tmp 25) rfl w.heap.size va i vc es (some ⟨w1.heap.size, 0, none⟩) 1 1 [⟨a1, c1, x.bs, x.t⟩] rfl rfl (RowE.of_heap ((HL.out.1.below hb1 (Nat.le_refl _)).alloc (.cells #[.slice a1 x.bs.length c1, .int .i64 x.t] 26)) (by rfl)) (Below.size (B := w.heap.size) (w := w) (by repeat (first | with_reducible assumption | with_reducible refine Below.drew ?_ | with_reducible refine below_drewN ?_ _ | with_reducible refine below_more ?_ _))) (EntsAt.of_heap (ents_one w1 ⟨a1, c1, x.bs, x.t⟩) (by rfl)) rfl (fun h => by cases h) (by omega) ?_; intro va2 vc2 w2 hE2 hg2 hb2; have HN : Hid (CopiedTo w w2 l va2 vc2 (i + 1) (es ++ [⟨a1, c1, x.bs, x.t⟩])) := copied_next HL.out hb1 (by repeat (first | with_reducible exact Below.refl _ _ | with_reducible refine Below.drew ?_ | with_reducible refine below_drewN ?_ _ | with_reducible refine below_more ?_ _)) (RowE.of_heap ((HL.out.1.below hb1 (Nat.le_refl _)).alloc (.cells #[.slice a1 x.bs.length c1, .int .i64 x.t] 26)) (by rfl)) hg2 hE2 hb2 hR1 HX.out.1 HX.out.2.2.2.2 HX.out.2.1 hxl HX.out.2.2.1; have hb02 : Below w.heap.size w w2 := HN.out.2.2.2.2))
      clear hR1 hb1' hb1 hb01 hE2 hg2 hb2 hb02 hbr
      go_wp2_with fail
      go_roundw
      case rel => exact ⟨i + 1, va2, vc2, _, by go_num, rfl, by omega, HN⟩
      case measure => simp [intOf]; omega
    · obtain rfl : i = n := by omega
      go_wp2_with fail
      go_ret
      obtain ⟨h1, h2, h3, h4, h5⟩ := HL.out
      rw [take_all HD.out] at h2
      exact ⟨va, vc, rfl, ⟨es, h2, hr, h1, h3, h4⟩, h5⟩
end Go.Proofs.Ytkbgpbhlcmainaa
