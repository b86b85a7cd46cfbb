/- GQ: HeadP HeadA. -/
import Derived.Test.YtkigcdmlkmcdcaaZ
import Derived.Test.YtkigcdmlkmcdcaaGO
import Derived.Test.YtkigcdmlkmcdcaaGM
import Derived.Test.YtkigcdmlkmcdcaaGP
import Derived.Test.YtkigcdmlkmcdcaaGRT
import Derived.Test.YtkigcdmlkmcdcaaGW
import Derived.Lib.SlBytesConst
/- What heads asks of recv, in plain numbers. -/
namespace Go.Proofs.Ytkigcdmlkmcdcaa
open Go.ChangeShapes Go.WideShapes Go.ChangeAt Go.RowKit
set_option linter.unusedVariables false
set_option linter.unusedSimpArgs false

def s1 : Seg := { sp := 0, dp := 0, sq := 102, ak := 0, fl := 0, wn := 0, ur := 0, ms := 0, sc := 0, so := false, st := false, va := 0, ec := 0, sk := [], da := [99, 100] }
def s2 : Seg := { sp := 0, dp := 0, sq := 100, ak := 0, fl := 0, wn := 0, ur := 0, ms := 0, sc := 0, so := false, st := false, va := 0, ec := 0, sk := [], da := [97, 98] }
def r0 : Pl.Rv := Pl.newR 10 0 100 7 false true
def a1 : Pl.Rv := ⟨⟨0, [], [(2, [99, 100])]⟩, 10, 0, 10, 0, false, true, -1, false, [(2, 4)], 100, 7, false⟩
def a2 : Pl.Rv := ⟨⟨4, [97, 98, 99, 100], []⟩, 10, 0, 10, 0, false, true, -1, false, [], 100, 7, false⟩
theorem r0_is : r0 = ⟨⟨0, [], []⟩, 10, 0, 10, 0, false, true, -1, false, [], 100, 7, false⟩ := by rfl
theorem a1_is : (if Pl.oldB r0 (segOf s1) = true then r0 else Pl.intoR r0 (segOf s1)) = a1 := by rfl
theorem a2_is : (if Pl.oldB (Pl.tellR a1) (segOf s2) = true then (Pl.tellR a1) else Pl.intoR (Pl.tellR a1) (segOf s2)) = a2 := by rfl
theorem b1_is : (if Pl.oldB r0 (segOf s1) = true then r0.first else blkL r0 (segOf s1)) = [(2, 4)] := by decide
theorem b2_is : (if Pl.oldB (Pl.tellR a1) (segOf s2) = true then (Pl.tellR a1).first else blkL (Pl.tellR a1) (segOf s2)) = [] := by decide
theorem t1_is : (tellS a1 [(2, 4)]).ak = 100 ∧ (tellS a1 [(2, 4)]).sk = [(102, 104)] := by decide
theorem t2_is : (tellS a2 []).ak = 104 := by decide
theorem rd_is : Pl.rdN (Pl.tellR a2) 3 = 3 ∧ (Pl.readR (Pl.tellR a2) 3).s.u = [100] ∧ (Pl.tellR a2).s.u = [97, 98, 99, 100] ∧ r0.window = 10 := by decide

theorem r0_ok : r0.Ok := by
 rw [r0_is]
 refine { n0 := ?_, nf := ?_, c1 := ?_, cm := ?_, s0 := ?_, s14 := ?_, uc := ?_, un := ?_, f1 := ?_, fn := ?_, ff := ?_, e0 := ?_, er := ?_, lat := ?_, lim := ?_, lfin := ?_, fst := ?_, nod := ?_, dn := ?_, dl := ?_ }
 all_goals first | decide | trivial | (intro p hp; cases hp) | (intro h p hp; cases hp)
theorem t1_ok : (Pl.tellR a1).Ok := by
 have := (Pl.into_ok (g := segOf s1) r0_ok).1
 have e : Pl.intoR r0 (segOf s1) = a1 := a1_is
 rw [e] at this
 exact (Pl.tell_ok this).1
theorem t2_ok : (Pl.tellR a2).Ok := by
 have := (Pl.into_ok (g := segOf s2) t1_ok).1
 have e : Pl.intoR (Pl.tellR a1) (segOf s2) = a2 := a2_is
 rw [e] at this
 exact (Pl.tell_ok this).1
theorem r0_at (w : World) : RvAt w r0 noH where
 un := SlAt.nil _
 late := PcsAt.nil' _
 les := rfl
 fst := SpAt.nil' _
 n := by unfold I64; decide
 cap := by unfold I64; decide
 shift := by unfold I64; decide
 edge := by unfold I64; decide
 recent := by unfold U32; decide
 fin := by unfold I64; decide
 irs := by unfold U32; decide
 own := by unfold U32; decide
theorem RvOwn.lies {w : World} {B : Nat} {r : Pl.Rv} {h : Hd} (H : RvOwn w B r h) (h1 : I64 r.s.n) (h2 : I64 r.cap) (h3 : I64 r.shift) (h4 : I64 r.edge) (h5 : U32 r.recent) (h6 : I64 r.fin) (h7 : U32 r.irs) (h8 : U32 r.own) : RvAt w r h :=
 { un := (H.fam.mine _ (List.mem_cons_self ..)).ok.1, late := ⟨H.reach, H.row.max.1, H.row.max.2, H.row.nil0, H.row.ents, fun x hx => (H.fam.mine x (List.mem_cons_of_mem _ hx)).ok⟩, les := H.les, fst := H.fst.sp H.frc, n := h1, cap := h2, shift := h3, edge := h4, recent := h5, fin := h6, irs := h7, own := h8 }
theorem lies1 {w : World} {B : Nat} {h : Hd} (H : RvOwn w B (Pl.tellR a1) h) : RvAt w (Pl.tellR a1) h := H.lies (by unfold I64; decide) (by unfold I64; decide) (by unfold I64; decide) (by unfold I64; decide) (by unfold U32; decide) (by unfold I64; decide) (by unfold U32; decide) (by unfold U32; decide)
theorem lies2 {w : World} {B : Nat} {h : Hd} (H : RvOwn w B (Pl.tellR a2) h) : RvAt w (Pl.tellR a2) h := H.lies (by unfold I64; decide) (by unfold I64; decide) (by unfold I64; decide) (by unfold I64; decide) (by unfold U32; decide) (by unfold I64; decide) (by unfold U32; decide) (by unfold U32; decide)
theorem lies3 {w : World} {B : Nat} {h : Hd} (H : RvOwn w B (Pl.readR (Pl.tellR a2) 3) h) : SlAt w h.ua h.uc [100] := by
 have := (H.fam.mine _ (List.mem_cons_self ..)).ok.1
 rw [rd_is.2.1] at this
 exact this
theorem lit_sl (w : World) (xs : List Int) (h : Byts xs) (hl : xs.length ≤ 1000) (fz : Nat × Nat) : SlAt (w.alloc (.cells (xs.map (Value.int .u8)).toArray 5 fz)) (some ⟨w.heap.size, 0, none⟩) xs.length xs := by
 refine ⟨⟨by omega, h, fun j hj => ⟨_, _, rfl, ?_⟩⟩, fun e => (by cases e), Nat.le_refl _⟩
 have hh : (w.alloc (.cells (xs.map (Value.int .u8)).toArray 5 fz)).heap[w.heap.size]? = some (.cells (xs.map (Value.int .u8)).toArray 5 fz) := by
  show (w.heap.push _)[w.heap.size]? = _
  simp
 simp only [World.cell?, hh]
 simp [hj]
theorem lit2 (w : World) (x y : Int) (h : 0 ≤ x ∧ x ≤ 255) (h2 : 0 ≤ y ∧ y ≤ 255) : SlAt (w.alloc (.cells #[.int .u8 x, .int .u8 y] 5 (2, 3))) (some ⟨w.heap.size, 0, none⟩) 2 [x, y] := lit_sl w [x, y] (fun z hz => by simp at hz; rcases hz with rfl | rfl <;> assumption) (by simp) _
theorem in1 (W : World) (h : Hd) (H : RvAt W r0 h) (p : Addr) (hd : SlAt W (some p) 2 [99, 100]) :
 Calls Try.prog 14 #[.agg #[.int .i64 r0.s.n, .slice h.ua r0.s.u.length h.uc, .slice h.la h.es.length h.lc, .int .i64 r0.cap, .int .i64 r0.shift, .int .i64 r0.edge, .int .u32 r0.recent, .bool r0.stamps, .bool r0.sacks, .int .i64 r0.fin, .bool r0.dn, .slice h.fa r0.first.length h.fc, .int .u32 r0.irs, .int .u32 r0.own, .bool r0.stamp], .agg #[.int .i64 0, .int .i64 0, .int .u32 102, .int .u32 0, .int .i64 0, .int .i64 0, .int .i64 0, .int .i64 0, .int .i64 0, .bool false, .bool false, .int .u32 0, .int .u32 0, .slice none 0 0, .slice (some p) 2 2]] W fun e w' => ∃ (k : Hd) (kt : Hs), e = .returned (.tuple #[.agg #[.int .i64 (Pl.tellR a1).s.n, .slice k.ua (Pl.tellR a1).s.u.length k.uc, .slice k.la k.es.length k.lc, .int .i64 (Pl.tellR a1).cap, .int .i64 (Pl.tellR a1).shift, .int .i64 (Pl.tellR a1).edge, .int .u32 (Pl.tellR a1).recent, .bool (Pl.tellR a1).stamps, .bool (Pl.tellR a1).sacks, .int .i64 (Pl.tellR a1).fin, .bool (Pl.tellR a1).dn, .slice k.fa (Pl.tellR a1).first.length k.fc, .int .u32 (Pl.tellR a1).irs, .int .u32 (Pl.tellR a1).own, .bool (Pl.tellR a1).stamp], .agg #[.int .i64 (tellS a1 [(2, 4)]).sp, .int .i64 (tellS a1 [(2, 4)]).dp, .int .u32 (tellS a1 [(2, 4)]).sq, .int .u32 (tellS a1 [(2, 4)]).ak, .int .i64 (tellS a1 [(2, 4)]).fl, .int .i64 (tellS a1 [(2, 4)]).wn, .int .i64 (tellS a1 [(2, 4)]).ur, .int .i64 (tellS a1 [(2, 4)]).ms, .int .i64 (tellS a1 [(2, 4)]).sc, .bool (tellS a1 [(2, 4)]).so, .bool (tellS a1 [(2, 4)]).st, .int .u32 (tellS a1 [(2, 4)]).va, .int .u32 (tellS a1 [(2, 4)]).ec, .slice kt.ka (tellS a1 [(2, 4)]).sk.length kt.kc, .slice kt.da (tellS a1 [(2, 4)]).da.length kt.dc], .bool true, .int .i64 0]) ∧ RvOwn w' (W.heap.size + 4) (Pl.tellR a1) k ∧ SgOwn w' (W.heap.size + 4) (tellS a1 [(2, 4)]) kt ∧ Below W.heap.size W w' :=
 zem r0 h s1 ⟨none, 0, some p, 2⟩ W H r0_ok ⟨za7.nil _ _, hd, by unfold U32; decide, by unfold U32; decide, by unfold I64; decide⟩ (.inl rfl) a1 a1_is [(2, 4)] b1_is
theorem in2 (W : World) (h : Hd) (H : RvAt W (Pl.tellR a1) h) (p : Addr) (hd : SlAt W (some p) 2 [97, 98]) :
 Calls Try.prog 14 #[.agg #[.int .i64 (Pl.tellR a1).s.n, .slice h.ua (Pl.tellR a1).s.u.length h.uc, .slice h.la h.es.length h.lc, .int .i64 (Pl.tellR a1).cap, .int .i64 (Pl.tellR a1).shift, .int .i64 (Pl.tellR a1).edge, .int .u32 (Pl.tellR a1).recent, .bool (Pl.tellR a1).stamps, .bool (Pl.tellR a1).sacks, .int .i64 (Pl.tellR a1).fin, .bool (Pl.tellR a1).dn, .slice h.fa (Pl.tellR a1).first.length h.fc, .int .u32 (Pl.tellR a1).irs, .int .u32 (Pl.tellR a1).own, .bool (Pl.tellR a1).stamp], .agg #[.int .i64 0, .int .i64 0, .int .u32 100, .int .u32 0, .int .i64 0, .int .i64 0, .int .i64 0, .int .i64 0, .int .i64 0, .bool false, .bool false, .int .u32 0, .int .u32 0, .slice none 0 0, .slice (some p) 2 2]] W fun e w' => ∃ (k : Hd) (kt : Hs), e = .returned (.tuple #[.agg #[.int .i64 (Pl.tellR a2).s.n, .slice k.ua (Pl.tellR a2).s.u.length k.uc, .slice k.la k.es.length k.lc, .int .i64 (Pl.tellR a2).cap, .int .i64 (Pl.tellR a2).shift, .int .i64 (Pl.tellR a2).edge, .int .u32 (Pl.tellR a2).recent, .bool (Pl.tellR a2).stamps, .bool (Pl.tellR a2).sacks, .int .i64 (Pl.tellR a2).fin, .bool (Pl.tellR a2).dn, .slice k.fa (Pl.tellR a2).first.length k.fc, .int .u32 (Pl.tellR a2).irs, .int .u32 (Pl.tellR a2).own, .bool (Pl.tellR a2).stamp], .agg #[.int .i64 (tellS a2 []).sp, .int .i64 (tellS a2 []).dp, .int .u32 (tellS a2 []).sq, .int .u32 (tellS a2 []).ak, .int .i64 (tellS a2 []).fl, .int .i64 (tellS a2 []).wn, .int .i64 (tellS a2 []).ur, .int .i64 (tellS a2 []).ms, .int .i64 (tellS a2 []).sc, .bool (tellS a2 []).so, .bool (tellS a2 []).st, .int .u32 (tellS a2 []).va, .int .u32 (tellS a2 []).ec, .slice kt.ka (tellS a2 []).sk.length kt.kc, .slice kt.da (tellS a2 []).da.length kt.dc], .bool true, .int .i64 0]) ∧ RvOwn w' (W.heap.size + 4) (Pl.tellR a2) k ∧ SgOwn w' (W.heap.size + 4) (tellS a2 []) kt ∧ Below W.heap.size W w' :=
 zem (Pl.tellR a1) h s2 ⟨none, 0, some p, 2⟩ W H t1_ok ⟨za7.nil _ _, hd, by unfold U32; decide, by unfold U32; decide, by unfold I64; decide⟩ (.inl rfl) a2 a2_is [] b2_is
theorem rd3 (W : World) (h : Hd) (H : RvAt W (Pl.tellR a2) h) :
 Calls Try.prog 12 #[.agg #[.int .i64 (Pl.tellR a2).s.n, .slice h.ua (Pl.tellR a2).s.u.length h.uc, .slice h.la h.es.length h.lc, .int .i64 (Pl.tellR a2).cap, .int .i64 (Pl.tellR a2).shift, .int .i64 (Pl.tellR a2).edge, .int .u32 (Pl.tellR a2).recent, .bool (Pl.tellR a2).stamps, .bool (Pl.tellR a2).sacks, .int .i64 (Pl.tellR a2).fin, .bool (Pl.tellR a2).dn, .slice h.fa (Pl.tellR a2).first.length h.fc, .int .u32 (Pl.tellR a2).irs, .int .u32 (Pl.tellR a2).own, .bool (Pl.tellR a2).stamp], .int .i64 3] W fun e w' => ∃ (k : Hd) (da : Option Addr) (dc : Nat) (ks : Hs), e = .returned (.tuple #[.agg #[.int .i64 (Pl.readR (Pl.tellR a2) 3).s.n, .slice k.ua (Pl.readR (Pl.tellR a2) 3).s.u.length k.uc, .slice k.la k.es.length k.lc, .int .i64 (Pl.readR (Pl.tellR a2) 3).cap, .int .i64 (Pl.readR (Pl.tellR a2) 3).shift, .int .i64 (Pl.readR (Pl.tellR a2) 3).edge, .int .u32 (Pl.readR (Pl.tellR a2) 3).recent, .bool (Pl.readR (Pl.tellR a2) 3).stamps, .bool (Pl.readR (Pl.tellR a2) 3).sacks, .int .i64 (Pl.readR (Pl.tellR a2) 3).fin, .bool (Pl.readR (Pl.tellR a2) 3).dn, .slice k.fa (Pl.readR (Pl.tellR a2) 3).first.length k.fc, .int .u32 (Pl.readR (Pl.tellR a2) 3).irs, .int .u32 (Pl.readR (Pl.tellR a2) 3).own, .bool (Pl.readR (Pl.tellR a2) 3).stamp], .slice da 3 dc, .agg #[.int .i64 (readS (Pl.tellR a2) 3).sp, .int .i64 (readS (Pl.tellR a2) 3).dp, .int .u32 (readS (Pl.tellR a2) 3).sq, .int .u32 (readS (Pl.tellR a2) 3).ak, .int .i64 (readS (Pl.tellR a2) 3).fl, .int .i64 (readS (Pl.tellR a2) 3).wn, .int .i64 (readS (Pl.tellR a2) 3).ur, .int .i64 (readS (Pl.tellR a2) 3).ms, .int .i64 (readS (Pl.tellR a2) 3).sc, .bool (readS (Pl.tellR a2) 3).so, .bool (readS (Pl.tellR a2) 3).st, .int .u32 (readS (Pl.tellR a2) 3).va, .int .u32 (readS (Pl.tellR a2) 3).ec, .slice ks.ka (readS (Pl.tellR a2) 3).sk.length ks.kc, .slice ks.da (readS (Pl.tellR a2) 3).da.length ks.dc], .bool (Pl.rdB (Pl.tellR a2) 3), .int .i64 0]) ∧ SlAt w' k.ua k.uc [100] ∧ SlAt w' da dc [97, 98, 99] ∧ Below W.heap.size W w' :=
 (zfe (Pl.tellR a2) h 3 W H t2_ok).mono (by
  rintro e w' ⟨k, da, dc, ks, he, hO, hs, _, hb⟩
  exact ⟨k, da, dc, ks, he, lies3 hO, hs, hb⟩)
end Go.Proofs.Ytkigcdmlkmcdcaa

