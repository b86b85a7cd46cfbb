/- Input's contract in one, for a receiver that may be; and the document's comparison of bytes. -/
import Derived.Test.YtkigcdmlkmcdcaaGS
namespace Go.Proofs.Ytkigcdmlkmcdcaa
open Go.ChangeShapes Go.WideShapes Go.ChangeAt Go.RowKit
set_option linter.unusedVariables false
set_option linter.unusedSimpArgs false

theorem in_low {r : Pl.Rv} {g : Pl.Sg} : (Pl.inR r g).irs = r.irs ∧ (Pl.inR r g).own = r.own ∧ ((Pl.inR r g).recent = r.recent ∨ (Pl.inR r g).recent = g.val) := by
  unfold Pl.inR
  split
  · exact ⟨rfl, rfl, .inl rfl⟩
  · split
    · exact ⟨rfl, rfl, .inl rfl⟩
    · have e1 : (Pl.tellR (Pl.intoR r g)).irs = (Pl.stampR r g).irs := rfl
      have e2 : (Pl.tellR (Pl.intoR r g)).own = (Pl.stampR r g).own := rfl
      have e3 : (Pl.tellR (Pl.intoR r g)).recent = (Pl.stampR r g).recent := rfl
      rw [e1, e2, e3]
      unfold Pl.stampR
      split
      · exact ⟨rfl, rfl, .inr rfl⟩
      · exact ⟨rfl, rfl, .inl rfl⟩
theorem RvOwn.atOk {w : World} {B : Nat} {R : Pl.Rv} {k : Hd} (hO : RvOwn w B R k) (hro : R.Ok) (h1 : U32 R.recent) (h2 : U32 R.irs) (h3 : U32 R.own) : RvAt w R k := by
  refine hO.lies ?_ ?_ ?_ ?_ h1 ?_ h2 h3
  · have := hro.n0; have := hro.nf; simp only [Pl.farI] at *; unfold I64; omega
  · have := hro.c1; have := hro.cm; unfold I64; omega
  · have := hro.s0; have := hro.s14; unfold I64; omega
  · have := hro.e0; have := hro.er; have h2 : R.reach = R.s.bot + R.cap := rfl; have h3 : R.s.bot = R.s.n - (R.s.u.length : Int) := rfl; have := hro.nf; have := hro.cm; simp only [Pl.farI] at *; unfold I64; omega
  · have := hro.f1; have := hro.ff; simp only [Pl.farI] at *; unfold I64; omega
/-- What a receiver and a segment come to; what is told is left open. -/
theorem recvInput_any (r : Pl.Rv) (h : Hd) (s : Seg) (ks : Hs) (w : World) (H : RvAt w r h) (hok : r.Ok) (hs : SgAt w s ks) (R : Pl.Rv) (hR : Pl.inR r (segOf s) = R) (b : Bool) (hb : Pl.inB r (segOf s) = b) :
    Calls Try.prog 14 #[.agg #[.int .i64 r.s.n, .slice h.ua r.s.u.length h.uc, .slice h.la h.es.length h.lc, .int .i64 r.cap, .int .i64 r.shift, .int .i64 r.edge, .int .u32 r.recent, .bool r.stamps, .bool r.sacks, .int .i64 r.fin, .bool r.dn, .slice h.fa r.first.length h.fc, .int .u32 r.irs, .int .u32 r.own, .bool r.stamp], .agg #[.int .i64 s.sp, .int .i64 s.dp, .int .u32 s.sq, .int .u32 s.ak, .int .i64 s.fl, .int .i64 s.wn, .int .i64 s.ur, .int .i64 s.ms, .int .i64 s.sc, .bool s.so, .bool s.st, .int .u32 s.va, .int .u32 s.ec, .slice ks.ka s.sk.length ks.kc, .slice ks.da s.da.length ks.dc]] w fun e w' => ∃ (k : Hd) (T : Seg) (kt : Hs), e = .returned (.tuple #[.agg #[.int .i64 R.s.n, .slice k.ua R.s.u.length k.uc, .slice k.la k.es.length k.lc, .int .i64 R.cap, .int .i64 R.shift, .int .i64 R.edge, .int .u32 R.recent, .bool R.stamps, .bool R.sacks, .int .i64 R.fin, .bool R.dn, .slice k.fa R.first.length k.fc, .int .u32 R.irs, .int .u32 R.own, .bool R.stamp], .agg #[.int .i64 T.sp, .int .i64 T.dp, .int .u32 T.sq, .int .u32 T.ak, .int .i64 T.fl, .int .i64 T.wn, .int .i64 T.ur, .int .i64 T.ms, .int .i64 T.sc, .bool T.so, .bool T.st, .int .u32 T.va, .int .u32 T.ec, .slice kt.ka T.sk.length kt.kc, .slice kt.da T.da.length kt.dc], .bool b, .int .i64 0]) ∧ RvAt w' R k ∧ Below w.heap.size w w' := by
  have hro := (Pl.in_ok (g := segOf s) hok).1
  have hlo := in_low (r := r) (g := segOf s)
  rw [hR] at hro hlo
  have h1 : U32 R.recent := by
    rcases hlo.2.2 with e | e
    · rw [e]; exact H.recent
    · rw [e]; exact hs.va
  have h2 : U32 R.irs := by rw [hlo.1]; exact H.irs
  have h3 : U32 R.own := by rw [hlo.2.1]; exact H.own
  by_cases c : r.stamps = true ∧ s.st = false
  · have e1 : Pl.inR r (segOf s) = r := by unfold Pl.inR; rw [if_pos (show r.stamps = true ∧ (segOf s).stamped = false from c)]
    have e2 : Pl.inB r (segOf s) = false := by unfold Pl.inB segOf; simp [c.1, c.2]
    rw [e1] at hR
    rw [e2] at hb
    subst hR; subst hb
    refine (recvInput_bare r h s ks w H hok c).mono ?_
    rintro e w' ⟨k, he, hO, hB⟩
    exact ⟨k, zeroS, ⟨none, 0, none, 0⟩, he, hO.atOk hro h1 h2 h3, hB⟩
  · have hst : r.stamps = false ∨ s.st = true := by
      cases h7 : r.stamps
      · exact .inl rfl
      · cases h8 : s.st
        · exact absurd ⟨h7, h8⟩ c
        · exact .inr rfl
    have e2 : Pl.inB r (segOf s) = true := by
      unfold Pl.inB segOf
      rcases hst with h | h <;> simp [h]
    rw [e2] at hb
    subst hb
    have e1 : Pl.tellR (if Pl.oldB r (segOf s) = true then r else Pl.intoR r (segOf s)) = R := by
      rw [← hR]
      unfold Pl.inR
      rw [if_neg (show ¬ (r.stamps = true ∧ (segOf s).stamped = false) from c)]
      split <;> rfl
    have key := recvInput_in r h s ks w H hok hs hst _ rfl _ rfl
    rw [e1] at key
    refine key.mono ?_
    rintro e w' ⟨k, kt, he, hO, _, hB⟩
    exact ⟨k, _, kt, he, hO.atOk hro h1 h2 h3, hB⟩
theorem same_any (a b : Option Addr) (c d : Nat) (xs ys : List Int) (w : World) (ha : BytesAt w a xs) (hb : BytesAt w b ys) :
    Calls Try.prog 21 #[.slice a xs.length c, .slice b ys.length d] w fun e w' => e = .returned (.bool (decide (xs = ys))) ∧ w' = w := by
  have k1 := conv_any a c xs w ha
  have k2 := conv_any b d ys w hb
  have hi := str_inj ha.2.1 hb.2.1
  clear ha hb
  go_enter Try.func21, Try.ntmps21
  go_wp2
  go_ret
  exact ⟨rfl, rfl⟩
end Go.Proofs.Ytkigcdmlkmcdcaa
