/- Region 24 of RecvOrders: seg and Input, whatever order is drawn. -/
import Derived.Test.YtkigcdmlkmcdcaaMInvO
namespace Go.Proofs.Ytkigcdmlkmcdcaa
open Go.ChangeShapes Go.WideShapes Go.ChangeAt Go.RowKit
set_option linter.unusedVariables false
set_option linter.unusedSimpArgs false

def ops24O0 (ps : String) : Oper := { dst := some 162, op := .load 27 (.tmp 9), type := 27, pos := ps, after := #[], guard := none }
def ops24O1 (ps : String) : Oper := { dst := some 163, op := .move (.tmp 1), type := 24, pos := ps, after := #[], guard := none }
def ops24O2 (ps : String) : Oper := { dst := some 164, op := .move (.tmp 0), type := 22, pos := ps, after := #[], guard := none }
def ops24O3 (ps : String) : Oper := { dst := some 165, op := .move (.tmp 0), type := 22, pos := ps, after := #[], guard := none }
def ops24O4 (ps : String) : Oper := { dst := some 166, op := .call { callee := .builtin .len, args := #[.tmp 165], argTypes := #[22] }, type := 3, pos := ps, after := #[{ on := 3, ground := .data }], guard := none }
def ops24O5 (ps : String) : Oper := { dst := some 167, op := .call { callee := .value (.func 25), args := #[.tmp 163, .tmp 164, .const (.int .i64 0), .tmp 166, .const (.bool true)], argTypes := #[24, 22, 3, 3, 4] }, type := 34, pos := ps, after := #[{ on := 1, ground := .data }, { on := 2, ground := .data }, { on := 4, ground := .data }], guard := none }
def ops24O6 (ps : String) : Oper := { dst := some 168, op := .call { callee := .value (.func 14), args := #[.tmp 162, .tmp 167], argTypes := #[27, 34] }, type := 41, pos := ps, after := #[{ on := 0, ground := .data }, { on := 5, ground := .data }, { on := 5, ground := .chain }], guard := none }
def ops24O7 (ps : String) : Oper := { dst := some 161, op := .move (.tmp 168), type := 41, pos := ps, after := #[{ on := 6, ground := .data }], guard := none }
def ops24O8 (ps : String) : Oper := { dst := some 169, op := .extract (.tmp 161) 0, type := 27, pos := ps, after := #[{ on := 7, ground := .data }], guard := none }
def ops24O9 (ps : String) : Oper := { dst := some 170, op := .extract (.tmp 161) 1, type := 34, pos := ps, after := #[{ on := 7, ground := .data }, { on := 14, ground := .gcOnly .lateStores }], guard := none }
def ops24O10 (ps : String) : Oper := { dst := some 171, op := .extract (.tmp 161) 2, type := 4, pos := ps, after := #[{ on := 7, ground := .data }, { on := 15, ground := .gcOnly .lateStores }], guard := none }
def ops24O11 (ps : String) : Oper := { dst := some 172, op := .extract (.tmp 161) 3, type := 28, pos := ps, after := #[{ on := 7, ground := .data }, { on := 16, ground := .gcOnly .lateStores }], guard := none }
def ops24O12 (ps : String) : Oper := { dst := some 24, op := .alloc 27, type := 0, pos := ps, after := #[], guard := none }
def ops24O13 (ps : String) : Oper := { dst := some 25, op := .alloc 34, type := 0, pos := ps, after := #[], guard := none }
def ops24O14 (ps : String) : Oper := { dst := none, op := .store 27 (.tmp 24) (.tmp 169), type := 0, pos := ps, after := #[{ on := 12, ground := .data }, { on := 8, ground := .data }, { on := 6, ground := .chain }, { on := 0, ground := .phase }, { on := 1, ground := .phase }, { on := 2, ground := .phase }, { on := 3, ground := .phase }, { on := 4, ground := .phase }, { on := 5, ground := .phase }, { on := 6, ground := .phase }, { on := 7, ground := .phase }, { on := 8, ground := .phase }, { on := 9, ground := .textOnly .lateStores }, { on := 10, ground := .textOnly .lateStores }, { on := 11, ground := .textOnly .lateStores }, { on := 12, ground := .phase }, { on := 13, ground := .phase }], guard := none }
def ops24O15 (ps : String) : Oper := { dst := none, op := .store 34 (.tmp 25) (.tmp 170), type := 0, pos := ps, after := #[{ on := 13, ground := .data }, { on := 9, ground := .data }, { on := 14, ground := .chain }, { on := 0, ground := .phase }, { on := 1, ground := .phase }, { on := 2, ground := .phase }, { on := 3, ground := .phase }, { on := 4, ground := .phase }, { on := 5, ground := .phase }, { on := 6, ground := .phase }, { on := 7, ground := .phase }, { on := 8, ground := .phase }, { on := 9, ground := .phase }, { on := 10, ground := .textOnly .lateStores }, { on := 11, ground := .textOnly .lateStores }, { on := 12, ground := .phase }, { on := 13, ground := .phase }, { on := 14, ground := .phase }], guard := none }
def ops24O16 (ps : String) : Oper := { dst := some 26, op := .assign (.tmp 171), type := 4, pos := ps, after := #[{ on := 10, ground := .data }, { on := 15, ground := .chain }, { on := 0, ground := .phase }, { on := 1, ground := .phase }, { on := 2, ground := .phase }, { on := 3, ground := .phase }, { on := 4, ground := .phase }, { on := 5, ground := .phase }, { on := 6, ground := .phase }, { on := 7, ground := .phase }, { on := 8, ground := .phase }, { on := 9, ground := .phase }, { on := 10, ground := .phase }, { on := 11, ground := .textOnly .lateStores }, { on := 12, ground := .phase }, { on := 13, ground := .phase }, { on := 14, ground := .phase }, { on := 15, ground := .phase }], guard := none }
def ops24O17 (ps : String) : Oper := { dst := some 27, op := .assign (.tmp 172), type := 28, pos := ps, after := #[{ on := 11, ground := .data }, { on := 16, ground := .chain }, { on := 0, ground := .phase }, { on := 1, ground := .phase }, { on := 2, ground := .phase }, { on := 3, ground := .phase }, { on := 4, ground := .phase }, { on := 5, ground := .phase }, { on := 6, ground := .phase }, { on := 7, ground := .phase }, { on := 8, ground := .phase }, { on := 9, ground := .phase }, { on := 10, ground := .phase }, { on := 11, ground := .phase }, { on := 12, ground := .phase }, { on := 13, ground := .phase }, { on := 14, ground := .phase }, { on := 15, ground := .phase }, { on := 16, ground := .phase }], guard := none }
def ops24 (ps : String) : Array Oper := #[ops24O0 ps, ops24O1 ps, ops24O2 ps, ops24O3 ps, ops24O4 ps, ops24O5 ps, ops24O6 ps, ops24O7 ps, ops24O8 ps, ops24O9 ps, ops24O10 ps, ops24O11 ps, ops24O12 ps, ops24O13 ps, ops24O14 ps, ops24O15 ps, ops24O16 ps, ops24O17 ps]
theorem ops24_0 (ps : String) : (ops24 ps)[0]? = some (ops24O0 ps) := rfl
theorem ops24_1 (ps : String) : (ops24 ps)[1]? = some (ops24O1 ps) := rfl
theorem ops24_2 (ps : String) : (ops24 ps)[2]? = some (ops24O2 ps) := rfl
theorem ops24_3 (ps : String) : (ops24 ps)[3]? = some (ops24O3 ps) := rfl
theorem ops24_4 (ps : String) : (ops24 ps)[4]? = some (ops24O4 ps) := rfl
theorem ops24_5 (ps : String) : (ops24 ps)[5]? = some (ops24O5 ps) := rfl
theorem ops24_6 (ps : String) : (ops24 ps)[6]? = some (ops24O6 ps) := rfl
theorem ops24_7 (ps : String) : (ops24 ps)[7]? = some (ops24O7 ps) := rfl
theorem ops24_8 (ps : String) : (ops24 ps)[8]? = some (ops24O8 ps) := rfl
theorem ops24_9 (ps : String) : (ops24 ps)[9]? = some (ops24O9 ps) := rfl
theorem ops24_10 (ps : String) : (ops24 ps)[10]? = some (ops24O10 ps) := rfl
theorem ops24_11 (ps : String) : (ops24 ps)[11]? = some (ops24O11 ps) := rfl
theorem ops24_12 (ps : String) : (ops24 ps)[12]? = some (ops24O12 ps) := rfl
theorem ops24_13 (ps : String) : (ops24 ps)[13]? = some (ops24O13 ps) := rfl
theorem ops24_14 (ps : String) : (ops24 ps)[14]? = some (ops24O14 ps) := rfl
theorem ops24_15 (ps : String) : (ops24 ps)[15]? = some (ops24O15 ps) := rfl
theorem ops24_16 (ps : String) : (ops24 ps)[16]? = some (ops24O16 ps) := rfl
theorem ops24_17 (ps : String) : (ops24 ps)[17]? = some (ops24O17 ps) := rfl
def dst24 : Nat → Option Tmp
  | 0 => some 162
  | 1 => some 163
  | 2 => some 164
  | 3 => some 165
  | 4 => some 166
  | 5 => some 167
  | 6 => some 168
  | 7 => some 161
  | 8 => some 169
  | 9 => some 170
  | 10 => some 171
  | 11 => some 172
  | 12 => some 24
  | 13 => some 25
  | 14 => none
  | 15 => none
  | 16 => some 26
  | 17 => some 27
  | _ => none
def dp24 : Nat → List Nat
  | 7 => [6]
  | 8 => [7]
  | 9 => [7]
  | 10 => [7]
  | 11 => [7]
  | 14 => [12, 8]
  | 16 => [10]
  | 17 => [11]
  | _ => []
/-- What each operation leaves. -/
def left24 (W0 : World) (r : Pl.Rv) (h : Hd) (irs : Int) (ta : Option Addr) (tc L : Nat) (ts : List Int) (x n : Nat) : Nat → (Nat → Value) → World → Prop
  | 0, v, _ => v 0 = .agg #[.int .i64 r.s.n, .slice h.ua r.s.u.length h.uc, .slice h.la h.es.length h.lc, .int .i64 r.cap, .int .i64 r.shift, .int .i64 r.edge, .int .u32 r.recent, .bool r.stamps, .bool r.sacks, .int .i64 r.fin, .bool r.dn, .slice h.fa r.first.length h.fc, .int .u32 r.irs, .int .u32 r.own, .bool r.stamp]
  | 1, v, _ => v 1 = .int .u32 irs
  | 2, v, _ => v 2 = .slice ta L tc
  | 3, v, _ => v 3 = .slice ta L tc
  | 4, v, _ => v 4 = .int .i64 (L : Int)
  | 5, v, _ => ∃ (s : Seg) (ks : Hs) (t : Nat), v 5 = .agg #[.int .i64 s.sp, .int .i64 s.dp, .int .u32 s.sq, .int .u32 s.ak, .int .i64 s.fl, .int .i64 s.wn, .int .i64 s.ur, .int .i64 s.ms, .int .i64 s.sc, .bool s.so, .bool s.st, .int .u32 s.va, .int .u32 s.ec, .slice ks.ka s.sk.length ks.kc, .slice ks.da s.da.length ks.dc] ∧ SgAt W0 s ks ∧ Pl.Part (segOf s) ts irs x t ∧ (x + n = ts.length → t = ts.length)
  | 6, v, w => ∃ (s : Seg) (t : Nat) (A : Pl.Rv) (k : Hd) (T : Seg) (kt : Hs), Pl.Part (segOf s) ts irs x t ∧ (x + n = ts.length → t = ts.length) ∧ Pl.inR r (segOf s) = A ∧ v 6 = .tuple #[.agg #[.int .i64 A.s.n, .slice k.ua A.s.u.length k.uc, .slice k.la k.es.length k.lc, .int .i64 A.cap, .int .i64 A.shift, .int .i64 A.edge, .int .u32 A.recent, .bool A.stamps, .bool A.sacks, .int .i64 A.fin, .bool A.dn, .slice k.fa A.first.length k.fc, .int .u32 A.irs, .int .u32 A.own, .bool A.stamp], .agg #[.int .i64 T.sp, .int .i64 T.dp, .int .u32 T.sq, .int .u32 T.ak, .int .i64 T.fl, .int .i64 T.wn, .int .i64 T.ur, .int .i64 T.ms, .int .i64 T.sc, .bool T.so, .bool T.st, .int .u32 T.va, .int .u32 T.ec, .slice kt.ka T.sk.length kt.kc, .slice kt.da T.da.length kt.dc], .bool (Pl.inB r (segOf s)), .int .i64 0] ∧ RvOwn w W0.heap.size A k
  | 7, v, _ => v 7 = v 6 ∧ ∃ (A : Pl.Rv) (k : Hd) (T : Seg) (kt : Hs) (b : Bool), v 7 = .tuple #[.agg #[.int .i64 A.s.n, .slice k.ua A.s.u.length k.uc, .slice k.la k.es.length k.lc, .int .i64 A.cap, .int .i64 A.shift, .int .i64 A.edge, .int .u32 A.recent, .bool A.stamps, .bool A.sacks, .int .i64 A.fin, .bool A.dn, .slice k.fa A.first.length k.fc, .int .u32 A.irs, .int .u32 A.own, .bool A.stamp], .agg #[.int .i64 T.sp, .int .i64 T.dp, .int .u32 T.sq, .int .u32 T.ak, .int .i64 T.fl, .int .i64 T.wn, .int .i64 T.ur, .int .i64 T.ms, .int .i64 T.sc, .bool T.so, .bool T.st, .int .u32 T.va, .int .u32 T.ec, .slice kt.ka T.sk.length kt.kc, .slice kt.da T.da.length kt.dc], .bool b, .int .i64 0]
  | 8, v, _ => ∃ b c d, v 7 = .tuple #[v 8, b, c, d]
  | 9, v, _ => ∃ b c d, v 7 = .tuple #[b, v 9, c, d]
  | 10, v, _ => ∃ b c d, v 7 = .tuple #[b, c, v 10, d]
  | 11, v, _ => ∃ b c d, v 7 = .tuple #[b, c, d, v 11]
  | 12, v, w => ∃ g cs, v 12 = .pointer (some ⟨g, 0, none⟩) ∧ W0.heap.size ≤ g ∧ cs.length = 15 ∧ Box w g 27 cs
  | 13, v, w => ∃ g cs, v 13 = .pointer (some ⟨g, 0, none⟩) ∧ W0.heap.size ≤ g ∧ cs.length = 15 ∧ Box w g 34 cs
  | 14, v, w => ∃ (g : Nat) (A : Pl.Rv) (k : Hd), v 12 = .pointer (some ⟨g, 0, none⟩) ∧ v 8 = .agg #[.int .i64 A.s.n, .slice k.ua A.s.u.length k.uc, .slice k.la k.es.length k.lc, .int .i64 A.cap, .int .i64 A.shift, .int .i64 A.edge, .int .u32 A.recent, .bool A.stamps, .bool A.sacks, .int .i64 A.fin, .bool A.dn, .slice k.fa A.first.length k.fc, .int .u32 A.irs, .int .u32 A.own, .bool A.stamp] ∧ Box w g 27 [.int .i64 A.s.n, .slice k.ua A.s.u.length k.uc, .slice k.la k.es.length k.lc, .int .i64 A.cap, .int .i64 A.shift, .int .i64 A.edge, .int .u32 A.recent, .bool A.stamps, .bool A.sacks, .int .i64 A.fin, .bool A.dn, .slice k.fa A.first.length k.fc, .int .u32 A.irs, .int .u32 A.own, .bool A.stamp]
  | 15, _, _ => True
  | 16, v, _ => v 16 = v 10
  | 17, v, _ => v 17 = v 11
  | _, _, _ => True
theorem left24_loc {W0 : World} {r : Pl.Rv} {h : Hd} {irs : Int} {ta : Option Addr} {tc L : Nat} {ts : List Int} {x n : Nat} : ∀ (i : Nat) (v v' : Nat → Value) (w : World), i < 18 → v i = v' i → (∀ m ∈ dp24 i, v m = v' m) → left24 W0 r h irs ta tc L ts x n i v w → left24 W0 r h irs ta tc L ts x n i v' w
  | 0, v, v', w, _, e, _, h => e.symm.trans h
  | 1, v, v', w, _, e, _, h => e.symm.trans h
  | 2, v, v', w, _, e, _, h => e.symm.trans h
  | 3, v, v', w, _, e, _, h => e.symm.trans h
  | 4, v, v', w, _, e, _, h => e.symm.trans h
  | 5, v, v', w, _, e, _, ⟨s, ks, t, h1, h2⟩ => ⟨s, ks, t, e.symm.trans h1, h2⟩
  | 6, v, v', w, _, e, _, ⟨s, t, A, k, T, kt, h1, h2, h3, h4, h5⟩ => ⟨s, t, A, k, T, kt, h1, h2, h3, e.symm.trans h4, h5⟩
  | 7, v, v', w, _, e, d, ⟨h, A, k, T, kt, b, h2⟩ => ⟨by
    have d6 := d 6 (by simp [dp24])
    rw [← e, ← d6]; exact h, A, k, T, kt, b, by rw [← e]; exact h2⟩
  | 8, v, v', w, _, e, d, ⟨b, c, f, h⟩ => ⟨b, c, f, by
    have d7 := d 7 (by simp [dp24])
    rw [← e, ← d7]; exact h⟩
  | 9, v, v', w, _, e, d, ⟨b, c, f, h⟩ => ⟨b, c, f, by
    have d7 := d 7 (by simp [dp24])
    rw [← e, ← d7]; exact h⟩
  | 10, v, v', w, _, e, d, ⟨b, c, f, h⟩ => ⟨b, c, f, by
    have d7 := d 7 (by simp [dp24])
    rw [← e, ← d7]; exact h⟩
  | 11, v, v', w, _, e, d, ⟨b, c, f, h⟩ => ⟨b, c, f, by
    have d7 := d 7 (by simp [dp24])
    rw [← e, ← d7]; exact h⟩
  | 12, v, v', w, _, e, _, ⟨g, cs, h1, h2⟩ => ⟨g, cs, e.symm.trans h1, h2⟩
  | 13, v, v', w, _, e, _, ⟨g, cs, h1, h2⟩ => ⟨g, cs, e.symm.trans h1, h2⟩
  | 14, v, v', w, _, e, d, ⟨g, A, k, h1, h2, h3⟩ => ⟨g, A, k, (d 12 (by simp [dp24])).symm.trans h1, (d 8 (by simp [dp24])).symm.trans h2, h3⟩
  | 15, _, _, _, _, _, _, _ => trivial
  | 16, v, v', w, _, e, d, h => by
    have d1 := d 10 (by simp [dp24])
    show v' 16 = v' 10
    rw [← e, ← d1]; exact h
  | 17, v, v', w, _, e, d, h => by
    have d1 := d 11 (by simp [dp24])
    show v' 17 = v' 11
    rw [← e, ← d1]; exact h
  | i + 18, _, _, _, hi, _, _, _ => absurd hi (by omega)
theorem left24_later {W0 : World} {r : Pl.Rv} {h : Hd} {irs : Int} {ta : Option Addr} {tc L : Nat} {ts : List Int} {x n : Nat} {w w' : World} (hb : Below w.heap.size w w') : ∀ (i : Nat) (v : Nat → Value), i < 18 → left24 W0 r h irs ta tc L ts x n i v w → left24 W0 r h irs ta tc L ts x n i v w'
  | 0, v, _, h => h
  | 1, v, _, h => h
  | 2, v, _, h => h
  | 3, v, _, h => h
  | 4, v, _, h => h
  | 5, v, _, h => h
  | 6, v, _, ⟨s, t, A, k, T, kt, h1, h2, h3, h4, h5⟩ => ⟨s, t, A, k, T, kt, h1, h2, h3, h4, h5.later hb⟩
  | 7, v, _, h => h
  | 8, v, _, h => h
  | 9, v, _, h => h
  | 10, v, _, h => h
  | 11, v, _, h => h
  | 12, v, _, ⟨g, cs, h1, h2, h3, h4⟩ => ⟨g, cs, h1, h2, h3, h4.later hb⟩
  | 13, v, _, ⟨g, cs, h1, h2, h3, h4⟩ => ⟨g, cs, h1, h2, h3, h4.later hb⟩
  | 14, v, _, ⟨g, A, k, h1, h2, h3⟩ => ⟨g, A, k, h1, h2, h3.later hb⟩
  | 15, v, _, h => h
  | 16, v, _, h => h
  | 17, v, _, h => h
  | i + 18, _, hi, _ => absurd hi (by omega)
theorem left24_storeR {W0 : World} {r : Pl.Rv} {h : Hd} {irs : Int} {ta : Option Addr} {tc L : Nat} {ts : List Int} {x n : Nat} {w : World} {p : Nat} {ds vs : List Value} (hb : Box w p 27 ds) (hd : ds.length = 15) (hl : vs.length = 15) : ∀ (i : Nat) (v : Nat → Value), i < 18 → i ≠ 14 → left24 W0 r h irs ta tc L ts x n i v w → left24 W0 r h irs ta tc L ts x n i v (setAll w p 0 vs)
  | 0, v, _, _, h => h
  | 1, v, _, _, h => h
  | 2, v, _, _, h => h
  | 3, v, _, _, h => h
  | 4, v, _, _, h => h
  | 5, v, _, _, h => h
  | 6, v, _, _, ⟨s, t, A, k, T, kt, h1, h2, h3, h4, h5⟩ => ⟨s, t, A, k, T, kt, h1, h2, h3, h4, h5.besideR hb 0 vs⟩
  | 7, v, _, _, h => h
  | 8, v, _, _, h => h
  | 9, v, _, _, h => h
  | 10, v, _, _, h => h
  | 11, v, _, _, h => h
  | 12, v, _, _, ⟨g, cs, h1, h2, h3, h4⟩ => by
    by_cases e : g = p
    · subst e; exact ⟨g, vs, h1, h2, hl, hb.put vs (by omega)⟩
    · exact ⟨g, cs, h1, h2, h3, h4.putAside p 0 vs e⟩
  | 13, v, _, _, ⟨g, cs, h1, h2, h3, h4⟩ => ⟨g, cs, h1, h2, h3, h4.putAside p 0 vs (h4.ne hb (by decide))⟩
  | 14, v, _, hne, _ => absurd rfl hne
  | 15, v, _, _, h => h
  | 16, v, _, _, h => h
  | 17, v, _, _, h => h
  | i + 18, _, hi, _, _ => absurd hi (by omega)
theorem left24_storeS {W0 : World} {r : Pl.Rv} {h : Hd} {irs : Int} {ta : Option Addr} {tc L : Nat} {ts : List Int} {x n : Nat} {w : World} {p : Nat} {ds vs : List Value} (hb : Box w p 34 ds) (hd : ds.length = 15) (hl : vs.length = 15) : ∀ (i : Nat) (v : Nat → Value), i < 18 → left24 W0 r h irs ta tc L ts x n i v w → left24 W0 r h irs ta tc L ts x n i v (setAll w p 0 vs)
  | 0, v, _, h => h
  | 1, v, _, h => h
  | 2, v, _, h => h
  | 3, v, _, h => h
  | 4, v, _, h => h
  | 5, v, _, h => h
  | 6, v, _, ⟨s, t, A, k, T, kt, h1, h2, h3, h4, h5⟩ => ⟨s, t, A, k, T, kt, h1, h2, h3, h4, h5.besideS hb 0 vs⟩
  | 7, v, _, h => h
  | 8, v, _, h => h
  | 9, v, _, h => h
  | 10, v, _, h => h
  | 11, v, _, h => h
  | 12, v, _, ⟨g, cs, h1, h2, h3, h4⟩ => ⟨g, cs, h1, h2, h3, h4.putAside p 0 vs (h4.ne hb (by decide))⟩
  | 13, v, _, ⟨g, cs, h1, h2, h3, h4⟩ => by
    by_cases e : g = p
    · subst e; exact ⟨g, vs, h1, h2, hl, hb.put vs (by omega)⟩
    · exact ⟨g, cs, h1, h2, h3, h4.putAside p 0 vs e⟩
  | 14, v, _, ⟨g, A, k, h1, h2, h3⟩ => ⟨g, A, k, h1, h2, h3.putAside p 0 vs (h3.ne hb (by decide))⟩
  | 15, v, _, h => h
  | 16, v, _, h => h
  | 17, v, _, h => h
  | i + 18, _, hi, _ => absurd hi (by omega)

set_option maxRecDepth 100000 in
set_option maxHeartbeats 4000000 in
theorem reg24 {ps : String} {Q : Exit → Act → World → Prop} {a0 : Act} {W0 : World} (sz : a0.tmps.size = 203) {r : Pl.Rv} {h : Hd} {irs : Int} {ta : Option Addr} {tc L : Nat} {ts : List Int} {g9 : Nat}
    (e9 : a0.eval (.tmp 9) = .pointer (some ⟨g9, 0, none⟩)) (e1 : a0.eval (.tmp 1) = .int .u32 irs) (e0 : a0.eval (.tmp 0) = .slice ta L tc)
    (hb9 : Box W0 g9 27 [.int .i64 r.s.n, .slice h.ua r.s.u.length h.uc, .slice h.la h.es.length h.lc, .int .i64 r.cap, .int .i64 r.shift, .int .i64 r.edge, .int .u32 r.recent, .bool r.stamps, .bool r.sacks, .int .i64 r.fin, .bool r.dn, .slice h.fa r.first.length h.fc, .int .u32 r.irs, .int .u32 r.own, .bool r.stamp]) (hr : RvAt W0 r h) (hok : r.Ok) (hT : SlAt W0 ta tc ts) (hl : ts.length = L) (hL : ts.length ≤ 200) (hi : U32 irs)
    (hfin : ∀ (v : Nat → Value) (W' : World) (s : Seg) (t : Nat) (A : Pl.Rv) (k : Hd) (g : Nat), Pl.Part (segOf s) ts irs 0 t → (0 + L = ts.length → t = ts.length) → Pl.inR r (segOf s) = A → RvOwn W' W0.heap.size A k → Box W' g 27 [.int .i64 A.s.n, .slice k.ua A.s.u.length k.uc, .slice k.la k.es.length k.lc, .int .i64 A.cap, .int .i64 A.shift, .int .i64 A.edge, .int .u32 A.recent, .bool A.stamps, .bool A.sacks, .int .i64 A.fin, .bool A.dn, .slice k.fa A.first.length k.fc, .int .u32 A.irs, .int .u32 A.own, .bool A.stamp] → W0.heap.size ≤ g → Below W0.heap.size W0 W' →
      v 12 = .pointer (some ⟨g, 0, none⟩) → v 16 = .bool (Pl.inB r (segOf s)) → v 17 = .int .i64 0 → Q .normal ((((((((((((((((a0.put (some 162) (v 0)).put (some 163) (v 1)).put (some 164) (v 2)).put (some 165) (v 3)).put (some 166) (v 4)).put (some 167) (v 5)).put (some 168) (v 6)).put (some 161) (v 7)).put (some 169) (v 8)).put (some 170) (v 9)).put (some 171) (v 10)).put (some 172) (v 11)).put (some 24) (v 12)).put (some 25) (v 13)).put (some 26) (v 16)).put (some 27) (v 17)) W') :
    (Code.region 24 (ops24 ps) true).wp Try.prog Q a0 W0 := by
  refine wp_region_slots (by kernel_rfl) 18 rfl dst24 ?_ (by decide) (left24 W0 r h irs ta tc L ts 0 L) (fun w => Below W0.heap.size W0 w) dp24 ?_ left24_loc (Below.drew (Below.refl _ _)) ?_ (ends_of rfl ?_) ?_
  · intro j t hj ht
    have : ∀ j, j < 18 → (dst24 j).all (· < 203) = true := by decide
    have := this j hj
    rw [ht] at this
    rw [sz]
    simpa using this
  · intro i o ho m hm
    have := each_of (ops := ops24 ps) (f := fun o i => (dp24 i).all fun m => o.after.toList.any fun e => Region.binds .any e && e.on == m) (by rfl) i o ho
    simp only [List.all_eq_true, List.any_eq_true, Bool.and_eq_true, beq_iff_eq] at this
    obtain ⟨e, he, hbn, hon⟩ := this m hm
    exact ⟨e, by simpa using he, hbn, hon⟩
  · intro i o ho D v a w kn hD hnD K hK
    have hi18 : i < 18 := (Array.getElem?_eq_some_iff.1 ho).1
    have done : ∀ j, (o.after.toList.any fun e => Region.binds .any e && e.on == j) = true → D j := fun j hj => by
      simp only [List.any_eq_true, Bool.and_eq_true, beq_iff_eq] at hj
      obtain ⟨e, he, hbn, rfl⟩ := hj
      exact hD e (by simpa using he) hbn
    match i, hi18, ho with
    | 0, _, ho =>
    obtain rfl := Option.some.inj (ho.symm.trans (ops24_0 ps))
    refine op_val (ops24_0 ps) rfl (run_loadR rfl (by rw [kn.els 9 (by decide)]; exact e9) r h w (hb9.later kn.all)) (hK _ _ kn.all (upd_at ..) (fun _ _ h => h))
    | 1, _, ho =>
    obtain rfl := Option.some.inj (ho.symm.trans (ops24_1 ps))
    refine op_val (ops24_1 ps) rfl (run_move rfl w) (hK _ _ kn.all ((upd_at ..).trans (by rw [kn.els 1 (by decide)]; exact e1)) (fun _ _ h => h))
    | 2, _, ho =>
    obtain rfl := Option.some.inj (ho.symm.trans (ops24_2 ps))
    refine op_val (ops24_2 ps) rfl (run_move rfl w) (hK _ _ kn.all ((upd_at ..).trans (by rw [kn.els 0 (by decide)]; exact e0)) (fun _ _ h => h))
    | 3, _, ho =>
    obtain rfl := Option.some.inj (ho.symm.trans (ops24_3 ps))
    refine op_val (ops24_3 ps) rfl (run_move rfl w) (hK _ _ kn.all ((upd_at ..).trans (by rw [kn.els 0 (by decide)]; exact e0)) (fun _ _ h => h))
    | 4, _, ho =>
    obtain rfl := Option.some.inj (ho.symm.trans (ops24_4 ps))
    have q3 := (kn.slot 3 165 (done 3 (by rfl)) rfl).trans (kn.fact 3 (done 3 (by rfl)))
    refine op_val (ops24_4 ps) rfl (run_len rfl rfl q3 w) (hK _ _ kn.all (upd_at ..) (fun _ _ h => h))
    | 5, _, ho =>
    obtain rfl := Option.some.inj (ho.symm.trans (ops24_5 ps))
    have q1 := (kn.slot 1 163 (done 1 (by rfl)) rfl).trans (kn.fact 1 (done 1 (by rfl)))
    have q2 := (kn.slot 2 164 (done 2 (by rfl)) rfl).trans (kn.fact 2 (done 2 (by rfl)))
    have q4 := (kn.slot 4 166 (done 4 (by rfl)) rfl).trans (kn.fact 4 (done 4 (by rfl)))
    refine op_enter (ops24_5 ps) rfl (f := 25) (args := #[.int .u32 irs, .slice ta L tc, .int .i64 ((0 : Nat) : Int), .int .i64 (L : Int), .bool true]) ?_ ?_
    · rw [run_call rfl enter_seg]
      simp only [List.map_toArray, List.map_cons, List.map_nil, q1, q2, q4]
      rfl
    · refine (seg_old irs ta tc 0 L ts w W0 hi hT (Nat.zero_le _) hL (by omega) L hl).mono ?_
      rintro e w' ⟨s, ks, t, rfl, h1, h2, h3, hB⟩
      exact ⟨_, rfl, hK _ _ (Below.on kn.all hB) ⟨s, ks, t, upd_at .., h1, h2, h3⟩ (fun j hj hF => left24_later hB j v (kn.lt j hj) hF)⟩
    | 6, _, ho =>
    obtain rfl := Option.some.inj (ho.symm.trans (ops24_6 ps))
    have q0 := (kn.slot 0 162 (done 0 (by rfl)) rfl).trans (kn.fact 0 (done 0 (by rfl)))
    obtain ⟨s, ks, t, h5, hs, hp, ht⟩ := kn.fact 5 (done 5 (by rfl))
    have q5 := (kn.slot 5 167 (done 5 (by rfl)) rfl).trans h5
    refine op_enter (ops24_6 ps) rfl (f := 14) (args := #[.agg #[.int .i64 r.s.n, .slice h.ua r.s.u.length h.uc, .slice h.la h.es.length h.lc, .int .i64 r.cap, .int .i64 r.shift, .int .i64 r.edge, .int .u32 r.recent, .bool r.stamps, .bool r.sacks, .int .i64 r.fin, .bool r.dn, .slice h.fa r.first.length h.fc, .int .u32 r.irs, .int .u32 r.own, .bool r.stamp], .agg #[.int .i64 s.sp, .int .i64 s.dp, .int .u32 s.sq, .int .u32 s.ak, .int .i64 s.fl, .int .i64 s.wn, .int .i64 s.ur, .int .i64 s.ms, .int .i64 s.sc, .bool s.so, .bool s.st, .int .u32 s.va, .int .u32 s.ec, .slice ks.ka s.sk.length ks.kc, .slice ks.da s.da.length ks.dc]]) ?_ ?_
    · rw [run_call rfl enter_input]
      simp only [List.map_toArray, List.map_cons, List.map_nil, q0, q5]
    · refine (recvInput_own r h s ks w (hr.later kn.all) hok (hs.later kn.all) _ rfl _ rfl).mono ?_
      rintro e w' ⟨k, T, kt, rfl, hO, hB⟩
      exact ⟨_, rfl, hK _ _ (Below.on kn.all hB) ⟨s, t, _, k, T, kt, hp, ht, rfl, upd_at .., hO.mono kn.all.size⟩ (fun j hj hF => left24_later hB j v (kn.lt j hj) hF)⟩
    | 7, _, ho =>
    obtain rfl := Option.some.inj (ho.symm.trans (ops24_7 ps))
    have q6 := kn.slot 6 168 (done 6 (by rfl)) rfl
    obtain ⟨s, t, A, k, T, kt, _, _, _, h6, _⟩ := kn.fact 6 (done 6 (by rfl))
    refine op_val (ops24_7 ps) rfl (run_move rfl w) (hK _ _ kn.all ⟨(upd_at ..).trans (q6.trans (upd_ne v _ (by decide)).symm), A, k, T, kt, _, (upd_at ..).trans (q6.trans h6)⟩ (fun _ _ h => h))
    | 8, _, ho =>
    obtain rfl := Option.some.inj (ho.symm.trans (ops24_8 ps))
    obtain ⟨_, A, k, T, kt, b, h6⟩ := kn.fact 7 (done 7 (by rfl))
    have q7 := (kn.slot 7 161 (done 7 (by rfl)) rfl).trans h6
    refine op_val (ops24_8 ps) rfl (run_extract rfl q7 rfl w) (hK _ _ kn.all ⟨_, _, _, by rw [upd_ne v _ (by decide), upd_at]; exact h6⟩ (fun _ _ h => h))
    | 9, _, ho =>
    obtain rfl := Option.some.inj (ho.symm.trans (ops24_9 ps))
    obtain ⟨_, A, k, T, kt, b, h6⟩ := kn.fact 7 (done 7 (by rfl))
    have q7 := (kn.slot 7 161 (done 7 (by rfl)) rfl).trans h6
    refine op_val (ops24_9 ps) rfl (run_extract rfl q7 rfl w) (hK _ _ kn.all ⟨_, _, _, by rw [upd_ne v _ (by decide), upd_at]; exact h6⟩ (fun _ _ h => h))
    | 10, _, ho =>
    obtain rfl := Option.some.inj (ho.symm.trans (ops24_10 ps))
    obtain ⟨_, A, k, T, kt, b, h6⟩ := kn.fact 7 (done 7 (by rfl))
    have q7 := (kn.slot 7 161 (done 7 (by rfl)) rfl).trans h6
    refine op_val (ops24_10 ps) rfl (run_extract rfl q7 rfl w) (hK _ _ kn.all ⟨_, _, _, by rw [upd_ne v _ (by decide), upd_at]; exact h6⟩ (fun _ _ h => h))
    | 11, _, ho =>
    obtain rfl := Option.some.inj (ho.symm.trans (ops24_11 ps))
    obtain ⟨_, A, k, T, kt, b, h6⟩ := kn.fact 7 (done 7 (by rfl))
    have q7 := (kn.slot 7 161 (done 7 (by rfl)) rfl).trans h6
    refine op_val (ops24_11 ps) rfl (run_extract rfl q7 rfl w) (hK _ _ kn.all ⟨_, _, _, by rw [upd_ne v _ (by decide), upd_at]; exact h6⟩ (fun _ _ h => h))
    | 12, _, ho =>
    obtain rfl := Option.some.inj (ho.symm.trans (ops24_12 ps))
    refine op_val (ops24_12 ps) rfl (run_allocR rfl w) (hK _ _ (below_more kn.all _) ⟨w.heap.size, [.int .i64 0, .slice none 0 0, .slice none 0 0, .int .i64 0, .int .i64 0, .int .i64 0, .int .u32 0, .bool false, .bool false, .int .i64 0, .bool false, .slice none 0 0, .int .u32 0, .int .u32 0, .bool false], upd_at .., kn.all.size, rfl, Box.new w 27 [.int .i64 0, .slice none 0 0, .slice none 0 0, .int .i64 0, .int .i64 0, .int .i64 0, .int .u32 0, .bool false, .bool false, .int .i64 0, .bool false, .slice none 0 0, .int .u32 0, .int .u32 0, .bool false]⟩ (fun j hj hF => left24_later (below_more (Below.refl _ _) _) j v (kn.lt j hj) hF))
    | 13, _, ho =>
    obtain rfl := Option.some.inj (ho.symm.trans (ops24_13 ps))
    refine op_val (ops24_13 ps) rfl (run_allocS rfl w) (hK _ _ (below_more kn.all _) ⟨w.heap.size, [.int .i64 0, .int .i64 0, .int .u32 0, .int .u32 0, .int .i64 0, .int .i64 0, .int .i64 0, .int .i64 0, .int .i64 0, .bool false, .bool false, .int .u32 0, .int .u32 0, .slice none 0 0, .slice none 0 0], upd_at .., kn.all.size, rfl, Box.new w 34 [.int .i64 0, .int .i64 0, .int .u32 0, .int .u32 0, .int .i64 0, .int .i64 0, .int .i64 0, .int .i64 0, .int .i64 0, .bool false, .bool false, .int .u32 0, .int .u32 0, .slice none 0 0, .slice none 0 0]⟩ (fun j hj hF => left24_later (below_more (Below.refl _ _) _) j v (kn.lt j hj) hF))
    | 14, _, ho =>
    obtain rfl := Option.some.inj (ho.symm.trans (ops24_14 ps))
    obtain ⟨g, cs, h12, hg, hc, hbx⟩ := kn.fact 12 (done 12 (by rfl))
    have q12 := (kn.slot 12 24 (done 12 (by rfl)) rfl).trans h12
    obtain ⟨_, A, k, T, kt, bo, h6⟩ := kn.fact 7 (done 7 (by rfl))
    obtain ⟨b, c, d, h8⟩ := kn.fact 8 (done 8 (by rfl))
    rw [h6] at h8
    have h8' : v 8 = .agg #[.int .i64 A.s.n, .slice k.ua A.s.u.length k.uc, .slice k.la k.es.length k.lc, .int .i64 A.cap, .int .i64 A.shift, .int .i64 A.edge, .int .u32 A.recent, .bool A.stamps, .bool A.sacks, .int .i64 A.fin, .bool A.dn, .slice k.fa A.first.length k.fc, .int .u32 A.irs, .int .u32 A.own, .bool A.stamp] := by injection h8 with e; injection e with e; injection e with e1 _; exact e1.symm
    have q8 := (kn.slot 8 169 (done 8 (by rfl)) rfl).trans h8'
    refine op_if (ops24_14 ps) (fun K' hK' => wp_storeV rfl _ _ rfl A k g hc q12 q8 hbx rfl (fun u => hK' _ _ (hK u _ (setAll_below hg kn.all) ⟨g, A, k, by rw [upd_ne v _ (by decide)]; exact h12, by rw [upd_ne v _ (by decide)]; exact h8', hbx.put _ (by rw [hc]; rfl)⟩ (fun j hj hF => left24_storeR hbx hc rfl j v (kn.lt j hj) (fun e => hnD (e ▸ hj)) hF))))
    | 15, _, ho =>
    obtain rfl := Option.some.inj (ho.symm.trans (ops24_15 ps))
    obtain ⟨g, cs, h13, hg, hc, hbx⟩ := kn.fact 13 (done 13 (by rfl))
    have q13 := (kn.slot 13 25 (done 13 (by rfl)) rfl).trans h13
    obtain ⟨_, A, k, T, kt, bo, h6⟩ := kn.fact 7 (done 7 (by rfl))
    obtain ⟨b, c, d, h9⟩ := kn.fact 9 (done 9 (by rfl))
    rw [h6] at h9
    have h9' : v 9 = .agg #[.int .i64 T.sp, .int .i64 T.dp, .int .u32 T.sq, .int .u32 T.ak, .int .i64 T.fl, .int .i64 T.wn, .int .i64 T.ur, .int .i64 T.ms, .int .i64 T.sc, .bool T.so, .bool T.st, .int .u32 T.va, .int .u32 T.ec, .slice kt.ka T.sk.length kt.kc, .slice kt.da T.da.length kt.dc] := by injection h9 with e; injection e with e; injection e with _ e1; injection e1 with e1 _; exact e1.symm
    have q9 := (kn.slot 9 170 (done 9 (by rfl)) rfl).trans h9'
    refine op_if (ops24_15 ps) (fun K' hK' => wp_storeS rfl _ _ rfl T kt g hc q13 q9 hbx rfl (fun u => hK' _ _ (hK u _ (setAll_below hg kn.all) trivial (fun j hj hF => left24_storeS hbx hc rfl j v (kn.lt j hj) hF))))
    | 16, _, ho =>
    obtain rfl := Option.some.inj (ho.symm.trans (ops24_16 ps))
    have q := kn.slot 10 171 (done 10 (by rfl)) rfl
    refine op_val (ops24_16 ps) rfl (run_assign rfl w) (hK _ _ kn.all ((upd_at ..).trans (q.trans (upd_ne v _ (by decide)).symm)) (fun _ _ h => h))
    | 17, _, ho =>
    obtain rfl := Option.some.inj (ho.symm.trans (ops24_17 ps))
    have q := kn.slot 11 172 (done 11 (by rfl)) rfl
    refine op_val (ops24_17 ps) rfl (run_assign rfl w) (hK _ _ kn.all ((upd_at ..).trans (q.trans (upd_ne v _ (by decide)).symm)) (fun _ _ h => h))
    | i + 18, hi18, _ => exact absurd hi18 (by omega)
  · intro i o ho e he hb
    have := each_of (ops := ops24 ps) (f := fun o i => o.after.toList.all fun e => !(Region.binds .any e) || decide (e.on < i)) (by rfl) i o ho
    rw [List.all_eq_true] at this
    have := this e (by simpa using he)
    rw [hb] at this
    simpa using this
  · intro v w hS hF
    obtain ⟨s, t, A, k, T, kt, hp, ht, hA, h6, hO⟩ := hF 6 (by omega)
    have h7 : v 7 = v 6 := (hF 7 (by omega)).1
    rw [h6] at h7
    obtain ⟨g, B, q, h12, h8, hbx⟩ := hF 14 (by omega)
    obtain ⟨g', cs, h12', hg, _, _⟩ := hF 12 (by omega)
    obtain ⟨b, c, d, h8b⟩ := hF 8 (by omega)
    obtain ⟨b1, c1, d1, h10⟩ := hF 10 (by omega)
    obtain ⟨b2, c2, d2, h11⟩ := hF 11 (by omega)
    have h16 : v 16 = v 10 := hF 16 (by omega)
    have h17 : v 17 = v 11 := hF 17 (by omega)
    rw [h7] at h8b h10 h11
    have e8 : v 8 = .agg #[.int .i64 A.s.n, .slice k.ua A.s.u.length k.uc, .slice k.la k.es.length k.lc, .int .i64 A.cap, .int .i64 A.shift, .int .i64 A.edge, .int .u32 A.recent, .bool A.stamps, .bool A.sacks, .int .i64 A.fin, .bool A.dn, .slice k.fa A.first.length k.fc, .int .u32 A.irs, .int .u32 A.own, .bool A.stamp] := by injection h8b with e; injection e with e; injection e with e1 _; exact e1.symm
    have e10 : v 10 = .bool (Pl.inB r (segOf s)) := by injection h10 with e; injection e with e; injection e with _ e; injection e with _ e; injection e with e _; exact e.symm
    have e11 : v 11 = .int .i64 0 := by injection h11 with e; injection e with e; injection e with _ e; injection e with _ e; injection e with _ e; injection e with e _; exact e.symm
    have hbx' : Box w g 27 [.int .i64 A.s.n, .slice k.ua A.s.u.length k.uc, .slice k.la k.es.length k.lc, .int .i64 A.cap, .int .i64 A.shift, .int .i64 A.edge, .int .u32 A.recent, .bool A.stamps, .bool A.sacks, .int .i64 A.fin, .bool A.dn, .slice k.fa A.first.length k.fc, .int .u32 A.irs, .int .u32 A.own, .bool A.stamp] := by
      have : ([.int .i64 A.s.n, .slice k.ua A.s.u.length k.uc, .slice k.la k.es.length k.lc, .int .i64 A.cap, .int .i64 A.shift, .int .i64 A.edge, .int .u32 A.recent, .bool A.stamps, .bool A.sacks, .int .i64 A.fin, .bool A.dn, .slice k.fa A.first.length k.fc, .int .u32 A.irs, .int .u32 A.own, .bool A.stamp] : List Value) = [.int .i64 B.s.n, .slice q.ua B.s.u.length q.uc, .slice q.la q.es.length q.lc, .int .i64 B.cap, .int .i64 B.shift, .int .i64 B.edge, .int .u32 B.recent, .bool B.stamps, .bool B.sacks, .int .i64 B.fin, .bool B.dn, .slice q.fa B.first.length q.fc, .int .u32 B.irs, .int .u32 B.own, .bool B.stamp] := by
        rw [e8] at h8
        injection h8 with e
        injection e
      rw [this]; exact hbx
    have hgg : g' = g := by rw [h12] at h12'; injection h12' with e; injection e with e; injection e with e; exact e.symm
    exact hfin v w s t A k g hp ht hA hO hbx' (hgg ▸ hg) hS h12 (h16.trans e10) (h17.trans e11)
end Go.Proofs.Ytkigcdmlkmcdcaa
