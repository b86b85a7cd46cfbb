/- The document's Given: the rate, and the answer. -/
import Derived.Test.YtdgiapeniafklaaRGivP
import Derived.Test.YtdgiapeniafklaaSRefMul
namespace Go.Proofs.Ytdgiapeniafklaa
open Go.ChangeShapes Go.WideShapes Go.ChangeAt Go.RowKit Go.Shelf
set_option linter.unusedVariables false
set_option linter.unusedSimpArgs false
attribute [local go_sem] Oper.semAt_some


/-- Begins with a region. -/
def opensR (n : Nat) : Code → Bool
  | .region m _ _ => m == n
  | .seq a _ => opensR n a
  | _ => false
/-- The code from a statement on, by its first region. -/
def fromA (n : Nat) : Code → Option Code
  | .seq a b => if opensR n a then some (.seq a b) else match fromA n a with
    | some c => some c
    | none => fromA n b
  | _ => none

set_option maxRecDepth 100000 in
set_option maxHeartbeats 4000000 in
theorem rgC_a (G id2 ak rt t : Int) (now low : Int) (x : Rc) (w wc : World) (bp br bs bt bx : Nat) {u0 u1 u5 u6 u7 u10 u11 u13 u14 u15 u17 u18 u19 u20 u21 u22 u23 u24 u25 u26 u27 u28 u29 u30 u31 u32 u33 u34 u35 u36 u37 u38 u39 u40 u41 u42 u43 u44 u45 u46 u47 u48 u49 u50 u51 u52 u53 u54 u55 u56 u57 u58 u59 u60 u61 u62 u63 u64 u65 u66 u67 u68 u69 u70 u71 u72 u73 u74 u75 u76 u77 u78 u79 u80 u81 u82 u83 u84 u85 u86 u87 u88 u89 u90 u91 u92 u93 u94 u95 u96 u97 u98 u99 u100 u101 u102 u103 u104 u105 u106 u107 u108 u109 u110 u111 u112 u113 u114 u115 u116 u117 u118 u119 u120 u121 u122 u123 u124 u125 u126 u127 u128 u129 u130 u131 u132 u133 u134 u135 u136 u137 u138 u139 u140 u141 u142 u143 u144 u145 u146 u147 u148 u149 u150 u151 u152 u153 u154 u155 u156 u157 u158 u159 u160 u161 u162 u163 u164 u165 u166 u167 u168 u169 u170 u171 u172 : Value} {Post : Ending → World → Prop} (HX0 : Hid (Below w.heap.size w wc ∧ Box wc bp 23 (rtL ⟨G, now, x.sent, id2⟩) ∧ Box wc br 23 (rtL rtZ) ∧ Box wc bs 26 (smL smZ) ∧ Box wc bt 26 (smL ⟨now, ak, rt, 0, x.idl, G, x.gv, 0⟩) ∧ Box wc bx 33 (rcL x) ∧ w.heap.size ≤ bp ∧ bp < br ∧ br < bs ∧ bs < bt ∧ bt < bx ∧ True)) (ht : max (x.sent - x.fa) (now - x.ga) = t) (hb : (0 ≤ x.gv ∧ x.gv ≤ 1125899906842624) ∧ (0 ≤ x.ga ∧ x.ga ≤ 1125899906842624) ∧ (0 ≤ x.fa ∧ x.fa ≤ 1125899906842624) ∧ (0 ≤ x.sent ∧ x.sent ≤ 1125899906842624) ∧ (0 ≤ now ∧ now ≤ 1125899906842624) ∧ (0 ≤ low ∧ low ≤ 1125899906842624) ∧ 0 ≤ G ∧ G ≤ 1125899906842624) (h : t ≤ 0) (HP : Hid (∀ W', Below w.heap.size w W' → Post (.returned (.tuple #[agv (rtL ⟨G, now, x.sent, id2⟩), agv (smL ⟨now, ak, rt, 0, x.idl, G, x.gv, 0⟩), .int .i64 0])) W')) :
    Code.wp Try.prog ((Try.f12.body.bind (fromA 32)).getD .skip) (bodyPost Try.prog Try.f12 Post) ⟨#[u0, u1, .int .i64 now, .int .i64 low, .pointer (some ⟨bp, 0, none⟩), u5, u6, u7, .pointer (some ⟨br, 0, none⟩), .pointer (some ⟨bs, 0, none⟩), u10, u11, .pointer (some ⟨bt, 0, none⟩), u13, u14, u15, .pointer (some ⟨bx, 0, none⟩), u17, u18, u19, u20, u21, u22, u23, u24, u25, u26, u27, u28, u29, u30, u31, u32, u33, u34, u35, u36, u37, u38, u39, u40, u41, u42, u43, u44, u45, u46, u47, u48, u49, u50, u51, u52, u53, u54, u55, u56, u57, u58, u59, u60, u61, u62, u63, u64, u65, u66, u67, u68, u69, u70, u71, u72, u73, u74, u75, u76, u77, u78, u79, u80, u81, u82, u83, u84, u85, u86, u87, u88, u89, u90, u91, u92, u93, u94, u95, u96, u97, u98, u99, u100, u101, u102, u103, u104, u105, u106, u107, u108, u109, u110, u111, u112, u113, u114, u115, u116, u117, u118, u119, u120, u121, u122, u123, u124, u125, u126, u127, u128, u129, u130, u131, u132, u133, u134, u135, u136, u137, u138, u139, u140, u141, u142, u143, u144, u145, u146, u147, u148, u149, u150, u151, u152, u153, u154, u155, u156, u157, u158, u159, u160, u161, u162, u163, u164, u165, u166, u167, u168, u169, u170, u171, u172], []⟩ wc := by
  conv => arg 2; whnf
  have hm3 := @max2 (x.sent - x.fa) (now - x.ga) t ht
  clear ht
  have d1 : decide (0 < t) = false := decide_eq_false (by omega)
  clear h
  have m3 := Box.cell (HX0.out.2.2.2.2.2.1) 3 rfl
  have m8 := Box.cell (HX0.out.2.2.2.2.2.1) 8 rfl
  have m9 := Box.cell (HX0.out.2.2.2.2.2.1) 9 rfl
  have m10 := Box.cell (HX0.out.2.2.2.2.2.1) 10 rfl
  have k0 : wc.cell? ⟨bp, 0, none⟩ = some (.int .i64 G) := Box.cell (HX0.out.2.1) 0 rfl
  go_upto_region 35 with fail
  clear k0 m3 m8 m9 m10
  refine rgv35_reg (by rfl) ⟨G, now, x.sent, id2⟩ ⟨now, ak, rt, 0, x.idl, G, x.gv, 0⟩ x bp br bs bt bx _ _  rfl rfl rfl rfl (HX0.out.2.2.2.2.2.2.1) (HX0.out.2.2.2.2.2.2.2.1) (HX0.out.2.2.2.2.2.2.2.2.1) (HX0.out.2.2.2.2.2.2.2.2.2.1) (HX0.out.2.2.2.2.2.2.2.2.2.2.1) ⟨HX0.out.1, HX0.out.2.1, HX0.out.2.2.1, HX0.out.2.2.2.1, HX0.out.2.2.2.2.1, HX0.out.2.2.2.2.2.1, trivial⟩  ?_
  intro T X1 hT hS
  simp only [Act.put, List.setIfInBounds_toArray, List.set_cons_zero, List.set_cons_succ]
  simp only [hT]
  have HX1 : Hid (Below w.heap.size w X1 ∧ Box X1 bp 23 (rtL ⟨G, now, x.sent, id2⟩) ∧ Box X1 br 23 (rtL ⟨G, now, x.sent, id2⟩) ∧ Box X1 bs 26 (smL ⟨now, ak, rt, 0, x.idl, G, x.gv, 0⟩) ∧ Box X1 bt 26 (smL ⟨now, ak, rt, 0, x.idl, G, x.gv, 0⟩) ∧ Box X1 bx 33 (rcL x) ∧ w.heap.size ≤ bp ∧ bp < br ∧ br < bs ∧ bs < bt ∧ bt < bx ∧ True) := by
    obtain ⟨hb, b0, b1, b2, b3, b4, l0, l1, l2, l3, l4, _⟩ := HX0.out
    exact ⟨hS.1, hS.2.1, hS.2.2.1, hS.2.2.2.1, hS.2.2.2.2.1, hS.2.2.2.2.2.1, l0, l1, l2, l3, l4, trivial⟩
  clear hS hT HX0
  go_wp2_with fail
  refine bodyPost_ret (resSS rfl _ _ rfl (HX1.out.2.2.1) isS23 rfl (HX1.out.2.2.2.1) isS26) rfl ?_
  exact HP.out _ (HX1.out.1)

set_option maxRecDepth 100000 in
set_option maxHeartbeats 4000000 in
theorem rgC_b (G id2 ak rt t : Int) (now low : Int) (x : Rc) (w wc : World) (bp br bs bt bx : Nat) {u0 u1 u5 u6 u7 u10 u11 u13 u14 u15 u17 u18 u19 u20 u21 u22 u23 u24 u25 u26 u27 u28 u29 u30 u31 u32 u33 u34 u35 u36 u37 u38 u39 u40 u41 u42 u43 u44 u45 u46 u47 u48 u49 u50 u51 u52 u53 u54 u55 u56 u57 u58 u59 u60 u61 u62 u63 u64 u65 u66 u67 u68 u69 u70 u71 u72 u73 u74 u75 u76 u77 u78 u79 u80 u81 u82 u83 u84 u85 u86 u87 u88 u89 u90 u91 u92 u93 u94 u95 u96 u97 u98 u99 u100 u101 u102 u103 u104 u105 u106 u107 u108 u109 u110 u111 u112 u113 u114 u115 u116 u117 u118 u119 u120 u121 u122 u123 u124 u125 u126 u127 u128 u129 u130 u131 u132 u133 u134 u135 u136 u137 u138 u139 u140 u141 u142 u143 u144 u145 u146 u147 u148 u149 u150 u151 u152 u153 u154 u155 u156 u157 u158 u159 u160 u161 u162 u163 u164 u165 u166 u167 u168 u169 u170 u171 u172 : Value} {Post : Ending → World → Prop} (HX0 : Hid (Below w.heap.size w wc ∧ Box wc bp 23 (rtL ⟨G, now, x.sent, id2⟩) ∧ Box wc br 23 (rtL rtZ) ∧ Box wc bs 26 (smL smZ) ∧ Box wc bt 26 (smL ⟨now, ak, rt, 0, x.idl, G, x.gv, 0⟩) ∧ Box wc bx 33 (rcL x) ∧ w.heap.size ≤ bp ∧ bp < br ∧ br < bs ∧ bs < bt ∧ bt < bx ∧ True)) (ht : max (x.sent - x.fa) (now - x.ga) = t) (hb : (0 ≤ x.gv ∧ x.gv ≤ 1125899906842624) ∧ (0 ≤ x.ga ∧ x.ga ≤ 1125899906842624) ∧ (0 ≤ x.fa ∧ x.fa ≤ 1125899906842624) ∧ (0 ≤ x.sent ∧ x.sent ≤ 1125899906842624) ∧ (0 ≤ now ∧ now ≤ 1125899906842624) ∧ (0 ≤ low ∧ low ≤ 1125899906842624) ∧ 0 ≤ G ∧ G ≤ 1125899906842624) (h : 0 < t ∧ t < low) (HP : Hid (∀ W', Below w.heap.size w W' → Post (.returned (.tuple #[agv (rtL ⟨G, now, x.sent, id2⟩), agv (smL ⟨now, ak, rt, 0, x.idl, G, x.gv, 0⟩), .int .i64 0])) W')) :
    Code.wp Try.prog ((Try.f12.body.bind (fromA 32)).getD .skip) (bodyPost Try.prog Try.f12 Post) ⟨#[u0, u1, .int .i64 now, .int .i64 low, .pointer (some ⟨bp, 0, none⟩), u5, u6, u7, .pointer (some ⟨br, 0, none⟩), .pointer (some ⟨bs, 0, none⟩), u10, u11, .pointer (some ⟨bt, 0, none⟩), u13, u14, u15, .pointer (some ⟨bx, 0, none⟩), u17, u18, u19, u20, u21, u22, u23, u24, u25, u26, u27, u28, u29, u30, u31, u32, u33, u34, u35, u36, u37, u38, u39, u40, u41, u42, u43, u44, u45, u46, u47, u48, u49, u50, u51, u52, u53, u54, u55, u56, u57, u58, u59, u60, u61, u62, u63, u64, u65, u66, u67, u68, u69, u70, u71, u72, u73, u74, u75, u76, u77, u78, u79, u80, u81, u82, u83, u84, u85, u86, u87, u88, u89, u90, u91, u92, u93, u94, u95, u96, u97, u98, u99, u100, u101, u102, u103, u104, u105, u106, u107, u108, u109, u110, u111, u112, u113, u114, u115, u116, u117, u118, u119, u120, u121, u122, u123, u124, u125, u126, u127, u128, u129, u130, u131, u132, u133, u134, u135, u136, u137, u138, u139, u140, u141, u142, u143, u144, u145, u146, u147, u148, u149, u150, u151, u152, u153, u154, u155, u156, u157, u158, u159, u160, u161, u162, u163, u164, u165, u166, u167, u168, u169, u170, u171, u172], []⟩ wc := by
  conv => arg 2; whnf
  have hm3 := @max2 (x.sent - x.fa) (now - x.ga) t ht
  clear ht
  have d1 : decide (0 < t) = true := decide_eq_true h.1
  have d2 : decide (low ≤ t) = false := decide_eq_false (by omega)
  clear h
  have m3 := Box.cell (HX0.out.2.2.2.2.2.1) 3 rfl
  have m8 := Box.cell (HX0.out.2.2.2.2.2.1) 8 rfl
  have m9 := Box.cell (HX0.out.2.2.2.2.2.1) 9 rfl
  have m10 := Box.cell (HX0.out.2.2.2.2.2.1) 10 rfl
  have k0 : wc.cell? ⟨bp, 0, none⟩ = some (.int .i64 G) := Box.cell (HX0.out.2.1) 0 rfl
  go_upto_region 35 with fail
  clear k0 m3 m8 m9 m10
  refine rgv35_reg (by rfl) ⟨G, now, x.sent, id2⟩ ⟨now, ak, rt, 0, x.idl, G, x.gv, 0⟩ x bp br bs bt bx _ _  rfl rfl rfl rfl (HX0.out.2.2.2.2.2.2.1) (HX0.out.2.2.2.2.2.2.2.1) (HX0.out.2.2.2.2.2.2.2.2.1) (HX0.out.2.2.2.2.2.2.2.2.2.1) (HX0.out.2.2.2.2.2.2.2.2.2.2.1) ⟨HX0.out.1, HX0.out.2.1, HX0.out.2.2.1, HX0.out.2.2.2.1, HX0.out.2.2.2.2.1, HX0.out.2.2.2.2.2.1, trivial⟩  ?_
  intro T X1 hT hS
  simp only [Act.put, List.setIfInBounds_toArray, List.set_cons_zero, List.set_cons_succ]
  simp only [hT]
  have HX1 : Hid (Below w.heap.size w X1 ∧ Box X1 bp 23 (rtL ⟨G, now, x.sent, id2⟩) ∧ Box X1 br 23 (rtL ⟨G, now, x.sent, id2⟩) ∧ Box X1 bs 26 (smL ⟨now, ak, rt, 0, x.idl, G, x.gv, 0⟩) ∧ Box X1 bt 26 (smL ⟨now, ak, rt, 0, x.idl, G, x.gv, 0⟩) ∧ Box X1 bx 33 (rcL x) ∧ w.heap.size ≤ bp ∧ bp < br ∧ br < bs ∧ bs < bt ∧ bt < bx ∧ True) := by
    obtain ⟨hb, b0, b1, b2, b3, b4, l0, l1, l2, l3, l4, _⟩ := HX0.out
    exact ⟨hS.1, hS.2.1, hS.2.2.1, hS.2.2.2.1, hS.2.2.2.2.1, hS.2.2.2.2.2.1, l0, l1, l2, l3, l4, trivial⟩
  clear hS hT HX0
  go_wp2_with fail
  refine bodyPost_ret (resSS rfl _ _ rfl (HX1.out.2.2.1) isS23 rfl (HX1.out.2.2.2.1) isS26) rfl ?_
  exact HP.out _ (HX1.out.1)

set_option maxRecDepth 100000 in
set_option maxHeartbeats 4000000 in
theorem rgC_c (G id2 ak rt t : Int) (now low : Int) (x : Rc) (w wc : World) (bp br bs bt bx : Nat) {u0 u1 u5 u6 u7 u10 u11 u13 u14 u15 u17 u18 u19 u20 u21 u22 u23 u24 u25 u26 u27 u28 u29 u30 u31 u32 u33 u34 u35 u36 u37 u38 u39 u40 u41 u42 u43 u44 u45 u46 u47 u48 u49 u50 u51 u52 u53 u54 u55 u56 u57 u58 u59 u60 u61 u62 u63 u64 u65 u66 u67 u68 u69 u70 u71 u72 u73 u74 u75 u76 u77 u78 u79 u80 u81 u82 u83 u84 u85 u86 u87 u88 u89 u90 u91 u92 u93 u94 u95 u96 u97 u98 u99 u100 u101 u102 u103 u104 u105 u106 u107 u108 u109 u110 u111 u112 u113 u114 u115 u116 u117 u118 u119 u120 u121 u122 u123 u124 u125 u126 u127 u128 u129 u130 u131 u132 u133 u134 u135 u136 u137 u138 u139 u140 u141 u142 u143 u144 u145 u146 u147 u148 u149 u150 u151 u152 u153 u154 u155 u156 u157 u158 u159 u160 u161 u162 u163 u164 u165 u166 u167 u168 u169 u170 u171 u172 : Value} {Post : Ending → World → Prop} (HX0 : Hid (Below w.heap.size w wc ∧ Box wc bp 23 (rtL ⟨G, now, x.sent, id2⟩) ∧ Box wc br 23 (rtL rtZ) ∧ Box wc bs 26 (smL smZ) ∧ Box wc bt 26 (smL ⟨now, ak, rt, 0, x.idl, G, x.gv, 0⟩) ∧ Box wc bx 33 (rcL x) ∧ w.heap.size ≤ bp ∧ bp < br ∧ br < bs ∧ bs < bt ∧ bt < bx ∧ True)) (ht : max (x.sent - x.fa) (now - x.ga) = t) (hb : (0 ≤ x.gv ∧ x.gv ≤ 1125899906842624) ∧ (0 ≤ x.ga ∧ x.ga ≤ 1125899906842624) ∧ (0 ≤ x.fa ∧ x.fa ≤ 1125899906842624) ∧ (0 ≤ x.sent ∧ x.sent ≤ 1125899906842624) ∧ (0 ≤ now ∧ now ≤ 1125899906842624) ∧ (0 ≤ low ∧ low ≤ 1125899906842624) ∧ 0 ≤ G ∧ G ≤ 1125899906842624) (h : 0 < t ∧ low ≤ t ∧ G ≤ x.gv) (HP : Hid (∀ W', Below w.heap.size w W' → Post (.returned (.tuple #[agv (rtL ⟨G, now, x.sent, id2⟩), agv (smL ⟨now, ak, rt, 0, x.idl, G, x.gv, 0⟩), .int .i64 0])) W')) :
    Code.wp Try.prog ((Try.f12.body.bind (fromA 32)).getD .skip) (bodyPost Try.prog Try.f12 Post) ⟨#[u0, u1, .int .i64 now, .int .i64 low, .pointer (some ⟨bp, 0, none⟩), u5, u6, u7, .pointer (some ⟨br, 0, none⟩), .pointer (some ⟨bs, 0, none⟩), u10, u11, .pointer (some ⟨bt, 0, none⟩), u13, u14, u15, .pointer (some ⟨bx, 0, none⟩), u17, u18, u19, u20, u21, u22, u23, u24, u25, u26, u27, u28, u29, u30, u31, u32, u33, u34, u35, u36, u37, u38, u39, u40, u41, u42, u43, u44, u45, u46, u47, u48, u49, u50, u51, u52, u53, u54, u55, u56, u57, u58, u59, u60, u61, u62, u63, u64, u65, u66, u67, u68, u69, u70, u71, u72, u73, u74, u75, u76, u77, u78, u79, u80, u81, u82, u83, u84, u85, u86, u87, u88, u89, u90, u91, u92, u93, u94, u95, u96, u97, u98, u99, u100, u101, u102, u103, u104, u105, u106, u107, u108, u109, u110, u111, u112, u113, u114, u115, u116, u117, u118, u119, u120, u121, u122, u123, u124, u125, u126, u127, u128, u129, u130, u131, u132, u133, u134, u135, u136, u137, u138, u139, u140, u141, u142, u143, u144, u145, u146, u147, u148, u149, u150, u151, u152, u153, u154, u155, u156, u157, u158, u159, u160, u161, u162, u163, u164, u165, u166, u167, u168, u169, u170, u171, u172], []⟩ wc := by
  conv => arg 2; whnf
  have hm3 := @max2 (x.sent - x.fa) (now - x.ga) t ht
  clear ht
  have d1 : decide (0 < t) = true := decide_eq_true h.1
  have d2 : decide (low ≤ t) = true := decide_eq_true h.2.1
  have d3 : decide (x.gv < G) = false := decide_eq_false (by omega)
  clear h
  have m3 := Box.cell (HX0.out.2.2.2.2.2.1) 3 rfl
  have m8 := Box.cell (HX0.out.2.2.2.2.2.1) 8 rfl
  have m9 := Box.cell (HX0.out.2.2.2.2.2.1) 9 rfl
  have m10 := Box.cell (HX0.out.2.2.2.2.2.1) 10 rfl
  have k0 : wc.cell? ⟨bp, 0, none⟩ = some (.int .i64 G) := Box.cell (HX0.out.2.1) 0 rfl
  go_upto_region 35 with fail
  clear k0 m3 m8 m9 m10
  refine rgv35_reg (by rfl) ⟨G, now, x.sent, id2⟩ ⟨now, ak, rt, 0, x.idl, G, x.gv, 0⟩ x bp br bs bt bx _ _  rfl rfl rfl rfl (HX0.out.2.2.2.2.2.2.1) (HX0.out.2.2.2.2.2.2.2.1) (HX0.out.2.2.2.2.2.2.2.2.1) (HX0.out.2.2.2.2.2.2.2.2.2.1) (HX0.out.2.2.2.2.2.2.2.2.2.2.1) ⟨HX0.out.1, HX0.out.2.1, HX0.out.2.2.1, HX0.out.2.2.2.1, HX0.out.2.2.2.2.1, HX0.out.2.2.2.2.2.1, trivial⟩  ?_
  intro T X1 hT hS
  simp only [Act.put, List.setIfInBounds_toArray, List.set_cons_zero, List.set_cons_succ]
  simp only [hT]
  have HX1 : Hid (Below w.heap.size w X1 ∧ Box X1 bp 23 (rtL ⟨G, now, x.sent, id2⟩) ∧ Box X1 br 23 (rtL ⟨G, now, x.sent, id2⟩) ∧ Box X1 bs 26 (smL ⟨now, ak, rt, 0, x.idl, G, x.gv, 0⟩) ∧ Box X1 bt 26 (smL ⟨now, ak, rt, 0, x.idl, G, x.gv, 0⟩) ∧ Box X1 bx 33 (rcL x) ∧ w.heap.size ≤ bp ∧ bp < br ∧ br < bs ∧ bs < bt ∧ bt < bx ∧ True) := by
    obtain ⟨hb, b0, b1, b2, b3, b4, l0, l1, l2, l3, l4, _⟩ := HX0.out
    exact ⟨hS.1, hS.2.1, hS.2.2.1, hS.2.2.2.1, hS.2.2.2.2.1, hS.2.2.2.2.2.1, l0, l1, l2, l3, l4, trivial⟩
  clear hS hT HX0
  go_wp2_with fail
  refine bodyPost_ret (resSS rfl _ _ rfl (HX1.out.2.2.1) isS23 rfl (HX1.out.2.2.2.1) isS26) rfl ?_
  exact HP.out _ (HX1.out.1)

set_option maxRecDepth 100000 in
set_option maxHeartbeats 4000000 in
theorem rgC_d (G id2 ak rt t rate er : Int) (now low : Int) (x : Rc) (w wc : World) (bp br bs bt bx : Nat) {u0 u1 u5 u6 u7 u10 u11 u13 u14 u15 u17 u18 u19 u20 u21 u22 u23 u24 u25 u26 u27 u28 u29 u30 u31 u32 u33 u34 u35 u36 u37 u38 u39 u40 u41 u42 u43 u44 u45 u46 u47 u48 u49 u50 u51 u52 u53 u54 u55 u56 u57 u58 u59 u60 u61 u62 u63 u64 u65 u66 u67 u68 u69 u70 u71 u72 u73 u74 u75 u76 u77 u78 u79 u80 u81 u82 u83 u84 u85 u86 u87 u88 u89 u90 u91 u92 u93 u94 u95 u96 u97 u98 u99 u100 u101 u102 u103 u104 u105 u106 u107 u108 u109 u110 u111 u112 u113 u114 u115 u116 u117 u118 u119 u120 u121 u122 u123 u124 u125 u126 u127 u128 u129 u130 u131 u132 u133 u134 u135 u136 u137 u138 u139 u140 u141 u142 u143 u144 u145 u146 u147 u148 u149 u150 u151 u152 u153 u154 u155 u156 u157 u158 u159 u160 u161 u162 u163 u164 u165 u166 u167 u168 u169 u170 u171 u172 : Value} {Post : Ending → World → Prop} (HX0 : Hid (Below w.heap.size w wc ∧ Box wc bp 23 (rtL ⟨G, now, x.sent, id2⟩) ∧ Box wc br 23 (rtL rtZ) ∧ Box wc bs 26 (smL smZ) ∧ Box wc bt 26 (smL ⟨now, ak, rt, 0, x.idl, G, x.gv, 0⟩) ∧ Box wc bx 33 (rcL x) ∧ w.heap.size ≤ bp ∧ bp < br ∧ br < bs ∧ bs < bt ∧ bt < bx ∧ True)) (ht : max (x.sent - x.fa) (now - x.ga) = t) (hb : (0 ≤ x.gv ∧ x.gv ≤ 1125899906842624) ∧ (0 ≤ x.ga ∧ x.ga ≤ 1125899906842624) ∧ (0 ≤ x.fa ∧ x.fa ≤ 1125899906842624) ∧ (0 ≤ x.sent ∧ x.sent ≤ 1125899906842624) ∧ (0 ≤ now ∧ now ≤ 1125899906842624) ∧ (0 ≤ low ∧ low ≤ 1125899906842624) ∧ 0 ≤ G ∧ G ≤ 1125899906842624) (h : 0 < t ∧ low ≤ t ∧ x.gv < G) (c8 : ∀ W, Calls Try.prog 25 #[.int .i64 (G - x.gv), .int .i64 1000000, .int .i64 t] W fun e w' => e = .returned (.tuple #[.int .i64 rate, .int .i64 er]) ∧ Below W.heap.size W w') (HP : Hid (∀ W', Below w.heap.size w W' → Post (.returned (.tuple #[agv (rtL ⟨G, now, x.sent, id2⟩), agv (smL ⟨now, ak, rt, rate, x.idl, G, x.gv, 0⟩), .int .i64 0])) W')) :
    Code.wp Try.prog ((Try.f12.body.bind (fromA 32)).getD .skip) (bodyPost Try.prog Try.f12 Post) ⟨#[u0, u1, .int .i64 now, .int .i64 low, .pointer (some ⟨bp, 0, none⟩), u5, u6, u7, .pointer (some ⟨br, 0, none⟩), .pointer (some ⟨bs, 0, none⟩), u10, u11, .pointer (some ⟨bt, 0, none⟩), u13, u14, u15, .pointer (some ⟨bx, 0, none⟩), u17, u18, u19, u20, u21, u22, u23, u24, u25, u26, u27, u28, u29, u30, u31, u32, u33, u34, u35, u36, u37, u38, u39, u40, u41, u42, u43, u44, u45, u46, u47, u48, u49, u50, u51, u52, u53, u54, u55, u56, u57, u58, u59, u60, u61, u62, u63, u64, u65, u66, u67, u68, u69, u70, u71, u72, u73, u74, u75, u76, u77, u78, u79, u80, u81, u82, u83, u84, u85, u86, u87, u88, u89, u90, u91, u92, u93, u94, u95, u96, u97, u98, u99, u100, u101, u102, u103, u104, u105, u106, u107, u108, u109, u110, u111, u112, u113, u114, u115, u116, u117, u118, u119, u120, u121, u122, u123, u124, u125, u126, u127, u128, u129, u130, u131, u132, u133, u134, u135, u136, u137, u138, u139, u140, u141, u142, u143, u144, u145, u146, u147, u148, u149, u150, u151, u152, u153, u154, u155, u156, u157, u158, u159, u160, u161, u162, u163, u164, u165, u166, u167, u168, u169, u170, u171, u172], []⟩ wc := by
  conv => arg 2; whnf
  have hm3 := @max2 (x.sent - x.fa) (now - x.ga) t ht
  clear ht
  have d1 : decide (0 < t) = true := decide_eq_true h.1
  have d2 : decide (low ≤ t) = true := decide_eq_true h.2.1
  have d3 : decide (x.gv < G) = true := decide_eq_true h.2.2
  clear h
  have m3 := Box.cell (HX0.out.2.2.2.2.2.1) 3 rfl
  have m8 := Box.cell (HX0.out.2.2.2.2.2.1) 8 rfl
  have m9 := Box.cell (HX0.out.2.2.2.2.2.1) 9 rfl
  have m10 := Box.cell (HX0.out.2.2.2.2.2.1) 10 rfl
  have k0 : wc.cell? ⟨bp, 0, none⟩ = some (.int .i64 G) := Box.cell (HX0.out.2.1) 0 rfl
  go_wp2_with fail
  refine (c8 _).mono ?_
  rintro e w1 ⟨rfl, hB⟩
  have HX1 : Hid (Below w.heap.size w w1 ∧ Box w1 bp 23 (rtL ⟨G, now, x.sent, id2⟩) ∧ Box w1 br 23 (rtL rtZ) ∧ Box w1 bs 26 (smL smZ) ∧ Box w1 bt 26 (smL ⟨now, ak, rt, 0, x.idl, G, x.gv, 0⟩) ∧ Box w1 bx 33 (rcL x) ∧ w.heap.size ≤ bp ∧ bp < br ∧ br < bs ∧ bs < bt ∧ bt < bx ∧ True) := by
    obtain ⟨hb, b0, b1, b2, b3, b4, l0, l1, l2, l3, l4, _⟩ := HX0.out
    exact ⟨Below.on hb hB, b0.later hB, b1.later hB, b2.later hB, b3.later hB, b4.later hB, l0, l1, l2, l3, l4, trivial⟩
  clear hB HX0
  clear k0 m3 m8 m9 m10
  have k3 := Box.cell (HX1.out.2.2.2.2.1) 3 rfl
  have fz := fun i => Box.frozen (HX1.out.2.2.2.2.1) i
  go_upto_region 35 with fail
  obtain ⟨X2, hX⟩ : ∃ X, w1.setCell ⟨bt, 3, none⟩ (.int .i64 rate) = X := ⟨_, rfl⟩
  try rw [hX]
  have HX2 : Hid (Below w.heap.size w X2 ∧ Box X2 bp 23 (rtL ⟨G, now, x.sent, id2⟩) ∧ Box X2 br 23 (rtL rtZ) ∧ Box X2 bs 26 (smL smZ) ∧ Box X2 bt 26 (smL ⟨now, ak, rt, rate, x.idl, G, x.gv, 0⟩) ∧ Box X2 bx 33 (rcL x) ∧ w.heap.size ≤ bp ∧ bp < br ∧ br < bs ∧ bs < bt ∧ bt < bx ∧ True) := by
    obtain ⟨hb, b0, b1, b2, b3, b4, l0, l1, l2, l3, l4, _⟩ := HX1.out
    subst hX
    exact ⟨below_set hb _ _ _ (by omega), b0.aside _ _ _ (by omega), b1.aside _ _ _ (by omega), b2.aside _ _ _ (by omega), b3.set 3 _, b4.aside _ _ _ (by omega), l0, l1, l2, l3, l4, trivial⟩
  clear hX HX1
  clear k3 fz
  refine rgv35_reg (by rfl) ⟨G, now, x.sent, id2⟩ ⟨now, ak, rt, rate, x.idl, G, x.gv, 0⟩ x bp br bs bt bx _ _  rfl rfl rfl rfl (HX2.out.2.2.2.2.2.2.1) (HX2.out.2.2.2.2.2.2.2.1) (HX2.out.2.2.2.2.2.2.2.2.1) (HX2.out.2.2.2.2.2.2.2.2.2.1) (HX2.out.2.2.2.2.2.2.2.2.2.2.1) ⟨HX2.out.1, HX2.out.2.1, HX2.out.2.2.1, HX2.out.2.2.2.1, HX2.out.2.2.2.2.1, HX2.out.2.2.2.2.2.1, trivial⟩  ?_
  intro T X3 hT hS
  simp only [Act.put, List.setIfInBounds_toArray, List.set_cons_zero, List.set_cons_succ]
  simp only [hT]
  have HX3 : Hid (Below w.heap.size w X3 ∧ Box X3 bp 23 (rtL ⟨G, now, x.sent, id2⟩) ∧ Box X3 br 23 (rtL ⟨G, now, x.sent, id2⟩) ∧ Box X3 bs 26 (smL ⟨now, ak, rt, rate, x.idl, G, x.gv, 0⟩) ∧ Box X3 bt 26 (smL ⟨now, ak, rt, rate, x.idl, G, x.gv, 0⟩) ∧ Box X3 bx 33 (rcL x) ∧ w.heap.size ≤ bp ∧ bp < br ∧ br < bs ∧ bs < bt ∧ bt < bx ∧ True) := by
    obtain ⟨hb, b0, b1, b2, b3, b4, l0, l1, l2, l3, l4, _⟩ := HX2.out
    exact ⟨hS.1, hS.2.1, hS.2.2.1, hS.2.2.2.1, hS.2.2.2.2.1, hS.2.2.2.2.2.1, l0, l1, l2, l3, l4, trivial⟩
  clear hS hT HX2
  go_wp2_with fail
  refine bodyPost_ret (resSS rfl _ _ rfl (HX3.out.2.2.1) isS23 rfl (HX3.out.2.2.2.1) isS26) rfl ?_
  exact HP.out _ (HX3.out.1)

set_option maxRecDepth 100000 in
set_option maxHeartbeats 4000000 in
theorem rgC (G id2 ak rt rate : Int) (now low : Int) (x : Rc) (w wc : World) (bp br bs bt bx : Nat) {u0 u1 u5 u6 u7 u10 u11 u13 u14 u15 u17 u18 u19 u20 u21 u22 u23 u24 u25 u26 u27 u28 u29 u30 u31 u32 u33 u34 u35 u36 u37 u38 u39 u40 u41 u42 u43 u44 u45 u46 u47 u48 u49 u50 u51 u52 u53 u54 u55 u56 u57 u58 u59 u60 u61 u62 u63 u64 u65 u66 u67 u68 u69 u70 u71 u72 u73 u74 u75 u76 u77 u78 u79 u80 u81 u82 u83 u84 u85 u86 u87 u88 u89 u90 u91 u92 u93 u94 u95 u96 u97 u98 u99 u100 u101 u102 u103 u104 u105 u106 u107 u108 u109 u110 u111 u112 u113 u114 u115 u116 u117 u118 u119 u120 u121 u122 u123 u124 u125 u126 u127 u128 u129 u130 u131 u132 u133 u134 u135 u136 u137 u138 u139 u140 u141 u142 u143 u144 u145 u146 u147 u148 u149 u150 u151 u152 u153 u154 u155 u156 u157 u158 u159 u160 u161 u162 u163 u164 u165 u166 u167 u168 u169 u170 u171 u172 : Value} {Post : Ending → World → Prop} (HX0 : Hid (Below w.heap.size w wc ∧ Box wc bp 23 (rtL ⟨G, now, x.sent, id2⟩) ∧ Box wc br 23 (rtL rtZ) ∧ Box wc bs 26 (smL smZ) ∧ Box wc bt 26 (smL ⟨now, ak, rt, 0, x.idl, G, x.gv, 0⟩) ∧ Box wc bx 33 (rcL x) ∧ w.heap.size ≤ bp ∧ bp < br ∧ br < bs ∧ bs < bt ∧ bt < bx ∧ True)) (hb : (0 ≤ x.gv ∧ x.gv ≤ 1125899906842624) ∧ (0 ≤ x.ga ∧ x.ga ≤ 1125899906842624) ∧ (0 ≤ x.fa ∧ x.fa ≤ 1125899906842624) ∧ (0 ≤ x.sent ∧ x.sent ≤ 1125899906842624) ∧ (0 ≤ now ∧ now ≤ 1125899906842624) ∧ (0 ≤ low ∧ low ≤ 1125899906842624) ∧ 0 ≤ G ∧ G ≤ 1125899906842624) (hrate : spdI x G now low = rate) (HP : Hid (∀ W', Below w.heap.size w W' → Post (.returned (.tuple #[agv (rtL ⟨G, now, x.sent, id2⟩), agv (smL ⟨now, ak, rt, rate, x.idl, G, x.gv, 0⟩), .int .i64 0])) W')) :
    Code.wp Try.prog ((Try.f12.body.bind (fromA 32)).getD .skip) (bodyPost Try.prog Try.f12 Post) ⟨#[u0, u1, .int .i64 now, .int .i64 low, .pointer (some ⟨bp, 0, none⟩), u5, u6, u7, .pointer (some ⟨br, 0, none⟩), .pointer (some ⟨bs, 0, none⟩), u10, u11, .pointer (some ⟨bt, 0, none⟩), u13, u14, u15, .pointer (some ⟨bx, 0, none⟩), u17, u18, u19, u20, u21, u22, u23, u24, u25, u26, u27, u28, u29, u30, u31, u32, u33, u34, u35, u36, u37, u38, u39, u40, u41, u42, u43, u44, u45, u46, u47, u48, u49, u50, u51, u52, u53, u54, u55, u56, u57, u58, u59, u60, u61, u62, u63, u64, u65, u66, u67, u68, u69, u70, u71, u72, u73, u74, u75, u76, u77, u78, u79, u80, u81, u82, u83, u84, u85, u86, u87, u88, u89, u90, u91, u92, u93, u94, u95, u96, u97, u98, u99, u100, u101, u102, u103, u104, u105, u106, u107, u108, u109, u110, u111, u112, u113, u114, u115, u116, u117, u118, u119, u120, u121, u122, u123, u124, u125, u126, u127, u128, u129, u130, u131, u132, u133, u134, u135, u136, u137, u138, u139, u140, u141, u142, u143, u144, u145, u146, u147, u148, u149, u150, u151, u152, u153, u154, u155, u156, u157, u158, u159, u160, u161, u162, u163, u164, u165, u166, u167, u168, u169, u170, u171, u172], []⟩ wc := by
  obtain ⟨t, ht⟩ : ∃ t, max (x.sent - x.fa) (now - x.ga) = t := ⟨_, rfl⟩
  unfold spdI spdT at hrate
  rw [ht] at hrate
  by_cases h1 : t ≤ 0
  · rw [if_pos (.inl h1)] at hrate
    subst hrate
    exact rgC_a G id2 ak rt t now low x w wc bp br bs bt bx HX0 ht hb h1 HP
  by_cases h2 : t < low
  · rw [if_pos (.inr (.inl h2))] at hrate
    subst hrate
    exact rgC_b G id2 ak rt t now low x w wc bp br bs bt bx HX0 ht hb (by omega) HP
  by_cases h3 : G ≤ x.gv
  · rw [if_pos (.inr (.inr h3))] at hrate
    subst hrate
    exact rgC_c G id2 ak rt t now low x w wc bp br bs bt bx HX0 ht hb (by omega) HP
  · rw [if_neg (by omega)] at hrate
    refine rgC_d G id2 ak rt t rate (mulDivE (G - x.gv) 1000000 t) now low x w wc bp br bs bt bx HX0 ht hb (by omega) (fun W => (rmuldiv_walk (G - x.gv) 1000000 t (by omega) (by omega) (by omega) W).mono ?_) HP
    rintro e w' ⟨rfl, n, rfl⟩
    rw [hrate]
    exact ⟨rfl, below_drewN (Below.refl _ _) n⟩
end Go.Proofs.Ytdgiapeniafklaa
