/- The document's Given: the round trip. -/
import Derived.Test.YtdgiapeniafklaaRGivC
namespace Go.Proofs.Ytdgiapeniafklaa
open Go.ChangeShapes Go.WideShapes Go.ChangeAt Go.RowKit Go.Shelf
set_option linter.unusedVariables false
set_option linter.unusedSimpArgs false
attribute [local go_sem] Oper.semAt_some


set_option maxRecDepth 100000 in
set_option maxHeartbeats 4000000 in
theorem rgB_a (G id2 ak rate : Int) (now low : Int) (x : Rc) (w wc : World) (bp br bs bt bx : Nat) {u0 u1 u5 u6 u7 u10 u11 u13 u14 u15 u17 u18 u19 u20 u21 u22 u23 u24 u25 u26 u27 u28 u29 u30 u31 u32 u33 u34 u35 u36 u37 u38 u39 u40 u41 u42 u43 u44 u45 u46 u47 u48 u49 u50 u51 u52 u53 u54 u55 u56 u57 u58 u59 u60 u61 u62 u63 u64 u65 u66 u67 u68 u69 u70 u71 u72 u73 u74 u75 u76 u77 u78 u79 u80 u81 u82 u83 u84 u85 u86 u87 u88 u89 u90 u91 u92 u93 u94 u95 u96 u97 u98 u99 u100 u101 u102 u103 u104 u105 u106 u107 u108 u109 u110 u111 u112 u113 u114 u115 u116 u117 u118 u119 u120 u121 u122 u123 u124 u125 u126 u127 u128 u129 u130 u131 u132 u133 u134 u135 u136 u137 u138 u139 u140 u141 u142 u143 u144 u145 u146 u147 u148 u149 u150 u151 u152 u153 u154 u155 u156 u157 u158 u159 u160 u161 u162 u163 u164 u165 u166 u167 u168 u169 u170 u171 u172 : Value} {Post : Ending → World → Prop} (HX0 : Hid (Below w.heap.size w wc ∧ Box wc bp 23 (rtL ⟨G, now, x.sent, id2⟩) ∧ Box wc br 23 (rtL rtZ) ∧ Box wc bs 26 (smL smZ) ∧ Box wc bt 26 (smL ⟨now, ak, 0, 0, false, G, 0, 0⟩) ∧ Box wc bx 33 (rcL x) ∧ w.heap.size ≤ bp ∧ bp < br ∧ br < bs ∧ bs < bt ∧ bt < bx ∧ True)) (hb : (0 ≤ x.gv ∧ x.gv ≤ 1125899906842624) ∧ (0 ≤ x.ga ∧ x.ga ≤ 1125899906842624) ∧ (0 ≤ x.fa ∧ x.fa ≤ 1125899906842624) ∧ (0 ≤ x.sent ∧ x.sent ≤ 1125899906842624) ∧ (0 ≤ now ∧ now ≤ 1125899906842624) ∧ (0 ≤ low ∧ low ≤ 1125899906842624) ∧ 0 ≤ G ∧ G ≤ 1125899906842624) (h1 : x.tx = 1) (h2 : x.sent < now) (hrate : spdI x G now low = rate) (HP : Hid (∀ W', Below w.heap.size w W' → Post (.returned (.tuple #[agv (rtL ⟨G, now, x.sent, id2⟩), agv (smL ⟨now, ak, (now - x.sent), rate, x.idl, G, x.gv, 0⟩), .int .i64 0])) W')) :
    Code.wp Try.prog ((Try.f12.body.bind (fromA 28)).getD .skip) (bodyPost Try.prog Try.f12 Post) ⟨#[u0, u1, .int .i64 now, .int .i64 low, .pointer (some ⟨bp, 0, none⟩), u5, u6, u7, .pointer (some ⟨br, 0, none⟩), .pointer (some ⟨bs, 0, none⟩), u10, u11, .pointer (some ⟨bt, 0, none⟩), u13, u14, u15, .pointer (some ⟨bx, 0, none⟩), u17, u18, u19, u20, u21, u22, u23, u24, u25, u26, u27, u28, u29, u30, u31, u32, u33, u34, u35, u36, u37, u38, u39, u40, u41, u42, u43, u44, u45, u46, u47, u48, u49, u50, u51, u52, u53, u54, u55, u56, u57, u58, u59, u60, u61, u62, u63, u64, u65, u66, u67, u68, u69, u70, u71, u72, u73, u74, u75, u76, u77, u78, u79, u80, u81, u82, u83, u84, u85, u86, u87, u88, u89, u90, u91, u92, u93, u94, u95, u96, u97, u98, u99, u100, u101, u102, u103, u104, u105, u106, u107, u108, u109, u110, u111, u112, u113, u114, u115, u116, u117, u118, u119, u120, u121, u122, u123, u124, u125, u126, u127, u128, u129, u130, u131, u132, u133, u134, u135, u136, u137, u138, u139, u140, u141, u142, u143, u144, u145, u146, u147, u148, u149, u150, u151, u152, u153, u154, u155, u156, u157, u158, u159, u160, u161, u162, u163, u164, u165, u166, u167, u168, u169, u170, u171, u172], []⟩ wc := by
  conv => arg 2; whnf
  have m8 := Box.cell (HX0.out.2.2.2.2.2.1) 8 rfl
  have k6 := Box.cell (HX0.out.2.2.2.2.1) 6 rfl
  have fz := fun i => Box.frozen (HX0.out.2.2.2.2.1) i
  go_upto_region 29 with fail
  obtain ⟨X1, hX⟩ : ∃ X, wc.setCell ⟨bt, 6, none⟩ (.int .i64 x.gv) = X := ⟨_, rfl⟩
  try rw [hX]
  have HX1 : Hid (Below w.heap.size w X1 ∧ Box X1 bp 23 (rtL ⟨G, now, x.sent, id2⟩) ∧ Box X1 br 23 (rtL rtZ) ∧ Box X1 bs 26 (smL smZ) ∧ Box X1 bt 26 (smL ⟨now, ak, 0, 0, false, G, x.gv, 0⟩) ∧ Box X1 bx 33 (rcL x) ∧ w.heap.size ≤ bp ∧ bp < br ∧ br < bs ∧ bs < bt ∧ bt < bx ∧ True) := by
    obtain ⟨hb, b0, b1, b2, b3, b4, l0, l1, l2, l3, l4, _⟩ := HX0.out
    subst hX
    exact ⟨below_set hb _ _ _ (by omega), b0.aside _ _ _ (by omega), b1.aside _ _ _ (by omega), b2.aside _ _ _ (by omega), b3.set 6 _, b4.aside _ _ _ (by omega), l0, l1, l2, l3, l4, trivial⟩
  clear hX HX0
  clear k6 m8 fz
  have m11 := Box.cell (HX1.out.2.2.2.2.2.1) 11 rfl
  have k4 := Box.cell (HX1.out.2.2.2.2.1) 4 rfl
  have fz := fun i => Box.frozen (HX1.out.2.2.2.2.1) i
  go_upto_region 30 with fail
  obtain ⟨X2, hX⟩ : ∃ X, X1.setCell ⟨bt, 4, none⟩ (.bool x.idl) = X := ⟨_, rfl⟩
  try rw [hX]
  have HX2 : Hid (Below w.heap.size w X2 ∧ Box X2 bp 23 (rtL ⟨G, now, x.sent, id2⟩) ∧ Box X2 br 23 (rtL rtZ) ∧ Box X2 bs 26 (smL smZ) ∧ Box X2 bt 26 (smL ⟨now, ak, 0, 0, x.idl, G, x.gv, 0⟩) ∧ Box X2 bx 33 (rcL x) ∧ w.heap.size ≤ bp ∧ bp < br ∧ br < bs ∧ bs < bt ∧ bt < bx ∧ True) := by
    obtain ⟨hb, b0, b1, b2, b3, b4, l0, l1, l2, l3, l4, _⟩ := HX1.out
    subst hX
    exact ⟨below_set hb _ _ _ (by omega), b0.aside _ _ _ (by omega), b1.aside _ _ _ (by omega), b2.aside _ _ _ (by omega), b3.set 4 _, b4.aside _ _ _ (by omega), l0, l1, l2, l3, l4, trivial⟩
  clear hX HX1
  clear k4 m11 fz
  rename_i K1 hgo K2 hin
  have HGO : Hid _ := hgo
  clear hgo
  have m3 := Box.cell (HX2.out.2.2.2.2.2.1) 3 rfl
  have m4 := Box.cell (HX2.out.2.2.2.2.2.1) 4 rfl
  have k2 := Box.cell (HX2.out.2.2.2.2.1) 2 rfl
  have fz := fun i => Box.frozen (HX2.out.2.2.2.2.1) i
  rw [h1] at m4
  have d1 : decide (x.sent < now) = true := decide_eq_true h2
  clear h1 h2
  go_wp2_with fail
  obtain ⟨X3, hX⟩ : ∃ X, X2.setCell ⟨bt, 2, none⟩ (.int .i64 (now - x.sent)) = X := ⟨_, rfl⟩
  try rw [hX]
  have HX3 : Hid (Below w.heap.size w X3 ∧ Box X3 bp 23 (rtL ⟨G, now, x.sent, id2⟩) ∧ Box X3 br 23 (rtL rtZ) ∧ Box X3 bs 26 (smL smZ) ∧ Box X3 bt 26 (smL ⟨now, ak, now - x.sent, 0, x.idl, G, x.gv, 0⟩) ∧ Box X3 bx 33 (rcL x) ∧ w.heap.size ≤ bp ∧ bp < br ∧ br < bs ∧ bs < bt ∧ bt < bx ∧ True) := by
    obtain ⟨hb, b0, b1, b2, b3, b4, l0, l1, l2, l3, l4, _⟩ := HX2.out
    subst hX
    exact ⟨below_set hb _ _ _ (by omega), b0.aside _ _ _ (by omega), b1.aside _ _ _ (by omega), b2.aside _ _ _ (by omega), b3.set 2 _, b4.aside _ _ _ (by omega), l0, l1, l2, l3, l4, trivial⟩
  clear hX HX2
  clear m3 m4 k2 fz
  refine HGO.out _ _ ?_
  exact rgC G id2 ak (now - x.sent) rate now low x w _ bp br bs bt bx HX3 hb hrate HP

set_option maxRecDepth 100000 in
set_option maxHeartbeats 4000000 in
theorem rgB_b (G id2 ak rate : Int) (now low : Int) (x : Rc) (w wc : World) (bp br bs bt bx : Nat) {u0 u1 u5 u6 u7 u10 u11 u13 u14 u15 u17 u18 u19 u20 u21 u22 u23 u24 u25 u26 u27 u28 u29 u30 u31 u32 u33 u34 u35 u36 u37 u38 u39 u40 u41 u42 u43 u44 u45 u46 u47 u48 u49 u50 u51 u52 u53 u54 u55 u56 u57 u58 u59 u60 u61 u62 u63 u64 u65 u66 u67 u68 u69 u70 u71 u72 u73 u74 u75 u76 u77 u78 u79 u80 u81 u82 u83 u84 u85 u86 u87 u88 u89 u90 u91 u92 u93 u94 u95 u96 u97 u98 u99 u100 u101 u102 u103 u104 u105 u106 u107 u108 u109 u110 u111 u112 u113 u114 u115 u116 u117 u118 u119 u120 u121 u122 u123 u124 u125 u126 u127 u128 u129 u130 u131 u132 u133 u134 u135 u136 u137 u138 u139 u140 u141 u142 u143 u144 u145 u146 u147 u148 u149 u150 u151 u152 u153 u154 u155 u156 u157 u158 u159 u160 u161 u162 u163 u164 u165 u166 u167 u168 u169 u170 u171 u172 : Value} {Post : Ending → World → Prop} (HX0 : Hid (Below w.heap.size w wc ∧ Box wc bp 23 (rtL ⟨G, now, x.sent, id2⟩) ∧ Box wc br 23 (rtL rtZ) ∧ Box wc bs 26 (smL smZ) ∧ Box wc bt 26 (smL ⟨now, ak, 0, 0, false, G, 0, 0⟩) ∧ Box wc bx 33 (rcL x) ∧ w.heap.size ≤ bp ∧ bp < br ∧ br < bs ∧ bs < bt ∧ bt < bx ∧ True)) (hb : (0 ≤ x.gv ∧ x.gv ≤ 1125899906842624) ∧ (0 ≤ x.ga ∧ x.ga ≤ 1125899906842624) ∧ (0 ≤ x.fa ∧ x.fa ≤ 1125899906842624) ∧ (0 ≤ x.sent ∧ x.sent ≤ 1125899906842624) ∧ (0 ≤ now ∧ now ≤ 1125899906842624) ∧ (0 ≤ low ∧ low ≤ 1125899906842624) ∧ 0 ≤ G ∧ G ≤ 1125899906842624) (h1 : x.tx = 1) (h2 : ¬ x.sent < now) (hrate : spdI x G now low = rate) (HP : Hid (∀ W', Below w.heap.size w W' → Post (.returned (.tuple #[agv (rtL ⟨G, now, x.sent, id2⟩), agv (smL ⟨now, ak, 0, rate, x.idl, G, x.gv, 0⟩), .int .i64 0])) W')) :
    Code.wp Try.prog ((Try.f12.body.bind (fromA 28)).getD .skip) (bodyPost Try.prog Try.f12 Post) ⟨#[u0, u1, .int .i64 now, .int .i64 low, .pointer (some ⟨bp, 0, none⟩), u5, u6, u7, .pointer (some ⟨br, 0, none⟩), .pointer (some ⟨bs, 0, none⟩), u10, u11, .pointer (some ⟨bt, 0, none⟩), u13, u14, u15, .pointer (some ⟨bx, 0, none⟩), u17, u18, u19, u20, u21, u22, u23, u24, u25, u26, u27, u28, u29, u30, u31, u32, u33, u34, u35, u36, u37, u38, u39, u40, u41, u42, u43, u44, u45, u46, u47, u48, u49, u50, u51, u52, u53, u54, u55, u56, u57, u58, u59, u60, u61, u62, u63, u64, u65, u66, u67, u68, u69, u70, u71, u72, u73, u74, u75, u76, u77, u78, u79, u80, u81, u82, u83, u84, u85, u86, u87, u88, u89, u90, u91, u92, u93, u94, u95, u96, u97, u98, u99, u100, u101, u102, u103, u104, u105, u106, u107, u108, u109, u110, u111, u112, u113, u114, u115, u116, u117, u118, u119, u120, u121, u122, u123, u124, u125, u126, u127, u128, u129, u130, u131, u132, u133, u134, u135, u136, u137, u138, u139, u140, u141, u142, u143, u144, u145, u146, u147, u148, u149, u150, u151, u152, u153, u154, u155, u156, u157, u158, u159, u160, u161, u162, u163, u164, u165, u166, u167, u168, u169, u170, u171, u172], []⟩ wc := by
  conv => arg 2; whnf
  have m8 := Box.cell (HX0.out.2.2.2.2.2.1) 8 rfl
  have k6 := Box.cell (HX0.out.2.2.2.2.1) 6 rfl
  have fz := fun i => Box.frozen (HX0.out.2.2.2.2.1) i
  go_upto_region 29 with fail
  obtain ⟨X1, hX⟩ : ∃ X, wc.setCell ⟨bt, 6, none⟩ (.int .i64 x.gv) = X := ⟨_, rfl⟩
  try rw [hX]
  have HX1 : Hid (Below w.heap.size w X1 ∧ Box X1 bp 23 (rtL ⟨G, now, x.sent, id2⟩) ∧ Box X1 br 23 (rtL rtZ) ∧ Box X1 bs 26 (smL smZ) ∧ Box X1 bt 26 (smL ⟨now, ak, 0, 0, false, G, x.gv, 0⟩) ∧ Box X1 bx 33 (rcL x) ∧ w.heap.size ≤ bp ∧ bp < br ∧ br < bs ∧ bs < bt ∧ bt < bx ∧ True) := by
    obtain ⟨hb, b0, b1, b2, b3, b4, l0, l1, l2, l3, l4, _⟩ := HX0.out
    subst hX
    exact ⟨below_set hb _ _ _ (by omega), b0.aside _ _ _ (by omega), b1.aside _ _ _ (by omega), b2.aside _ _ _ (by omega), b3.set 6 _, b4.aside _ _ _ (by omega), l0, l1, l2, l3, l4, trivial⟩
  clear hX HX0
  clear k6 m8 fz
  have m11 := Box.cell (HX1.out.2.2.2.2.2.1) 11 rfl
  have k4 := Box.cell (HX1.out.2.2.2.2.1) 4 rfl
  have fz := fun i => Box.frozen (HX1.out.2.2.2.2.1) i
  go_upto_region 30 with fail
  obtain ⟨X2, hX⟩ : ∃ X, X1.setCell ⟨bt, 4, none⟩ (.bool x.idl) = X := ⟨_, rfl⟩
  try rw [hX]
  have HX2 : Hid (Below w.heap.size w X2 ∧ Box X2 bp 23 (rtL ⟨G, now, x.sent, id2⟩) ∧ Box X2 br 23 (rtL rtZ) ∧ Box X2 bs 26 (smL smZ) ∧ Box X2 bt 26 (smL ⟨now, ak, 0, 0, x.idl, G, x.gv, 0⟩) ∧ Box X2 bx 33 (rcL x) ∧ w.heap.size ≤ bp ∧ bp < br ∧ br < bs ∧ bs < bt ∧ bt < bx ∧ True) := by
    obtain ⟨hb, b0, b1, b2, b3, b4, l0, l1, l2, l3, l4, _⟩ := HX1.out
    subst hX
    exact ⟨below_set hb _ _ _ (by omega), b0.aside _ _ _ (by omega), b1.aside _ _ _ (by omega), b2.aside _ _ _ (by omega), b3.set 4 _, b4.aside _ _ _ (by omega), l0, l1, l2, l3, l4, trivial⟩
  clear hX HX1
  clear k4 m11 fz
  rename_i K1 hgo K2 hin
  have HGO : Hid _ := hgo
  clear hgo
  have m3 := Box.cell (HX2.out.2.2.2.2.2.1) 3 rfl
  have m4 := Box.cell (HX2.out.2.2.2.2.2.1) 4 rfl
  have k2 := Box.cell (HX2.out.2.2.2.2.1) 2 rfl
  have fz := fun i => Box.frozen (HX2.out.2.2.2.2.1) i
  rw [h1] at m4
  have d1 : decide (x.sent < now) = false := decide_eq_false h2
  clear h1 h2
  go_wp2_with fail
  clear m3 m4 k2 fz
  refine HGO.out _ _ ?_
  exact rgC G id2 ak 0 rate now low x w _ bp br bs bt bx HX2 hb hrate HP

set_option maxRecDepth 100000 in
set_option maxHeartbeats 4000000 in
theorem rgB_c (G id2 ak rate : Int) (now low : Int) (x : Rc) (w wc : World) (bp br bs bt bx : Nat) {u0 u1 u5 u6 u7 u10 u11 u13 u14 u15 u17 u18 u19 u20 u21 u22 u23 u24 u25 u26 u27 u28 u29 u30 u31 u32 u33 u34 u35 u36 u37 u38 u39 u40 u41 u42 u43 u44 u45 u46 u47 u48 u49 u50 u51 u52 u53 u54 u55 u56 u57 u58 u59 u60 u61 u62 u63 u64 u65 u66 u67 u68 u69 u70 u71 u72 u73 u74 u75 u76 u77 u78 u79 u80 u81 u82 u83 u84 u85 u86 u87 u88 u89 u90 u91 u92 u93 u94 u95 u96 u97 u98 u99 u100 u101 u102 u103 u104 u105 u106 u107 u108 u109 u110 u111 u112 u113 u114 u115 u116 u117 u118 u119 u120 u121 u122 u123 u124 u125 u126 u127 u128 u129 u130 u131 u132 u133 u134 u135 u136 u137 u138 u139 u140 u141 u142 u143 u144 u145 u146 u147 u148 u149 u150 u151 u152 u153 u154 u155 u156 u157 u158 u159 u160 u161 u162 u163 u164 u165 u166 u167 u168 u169 u170 u171 u172 : Value} {Post : Ending → World → Prop} (HX0 : Hid (Below w.heap.size w wc ∧ Box wc bp 23 (rtL ⟨G, now, x.sent, id2⟩) ∧ Box wc br 23 (rtL rtZ) ∧ Box wc bs 26 (smL smZ) ∧ Box wc bt 26 (smL ⟨now, ak, 0, 0, false, G, 0, 0⟩) ∧ Box wc bx 33 (rcL x) ∧ w.heap.size ≤ bp ∧ bp < br ∧ br < bs ∧ bs < bt ∧ bt < bx ∧ True)) (hb : (0 ≤ x.gv ∧ x.gv ≤ 1125899906842624) ∧ (0 ≤ x.ga ∧ x.ga ≤ 1125899906842624) ∧ (0 ≤ x.fa ∧ x.fa ≤ 1125899906842624) ∧ (0 ≤ x.sent ∧ x.sent ≤ 1125899906842624) ∧ (0 ≤ now ∧ now ≤ 1125899906842624) ∧ (0 ≤ low ∧ low ≤ 1125899906842624) ∧ 0 ≤ G ∧ G ≤ 1125899906842624) (h1 : ¬ x.tx = 1) (hrate : spdI x G now low = rate) (HP : Hid (∀ W', Below w.heap.size w W' → Post (.returned (.tuple #[agv (rtL ⟨G, now, x.sent, id2⟩), agv (smL ⟨now, ak, 0, rate, x.idl, G, x.gv, 0⟩), .int .i64 0])) W')) :
    Code.wp Try.prog ((Try.f12.body.bind (fromA 28)).getD .skip) (bodyPost Try.prog Try.f12 Post) ⟨#[u0, u1, .int .i64 now, .int .i64 low, .pointer (some ⟨bp, 0, none⟩), u5, u6, u7, .pointer (some ⟨br, 0, none⟩), .pointer (some ⟨bs, 0, none⟩), u10, u11, .pointer (some ⟨bt, 0, none⟩), u13, u14, u15, .pointer (some ⟨bx, 0, none⟩), u17, u18, u19, u20, u21, u22, u23, u24, u25, u26, u27, u28, u29, u30, u31, u32, u33, u34, u35, u36, u37, u38, u39, u40, u41, u42, u43, u44, u45, u46, u47, u48, u49, u50, u51, u52, u53, u54, u55, u56, u57, u58, u59, u60, u61, u62, u63, u64, u65, u66, u67, u68, u69, u70, u71, u72, u73, u74, u75, u76, u77, u78, u79, u80, u81, u82, u83, u84, u85, u86, u87, u88, u89, u90, u91, u92, u93, u94, u95, u96, u97, u98, u99, u100, u101, u102, u103, u104, u105, u106, u107, u108, u109, u110, u111, u112, u113, u114, u115, u116, u117, u118, u119, u120, u121, u122, u123, u124, u125, u126, u127, u128, u129, u130, u131, u132, u133, u134, u135, u136, u137, u138, u139, u140, u141, u142, u143, u144, u145, u146, u147, u148, u149, u150, u151, u152, u153, u154, u155, u156, u157, u158, u159, u160, u161, u162, u163, u164, u165, u166, u167, u168, u169, u170, u171, u172], []⟩ wc := by
  conv => arg 2; whnf
  have m8 := Box.cell (HX0.out.2.2.2.2.2.1) 8 rfl
  have k6 := Box.cell (HX0.out.2.2.2.2.1) 6 rfl
  have fz := fun i => Box.frozen (HX0.out.2.2.2.2.1) i
  go_upto_region 29 with fail
  obtain ⟨X1, hX⟩ : ∃ X, wc.setCell ⟨bt, 6, none⟩ (.int .i64 x.gv) = X := ⟨_, rfl⟩
  try rw [hX]
  have HX1 : Hid (Below w.heap.size w X1 ∧ Box X1 bp 23 (rtL ⟨G, now, x.sent, id2⟩) ∧ Box X1 br 23 (rtL rtZ) ∧ Box X1 bs 26 (smL smZ) ∧ Box X1 bt 26 (smL ⟨now, ak, 0, 0, false, G, x.gv, 0⟩) ∧ Box X1 bx 33 (rcL x) ∧ w.heap.size ≤ bp ∧ bp < br ∧ br < bs ∧ bs < bt ∧ bt < bx ∧ True) := by
    obtain ⟨hb, b0, b1, b2, b3, b4, l0, l1, l2, l3, l4, _⟩ := HX0.out
    subst hX
    exact ⟨below_set hb _ _ _ (by omega), b0.aside _ _ _ (by omega), b1.aside _ _ _ (by omega), b2.aside _ _ _ (by omega), b3.set 6 _, b4.aside _ _ _ (by omega), l0, l1, l2, l3, l4, trivial⟩
  clear hX HX0
  clear k6 m8 fz
  have m11 := Box.cell (HX1.out.2.2.2.2.2.1) 11 rfl
  have k4 := Box.cell (HX1.out.2.2.2.2.1) 4 rfl
  have fz := fun i => Box.frozen (HX1.out.2.2.2.2.1) i
  go_upto_region 30 with fail
  obtain ⟨X2, hX⟩ : ∃ X, X1.setCell ⟨bt, 4, none⟩ (.bool x.idl) = X := ⟨_, rfl⟩
  try rw [hX]
  have HX2 : Hid (Below w.heap.size w X2 ∧ Box X2 bp 23 (rtL ⟨G, now, x.sent, id2⟩) ∧ Box X2 br 23 (rtL rtZ) ∧ Box X2 bs 26 (smL smZ) ∧ Box X2 bt 26 (smL ⟨now, ak, 0, 0, x.idl, G, x.gv, 0⟩) ∧ Box X2 bx 33 (rcL x) ∧ w.heap.size ≤ bp ∧ bp < br ∧ br < bs ∧ bs < bt ∧ bt < bx ∧ True) := by
    obtain ⟨hb, b0, b1, b2, b3, b4, l0, l1, l2, l3, l4, _⟩ := HX1.out
    subst hX
    exact ⟨below_set hb _ _ _ (by omega), b0.aside _ _ _ (by omega), b1.aside _ _ _ (by omega), b2.aside _ _ _ (by omega), b3.set 4 _, b4.aside _ _ _ (by omega), l0, l1, l2, l3, l4, trivial⟩
  clear hX HX1
  clear k4 m11 fz
  rename_i K1 hgo K2 hin
  have HGO : Hid _ := hgo
  clear hgo
  have m3 := Box.cell (HX2.out.2.2.2.2.2.1) 3 rfl
  have m4 := Box.cell (HX2.out.2.2.2.2.2.1) 4 rfl
  have k2 := Box.cell (HX2.out.2.2.2.2.1) 2 rfl
  have fz := fun i => Box.frozen (HX2.out.2.2.2.2.1) i
  have d1 : (x.tx == 1) = false := by simpa using h1
  clear h1
  go_wp2_with fail
  clear m3 m4 k2 fz
  refine HGO.out _ _ ?_
  exact rgC G id2 ak 0 rate now low x w _ bp br bs bt bx HX2 hb hrate HP

set_option maxRecDepth 100000 in
set_option maxHeartbeats 4000000 in
theorem rgB (G id2 ak rt rate : Int) (now low : Int) (x : Rc) (w wc : World) (bp br bs bt bx : Nat) {u0 u1 u5 u6 u7 u10 u11 u13 u14 u15 u17 u18 u19 u20 u21 u22 u23 u24 u25 u26 u27 u28 u29 u30 u31 u32 u33 u34 u35 u36 u37 u38 u39 u40 u41 u42 u43 u44 u45 u46 u47 u48 u49 u50 u51 u52 u53 u54 u55 u56 u57 u58 u59 u60 u61 u62 u63 u64 u65 u66 u67 u68 u69 u70 u71 u72 u73 u74 u75 u76 u77 u78 u79 u80 u81 u82 u83 u84 u85 u86 u87 u88 u89 u90 u91 u92 u93 u94 u95 u96 u97 u98 u99 u100 u101 u102 u103 u104 u105 u106 u107 u108 u109 u110 u111 u112 u113 u114 u115 u116 u117 u118 u119 u120 u121 u122 u123 u124 u125 u126 u127 u128 u129 u130 u131 u132 u133 u134 u135 u136 u137 u138 u139 u140 u141 u142 u143 u144 u145 u146 u147 u148 u149 u150 u151 u152 u153 u154 u155 u156 u157 u158 u159 u160 u161 u162 u163 u164 u165 u166 u167 u168 u169 u170 u171 u172 : Value} {Post : Ending → World → Prop} (HX0 : Hid (Below w.heap.size w wc ∧ Box wc bp 23 (rtL ⟨G, now, x.sent, id2⟩) ∧ Box wc br 23 (rtL rtZ) ∧ Box wc bs 26 (smL smZ) ∧ Box wc bt 26 (smL ⟨now, ak, 0, 0, false, G, 0, 0⟩) ∧ Box wc bx 33 (rcL x) ∧ w.heap.size ≤ bp ∧ bp < br ∧ br < bs ∧ bs < bt ∧ bt < bx ∧ True)) (hb : (0 ≤ x.gv ∧ x.gv ≤ 1125899906842624) ∧ (0 ≤ x.ga ∧ x.ga ≤ 1125899906842624) ∧ (0 ≤ x.fa ∧ x.fa ≤ 1125899906842624) ∧ (0 ≤ x.sent ∧ x.sent ≤ 1125899906842624) ∧ (0 ≤ now ∧ now ≤ 1125899906842624) ∧ (0 ≤ low ∧ low ≤ 1125899906842624) ∧ 0 ≤ G ∧ G ≤ 1125899906842624) (hrt : rttI x now = rt) (hrate : spdI x G now low = rate) (HP : Hid (∀ W', Below w.heap.size w W' → Post (.returned (.tuple #[agv (rtL ⟨G, now, x.sent, id2⟩), agv (smL ⟨now, ak, rt, rate, x.idl, G, x.gv, 0⟩), .int .i64 0])) W')) :
    Code.wp Try.prog ((Try.f12.body.bind (fromA 28)).getD .skip) (bodyPost Try.prog Try.f12 Post) ⟨#[u0, u1, .int .i64 now, .int .i64 low, .pointer (some ⟨bp, 0, none⟩), u5, u6, u7, .pointer (some ⟨br, 0, none⟩), .pointer (some ⟨bs, 0, none⟩), u10, u11, .pointer (some ⟨bt, 0, none⟩), u13, u14, u15, .pointer (some ⟨bx, 0, none⟩), u17, u18, u19, u20, u21, u22, u23, u24, u25, u26, u27, u28, u29, u30, u31, u32, u33, u34, u35, u36, u37, u38, u39, u40, u41, u42, u43, u44, u45, u46, u47, u48, u49, u50, u51, u52, u53, u54, u55, u56, u57, u58, u59, u60, u61, u62, u63, u64, u65, u66, u67, u68, u69, u70, u71, u72, u73, u74, u75, u76, u77, u78, u79, u80, u81, u82, u83, u84, u85, u86, u87, u88, u89, u90, u91, u92, u93, u94, u95, u96, u97, u98, u99, u100, u101, u102, u103, u104, u105, u106, u107, u108, u109, u110, u111, u112, u113, u114, u115, u116, u117, u118, u119, u120, u121, u122, u123, u124, u125, u126, u127, u128, u129, u130, u131, u132, u133, u134, u135, u136, u137, u138, u139, u140, u141, u142, u143, u144, u145, u146, u147, u148, u149, u150, u151, u152, u153, u154, u155, u156, u157, u158, u159, u160, u161, u162, u163, u164, u165, u166, u167, u168, u169, u170, u171, u172], []⟩ wc := by
  unfold rttI at hrt
  by_cases h1 : x.tx = 1
  · rw [if_pos h1] at hrt
    by_cases h2 : x.sent < now
    · obtain rfl : now - x.sent = rt := by omega
      exact rgB_a G id2 ak rate now low x w wc bp br bs bt bx HX0 hb h1 h2 hrate HP
    · obtain rfl : 0 = rt := by omega
      exact rgB_b G id2 ak rate now low x w wc bp br bs bt bx HX0 hb h1 h2 hrate HP
  · rw [if_neg h1] at hrt
    subst hrt
    exact rgB_c G id2 ak rate now low x w wc bp br bs bt bx HX0 hb h1 hrate HP
end Go.Proofs.Ytdgiapeniafklaa
