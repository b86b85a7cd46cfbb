/- Texts: Acc. -/
import Derived.Test.YtdodagpkkjpdiaaQA43
namespace Go.Proofs.Ytdodagpkkjpdiaa
open Go.ChangeShapes Go.WideShapes Go.ChangeAt Go.RowKit
set_option linter.unusedVariables false
set_option linter.unusedSimpArgs false
theorem RvOwn.of_eq {w : World} {B : Nat} {r r' : Pl.Rv} {h : Hd} (H : RvOwn w B r h) (hs : r'.s = r.s) (hf : r'.first = r.first) : RvOwn w B r' h :=
  ⟨by rw [hs]; exact H.les, H.reach, H.row, by rw [hs]; exact H.fam, by rw [hf]; exact H.fst, by rw [hf]; exact H.frc⟩
/-- What accepted has at hand. -/
structure AcAt (B : Nat) (w wx : World) (p : Nat) (r : Pl.Rv) (h : Hd) (s : Seg) (ks : Hs) (x e : Int) : Prop where
  box : Box wx w.heap.size 46 (rvL r h)
  sg : Box wx (w.heap.size + 1) 28 (sgL s ks)
  zr : Box wx (w.heap.size + 2) 46 [.int .i64 0, .slice none 0 0, .slice none 0 0, .int .i64 0, .int .i64 0, .int .i64 0, .int .u32 0, .bool false, .bool false, .int .i64 0, .bool false, .slice none 0 0, .int .u32 0, .int .u32 0, .bool false]
  at' : Box wx p 39 [.int .i64 x, .int .i64 e]
  own : RvOwn wx B r h
  kp : Keep B w wx
  ge : w.heap.size + 3 ≤ p
theorem AcAt.later {B : Nat} {w wx wy : World} {p : Nat} {r : Pl.Rv} {h : Hd} {s : Seg} {ks : Hs} {x e : Int} (H : AcAt B w wx p r h s ks x e) (hB : B ≤ w.heap.size) (hb : Below wx.heap.size wx wy) : AcAt B w wy p r h s ks x e :=
  ⟨H.box.later hb, H.sg.later hb, H.zr.later hb, H.at'.later hb, H.own.later hb, H.kp.trans (Keep.of_below hb (Nat.le_trans hB H.kp.bel.size)), H.ge⟩
theorem AcAt.set {B : Nat} {w wx : World} {p : Nat} {r r' : Pl.Rv} {h h' : Hd} {s : Seg} {ks : Hs} {x e : Int} (H : AcAt B w wx p r h s ks x e) (hB : B ≤ w.heap.size) (i : Nat) (v : Value) (he : (rvL r h).set i v = rvL r' h') (ho : RvOwn wx B r' h') : AcAt B w (wx.setCell ⟨w.heap.size, i, none⟩ v) p r' h' s ks x e := by
  have hg := H.ge
  refine ⟨by rw [← he]; exact H.box.set i v, H.sg.aside _ _ _ (by omega), H.zr.aside _ _ _ (by omega), H.at'.aside _ _ _ (by omega), ho.besideR H.box i [v], H.kp.step hB (Chg.set (S := fun k => w.heap.size ≤ k) _ _ _ _ (Nat.le_refl _)) (fun k hk => .inl hk), hg⟩
theorem AcAt.fill {B : Nat} {w wx wy : World} {p : Nat} {r r' : Pl.Rv} {h h' : Hd} {s : Seg} {ks : Hs} {x e : Int} (H : AcAt B w wx p r h s ks x e) (hB : B ≤ w.heap.size) (hk : Keep B wx wy) (ho : RvOwn wy B r' h') : AcAt B w (setAll wy w.heap.size 0 (rvL r' h')) p r' h' s ks x e := by
  have hg := H.ge
  have h1 := hk.box H.box (by decide)
  exact ⟨h1.put _ rfl, (hk.box H.sg (by decide)).putAside _ _ _ (by omega), (hk.box H.zr (by decide)).putAside _ _ _ (by omega), (hk.box H.at' (by decide)).putAside _ _ _ (by omega), ho.besideR h1 0 _, (H.kp.trans hk).step hB (chg_setAll (S := fun k => w.heap.size ≤ k) (Nat.le_refl _) _ _ _) (fun k hk => .inl hk), hg⟩
theorem nodup_len : ∀ {l1 l2 : List Tm}, l1.Nodup → (∀ a ∈ l1, a ∈ l2) → l1.length ≤ l2.length
  | [], _, _, _ => Nat.zero_le _
  | a :: r, l2, hn, hs => by
    have ha := hs a (List.mem_cons_self ..)
    rw [List.nodup_cons] at hn
    have ih := nodup_len (l1 := r) (l2 := l2.erase a) hn.2 (fun b hb => (List.mem_erase_of_ne (fun e => hn.1 (by rw [← e]; exact hb))).2 (hs b (List.mem_cons_of_mem _ hb)))
    rw [List.length_erase_of_mem ha] at ih
    have := List.length_pos_of_mem ha
    simp only [List.length_cons]
    omega
/-- Numbers that their types hold. -/
structure Nums (r : Pl.Rv) : Prop where
  n : I64 r.s.n
  cap : I64 r.cap
  shift : I64 r.shift
  edge : I64 r.edge
  recent : U32 r.recent
  fin : I64 r.fin
  irs : U32 r.irs
  own : U32 r.own
theorem RvAt.nums {w : World} {r : Pl.Rv} {h : Hd} (H : RvAt w r h) : Nums r := ⟨H.n, H.cap, H.shift, H.edge, H.recent, H.fin, H.irs, H.own⟩
theorem Nums.at {w : World} {B : Nat} {r : Pl.Rv} {h : Hd} (N : Nums r) (ho : RvOwn w B r h) : RvAt w r h :=
  { un := (ho.fam.mine _ (List.mem_cons_self ..)).ok.1, late := ⟨ho.reach, ho.row.max.1, ho.row.max.2, ho.row.nil0, ho.row.ents, fun x hx => (ho.fam.mine x (List.mem_cons_of_mem _ hx)).ok⟩, les := ho.les, fst := ho.fst.sp ho.frc, n := N.n, cap := N.cap, shift := N.shift, edge := N.edge, recent := N.recent, fin := N.fin, irs := N.irs, own := N.own }
theorem nums_end {r : Pl.Rv} {g : Pl.Sg} (N : Nums r) (hok : r.Ok) (hv : U32 g.val) : Nums (endR r g) := by
  have hf := fin_bd (g := g) hok
  have hfi : I64 (Pl.finI r g) := by unfold I64; omega
  unfold endR Pl.stampR
  split
  · exact { N with fin := hfi, recent := hv }
  · exact { N with fin := hfi }
theorem nums_into {r : Pl.Rv} {g : Pl.Sg} (N : Nums r) (hok : r.Ok) (hv : U32 g.val) : Nums (Pl.intoR r g) := by
  have h1 := (Pl.into_ok (g := g) hok).1
  have h2 := h1.n0
  have h3 := h1.nf
  have h4 := h1.f1
  have h5 := h1.ff
  unfold Pl.farI at h3 h5
  have hn : I64 (Pl.intoR r g).s.n := by unfold I64; omega
  have hf : I64 (Pl.intoR r g).fin := by unfold I64; omega
  refine ⟨hn, ?_, ?_, ?_, ?_, hf, ?_, ?_⟩
  all_goals (unfold Pl.intoR Pl.stampR; split)
  all_goals first | exact N.cap | exact N.shift | exact N.edge | exact hv | exact N.recent | exact N.irs | exact N.own
/-- What accepted looks at of a segment. -/
def segOf (s : Seg) : Pl.Sg := ⟨s.sq, decide (bits BinOp.and IntKind.i64 s.fl 1 ≠ 0), s.st, s.va, s.da⟩
theorem end_stored {r : Pl.Rv} {g : Pl.Sg} (hok : r.Ok) : endR r g = if g.isFin = true ∧ endB (Pl.stampR r g) (Pl.offI r g + (g.ds.length : Int)) = true then { Pl.stampR r g with fin := Pl.offI r g + (g.ds.length : Int) } else Pl.stampR r g := by
  obtain ⟨e1, e2, e3, e4, e5⟩ := stamp_s r g
  have el : (Pl.stampR r g).limit = r.limit := by unfold Pl.Rv.limit Pl.Rv.reach; rw [e1, e2]
  have hf := hok.f1
  unfold endR Pl.finI endB
  rw [e1, e5, el]
  by_cases hc : g.isFin = true ∧ r.fin < 0 ∧ Pl.lateEnd r.s ≤ Pl.offI r g + (g.ds.length : Int) ∧ Pl.offI r g + (g.ds.length : Int) ≤ r.limit
  · rw [if_pos hc, if_pos ⟨hc.1, by simp; omega⟩]
  · rw [if_neg hc, if_neg (fun h => hc ⟨h.1, by have := h.2; simp at this; omega⟩), ← e5]
/-- Both boxes of a step's store. -/
theorem AcAt.put {B : Nat} {w wx : World} {p : Nat} {r r' : Pl.Rv} {h h' : Hd} {s : Seg} {ks : Hs} {x e : Int} (H : AcAt B w wx p r h s ks x e) (hB : B ≤ w.heap.size) (ho : RvOwn wx B r' h') : AcAt B w (setAll wx w.heap.size 0 (rvL r' h')) p r' h' s ks x e := by
  have hg := H.ge
  exact ⟨H.box.put _ rfl, H.sg.putAside _ _ _ (by omega), H.zr.putAside _ _ _ (by omega), H.at'.putAside _ _ _ (by omega), ho.besideR H.box 0 _, H.kp.step hB (chg_setAll (S := fun k => w.heap.size ≤ k) (Nat.le_refl _) _ _ _) (fun k hk => .inl hk), hg⟩
set_option maxRecDepth 100000 in
set_option maxHeartbeats 16000000 in
theorem accepted_any (B : Nat) (r : Pl.Rv) (h : Hd) (s : Seg) (ks : Hs) (w0 w : World) (H : RvOwn w B r h) (H0 : RvAt w r h) (hok : r.Ok) (hs : SgAt w0 s ks) (hw0 : w0.heap.size ≤ B) (hB0 : Below w0.heap.size w0 w) (hB : B ≤ w.heap.size) (x : Int) (hx : Pl.offI r (segOf s) = x) (r5 : Pl.Rv) (hr5 : Pl.intoR r (segOf s) = r5) (bl : List Tm) (hbl : blkL r (segOf s) = bl) :
    Calls Try.prog 35 #[.agg #[.int .i64 r.s.n, .slice h.ua r.s.u.length h.uc, .slice h.la h.es.length h.lc, .int .i64 r.cap, .int .i64 r.shift, .int .i64 r.edge, .int .u32 r.recent, .bool r.stamps, .bool r.sacks, .int .i64 r.fin, .bool r.dn, .slice h.fa r.first.length h.fc, .int .u32 r.irs, .int .u32 r.own, .bool r.stamp], .agg #[.int .i64 s.sp, .int .i64 s.dp, .int .u32 s.sq, .int .u32 s.ak, .int .i64 s.fl, .int .i64 s.wn, .int .i64 s.ur, .int .i64 s.ms, .int .i64 s.sc, .bool s.so, .bool s.st, .int .u32 s.va, .int .u32 s.ec, .slice ks.ka s.sk.length ks.kc, .slice ks.da s.da.length ks.dc]] w fun e' w' => ∃ (k : Hd) (ba : Option Addr) (bc : Nat), e' = .returned (.tuple #[.agg #[.int .i64 r5.s.n, .slice k.ua r5.s.u.length k.uc, .slice k.la k.es.length k.lc, .int .i64 r5.cap, .int .i64 r5.shift, .int .i64 r5.edge, .int .u32 r5.recent, .bool r5.stamps, .bool r5.sacks, .int .i64 r5.fin, .bool r5.dn, .slice k.fa r5.first.length k.fc, .int .u32 r5.irs, .int .u32 r5.own, .bool r5.stamp], .slice ba bl.length bc]) ∧ RvOwn w' B r5 k ∧ (RowT w' B ba bl.length bc bl ∧ bl.length * 16 ≤ 140737488351232) ∧ Keep B w w' := by
  obtain ⟨W0, hW0⟩ : ∃ W0, ((w.alloc (.cells #[.int .i64 r.s.n, .slice h.ua r.s.u.length h.uc, .slice h.la h.es.length h.lc, .int .i64 r.cap, .int .i64 r.shift, .int .i64 r.edge, .int .u32 r.recent, .bool r.stamps, .bool r.sacks, .int .i64 r.fin, .bool r.dn, .slice h.fa r.first.length h.fc, .int .u32 r.irs, .int .u32 r.own, .bool r.stamp] 46)).alloc (.cells #[.int .i64 s.sp, .int .i64 s.dp, .int .u32 s.sq, .int .u32 s.ak, .int .i64 s.fl, .int .i64 s.wn, .int .i64 s.ur, .int .i64 s.ms, .int .i64 s.sc, .bool s.so, .bool s.st, .int .u32 s.va, .int .u32 s.ec, .slice ks.ka s.sk.length ks.kc, .slice ks.da s.da.length ks.dc] 28)).alloc (.cells #[.int .i64 0, .slice none 0 0, .slice none 0 0, .int .i64 0, .int .i64 0, .int .i64 0, .int .u32 0, .bool false, .bool false, .int .i64 0, .bool false, .slice none 0 0, .int .u32 0, .int .u32 0, .bool false] 46) = W0 := ⟨_, rfl⟩
  have b0 : Below w.heap.size w W0 := by rw [← hW0]; exact below_more (below_more (below_more (Below.refl _ _) _) _) _
  have hX : Box W0 w.heap.size 46 [.int .i64 r.s.n, .slice h.ua r.s.u.length h.uc, .slice h.la h.es.length h.lc, .int .i64 r.cap, .int .i64 r.shift, .int .i64 r.edge, .int .u32 r.recent, .bool r.stamps, .bool r.sacks, .int .i64 r.fin, .bool r.dn, .slice h.fa r.first.length h.fc, .int .u32 r.irs, .int .u32 r.own, .bool r.stamp] := by rw [← hW0]; exact Box.alloc (Box.alloc (Box.new w 46 (rvL r h)) _) _
  have hG : Box W0 (w.heap.size + 1) 28 [.int .i64 s.sp, .int .i64 s.dp, .int .u32 s.sq, .int .u32 s.ak, .int .i64 s.fl, .int .i64 s.wn, .int .i64 s.ur, .int .i64 s.ms, .int .i64 s.sc, .bool s.so, .bool s.st, .int .u32 s.va, .int .u32 s.ec, .slice ks.ka s.sk.length ks.kc, .slice ks.da s.da.length ks.dc] := by rw [← hW0]; have := (Box.new (w.alloc (.cells (rvL r h).toArray 46)) 28 (sgL s ks)).alloc (.cells #[.int .i64 0, .slice none 0 0, .slice none 0 0, .int .i64 0, .int .i64 0, .int .i64 0, .int .u32 0, .bool false, .bool false, .int .i64 0, .bool false, .slice none 0 0, .int .u32 0, .int .u32 0, .bool false] 46); rwa [World.size_alloc] at this
  have hZ : Box W0 (w.heap.size + 2) 46 [.int .i64 0, .slice none 0 0, .slice none 0 0, .int .i64 0, .int .i64 0, .int .i64 0, .int .u32 0, .bool false, .bool false, .int .i64 0, .bool false, .slice none 0 0, .int .u32 0, .int .u32 0, .bool false] := by rw [← hW0]; have := Box.new ((w.alloc (.cells (rvL r h).toArray 46)).alloc (.cells (sgL s ks).toArray 28)) 46 [.int .i64 0, .slice none 0 0, .slice none 0 0, .int .i64 0, .int .i64 0, .int .i64 0, .int .u32 0, .bool false, .bool false, .int .i64 0, .bool false, .slice none 0 0, .int .u32 0, .int .u32 0, .bool false]; rwa [World.size_alloc, World.size_alloc] at this
  have hs0 : W0.heap.size = w.heap.size + 3 := by rw [← hW0]; simp
  obtain ⟨dl, hdl⟩ : ∃ dl, s.da.length = dl := ⟨_, rfl⟩
  have hdr := hs.data.1.1
  rw [hdl] at hdr
  have hn0 := hok.n0
  have hnf := hok.nf
  unfold Pl.farI at hnf
  have hirs := H0.irs
  have hsq := hs.sq
  unfold U32 at hirs hsq
  obtain ⟨dq, hdq⟩ : ∃ dq, (s.sq - r.irs) % 4294967296 = dq := ⟨_, rfl⟩
  have hdqb : U32 dq := by unfold U32; omega
  have cU := fun W => unwrap_walk r.s.n dq ⟨hn0, by omega⟩ hdqb W
  have hxx : r.s.n + Pl.dfI (r.s.n % 4294967296) dq = x := by rw [← hdq, ← hx]; rfl
  simp only [hxx] at cU
  have hxb := off_bd (g := segOf s) hok
  rw [hx] at hxb
  obtain ⟨e, he⟩ : ∃ e, x + (dl : Int) = e := ⟨_, rfl⟩
  obtain ⟨g, hg⟩ : ∃ g, segOf s = g := ⟨_, rfl⟩
  rw [hg] at hx hr5 hbl
  have HR5 : Hid (Pl.intoR r g = r5 ∧ blkL r g = bl) := ⟨hr5, hbl⟩
  clear hr5 hbl
  obtain ⟨p, hp⟩ : ∃ p, W0.heap.size = p := ⟨_, rfl⟩
  have HA0 : Hid (AcAt B w (W0.alloc (.cells #[.int .i64 x, .int .i64 e] 39)) p r h s ks x e) := by
    have b1 := below_more (Below.refl W0.heap.size W0) (.cells #[.int .i64 x, .int .i64 e] 39)
    exact ⟨hX.later b1, hG.later b1, hZ.later b1, by rw [← hp]; exact Box.new W0 39 [.int .i64 x, .int .i64 e], H.later (Below.on b0 b1), Keep.of_below (Below.on b0 b1) hB, by omega⟩
  have HH : Hid (RvAt w r h ∧ r.Ok ∧ SgAt w0 s ks ∧ w0.heap.size ≤ B ∧ Below w0.heap.size w0 w ∧ Pl.offI r g = x ∧ s.da.length = dl ∧ segOf s = g ∧ x + (dl : Int) = e) := ⟨H0, hok, hs, hw0, hB0, hx, hdl, hg, he⟩
  have HPP : Hid (W0.heap.size = p) := hp
  obtain ⟨c0, c1, c2, c3, c4, c5, c6, c7, c8, c9, c10, c11, c12, c13, c14⟩ := Box.c15 hX
  obtain ⟨d0, d1, d2, d3, d4, d5, d6, d7, d8, d9, d10, d11, d12, d13, d14⟩ := Box.c15 hG
  rw [hdl] at d14 hW0
  rw [hdl]
  clear hp b0 hX hG hZ hs0 H hx hok hs hxx H0 hB0 hw0 hdl hg
  go_enter Try.func35, Try.ntmps35
  go_upto_region 3 with (go_at_call 17; refine (cU _).mono ?_; rintro e' w' ⟨rfl, hw'⟩; obtain rfl := hw'.symm)
  clear c0 c1 c2 c3 c4 c5 c6 c7 c8 c9 c10 c11 c12 c13 c14 d0 d1 d2 d3 d4 d5 d6 d7 d8 d9 d10 d11 d12 d13 d14 hW0 cU hdqb hdq
  rw [HPP.out]
  obtain ⟨A0, hA0⟩ : ∃ A0, W0.alloc (.cells #[.int .i64 x, .int .i64 e] 39) = A0 := ⟨_, rfl⟩
  rw [hA0] at HA0 ⊢
  clear hA0 he HPP
  obtain ⟨r1, hr1⟩ : ∃ r1, Pl.stampR r g = r1 := ⟨_, rfl⟩
  have HR1 : Hid (Pl.stampR r g = r1) := hr1
  clear hr1
  go_cut [32] (fun v32 wx => v32 = .bool (r.stamps && decide (x ≤ r.s.n)) ∧ Hid (AcAt B w wx p r h s ks x e))
  case first =>
    have c7 := HA0.out.box.cell 7 rfl
    have c0 := HA0.out.box.cell 0 rfl
    have a0 := HA0.out.at'.cell 0 rfl
    rcases (by cases r.stamps <;> simp : r.stamps = true ∨ r.stamps = false) with hst | hst
    · rw [hst] at c7
      have HST : Hid (r.stamps = true) := hst
      clear hst
      go_wp2_with fail
      go_meet
      exact ⟨by rw [HST.out]; simp, HA0.out⟩
    · rw [hst] at c7
      have HST : Hid (r.stamps = false) := hst
      clear hst
      go_wp2_with fail
      go_meet
      exact ⟨by rw [HST.out]; simp, HA0.out⟩
  case rest =>
    clear HA0
    obtain ⟨rfl, HA0⟩ := hcut
    obtain ⟨c1, hc1⟩ : ∃ c1, (r.stamps && decide (x ≤ r.s.n)) = c1 := ⟨_, rfl⟩
    have HC1 : Hid ((r.stamps && decide (x ≤ r.s.n)) = c1) := hc1
    rw [hc1]
    clear hc1
    go_upto_if 32 with fail
    go_cut [] (fun wx => Hid (AcAt B w wx p r1 h s ks x e))
    case first =>
      have hr1 : r1 = if c1 = true then { r with recent := s.va, stamp := true } else r := by
        rw [← HR1.out]
        unfold Pl.stampR
        rw [HH.out.2.2.2.2.2.1, ← HC1.out, ← HH.out.2.2.2.2.2.2.2.1]
        by_cases hcc : r.stamps = true ∧ x ≤ r.s.n
        · rw [if_pos hcc, if_pos (by simp [hcc.1, hcc.2])]; rfl
        · rw [if_neg hcc, if_neg (fun hh => hcc (by simpa using hh))]
      have HR1b : Hid (r1 = if c1 = true then { r with recent := s.va, stamp := true } else r) := hr1
      clear hr1
      cases c1 with
      | true =>
        have d11 := HA0.out.sg.cell 11 rfl
        have c6 := HA0.out.box.cell 6 rfl
        have c14 := HA0.out.box.cell 14 rfl
        have f6 := HA0.out.box.frozen 6
        have f14 := HA0.out.box.frozen 14
        go_wp2_with fail
        go_meet
        have h1 : RvOwn wc B { r with recent := s.va } h := HA0.out.own.of_eq rfl rfl
        have q1 := HA0.out.set hB 6 (.int .u32 s.va) (r' := { r with recent := s.va }) rfl h1
        have h2 : RvOwn (wc.setCell ⟨w.heap.size, 6, none⟩ (.int .u32 s.va)) B { r with recent := s.va, stamp := true } h := q1.own.of_eq rfl rfl
        have q2 := q1.set hB 14 (.bool true) (r' := { r with recent := s.va, stamp := true }) rfl h2
        have e1 : r1 = { r with recent := s.va, stamp := true } := by simpa using HR1b.out
        rw [e1]
        exact q2
      | false =>
        go_wp2_with fail
        go_meet
        have e1 : r1 = r := by simpa using HR1b.out
        rw [e1]
        exact HA0.out
    case rest =>
      clear HA0
      have HA1 : Hid (AcAt B w wc p r1 h s ks x e) := hcut
      clear hcut HC1
      obtain ⟨fb, hfb⟩ : ∃ fb, bits BinOp.and IntKind.i64 s.fl 1 = fb := ⟨_, rfl⟩
      obtain ⟨eb, heb⟩ : ∃ eb, endB r1 e = eb := ⟨_, rfl⟩
      have HFB : Hid (bits BinOp.and IntKind.i64 s.fl 1 = fb ∧ endB r1 e = eb) := ⟨hfb, heb⟩
      have hst1 := stamp_s r g
      rw [HR1.out] at hst1
      have H1R : ∀ W, Keep B w W → RvOwn W B r1 h → RvAt W r1 h := fun W hk ho => by
        have h0 := HH.out.1
        have hrec : U32 r1.recent := by
          rw [← HR1.out]
          unfold Pl.stampR
          split
          · rw [← HH.out.2.2.2.2.2.2.2.1]; exact HH.out.2.2.1.va
          · exact h0.recent
        have hirs1 : r1.irs = r.irs ∧ r1.own = r.own ∧ r1.edge = r.edge := by rw [← HR1.out]; unfold Pl.stampR; split <;> exact ⟨rfl, rfl, rfl⟩
        exact { un := (ho.fam.mine _ (List.mem_cons_self ..)).ok.1, late := ⟨ho.reach, ho.row.max.1, ho.row.max.2, ho.row.nil0, ho.row.ents, fun x hx => (ho.fam.mine x (List.mem_cons_of_mem _ hx)).ok⟩, les := ho.les, fst := ho.fst.sp ho.frc, n := by rw [hst1.1]; exact h0.n, cap := by rw [hst1.2.1]; exact h0.cap, shift := by rw [hst1.2.2.2.1]; exact h0.shift, edge := by rw [hirs1.2.2]; exact h0.edge, recent := hrec, fin := by rw [hst1.2.2.2.2]; exact h0.fin, irs := by rw [hirs1.1]; exact h0.irs, own := by rw [hirs1.2.1]; exact h0.own }
      have hok1 : r1.Ok := by rw [← HR1.out]; exact stamp_ok HH.out.2.1
      have H1O : Hid (r1.Ok ∧ ∀ W, Keep B w W → RvOwn W B r1 h → RvAt W r1 h) := ⟨hok1, H1R⟩
      have cME := mayEnd_walk r1 h e wc (H1R wc HA1.out.kp HA1.out.own) hok1
      rw [heb] at cME
      clear H1R hok1 heb hst1
      go_upto_region 5 with fail
      go_cut [46] (fun v46 wx => v46 = .bool (decide (fb ≠ 0) && eb) ∧ Hid (AcAt B w wx p r1 h s ks x e))
      case first =>
        obtain ⟨c0, c1, c2, c3, c4, c5, c6, c7, c8, c9, c10, c11, c12, c13, c14⟩ := Box.c15 HA1.out.box
        have d4 := HA1.out.sg.cell 4 rfl
        have a1 := HA1.out.at'.cell 1 rfl
        by_cases h0 : fb = 0
        · have t1 : (fb != 0) = false := by simp [h0]
          have HF0 : Hid (fb = 0) := h0
          clear h0
          go_wp2_with fail
          go_meet
          exact ⟨by rw [HF0.out]; simp, HA1.out⟩
        · have t1 : (fb != 0) = true := by simpa using h0
          have HF0 : Hid (¬ fb = 0) := h0
          clear h0
          go_wp2_with fail
          refine cME.mono ?_
          rintro e' w5 ⟨rfl, hB5⟩
          have HB5 : Hid (Below wc.heap.size wc w5) := hB5
          clear hB5 c0 c1 c2 c3 c4 c5 c6 c7 c8 c9 c10 c11 c12 c13 c14 d4 a1
          go_wp2_with fail
          go_meet
          exact ⟨by have h9 := HF0.out; simp [h9], HA1.out.later hB HB5.out⟩
      case rest =>
        clear HA1 cME hfb
        obtain ⟨rfl, HA1⟩ := hcut
        obtain ⟨c2, hc2⟩ : ∃ c2, (decide (fb ≠ 0) && eb) = c2 := ⟨_, rfl⟩
        have HC2 : Hid ((decide (fb ≠ 0) && eb) = c2) := hc2
        rw [hc2]
        clear hc2
        obtain ⟨r2, hr2⟩ : ∃ r2, endR r g = r2 := ⟨_, rfl⟩
        have HR2 : Hid (endR r g = r2) := hr2
        clear hr2
        go_upto_if 46 with fail
        go_cut [] (fun wx => Hid (AcAt B w wx p r2 h s ks x e))
        case first =>
          have hr2 : r2 = if c2 = true then { r1 with fin := e } else r1 := by
            have h1 := end_stored (g := g) HH.out.2.1
            have h2 : g.ds.length = dl := by rw [← HH.out.2.2.2.2.2.2.2.1]; exact HH.out.2.2.2.2.2.2.1
            have h3 : g.isFin = decide (fb ≠ 0) := by rw [← HH.out.2.2.2.2.2.2.2.1, ← HFB.out.1]; rfl
            rw [HR1.out, HR2.out, HH.out.2.2.2.2.2.1, h2, HH.out.2.2.2.2.2.2.2.2, HFB.out.2, h3] at h1
            rw [h1, ← HC2.out]
            by_cases hcc : decide (fb ≠ 0) = true ∧ eb = true
            · rw [if_pos hcc, if_pos (by simpa using hcc)]
            · rw [if_neg hcc, if_neg (fun hh => hcc (by simpa using hh))]
          have HR2b : Hid (r2 = if c2 = true then { r1 with fin := e } else r1) := hr2
          clear hr2
          cases c2 with
          | true =>
            have a1 := HA1.out.at'.cell 1 rfl
            have c9 := HA1.out.box.cell 9 rfl
            have f9 := HA1.out.box.frozen 9
            go_wp2_with fail
            go_meet
            have h1 : RvOwn wc B { r1 with fin := e } h := HA1.out.own.of_eq rfl rfl
            have q1 := HA1.out.set hB 9 (.int .i64 e) (r' := { r1 with fin := e }) rfl h1
            have e1 : r2 = { r1 with fin := e } := by simpa using HR2b.out
            rw [e1]
            exact q1
          | false =>
            go_wp2_with fail
            go_meet
            have e1 : r2 = r1 := by simpa using HR2b.out
            rw [e1]
            exact HA1.out
        case rest =>
          clear HA1
          have HA2 : Hid (AcAt B w wc p r2 h s ks x e) := hcut
          clear hcut HC2 HFB H1O HR1
          have hok := HH.out.2.1
          have hgv : U32 g.val := by rw [← HH.out.2.2.2.2.2.2.2.1]; exact HH.out.2.2.1.va
          have hN2 : Nums r2 := by rw [← HR2.out]; exact nums_end HH.out.1.nums hok hgv
          have hs2 : r2.s = r.s := by rw [← HR2.out]; exact (stamp_s r g).1
          have hdat : ∀ W, Keep B w W → SlAt W ks.da ks.dc s.da := fun W hk => HH.out.2.2.1.data.below (Below.trans HH.out.2.2.2.2.1 (hk.bel.mono HH.out.2.2.2.1)) (Nat.le_refl _)
          have cM7 := missing_any r2 h x e ks.da dl ks.dc s.da wc (hN2.at HA2.out.own) (by rw [← HR2.out]; exact end_low hok) (by rw [hs2]; exact hok.lat) (by rw [hs2]; exact pend_m hok) (hdat wc HA2.out.kp) HH.out.2.2.2.2.2.2.1 HH.out.2.2.2.2.2.2.2.2 (by omega)
          have hfr : (gapsL (Pl.spansL r2.s.l) (Pl.maxJ x r2.s.n) (Pl.minJ (x + (s.da.length : Int)) (boundI r2))).map (frP x s.da) = freshL r g := by
            unfold freshL
            rw [hs2, ← HR2.out, end_bound hok, HH.out.2.2.2.2.2.1, ← HH.out.2.2.2.2.2.2.2.1]
            rfl
          rw [hfr] at cM7
          have HN : Hid (Nums r2 ∧ r2.s = r.s ∧ U32 g.val) := ⟨hN2, hs2, hgv⟩
          have d14 : wc.cell? ⟨w.heap.size + 1, 14, none⟩ = some (.slice ks.da dl ks.dc) := by have := HA2.out.sg.cell 14 rfl; rw [HH.out.2.2.2.2.2.2.1] at this; exact this
          have a0 := HA2.out.at'.cell 0 rfl
          have a1 := HA2.out.at'.cell 1 rfl
          obtain ⟨c0, c1, c2, c3, c4, c5, c6, c7, c8, c9, c10, c11, c12, c13, c14⟩ := Box.c15 HA2.out.box
          clear hok hgv hN2 hs2 hdat hfr
          go_wp2_with fail
          refine cM7.mono ?_
          rintro e' w7 ⟨fs, va7, vc7, rfl, hR7, hF7, hm7, hB7⟩
          clear cM7 c0 c1 c2 c3 c4 c5 c6 c7 c8 c9 c10 c11 c12 c13 c14 d14 a0 a1
          have hA7 := HA2.out.later hB hB7
          have hok := HH.out.2.1
          have hwc := HA2.out.kp.bel.size
          have hw7 := hB7.size
          have hfam : Fam w7 B (⟨0, h.ua, h.uc, r2.s.u⟩ :: (h.es ++ fs)) := HA2.out.own.fam.join hB7 (by omega) hF7
          obtain ⟨fd1, fd2⟩ := fresh_in (g := g) hok
          have hrc := Pl.Ok.reach hok
          have hlat := hok.lat
          have hs2 := HN.out.2.1
          have hles : h.es.map En.pc = r.s.l := by rw [← hs2]; exact HA2.out.own.les
          have hsm1 := dis_sum (hi := r.limit) (Pl.lat_dis hlat) hok.lim hrc.2.1
          have hsm2 := dis_sum (hi := r.limit) fd1 (fun q hq => (fd2 q hq).2) hrc.2.1
          rw [← hles, ← tot_map] at hsm1
          rw [← hm7, ← tot_map] at hsm2
          have hbot : r.s.bot = r.s.n - (r.s.u.length : Int) := rfl
          have hrch : r.reach = r.s.bot + r.cap := rfl
          have hcm := hok.cm
          have huc := hok.uc
          have hn0' := hok.n0
          have hnf' := hok.nf
          unfold Pl.farI at hnf'
          have htt : tot (h.es ++ fs) = tot h.es + tot fs := tot_app _ _
          have hll1 : h.es.length = (h.es.map En.pc).length := by simp
          have hll2 : fs.length = (fs.map En.pc).length := by simp
          obtain ⟨r3, hr3⟩ : ∃ r3, fillR r2 (fs.map En.pc) = r3 := ⟨_, rfl⟩
          have cF8 := filled_any r2 h va7 vc7 fs B w7 hA7.own (by omega) (hR7.mono (by omega)) hfam (by rw [hs2]; exact hn0') (by rw [hs2, htt]; omega) (by rw [hs2, htt]; omega) (by rw [List.length_append]; omega) (fun q hq => by
            rcases List.mem_append.1 hq with h1 | h1
            · have h2 : q.pc ∈ r.s.l := by rw [← hles]; exact List.mem_map.2 ⟨q, h1, rfl⟩
              have h3 := lat_from hlat _ h2
              have h4 := pend_m hok _ h2
              have h5 : Pl.pend q.pc = q.f + (q.bs.length : Int) := rfl
              have h6 : q.pc.1 = q.f := rfl
              omega
            · have h2 : q.pc ∈ freshL r g := by rw [← hm7]; exact List.mem_map.2 ⟨q, h1, rfl⟩
              have h3 := fd2 _ h2
              have h4 := (hi_bd (g := g) hok).2
              have h5 : Pl.pend q.pc = q.f + (q.bs.length : Int) := rfl
              have h6 : q.pc.1 = q.f := rfl
              omega) r3 hr3
          have HR3 : Hid (fillR (endR r g) (freshL r g) = r3 ∧ fs.map En.pc = freshL r g) := ⟨by rw [← hr3, ← HR2.out, hm7], hm7⟩
          obtain ⟨L7, hL7⟩ : ∃ L7, fs.length = L7 := ⟨_, rfl⟩
          rw [hL7] at cF8
          have HL7 : Hid (fs.length = L7) := hL7
          have HA7 : Hid (AcAt B w w7 p r2 h s ks x e) := hA7
          obtain ⟨c0, c1, c2, c3, c4, c5, c6, c7, c8, c9, c10, c11, c12, c13, c14⟩ := Box.c15 hA7.box
          clear hR7 hF7 hm7 hB7 hA7 hok hwc hw7 hfam fd1 fd2 hrc hlat hs2 hles hsm1 hsm2 hbot hrch hcm huc hn0' hnf' htt hll1 hll2 hr3 HA2
          rw [hL7]
          clear hL7
          go_wp2_with fail
          refine cF8.mono ?_
          rintro e' w8 ⟨k, rfl, hO8, hK8⟩
          clear cF8 c0 c1 c2 c3 c4 c5 c6 c7 c8 c9 c10 c11 c12 c13 c14
          have hb8 := hK8.box HA7.out.box (by decide)
          obtain ⟨X8, hX8⟩ : ∃ X8, setAll w8 w.heap.size 0 (rvL r3 k) = X8 := ⟨_, rfl⟩
          have HX8c : Hid ((((((((((((((((w8.setCell ⟨w.heap.size, 0, none⟩ (.int .i64 r3.s.n)).setCell ⟨w.heap.size, 1, none⟩ (.slice k.ua r3.s.u.length k.uc)).setCell ⟨w.heap.size, 2, none⟩ (.slice k.la k.es.length k.lc)).setCell ⟨w.heap.size, 3, none⟩ (.int .i64 r3.cap)).setCell ⟨w.heap.size, 4, none⟩ (.int .i64 r3.shift)).setCell ⟨w.heap.size, 5, none⟩ (.int .i64 r3.edge)).setCell ⟨w.heap.size, 6, none⟩ (.int .u32 r3.recent)).setCell ⟨w.heap.size, 7, none⟩ (.bool r3.stamps)).setCell ⟨w.heap.size, 8, none⟩ (.bool r3.sacks)).setCell ⟨w.heap.size, 9, none⟩ (.int .i64 r3.fin)).setCell ⟨w.heap.size, 10, none⟩ (.bool r3.dn)).setCell ⟨w.heap.size, 11, none⟩ (.slice k.fa r3.first.length k.fc)).setCell ⟨w.heap.size, 12, none⟩ (.int .u32 r3.irs)).setCell ⟨w.heap.size, 13, none⟩ (.int .u32 r3.own)).setCell ⟨w.heap.size, 14, none⟩ (.bool r3.stamp)) = X8) := hX8
          have HA8 : Hid (AcAt B w X8 p r3 k s ks x e) := by rw [← hX8]; exact HA7.out.fill hB hK8 hO8
          obtain ⟨c0, c1, c2, c3, c4, c5, c6, c7, c8, c9, c10, c11, c12, c13, c14⟩ := Box.c15 hb8
          obtain ⟨f0, f1, f2, f3, f4, f5, f6, f7, f8, f9, f10, f11, f12, f13, f14⟩ := Box.f15 hb8
          clear hO8 hK8 hb8 hX8 HA7
          go_upto_region 9 with fail
          rw [HX8c.out]
          clear c0 c1 c2 c3 c4 c5 c6 c7 c8 c9 c10 c11 c12 c13 c14 f0 f1 f2 f3 f4 f5 f6 f7 f8 f9 f10 f11 f12 f13 f14 HX8c
          obtain ⟨b9, hb9⟩ : ∃ b9, (r3.fin == r3.s.n) = b9 := ⟨_, rfl⟩
          obtain ⟨r4, hr4⟩ : ∃ r4 : Pl.Rv, { r3 with dn := b9 } = r4 := ⟨_, rfl⟩
          obtain ⟨X9, hX9⟩ : ∃ X9, X8.setCell ⟨w.heap.size, 10, none⟩ (.bool b9) = X9 := ⟨_, rfl⟩
          have HA9 : Hid (AcAt B w X9 p r4 k s ks x e) := by
            rw [← hX9, ← hr4]
            exact HA8.out.set hB 10 (.bool b9) (r' := { r3 with dn := b9 }) rfl (HA8.out.own.of_eq rfl rfl)
          have hok := HH.out.2.1
          have hfill := fresh_fill (g := g) hok
          have hinto := into_eq (g := g) hok
          rw [HR3.out.1] at hfill hinto
          have hfin3 : r3.fin = Pl.finI r g := by rw [← HR3.out.1]; rfl
          have hb9' : b9 = decide (Pl.finI r g = r3.s.n) := by rw [← hb9, hfin3]; by_cases hq : Pl.finI r g = r3.s.n <;> simp [hq]
          have h45 : r5 = { r4 with first := r5.first } := by
            rw [← hr4, hb9']
            have h1 := hinto
            rw [HR5.out.1] at h1
            exact h1
          have hs4 : r4.s = (Pl.takeR r g).1 := by rw [← hr4]; exact hfill.1
          have hs5 : r5.s = r4.s := by rw [h45]
          have hf4 : r4.first = r.first := by rw [← hr4, ← HR3.out.1]; exact (stamp_s r g).2.2.1
          have hok5 : r5.Ok := by rw [← HR5.out.1]; exact (Pl.into_ok hok).1
          have hN5 : Nums r5 := by rw [← HR5.out.1]; exact nums_into HH.out.1.nums hok HN.out.2.2
          have hN4 : Nums r4 := by
            have h1 := hN5
            rw [h45] at h1
            exact ⟨h1.n, h1.cap, h1.shift, h1.edge, h1.recent, h1.fin, h1.irs, h1.own⟩
          have hds : g.ds.length = dl := by rw [← HH.out.2.2.2.2.2.2.2.1]; exact HH.out.2.2.2.2.2.2.1
          have hF1 := first_into (g := g) hok
          rw [HR5.out.1, HH.out.2.2.2.2.2.1, hds, HH.out.2.2.2.2.2.2.2.2, ← hs4, ← hf4] at hF1
          have cI := inTurn_any r4 k x e X9 (hN4.at HA9.out.own) (by have h1 := ok_fits hok5; rw [hs5] at h1; exact h1) r5.first hF1
          have H45 : Hid (r5 = { r4 with first := r5.first } ∧ r5.Ok ∧ (freshL r g = [] ↔ (Pl.takeR r g).2 = false) ∧ g.ds.length = dl) := ⟨h45, hok5, hfill.2, hds⟩
          have c9 := HA8.out.box.cell 9 rfl
          have c0 := HA8.out.box.cell 0 rfl
          have c10 := HA8.out.box.cell 10 rfl
          have f10 := HA8.out.box.frozen 10
          have HX9 : Hid (X8.setCell ⟨w.heap.size, 10, none⟩ (.bool b9) = X9) := hX9
          clear hok hfill hinto hfin3 hb9' h45 hs4 hs5 hf4 hok5 hN5 hN4 hds hF1 hr4 hX9
          go_upto_region 10 with fail
          rw [HX9.out]
          clear c9 c0 c10 f10 HX9 hb9 HA8
          obtain ⟨c0, c1, c2, c3, c4, c5, c6, c7, c8, c9, c10, c11, c12, c13, c14⟩ := Box.c15 HA9.out.box
          have a0 := HA9.out.at'.cell 0 rfl
          have a1 := HA9.out.at'.cell 1 rfl
          go_wp2_with fail
          refine cI.mono ?_
          rintro e' w10 ⟨va10, vc10, rfl, hR10, hB10⟩
          clear cI c0 c1 c2 c3 c4 c5 c6 c7 c8 c9 c10 c11 c12 c13 c14 a0 a1
          have hA10 := HA9.out.later hB hB10
          obtain ⟨k5, hk5⟩ : ∃ k5 : Hd, ({ k with fa := va10, fc := vc10 } : Hd) = k5 := ⟨_, rfl⟩
          have hflen : r5.first.length * 16 ≤ 140737488351232 := by
            have h1 := H45.out.2.1
            have h2 : r5.first.length ≤ (Pl.spansL r5.s.l).length := nodup_len h1.nod h1.fst
            have h3 : (Pl.spansL r5.s.l).length = k.es.length := by
              have h4 := hA10.own.les
              have h5 : r5.s = r4.s := by rw [H45.out.1]
              unfold Pl.spansL
              rw [List.length_map, h5, ← h4, List.length_map]
            have h6 := hA10.own.reach
            omega
          have hO10 : RvOwn w10 B r5 k5 := by
            have h1 := hA10.own
            have h5 : r5.s = r4.s := by rw [H45.out.1]
            rw [← hk5]
            exact ⟨by rw [h5]; exact h1.les, h1.reach, h1.row, by rw [h5]; exact h1.fam, hR10.mono (by have := HA9.out.kp.bel.size; omega), hflen⟩
          obtain ⟨X10, hX10⟩ : ∃ X10, w10.setCell ⟨w.heap.size, 11, none⟩ (.slice va10 r5.first.length vc10) = X10 := ⟨_, rfl⟩
          have HA10 : Hid (AcAt B w X10 p r5 k5 s ks x e) := by
            rw [← hX10]
            refine hA10.set hB 11 _ ?_ hO10
            rw [← hk5, H45.out.1]
            rfl
          have c11 := hA10.box.cell 11 rfl
          have f11 := hA10.box.frozen 11
          have HX10 : Hid (w10.setCell ⟨w.heap.size, 11, none⟩ (.slice va10 r5.first.length vc10) = X10) := hX10
          clear hR10 hB10 hA10 hk5 hO10 hX10 HA9
          go_upto_region 11 with fail
          rw [HX10.out]
          clear c11 f11 HX10
          go_cut [81] (fun v81 wx => v81 = .bool (decide (0 < dl) && decide (0 ≤ x) && decide (L7 = 0)) ∧ wx = X10)
          case first =>
            have d14 : X10.cell? ⟨w.heap.size + 1, 14, none⟩ = some (.slice ks.da dl ks.dc) := by have := HA10.out.sg.cell 14 rfl; rw [HH.out.2.2.2.2.2.2.1] at this; exact this
            have a0 := HA10.out.at'.cell 0 rfl
            by_cases q1 : 0 < dl
            · have q1' : (0 : Int) < (dl : Int) := by omega
              by_cases q2 : 0 ≤ x
              · by_cases q3 : L7 = 0
                · have t3 : ((L7 : Int) == 0) = true := by simp [q3]
                  have t4 : (L7 == 0) = true := by simp [q3]
                  have HQ : Hid (L7 = 0 ∧ 0 < dl ∧ 0 ≤ x) := ⟨q3, q1, q2⟩
                  clear q3
                  go_wp2_with fail
                  go_meet
                  exact ⟨by have := HQ.out; simp [this], rfl⟩
                · have t3 : ((L7 : Int) == 0) = false := by simp [q3]
                  have t4 : (L7 == 0) = false := by simp [q3]
                  have HQ : Hid (¬ L7 = 0) := q3
                  clear q3
                  go_wp2_with fail
                  go_meet
                  exact ⟨by have := HQ.out; simp [this], rfl⟩
              · have HQ : Hid (¬ 0 ≤ x) := q2
                go_wp2_with fail
                go_meet
                exact ⟨by simp; intro _ h10; have h9 := HQ.out; omega, rfl⟩
            · have q1' : ¬ (0 : Int) < (dl : Int) := by omega
              have HQ : Hid (¬ 0 < dl) := q1
              go_wp2_with fail
              go_meet
              exact ⟨by simp [show decide (0 < dl) = false from by simpa using (by omega : ¬ 0 < dl)], rfl⟩
          case rest =>
            obtain ⟨rfl, rfl⟩ := hcut
            obtain ⟨c3, hc3⟩ : ∃ c3, (decide (0 < dl) && decide (0 ≤ x) && decide (L7 = 0)) = c3 := ⟨_, rfl⟩
            have HC3 : Hid (bl = if c3 = true then (x, e) :: r5.first else r5.first) := by
              unfold Hid
              have h1 := HR5.out.2
              unfold blkL at h1
              rw [H45.out.2.2.2, HH.out.2.2.2.2.2.1, HR5.out.1, HH.out.2.2.2.2.2.2.2.2] at h1
              have h2 : freshL r g = [] ↔ L7 = 0 := by
                rw [← HR3.out.2, ← HL7.out]
                cases fs <;> simp
              rw [← h1, ← hc3]
              by_cases hcc : 0 < dl ∧ 0 ≤ x ∧ freshL r g = []
              · rw [if_pos hcc, if_pos (by simp [hcc.1, hcc.2.1, h2.1 hcc.2.2])]
              · rw [if_neg hcc, if_neg (fun hh => hcc (by simp at hh; exact ⟨hh.1.1, hh.1.2, h2.2 hh.2⟩))]
            rw [hc3]
            clear hc3
            go_upto_if 81 with fail
            have hdr : Below wc.heap.size wc wc.drew := Below.drew (Below.refl _ _)
            have hAd := HA10.out.later hB hdr
            have hge := hAd.ge
            cases c3 with
            | false =>
              have e1 : bl = r5.first := by simpa using HC3.out
              have HBL : Hid (bl = r5.first) := e1
              clear e1 HC3
              go_wp2_with fail
              obtain ⟨S, hS⟩ : ∃ S : World → Prop, S = fun W => Box W w.heap.size 46 (rvL r5 k5) := ⟨_, rfl⟩
              have y0 : ∀ {ps : String} (ev : Operand → Value), ev (.tmp 2) = .pointer (some ⟨w.heap.size, 0, none⟩) → ∀ W, S W → (execOp ev { dst := some 89, op := Go.Op.load 46 (Go.Operand.tmp 2), type := 46, pos := ps, after := #[], guard := none }).run Try.prog W = .ok (.value (.agg #[.int .i64 r5.s.n, .slice k5.ua r5.s.u.length k5.uc, .slice k5.la k5.es.length k5.lc, .int .i64 r5.cap, .int .i64 r5.shift, .int .i64 r5.edge, .int .u32 r5.recent, .bool r5.stamps, .bool r5.sacks, .int .i64 r5.fin, .bool r5.dn, .slice k5.fa r5.first.length k5.fc, .int .u32 r5.irs, .int .u32 r5.own, .bool r5.stamp])) W := by
                intro ps ev h0 W hSw
                rw [hS] at hSw
                obtain ⟨c0, c1, c2, c3, c4, c5, c6, c7, c8, c9, c10, c11, c12, c13, c14⟩ := Box.c15 hSw
                first | (go_simp; done) | (go_simp; with_reducible rfl)
              have y1 : ∀ {ps : String} (ev : Operand → Value), ev (.tmp 2) = .pointer (some ⟨w.heap.size, 0, none⟩) → ∀ W, S W → (execOp ev { dst := some 90, op := Go.Op.fieldAddr 46 (Go.Operand.tmp 2) 11, type := 0, pos := ps, after := #[{ on := 3, ground := Go.Ground.gcOnly Go.Departure.lateStores }], guard := none }).run Try.prog W = .ok (.value (.pointer (some ⟨w.heap.size, 11, none⟩))) W := by
                intro ps ev h0 W hSw
                first | (go_simp; done) | (go_simp; with_reducible rfl)
              have y2 : ∀ {ps : String} (ev : Operand → Value), ev (.tmp 90) = .pointer (some ⟨w.heap.size, 11, none⟩) → ∀ W, S W → (execOp ev { dst := some 91, op := Go.Op.load 29 (Go.Operand.tmp 90), type := 29, pos := ps, after := #[{ on := 1, ground := Go.Ground.data }, { on := 3, ground := Go.Ground.gcOnly Go.Departure.lateStores }], guard := none }).run Try.prog W = .ok (.value (.slice k5.fa r5.first.length k5.fc)) W := by
                intro ps ev h0 W hSw
                rw [hS] at hSw
                have c11 := Box.cell hSw 11 rfl
                first | (go_simp; done) | (go_simp; with_reducible rfl)
              obtain ⟨X3, hX3⟩ : ∃ X3, setAll wc.drew (w.heap.size + 2) 0 (rvL r5 k5) = X3 := ⟨_, rfl⟩
              have hS3 : S X3 := by rw [hS, ← hX3]; exact hAd.box.putAside _ _ _ (by omega)
              have HF : Hid (Box X3 (w.heap.size + 2) 46 (rvL r5 k5) ∧ RvOwn X3 B r5 k5 ∧ Keep B w X3) := by
                rw [← hX3]
                exact ⟨hAd.zr.put _ rfl, hAd.own.besideR hAd.zr 0 _, hAd.kp.step hB (chg_setAll (S := fun k => w.heap.size ≤ k) (by omega) _ _ _) (fun k hk => .inl hk)⟩
              refine wp_region_X S 4 (by kernel_rfl) (by rw [hS]; exact hAd.box) (fun hHeld => ?_)
              refine wpX_take (i := 0) (oi := { dst := some 89, op := Go.Op.load 46 (Go.Operand.tmp 2), type := 46, pos := _, after := #[], guard := none }) (v := .agg #[.int .i64 r5.s.n, .slice k5.ua r5.s.u.length k5.uc, .slice k5.la k5.es.length k5.lc, .int .i64 r5.cap, .int .i64 r5.shift, .int .i64 r5.edge, .int .u32 r5.recent, .bool r5.stamps, .bool r5.sacks, .int .i64 r5.fin, .bool r5.dn, .slice k5.fa r5.first.length k5.fc, .int .u32 r5.irs, .int .u32 r5.own, .bool r5.stamp]) rfl (by kernel_rfl) (by kernel_rfl) (by kernel_rfl) (fun _ _ _ h => h) ⟨_, rfl, { on := 0, ground := Go.Ground.phase }, by simp, by rfl, rfl⟩ (by decide) (Or.inl ⟨by rfl, y0 _ rfl⟩) (by assumption) ?_
              try simp only [Act.put, List.setIfInBounds_toArray, List.set_cons_zero, List.set_cons_succ]
              refine wpX_take (i := 1) (oi := { dst := some 90, op := Go.Op.fieldAddr 46 (Go.Operand.tmp 2) 11, type := 0, pos := _, after := #[{ on := 3, ground := Go.Ground.gcOnly Go.Departure.lateStores }], guard := none }) (v := .pointer (some ⟨w.heap.size, 11, none⟩)) rfl (by kernel_rfl) (by kernel_rfl) (by kernel_rfl) (fun _ _ _ h => h) ⟨_, rfl, { on := 1, ground := Go.Ground.phase }, by simp, by rfl, rfl⟩ (by decide) (Or.inl ⟨by rfl, y1 _ rfl⟩) (by assumption) ?_
              try simp only [Act.put, List.setIfInBounds_toArray, List.set_cons_zero, List.set_cons_succ]
              refine wpX_take (i := 2) (oi := { dst := some 91, op := Go.Op.load 29 (Go.Operand.tmp 90), type := 29, pos := _, after := #[{ on := 1, ground := Go.Ground.data }, { on := 3, ground := Go.Ground.gcOnly Go.Departure.lateStores }], guard := none }) (v := .slice k5.fa r5.first.length k5.fc) rfl (by kernel_rfl) (by kernel_rfl) (by kernel_rfl) (fun _ _ _ h => h) ⟨_, rfl, { on := 2, ground := Go.Ground.data }, by simp, by rfl, rfl⟩ (by decide) (Or.inl ⟨by rfl, y2 _ rfl⟩) (by assumption) ?_
              try simp only [Act.put, List.setIfInBounds_toArray, List.set_cons_zero, List.set_cons_succ]
              refine wpX_one (i := 3) (o := { dst := none, op := Go.Op.store 46 (Go.Operand.tmp 4) (Go.Operand.tmp 89), type := 0, pos := _, after := #[{ on := 0, ground := Go.Ground.data }, { on := 0, ground := Go.Ground.phase }, { on := 1, ground := Go.Ground.textOnly Go.Departure.lateStores }, { on := 2, ground := Go.Ground.textOnly Go.Departure.lateStores }], guard := none }) (by kernel_rfl) rfl (fun K hK => ?_)
              refine wp_storeV rfl (.tmp 4) (.tmp 89) rfl r5 k5 (w.heap.size + 2) (cs := [.int .i64 0, .slice none 0 0, .slice none 0 0, .int .i64 0, .int .i64 0, .int .i64 0, .int .u32 0, .bool false, .bool false, .int .i64 0, .bool false, .slice none 0 0, .int .u32 0, .int .u32 0, .bool false]) rfl rfl rfl hAd.zr hX3 (fun v => ?_)
              refine hK.out _ _ ⟨fun _ => hS3, ?_⟩
              clear hK K hHeld
              try simp only [Act.put, List.setIfInBounds_toArray, List.set_cons_zero, List.set_cons_succ]
              refine wpX_one (i := 4) (o := { dst := some 5, op := Go.Op.assign (Go.Operand.tmp 91), type := 29, pos := _, after := #[{ on := 2, ground := Go.Ground.data }, { on := 3, ground := Go.Ground.chain }, { on := 0, ground := Go.Ground.phase }, { on := 1, ground := Go.Ground.phase }, { on := 2, ground := Go.Ground.phase }, { on := 3, ground := Go.Ground.phase }], guard := none }) (by kernel_rfl) rfl (fun K hK => ?_)
              rw [if_pos (by rfl)]
              go_simp
              refine hK.out _ _ ⟨fun h => absurd rfl h, ?_⟩
              clear hK K
              refine wpX_done (by kernel_rfl) ?_ _
              try simp only [Act.put, List.setIfInBounds_toArray, List.set_cons_zero, List.set_cons_succ]
              clear y0 y1 y2 hS hS3 hX3 hAd hdr
              go_wp2_with fail
              refine bodyPost_ret (res_rt rfl _ _ (w.heap.size + 2) (rvL r5 k5) rfl rfl HF.out.1) rfl ?_
              refine ⟨k5, k5.fa, k5.fc, by rw [HBL.out]; rfl, HF.out.2.1, ?_, HF.out.2.2⟩
              rw [HBL.out]
              exact ⟨HF.out.2.1.fst, HF.out.2.1.frc⟩
            | true =>
              have e1 : bl = (x, e) :: r5.first := by simpa using HC3.out
              have HBL : Hid (bl = (x, e) :: r5.first) := e1
              clear e1 HC3
              go_wp2_with fail
              obtain ⟨S, hS⟩ : ∃ S : World → Prop, S = fun W => Box W w.heap.size 46 (rvL r5 k5) ∧ Box W p 39 [.int .i64 x, .int .i64 e] := ⟨_, rfl⟩
              have y0 : ∀ {ps : String} (ev : Operand → Value), ev (.tmp 2) = .pointer (some ⟨w.heap.size, 0, none⟩) → ∀ W, S W → (execOp ev { dst := some 82, op := Go.Op.load 46 (Go.Operand.tmp 2), type := 46, pos := ps, after := #[], guard := none }).run Try.prog W = .ok (.value (.agg #[.int .i64 r5.s.n, .slice k5.ua r5.s.u.length k5.uc, .slice k5.la k5.es.length k5.lc, .int .i64 r5.cap, .int .i64 r5.shift, .int .i64 r5.edge, .int .u32 r5.recent, .bool r5.stamps, .bool r5.sacks, .int .i64 r5.fin, .bool r5.dn, .slice k5.fa r5.first.length k5.fc, .int .u32 r5.irs, .int .u32 r5.own, .bool r5.stamp])) W := by
                intro ps ev h0 W hSw
                rw [hS] at hSw
                obtain ⟨c0, c1, c2, c3, c4, c5, c6, c7, c8, c9, c10, c11, c12, c13, c14⟩ := Box.c15 hSw.1
                first | (go_simp; done) | (go_simp; with_reducible rfl)
              have y1 : ∀ {ps : String} (ev : Operand → Value), ev (.tmp 7) = .pointer (some ⟨p, 0, none⟩) → ∀ W, S W → (execOp ev { dst := some 83, op := Go.Op.load 39 (Go.Operand.tmp 7), type := 39, pos := ps, after := #[], guard := none }).run Try.prog W = .ok (.value (.agg #[.int .i64 x, .int .i64 e])) W := by
                intro ps ev h0 W hSw
                rw [hS] at hSw
                have c0 := hSw.2.cell 0 rfl
                have c1 := hSw.2.cell 1 rfl
                first | (go_simp; done) | (go_simp; with_reducible rfl)
              have y3 : ∀ {ps : String} (ev : Operand → Value), ev (.tmp 2) = .pointer (some ⟨w.heap.size, 0, none⟩) → ∀ W, S W → (execOp ev { dst := some 85, op := Go.Op.fieldAddr 46 (Go.Operand.tmp 2) 11, type := 0, pos := ps, after := #[], guard := none }).run Try.prog W = .ok (.value (.pointer (some ⟨w.heap.size, 11, none⟩))) W := by
                intro ps ev h0 W hSw
                first | (go_simp; done) | (go_simp; with_reducible rfl)
              have y4 : ∀ {ps : String} (ev : Operand → Value), ev (.tmp 85) = .pointer (some ⟨w.heap.size, 11, none⟩) → ∀ W, S W → (execOp ev { dst := some 86, op := Go.Op.load 29 (Go.Operand.tmp 85), type := 29, pos := ps, after := #[{ on := 3, ground := Go.Ground.data }], guard := none }).run Try.prog W = .ok (.value (.slice k5.fa r5.first.length k5.fc)) W := by
                intro ps ev h0 W hSw
                rw [hS] at hSw
                have c11 := Box.cell hSw.1 11 rfl
                first | (go_simp; done) | (go_simp; with_reducible rfl)
              have hsk : ∀ W, Below wc.drew.heap.size wc.drew W → S W := fun W hW => by rw [hS]; exact ⟨hAd.box.later hW, hAd.at'.later hW⟩
              have HSK : Hid (∀ W, Below wc.drew.heap.size wc.drew W → S W) := hsk
              have HAd : Hid (AcAt B w wc.drew p r5 k5 s ks x e) := hAd
              clear hsk hAd hdr
              refine wp_region_X S 8 (by kernel_rfl) (HSK.out _ (Below.refl _ _)) (fun hHeld => ?_)
              obtain ⟨U, hU⟩ : ∃ U, wc.drew = U := ⟨_, rfl⟩
              rw [hU] at HSK HAd hHeld ⊢
              clear hU
              refine wpX_take (i := 0) (oi := { dst := some 82, op := Go.Op.load 46 (Go.Operand.tmp 2), type := 46, pos := _, after := #[], guard := none }) (v := .agg #[.int .i64 r5.s.n, .slice k5.ua r5.s.u.length k5.uc, .slice k5.la k5.es.length k5.lc, .int .i64 r5.cap, .int .i64 r5.shift, .int .i64 r5.edge, .int .u32 r5.recent, .bool r5.stamps, .bool r5.sacks, .int .i64 r5.fin, .bool r5.dn, .slice k5.fa r5.first.length k5.fc, .int .u32 r5.irs, .int .u32 r5.own, .bool r5.stamp]) rfl (by kernel_rfl) (by kernel_rfl) (by kernel_rfl) (fun _ _ _ h => h) ⟨_, rfl, { on := 0, ground := Go.Ground.phase }, by simp, by rfl, rfl⟩ (by decide) (Or.inl ⟨by rfl, y0 _ rfl⟩) (by assumption) ?_
              try simp only [Act.put, List.setIfInBounds_toArray, List.set_cons_zero, List.set_cons_succ]
              refine wpX_take (i := 1) (oi := { dst := some 83, op := Go.Op.load 39 (Go.Operand.tmp 7), type := 39, pos := _, after := #[], guard := none }) (v := .agg #[.int .i64 x, .int .i64 e]) rfl (by kernel_rfl) (by kernel_rfl) (by kernel_rfl) (fun _ _ _ h => h) ⟨_, rfl, { on := 1, ground := Go.Ground.phase }, by simp, by rfl, rfl⟩ (by decide) (Or.inl ⟨by rfl, y1 _ rfl⟩) (by assumption) ?_
              try simp only [Act.put, List.setIfInBounds_toArray, List.set_cons_zero, List.set_cons_succ]
              refine wpX_take (i := 3) (oi := { dst := some 85, op := Go.Op.fieldAddr 46 (Go.Operand.tmp 2) 11, type := 0, pos := _, after := #[], guard := none }) (v := .pointer (some ⟨w.heap.size, 11, none⟩)) rfl (by kernel_rfl) (by kernel_rfl) (by kernel_rfl) (fun _ _ _ h => h) ⟨_, rfl, { on := 3, ground := Go.Ground.phase }, by simp, by rfl, rfl⟩ (by decide) (Or.inl ⟨by rfl, y3 _ rfl⟩) (by assumption) ?_
              try simp only [Act.put, List.setIfInBounds_toArray, List.set_cons_zero, List.set_cons_succ]
              refine wpX_take (i := 4) (oi := { dst := some 86, op := Go.Op.load 29 (Go.Operand.tmp 85), type := 29, pos := _, after := #[{ on := 3, ground := Go.Ground.data }], guard := none }) (v := .slice k5.fa r5.first.length k5.fc) rfl (by kernel_rfl) (by kernel_rfl) (by kernel_rfl) (fun _ _ _ h => h) ⟨_, rfl, { on := 4, ground := Go.Ground.phase }, by simp, by rfl, rfl⟩ (by decide) (Or.inl ⟨by rfl, y4 _ rfl⟩) (by assumption) ?_
              try simp only [Act.put, List.setIfInBounds_toArray, List.set_cons_zero, List.set_cons_succ]
              refine wpX_one (i := 2) (o := { dst := some 84, op := Go.Op.buildSlice 29 1 #[(0, Go.Operand.tmp 83)], type := 29, pos := _, after := #[{ on := 1, ground := Go.Ground.data }], guard := none }) (by kernel_rfl) rfl (fun K hK => ?_)
              rw [if_pos (by rfl)]
              go_simp
              refine hK.out _ _ ⟨fun _ => HSK.out _ (by repeat (first | with_reducible exact Below.refl _ _ | with_reducible assumption | with_reducible refine Below.drew ?_ | with_reducible refine below_drewN ?_ _ | with_reducible refine below_more ?_ _)), ?_⟩
              clear hK K hHeld
              try simp only [Act.put, List.setIfInBounds_toArray, List.set_cons_zero, List.set_cons_succ]
              refine wpX_one (i := 5) (o := { dst := some 87, op := Go.Op.buildSlice 114 2 #[(0, Go.Operand.tmp 84), (1, Go.Operand.tmp 86)], type := 114, pos := _, after := #[{ on := 2, ground := Go.Ground.data }, { on := 4, ground := Go.Ground.data }], guard := none }) (by kernel_rfl) rfl (fun K hK => ?_)
              rw [if_pos (by rfl)]
              go_simp
              refine hK.out _ _ ⟨fun _ => HSK.out _ (by repeat (first | with_reducible exact Below.refl _ _ | with_reducible assumption | with_reducible refine Below.drew ?_ | with_reducible refine below_drewN ?_ _ | with_reducible refine below_more ?_ _)), ?_⟩
              clear hK K
              try simp only [Act.put, List.setIfInBounds_toArray, List.set_cons_zero, List.set_cons_succ]
              have bY1 : Below U.heap.size U (U.alloc (.cells #[.int .i64 x, .int .i64 e] 39)) := below_more (Below.refl _ _) _
              have hb1 := Box.new U 39 [.int .i64 x, .int .i64 e]
              have bY2 : Below U.heap.size U ((U.alloc (.cells #[.int .i64 x, .int .i64 e] 39)).alloc (.cells #[.slice (some ⟨U.heap.size, 0, none⟩) 1 1, .slice k5.fa r5.first.length k5.fc] 29)) := below_more bY1 _
              have hb2 := (Box.new (U.alloc (.cells #[.int .i64 x, .int .i64 e] 39)) 29 [.slice (some ⟨U.heap.size, 0, none⟩) 1 1, .slice k5.fa r5.first.length k5.fc])
              have hb1' := hb1.alloc (.cells #[.slice (some ⟨U.heap.size, 0, none⟩) 1 1, .slice k5.fa r5.first.length k5.fc] 29)
              rw [World.size_alloc] at hb2
              obtain ⟨Y2, hY2⟩ : ∃ Y2, (U.alloc (.cells #[.int .i64 x, .int .i64 e] 39)).alloc (.cells #[.slice (some ⟨U.heap.size, 0, none⟩) 1 1, .slice k5.fa r5.first.length k5.fc] 29) = Y2 := ⟨_, rfl⟩
              have hb2' : Box Y2 (U.heap.size + 1) 29 [.slice (some ⟨U.heap.size, 0, none⟩) 1 1, .slice k5.fa r5.first.length k5.fc] := by rw [← hY2]; exact hb2
              have hb1'' : Box Y2 U.heap.size 39 [.int .i64 x, .int .i64 e] := by rw [← hY2]; exact hb1'
              rw [hY2] at bY2 ⊢
              have hcat : cat (fun j => if j = 0 then [(x, e)] else r5.first) 2 = (x, e) :: r5.first := by simp [cat, List.range_succ]
              have hfst := (HAd.out.own.fst.sp HAd.out.own.frc).later bY2
              have hfl := HAd.out.own.frc
              have cC := concat_any 2 (U.heap.size + 1) (fun j => if j = 0 then some ⟨U.heap.size, 0, none⟩ else k5.fa) (fun j => if j = 0 then 1 else k5.fc) (fun j => if j = 0 then [(x, e)] else r5.first) Y2 (by omega)
                (fun j hj => by
                  rcases (by omega : j = 0 ∨ j = 1) with rfl | rfl
                  · exact hb2'.cell 0 rfl
                  · exact hb2'.cell 1 rfl)
                (fun j hj => by
                  rcases (by omega : j = 0 ∨ j = 1) with rfl | rfl
                  · refine ⟨by simp [maxLen], fun i hi => ?_⟩
                    have hi0 : i = 0 := by simp at hi; exact hi
                    subst hi0
                    exact ⟨U.heap.size, 0, rfl, hb1''.cell 0 rfl, hb1''.cell 1 rfl⟩
                  · exact hfst.tims)
                (fun j hj => by
                  rcases (by omega : j = 0 ∨ j = 1) with rfl | rfl
                  · intro h1; cases h1
                  · exact hfst.nil)
                (by rw [hcat]; simp) (by rw [hcat, List.length_cons]; omega)
              rw [hcat, ← HBL.out] at cC
              have HbY : Hid (Below U.heap.size U Y2 ∧ U.heap.size ≤ Y2.heap.size) := ⟨bY2, bY2.size⟩
              clear hcat hfst hb1 hb2 hb1' hb2' hb1'' hY2 bY1 bY2
              refine wpX_one (i := 6) (o := { dst := some 88, op := Go.Op.call { callee := Go.Callee.value (Go.Operand.func 54), args := #[Go.Operand.tmp 87], argTypes := #[114] }, type := 29, pos := _, after := #[{ on := 5, ground := Go.Ground.data }], guard := none }) (by kernel_rfl) rfl (fun K hK => ?_)
              rw [if_pos (by rfl)]
              go_simp
              refine cC.mono ?_
              rintro e' w6 ⟨va6, vc6, rfl, hR6, hB6⟩
              have hb6 : Below U.heap.size U w6 := Below.on HbY.out.1 hB6
              have hA6 := HAd.out.later hB hb6
              refine hK.out _ _ ⟨fun _ => HSK.out _ hb6, ?_⟩
              clear hK K cC
              try simp only [Act.put, List.setIfInBounds_toArray, List.set_cons_zero, List.set_cons_succ]
              obtain ⟨X3, hX3⟩ : ∃ X3, setAll w6 (w.heap.size + 2) 0 (rvL r5 k5) = X3 := ⟨_, rfl⟩
              have hS3 : S X3 := by rw [hS, ← hX3]; exact ⟨hA6.box.putAside _ _ _ (by omega), hA6.at'.putAside _ _ _ (by omega)⟩
              have HF : Hid (Box X3 (w.heap.size + 2) 46 (rvL r5 k5) ∧ RvOwn X3 B r5 k5 ∧ Keep B w X3 ∧ RowT X3 Y2.heap.size va6 bl.length vc6 bl ∧ bl.length * 16 ≤ 140737488351232) := by
                rw [← hX3]
                refine ⟨hA6.zr.put _ rfl, hA6.own.besideR hA6.zr 0 _, hA6.kp.step hB (chg_setAll (S := fun k => w.heap.size ≤ k) (by omega) _ _ _) (fun k hk => .inl hk), ownsRow_besideAll (by decide) _ _ _ _ hR6 hA6.zr, ?_⟩
                rw [HBL.out, List.length_cons]
                have h1 := H45.out.2.1
                have h2 : r5.first.length ≤ (Pl.spansL r5.s.l).length := nodup_len h1.nod h1.fst
                have h3 : (Pl.spansL r5.s.l).length = k5.es.length := by
                  unfold Pl.spansL
                  rw [List.length_map, ← hA6.own.les, List.length_map]
                have h6 := hA6.own.reach
                omega
              refine wpX_one (i := 7) (o := { dst := none, op := Go.Op.store 46 (Go.Operand.tmp 4) (Go.Operand.tmp 82), type := 0, pos := _, after := #[{ on := 0, ground := Go.Ground.data }, { on := 6, ground := Go.Ground.chain }, { on := 0, ground := Go.Ground.phase }, { on := 1, ground := Go.Ground.textOnly Go.Departure.lateStores }, { on := 2, ground := Go.Ground.textOnly Go.Departure.lateStores }, { on := 3, ground := Go.Ground.textOnly Go.Departure.lateStores }, { on := 4, ground := Go.Ground.textOnly Go.Departure.lateStores }, { on := 5, ground := Go.Ground.textOnly Go.Departure.lateStores }, { on := 6, ground := Go.Ground.textOnly Go.Departure.lateStoresUnsure }], guard := none }) (by kernel_rfl) rfl (fun K hK => ?_)
              refine wp_storeV rfl (.tmp 4) (.tmp 82) rfl r5 k5 (w.heap.size + 2) (cs := [.int .i64 0, .slice none 0 0, .slice none 0 0, .int .i64 0, .int .i64 0, .int .i64 0, .int .u32 0, .bool false, .bool false, .int .i64 0, .bool false, .slice none 0 0, .int .u32 0, .int .u32 0, .bool false]) rfl rfl rfl hA6.zr hX3 (fun v => ?_)
              refine hK.out _ _ ⟨fun _ => hS3, ?_⟩
              clear hK K hR6 hB6 hb6 hA6
              try simp only [Act.put, List.setIfInBounds_toArray, List.set_cons_zero, List.set_cons_succ]
              refine wpX_one (i := 8) (o := { dst := some 5, op := Go.Op.assign (Go.Operand.tmp 88), type := 29, pos := _, after := #[{ on := 6, ground := Go.Ground.data }, { on := 7, ground := Go.Ground.chain }, { on := 0, ground := Go.Ground.phase }, { on := 1, ground := Go.Ground.phase }, { on := 2, ground := Go.Ground.phase }, { on := 3, ground := Go.Ground.phase }, { on := 4, ground := Go.Ground.phase }, { on := 5, ground := Go.Ground.phase }, { on := 6, ground := Go.Ground.phase }, { on := 7, ground := Go.Ground.phase }], guard := none }) (by kernel_rfl) rfl (fun K hK => ?_)
              rw [if_pos (by rfl)]
              go_simp
              refine hK.out _ _ ⟨fun h => absurd rfl h, ?_⟩
              clear hK K
              refine wpX_done (by kernel_rfl) ?_ _
              try simp only [Act.put, List.setIfInBounds_toArray, List.set_cons_zero, List.set_cons_succ]
              clear y0 y1 y3 y4 hS hS3 hX3 HSK
              go_wp2_with fail
              refine bodyPost_ret (res_rt rfl _ _ (w.heap.size + 2) (rvL r5 k5) rfl rfl HF.out.1) rfl ?_
              exact ⟨k5, va6, vc6, rfl, HF.out.2.1, ⟨HF.out.2.2.2.1.mono (by have h1 := HbY.out.2; have h2 := HAd.out.kp.bel.size; omega), HF.out.2.2.2.2⟩, HF.out.2.2.1⟩
end Go.Proofs.Ytdodagpkkjpdiaa
