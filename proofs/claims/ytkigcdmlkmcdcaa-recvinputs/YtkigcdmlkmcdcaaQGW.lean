/- GW: New. -/
import Derived.Test.YtkigcdmlkmcdcaaQZ
import Derived.Test.YtkigcdmlkmcdcaaQGL
/- The contract of New. -/
namespace Go.Proofs.Ytkigcdmlkmcdcaa
open Go.ChangeShapes Go.WideShapes Go.ChangeAt Go.RowKit
set_option linter.unusedVariables false
set_option linter.unusedSimpArgs false
def noH:Hd:=⟨none,0,none,0,[],none,0⟩
theorem new_low {size shift irs own:Int} {stamps sacks:Bool} (h:roomB size shift=true):lowB ⟨⟨0,[],[]⟩,size,shift,0,0,stamps,sacks,-1,false,[],irs,own,false⟩:=by
 have:=zfm.1 h
 refine ⟨⟨by simp,by simp⟩,⟨this.1,this.2.1⟩,⟨this.2.2.1,this.2.2.2⟩,?_,?_⟩
 · simp;omega
 · simp
set_option maxRecDepth 100000 in
set_option maxHeartbeats 4000000 in
theorem recvNew_no (size shift irs own:Int) (stamps sacks:Bool) (w:World) (hr:roomB size shift=false) :
 Calls Try.prog 23 #[.int .i64 size,.int .i64 shift,.int .u32 irs,.int .u32 own,.bool stamps,.bool sacks] w fun e w'=>e=.returned (.tuple #[.agg #[.int .i64 0,.slice none 0 0,.slice none 0 0,.int .i64 0,.int .i64 0,.int .i64 0,.int .u32 0,.bool false,.bool false,.int .i64 0,.bool false,.slice none 0 0,.int .u32 0,.int .u32 0,.bool false],.int .i64 2])∧Below w.heap.size w w':=by
 have cR:=fun W=>zd0 size shift W
 simp only [hr] at cR
 clear hr
 have hz:=Box.new w 27 zR
 obtain ⟨W0,hW0⟩:∃ W0,w.alloc (.cells zR.toArray 27)=W0:=⟨_,rfl⟩
 have hz':Box W0 w.heap.size 27 zR:=by rw [← hW0];exact hz
 have hb:Below w.heap.size w W0:=by rw [← hW0];exact zaa (Below.refl _ _) _
 have HF:Hid (Box (setAll W0 w.heap.size 0 zR) w.heap.size 27 zR∧Below w.heap.size w (setAll W0 w.heap.size 0 zR)):=⟨hz'.put _ rfl,zaf (Nat.le_refl _) hb⟩
 obtain ⟨c0,c1,c2,c3,c4,c5,c6,c7,c8,c9,c10,c11,c12,c13,c14⟩:=Box.c15 hz'
 obtain ⟨f0,f1,f2,f3,f4,f5,f6,f7,f8,f9,f10,f11,f12,f13,f14⟩:=Box.f15 hz'
 clear hz hz' hb
 go_enter Try.func23,Try.ntmps23
 go_wp2_with (go_at_call 49;refine (cR _).mono ?_;rintro e w1 ⟨rfl,hw1⟩;obtain rfl:=hw1.symm)
 refine bodyPost_ret (res_rt rfl _ _ w.heap.size zR rfl rfl HF.out.1) rfl ?_
 exact ⟨rfl,HF.out.2⟩
set_option maxRecDepth 100000 in
set_option maxHeartbeats 4000000 in
theorem recvNew_ok (size shift irs own:Int) (stamps sacks:Bool) (w:World) (hr:roomB size shift=true) :
 Calls Try.prog 23 #[.int .i64 size,.int .i64 shift,.int .u32 irs,.int .u32 own,.bool stamps,.bool sacks] w fun e w'=>e=.returned (.tuple #[.agg #[.int .i64 (Pl.newR size shift irs own stamps sacks).s.n,.slice noH.ua (Pl.newR size shift irs own stamps sacks).s.u.length noH.uc,.slice noH.la noH.es.length noH.lc,.int .i64 (Pl.newR size shift irs own stamps sacks).cap,.int .i64 (Pl.newR size shift irs own stamps sacks).shift,.int .i64 (Pl.newR size shift irs own stamps sacks).edge,.int .u32 (Pl.newR size shift irs own stamps sacks).recent,.bool (Pl.newR size shift irs own stamps sacks).stamps,.bool (Pl.newR size shift irs own stamps sacks).sacks,.int .i64 (Pl.newR size shift irs own stamps sacks).fin,.bool (Pl.newR size shift irs own stamps sacks).dn,.slice noH.fa (Pl.newR size shift irs own stamps sacks).first.length noH.fc,.int .u32 (Pl.newR size shift irs own stamps sacks).irs,.int .u32 (Pl.newR size shift irs own stamps sacks).own,.bool (Pl.newR size shift irs own stamps sacks).stamp],.int .i64 0])∧Below w.heap.size w w':=by
 have cR:=fun W=>zd0 size shift W
 simp only [hr] at cR
 have cW:∀ W,Calls Try.prog 29 #[.agg #[.int .i64 0,.slice none 0 0,.slice none 0 0,.int .i64 size,.int .i64 shift,.int .i64 0,.int .u32 0,.bool stamps,.bool sacks,.int .i64 (-1),.bool false,.slice none 0 0,.int .u32 irs,.int .u32 own,.bool false]] W fun e w'=>e=.returned (.int .i64 (Pl.newR size shift irs own stamps sacks).edge)∧Below W.heap.size W w':=fun W=>zcb _ noH W (new_low (irs:=irs) (own:=own) (stamps:=stamps) (sacks:=sacks) hr)
 show Calls Try.prog 23 #[.int .i64 size,.int .i64 shift,.int .u32 irs,.int .u32 own,.bool stamps,.bool sacks] w fun e w'=>e=.returned (.tuple #[.agg #[.int .i64 0,.slice none 0 0,.slice none 0 0,.int .i64 size,.int .i64 shift,.int .i64 (Pl.newR size shift irs own stamps sacks).edge,.int .u32 0,.bool stamps,.bool sacks,.int .i64 (-1),.bool false,.slice none 0 0,.int .u32 irs,.int .u32 own,.bool false],.int .i64 0])∧Below w.heap.size w w'
 obtain ⟨wd,hwd⟩:∃ wd,(Pl.newR size shift irs own stamps sacks).edge=wd:=⟨_,rfl⟩
 rw [hwd] at cW ⊢
 clear hr hwd
 obtain ⟨W0,hW0⟩:∃ W0,(w.alloc (.cells zR.toArray 27)).alloc (.cells #[.int .i64 0,.slice none 0 0,.slice none 0 0,.int .i64 size,.int .i64 shift,.int .i64 0,.int .u32 0,.bool stamps,.bool sacks,.int .i64 (-1),.bool false,.slice none 0 0,.int .u32 irs,.int .u32 own,.bool false] 27)=W0:=⟨_,rfl⟩
 have hz:Box W0 w.heap.size 27 zR:=by rw [← hW0];exact (Box.new w 27 zR).alloc _
 have hx:Box W0 (w.heap.size+1) 27 [.int .i64 0,.slice none 0 0,.slice none 0 0,.int .i64 size,.int .i64 shift,.int .i64 0,.int .u32 0,.bool stamps,.bool sacks,.int .i64 (-1),.bool false,.slice none 0 0,.int .u32 irs,.int .u32 own,.bool false]:=by rw [← hW0];have:=Box.new (w.alloc (.cells zR.toArray 27)) 27 [.int .i64 0,.slice none 0 0,.slice none 0 0,.int .i64 size,.int .i64 shift,.int .i64 0,.int .u32 0,.bool stamps,.bool sacks,.int .i64 (-1),.bool false,.slice none 0 0,.int .u32 irs,.int .u32 own,.bool false];rwa [World.size_alloc] at this
 have hb:Below w.heap.size w W0:=by rw [← hW0];exact zaa (zaa (Below.refl _ _) _) _
 have HB0:Hid ((w.alloc (.cells zR.toArray 27)).alloc (.cells #[.int .i64 0,.slice none 0 0,.slice none 0 0,.int .i64 size,.int .i64 shift,.int .i64 0,.int .u32 0,.bool stamps,.bool sacks,.int .i64 (-1),.bool false,.slice none 0 0,.int .u32 irs,.int .u32 own,.bool false] 27)=W0∧Box W0 w.heap.size 27 zR∧Box W0 (w.heap.size+1) 27 [.int .i64 0,.slice none 0 0,.slice none 0 0,.int .i64 size,.int .i64 shift,.int .i64 0,.int .u32 0,.bool stamps,.bool sacks,.int .i64 (-1),.bool false,.slice none 0 0,.int .u32 irs,.int .u32 own,.bool false]∧Below w.heap.size w W0):=⟨hW0,hz,hx,hb⟩
 clear hW0 hz hx hb
 go_enter Try.func23,Try.ntmps23
 go_wp2_with (go_at_call 49;refine (cR _).mono ?_;rintro e w1 ⟨rfl,hw1⟩;obtain rfl:=hw1.symm)
 refine (cW _).mono ?_
 rintro e w2 ⟨rfl,hB2⟩
 rw [HB0.out.1] at hB2
 have hx2:=HB0.out.2.2.1.later hB2
 have hz2:=HB0.out.2.1.later hB2
 have hc5:=hx2.cell 5 rfl
 have hf5:=hx2.frozen 5
 have HX:Hid (Box (w2.setCell ⟨w.heap.size+1,5,none⟩ (.int .i64 wd)) (w.heap.size+1) 27 [.int .i64 0,.slice none 0 0,.slice none 0 0,.int .i64 size,.int .i64 shift,.int .i64 wd,.int .u32 0,.bool stamps,.bool sacks,.int .i64 (-1),.bool false,.slice none 0 0,.int .u32 irs,.int .u32 own,.bool false]∧Box (w2.setCell ⟨w.heap.size+1,5,none⟩ (.int .i64 wd)) w.heap.size 27 zR∧Below w.heap.size w (w2.setCell ⟨w.heap.size+1,5,none⟩ (.int .i64 wd))):=⟨hx2.set 5 _,hz2.aside _ _ _ (by omega),zar (Below.on HB0.out.2.2.2 hB2) _ _ _ (by omega)⟩
 clear hB2 hx2 hz2 cW cR HB0
 go_upto_region 5 with fail
 obtain ⟨V,hV⟩:∃ V,w2.setCell ⟨w.heap.size+1,5,none⟩ (.int .i64 wd)=V:=⟨_,rfl⟩
 rw [hV] at HX ⊢
 clear hV hc5 hf5
 have HF:Hid (Box (setAll V w.heap.size 0 [.int .i64 0,.slice none 0 0,.slice none 0 0,.int .i64 size,.int .i64 shift,.int .i64 wd,.int .u32 0,.bool stamps,.bool sacks,.int .i64 (-1),.bool false,.slice none 0 0,.int .u32 irs,.int .u32 own,.bool false]) w.heap.size 27 [.int .i64 0,.slice none 0 0,.slice none 0 0,.int .i64 size,.int .i64 shift,.int .i64 wd,.int .u32 0,.bool stamps,.bool sacks,.int .i64 (-1),.bool false,.slice none 0 0,.int .u32 irs,.int .u32 own,.bool false]∧Below w.heap.size w (setAll V w.heap.size 0 [.int .i64 0,.slice none 0 0,.slice none 0 0,.int .i64 size,.int .i64 shift,.int .i64 wd,.int .u32 0,.bool stamps,.bool sacks,.int .i64 (-1),.bool false,.slice none 0 0,.int .u32 irs,.int .u32 own,.bool false])):=⟨HX.out.2.1.put _ rfl,zaf (Nat.le_refl _) HX.out.2.2⟩
 obtain ⟨d0,d1,d2,d3,d4,d5,d6,d7,d8,d9,d10,d11,d12,d13,d14⟩:=Box.c15 HX.out.1
 obtain ⟨c0,c1,c2,c3,c4,c5,c6,c7,c8,c9,c10,c11,c12,c13,c14⟩:=Box.c15 HX.out.2.1
 obtain ⟨f0,f1,f2,f3,f4,f5,f6,f7,f8,f9,f10,f11,f12,f13,f14⟩:=Box.f15 HX.out.2.1
 clear HX
 go_wp2_with fail
 refine bodyPost_ret (res_rt rfl _ _ w.heap.size [.int .i64 0,.slice none 0 0,.slice none 0 0,.int .i64 size,.int .i64 shift,.int .i64 wd,.int .u32 0,.bool stamps,.bool sacks,.int .i64 (-1),.bool false,.slice none 0 0,.int .u32 irs,.int .u32 own,.bool false] rfl rfl HF.out.1) rfl ?_
 exact ⟨rfl,HF.out.2⟩
end Go.Proofs.Ytkigcdmlkmcdcaa
