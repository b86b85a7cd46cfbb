/- GQ: HeadP HeadA. -/
import Derived.Test.YtkigcdmlkmcdcaaQZ
import Derived.Test.YtkigcdmlkmcdcaaQGO
import Derived.Test.YtkigcdmlkmcdcaaQGM
import Derived.Test.YtkigcdmlkmcdcaaQGP
import Derived.Test.YtkigcdmlkmcdcaaQGRT
import Derived.Test.YtkigcdmlkmcdcaaQGW
import Derived.Lib.SlBytesConst
import Derived.Deep.SlicePairs
import Derived.ProofKit
import Derived.OpenShut
import Derived.SizedLaws
/- What heads asks of recv, in plain numbers. -/
namespace Go.Proofs.Ytkigcdmlkmcdcaa
open Go.ChangeShapes Go.WideShapes Go.ChangeAt Go.RowKit
set_option linter.unusedVariables false
set_option linter.unusedSimpArgs false
def s1:Seg:={ sp:=0,dp:=0,sq:=102,ak:=0,fl:=0,wn:=0,ur:=0,ms:=0,sc:=0,so:=false,st:=false,va:=0,ec:=0,sk:=[],da:=[99,100]}
def s2:Seg:={ sp:=0,dp:=0,sq:=100,ak:=0,fl:=0,wn:=0,ur:=0,ms:=0,sc:=0,so:=false,st:=false,va:=0,ec:=0,sk:=[],da:=[97,98]}
def r0:Pl.Rv:=Pl.newR 10 0 100 7 false true
def a1:Pl.Rv:=⟨⟨0,[],[(2,[99,100])]⟩,10,0,10,0,false,true,-1,false,[(2,4)],100,7,false⟩
def a2:Pl.Rv:=⟨⟨4,[97,98,99,100],[]⟩,10,0,10,0,false,true,-1,false,[],100,7,false⟩
theorem r0_is:r0=⟨⟨0,[],[]⟩,10,0,10,0,false,true,-1,false,[],100,7,false⟩:=by rfl
theorem a1_is:(if Pl.oldB r0 (segOf s1)=true then r0 else Pl.intoR r0 (segOf s1))=a1:=by rfl
theorem a2_is:(if Pl.oldB (Pl.tellR a1) (segOf s2)=true then (Pl.tellR a1) else Pl.intoR (Pl.tellR a1) (segOf s2))=a2:=by rfl
theorem b1_is:(if Pl.oldB r0 (segOf s1)=true then r0.first else blkL r0 (segOf s1))=[(2,4)]:=by decide
theorem b2_is:(if Pl.oldB (Pl.tellR a1) (segOf s2)=true then (Pl.tellR a1).first else blkL (Pl.tellR a1) (segOf s2))=[]:=by decide
theorem t1_is:(tellS a1 [(2,4)]).ak=100∧(tellS a1 [(2,4)]).sk=[(102,104)]:=by decide
theorem t2_is:(tellS a2 []).ak=104:=by decide
theorem rd_is:Pl.rdN (Pl.tellR a2) 3=3∧(Pl.readR (Pl.tellR a2) 3).s.u=[100]∧(Pl.tellR a2).s.u=[97,98,99,100]∧r0.window=10:=by decide
theorem r0_ok:r0.Ok:=by
 rw [r0_is]
 refine { n0:=?_,nf:=?_,c1:=?_,cm:=?_,s0:=?_,s14:=?_,uc:=?_,un:=?_,f1:=?_,fn:=?_,ff:=?_,e0:=?_,er:=?_,lat:=?_,lim:=?_,lfin:=?_,fst:=?_,nod:=?_,dn:=?_,dl:=?_}
 all_goals first|decide|trivial|(intro p hp;cases hp)|(intro h p hp;cases hp)
theorem t1_ok:(Pl.tellR a1).Ok:=by
 have:=(Pl.into_ok (g:=segOf s1) r0_ok).1
 have e:Pl.intoR r0 (segOf s1)=a1:=a1_is
 rw [e] at this
 exact (Pl.tell_ok this).1
theorem t2_ok:(Pl.tellR a2).Ok:=by
 have:=(Pl.into_ok (g:=segOf s2) t1_ok).1
 have e:Pl.intoR (Pl.tellR a1) (segOf s2)=a2:=a2_is
 rw [e] at this
 exact (Pl.tell_ok this).1
theorem r0_at (w:World):RvAt w r0 noH where
 un:=SlAt.nil _
 late:=PcsAt.nil' _
 les:=rfl
 fst:=SpAt.nil' _
 n:=by unfold I64;decide
 cap:=by unfold I64;decide
 shift:=by unfold I64;decide
 edge:=by unfold I64;decide
 recent:=by unfold U32;decide
 fin:=by unfold I64;decide
 irs:=by unfold U32;decide
 own:=by unfold U32;decide
theorem RvOwn.lies {w:World} {B:Nat} {r:Pl.Rv} {h:Hd} (H:RvOwn w B r h) (h1:I64 r.s.n) (h2:I64 r.cap) (h3:I64 r.shift) (h4:I64 r.edge) (h5:U32 r.recent) (h6:I64 r.fin) (h7:U32 r.irs) (h8:U32 r.own):RvAt w r h :=
 { un:=(H.fam.mine _ (List.mem_cons_self ..)).ok.1,late:=⟨H.reach,H.row.max.1,H.row.max.2,H.row.nil0,H.row.ents,fun x hx=>(H.fam.mine x (List.mem_cons_of_mem _ hx)).ok⟩,les:=H.les,fst:=H.fst.sp H.frc,n:=h1,cap:=h2,shift:=h3,edge:=h4,recent:=h5,fin:=h6,irs:=h7,own:=h8}
theorem lies1 {w:World} {B:Nat} {h:Hd} (H:RvOwn w B (Pl.tellR a1) h):RvAt w (Pl.tellR a1) h:=H.lies (by unfold I64;decide) (by unfold I64;decide) (by unfold I64;decide) (by unfold I64;decide) (by unfold U32;decide) (by unfold I64;decide) (by unfold U32;decide) (by unfold U32;decide)
theorem lies2 {w:World} {B:Nat} {h:Hd} (H:RvOwn w B (Pl.tellR a2) h):RvAt w (Pl.tellR a2) h:=H.lies (by unfold I64;decide) (by unfold I64;decide) (by unfold I64;decide) (by unfold I64;decide) (by unfold U32;decide) (by unfold I64;decide) (by unfold U32;decide) (by unfold U32;decide)
theorem lies3 {w:World} {B:Nat} {h:Hd} (H:RvOwn w B (Pl.readR (Pl.tellR a2) 3) h):SlAt w h.ua h.uc [100]:=by
 have:=(H.fam.mine _ (List.mem_cons_self ..)).ok.1
 rw [rd_is.2.1] at this
 exact this
theorem lit_sl (w:World) (xs:List Int) (h:Byts xs) (hl:xs.length≤1000) (fz:Nat×Nat):SlAt (w.alloc (.cells (xs.map (Value.int .u8)).toArray 5 fz)) (some ⟨w.heap.size,0,none⟩) xs.length xs:=by
 refine ⟨⟨by omega,h,fun j hj=>⟨_,_,rfl,?_⟩⟩,fun e=>(by cases e),Nat.le_refl _⟩
 have hh:(w.alloc (.cells (xs.map (Value.int .u8)).toArray 5 fz)).heap[w.heap.size]? = some (.cells (xs.map (Value.int .u8)).toArray 5 fz):=by
  show (w.heap.push _)[w.heap.size]? = _
  simp
 simp only [World.cell?,hh]
 simp [hj]
theorem lit2 (w:World) (x y:Int) (h:0≤x∧x≤255) (h2:0≤y∧y≤255):SlAt (w.alloc (.cells #[.int .u8 x,.int .u8 y] 5 (2,3))) (some ⟨w.heap.size,0,none⟩) 2 [x,y]:=lit_sl w [x,y] (fun z hz=>by simp at hz;rcases hz with rfl|rfl<;>assumption) (by simp) _
theorem in1 (W:World) (h:Hd) (H:RvAt W r0 h) (p:Addr) (hd:SlAt W (some p) 2 [99,100]) :
 Calls Try.prog 14 #[.agg #[.int .i64 r0.s.n,.slice h.ua r0.s.u.length h.uc,.slice h.la h.es.length h.lc,.int .i64 r0.cap,.int .i64 r0.shift,.int .i64 r0.edge,.int .u32 r0.recent,.bool r0.stamps,.bool r0.sacks,.int .i64 r0.fin,.bool r0.dn,.slice h.fa r0.first.length h.fc,.int .u32 r0.irs,.int .u32 r0.own,.bool r0.stamp],.agg #[.int .i64 0,.int .i64 0,.int .u32 102,.int .u32 0,.int .i64 0,.int .i64 0,.int .i64 0,.int .i64 0,.int .i64 0,.bool false,.bool false,.int .u32 0,.int .u32 0,.slice none 0 0,.slice (some p) 2 2]] W fun e w'=>∃ (k:Hd) (kt:Hs),e=.returned (.tuple #[.agg #[.int .i64 (Pl.tellR a1).s.n,.slice k.ua (Pl.tellR a1).s.u.length k.uc,.slice k.la k.es.length k.lc,.int .i64 (Pl.tellR a1).cap,.int .i64 (Pl.tellR a1).shift,.int .i64 (Pl.tellR a1).edge,.int .u32 (Pl.tellR a1).recent,.bool (Pl.tellR a1).stamps,.bool (Pl.tellR a1).sacks,.int .i64 (Pl.tellR a1).fin,.bool (Pl.tellR a1).dn,.slice k.fa (Pl.tellR a1).first.length k.fc,.int .u32 (Pl.tellR a1).irs,.int .u32 (Pl.tellR a1).own,.bool (Pl.tellR a1).stamp],.agg #[.int .i64 (tellS a1 [(2,4)]).sp,.int .i64 (tellS a1 [(2,4)]).dp,.int .u32 (tellS a1 [(2,4)]).sq,.int .u32 (tellS a1 [(2,4)]).ak,.int .i64 (tellS a1 [(2,4)]).fl,.int .i64 (tellS a1 [(2,4)]).wn,.int .i64 (tellS a1 [(2,4)]).ur,.int .i64 (tellS a1 [(2,4)]).ms,.int .i64 (tellS a1 [(2,4)]).sc,.bool (tellS a1 [(2,4)]).so,.bool (tellS a1 [(2,4)]).st,.int .u32 (tellS a1 [(2,4)]).va,.int .u32 (tellS a1 [(2,4)]).ec,.slice kt.ka (tellS a1 [(2,4)]).sk.length kt.kc,.slice kt.da (tellS a1 [(2,4)]).da.length kt.dc],.bool true,.int .i64 0])∧RvOwn w' (W.heap.size+4) (Pl.tellR a1) k∧SgOwn w' (W.heap.size+4) (tellS a1 [(2,4)]) kt∧Below W.heap.size W w' :=
 zc7 r0 h s1 ⟨none,0,some p,2⟩ W H r0_ok ⟨zbc.nil _ _,hd,by unfold U32;decide,by unfold U32;decide,by unfold I64;decide⟩ (.inl rfl) a1 a1_is [(2,4)] b1_is
theorem in2 (W:World) (h:Hd) (H:RvAt W (Pl.tellR a1) h) (p:Addr) (hd:SlAt W (some p) 2 [97,98]) :
 Calls Try.prog 14 #[.agg #[.int .i64 (Pl.tellR a1).s.n,.slice h.ua (Pl.tellR a1).s.u.length h.uc,.slice h.la h.es.length h.lc,.int .i64 (Pl.tellR a1).cap,.int .i64 (Pl.tellR a1).shift,.int .i64 (Pl.tellR a1).edge,.int .u32 (Pl.tellR a1).recent,.bool (Pl.tellR a1).stamps,.bool (Pl.tellR a1).sacks,.int .i64 (Pl.tellR a1).fin,.bool (Pl.tellR a1).dn,.slice h.fa (Pl.tellR a1).first.length h.fc,.int .u32 (Pl.tellR a1).irs,.int .u32 (Pl.tellR a1).own,.bool (Pl.tellR a1).stamp],.agg #[.int .i64 0,.int .i64 0,.int .u32 100,.int .u32 0,.int .i64 0,.int .i64 0,.int .i64 0,.int .i64 0,.int .i64 0,.bool false,.bool false,.int .u32 0,.int .u32 0,.slice none 0 0,.slice (some p) 2 2]] W fun e w'=>∃ (k:Hd) (kt:Hs),e=.returned (.tuple #[.agg #[.int .i64 (Pl.tellR a2).s.n,.slice k.ua (Pl.tellR a2).s.u.length k.uc,.slice k.la k.es.length k.lc,.int .i64 (Pl.tellR a2).cap,.int .i64 (Pl.tellR a2).shift,.int .i64 (Pl.tellR a2).edge,.int .u32 (Pl.tellR a2).recent,.bool (Pl.tellR a2).stamps,.bool (Pl.tellR a2).sacks,.int .i64 (Pl.tellR a2).fin,.bool (Pl.tellR a2).dn,.slice k.fa (Pl.tellR a2).first.length k.fc,.int .u32 (Pl.tellR a2).irs,.int .u32 (Pl.tellR a2).own,.bool (Pl.tellR a2).stamp],.agg #[.int .i64 (tellS a2 []).sp,.int .i64 (tellS a2 []).dp,.int .u32 (tellS a2 []).sq,.int .u32 (tellS a2 []).ak,.int .i64 (tellS a2 []).fl,.int .i64 (tellS a2 []).wn,.int .i64 (tellS a2 []).ur,.int .i64 (tellS a2 []).ms,.int .i64 (tellS a2 []).sc,.bool (tellS a2 []).so,.bool (tellS a2 []).st,.int .u32 (tellS a2 []).va,.int .u32 (tellS a2 []).ec,.slice kt.ka (tellS a2 []).sk.length kt.kc,.slice kt.da (tellS a2 []).da.length kt.dc],.bool true,.int .i64 0])∧RvOwn w' (W.heap.size+4) (Pl.tellR a2) k∧SgOwn w' (W.heap.size+4) (tellS a2 []) kt∧Below W.heap.size W w' :=
 zc7 (Pl.tellR a1) h s2 ⟨none,0,some p,2⟩ W H t1_ok ⟨zbc.nil _ _,hd,by unfold U32;decide,by unfold U32;decide,by unfold I64;decide⟩ (.inl rfl) a2 a2_is [] b2_is
theorem rd3 (W:World) (h:Hd) (H:RvAt W (Pl.tellR a2) h) :
 Calls Try.prog 12 #[.agg #[.int .i64 (Pl.tellR a2).s.n,.slice h.ua (Pl.tellR a2).s.u.length h.uc,.slice h.la h.es.length h.lc,.int .i64 (Pl.tellR a2).cap,.int .i64 (Pl.tellR a2).shift,.int .i64 (Pl.tellR a2).edge,.int .u32 (Pl.tellR a2).recent,.bool (Pl.tellR a2).stamps,.bool (Pl.tellR a2).sacks,.int .i64 (Pl.tellR a2).fin,.bool (Pl.tellR a2).dn,.slice h.fa (Pl.tellR a2).first.length h.fc,.int .u32 (Pl.tellR a2).irs,.int .u32 (Pl.tellR a2).own,.bool (Pl.tellR a2).stamp],.int .i64 3] W fun e w'=>∃ (k:Hd) (da:Option Addr) (dc:Nat) (ks:Hs),e=.returned (.tuple #[.agg #[.int .i64 (Pl.readR (Pl.tellR a2) 3).s.n,.slice k.ua (Pl.readR (Pl.tellR a2) 3).s.u.length k.uc,.slice k.la k.es.length k.lc,.int .i64 (Pl.readR (Pl.tellR a2) 3).cap,.int .i64 (Pl.readR (Pl.tellR a2) 3).shift,.int .i64 (Pl.readR (Pl.tellR a2) 3).edge,.int .u32 (Pl.readR (Pl.tellR a2) 3).recent,.bool (Pl.readR (Pl.tellR a2) 3).stamps,.bool (Pl.readR (Pl.tellR a2) 3).sacks,.int .i64 (Pl.readR (Pl.tellR a2) 3).fin,.bool (Pl.readR (Pl.tellR a2) 3).dn,.slice k.fa (Pl.readR (Pl.tellR a2) 3).first.length k.fc,.int .u32 (Pl.readR (Pl.tellR a2) 3).irs,.int .u32 (Pl.readR (Pl.tellR a2) 3).own,.bool (Pl.readR (Pl.tellR a2) 3).stamp],.slice da 3 dc,.agg #[.int .i64 (readS (Pl.tellR a2) 3).sp,.int .i64 (readS (Pl.tellR a2) 3).dp,.int .u32 (readS (Pl.tellR a2) 3).sq,.int .u32 (readS (Pl.tellR a2) 3).ak,.int .i64 (readS (Pl.tellR a2) 3).fl,.int .i64 (readS (Pl.tellR a2) 3).wn,.int .i64 (readS (Pl.tellR a2) 3).ur,.int .i64 (readS (Pl.tellR a2) 3).ms,.int .i64 (readS (Pl.tellR a2) 3).sc,.bool (readS (Pl.tellR a2) 3).so,.bool (readS (Pl.tellR a2) 3).st,.int .u32 (readS (Pl.tellR a2) 3).va,.int .u32 (readS (Pl.tellR a2) 3).ec,.slice ks.ka (readS (Pl.tellR a2) 3).sk.length ks.kc,.slice ks.da (readS (Pl.tellR a2) 3).da.length ks.dc],.bool (Pl.rdB (Pl.tellR a2) 3),.int .i64 0])∧SlAt w' k.ua k.uc [100]∧SlAt w' da dc [97,98,99]∧Below W.heap.size W w' :=
 (recvRead_ok (Pl.tellR a2) h 3 W H t2_ok).mono (by
  rintro e w' ⟨k,da,dc,ks,he,hO,hs,_,hb⟩
  exact ⟨k,da,dc,ks,he,lies3 hO,hs,hb⟩)
end Go.Proofs.Ytkigcdmlkmcdcaa
/- The contract of heads: what must come at any rate comes. -/
namespace Go.Proofs.Ytkigcdmlkmcdcaa
open Go.ChangeShapes Go.WideShapes Go.ChangeAt Go.RowKit
set_option linter.unusedVariables false
set_option linter.unusedSimpArgs false
theorem conv_is (a:Option Addr) (c:Nat) (xs:List Int) (w:World) (h:zak w a xs) (n:Nat) (hn:xs.length=n) (s:ByteArray) (hs:strOfNums xs=s):(convert 22 9 (.slice a n c)).run Try.prog w=.ok (.string s) w:=by
 subst hn;subst hs;exact zhf a c xs w h
set_option maxRecDepth 100000 in
set_option maxHeartbeats 16000000 in
theorem heads_any (w:World):Calls Try.prog 11 #[] w fun e w'=>e=.returned (.bool true)∧Below w.heap.size w w':=by
 have c1:=recvNew_ok 10 0 100 7 false true w (by rfl)
 have e0:Pl.newR 10 0 100 7 false true=r0:=rfl
 rw [e0] at c1
 have d1:∀ W p,SlAt W (some p) 2 [99,100]→_:=fun W p=>in1 W noH (r0_at W) p
 have HD2:Hid (∀ (W:World) (h:Hd) (H:RvAt W (Pl.tellR a1) h) (p:Addr) (hd:SlAt W (some p) 2 [97,98]),_):=in2
 have HD3:Hid (∀ (W:World) (h:Hd) (H:RvAt W (Pl.tellR a2) h),_):=rd3
 have HT:Hid ((tellS a1 [(2,4)]).ak=100∧(tellS a1 [(2,4)]).sk=[(102,104)]∧(tellS a2 []).ak=104∧(Pl.tellR a2).s.u=[97,98,99,100]∧(Pl.readR (Pl.tellR a2) 3).s.u=[100]∧r0.window=10):=⟨t1_is.1,t1_is.2,t2_is,rd_is.2.2.1,rd_is.2.1,rd_is.2.2.2⟩
 have HW:Hid (∀ W,Calls Try.prog 10 #[.agg #[.int .i64 r0.s.n,.slice noH.ua r0.s.u.length noH.uc,.slice noH.la noH.es.length noH.lc,.int .i64 r0.cap,.int .i64 r0.shift,.int .i64 r0.edge,.int .u32 r0.recent,.bool r0.stamps,.bool r0.sacks,.int .i64 r0.fin,.bool r0.dn,.slice noH.fa r0.first.length noH.fc,.int .u32 r0.irs,.int .u32 r0.own,.bool r0.stamp]] W fun e w'=>e=.returned (.int .i64 r0.window)∧Below W.heap.size W w'):=fun W=>zgy r0 noH W (r0_at W) r0_ok
 have HL1:Hid (∀ (w:World) (B:Nat) (h:Hd),RvOwn w B (Pl.tellR a1) h→RvAt w (Pl.tellR a1) h):=fun w B h H=>lies1 H
 have HL2:Hid (∀ (w:World) (B:Nat) (h:Hd),RvOwn w B (Pl.tellR a2) h→RvAt w (Pl.tellR a2) h):=fun w B h H=>lies2 H
 have HN:Hid (∀ W:World,Calls Try.prog 23 #[.int .i64 0,.int .i64 0,.int .u32 0,.int .u32 0,.bool false,.bool false] W fun e w'=>e=.returned (.tuple #[.agg #[.int .i64 0,.slice none 0 0,.slice none 0 0,.int .i64 0,.int .i64 0,.int .i64 0,.int .u32 0,.bool false,.bool false,.int .i64 0,.bool false,.slice none 0 0,.int .u32 0,.int .u32 0,.bool false],.int .i64 2])∧Below W.heap.size W w'):=fun W=>recvNew_no 0 0 0 0 false false W (by rfl)
 generalize r0=R0 at *
 generalize noH=H0 at *
 generalize Pl.readR (Pl.tellR a2) 3=R3 at *
 generalize readS (Pl.tellR a2) 3=T3 at *
 generalize Pl.rdB (Pl.tellR a2) 3=B3 at *
 generalize Pl.tellR a1=R1 at *
 generalize Pl.tellR a2=R2 at *
 generalize tellS a1 [(2,4)]=T1 at *
 generalize tellS a2 []=T2 at *
 have hcv:∀ (W:World) (p:Nat) (C:Array Value) (n c:Nat),W.heap.size=p→(convert 22 22 (.slice (some ⟨p,0,none⟩) n c)).run Try.prog (W.alloc (.cells C 5))=.ok (.slice (some ⟨p,0,none⟩) n c) (W.alloc (.cells C 5 (C.size,C.size+1))):=fun W p C n c hp=>by
  subst hp
  exact Lib.run_convert_bytes_const (P:=Try.prog) W 22 5 C n c Try.underlying22 Try.underlying5
 have HD1:Hid (_):=d1
 clear d1 e0
 go_enter Try.func11,Try.ntmps11
 go_wp2_with fail
 refine c1.mono ?_
 rintro e w1 ⟨rfl,hB1⟩
 clear c1
 obtain ⟨X1,hX1⟩:∃ X1,(w1.alloc (.cells #[.int .i64 R0.s.n,.slice H0.ua R0.s.u.length H0.uc,.slice H0.la H0.es.length H0.lc,.int .i64 R0.cap,.int .i64 R0.shift,.int .i64 R0.edge,.int .u32 R0.recent,.bool R0.stamps,.bool R0.sacks,.int .i64 R0.fin,.bool R0.dn,.slice H0.fa R0.first.length H0.fc,.int .u32 R0.irs,.int .u32 R0.own,.bool R0.stamp] 27)).alloc (.cells #[.int .u8 99,.int .u8 100] 5 (2,3))=X1:=⟨_,rfl⟩
 have bx1:Box X1 w1.heap.size 27 (rvL R0 H0):=by rw [← hX1];exact (Box.new w1 27 [.int .i64 R0.s.n,.slice H0.ua R0.s.u.length H0.uc,.slice H0.la H0.es.length H0.lc,.int .i64 R0.cap,.int .i64 R0.shift,.int .i64 R0.edge,.int .u32 R0.recent,.bool R0.stamps,.bool R0.sacks,.int .i64 R0.fin,.bool R0.dn,.slice H0.fa R0.first.length H0.fc,.int .u32 R0.irs,.int .u32 R0.own,.bool R0.stamp]).alloc _
 have sl1:SlAt X1 (some ⟨w1.heap.size+1,0,none⟩) 2 [99,100]:=by
  rw [← hX1]
  have:=lit2 (w1.alloc (.cells #[.int .i64 R0.s.n,.slice H0.ua R0.s.u.length H0.uc,.slice H0.la H0.es.length H0.lc,.int .i64 R0.cap,.int .i64 R0.shift,.int .i64 R0.edge,.int .u32 R0.recent,.bool R0.stamps,.bool R0.sacks,.int .i64 R0.fin,.bool R0.dn,.slice H0.fa R0.first.length H0.fc,.int .u32 R0.irs,.int .u32 R0.own,.bool R0.stamp] 27)) 99 100 (by decide) (by decide)
  rwa [World.size_alloc] at this
 have lx1:Below w.heap.size w X1:=by rw [← hX1];exact zaa (zaa hB1 _) _
 have c2:=HD1.out X1 ⟨w1.heap.size+1,0,none⟩ sl1
 have sz1:X1.heap.size=w1.heap.size+2:=by rw [← hX1];simp
 have HX1:Hid (Box X1 w1.heap.size 27 (rvL R0 H0)∧Below w.heap.size w X1∧X1.heap.size=w1.heap.size+2):=⟨bx1,lx1,sz1⟩
 clear hB1 bx1 sl1 lx1 sz1
 go_wp2_with fail
 try rw [hX1]
 refine c2.mono ?_
 rintro e w2 ⟨k1,kt1,rfl,hO2,hG2,hB2⟩
 clear c2 hX1
 as_aux_lemma =>
  obtain ⟨X2,hX2⟩:∃ X2,((w2.alloc (.cells #[.int .i64 R1.s.n,.slice k1.ua R1.s.u.length k1.uc,.slice k1.la k1.es.length k1.lc,.int .i64 R1.cap,.int .i64 R1.shift,.int .i64 R1.edge,.int .u32 R1.recent,.bool R1.stamps,.bool R1.sacks,.int .i64 R1.fin,.bool R1.dn,.slice k1.fa R1.first.length k1.fc,.int .u32 R1.irs,.int .u32 R1.own,.bool R1.stamp] 27)).alloc (.cells #[.int .i64 T1.sp,.int .i64 T1.dp,.int .u32 T1.sq,.int .u32 T1.ak,.int .i64 T1.fl,.int .i64 T1.wn,.int .i64 T1.ur,.int .i64 T1.ms,.int .i64 T1.sc,.bool T1.so,.bool T1.st,.int .u32 T1.va,.int .u32 T1.ec,.slice kt1.ka T1.sk.length kt1.kc,.slice kt1.da T1.da.length kt1.dc] 34)).alloc (.cells #[.int .u8 97,.int .u8 98] 5 (2,3))=X2:=⟨_,rfl⟩
  have m2:Below w2.heap.size w2 X2:=by rw [← hX2];exact zaa (zaa (zaa (Below.refl _ _) _) _) _
  have g2:Box X2 (w2.heap.size+1) 34 [.int .i64 T1.sp,.int .i64 T1.dp,.int .u32 T1.sq,.int .u32 T1.ak,.int .i64 T1.fl,.int .i64 T1.wn,.int .i64 T1.ur,.int .i64 T1.ms,.int .i64 T1.sc,.bool T1.so,.bool T1.st,.int .u32 T1.va,.int .u32 T1.ec,.slice kt1.ka T1.sk.length kt1.kc,.slice kt1.da T1.da.length kt1.dc]:=by
   rw [← hX2]
   have:=(Box.new (w2.alloc (.cells #[.int .i64 R1.s.n,.slice k1.ua R1.s.u.length k1.uc,.slice k1.la k1.es.length k1.lc,.int .i64 R1.cap,.int .i64 R1.shift,.int .i64 R1.edge,.int .u32 R1.recent,.bool R1.stamps,.bool R1.sacks,.int .i64 R1.fin,.bool R1.dn,.slice k1.fa R1.first.length k1.fc,.int .u32 R1.irs,.int .u32 R1.own,.bool R1.stamp] 27)) 34 [.int .i64 T1.sp,.int .i64 T1.dp,.int .u32 T1.sq,.int .u32 T1.ak,.int .i64 T1.fl,.int .i64 T1.wn,.int .i64 T1.ur,.int .i64 T1.ms,.int .i64 T1.sc,.bool T1.so,.bool T1.st,.int .u32 T1.va,.int .u32 T1.ec,.slice kt1.ka T1.sk.length kt1.kc,.slice kt1.da T1.da.length kt1.dc]).alloc (.cells #[.int .u8 97,.int .u8 98] 5 (2,3))
   rwa [World.size_alloc] at this
  have sl2:SlAt X2 (some ⟨w2.heap.size+1+1,0,none⟩) 2 [97,98]:=by
   rw [← hX2]
   have:=lit2 ((w2.alloc (.cells #[.int .i64 R1.s.n,.slice k1.ua R1.s.u.length k1.uc,.slice k1.la k1.es.length k1.lc,.int .i64 R1.cap,.int .i64 R1.shift,.int .i64 R1.edge,.int .u32 R1.recent,.bool R1.stamps,.bool R1.sacks,.int .i64 R1.fin,.bool R1.dn,.slice k1.fa R1.first.length k1.fc,.int .u32 R1.irs,.int .u32 R1.own,.bool R1.stamp] 27)).alloc (.cells #[.int .i64 T1.sp,.int .i64 T1.dp,.int .u32 T1.sq,.int .u32 T1.ak,.int .i64 T1.fl,.int .i64 T1.wn,.int .i64 T1.ur,.int .i64 T1.ms,.int .i64 T1.sc,.bool T1.so,.bool T1.st,.int .u32 T1.va,.int .u32 T1.ec,.slice kt1.ka T1.sk.length kt1.kc,.slice kt1.da T1.da.length kt1.dc] 34)) 97 98 (by decide) (by decide)
   rwa [World.size_alloc,World.size_alloc] at this
  have q2:Below X1.heap.size X1 X2:=Below.on hB2 m2
  have c3:=HD2.out X2 k1 (HL1.out X2 _ k1 (hO2.later m2)) ⟨w2.heap.size+1+1,0,none⟩ sl2
  have HX2:Hid (Box X2 w1.heap.size 27 (rvL R0 H0)∧Box X2 (w2.heap.size+1) 34 [.int .i64 T1.sp,.int .i64 T1.dp,.int .u32 T1.sq,.int .u32 T1.ak,.int .i64 T1.fl,.int .i64 T1.wn,.int .i64 T1.ur,.int .i64 T1.ms,.int .i64 T1.sc,.bool T1.so,.bool T1.st,.int .u32 T1.va,.int .u32 T1.ec,.slice kt1.ka T1.sk.length kt1.kc,.slice kt1.da T1.da.length kt1.dc]∧SgOwn X2 (X1.heap.size+4) T1 kt1∧Below w.heap.size w X2):=⟨HX1.out.1.later q2,g2,hG2.later m2,Below.on HX1.out.2.1 q2⟩
  clear hO2 hG2 hB2 m2 g2 sl2 q2
  go_wp2_with fail
  try rw [hX2]
  refine c3.mono ?_
  rintro e w3 ⟨k2,kt2,rfl,hO3,hG3,hB3⟩
  clear c3 hX2 HX1 HD1 HD2 HL1
  as_aux_lemma =>
   obtain ⟨X3,hX3⟩:∃ X3,(w3.alloc (.cells #[.int .i64 R2.s.n,.slice k2.ua R2.s.u.length k2.uc,.slice k2.la k2.es.length k2.lc,.int .i64 R2.cap,.int .i64 R2.shift,.int .i64 R2.edge,.int .u32 R2.recent,.bool R2.stamps,.bool R2.sacks,.int .i64 R2.fin,.bool R2.dn,.slice k2.fa R2.first.length k2.fc,.int .u32 R2.irs,.int .u32 R2.own,.bool R2.stamp] 27)).alloc (.cells #[.int .i64 T2.sp,.int .i64 T2.dp,.int .u32 T2.sq,.int .u32 T2.ak,.int .i64 T2.fl,.int .i64 T2.wn,.int .i64 T2.ur,.int .i64 T2.ms,.int .i64 T2.sc,.bool T2.so,.bool T2.st,.int .u32 T2.va,.int .u32 T2.ec,.slice kt2.ka T2.sk.length kt2.kc,.slice kt2.da T2.da.length kt2.dc] 34)=X3:=⟨_,rfl⟩
   have m3:Below w3.heap.size w3 X3:=by rw [← hX3];exact zaa (zaa (Below.refl _ _) _) _
   have g3:Box X3 (w3.heap.size+1) 34 [.int .i64 T2.sp,.int .i64 T2.dp,.int .u32 T2.sq,.int .u32 T2.ak,.int .i64 T2.fl,.int .i64 T2.wn,.int .i64 T2.ur,.int .i64 T2.ms,.int .i64 T2.sc,.bool T2.so,.bool T2.st,.int .u32 T2.va,.int .u32 T2.ec,.slice kt2.ka T2.sk.length kt2.kc,.slice kt2.da T2.da.length kt2.dc]:=by
    rw [← hX3]
    have:=Box.new (w3.alloc (.cells #[.int .i64 R2.s.n,.slice k2.ua R2.s.u.length k2.uc,.slice k2.la k2.es.length k2.lc,.int .i64 R2.cap,.int .i64 R2.shift,.int .i64 R2.edge,.int .u32 R2.recent,.bool R2.stamps,.bool R2.sacks,.int .i64 R2.fin,.bool R2.dn,.slice k2.fa R2.first.length k2.fc,.int .u32 R2.irs,.int .u32 R2.own,.bool R2.stamp] 27)) 34 [.int .i64 T2.sp,.int .i64 T2.dp,.int .u32 T2.sq,.int .u32 T2.ak,.int .i64 T2.fl,.int .i64 T2.wn,.int .i64 T2.ur,.int .i64 T2.ms,.int .i64 T2.sc,.bool T2.so,.bool T2.st,.int .u32 T2.va,.int .u32 T2.ec,.slice kt2.ka T2.sk.length kt2.kc,.slice kt2.da T2.da.length kt2.dc]
    rwa [World.size_alloc] at this
   have x3:Box X3 w3.heap.size 27 (rvL R2 k2):=by
    rw [← hX3]
    exact (Box.new w3 27 [.int .i64 R2.s.n,.slice k2.ua R2.s.u.length k2.uc,.slice k2.la k2.es.length k2.lc,.int .i64 R2.cap,.int .i64 R2.shift,.int .i64 R2.edge,.int .u32 R2.recent,.bool R2.stamps,.bool R2.sacks,.int .i64 R2.fin,.bool R2.dn,.slice k2.fa R2.first.length k2.fc,.int .u32 R2.irs,.int .u32 R2.own,.bool R2.stamp]).alloc _
   have q3:Below X2.heap.size X2 X3:=Below.on hB3 m3
   have at3:=HL2.out X3 _ k2 (hO3.later m3)
   have cRd:=HD3.out X3 k2 at3
   have HX3:Hid (Box X3 w1.heap.size 27 (rvL R0 H0)∧Box X3 (w2.heap.size+1) 34 [.int .i64 T1.sp,.int .i64 T1.dp,.int .u32 T1.sq,.int .u32 T1.ak,.int .i64 T1.fl,.int .i64 T1.wn,.int .i64 T1.ur,.int .i64 T1.ms,.int .i64 T1.sc,.bool T1.so,.bool T1.st,.int .u32 T1.va,.int .u32 T1.ec,.slice kt1.ka T1.sk.length kt1.kc,.slice kt1.da T1.da.length kt1.dc]∧SgOwn X3 (X1.heap.size+4) T1 kt1∧Below w.heap.size w X3∧Box X3 w3.heap.size 27 (rvL R2 k2)∧Box X3 (w3.heap.size+1) 34 [.int .i64 T2.sp,.int .i64 T2.dp,.int .u32 T2.sq,.int .u32 T2.ak,.int .i64 T2.fl,.int .i64 T2.wn,.int .i64 T2.ur,.int .i64 T2.ms,.int .i64 T2.sc,.bool T2.so,.bool T2.st,.int .u32 T2.va,.int .u32 T2.ec,.slice kt2.ka T2.sk.length kt2.kc,.slice kt2.da T2.da.length kt2.dc]∧SlAt X3 k2.ua k2.uc R2.s.u):=⟨HX2.out.1.later q3,HX2.out.2.1.later q3,HX2.out.2.2.1.later q3,Below.on HX2.out.2.2.2 q3,x3,g3,at3.un⟩
   obtain ⟨c0,c1,c2,c3,c4,c5,c6,c7,c8,c9,c10,c11,c12,c13,c14⟩:=Box.c15 x3
   clear hO3 hG3 hB3 m3 g3 x3 q3 at3 HX2
   go_wp2_with fail
   try rw [hX3]
   refine cRd.mono ?_
   rintro e w4 ⟨k3,da,dc,kt3,rfl,hu3,hd3,hB4⟩
   clear cRd hX3 HD3 HL2 c0 c1 c2 c3 c4 c5 c6 c7 c8 c9 c10 c11 c12 c13 c14
   as_aux_lemma =>
    obtain ⟨X4,hX4⟩:∃ X4,(w4.alloc (.cells #[.int .i64 R3.s.n,.slice k3.ua R3.s.u.length k3.uc,.slice k3.la k3.es.length k3.lc,.int .i64 R3.cap,.int .i64 R3.shift,.int .i64 R3.edge,.int .u32 R3.recent,.bool R3.stamps,.bool R3.sacks,.int .i64 R3.fin,.bool R3.dn,.slice k3.fa R3.first.length k3.fc,.int .u32 R3.irs,.int .u32 R3.own,.bool R3.stamp] 27)).alloc (.cells #[.int .i64 T3.sp,.int .i64 T3.dp,.int .u32 T3.sq,.int .u32 T3.ak,.int .i64 T3.fl,.int .i64 T3.wn,.int .i64 T3.ur,.int .i64 T3.ms,.int .i64 T3.sc,.bool T3.so,.bool T3.st,.int .u32 T3.va,.int .u32 T3.ec,.slice kt3.ka T3.sk.length kt3.kc,.slice kt3.da T3.da.length kt3.dc] 34)=X4:=⟨_,rfl⟩
    have m4:Below w4.heap.size w4 X4:=by rw [← hX4];exact zaa (zaa (Below.refl _ _) _) _
    have x4:Box X4 w4.heap.size 27 (rvL R3 k3):=by
     rw [← hX4]
     exact (Box.new w4 27 [.int .i64 R3.s.n,.slice k3.ua R3.s.u.length k3.uc,.slice k3.la k3.es.length k3.lc,.int .i64 R3.cap,.int .i64 R3.shift,.int .i64 R3.edge,.int .u32 R3.recent,.bool R3.stamps,.bool R3.sacks,.int .i64 R3.fin,.bool R3.dn,.slice k3.fa R3.first.length k3.fc,.int .u32 R3.irs,.int .u32 R3.own,.bool R3.stamp]).alloc _
    have q4:Below X3.heap.size X3 X4:=Below.on hB4 m4
    have c5:=HN.out X4
    have HX4:Hid (Below X3.heap.size X3 X4∧Box X4 w4.heap.size 27 (rvL R3 k3)∧SlAt X4 k3.ua k3.uc [100]∧SlAt X4 da dc [97,98,99]):=⟨q4,x4,hu3.later m4,hd3.later m4⟩
    clear hu3 hd3 hB4 m4 x4 q4 HN
    go_wp2_with fail
    try rw [hX4]
    refine c5.mono ?_
    rintro e w5 ⟨rfl,hB5⟩
    clear c5 hX4
    as_aux_lemma =>
     go_upto_region 6 with fail
     obtain ⟨X5,hX5⟩:∃ X5,w5.alloc (.cells zR.toArray 27)=X5:=⟨_,rfl⟩
     have q5:Below X4.heap.size X4 X5:=by rw [← hX5];exact zaa hB5 _
     have q35:Below X3.heap.size X3 X5:=Below.on HX4.out.1 q5
     have HB5:Hid (Below w.heap.size w X5):=Below.on HX3.out.2.2.2.1 q35
     have bb:=(HX3.out.2.2.1.later q35).row.blks (by have:=HX3.out.2.2.1.four;omega)
     obtain ⟨b,o,hka,hb0,hb1⟩:=bb.2 0 (by rw [HT.out.2.1];decide)
     rw [HT.out.2.1] at hb0 hb1
     have hb0':X5.cell? ⟨b,o,none⟩=some (.int .u32 102):=hb0
     have hb1':X5.cell? ⟨b,o+1,none⟩=some (.int .u32 104):=hb1
     have hsk:T1.sk.length=1:=by rw [HT.out.2.1];rfl
     have hak1:=HT.out.1
     have hak2:=HT.out.2.2.1
     have e3:=(HX3.out.2.1.later q35).cell 3 rfl
     have e13:=(HX3.out.2.1.later q35).cell 13 rfl
     have f3:=(HX3.out.2.2.2.2.2.1.later q35).cell 3 rfl
     have g1:=(HX3.out.2.2.2.2.1.later q35).cell 1 rfl
     have k1':=(HX4.out.2.1.later q5).cell 1 rfl
     have v1:=conv_is k2.ua k2.uc R2.s.u X5 (HX3.out.2.2.2.2.2.2.later q35).1 R2.s.u.length rfl ⟨#[97,98,99,100]⟩ (by rw [HT.out.2.2.2.1];rfl)
     have v2:=conv_is da dc [97,98,99] X5 (HX4.out.2.2.2.later q5).1 3 rfl ⟨#[97,98,99]⟩ (by rfl)
     have v3:=conv_is k3.ua k3.uc [100] X5 (HX4.out.2.2.1.later q5).1 R3.s.u.length (by rw [HT.out.2.2.2.2.1]) ⟨#[100]⟩ (by rfl)
     have cWn:=HW.out X5
     rw [HT.out.2.2.2.2.2] at cWn
     have bx:=HX3.out.1.later q35
     try rw [hX5]
     clear hX5
     have hbx:=bx
     obtain ⟨c0,c1,c2,c3,c4,c5,c6,c7,c8,c9,c10,c11,c12,c13,c14⟩:=Box.c15 hbx
     clear hbx bx HX3 HX4 HT HW q5 q35 hb0 hb1 bb hB5
     as_aux_lemma =>
      go_wp2_with fail
      refine cWn.mono ?_
      rintro e w6 ⟨rfl,hB6⟩
      have HB6:Hid (Below w.heap.size w w6):=Below.on HB5.out hB6
      clear cWn hB6 HB5 c0 c1 c2 c3 c4 c5 c6 c7 c8 c9 c10 c11 c12 c13 c14 v1 v2 v3 e3 e13 f3 g1 k1'
      as_aux_lemma =>
       go_wp2_with fail
       go_ret
       exact ⟨rfl,HB6.out⟩
end Go.Proofs.Ytkigcdmlkmcdcaa
/- Receivers, segments, bytes and numbers that came in. -/
namespace Go.Proofs.Ytkigcdmlkmcdcaa
open Go.ChangeShapes Go.WideShapes Go.ChangeAt Go.RowKit
set_option linter.unusedVariables false
set_option linter.unusedSimpArgs false
theorem zd9 {w:World} {a:Addr} {v:Value} (h:w.cell? (a.add 0)=some v):∃ b o,a=⟨b,o,none⟩:=by
 obtain ⟨b,o,spot⟩:=a
 have hs:spot=none:=by simpa [Addr.add] using World.cell?_spot h
 subst hs
 exact ⟨b,o,rfl⟩
theorem bounds_u8 {a:Int} (h:(Lit.int .u8 a).wf=true):0≤a∧a≤255:=by
 simp [Lit.wf,IntKind.min,IntKind.max,IntKind.signed,IntKind.bits] at h;omega
theorem zb3 {a:Int} (h:(Lit.int .i64 a).wf=true):I64 a:=by
 simp [Lit.wf,IntKind.min,IntKind.max,IntKind.signed,IntKind.bits] at h;unfold I64;omega
theorem bytes5:Try.prog.bytesOf 5=1:=by kernel_rfl
theorem zfh {H:Type} {P:Program} {e:TypeId} {n:Nat} {d:DataW H} (hn:n∈d.weights P e):∀ {ds:List (DataW H)},d∈ds→n∈DataW.weightsAll P e ds
 | [],h=>by cases h
 | x::r,h=>by
  rw [DataW.weightsAll,List.mem_append]
  rcases List.mem_cons.1 h with rfl|h
  · exact .inl hn
  · exact .inr (zfh hn h)
theorem zfp {H:Type} {enc:TypeId×Value→H} {w:World} {fuel:Nat} {v:Value} {d:DataW H} {p:List MemPlace} (h:DataW.trod enc Try.prog w 0 (fun _=>true) true fuel 22 [v]=some (d,p)) (hw:∀ n∈d.weights Try.prog 22,n≤reachBytes) :
 ∃ a bs c,v=.slice a bs.length c∧SlAt w a c bs:=by
 rcases open_ints Try.underlying22 Try.underlying5 (by kernel_rfl) h with ⟨hcs,_⟩|⟨x,l,c,zs,hcs,_,hl,hm,hz,hxe,hcell,hwz⟩
 · simp at hcs
   subst hcs
   exact ⟨none,[],0,rfl,SlAt.nil _⟩
 · simp at hcs hz
   subst hcs
   simp only [Prod.mk.injEq] at hxe
   obtain ⟨rfl,_⟩:=hxe
   have hs:=hw ((l+(zs.length-l))*1) (by
    simp only [DataW.weights,Try.underlying22,bytes5,lits,List.length_map,List.length_take,List.length_drop]
    rw [Nat.min_eq_left (by omega)]
    exact List.mem_cons_self ..)
   simp only [reachBytes] at hs
   have hlen:(zs.take l).length=l:=by simp;omega
   refine ⟨some x,zs.take l,c,by rw [hlen],⟨by omega,fun y hy=>bounds_u8 (hwz y (List.mem_of_mem_take hy)),fun j hj=>?_⟩,fun h=>(by cases h),by omega⟩
   rw [hlen] at hj
   obtain ⟨b,o,rfl⟩:=zd9 (by have:=hcell 0 (by omega);exact this)
   refine ⟨b,o,rfl,?_⟩
   have:=hcell j (by omega)
   rw [zb1] at this
   rw [this,List.getElem?_take_of_lt hj]
   rfl
theorem zcn {a:Int} (h:(Lit.int .u32 a).wf=true):U32 a:=by
 simp [Lit.wf,IntKind.min,IntKind.max,IntKind.signed,IntKind.bits] at h;unfold U32;omega
theorem bytesP:Try.prog.bytesOf 74=32:=by kernel_rfl
theorem bytesS:Try.prog.bytesOf 78=16:=by kernel_rfl
theorem open_pcs {H:Type} {enc:TypeId×Value→H} {w:World} {fuel:Nat} {v:Value} {d:DataW H} {p:List MemPlace} (h:DataW.trod enc Try.prog w 0 (fun _=>true) true fuel 23 [v]=some (d,p)) (hw:∀ n∈d.weights Try.prog 23,n≤reachBytes) :
 ∃ A es c,v=.slice A es.length c∧PcsAt w A c es:=by
 rcases Deep.open_slice_pairs Try.underlying23 Try.underlying74 (by kernel_rfl) rfl rfl (by kernel_rfl) (by kernel_rfl) h with ⟨hcs,_⟩|⟨y,len,cap,m,n,V0,V1,D0,D1,P0,P1,hcs,_,hl,hm,hmm,hx0,hx⟩
 · simp at hcs
   subst hcs
   exact ⟨none,[],0,rfl,PcsAt.nil' _⟩
 · simp at hcs hmm
   subst hcs
   simp only [Prod.mk.injEq] at hx0
   obtain ⟨rfl,_⟩:=hx0
   have each:∀ i,i<len→∃ x:En,V0 i=.int .i64 x.f∧V1 i=.slice x.a x.bs.length x.c∧x.ok w:=fun i hi=>by
    obtain ⟨_,_,h0,h1⟩:=hx i (by omega)
    obtain ⟨t,e1,_,wf⟩:=DataW.trod_int (k:=.i64) Try.underlying3 h0
    simp at e1
    obtain ⟨a,bs,c,e0,hB⟩:=zfp h1 (fun q hq=>hw q (by
     simp only [DataW.weights,Try.underlying23,List.mem_cons,List.mem_append]
     refine .inr (.inl (zfh (d:=.agg [D0 i,D1 i]) ?_ (List.mem_map.2 ⟨i,List.mem_range.2 hi,rfl⟩)))
     simp only [DataW.weights,Try.underlying74]
     exact List.mem_append.2 (.inr (List.mem_append.2 (.inl hq)))))
    exact ⟨⟨t,a,c,bs⟩,e1,e0,hB,zb3 wf⟩
   haveI:Inhabited En:=⟨e0⟩
   obtain ⟨X,hX⟩:=Deep.choose_lt (α:=En) each
   have hs:=hw ((len+(cap-len))*32) (by
    simp only [DataW.weights,Try.underlying23,bytesP,List.length_map,List.length_range,hmm]
    exact List.mem_cons_self ..)
   simp only [reachBytes] at hs
   refine ⟨some y,(List.range len).map X,cap,by simp,by simp;omega,by simpa using hl,hm,fun h=>(by cases h),fun j x hj=>?_,fun x hx'=>?_⟩
   · have hj':j<len:=by
      rcases Nat.lt_or_ge j len with h|h
      · exact h
      · rw [List.getElem?_eq_none (by simpa using h)] at hj;cases hj
     obtain rfl:x=X j:=by simpa [hj'] using hj.symm
     obtain ⟨q0,q1,_,_⟩:=hx j (by omega)
     obtain ⟨b,o,rfl⟩:=zd9 (by have:=(hx 0 (by omega)).1;simpa using this)
     rw [zb1] at q0 q1
     refine ⟨b,o,rfl,?_,?_⟩
     · rw [q0,(hX j hj').1]
     · rw [show o+j*2+1=o+(j*2+1) from by omega,q1,(hX j hj').2.1]
   · obtain ⟨i,hi,rfl⟩:=List.mem_map.1 hx'
     exact (hX i (List.mem_range.1 hi)).2.2
theorem open_spans {H:Type} {enc:TypeId×Value→H} {w:World} {fuel:Nat} {v:Value} {d:DataW H} {p:List MemPlace} (h:DataW.trod enc Try.prog w 0 (fun _=>true) true fuel 25 [v]=some (d,p)) (hw:∀ n∈d.weights Try.prog 25,n≤reachBytes) :
 ∃ a l c,v=.slice a l.length c∧SpAt w a c l:=by
 rcases Deep.open_slice_pairs Try.underlying25 Try.underlying78 (by kernel_rfl) rfl rfl (by kernel_rfl) (by kernel_rfl) h with ⟨hcs,_⟩|⟨y,len,cap,m,n,V0,V1,D0,D1,P0,P1,hcs,_,hl,hm,hmm,hx0,hx⟩
 · simp at hcs
   subst hcs
   exact ⟨none,[],0,rfl,SpAt.nil' _⟩
 · simp at hcs hmm
   subst hcs
   simp only [Prod.mk.injEq] at hx0
   obtain ⟨rfl,_⟩:=hx0
   have each:∀ i,i<len→∃ f t,V0 i=.int .i64 f∧V1 i=.int .i64 t:=fun i hi=>by
    obtain ⟨_,_,h0,h1⟩:=hx i (by omega)
    obtain ⟨f,e0,_,_⟩:=DataW.trod_int (k:=.i64) Try.underlying3 h0
    obtain ⟨t,e1,_,_⟩:=DataW.trod_int (k:=.i64) Try.underlying3 h1
    simp at e0 e1
    exact ⟨f,t,e0,e1⟩
   have hs:=hw ((len+(cap-len))*16) (by
    simp only [DataW.weights,Try.underlying25,bytesS,List.length_map,List.length_range,hmm]
    exact List.mem_cons_self ..)
   simp only [reachBytes] at hs
   refine ⟨some y,(List.range len).map (fun i=>(intOf (V0 i),intOf (V1 i))),cap,by simp,⟨⟨by simp;omega,fun j hj=>?_⟩,fun h=>(by cases h),by simpa using hl,by simp;omega⟩⟩
   have hj':j<len:=by simpa using hj
   obtain ⟨f,t,e0,e1⟩:=each j hj'
   obtain ⟨q0,q1,_,_⟩:=hx j (by omega)
   obtain ⟨b,o,rfl⟩:=zd9 (by have:=(hx 0 (by omega)).1;simpa using this)
   rw [zb1] at q0 q1
   refine ⟨b,o,rfl,?_,?_⟩
   · rw [q0,e0];simp [hj',e0,intOf]
   · rw [show o+j*2+1=o+(j*2+1) from by omega,q1,e1];simp [hj',e1,intOf]
theorem open_blks {H:Type} {enc:TypeId×Value→H} {w:World} {fuel:Nat} {v:Value} {d:DataW H} {p:List MemPlace} (h:DataW.trod enc Try.prog w 0 (fun _=>true) true fuel 32 [v]=some (d,p)) (hw:∀ n∈d.weights Try.prog 32,n≤reachBytes) :
 ∃ a l c,v=.slice a l.length c∧zbc w a l:=by
 rcases Deep.open_slice_pairs Try.underlying32 Try.underlying62 (by kernel_rfl) rfl rfl (by kernel_rfl) (by kernel_rfl) h with ⟨hcs,_⟩|⟨y,len,cap,m,n,V0,V1,D0,D1,P0,P1,hcs,_,hl,hm,hmm,hx0,hx⟩
 · simp at hcs
   subst hcs
   exact ⟨none,[],0,rfl,zbc.nil _ _⟩
 · simp at hcs hmm
   subst hcs
   have each:∀ i,i<len→∃ f t,V0 i=.int .u32 f∧V1 i=.int .u32 t:=fun i hi=>by
    obtain ⟨_,_,h0,h1⟩:=hx i (by omega)
    obtain ⟨f,e0,_,_⟩:=DataW.trod_int (k:=.u32) Try.underlying24 h0
    obtain ⟨t,e1,_,_⟩:=DataW.trod_int (k:=.u32) Try.underlying24 h1
    simp at e0 e1
    exact ⟨f,t,e0,e1⟩
   refine ⟨some y,(List.range len).map (fun i=>(intOf (V0 i),intOf (V1 i))),cap,by simp,by simp;omega,fun j hj=>?_⟩
   have hj':j<len:=by simpa using hj
   obtain ⟨f,t,e0,e1⟩:=each j hj'
   obtain ⟨q0,q1,_,_⟩:=hx j (by omega)
   obtain ⟨b,o,rfl⟩:=zd9 (by have:=(hx 0 (by omega)).1;simpa using this)
   rw [zb1] at q0 q1
   refine ⟨b,o,rfl,?_,?_⟩
   · rw [q0,e0];simp [hj',e0,intOf]
   · rw [show o+j*2+1=o+(j*2+1) from by omega,q1,e1];simp [hj',e1,intOf]
set_option maxRecDepth 100000 in
theorem open_recv {H:Type} {enc:TypeId×Value→H} {w:World} {base:Nat} {v:Value} {d:DataW H} {p:List MemPlace} (hv:Value.okWide Try.prog w .any base 27 v) (h:DataW.Trod enc Try.prog w 0 (fun _=>true) true 27 v d p) (hw:∀ n∈d.weights Try.prog 27,n≤reachBytes) :
 ∃ (r:Pl.Rv) (h:Hd),v=.agg #[.int .i64 r.s.n,.slice h.ua r.s.u.length h.uc,.slice h.la h.es.length h.lc,.int .i64 r.cap,.int .i64 r.shift,.int .i64 r.edge,.int .u32 r.recent,.bool r.stamps,.bool r.sacks,.int .i64 r.fin,.bool r.dn,.slice h.fa r.first.length h.fc,.int .u32 r.irs,.int .u32 r.own,.bool r.stamp]∧RvAt w r h:=by
 obtain ⟨cs,rfl,hsz⟩:=okWide_struct Try.underlying27 hv
 obtain ⟨fuel,hf⟩:=h
 obtain ⟨xs,n,_,hd,_,hxl,hx⟩:=DataW.trod_struct Try.underlying27 hf
 have hc:Try.prog.cellsOf 27=15:=by kernel_rfl
 rw [hc] at hsz
 obtain ⟨l⟩:=cs
 have c_Pieces:Try.prog.cellsOf 23=1:=by kernel_rfl
 have c_Spans:Try.prog.cellsOf 25=1:=by kernel_rfl
 have c_bool:Try.prog.cellsOf 4=1:=by kernel_rfl
 have c_bytes:Try.prog.cellsOf 22=1:=by kernel_rfl
 have c_int:Try.prog.cellsOf 3=1:=by kernel_rfl
 have c_u32:Try.prog.cellsOf 24=1:=by kernel_rfl
 match l,hsz,xs,hxl with
 | [a0,a1,a2,a3,a4,a5,a6,a7,a8,a9,a10,a11,a12,a13,a14],_,[y0,y1,y2,y3,y4,y5,y6,y7,y8,y9,y10,y11,y12,y13,y14],_ =>
  have hdd:d=.agg [y0.1,y1.1,y2.1,y3.1,y4.1,y5.1,y6.1,y7.1,y8.1,y9.1,y10.1,y11.1,y12.1,y13.1,y14.1]:=by simpa using congrArg Prod.fst hd
  have g0:DataW.trod enc Try.prog w 0 (fun _=>true) true n 3 (([a0,a1,a2,a3,a4,a5,a6,a7,a8,a9,a10,a11,a12,a13,a14].drop 0).take (Try.prog.cellsOf 3))=some y0:=hx 0 _ rfl
  rw [c_int] at g0
  obtain ⟨z0,e0,_,w0⟩:=DataW.trod_int (k:=.i64) Try.underlying3 g0
  have g1:DataW.trod enc Try.prog w 0 (fun _=>true) true n 22 (([a0,a1,a2,a3,a4,a5,a6,a7,a8,a9,a10,a11,a12,a13,a14].drop 1).take (Try.prog.cellsOf 22))=some y1:=hx 1 _ rfl
  rw [c_bytes] at g1
  have g1':DataW.trod enc Try.prog w 0 (fun _=>true) true n 22 [a1]=some (y1.1,y1.2):=g1
  have hm1:∀ m∈y1.1.weights Try.prog 22,m≤reachBytes:=fun m hm=>hw m (by
   rw [hdd]
   simp only [DataW.weights,Try.underlying27]
   exact List.mem_append.2 (.inr (List.mem_append.2 (.inl hm))))
  obtain ⟨s1,z1,q1,e1,hS1⟩:=zfp g1' hm1
  have g2:DataW.trod enc Try.prog w 0 (fun _=>true) true n 23 (([a0,a1,a2,a3,a4,a5,a6,a7,a8,a9,a10,a11,a12,a13,a14].drop 2).take (Try.prog.cellsOf 23))=some y2:=hx 2 _ rfl
  rw [c_Pieces] at g2
  have g2':DataW.trod enc Try.prog w 0 (fun _=>true) true n 23 [a2]=some (y2.1,y2.2):=g2
  have hm2:∀ m∈y2.1.weights Try.prog 23,m≤reachBytes:=fun m hm=>hw m (by
   rw [hdd]
   simp only [DataW.weights,Try.underlying27]
   exact List.mem_append.2 (.inr (List.mem_append.2 (.inr (List.mem_append.2 (.inl hm))))))
  obtain ⟨s2,z2,q2,e2,hS2⟩:=open_pcs g2' hm2
  have g3:DataW.trod enc Try.prog w 0 (fun _=>true) true n 3 (([a0,a1,a2,a3,a4,a5,a6,a7,a8,a9,a10,a11,a12,a13,a14].drop 3).take (Try.prog.cellsOf 3))=some y3:=hx 3 _ rfl
  rw [c_int] at g3
  obtain ⟨z3,e3,_,w3⟩:=DataW.trod_int (k:=.i64) Try.underlying3 g3
  have g4:DataW.trod enc Try.prog w 0 (fun _=>true) true n 3 (([a0,a1,a2,a3,a4,a5,a6,a7,a8,a9,a10,a11,a12,a13,a14].drop 4).take (Try.prog.cellsOf 3))=some y4:=hx 4 _ rfl
  rw [c_int] at g4
  obtain ⟨z4,e4,_,w4⟩:=DataW.trod_int (k:=.i64) Try.underlying3 g4
  have g5:DataW.trod enc Try.prog w 0 (fun _=>true) true n 3 (([a0,a1,a2,a3,a4,a5,a6,a7,a8,a9,a10,a11,a12,a13,a14].drop 5).take (Try.prog.cellsOf 3))=some y5:=hx 5 _ rfl
  rw [c_int] at g5
  obtain ⟨z5,e5,_,w5⟩:=DataW.trod_int (k:=.i64) Try.underlying3 g5
  have g6:DataW.trod enc Try.prog w 0 (fun _=>true) true n 24 (([a0,a1,a2,a3,a4,a5,a6,a7,a8,a9,a10,a11,a12,a13,a14].drop 6).take (Try.prog.cellsOf 24))=some y6:=hx 6 _ rfl
  rw [c_u32] at g6
  obtain ⟨z6,e6,_,w6⟩:=DataW.trod_int (k:=.u32) Try.underlying24 g6
  have g7:DataW.trod enc Try.prog w 0 (fun _=>true) true n 4 (([a0,a1,a2,a3,a4,a5,a6,a7,a8,a9,a10,a11,a12,a13,a14].drop 7).take (Try.prog.cellsOf 4))=some y7:=hx 7 _ rfl
  rw [c_bool] at g7
  obtain ⟨z7,e7,_⟩:=DataW.trod_bool Try.underlying4 g7
  have g8:DataW.trod enc Try.prog w 0 (fun _=>true) true n 4 (([a0,a1,a2,a3,a4,a5,a6,a7,a8,a9,a10,a11,a12,a13,a14].drop 8).take (Try.prog.cellsOf 4))=some y8:=hx 8 _ rfl
  rw [c_bool] at g8
  obtain ⟨z8,e8,_⟩:=DataW.trod_bool Try.underlying4 g8
  have g9:DataW.trod enc Try.prog w 0 (fun _=>true) true n 3 (([a0,a1,a2,a3,a4,a5,a6,a7,a8,a9,a10,a11,a12,a13,a14].drop 9).take (Try.prog.cellsOf 3))=some y9:=hx 9 _ rfl
  rw [c_int] at g9
  obtain ⟨z9,e9,_,w9⟩:=DataW.trod_int (k:=.i64) Try.underlying3 g9
  have g10:DataW.trod enc Try.prog w 0 (fun _=>true) true n 4 (([a0,a1,a2,a3,a4,a5,a6,a7,a8,a9,a10,a11,a12,a13,a14].drop 10).take (Try.prog.cellsOf 4))=some y10:=hx 10 _ rfl
  rw [c_bool] at g10
  obtain ⟨z10,e10,_⟩:=DataW.trod_bool Try.underlying4 g10
  have g11:DataW.trod enc Try.prog w 0 (fun _=>true) true n 25 (([a0,a1,a2,a3,a4,a5,a6,a7,a8,a9,a10,a11,a12,a13,a14].drop 11).take (Try.prog.cellsOf 25))=some y11:=hx 11 _ rfl
  rw [c_Spans] at g11
  have g11':DataW.trod enc Try.prog w 0 (fun _=>true) true n 25 [a11]=some (y11.1,y11.2):=g11
  have hm11:∀ m∈y11.1.weights Try.prog 25,m≤reachBytes:=fun m hm=>hw m (by
   rw [hdd]
   simp only [DataW.weights,Try.underlying27]
   exact List.mem_append.2 (.inr (List.mem_append.2 (.inr (List.mem_append.2 (.inr (List.mem_append.2 (.inr (List.mem_append.2 (.inr (List.mem_append.2 (.inr (List.mem_append.2 (.inr (List.mem_append.2 (.inr (List.mem_append.2 (.inr (List.mem_append.2 (.inr (List.mem_append.2 (.inr (List.mem_append.2 (.inl hm))))))))))))))))))))))))
  obtain ⟨s11,z11,q11,e11,hS11⟩:=open_spans g11' hm11
  have g12:DataW.trod enc Try.prog w 0 (fun _=>true) true n 24 (([a0,a1,a2,a3,a4,a5,a6,a7,a8,a9,a10,a11,a12,a13,a14].drop 12).take (Try.prog.cellsOf 24))=some y12:=hx 12 _ rfl
  rw [c_u32] at g12
  obtain ⟨z12,e12,_,w12⟩:=DataW.trod_int (k:=.u32) Try.underlying24 g12
  have g13:DataW.trod enc Try.prog w 0 (fun _=>true) true n 24 (([a0,a1,a2,a3,a4,a5,a6,a7,a8,a9,a10,a11,a12,a13,a14].drop 13).take (Try.prog.cellsOf 24))=some y13:=hx 13 _ rfl
  rw [c_u32] at g13
  obtain ⟨z13,e13,_,w13⟩:=DataW.trod_int (k:=.u32) Try.underlying24 g13
  have g14:DataW.trod enc Try.prog w 0 (fun _=>true) true n 4 (([a0,a1,a2,a3,a4,a5,a6,a7,a8,a9,a10,a11,a12,a13,a14].drop 14).take (Try.prog.cellsOf 4))=some y14:=hx 14 _ rfl
  rw [c_bool] at g14
  obtain ⟨z14,e14,_⟩:=DataW.trod_bool Try.underlying4 g14
  simp at e0 e3 e4 e5 e6 e7 e8 e9 e10 e12 e13 e14
  subst e0;subst e1;subst e2;subst e3;subst e4;subst e5;subst e6;subst e7;subst e8;subst e9;subst e10;subst e11;subst e12;subst e13;subst e14
  exact ⟨{ s:={ n:=z0,u:=z1,l:=z2.map En.pc},cap:=z3,shift:=z4,edge:=z5,recent:=z6,stamps:=z7,sacks:=z8,fin:=z9,dn:=z10,first:=z11,irs:=z12,own:=z13,stamp:=z14},⟨s1,q1,s2,q2,z2,s11,q11⟩,rfl,
   { un:=hS1,late:=hS2,les:=rfl,fst:=hS11,n:=zb3 w0,cap:=zb3 w3,shift:=zb3 w4,edge:=zb3 w5,recent:=zcn w6,fin:=zb3 w9,irs:=zcn w12,own:=zcn w13}⟩
set_option maxRecDepth 100000 in
theorem open_sgm {H:Type} {enc:TypeId×Value→H} {w:World} {base:Nat} {v:Value} {d:DataW H} {p:List MemPlace} (hv:Value.okWide Try.prog w .any base 34 v) (h:DataW.Trod enc Try.prog w 0 (fun _=>true) true 34 v d p) (hw:∀ n∈d.weights Try.prog 34,n≤reachBytes) :
 ∃ (s:Seg) (k:Hs),v=.agg #[.int .i64 s.sp,.int .i64 s.dp,.int .u32 s.sq,.int .u32 s.ak,.int .i64 s.fl,.int .i64 s.wn,.int .i64 s.ur,.int .i64 s.ms,.int .i64 s.sc,.bool s.so,.bool s.st,.int .u32 s.va,.int .u32 s.ec,.slice k.ka s.sk.length k.kc,.slice k.da s.da.length k.dc]∧SgAt w s k:=by
 obtain ⟨cs,rfl,hsz⟩:=okWide_struct Try.underlying34 hv
 obtain ⟨fuel,hf⟩:=h
 obtain ⟨xs,n,_,hd,_,hxl,hx⟩:=DataW.trod_struct Try.underlying34 hf
 have hc:Try.prog.cellsOf 34=15:=by kernel_rfl
 rw [hc] at hsz
 obtain ⟨l⟩:=cs
 have c_Blocks:Try.prog.cellsOf 32=1:=by kernel_rfl
 have c_bool:Try.prog.cellsOf 4=1:=by kernel_rfl
 have c_bytes:Try.prog.cellsOf 22=1:=by kernel_rfl
 have c_int:Try.prog.cellsOf 3=1:=by kernel_rfl
 have c_u32:Try.prog.cellsOf 24=1:=by kernel_rfl
 match l,hsz,xs,hxl with
 | [a0,a1,a2,a3,a4,a5,a6,a7,a8,a9,a10,a11,a12,a13,a14],_,[y0,y1,y2,y3,y4,y5,y6,y7,y8,y9,y10,y11,y12,y13,y14],_ =>
  have hdd:d=.agg [y0.1,y1.1,y2.1,y3.1,y4.1,y5.1,y6.1,y7.1,y8.1,y9.1,y10.1,y11.1,y12.1,y13.1,y14.1]:=by simpa using congrArg Prod.fst hd
  have g0:DataW.trod enc Try.prog w 0 (fun _=>true) true n 3 (([a0,a1,a2,a3,a4,a5,a6,a7,a8,a9,a10,a11,a12,a13,a14].drop 0).take (Try.prog.cellsOf 3))=some y0:=hx 0 _ rfl
  rw [c_int] at g0
  obtain ⟨z0,e0,_,w0⟩:=DataW.trod_int (k:=.i64) Try.underlying3 g0
  have g1:DataW.trod enc Try.prog w 0 (fun _=>true) true n 3 (([a0,a1,a2,a3,a4,a5,a6,a7,a8,a9,a10,a11,a12,a13,a14].drop 1).take (Try.prog.cellsOf 3))=some y1:=hx 1 _ rfl
  rw [c_int] at g1
  obtain ⟨z1,e1,_,w1⟩:=DataW.trod_int (k:=.i64) Try.underlying3 g1
  have g2:DataW.trod enc Try.prog w 0 (fun _=>true) true n 24 (([a0,a1,a2,a3,a4,a5,a6,a7,a8,a9,a10,a11,a12,a13,a14].drop 2).take (Try.prog.cellsOf 24))=some y2:=hx 2 _ rfl
  rw [c_u32] at g2
  obtain ⟨z2,e2,_,w2⟩:=DataW.trod_int (k:=.u32) Try.underlying24 g2
  have g3:DataW.trod enc Try.prog w 0 (fun _=>true) true n 24 (([a0,a1,a2,a3,a4,a5,a6,a7,a8,a9,a10,a11,a12,a13,a14].drop 3).take (Try.prog.cellsOf 24))=some y3:=hx 3 _ rfl
  rw [c_u32] at g3
  obtain ⟨z3,e3,_,w3⟩:=DataW.trod_int (k:=.u32) Try.underlying24 g3
  have g4:DataW.trod enc Try.prog w 0 (fun _=>true) true n 3 (([a0,a1,a2,a3,a4,a5,a6,a7,a8,a9,a10,a11,a12,a13,a14].drop 4).take (Try.prog.cellsOf 3))=some y4:=hx 4 _ rfl
  rw [c_int] at g4
  obtain ⟨z4,e4,_,w4⟩:=DataW.trod_int (k:=.i64) Try.underlying3 g4
  have g5:DataW.trod enc Try.prog w 0 (fun _=>true) true n 3 (([a0,a1,a2,a3,a4,a5,a6,a7,a8,a9,a10,a11,a12,a13,a14].drop 5).take (Try.prog.cellsOf 3))=some y5:=hx 5 _ rfl
  rw [c_int] at g5
  obtain ⟨z5,e5,_,w5⟩:=DataW.trod_int (k:=.i64) Try.underlying3 g5
  have g6:DataW.trod enc Try.prog w 0 (fun _=>true) true n 3 (([a0,a1,a2,a3,a4,a5,a6,a7,a8,a9,a10,a11,a12,a13,a14].drop 6).take (Try.prog.cellsOf 3))=some y6:=hx 6 _ rfl
  rw [c_int] at g6
  obtain ⟨z6,e6,_,w6⟩:=DataW.trod_int (k:=.i64) Try.underlying3 g6
  have g7:DataW.trod enc Try.prog w 0 (fun _=>true) true n 3 (([a0,a1,a2,a3,a4,a5,a6,a7,a8,a9,a10,a11,a12,a13,a14].drop 7).take (Try.prog.cellsOf 3))=some y7:=hx 7 _ rfl
  rw [c_int] at g7
  obtain ⟨z7,e7,_,w7⟩:=DataW.trod_int (k:=.i64) Try.underlying3 g7
  have g8:DataW.trod enc Try.prog w 0 (fun _=>true) true n 3 (([a0,a1,a2,a3,a4,a5,a6,a7,a8,a9,a10,a11,a12,a13,a14].drop 8).take (Try.prog.cellsOf 3))=some y8:=hx 8 _ rfl
  rw [c_int] at g8
  obtain ⟨z8,e8,_,w8⟩:=DataW.trod_int (k:=.i64) Try.underlying3 g8
  have g9:DataW.trod enc Try.prog w 0 (fun _=>true) true n 4 (([a0,a1,a2,a3,a4,a5,a6,a7,a8,a9,a10,a11,a12,a13,a14].drop 9).take (Try.prog.cellsOf 4))=some y9:=hx 9 _ rfl
  rw [c_bool] at g9
  obtain ⟨z9,e9,_⟩:=DataW.trod_bool Try.underlying4 g9
  have g10:DataW.trod enc Try.prog w 0 (fun _=>true) true n 4 (([a0,a1,a2,a3,a4,a5,a6,a7,a8,a9,a10,a11,a12,a13,a14].drop 10).take (Try.prog.cellsOf 4))=some y10:=hx 10 _ rfl
  rw [c_bool] at g10
  obtain ⟨z10,e10,_⟩:=DataW.trod_bool Try.underlying4 g10
  have g11:DataW.trod enc Try.prog w 0 (fun _=>true) true n 24 (([a0,a1,a2,a3,a4,a5,a6,a7,a8,a9,a10,a11,a12,a13,a14].drop 11).take (Try.prog.cellsOf 24))=some y11:=hx 11 _ rfl
  rw [c_u32] at g11
  obtain ⟨z11,e11,_,w11⟩:=DataW.trod_int (k:=.u32) Try.underlying24 g11
  have g12:DataW.trod enc Try.prog w 0 (fun _=>true) true n 24 (([a0,a1,a2,a3,a4,a5,a6,a7,a8,a9,a10,a11,a12,a13,a14].drop 12).take (Try.prog.cellsOf 24))=some y12:=hx 12 _ rfl
  rw [c_u32] at g12
  obtain ⟨z12,e12,_,w12⟩:=DataW.trod_int (k:=.u32) Try.underlying24 g12
  have g13:DataW.trod enc Try.prog w 0 (fun _=>true) true n 32 (([a0,a1,a2,a3,a4,a5,a6,a7,a8,a9,a10,a11,a12,a13,a14].drop 13).take (Try.prog.cellsOf 32))=some y13:=hx 13 _ rfl
  rw [c_Blocks] at g13
  have g13':DataW.trod enc Try.prog w 0 (fun _=>true) true n 32 [a13]=some (y13.1,y13.2):=g13
  have hm13:∀ m∈y13.1.weights Try.prog 32,m≤reachBytes:=fun m hm=>hw m (by
   rw [hdd]
   simp only [DataW.weights,Try.underlying34]
   exact List.mem_append.2 (.inr (List.mem_append.2 (.inr (List.mem_append.2 (.inr (List.mem_append.2 (.inr (List.mem_append.2 (.inr (List.mem_append.2 (.inr (List.mem_append.2 (.inr (List.mem_append.2 (.inr (List.mem_append.2 (.inr (List.mem_append.2 (.inr (List.mem_append.2 (.inr (List.mem_append.2 (.inr (List.mem_append.2 (.inr (List.mem_append.2 (.inl hm))))))))))))))))))))))))))))
  obtain ⟨s13,z13,q13,e13,hS13⟩:=open_blks g13' hm13
  have g14:DataW.trod enc Try.prog w 0 (fun _=>true) true n 22 (([a0,a1,a2,a3,a4,a5,a6,a7,a8,a9,a10,a11,a12,a13,a14].drop 14).take (Try.prog.cellsOf 22))=some y14:=hx 14 _ rfl
  rw [c_bytes] at g14
  have g14':DataW.trod enc Try.prog w 0 (fun _=>true) true n 22 [a14]=some (y14.1,y14.2):=g14
  have hm14:∀ m∈y14.1.weights Try.prog 22,m≤reachBytes:=fun m hm=>hw m (by
   rw [hdd]
   simp only [DataW.weights,Try.underlying34]
   exact List.mem_append.2 (.inr (List.mem_append.2 (.inr (List.mem_append.2 (.inr (List.mem_append.2 (.inr (List.mem_append.2 (.inr (List.mem_append.2 (.inr (List.mem_append.2 (.inr (List.mem_append.2 (.inr (List.mem_append.2 (.inr (List.mem_append.2 (.inr (List.mem_append.2 (.inr (List.mem_append.2 (.inr (List.mem_append.2 (.inr (List.mem_append.2 (.inr (List.mem_append.2 (.inl hm))))))))))))))))))))))))))))))
  obtain ⟨s14,z14,q14,e14,hS14⟩:=zfp g14' hm14
  simp at e0 e1 e2 e3 e4 e5 e6 e7 e8 e9 e10 e11 e12
  subst e0;subst e1;subst e2;subst e3;subst e4;subst e5;subst e6;subst e7;subst e8;subst e9;subst e10;subst e11;subst e12;subst e13;subst e14
  exact ⟨⟨z0,z1,z2,z3,z4,z5,z6,z7,z8,z9,z10,z11,z12,z13,z14⟩,⟨s13,q13,s14,q14⟩,rfl,{ blks:=hS13,data:=hS14,sq:=zcn w2,va:=zcn w11,fl:=zb3 w4}⟩
theorem sized_arg {H:Type} {P:Program} {ts:List TypeId} {ds:List (DataW H)} (h:(DataW.weightsEach P ts ds).all (· ≤ reachBytes)=true) {j:Nat} {t:TypeId} {d:DataW H} (ht:ts[j]? = some t) (hd:ds[j]? = some d):∀ n∈d.weights P t,n≤reachBytes:=fun n hn=>by
 have:=List.all_eq_true.1 h _ (DataW.weights_mem_each ht hd n hn)
 simpa using this
def IntsAt (w:World) (A:Option Addr) (xs:List Int):Prop:=∀ j,j<xs.length→∃ b o,A=some ⟨b,o,none⟩∧w.cell? ⟨b,o+j,none⟩=some (.int .i64 (xs[j]?.getD 0))∧I64 (xs[j]?.getD 0)
theorem IntsAt.later {w w':World} {A:Option Addr} {xs:List Int} (h:IntsAt w A xs) (hb:Below w.heap.size w w'):IntsAt w' A xs:=fun j hj=>by
 obtain ⟨b,o,e,hc,hi⟩:=h j hj
 exact ⟨b,o,e,(hb.cell (p:=⟨b,o+j,none⟩) (zac hc)).trans hc,hi⟩
end Go.Proofs.Ytkigcdmlkmcdcaa
