/- GA: SPlain SPlain2 Late Taken RecvP RecvQ RecvO Merge Both Fresh. -/
import Derived.Test.YtkigcdmlkmcdcaaQZ
import Derived.RowKit
/- Plain mathematics of spans: a span is where it begins and where it ends. -/
namespace Go.Proofs.Ytkigcdmlkmcdcaa
abbrev Tm:=Int×Int
def okAt (last:Int) (x:Tm):Bool:=decide (last<x.1)&&decide (x.1<x.2)&&decide (x.2≤1125899906842624)
def chk:Int→List Tm→Bool
 | _,[]=>true
 | last,x::r=>okAt last x&&chk x.2 r
def lastT (last:Int) (l:List Tm):Int:=l.foldl (fun _ x=>x.2) last
def errI (l:List Tm):Int:=if chk (-1) l=true then 0 else 60
theorem okAt_iff {last:Int} {x:Tm}:okAt last x=true↔last<x.1∧x.1<x.2∧x.2≤1125899906842624:=by simp [okAt,and_assoc]
theorem zbt {last:Int} {x:Tm} {r:List Tm}:chk last (x::r)=true↔(last<x.1∧x.1<x.2∧x.2≤1125899906842624)∧chk x.2 r=true:=by
 rw [chk,Bool.and_eq_true,okAt_iff]
theorem lastT_snoc (last:Int) (l:List Tm) (x:Tm):lastT last (l++[x])=x.2:=by simp [lastT]
theorem lastT_cons (last:Int) (x:Tm) (l:List Tm):lastT last (x::l)=lastT x.2 l:=rfl
theorem zew:∀ (l r:List Tm) (last:Int),chk last (l++r)=(chk last l&&chk (lastT last l) r)
 | [],r,last=>by simp [chk,lastT]
 | y::l,r,last=>by
  rw [List.cons_append,chk,chk,zew l r y.2,lastT_cons,Bool.and_assoc]
theorem chk_snoc (l:List Tm) (last:Int) (x:Tm):chk last (l++[x])=(chk last l&&okAt (lastT last l) x):=by
 rw [zew];simp [chk]
theorem chk_prefix {p l:List Tm} {last:Int} (h:p <+: l) (hc:chk last p=false):chk last l=false:=by
 obtain ⟨r,rfl⟩:=h
 rw [zew,hc,Bool.false_and]
theorem chk_mono:∀ {l:List Tm} {a b:Int},chk a l=true→b≤a→chk b l=true
 | [],_,_,_,_=>rfl
 | x::r,a,b,h,hb=>by
  rw [zbt] at h ⊢
  exact ⟨⟨by omega,h.1.2⟩,h.2⟩
def outs:List Tm→Int→List Tm×Int
 | [],f=>([],f)
 | x::r,f=>if x.2≤f then outs r f else ((if f<x.1 then [(f,x.1)] else [])++(outs r x.2).1,(outs r x.2).2)
def fin (f t:Int):List Tm:=if f<t then [(f,t)] else []
def gapsL:List Tm→Int→Int→List Tm
 | [],f,t=>fin f t
 | x::r,f,t=>if t≤x.1 then fin f t else if x.2≤f then gapsL r f t else (if f<x.1 then [(f,x.1)] else [])++gapsL r x.2 t
theorem zg3 {x:Tm} {r:List Tm} {f:Int} (h:x.2≤f):outs (x::r) f=outs r f:=by rw [outs,if_pos h]
theorem zg4 {x:Tm} {r:List Tm} {f:Int} (h:¬x.2≤f):outs (x::r) f=((if f<x.1 then [(f,x.1)] else [])++(outs r x.2).1,(outs r x.2).2):=by rw [outs,if_neg h]
theorem zc8:∀ (p:List Tm) (f:Int) (x:Tm),outs (p++[x]) f=if x.2≤(outs p f).2 then outs p f else ((outs p f).1++(if (outs p f).2<x.1 then [((outs p f).2,x.1)] else []),x.2)
 | [],f,x=>by
  by_cases h:x.2≤f
  · rw [List.nil_append,zg3 h];simp [outs,h]
  · rw [List.nil_append,zg4 h];simp [outs,h];rfl
 | y::p,f,x=>by
  rw [List.cons_append]
  by_cases h:y.2≤f
  · rw [zg3 h,zg3 h];exact zc8 p f x
  · rw [zg4 h,zg4 h,zc8 p y.2 x]
    by_cases h2:x.2≤(outs p y.2).2
    · rw [if_pos h2,if_pos h2]
    · rw [if_neg h2,if_neg h2,List.append_assoc]
theorem zfu {x:Tm} {r:List Tm} {f t:Int} (h:t≤x.1):gapsL (x::r) f t=fin f t:=by rw [gapsL,if_pos h]
theorem zg9 {x:Tm} {r:List Tm} {f t:Int} (h:¬t≤x.1) (h':x.2≤f):gapsL (x::r) f t=gapsL r f t:=by rw [gapsL,if_neg h,if_pos h']
theorem zha {x:Tm} {r:List Tm} {f t:Int} (h:¬t≤x.1) (h':¬x.2≤f):gapsL (x::r) f t=(if f<x.1 then [(f,x.1)] else [])++gapsL r x.2 t:=by rw [gapsL,if_neg h,if_neg h']
theorem outs_skip {p:List Tm} {f:Int} {x:Tm} (h:x.2≤(outs p f).2):outs (p++[x]) f=outs p f:=by rw [zc8,if_pos h]
theorem outs_gap {p:List Tm} {f:Int} {x:Tm} (h:¬x.2≤(outs p f).2) (h':(outs p f).2<x.1):outs (p++[x]) f=((outs p f).1++[((outs p f).2,x.1)],x.2):=by rw [zc8,if_neg h,if_pos h']
theorem outs_on {p:List Tm} {f:Int} {x:Tm} (h:¬x.2≤(outs p f).2) (h':¬(outs p f).2<x.1):outs (p++[x]) f=((outs p f).1,x.2):=by rw [zc8,if_neg h,if_neg h',List.append_nil]
theorem zcf:∀ {p:List Tm} {f t:Int} (r:List Tm),(∀ y∈p,y.1<t)→gapsL (p++r) f t=(outs p f).1++gapsL r (outs p f).2 t
 | [],f,t,r,_=>by simp [outs]
 | y::p,f,t,r,h=>by
  have h1:¬t≤y.1:=by have:=h y (by simp);omega
  have h2:∀ z∈p,z.1<t:=fun z hz=>h z (by simp [hz])
  rw [List.cons_append]
  by_cases h3:y.2≤f
  · rw [zg9 h1 h3,zg3 h3];exact zcf r h2
  · rw [zha h1 h3,zg4 h3,zcf r h2,List.append_assoc]
theorem gaps_all {p:List Tm} {f t:Int} (h:∀ y∈p,y.1<t):gapsL p f t=(outs p f).1++fin (outs p f).2 t:=by
 have:=zcf (f:=f) [] h
 rwa [List.append_nil] at this
theorem gaps_break {p ts:List Tm} {x:Tm} {f t:Int} (hp:p++[x] <+: ts) (h:∀ y∈p,y.1<t) (hx:t≤x.1):gapsL ts f t=(outs p f).1++fin (outs p f).2 t:=by
 obtain ⟨r,rfl⟩:=hp
 rw [List.append_assoc,zcf _ h]
 simp [gapsL,hx]
theorem gaps_prefix {p ts:List Tm} {f t:Int} (hp:p <+: ts) (h:∀ y∈p,y.1<t):(outs p f).1 <+: gapsL ts f t:=by
 obtain ⟨r,rfl⟩:=hp
 rw [zcf _ h]
 exact List.prefix_append _ _
theorem zef:∀ (l:List Tm) (f t:Int),(gapsL l f t).length≤l.length+1
 | [],f,t=>by unfold gapsL fin;split<;>simp
 | x::r,f,t=>by
  unfold gapsL
  split
  · unfold fin;split<;>simp
  · split
    · have:=zef r f t;simp;omega
    · have:=zef r x.2 t
      split<;>simp<;>omega
def cutL (l:List Tm) (s:Tm):List Tm:=l.flatMap fun x=>gapsL [s] x.1 x.2
theorem cutL_cons (l:List Tm) (s x:Tm):cutL (x::l) s=gapsL [s] x.1 x.2++cutL l s:=by simp [cutL]
theorem gaps_one (s:Tm) (f t:Int):gapsL [s] f t=if t≤s.1∨s.2≤f then fin f t else (if f<s.1 then [(f,s.1)] else [])++fin s.2 t:=by
 unfold gapsL gapsL
 by_cases h1:t≤s.1
 · simp [h1]
 · by_cases h2:s.2≤f<;>simp [h1,h2]
theorem gaps_one_out {s:Tm} {f t:Int} (hft:f<t) (h:t≤s.1∨s.2≤f):gapsL [s] f t=[(f,t)]:=by rw [gaps_one,if_pos h,fin,if_pos hft]
theorem cut_far:∀ (r:List Tm) (e:Int) (s:Tm),chk e r=true→s.2≤e→cutL r s=r
 | [],e,s,_,_=>rfl
 | x::r,e,s,h,he=>by
  rw [zbt] at h
  rw [cutL_cons,cut_far r x.2 s h.2 (by omega),gaps_one_out h.1.2.1 (.inr (by omega))];rfl
theorem gaps_two (s:Tm) (f t:Int):(gapsL [s] f t).length≤2:=by have:=zef [s] f t;simpa using this
theorem cut_len:∀ (l:List Tm) (e:Int) (s:Tm),chk e l=true→(cutL l s).length≤l.length+1
 | [],e,s,_=>by simp [cutL]
 | x::r,e,s,h=>by
  rw [zbt] at h
  rw [cutL_cons,List.length_append,List.length_cons]
  by_cases h2:s.2≤x.2
  · rw [cut_far r x.2 s h.2 h2];have:=gaps_two s x.1 x.2;omega
  · have h3:(gapsL [s] x.1 x.2).length≤1:=by
     rw [gaps_one]
     have:¬s.2<x.2:=by omega
     unfold fin
     split
     · split<;>simp
     · simp only [List.append_nil];split<;>simp
    have:=cut_len r x.2 s h.2
    omega
def inB (s:Tm) (o:Int):Bool:=decide (s.1≤o)&&decide (o<s.2)
def hasL (l:List Tm) (o:Int):Bool:=l.any fun s=>inB s o
def gapsV (l:List Tm) (s:Tm):List Tm:=if chk (-1) l=true then gapsL l s.1 s.2 else []
end Go.Proofs.Ytkigcdmlkmcdcaa
/- Plain mathematics of rows of spans: which offsets a row has; a row is known by them; sizes. -/
namespace Go.Proofs.Ytkigcdmlkmcdcaa
def Has (l:List Tm) (o:Int):Prop:=∃ s∈l,s.1≤o∧o<s.2
theorem zd1 (o:Int):¬Has [] o:=fun ⟨_,h,_⟩=>by cases h
theorem zcu {x:Tm} {r:List Tm} {o:Int}:Has (x::r) o↔(x.1≤o∧o<x.2)∨Has r o:=by simp [Has]
theorem has_append {l r:List Tm} {o:Int}:Has (l++r) o↔Has l o∨Has r o:=by
 induction l with
 | nil=>simp [zd1]
 | cons x l ih=>rw [List.cons_append,zcu,zcu,ih,or_assoc]
theorem zft {x:Tm} {o:Int}:Has [x] o↔x.1≤o∧o<x.2:=by rw [zcu];simp [zd1]
theorem has_below:∀ {l:List Tm} {e o:Int},chk e l=true→o≤e→¬Has l o
 | [],_,_,_,_=>zd1 _
 | x::r,e,o,h,ho=>by
  rw [zbt] at h
  rw [zcu]
  rintro (h1|h1)
  · omega
  · exact has_below h.2 (by omega) h1
theorem has_if {c:Prop} [Decidable c] {a:Tm} {o:Int}:Has (if c then [a] else []) o↔c∧a.1≤o∧o<a.2:=by
 by_cases h:c
 · rw [if_pos h,zft];simp [h]
 · rw [if_neg h];simp [h,zd1]
theorem has_fin {f t o:Int}:Has (fin f t) o↔f≤o∧o<t:=by
 unfold fin;rw [has_if];simp only;omega
theorem ze8:∀ {l:List Tm} {e f t o:Int},chk e l=true→(Has (gapsL l f t) o↔f≤o∧o<t∧¬Has l o)
 | [],e,f,t,o,_=>by rw [gapsL,has_fin];simp [zd1]
 | x::r,e,f,t,o,h=>by
  rw [zbt] at h
  have hb:o≤x.2→¬Has r o:=has_below h.2
  rw [zcu]
  by_cases h1:t≤x.1
  · rw [zfu h1,has_fin]
    constructor
    · intro ho
      refine ⟨ho.1,ho.2,?_⟩
      rintro (h2|h2)
      · omega
      · exact hb (by omega) h2
    · intro ho;exact ⟨ho.1,ho.2.1⟩
  · by_cases h2:x.2≤f
    · rw [zg9 h1 h2,ze8 h.2]
      constructor
      · intro ho
        refine ⟨ho.1,ho.2.1,?_⟩
        rintro (h3|h3)
        · omega
        · exact ho.2.2 h3
      · intro ho;exact ⟨ho.1,ho.2.1,fun h3=>ho.2.2 (.inr h3)⟩
    · rw [zha h1 h2,has_append,ze8 h.2,has_if]
      constructor
      · rintro (⟨_,h4,h5⟩|⟨h3,h4,h5⟩)
        · simp only at h4 h5
          refine ⟨h4,by omega,?_⟩
          rintro (h6|h6)
          · omega
          · exact hb (by omega) h6
        · refine ⟨by omega,h4,?_⟩
          rintro (h6|h6)
          · omega
          · exact h5 h6
      · rintro ⟨h3,h4,h5⟩
        by_cases h6:x.2≤o
        · exact .inr ⟨h6,h4,fun h=>h5 (.inr h)⟩
        · have h7:¬(x.1≤o∧o<x.2):=fun h=>h5 (.inl h)
          exact .inl ⟨by omega,h3,by simp only;omega⟩
theorem zfa:∀ {l:List Tm} {e f t:Int},chk e l=true→t≤1125899906842624→chk (f-1) (gapsL l f t)=true
 | [],e,f,t,_,ht=>by
  rw [gapsL];unfold fin
  split
  · rw [zbt];exact ⟨⟨by simp only;omega,by assumption,ht⟩,rfl⟩
  · rfl
 | x::r,e,f,t,h,ht=>by
  rw [zbt] at h
  by_cases h1:t≤x.1
  · rw [zfu h1];unfold fin
    split
    · rw [zbt];exact ⟨⟨by simp only;omega,by assumption,ht⟩,rfl⟩
    · rfl
  · by_cases h2:x.2≤f
    · rw [zg9 h1 h2];exact zfa h.2 ht
    · have ih:=zfa (f:=x.2) (t:=t) h.2 ht
      rw [zha h1 h2]
      split
      · rw [List.singleton_append,zbt]
        exact ⟨⟨by simp only;omega,by simp only;assumption,by simp only;omega⟩,chk_mono ih (by simp only;omega)⟩
      · exact chk_mono ih (by omega)
theorem ze9:∀ {l:List Tm} {f t:Int},∀ g∈gapsL l f t,g.1<g.2
 | [],f,t,g,hg=>by
  rw [gapsL] at hg;unfold fin at hg
  split at hg
  · simp at hg;subst hg;assumption
  · cases hg
 | x::r,f,t,g,hg=>by
  by_cases h1:t≤x.1
  · rw [zfu h1] at hg;unfold fin at hg
    split at hg
    · simp at hg;subst hg;assumption
    · cases hg
  · by_cases h2:x.2≤f
    · rw [zg9 h1 h2] at hg;exact ze9 g hg
    · rw [zha h1 h2] at hg
      rcases List.mem_append.1 hg with hg|hg
      · split at hg
        · simp at hg;subst hg;assumption
        · cases hg
      · exact ze9 g hg
end Go.Proofs.Ytkigcdmlkmcdcaa
/- Pieces of bytes at offsets, in plain mathematics: a row of pieces is known by the bytes that it has; a receiver's bytes are known by what lies at each offset. -/
namespace Go.Proofs.Ytkigcdmlkmcdcaa.Pl
set_option linter.unusedVariables false
abbrev Pc:=Int×List Int
def pend (p:Pc):Int:=p.1+(p.2.length:Int)
def hasL:List Pc→Int→Option Int
 | [],_=>none
 | p::r,x=>if p.1≤x∧x<pend p then p.2[(x-p.1).toNat]? else hasL r x
def latB:Int→List Pc→Prop
 | _,[]=>True
 | lo,p::r=>lo<p.1∧0<p.2.length∧latB (pend p) r
theorem pend_lt {p:Pc} (h:0<p.2.length):p.1<pend p:=by unfold pend;omega
theorem latB.mono {lo lo':Int} {l:List Pc} (h:latB lo l) (hl:lo'≤lo):latB lo' l:=by
 cases l with
 | nil=>trivial
 | cons p r=>exact ⟨by have:=h.1;omega,h.2⟩
theorem has_low:∀ {l:List Pc} {lo x:Int},latB lo l→x≤lo→hasL l x=none
 | [],lo,x,_,_=>rfl
 | p::r,lo,x,h,hx=>by
  have h1:=h.1
  have h2:=pend_lt h.2.1
  rw [hasL,if_neg (by omega)]
  exact has_low h.2.2 (by omega)
theorem has_in {p:Pc} {r:List Pc} {x:Int} (h1:p.1≤x) (h2:x<pend p):hasL (p::r) x=p.2[(x-p.1).toNat]?:=by rw [hasL,if_pos ⟨h1,h2⟩]
theorem has_out {p:Pc} {r:List Pc} {x:Int} (h:x<p.1∨pend p≤x):hasL (p::r) x=hasL r x:=by rw [hasL,if_neg (by omega)]
theorem has_some {p:Pc} {r:List Pc} {x:Int} (h1:p.1≤x) (h2:x<pend p):∃ v,hasL (p::r) x=some v:=by
 rw [has_in h1 h2]
 unfold pend at h2
 have:(x-p.1).toNat<p.2.length:=by omega
 exact ⟨_,List.getElem?_eq_getElem this⟩
theorem has_mem:∀ {l:List Pc} {x:Int} {v:Int},hasL l x=some v→∃ p∈l,p.1≤x∧x<pend p∧v∈p.2
 | [],x,v,h=>by cases h
 | p::r,x,v,h=>by
  rw [hasL] at h
  split at h
  · rename_i hc
    exact ⟨p,List.mem_cons_self ..,hc.1,hc.2,List.mem_of_getElem? h⟩
  · obtain ⟨p',hm,h'⟩:=has_mem h
    exact ⟨p',List.mem_cons_of_mem _ hm,h'⟩
theorem lat_eq:∀ {l l':List Pc} {lo lo':Int},latB lo l→latB lo' l'→(∀ x,hasL l x=hasL l' x)→l=l'
 | [],[],_,_,_,_,_=>rfl
 | [],p::r,lo,lo',_,h',he=>by
  obtain ⟨v,hv⟩:=has_some (p:=p) (r:=r) (Int.le_refl p.1) (pend_lt h'.2.1)
  rw [← he] at hv;cases hv
 | p::r,[],lo,lo',h,_,he=>by
  obtain ⟨v,hv⟩:=has_some (p:=p) (r:=r) (Int.le_refl p.1) (pend_lt h.2.1)
  rw [he] at hv;cases hv
 | p::r,p'::r',lo,lo',h,h',he=>by
  have k1:=pend_lt h.2.1
  have k2:=pend_lt h'.2.1
  have e1:p.1=p'.1:=by
   rcases Int.lt_trichotomy p.1 p'.1 with hl|hl|hl
   · obtain ⟨v,hv⟩:=has_some (p:=p) (r:=r) (Int.le_refl p.1) k1
     rw [he,has_out (.inl hl),has_low h'.2.2 (by omega)] at hv;cases hv
   · exact hl
   · obtain ⟨v,hv⟩:=has_some (p:=p') (r:=r') (Int.le_refl p'.1) k2
     rw [← he,has_out (.inl hl),has_low h.2.2 (by omega)] at hv;cases hv
  have e2:pend p=pend p':=by
   rcases Int.lt_trichotomy (pend p) (pend p') with hl|hl|hl
   · obtain ⟨v,hv⟩:=has_some (p:=p') (r:=r') (x:=pend p) (by omega) hl
     rw [← he,has_out (.inr (Int.le_refl _)),has_low h.2.2 (Int.le_refl _)] at hv;cases hv
   · exact hl
   · obtain ⟨v,hv⟩:=has_some (p:=p) (r:=r) (x:=pend p') (by omega) hl
     rw [he,has_out (.inr (Int.le_refl _)),has_low h'.2.2 (Int.le_refl _)] at hv;cases hv
  have hlen:p.2.length=p'.2.length:=by unfold pend at e2;omega
  have e3:p.2=p'.2:=by
   apply List.ext_getElem?
   intro j
   by_cases hj:j<p.2.length
   · have q1:=has_in (p:=p) (r:=r) (x:=p.1+(j:Int)) (by omega) (by unfold pend;omega)
     have q2:=has_in (p:=p') (r:=r') (x:=p.1+(j:Int)) (by omega) (by unfold pend;omega)
     rw [he,q2] at q1
     have t1:(p.1+(j:Int)-p.1).toNat=j:=by omega
     have t2:(p.1+(j:Int)-p'.1).toNat=j:=by omega
     rw [t1,t2] at q1
     exact q1.symm
   · rw [List.getElem?_eq_none (by omega),List.getElem?_eq_none (by omega)]
  have e4:r=r':=by
   refine lat_eq h.2.2 h'.2.2 (fun x=>?_)
   by_cases hx:x≤pend p
   · rw [has_low h.2.2 hx,has_low h'.2.2 (by omega)]
   · have:=he x
     rwa [has_out (.inr (by omega)),has_out (.inr (by omega))] at this
  rw [e4,Prod.ext e1 e3]
def putGo (x b:Int):List Pc→List Pc→Pc→Bool→List Pc
 | [],out,fr,dn=>if dn=true then out else out++[fr]
 | p::r,out,fr,dn =>
  if pend p=x then putGo x b r out (p.1,p.2++[b]) dn
  else if p.1=pend fr then putGo x b r out (fr.1,fr.2++p.2) dn
  else if x<p.1∧dn=false then putGo x b r (out++[fr,p]) fr true
  else putGo x b r (out++[p]) fr dn
def putL (l:List Pc) (x b:Int):List Pc:=putGo x b l [] (x,[b]) false
theorem put_done {x b:Int}:∀ {r out:List Pc} {fr:Pc} {lo:Int},latB lo r→x≤lo→pend fr≤lo→putGo x b r out fr true=out++r
 | [],out,fr,lo,_,_,_=>by simp [putGo]
 | p::r,out,fr,lo,h,h1,h2=>by
  have k1:=h.1
  have k2:=pend_lt h.2.1
  rw [putGo,if_neg (by omega),if_neg (by omega),if_neg (by simp),put_done h.2.2 (by omega) (by omega)]
  simp
theorem zg1 {x b:Int} {r out:List Pc} {fr:Pc} {lo:Int} (h:latB lo r) (h1:x<lo) (h2:pend fr≤lo):putGo x b r out fr false=out++fr::r:=by
 cases r with
 | nil=>simp [putGo]
 | cons p r =>
  have k1:=h.1
  have k2:=pend_lt h.2.1
  rw [putGo,if_neg (by omega),if_neg (by omega),if_pos ⟨by omega,rfl⟩,put_done h.2.2 (by omega) (by omega)]
  simp
theorem put_spec {x b:Int}:∀ {l out:List Pc} {lo:Int},latB lo l→lo<x→hasL l x=none →
 ∃ l',putGo x b l out (x,[b]) false=out++l'∧latB lo l'∧∀ y,hasL l' y=if y=x then some b else hasL l y
 | [],out,lo,_,hlo,_=>by
  refine ⟨[(x,[b])],by simp [putGo],⟨hlo,by simp,trivial⟩,fun y=>?_⟩
  rw [hasL]
  show (if x≤y∧y<pend (x,[b]) then _ else _)=_
  have hpx:pend ((x,[b]):Pc)=x+1:=by simp [pend]
  rw [hpx]
  by_cases hy:y=x
  · subst hy
    rw [if_pos (by omega),if_pos rfl]
    simp
  · rw [if_neg (by omega),if_neg hy,hasL]
 | p::r,out,lo,h,hlo,hn=>by
  have k1:=h.1
  have k2:=pend_lt h.2.1
  have hne:¬(p.1≤x∧x<pend p):=fun hc=>by
   obtain ⟨v,hv⟩:=has_some (p:=p) (r:=r) hc.1 hc.2
   rw [hv] at hn;cases hn
  have hn':hasL r x=none:=by rwa [hasL,if_neg hne] at hn
  rcases Int.lt_trichotomy (pend p) x with hc|hc|hc
  · -- ahead of it
    obtain ⟨l',e1,e2,e3⟩:=put_spec (b:=b) (out:=out++[p]) h.2.2 hc hn'
    refine ⟨p::l',?_,⟨k1,h.2.1,e2⟩,fun y=>?_⟩
    · rw [putGo,if_neg (by omega),if_neg (by simp only [pend,List.length_cons,List.length_nil];unfold pend at hc k2;omega),if_neg (by omega),e1]
      simp
    · by_cases hy:p.1≤y∧y<pend p
      · rw [has_in hy.1 hy.2,has_in hy.1 hy.2,if_neg (by omega)]
      · rw [has_out (p:=p) (r:=l') (by omega),has_out (p:=p) (r:=r) (by omega),e3]
  · -- it goes on a piece
    have hpe:pend ((p.1,p.2++[b]):Pc)=x+1:=by simp only [pend,List.length_append,List.length_cons,List.length_nil];unfold pend at hc;omega
    have hhas:∀ (t:List Int) (s:List Pc) (y:Int),p.1≤y→y<pend p→hasL ((p.1,p.2++t)::s) y=hasL (p::r) y:=fun t s y g1 g2=>by
     rw [has_in g1 g2,has_in (p:=(p.1,p.2++t)) g1 (by simp only [pend,List.length_append];unfold pend at g2;omega)]
     show (p.2++t)[(y-p.1).toNat]? = _
     rw [List.getElem?_append_left (by unfold pend at g2;omega)]
    have hat:∀ (t:List Int) (s:List Pc),hasL ((p.1,p.2++b::t)::s) x=some b:=fun t s=>by
     rw [has_in (p:=(p.1,p.2++b::t)) (show p.1≤x by omega) (by simp only [pend,List.length_append,List.length_cons];unfold pend at hc;omega)]
     show (p.2++b::t)[(x-p.1).toNat]? = _
     have:(x-p.1).toNat=p.2.length:=by unfold pend at hc;omega
     rw [this]
     simp
    have step:putGo x b (p::r) out (x,[b]) false=putGo x b r out (p.1,p.2++[b]) false:=by rw [putGo,if_pos hc]
    cases r with
    | nil =>
     refine ⟨[(p.1,p.2++[b])],by rw [step];simp [putGo],⟨k1,by simp,trivial⟩,fun y=>?_⟩
     by_cases hy:y=x
     · subst hy;rw [if_pos rfl];exact hat [] []
     · rw [if_neg hy]
       by_cases hy2:p.1≤y∧y<pend p
       · exact hhas [b] [] y hy2.1 hy2.2
       · rw [has_out (p:=(p.1,p.2++[b])) (by rw [hpe];simp only;omega),has_out (p:=p) (by omega)]
    | cons p' r' =>
     have k3:=h.2.2.1
     have k4:=pend_lt h.2.2.2.1
     by_cases ht:p'.1=x+1
     · have hpe2:pend ((p.1,(p.2++[b])++p'.2):Pc)=pend p':=by
        simp only [pend,List.length_append,List.length_cons,List.length_nil];unfold pend at hc;omega
       have hassoc:(p.2++[b])++p'.2=p.2++b::p'.2:=by simp
       refine ⟨(p.1,(p.2++[b])++p'.2)::r',?_,⟨k1,by simp;omega,by rw [hpe2];exact h.2.2.2.2⟩,fun y=>?_⟩
       · rw [step,putGo,if_neg (by omega),if_pos (by rw [hpe];exact ht),zg1 h.2.2.2.2 (by omega) (by rw [hpe2];exact Int.le_refl _)]
       · by_cases hy:y=x
         · subst hy;rw [if_pos rfl,hassoc];exact hat p'.2 r'
         · rw [if_neg hy]
           by_cases hy2:p.1≤y∧y<pend p
           · rw [hassoc];exact hhas (b::p'.2) r' y hy2.1 hy2.2
           · by_cases hy3:p'.1≤y∧y<pend p'
             · rw [has_out (p:=p) (r:=p'::r') (by omega),has_in (p:=p') hy3.1 hy3.2,has_in (p:=(p.1,(p.2++[b])++p'.2)) (show p.1≤y by omega) (by rw [hpe2];exact hy3.2)]
               show ((p.2++[b])++p'.2)[(y-p.1).toNat]? = _
               rw [List.getElem?_append_right (by simp;unfold pend at hc;omega)]
               congr 1
               simp
               unfold pend at hc
               omega
             · rw [has_out (p:=(p.1,(p.2++[b])++p'.2)) (by rw [hpe2];simp only;omega),has_out (p:=p) (by omega),has_out (p:=p') (by omega)]
     · have k5:x+1<p'.1:=by omega
       refine ⟨(p.1,p.2++[b])::p'::r',?_,⟨k1,by simp,by rw [hpe];exact ⟨k5,h.2.2.2⟩⟩,fun y=>?_⟩
       · rw [step,zg1 (r:=p'::r') (lo:=x+1) ⟨k5,h.2.2.2⟩ (by omega) (by rw [hpe];exact Int.le_refl _)]
       · by_cases hy:y=x
         · subst hy;rw [if_pos rfl];exact hat [] (p'::r')
         · rw [if_neg hy]
           by_cases hy2:p.1≤y∧y<pend p
           · exact hhas [b] (p'::r') y hy2.1 hy2.2
           · rw [has_out (p:=(p.1,p.2++[b])) (by rw [hpe];simp only;omega),has_out (p:=p) (r:=p'::r') (by omega)]
  · -- it stands ahead of the piece
    have k5:x<p.1:=by omega
    have hpx:pend ((x,[b]):Pc)=x+1:=by simp [pend]
    by_cases ht:p.1=x+1
    · have hpe:pend ((x,[b]++p.2):Pc)=pend p:=by simp only [pend,List.length_append,List.length_cons,List.length_nil];omega
      refine ⟨(x,[b]++p.2)::r,?_,⟨hlo,by simp,by rw [hpe];exact h.2.2⟩,fun y=>?_⟩
      · rw [putGo,if_neg (by omega),if_pos (by rw [hpx];exact ht),zg1 h.2.2 (by omega) (by rw [hpe];exact Int.le_refl _)]
      · by_cases hy:y=x
        · subst hy
          rw [if_pos rfl,has_in (p:=(y,[b]++p.2)) (Int.le_refl _) (by rw [hpe];omega)]
          simp
        · rw [if_neg hy]
          by_cases hy2:p.1≤y∧y<pend p
          · rw [has_in hy2.1 hy2.2,has_in (p:=(x,[b]++p.2)) (show x≤y by omega) (by rw [hpe];exact hy2.2)]
            show ([b]++p.2)[(y-x).toNat]? = _
            rw [List.getElem?_append_right (by simp;omega)]
            congr 1
            simp
            omega
          · rw [has_out (p:=(x,[b]++p.2)) (by rw [hpe];simp only;omega),has_out (p:=p) (by omega)]
    · have k6:x+1<p.1:=by omega
      refine ⟨(x,[b])::p::r,?_,⟨hlo,by simp,by rw [hpx];exact ⟨k6,h.2⟩⟩,fun y=>?_⟩
      · rw [zg1 (r:=p::r) (lo:=x+1) ⟨k6,h.2⟩ (by omega) (by rw [hpx];exact Int.le_refl _)]
      · by_cases hy:y=x
        · subst hy
          rw [if_pos rfl,has_in (p:=(y,[b])) (Int.le_refl _) (by rw [hpx];omega)]
          simp
        · rw [if_neg hy,has_out (p:=(x,[b])) (by rw [hpx];simp only;omega)]
end Go.Proofs.Ytkigcdmlkmcdcaa.Pl
/- What a receiver has taken, in plain mathematics: it is known by the byte at each offset; what the document's own loop makes of bytes that come. -/
namespace Go.Proofs.Ytkigcdmlkmcdcaa.Pl
set_option linter.unusedVariables false
structure Rx where
 n:Int
 u:List Int
 l:List Pc
def Rx.bot (s:Rx):Int:=s.n-(s.u.length:Int)
def Rx.at (s:Rx) (y:Int):Option Int:=if s.bot≤y∧y<s.n then s.u[(y-s.bot).toNat]? else hasL s.l y
def Rx.ok (s:Rx):Prop:=latB s.n s.l
theorem at_un {s:Rx} {y:Int} (h1:s.bot≤y) (h2:y<s.n):s.at y=s.u[(y-s.bot).toNat]?:=by rw [Rx.at,if_pos ⟨h1,h2⟩]
theorem at_late {s:Rx} {y:Int} (h:s.n≤y):s.at y=hasL s.l y:=by rw [Rx.at,if_neg (by omega)]
theorem zd4 {s:Rx} {y:Int} (h1:s.bot≤y) (h2:y<s.n):∃ v,s.at y=some v:=by
 rw [at_un h1 h2]
 unfold Rx.bot at *
 have:(y-(s.n-(s.u.length:Int))).toNat<s.u.length:=by omega
 exact ⟨_,List.getElem?_eq_getElem this⟩
theorem at_next {s:Rx} (h:s.ok):s.at s.n=none:=by rw [at_late (Int.le_refl _)];exact has_low h (Int.le_refl _)
theorem bot_le (s:Rx):s.bot≤s.n:=by unfold Rx.bot;omega
theorem at_none_iff {s:Rx} {y:Int} (hb:s.bot≤y):s.at y=none↔s.n≤y∧hasL s.l y=none:=by
 constructor
 · intro h
   rcases Int.lt_or_le y s.n with hy|hy
   · obtain ⟨v,hv⟩:=zd4 hb hy
     rw [hv] at h;cases h
   · exact ⟨hy,by rwa [at_late hy] at h⟩
 · intro h
   rw [at_late h.1];exact h.2
theorem rx_eq {s t:Rx} (hs:s.ok) (ht:t.ok) (hb:s.bot=t.bot) (h:∀ y,s.bot≤y→s.at y=t.at y):s=t:=by
 have b1:=bot_le s
 have b2:=bot_le t
 have hn:s.n=t.n:=by
  rcases Int.lt_trichotomy s.n t.n with hl|hl|hl
  · obtain ⟨v,hv⟩:=zd4 (s:=t) (y:=s.n) (by omega) hl
    rw [← h _ b1,at_next hs] at hv;cases hv
  · exact hl
  · obtain ⟨v,hv⟩:=zd4 (s:=s) (y:=t.n) (by omega) hl
    rw [h _ (by omega),at_next ht] at hv;cases hv
 have hlen:s.u.length=t.u.length:=by unfold Rx.bot at hb;omega
 have hu:s.u=t.u:=by
  apply List.ext_getElem?
  intro j
  by_cases hj:j<s.u.length
  · have q:=h (s.bot+(j:Int)) (by omega)
    have l1:s.bot+(j:Int)<s.n:=by unfold Rx.bot;omega
    rw [at_un (by omega) l1,at_un (by omega) (by omega)] at q
    rw [show (s.bot+(j:Int)-s.bot).toNat=j from by omega,show (s.bot+(j:Int)-t.bot).toNat=j from by omega] at q
    exact q
  · rw [List.getElem?_eq_none (by omega),List.getElem?_eq_none (by omega)]
 have hl:s.l=t.l:=by
  refine lat_eq hs ht (fun x=>?_)
  by_cases hx:x≤s.n
  · rw [has_low hs hx,has_low ht (by omega)]
  · have q:=h x (by omega)
    rwa [at_late (by omega),at_late (by omega)] at q
 obtain ⟨sn,su,sl⟩:=s
 obtain ⟨tn,tu,tl⟩:=t
 simp only at hn hu hl
 subst hn;subst hu;subst hl
 rfl
def ordR (s:Rx):Rx:=match s.l with
 | []=>s
 | p::r=>if p.1=s.n then ⟨pend p,s.u++p.2,r⟩ else s
theorem step_spec {s:Rx} {y b:Int} (hs:s.ok) (hy:s.n≤y) (hn:hasL s.l y=none) :
 (ordR ⟨s.n,s.u,putL s.l y b⟩).ok∧(ordR ⟨s.n,s.u,putL s.l y b⟩).bot=s.bot∧s.n≤(ordR ⟨s.n,s.u,putL s.l y b⟩).n∧∀ z,s.bot≤z→(ordR ⟨s.n,s.u,putL s.l y b⟩).at z=if z=y then some b else s.at z:=by
 have hw:latB (s.n-1) s.l:=hs.mono (by omega)
 obtain ⟨l',e1,e2,e3⟩:=put_spec (b:=b) (out:=[]) hw (by omega:s.n-1<y) hn
 have e1':putL s.l y b=l':=by unfold putL;rw [e1];rfl
 rw [e1']
 have hb:=bot_le s
 have hz:∀ z,s.n≤z→hasL l' z=if z=y then some b else s.at z:=fun z hz=>by
  rw [e3,at_late hz]
 cases l' with
 | nil =>
  have:=e3 y
  rw [if_pos rfl] at this
  cases this
 | cons p r =>
  have k1:=e2.1
  have k2:=pend_lt e2.2.1
  by_cases hp:p.1=s.n
  · have eo:ordR ⟨s.n,s.u,p::r⟩=⟨pend p,s.u++p.2,r⟩:=by unfold ordR;simp only;rw [if_pos hp]
    have ebot:(⟨pend p,s.u++p.2,r⟩:Rx).bot=s.bot:=by unfold Rx.bot pend;simp only [List.length_append];omega
    rw [eo]
    refine ⟨e2.2.2,ebot,by simp only;omega,fun z hzb=>?_⟩
    by_cases c1:z<s.n
    · rw [if_neg (by omega),at_un hzb c1,at_un (by rw [ebot];exact hzb) (by simp only;omega),ebot]
      show (s.u++p.2)[(z-s.bot).toNat]? = _
      rw [List.getElem?_append_left (by unfold Rx.bot at *;omega)]
    · rw [← hz z (by omega)]
      by_cases c2:z<pend p
      · rw [at_un (by rw [ebot];exact hzb) (by simp only;exact c2),ebot,has_in (by omega) c2]
        show (s.u++p.2)[(z-s.bot).toNat]? = _
        rw [List.getElem?_append_right (by unfold Rx.bot at *;omega)]
        congr 1
        unfold Rx.bot
        omega
      · rw [at_late (by simp only;omega),has_out (.inr (by omega))]
  · have eo:ordR ⟨s.n,s.u,p::r⟩=⟨s.n,s.u,p::r⟩:=by unfold ordR;simp only;rw [if_neg hp]
    rw [eo]
    refine ⟨⟨by simp only;omega,e2.2⟩,rfl,Int.le_refl _,fun z hzb=>?_⟩
    by_cases c1:z<s.n
    · rw [if_neg (by omega),at_un hzb c1,at_un (s:=⟨s.n,s.u,p::r⟩) hzb c1]
      rfl
    · rw [← hz z (by omega),at_late (s:=⟨s.n,s.u,p::r⟩) (show s.n≤z by omega)]
def takeGo (lo hi:Int):List Int→Int→Rx→Bool→Rx×Bool
 | [],_,s,f=>(s,f)
 | b::r,x,s,f =>
  if x<lo∨hi≤x then takeGo lo hi r (x+1) s f
  else if hasL s.l x=none∧s.n≤x then takeGo lo hi r (x+1) (ordR ⟨s.n,s.u,putL s.l x b⟩) true
  else takeGo lo hi r (x+1) s f
def came (lo hi x:Int) (ds:List Int) (z:Int):Option Int:=if lo≤z∧z<hi∧x≤z∧z<x+(ds.length:Int) then ds[(z-x).toNat]? else none
theorem zcm {lo hi x:Int} {b:Int} {r:List Int} {z:Int}:came lo hi x (b::r) z=if z=x then (if lo≤x∧x<hi then some b else none) else came lo hi (x+1) r z:=by
 unfold came
 by_cases hz:z=x
 · subst hz
   rw [if_pos rfl]
   by_cases h:lo≤z∧z<hi
   · rw [if_pos ⟨h.1,h.2,Int.le_refl _,by simp only [List.length_cons];omega⟩,if_pos h]
     simp
   · rw [if_neg (by omega),if_neg h]
 · rw [if_neg hz]
   by_cases h:lo≤z∧z<hi∧x≤z∧z<x+((b::r).length:Int)
   · rw [if_pos h,if_pos ⟨h.1,h.2.1,by omega,by have:=h.2.2.2;simp only [List.length_cons] at this;omega⟩]
     have:(z-x).toNat=(z-(x+1)).toNat+1:=by omega
     rw [this]
     simp
   · rw [if_neg h,if_neg (fun h'=>h ⟨h'.1,h'.2.1,by omega,by simp only [List.length_cons];omega⟩)]
theorem take_spec:∀ {ds:List Int} {lo hi x:Int} {s:Rx} {f:Bool},s.ok→s.bot≤lo →
 (takeGo lo hi ds x s f).1.ok∧(takeGo lo hi ds x s f).1.bot=s.bot∧s.n≤(takeGo lo hi ds x s f).1.n∧(∀ z,s.bot≤z→(takeGo lo hi ds x s f).1.at z=(s.at z).or (came lo hi x ds z)) ∧
  ((takeGo lo hi ds x s f).2=true↔f=true∨∃ z,s.bot≤z∧s.at z=none∧came lo hi x ds z≠none)
 | [],lo,hi,x,s,f,hs,hl=>by
  have hc:∀ z,came lo hi x [] z=none:=fun z=>by unfold came;rw [if_neg (by simp)]
  refine ⟨hs,rfl,Int.le_refl _,fun z _=>by rw [hc,Option.or_none];rfl,?_⟩
  constructor
  · intro h;exact .inl h
  · rintro (h|⟨z,_,_,h⟩)
    · exact h
    · exact absurd (hc z) h
 | b::r,lo,hi,x,s,f,hs,hl=>by
  by_cases h1:x<lo∨hi≤x
  · have ec:∀ z,came lo hi x (b::r) z=came lo hi (x+1) r z:=fun z=>by
     rw [zcm]
     by_cases hz:z=x
     · subst hz
       rw [if_pos rfl,if_neg (by omega)]
       unfold came
       rw [if_neg (by omega)]
     · rw [if_neg hz]
    have et:takeGo lo hi (b::r) x s f=takeGo lo hi r (x+1) s f:=by rw [takeGo,if_pos h1]
    rw [et]
    simp only [ec]
    exact take_spec hs hl
  · have hxb:s.bot≤x:=by omega
    by_cases h2:hasL s.l x=none∧s.n≤x
    · have et:takeGo lo hi (b::r) x s f=takeGo lo hi r (x+1) (ordR ⟨s.n,s.u,putL s.l x b⟩) true:=by rw [takeGo,if_neg h1,if_pos h2]
      obtain ⟨q1,q2,q3,q4⟩:=step_spec (b:=b) hs h2.2 h2.1
      obtain ⟨t1,t2,t3,t4,t5⟩:=take_spec (ds:=r) (lo:=lo) (hi:=hi) (x:=x+1) (f:=true) q1 (by rw [q2];exact hl)
      rw [et]
      have hat:s.at x=none:=(at_none_iff hxb).2 ⟨h2.2,h2.1⟩
      refine ⟨t1,t2.trans q2,by omega,fun z hz=>?_,?_⟩
      · rw [t4 z (by rw [q2];exact hz),q4 z hz,zcm]
        by_cases hzx:z=x
        · subst hzx
          rw [if_pos rfl,if_pos rfl,if_pos (by omega),hat]
          rfl
        · rw [if_neg hzx,if_neg hzx]
      · constructor
        · intro _
          refine .inr ⟨x,hxb,hat,?_⟩
          rw [zcm,if_pos rfl,if_pos (by omega)]
          simp
        · intro _;exact t5.2 (.inl rfl)
    · have et:takeGo lo hi (b::r) x s f=takeGo lo hi r (x+1) s f:=by rw [takeGo,if_neg h1,if_neg h2]
      obtain ⟨t1,t2,t3,t4,t5⟩:=take_spec (ds:=r) (lo:=lo) (hi:=hi) (x:=x+1) (f:=f) hs hl
      have hat:s.at x≠none:=fun h=>h2 ⟨((at_none_iff hxb).1 h).2,((at_none_iff hxb).1 h).1⟩
      have hx0:came lo hi (x+1) r x=none:=by unfold came;rw [if_neg (by omega)]
      rw [et]
      refine ⟨t1,t2,t3,fun z hz=>?_,?_⟩
      · rw [t4 z hz,zcm]
        by_cases hzx:z=x
        · subst hzx
          rw [if_pos rfl]
          cases hv:s.at z with
          | none=>exact absurd hv hat
          | some v=>simp
        · rw [if_neg hzx]
      · rw [t5]
        constructor
        · rintro (h|⟨z,g1,g2,g3⟩)
          · exact .inl h
          · refine .inr ⟨z,g1,g2,?_⟩
            rw [zcm]
            by_cases hzx:z=x
            · subst hzx;exact absurd g2 hat
            · rw [if_neg hzx];exact g3
        · rintro (h|⟨z,g1,g2,g3⟩)
          · exact .inl h
          · refine .inr ⟨z,g1,g2,?_⟩
            rw [zcm] at g3
            by_cases hzx:z=x
            · subst hzx;exact absurd g2 hat
            · rw [if_neg hzx] at g3;exact g3
end Go.Proofs.Ytkigcdmlkmcdcaa.Pl
/- A receiver in plain mathematics: what may be, what Input and Read make of it, and what follows. -/
namespace Go.Proofs.Ytkigcdmlkmcdcaa.Pl
set_option linter.unusedVariables false
structure Rv where
 s:Rx
 cap:Int
 shift:Int
 edge:Int
 recent:Int
 stamps:Bool
 sacks:Bool
 fin:Int
 dn:Bool
 first:List (Int×Int)
 irs:Int
 own:Int
 stamp:Bool
structure Sg where
 seq:Int
 isFin:Bool
 stamped:Bool
 val:Int
 ds:List Int
def farI:Int:=562949953421312
def minJ (a b:Int):Int:=if b<a then b else a
def maxJ (a b:Int):Int:=if a<b then b else a
def Rv.reach (r:Rv):Int:=r.s.bot+r.cap
def Rv.limit (r:Rv):Int:=minJ r.reach farI
def spansL (l:List Pc):List (Int×Int):=l.map fun p=>(p.1,pend p)
structure Rv.Ok (r:Rv):Prop where
 n0:0≤r.s.n
 nf:r.s.n≤farI
 c1:1≤r.cap
 cm:r.cap≤1073741824
 s0:0≤r.shift
 s14:r.shift≤14
 uc:(r.s.u.length:Int)≤r.cap
 un:(r.s.u.length:Int)≤r.s.n
 f1:-1≤r.fin
 fn:0≤r.fin→r.s.n≤r.fin
 ff:r.fin≤farI
 e0:0≤r.edge
 er:r.edge≤r.reach
 lat:latB r.s.n r.s.l
 lim:∀ p∈r.s.l,pend p≤r.limit
 lfin:0≤r.fin→∀ p∈r.s.l,pend p≤r.fin
 fst:∀ a∈r.first,a∈spansL r.s.l
 nod:r.first.Nodup
 dn:r.dn=decide (r.fin=r.s.n)
 dl:r.dn=true→r.s.l=[]
theorem min_le (a b:Int):minJ a b≤a∧minJ a b≤b∧(minJ a b=a∨minJ a b=b):=by unfold minJ;split<;>omega
theorem max_ge (a b:Int):a≤maxJ a b∧b≤maxJ a b∧(maxJ a b=a∨maxJ a b=b):=by unfold maxJ;split<;>omega
def below (s:Rx) (hi:Int):Prop:=∀ z v,s.bot≤z→s.at z=some v→z<hi
theorem below_next {s:Rx} {hi:Int} (hb:s.bot≤hi) (h:below s hi):s.n≤hi:=by
 rcases Int.lt_or_le s.bot s.n with hl|hl
 · obtain ⟨v,hv⟩:=zd4 (s:=s) (y:=s.n-1) (by omega) (by omega)
   have:=h _ v (by omega) hv
   omega
 · have:=bot_le s;omega
theorem zg8 {lo:Int}:∀ {l:List Pc},latB lo l→∀ p∈l,lo<p.1∧p.1<pend p∧∃ v,hasL l (pend p-1)=some v
 | [],_,p,hp=>by cases hp
 | q::r,h,p,hp=>by
  have k1:=h.1
  have k2:=pend_lt h.2.1
  rcases List.mem_cons.1 hp with rfl|hp
  · exact ⟨k1,k2,has_some (by omega) (by omega)⟩
  · obtain ⟨g1,g2,v,g3⟩:=zg8 h.2.2 p hp
    exact ⟨by omega,g2,v,by rw [has_out (.inr (by omega))];exact g3⟩
theorem below_pend {s:Rx} {hi:Int} (hs:s.ok) (h:below s hi):∀ p∈s.l,pend p≤hi:=fun p hp=>by
 obtain ⟨g1,g2,v,g3⟩:=zg8 hs p hp
 have b1:=bot_le s
 have:=h (pend p-1) v (by omega) (by rw [at_late (by omega)];exact g3)
 omega
theorem below_of {s:Rx} {hi:Int} (hn:s.n≤hi) (hp:∀ p∈s.l,pend p≤hi):below s hi:=fun z v hz hv=>by
 rcases Int.lt_or_le z s.n with hl|hl
 · omega
 · rw [at_late hl] at hv
   obtain ⟨p,hm,_,h2,_⟩:=has_mem hv
   have:=hp p hm
   omega
theorem zgp {ds:List Int} {lo hi x hb:Int} {s:Rx} {f:Bool} (hs:s.ok) (hl:s.bot≤lo) (h:below s hb) (hh:hi≤hb):below (takeGo lo hi ds x s f).1 hb:=fun z v hz hv=>by
 obtain ⟨t1,t2,t3,t4,_⟩:=take_spec (ds:=ds) (lo:=lo) (hi:=hi) (x:=x) (f:=f) hs hl
 rw [t2] at hz
 rw [t4 z hz] at hv
 cases ha:s.at z with
 | some w=>exact h z w hz ha
 | none =>
  rw [ha] at hv
  have hv':came lo hi x ds z=some v:=by simpa using hv
  unfold came at hv'
  split at hv'
  · rename_i hc;omega
  · cases hv'
def fstIn (sp:List (Int×Int)) (a:Int×Int) (out:List (Int×Int)):List (Int×Int) :=
 sp.foldl (fun out s=>if s.1≤a.1∧a.2≤s.2∧a.1<a.2∧¬s∈out then out++[s] else out) out
def firstsL (late:List Pc) (all:List (Int×Int)):List (Int×Int):=all.foldl (fun out a=>fstIn (spansL late) a out) []
theorem zhc {SP:List (Int×Int)} {a:Int×Int}:∀ {sp out:List (Int×Int)},(∀ s∈sp,s∈SP)→(∀ s∈out,s∈SP)→out.Nodup→(∀ s∈fstIn sp a out,s∈SP)∧(fstIn sp a out).Nodup
 | [],out,_,h2,h3=>⟨h2,h3⟩
 | s::r,out,h1,h2,h3=>by
  have hr:∀ t∈r,t∈SP:=fun t ht=>h1 t (List.mem_cons_of_mem _ ht)
  show (∀ t∈fstIn r a (if s.1≤a.1∧a.2≤s.2∧a.1<a.2∧¬s∈out then out++[s] else out),t∈SP)∧(fstIn r a (if s.1≤a.1∧a.2≤s.2∧a.1<a.2∧¬s∈out then out++[s] else out)).Nodup
  split
  · rename_i hc
    refine zhc hr (fun t ht=>?_) ?_
    · rcases List.mem_append.1 ht with ht|ht
      · exact h2 t ht
      · simp at ht;subst ht;exact h1 t (List.mem_cons_self ..)
    · rw [List.nodup_append]
      refine ⟨h3,by simp,fun x hx y hy e=>?_⟩
      simp at hy
      subst hy;subst e
      exact hc.2.2.2 hx
  · exact zhc hr h2 h3
theorem firsts_go {late:List Pc}:∀ {all out:List (Int×Int)},(∀ s∈out,s∈spansL late)→out.Nodup→(∀ s∈all.foldl (fun out a=>fstIn (spansL late) a out) out,s∈spansL late)∧(all.foldl (fun out a=>fstIn (spansL late) a out) out).Nodup
 | [],out,h1,h2=>⟨h1,h2⟩
 | a::r,out,h1,h2=>by
  obtain ⟨g1,g2⟩:=zhc (SP:=spansL late) (a:=a) (sp:=spansL late) (fun s hs=>hs) h1 h2
  exact firsts_go (all:=r) (out:=fstIn (spansL late) a out) g1 g2
theorem firsts_ok (late:List Pc) (all:List (Int×Int)):(∀ s∈firstsL late all,s∈spansL late)∧(firstsL late all).Nodup:=firsts_go (fun s hs=>by cases hs) (by simp)
def Rv.window (r:Rv):Int:=minJ ((r.cap-(r.s.u.length:Int)) / (2:Int) ^ r.shift.toNat) 65535*(2:Int) ^ r.shift.toNat
def tellR (r:Rv):Rv:={ r with edge:=maxJ r.edge (r.s.n+r.window)}
def newR (size shift irs own:Int) (stamps sacks:Bool):Rv:={ s:=⟨0,[],[]⟩,cap:=size,shift:=shift,edge:=(Rv.window ⟨⟨0,[],[]⟩,size,shift,0,0,stamps,sacks,-1,false,[],irs,own,false⟩),recent:=0,stamps:=stamps,sacks:=sacks,fin:=-1,dn:=false,first:=[],irs:=irs,own:=own,stamp:=false}
def dfI (a b:Int):Int:=(b-a+2147483648) % 4294967296-2147483648
def adI (a n:Int):Int:=(a+n) % 4294967296
def offI (r:Rv) (g:Sg):Int:=r.s.n+dfI (r.s.n % 4294967296) (adI g.seq (-r.irs))
def lateEnd (s:Rx):Int:=match s.l.getLast? with|none=>s.n|some p=>pend p
def oldB (r:Rv) (g:Sg):Bool:=r.stamps&&r.stamp&&decide (dfI r.recent g.val<0)
def stampR (r:Rv) (g:Sg):Rv:=if r.stamps=true∧offI r g≤r.s.n then { r with recent:=g.val,stamp:=true} else r
def finI (r:Rv) (g:Sg):Int:=if g.isFin=true∧r.fin<0∧lateEnd r.s≤offI r g+(g.ds.length:Int)∧offI r g+(g.ds.length:Int)≤r.limit then offI r g+(g.ds.length:Int) else r.fin
def hiI (r:Rv) (g:Sg):Int:=if 0≤finI r g then minJ r.limit (finI r g) else r.limit
def takeR (r:Rv) (g:Sg):Rx×Bool:=takeGo r.s.n (hiI r g) g.ds (offI r g) r.s false
def lastGo (l:List Pc):List Int→Int→Int→Int
 | [],_,a=>a
 | _::r,x,a=>lastGo l r (x+1) (if hasL l x=none then a else x)
def headSpan (l:List Pc) (ds:List Int) (x:Int):Int×Int:=if lastGo l ds x (-1)<0 then (0,0) else (lastGo l ds x (-1),lastGo l ds x (-1)+1)
def intoR (r:Rv) (g:Sg):Rv :=
 { stampR r g with s:=(takeR r g).1,fin:=finI r g,dn:=decide (finI r g=(takeR r g).1.n),first:=firstsL (takeR r g).1.l (headSpan (takeR r g).1.l g.ds (offI r g)::r.first)}
def inR (r:Rv) (g:Sg):Rv:=if r.stamps=true∧g.stamped=false then r else if oldB r g=true then tellR r else tellR (intoR r g)
def inB (r:Rv) (g:Sg):Bool := !(r.stamps && !g.stamped)
def rdN (r:Rv) (n:Int):Nat:=(minJ (maxJ n 0) (r.s.u.length:Int)).toNat
def cutR (r:Rv) (n:Int):Rv:={ r with s:=⟨r.s.n,r.s.u.drop (rdN r n),r.s.l⟩}
def rdB (r:Rv) (n:Int):Bool:=decide (maxJ (r.cap / 2) 1≤(cutR r n).s.n+(cutR r n).window-r.edge)
def readR (r:Rv) (n:Int):Rv:=if rdB r n=true then tellR (cutR r n) else cutR r n
theorem two_pos (k:Nat):(1:Int)≤2 ^ k:=by
 have:(0:Int)<2 ^ k:=Int.pow_pos (by decide)
 omega
theorem div_part {a b:Int} (hb:1≤b):a / b*b≤a∧a-b<a / b*b:=by
 have h1:=Int.emod_add_mul_ediv a b
 have h2:=Int.emod_nonneg a (by omega:b≠0)
 have h3:=Int.emod_lt_of_pos a (by omega:0<b)
 rw [Int.mul_comm] at h1
 omega
theorem window_bd {r:Rv} (h:(r.s.u.length:Int)≤r.cap):0≤r.window∧r.window≤r.cap-(r.s.u.length:Int):=by
 unfold Rv.window
 obtain ⟨u,hu⟩:∃ u,(2:Int) ^ r.shift.toNat=u:=⟨_,rfl⟩
 have h1:=two_pos r.shift.toNat
 rw [hu] at h1 ⊢
 obtain ⟨p1,p2⟩:=div_part (a:=r.cap-(r.s.u.length:Int)) h1
 have hq:0≤(r.cap-(r.s.u.length:Int)) / u:=Int.ediv_nonneg (by omega) (by omega)
 obtain ⟨q,hq'⟩:∃ q,(r.cap-(r.s.u.length:Int)) / u=q:=⟨_,rfl⟩
 rw [hq'] at p1 p2 hq ⊢
 unfold minJ
 split
 · rename_i hlt
   have:65535*u≤q*u:=Int.mul_le_mul_of_nonneg_right (by omega) (by omega)
   omega
 · have:0≤q*u:=Int.mul_nonneg hq (by omega)
   omega
theorem Ok.reach {r:Rv} (h:r.Ok):r.s.n≤r.reach∧r.s.n≤r.limit∧0≤r.s.bot∧r.limit≤r.reach∧r.limit≤farI:=by
 have h1:=h.uc
 have h2:=h.un
 have h3:=h.nf
 obtain ⟨m1,m2,m3⟩:=min_le r.reach farI
 have hb:r.s.bot=r.s.n-(r.s.u.length:Int):=rfl
 have hr:r.reach=r.s.bot+r.cap:=rfl
 have hl:r.limit=minJ r.reach farI:=rfl
 refine ⟨by omega,by omega,by omega,by omega,by omega⟩
theorem tell_ok {r:Rv} (h:r.Ok):(tellR r).Ok∧r.edge≤(tellR r).edge:=by
 obtain ⟨w1,w2⟩:=window_bd h.uc
 obtain ⟨m1,m2,m3⟩:=max_ge r.edge (r.s.n+r.window)
 have hb:r.s.bot=r.s.n-(r.s.u.length:Int):=rfl
 have hr:r.reach=r.s.bot+r.cap:=rfl
 have:=h.er
 have:=h.e0
 have:=h.n0
 refine ⟨{ h with e0:=?_,er:=?_},m1⟩
 · show 0≤maxJ r.edge (r.s.n+r.window);omega
 · show maxJ r.edge (r.s.n+r.window)≤r.reach;omega
theorem late_end {r:Rv} (h:r.Ok):r.s.n≤lateEnd r.s∧∀ p∈r.s.l,pend p≤lateEnd r.s:=by
 have key:∀ {l:List Pc} {lo:Int},latB lo l→(match l.getLast? with|none=>lo|some p=>pend p)≥lo∧∀ p∈l,pend p≤(match l.getLast? with|none=>lo|some p=>pend p):=by
  intro l
  induction l with
  | nil=>intro lo _;exact ⟨Int.le_refl _,fun p hp=>by cases hp⟩
  | cons q r ih =>
   intro lo hl
   have k1:=hl.1
   have k2:=pend_lt hl.2.1
   obtain ⟨g1,g2⟩:=ih hl.2.2
   cases r with
   | nil=>exact ⟨by simp;omega,fun p hp=>by simp at hp;subst hp;simp⟩
   | cons q' r' =>
    have e:(q::q'::r').getLast? = (q'::r').getLast?:=by simp [List.getLast?_cons]
    rw [e]
    obtain ⟨p,hp⟩:∃ p,(q'::r').getLast? = some p:=by simp [List.getLast?_cons]
    rw [hp] at g1 g2 ⊢
    refine ⟨by show pend p≥lo;have:pend p≥pend q:=g1;omega,fun t ht=>?_⟩
    rcases List.mem_cons.1 ht with rfl|ht
    · exact g1
    · exact g2 t ht
 obtain ⟨g1,g2⟩:=key h.lat
 exact ⟨g1,g2⟩
theorem into_ok {r:Rv} {g:Sg} (h:r.Ok):(intoR r g).Ok∧r.s.n≤(intoR r g).s.n∧(intoR r g).s.bot=r.s.bot:=by
 obtain ⟨rr1,rr2,rr3,rr4,rr5⟩:=Ok.reach h
 obtain ⟨le1,le2⟩:=late_end h
 have hbot:=bot_le r.s
 obtain ⟨t1,t2,t3,t4,_⟩:=take_spec (ds:=g.ds) (lo:=r.s.n) (hi:=hiI r g) (x:=offI r g) (f:=false) h.lat hbot
 have hhi:hiI r g≤r.limit∧(0≤finI r g→hiI r g≤finI r g):=by
  unfold hiI
  obtain ⟨m1,m2,_⟩:=min_le r.limit (finI r g)
  split
  · exact ⟨m1,fun _=>m2⟩
  · exact ⟨Int.le_refl _,fun hc=>by omega⟩
 have hb1:below (takeR r g).1 r.limit:=zgp h.lat hbot (below_of rr2 h.lim) hhi.1
 have hfin:finI r g=r.fin∨(r.fin<0∧lateEnd r.s≤finI r g∧finI r g≤r.limit):=by
  unfold finI
  split
  · rename_i hc;exact .inr ⟨hc.2.1,hc.2.2.1,hc.2.2.2⟩
  · exact .inl rfl
 have hf1:=h.f1
 have hff:=h.ff
 have hb2:0≤finI r g→below (takeR r g).1 (finI r g):=fun h0=>by
  refine zgp h.lat hbot (below_of ?_ ?_) (hhi.2 h0)
  · rcases hfin with e|⟨_,e2,_⟩
    · rw [e] at h0 ⊢;exact h.fn h0
    · omega
  · intro p hp
    rcases hfin with e|⟨_,e2,_⟩
    · rw [e] at h0 ⊢;exact h.lfin h0 p hp
    · have:=le2 p hp;omega
 have ebot:(takeR r g).1.bot=r.s.bot:=t2
 have hn1:(takeR r g).1.n≤r.limit:=below_next (by rw [ebot];omega) hb1
 have hn2:0≤finI r g→(takeR r g).1.n≤finI r g:=fun h0=>below_next (by
  rw [ebot]
  rcases hfin with e|⟨_,e2,_⟩
  · have:=h.fn (by omega)
    omega
  · omega) (hb2 h0)
 have hst:(stampR r g).cap=r.cap∧(stampR r g).shift=r.shift∧(stampR r g).edge=r.edge:=by unfold stampR;split<;>exact ⟨rfl,rfl,rfl⟩
 have ecap:(intoR r g).cap=r.cap:=hst.1
 have eshift:(intoR r g).shift=r.shift:=hst.2.1
 have eedge:(intoR r g).edge=r.edge:=hst.2.2
 have ereach:(intoR r g).reach=r.reach:=by
  show (takeR r g).1.bot+(intoR r g).cap=r.s.bot+r.cap
  rw [ebot,ecap]
 have elim:(intoR r g).limit=r.limit:=by
  show minJ (intoR r g).reach farI=minJ r.reach farI
  rw [ereach]
 obtain ⟨q1,q2⟩:=firsts_ok (takeR r g).1.l (headSpan (takeR r g).1.l g.ds (offI r g)::r.first)
 have hu:((takeR r g).1.u.length:Int)=(takeR r g).1.n-r.s.bot:=by
  have:(takeR r g).1.bot=(takeR r g).1.n-((takeR r g).1.u.length:Int):=rfl
  omega
 have hrr:r.reach=r.s.bot+r.cap:=rfl
 have h0:=h.n0
 have t3':r.s.n≤(takeR r g).1.n:=t3
 have nn:∀ p∈(takeR r g).1.l,(takeR r g).1.n<pend p:=fun p hp=>by
  obtain ⟨g1,g2,_⟩:=zg8 (show latB (takeR r g).1.n (takeR r g).1.l from t1) p hp
  omega
 refine ⟨?_,t3,ebot⟩
 constructor
 · show 0≤(takeR r g).1.n;omega
 · show (takeR r g).1.n≤farI;omega
 · rw [ecap];exact h.c1
 · rw [ecap];exact h.cm
 · rw [eshift];exact h.s0
 · rw [eshift];exact h.s14
 · rw [ecap];show ((takeR r g).1.u.length:Int)≤r.cap;omega
 · show ((takeR r g).1.u.length:Int)≤(takeR r g).1.n;omega
 · show -1≤finI r g;rcases hfin with e|⟨_,e2,_⟩<;>omega
 · intro hc;exact hn2 hc
 · show finI r g≤farI;rcases hfin with e|⟨_,_,e3⟩<;>omega
 · rw [eedge];exact h.e0
 · rw [eedge,ereach];exact h.er
 · exact t1
 · rw [elim];exact below_pend t1 hb1
 · intro hc;exact below_pend t1 (hb2 hc)
 · exact q1
 · exact q2
 · rfl
 · intro hd
   have hd':finI r g=(takeR r g).1.n:=of_decide_eq_true hd
   show (takeR r g).1.l=[]
   cases hl:(takeR r g).1.l with
   | nil=>rfl
   | cons p rest =>
    exfalso
    have hm:p∈(takeR r g).1.l:=by rw [hl];exact List.mem_cons_self ..
    have h1:=nn p hm
    have h2:=below_pend t1 (hb2 (by omega)) p hm
    have:(takeR r g).1=(takeGo r.s.n (hiI r g) g.ds (offI r g) r.s false).1:=rfl
    omega
end Go.Proofs.Ytkigcdmlkmcdcaa.Pl
/- What follows of a receiver, in plain mathematics: nothing falls, twice is as once, windows, old stamps. -/
namespace Go.Proofs.Ytkigcdmlkmcdcaa.Pl
set_option linter.unusedVariables false
theorem in_ok {r:Rv} {g:Sg} (h:r.Ok):(inR r g).Ok∧r.s.n≤(inR r g).s.n∧r.edge≤(inR r g).edge∧(inR r g).s.bot=r.s.bot:=by
 unfold inR
 split
 · exact ⟨h,Int.le_refl _,Int.le_refl _,rfl⟩
 · split
   · exact ⟨(tell_ok h).1,Int.le_refl _,(tell_ok h).2,rfl⟩
   · obtain ⟨h1,h2,h3⟩:=into_ok (g:=g) h
     have h4:=tell_ok h1
     have he:(intoR r g).edge=r.edge:=by
      show (stampR r g).edge=r.edge
      unfold stampR;split<;>rfl
     exact ⟨h4.1,h2,by have:=h4.2;omega,h3⟩
theorem zgf (r:Rv) (g:Sg):r.s.n-2147483648≤offI r g∧offI r g≤r.s.n+2147483647:=by unfold offI dfI;omega
theorem cut_len (r:Rv) (n:Int):rdN r n≤r.s.u.length:=by
 obtain ⟨m1,m2,m3⟩:=min_le (maxJ n 0) (r.s.u.length:Int)
 unfold rdN;omega
theorem cut_ok {r:Rv} {n:Int} (h:r.Ok):(cutR r n).Ok∧r.s.bot≤(cutR r n).s.bot∧(cutR r n).s.bot=r.s.bot+(rdN r n:Int):=by
 have hk:=cut_len r n
 have hl:(r.s.u.drop (rdN r n)).length=r.s.u.length-rdN r n:=List.length_drop ..
 have hb:(cutR r n).s.bot=r.s.bot+(rdN r n:Int):=by
  show r.s.n-((r.s.u.drop (rdN r n)).length:Int)=r.s.n-(r.s.u.length:Int)+(rdN r n:Int)
  rw [hl];omega
 have hreach:(cutR r n).reach=r.reach+(rdN r n:Int):=by
  show (cutR r n).s.bot+r.cap=r.s.bot+r.cap+(rdN r n:Int)
  rw [hb];omega
 have hlim:r.limit≤(cutR r n).limit:=by
  show minJ r.reach farI≤minJ (cutR r n).reach farI
  rw [hreach]
  unfold minJ;split<;>split<;>omega
 refine ⟨{ n0:=h.n0,nf:=h.nf,c1:=h.c1,cm:=h.cm,s0:=h.s0,s14:=h.s14,uc:=?_,un:=?_,f1:=h.f1,fn:=h.fn,ff:=h.ff,e0:=h.e0,er:=?_,lat:=h.lat,lim:=?_,lfin:=h.lfin,fst:=h.fst,nod:=h.nod,dn:=h.dn,dl:=h.dl},by omega,hb⟩
 · have:=h.uc
   show ((r.s.u.drop (rdN r n)).length:Int)≤r.cap
   rw [hl];omega
 · have:=h.un
   show ((r.s.u.drop (rdN r n)).length:Int)≤r.s.n
   rw [hl];omega
 · rw [hreach];have:=h.er;show r.edge≤_;omega
 · intro p hp;have:=h.lim p hp;omega
end Go.Proofs.Ytkigcdmlkmcdcaa.Pl
/- IN ORDER, in plain mathematics: whatever parts of a text come, what is handed over is a beginning of it, and all of it once all has come. -/
namespace Go.Proofs.Ytkigcdmlkmcdcaa.Pl
set_option linter.unusedVariables false
structure Good (r:Rv) (text got:List Int) (irs:Int):Prop where
 ok:r.Ok
 kcap:r.cap=1000
 kstm:r.stamps=true
 krec:r.recent=0
 kirs:r.irs=irs
 kbot:r.s.bot=(got.length:Int)
 kgl:got.length≤text.length
 kgot:got=text.take got.length
 kat:∀ z v,r.s.bot≤z→r.s.at z=some v→z<(text.length:Int)∧text[z.toNat]? = some v
 kfin:r.fin=-1∨r.fin=(text.length:Int)
theorem Good.below {r:Rv} {text got:List Int} {irs:Int} (h:Good r text got irs):below r.s (text.length:Int):=fun z v hz hv=>(h.kat z v hz hv).1
theorem Good.next {r:Rv} {text got:List Int} {irs:Int} (h:Good r text got irs):r.s.n≤(text.length:Int):=below_next (by rw [h.kbot];have:=h.kgl;omega) h.below
structure Part (g:Sg) (text:List Int) (irs:Int) (x t:Nat):Prop where
 seq:g.seq=adI irs (x:Int)
 xt:x≤t
 tl:t≤text.length
 small:text.length≤200
 ds:g.ds=(text.take t).drop x
 fin:g.isFin=decide (t=text.length)
 st:g.stamped=true
 val:g.val=0
theorem Part.len {g:Sg} {text:List Int} {irs:Int} {x t:Nat} (h:Part g text irs x t):g.ds.length=t-x:=by
 rw [h.ds,List.length_drop,List.length_take,Nat.min_eq_left h.tl]
end Go.Proofs.Ytkigcdmlkmcdcaa.Pl
/- What the program makes of pieces that come in order: in plain mathematics. -/
namespace Go.Proofs.Ytkigcdmlkmcdcaa.Pl
set_option linter.unusedVariables false
def joinP:List Pc→Pc→List Pc
 | [],p=>[p]
 | [q],p=>if pend q=p.1 then [(q.1,q.2++p.2)] else [q,p]
 | q::q2::r,p=>q::joinP (q2::r) p
def orE (a b:Option Int):Option Int:=match a with|some v=>some v|none=>b
theorem zft {p:Pc} {y:Int}:hasL [p] y=if p.1≤y∧y<pend p then p.2[(y-p.1).toNat]? else none:=by
 unfold hasL;split<;>rfl
theorem join_spec {p:Pc} (hp:0<p.2.length):∀ {l:List Pc} {lo:Int},latB lo l→lo<p.1→(∀ q∈l,pend q≤p.1) →
 latB lo (joinP l p)∧(∀ y,hasL (joinP l p) y=orE (hasL l y) (hasL [p] y))∧(∀ q∈joinP l p,pend q≤pend p)
 | [],lo,h,hl,_=>⟨⟨hl,hp,trivial⟩,fun y=>rfl,fun q hq=>by simp [joinP] at hq;subst hq;exact Int.le_refl _⟩
 | [q],lo,h,hl,hq=>by
  have hqp:=hq q (List.mem_cons_self ..)
  have hpp:=pend_lt hp
  have hqq:=pend_lt h.2.1
  unfold joinP
  by_cases hc:pend q=p.1
  · rw [if_pos hc]
    have e:pend (q.1,q.2++p.2)=pend p:=by unfold pend at hc ⊢;simp;omega
    refine ⟨⟨h.1,by simp;omega,trivial⟩,fun y=>?_,fun x hx=>?_⟩
    · rw [zft,zft,zft,e]
      by_cases h1:q.1≤y∧y<pend q
      · rw [if_pos h1,if_pos ⟨h1.1,by omega⟩]
        have hlt:(y-q.1).toNat<q.2.length:=by unfold pend at h1;omega
        rw [List.getElem?_append_left hlt,List.getElem?_eq_getElem hlt]
        rfl
      · rw [if_neg h1]
        by_cases h2:p.1≤y∧y<pend p
        · rw [if_pos h2,if_pos ⟨by omega,h2.2⟩]
          have hge:q.2.length≤(y-q.1).toNat:=by unfold pend at hc;omega
          rw [List.getElem?_append_right hge]
          show _=p.2[(y-p.1).toNat]?
          congr 1
          unfold pend at hc;omega
        · rw [if_neg h2,if_neg (by omega)];rfl
    · simp at hx;subst hx;rw [e];exact Int.le_refl _
  · rw [if_neg hc]
    refine ⟨⟨h.1,h.2.1,by omega,hp,trivial⟩,fun y=>?_,fun x hx=>?_⟩
    · by_cases h1:q.1≤y∧y<pend q
      · obtain ⟨v,hv⟩:=has_some (r:=[]) h1.1 h1.2
        rw [hv,has_in h1.1 h1.2,← has_in (r:=[]) h1.1 h1.2,hv];rfl
      · rw [has_out (p:=q) (r:=[p]) (by omega),has_out (p:=q) (r:=[]) (by omega)];rfl
    · simp at hx
      rcases hx with rfl|rfl
      · omega
      · exact Int.le_refl _
 | q::q2::r,lo,h,hl,hq=>by
  have hqp:=hq q (List.mem_cons_self ..)
  have hpp:=pend_lt hp
  have hq2:pend q<p.1:=by
   have h1:=h.2.2.1
   have h2:=hq q2 (List.mem_cons_of_mem _ (List.mem_cons_self ..))
   have h3:=pend_lt h.2.2.2.1
   omega
  obtain ⟨i1,i2,i3⟩:=join_spec hp (l:=q2::r) (lo:=pend q) h.2.2 hq2 (fun x hx=>hq x (List.mem_cons_of_mem _ hx))
  refine ⟨⟨h.1,h.2.1,i1⟩,fun y=>?_,fun x hx=>?_⟩
  · show hasL (q::joinP (q2::r) p) y=_
    by_cases h1:q.1≤y∧y<pend q
    · obtain ⟨v,hv⟩:=has_some (r:=q2::r) h1.1 h1.2
      rw [hv,has_in h1.1 h1.2,← has_in (r:=q2::r) h1.1 h1.2,hv];rfl
    · rw [has_out (by omega),has_out (by omega),i2]
  · rcases List.mem_cons.1 hx with rfl|hx
    · omega
    · exact i3 x hx
def disB:Int→List Pc→Prop
 | _,[]=>True
 | lo,p::r=>lo≤p.1∧0<p.2.length∧disB (pend p) r
def mrgGo:List Pc→Rx→Rx
 | [],s=>s
 | p::r,s=>if p.1=s.n then mrgGo r ⟨s.n+(p.2.length:Int),s.u++p.2,s.l⟩ else mrgGo r ⟨s.n,s.u,joinP s.l p⟩
theorem zdc {p:Pc} {r:List Pc} {y:Int}:hasL (p::r) y=orE (hasL [p] y) (hasL r y):=by
 by_cases h1:p.1≤y∧y<pend p
 · obtain ⟨v,hv⟩:=has_some (r:=[]) h1.1 h1.2
   rw [hv,has_in h1.1 h1.2,← has_in (r:=[]) h1.1 h1.2,hv];rfl
 · rw [has_out (p:=p) (r:=r) (by omega),has_out (p:=p) (r:=[]) (by omega)];rfl
theorem zed (a b c:Option Int):orE (orE a b) c=orE a (orE b c):=by cases a<;>rfl
theorem zg6:∀ {ps:List Pc} {lo:Int} {s:Rx},disB lo ps→s.ok→s.n≤lo→(∀ q∈s.l,pend q≤lo)→(s.l≠[]→s.n<lo) →
 (mrgGo ps s).ok∧(mrgGo ps s).bot=s.bot∧∀ y,s.bot≤y→(mrgGo ps s).at y=orE (s.at y) (hasL ps y)
 | [],lo,s,_,hs,_,_,_=>⟨hs,rfl,fun y _=>by
  show s.at y=orE (s.at y) none
  cases s.at y<;>rfl⟩
 | p::r,lo,s,h,hs,hn,hq,hl=>by
  have hp1:=h.1
  have hpp:=pend_lt h.2.1
  unfold mrgGo
  by_cases hc:p.1=s.n
  · rw [if_pos hc]
    have hl0:s.l=[]:=by
     cases hsl:s.l with
     | nil=>rfl
     | cons q l=>have:=hl (by rw [hsl];simp);omega
    have e:s.n+(p.2.length:Int)=pend p:=by unfold pend;omega
    obtain ⟨i1,i2,i3⟩:=zg6 (ps:=r) (lo:=pend p) (s:=⟨s.n+(p.2.length:Int),s.u++p.2,s.l⟩) h.2.2 (by rw [hl0];trivial) (by simp only;omega) (by rw [hl0];intro q hq;cases hq) (by rw [hl0];intro h;exact absurd rfl h)
    have hb:(⟨s.n+(p.2.length:Int),s.u++p.2,s.l⟩:Rx).bot=s.bot:=by unfold Rx.bot;simp;omega
    refine ⟨i1,by rw [i2,hb],fun y hy=>?_⟩
    rw [i3 y (by rw [hb];exact hy),zdc,← zed]
    congr 1
    by_cases h1:y<s.n
    · obtain ⟨v,hv⟩:=zd4 hy h1
      rw [hv]
      show _=some v
      rw [at_un (by rw [hb];exact hy) (by simp only;omega),hb]
      rw [at_un hy h1] at hv
      have hlt:=(List.getElem?_eq_some_iff.1 hv).1
      rw [List.getElem?_append_left hlt,hv]
    · have hz:hasL s.l y=none:=by rw [hl0];rfl
      rw [at_late (s:=s) (by omega),hz]
      show _=hasL [p] y
      by_cases h2:y<pend p
      · rw [at_un (by rw [hb];exact hy) (by simp only;omega),hb,has_in (by omega) h2]
        have hu:(s.u.length:Int)=s.n-s.bot:=by unfold Rx.bot;omega
        rw [List.getElem?_append_right (by omega)]
        congr 1
        omega
      · rw [at_late (by simp only;omega),has_out (.inr (by omega))]
        exact hz
  · rw [if_neg hc]
    have hlt:s.n<p.1:=by omega
    obtain ⟨j1,j2,j3⟩:=join_spec h.2.1 (l:=s.l) (lo:=s.n) hs hlt (fun q hm=>by have:=hq q hm;omega)
    obtain ⟨i1,i2,i3⟩:=zg6 (ps:=r) (lo:=pend p) (s:=⟨s.n,s.u,joinP s.l p⟩) h.2.2 j1 (by simp only;omega) j3 (fun _=>by simp only;omega)
    refine ⟨i1,i2,fun y hy=>?_⟩
    rw [i3 y hy,zdc,← zed]
    congr 1
    by_cases h1:y<s.n
    · obtain ⟨v,hv⟩:=zd4 hy h1
      rw [hv]
      show _=some v
      rw [← hv,at_un hy h1]
      exact at_un (s:=⟨s.n,s.u,joinP s.l p⟩) hy h1
    · rw [at_late (s:=s) (by omega),at_late (s:=⟨s.n,s.u,joinP s.l p⟩) (by simp only;omega)]
      exact j2 y
end Go.Proofs.Ytkigcdmlkmcdcaa.Pl
/- Two rows of pieces in one order: in plain mathematics. -/
namespace Go.Proofs.Ytkigcdmlkmcdcaa.Pl
set_option linter.unusedVariables false
def bothN:Nat→List Pc→List Pc→List Pc
 | 0,_,_=>[]
 | k+1,[],[]=>[]
 | k+1,[],q::r=>q::bothN k r []
 | k+1,p::l,[]=>p::bothN k l []
 | k+1,p::l,q::r=>if q.1<p.1 then q::bothN k r (p::l) else p::bothN k l (q::r)
def apart (a b:List Pc):Prop:=∀ y,hasL a y=none∨hasL b y=none
theorem apart.symm {a b:List Pc} (h:apart a b):apart b a:=fun y=>(h y).symm
theorem orE_comm {a b:Option Int} (h:a=none∨b=none):orE a b=orE b a:=by
 rcases h with rfl|rfl
 · cases b<;>rfl
 · cases a<;>rfl
theorem zg5 (a:Option Int):orE a none=a:=by cases a<;>rfl
theorem disB.mono {lo lo':Int}:∀ {l:List Pc},disB lo l→lo'≤lo→disB lo' l
 | [],_,_=>trivial
 | p::r,h,hl=>⟨by have:=h.1;omega,h.2⟩
theorem lat_dis:∀ {l:List Pc} {lo:Int},latB lo l→disB lo l
 | [],_,_=>trivial
 | p::r,lo,h=>⟨by have:=h.1;omega,h.2.1,lat_dis h.2.2⟩
theorem apart.tail {p:Pc} {l b:List Pc} {lo:Int} (hd:disB lo (p::l)) (h:apart (p::l) b):apart l b:=fun y=>by
 rcases h y with h1|h1
 · rw [zdc] at h1
   left
   cases hx:hasL [p] y with
   | none=>rw [hx] at h1;exact h1
   | some v=>rw [hx] at h1;cases h1
 · exact .inr h1
theorem apart.ends {p q:Pc} {l r:List Pc} (hp:0<p.2.length) (hq:0<q.2.length) (h:apart (p::l) (q::r)) (hle:p.1≤q.1):pend p≤q.1:=by
 by_cases hc:pend p≤q.1
 · exact hc
 · obtain ⟨v,hv⟩:=has_some (p:=p) (r:=l) hle (by omega)
   obtain ⟨u,hu⟩:=has_some (p:=q) (r:=r) (Int.le_refl q.1) (pend_lt hq)
   rcases h q.1 with h1|h1
   · rw [hv] at h1;cases h1
   · rw [hu] at h1;cases h1
theorem zdf:∀ {k:Nat} {a b:List Pc} {lo:Int},a.length+b.length≤k→disB lo a→disB lo b→apart a b →
 disB lo (bothN k a b)∧∀ y,hasL (bothN k a b) y=orE (hasL a y) (hasL b y)
 | 0,a,b,lo,hk,ha,hb,hab=>by
  obtain rfl:a=[]:=List.length_eq_zero_iff.1 (by omega)
  obtain rfl:b=[]:=List.length_eq_zero_iff.1 (by omega)
  exact ⟨trivial,fun y=>rfl⟩
 | k+1,[],[],lo,hk,ha,hb,hab=>⟨trivial,fun y=>rfl⟩
 | k+1,[],q::r,lo,hk,ha,hb,hab=>by
  obtain ⟨i1,i2⟩:=zdf (k:=k) (a:=r) (b:=[]) (lo:=pend q) (by simp at hk ⊢;omega) hb.2.2 trivial (fun y=>.inr rfl)
  refine ⟨⟨hb.1,hb.2.1,i1⟩,fun y=>?_⟩
  show hasL (q::bothN k r []) y=hasL (q::r) y
  rw [zdc,i2,zdc (r:=r)]
  show orE _ (orE (hasL r y) none)=_
  rw [zg5]
 | k+1,p::l,[],lo,hk,ha,hb,hab=>by
  obtain ⟨i1,i2⟩:=zdf (k:=k) (a:=l) (b:=[]) (lo:=pend p) (by simp at hk ⊢;omega) ha.2.2 trivial (fun y=>.inr rfl)
  refine ⟨⟨ha.1,ha.2.1,i1⟩,fun y=>?_⟩
  show hasL (p::bothN k l []) y=orE (hasL (p::l) y) none
  rw [zdc,i2,zdc (r:=l),zg5]
  show orE _ (orE (hasL l y) none)=_
  rw [zg5]
 | k+1,p::l,q::r,lo,hk,ha,hb,hab=>by
  unfold bothN
  by_cases hc:q.1<p.1
  · rw [if_pos hc]
    have he:=apart.ends hb.2.1 ha.2.1 hab.symm (by omega)
    obtain ⟨i1,i2⟩:=zdf (k:=k) (a:=r) (b:=p::l) (lo:=pend q) (by simp at hk ⊢;omega) hb.2.2 ⟨he,ha.2⟩ (apart.tail hb hab.symm)
    refine ⟨⟨hb.1,hb.2.1,i1⟩,fun y=>?_⟩
    rw [zdc,i2,← zed,← zdc]
    exact orE_comm (hab.symm y)
  · rw [if_neg hc]
    have he:=apart.ends ha.2.1 hb.2.1 hab (by omega)
    obtain ⟨i1,i2⟩:=zdf (k:=k) (a:=l) (b:=q::r) (lo:=pend p) (by simp at hk ⊢;omega) ha.2.2 ⟨he,hb.2⟩ (apart.tail ha hab)
    refine ⟨⟨ha.1,ha.2.1,i1⟩,fun y=>?_⟩
    rw [zdc,i2,← zed,← zdc]
theorem fill_spec {s:Rx} {fr:List Pc} {k:Nat} (hs:s.ok) (hk:s.l.length+fr.length≤k) (hf:disB s.n fr) (ha:apart s.l fr) :
 (mrgGo (bothN k s.l fr) ⟨s.n,s.u,[]⟩).ok∧(mrgGo (bothN k s.l fr) ⟨s.n,s.u,[]⟩).bot=s.bot∧∀ y,s.bot≤y→(mrgGo (bothN k s.l fr) ⟨s.n,s.u,[]⟩).at y=orE (s.at y) (hasL fr y):=by
 obtain ⟨h1,h2⟩:=zdf (k:=k) hk (lat_dis hs) hf ha
 obtain ⟨i1,i2,i3⟩:=zg6 (lo:=s.n) (s:=⟨s.n,s.u,[]⟩) h1 trivial (Int.le_refl _) (fun q hq=>by cases hq) (fun h=>absurd rfl h)
 refine ⟨i1,i2,fun y hy=>?_⟩
 rw [i3 y hy,h2]
 by_cases hn:y<s.n
 · obtain ⟨v,hv⟩:=zd4 hy hn
   rw [hv]
   have:(⟨s.n,s.u,[]⟩:Rx).at y=some v:=by rw [← hv,at_un hy hn];exact at_un (s:=⟨s.n,s.u,[]⟩) hy hn
   rw [this];rfl
 · rw [at_late (s:=s) (by omega),at_late (s:=⟨s.n,s.u,[]⟩) (by simp only;omega)]
   rfl
end Go.Proofs.Ytkigcdmlkmcdcaa.Pl
/- The fresh pieces of a segment: the gaps of what is there, with the segment's bytes: in plain mathematics. -/
namespace Go.Proofs.Ytkigcdmlkmcdcaa
set_option linter.unusedVariables false
theorem zc4:∀ {l:List Pl.Pc} {lo:Int},Pl.latB lo l→(∀ p∈l,Pl.pend p≤1125899906842624)→chk lo (Pl.spansL l)=true
 | [],_,_,_=>rfl
 | p::r,lo,h,hm=>by
  have h1:=hm p (List.mem_cons_self ..)
  have h2:=Pl.pend_lt h.2.1
  exact zbt.2 ⟨⟨h.1,h2,h1⟩,zc4 h.2.2 (fun q hq=>hm q (List.mem_cons_of_mem _ hq))⟩
theorem zc3 {y:Int}:∀ {l:List Pl.Pc},Has (Pl.spansL l) y↔Pl.hasL l y≠none
 | []=>by constructor
          · intro h;exact absurd h (zd1 y)
          · intro h;exact absurd rfl h
 | p::r=>by
  show Has ((p.1,Pl.pend p)::Pl.spansL r) y↔_
  rw [zcu,zc3]
  by_cases h:p.1≤y∧y<Pl.pend p
  · obtain ⟨v,hv⟩:=Pl.has_some (r:=r) h.1 h.2
    rw [hv]
    exact ⟨fun _=>by simp,fun _=>.inl h⟩
  · rw [Pl.has_out (p:=p) (r:=r) (by omega)]
    constructor
    · rintro (h'|h')
      · exact absurd h' h
      · exact h'
    · exact .inr
def frP (x:Int) (ds:List Int) (g:Tm):Pl.Pc:=(g.1,(ds.take (g.2-x).toNat).drop (g.1-x).toNat)
theorem fr_len {x:Int} {ds:List Int} {g:Tm} (h1:x≤g.1) (h2:g.1<g.2) (h3:g.2≤x+(ds.length:Int)):((frP x ds g).2.length:Int)=g.2-g.1:=by
 unfold frP;simp only [List.length_drop,List.length_take];omega
theorem zhd {x:Int} {ds:List Int} {g:Tm} (h1:x≤g.1) (h2:g.1<g.2) (h3:g.2≤x+(ds.length:Int)):Pl.pend (frP x ds g)=g.2:=by
 have:=fr_len h1 h2 h3
 unfold Pl.pend;rw [this];show g.1+_=_;omega
theorem zdd {x:Int} {ds:List Int} {y:Int}:∀ {gs:List Tm},(∀ g∈gs,x≤g.1∧g.1<g.2∧g.2≤x+(ds.length:Int))→(Pl.hasL (gs.map (frP x ds)) y≠none↔Has gs y)
 | [],_=>⟨fun h=>absurd rfl h,fun h=>absurd h (zd1 y)⟩
 | g::r,hg=>by
  obtain ⟨h1,h2,h3⟩:=hg g (List.mem_cons_self ..)
  have ih:=zdd (y:=y) (gs:=r) (fun q hq=>hg q (List.mem_cons_of_mem _ hq))
  have hp:=zhd h1 h2 h3
  rw [zcu,← ih]
  show Pl.hasL (frP x ds g::r.map (frP x ds)) y≠none↔_
  by_cases h:g.1≤y∧y<g.2
  · obtain ⟨v,hv⟩:=Pl.has_some (p:=frP x ds g) (r:=r.map (frP x ds)) h.1 (by rw [hp];exact h.2)
    rw [hv]
    exact ⟨fun _=>.inl h,fun _=>by simp⟩
  · rw [Pl.has_out (p:=frP x ds g) (by rw [hp];show y<g.1∨g.2≤y;omega)]
    constructor
    · exact .inr
    · rintro (h'|h')
      · exact absurd h' h
      · exact h'
theorem zgi {x:Int} {ds:List Int} {y v:Int}:∀ {gs:List Tm},(∀ g∈gs,x≤g.1∧g.1<g.2∧g.2≤x+(ds.length:Int))→Pl.hasL (gs.map (frP x ds)) y=some v→ds[(y-x).toNat]? = some v
 | [],_,h=>by cases h
 | g::r,hg,h=>by
  obtain ⟨h1,h2,h3⟩:=hg g (List.mem_cons_self ..)
  have hp:=zhd h1 h2 h3
  have h':Pl.hasL (frP x ds g::r.map (frP x ds)) y=some v:=h
  by_cases hc:g.1≤y∧y<g.2
  · rw [Pl.has_in (p:=frP x ds g) hc.1 (by rw [hp];exact hc.2)] at h'
    have e:(frP x ds g).2[(y-(frP x ds g).1).toNat]? = ds[(y-x).toNat]?:=by
     show ((ds.take (g.2-x).toNat).drop (g.1-x).toNat)[(y-g.1).toNat]? = _
     rw [List.getElem?_drop,List.getElem?_take,if_pos (by omega)]
     congr 1;omega
    rw [← e];exact h'
  · rw [Pl.has_out (p:=frP x ds g) (by rw [hp];show y<g.1∨g.2≤y;omega)] at h'
    exact zgi (fun q hq=>hg q (List.mem_cons_of_mem _ hq)) h'
theorem zfv {x:Int} {ds:List Int}:∀ {gs:List Tm} {e:Int},chk e gs=true→(∀ g∈gs,x≤g.1∧g.1<g.2∧g.2≤x+(ds.length:Int))→Pl.disB (e+1) (gs.map (frP x ds))
 | [],_,_,_=>trivial
 | g::r,e,hc,hg=>by
  obtain ⟨h1,h2,h3⟩:=hg g (List.mem_cons_self ..)
  obtain ⟨⟨c1,c2,c3⟩,c4⟩:=zbt.1 hc
  have hp:=zhd h1 h2 h3
  have hl:=fr_len h1 h2 h3
  refine ⟨show e+1≤g.1 by omega,by omega,?_⟩
  rw [hp]
  exact (zfv c4 (fun q hq=>hg q (List.mem_cons_of_mem _ hq))).mono (by omega)
theorem fill_take {s:Pl.Rx} {ds:List Int} {x hi:Int} {k:Nat} (hs:s.ok) (hm:∀ p∈s.l,Pl.pend p≤1125899906842624) (hh:hi≤1125899906842624)
 (hk:s.l.length+(gapsL (Pl.spansL s.l) (Pl.maxJ x s.n) (Pl.minJ (x+(ds.length:Int)) hi)).length≤k) :
 Pl.mrgGo (Pl.bothN k s.l ((gapsL (Pl.spansL s.l) (Pl.maxJ x s.n) (Pl.minJ (x+(ds.length:Int)) hi)).map (frP x ds))) ⟨s.n,s.u,[]⟩=(Pl.takeGo s.n hi ds x s false).1
  ∧ ((gapsL (Pl.spansL s.l) (Pl.maxJ x s.n) (Pl.minJ (x+(ds.length:Int)) hi))=[]↔(Pl.takeGo s.n hi ds x s false).2=false):=by
 have hc:=zc4 hs hm
 have hmx:=Pl.max_ge x s.n
 have hmn:=Pl.min_le (x+(ds.length:Int)) hi
 have hG:∀ o,Has (gapsL (Pl.spansL s.l) (Pl.maxJ x s.n) (Pl.minJ (x+(ds.length:Int)) hi)) o↔Pl.maxJ x s.n≤o∧o<Pl.minJ (x+(ds.length:Int)) hi∧¬Has (Pl.spansL s.l) o:=fun o=>ze8 hc
 have hGc:=zfa (f:=Pl.maxJ x s.n) (t:=Pl.minJ (x+(ds.length:Int)) hi) hc (by omega)
 have hGp:∀ g∈gapsL (Pl.spansL s.l) (Pl.maxJ x s.n) (Pl.minJ (x+(ds.length:Int)) hi),g.1<g.2:=ze9
 obtain ⟨gs,hgs⟩:∃ gs,gapsL (Pl.spansL s.l) (Pl.maxJ x s.n) (Pl.minJ (x+(ds.length:Int)) hi)=gs:=⟨_,rfl⟩
 rw [hgs] at hG hGc hGp hk ⊢
 have hin:∀ g∈gs,x≤g.1∧g.1<g.2∧g.2≤x+(ds.length:Int):=fun g hg=>by
  have h1:=hGp g hg
  have h2:=(hG g.1).1 ⟨g,hg,Int.le_refl _,h1⟩
  have h3:=(hG (g.2-1)).1 ⟨g,hg,by omega,by omega⟩
  omega
 have hdis:Pl.disB s.n (gs.map (frP x ds)):=(zfv hGc hin).mono (by omega)
 have hap:Pl.apart s.l (gs.map (frP x ds)):=fun y=>by
  cases h1:Pl.hasL s.l y with
  | none=>exact .inl rfl
  | some v =>
   right
   cases h2:Pl.hasL (gs.map (frP x ds)) y with
   | none=>rfl
   | some u =>
    have h3:=(zdd hin).1 (show Pl.hasL (gs.map (frP x ds)) y≠none by rw [h2];simp)
    exact absurd (zc3.2 (by rw [h1];simp)) ((hG y).1 h3).2.2
 obtain ⟨f1,f2,f3⟩:=Pl.fill_spec (k:=k) hs (by simpa using hk) hdis hap
 obtain ⟨t1,t2,t3,t4,t5⟩:=Pl.take_spec (ds:=ds) (lo:=s.n) (hi:=hi) (x:=x) (f:=false) hs (Pl.bot_le s)
 have hcame:∀ y,s.bot≤y→s.at y=none→Pl.hasL (gs.map (frP x ds)) y=Pl.came s.n hi x ds y:=fun y hb hy=>by
  obtain ⟨a1,a2⟩:=(Pl.at_none_iff hb).1 hy
  have hnh:¬Has (Pl.spansL s.l) y:=fun h=>zc3.1 h a2
  unfold Pl.came
  by_cases hc2:s.n≤y∧y<hi∧x≤y∧y<x+(ds.length:Int)
  · rw [if_pos hc2]
    have hh2:Has gs y:=(hG y).2 ⟨by omega,by omega,hnh⟩
    cases h2:Pl.hasL (gs.map (frP x ds)) y with
    | none=>exact absurd h2 ((zdd hin).2 hh2)
    | some u=>exact (zgi hin h2).symm
  · rw [if_neg hc2]
    cases h2:Pl.hasL (gs.map (frP x ds)) y with
    | none=>rfl
    | some u =>
     have h3:=(hG y).1 ((zdd hin).1 (show Pl.hasL (gs.map (frP x ds)) y≠none by rw [h2];simp))
     exact absurd ⟨a1,by omega,by omega,by omega⟩ hc2
 constructor
 · refine Pl.rx_eq f1 t1 (by rw [f2,t2]) (fun y hy=>?_)
   rw [f2] at hy
   rw [f3 y hy,t4 y hy]
   cases hsy:s.at y with
   | some v=>rfl
   | none=>rw [hcame y hy hsy];cases Pl.came s.n hi x ds y<;>rfl
 · constructor
   · intro h0
     cases hb:(Pl.takeGo s.n hi ds x s false).2 with
     | false=>rfl
     | true =>
      rcases t5.1 hb with h|⟨z,z1,z2,z3⟩
      · cases h
      · rw [← hcame z z1 z2,h0] at z3
        exact absurd rfl z3
   · intro h0
     cases hg0:gs with
     | nil=>rfl
     | cons g r =>
      have hgm:g∈gs:=by rw [hg0];exact List.mem_cons_self ..
      have h1:=hGp g hgm
      have hH:Has gs g.1:=⟨g,hgm,Int.le_refl _,h1⟩
      have h2:=(hG g.1).1 hH
      have hb:s.bot≤g.1:=by have:=Pl.bot_le s;omega
      have hn:s.at g.1=none:=(Pl.at_none_iff hb).2 ⟨by omega,by
       cases hx:Pl.hasL s.l g.1 with
       | none=>rfl
       | some v=>exact absurd (zc3.2 (by rw [hx];simp)) h2.2.2⟩
      have h3:=t5.2 (.inr ⟨g.1,hb,hn,by rw [← hcame g.1 hb hn];exact (zdd hin).2 hH⟩)
      rw [h0] at h3;cases h3
end Go.Proofs.Ytkigcdmlkmcdcaa
