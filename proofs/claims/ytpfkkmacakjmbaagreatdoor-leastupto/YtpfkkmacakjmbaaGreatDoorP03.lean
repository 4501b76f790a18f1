import Derived.Test.YtpfkkmacakjmbaaGreatDoorP02
set_option maxRecDepth 100000
set_option maxHeartbeats 6400000
namespace Go.Proofs.YtpfkkmacakjmbaaGreatDoor
namespace Sp
structure Fm where
 q:Nat
 pc:Nat
 stk:List V
 loc:List V
structure Mv where
 fr:List Fm
 ev:Ev
inductive SR where
 |go (m:Mv)
 |bad (e:Nat) (out:List UInt8)
 |fin (v:V) (out:List UInt8)
inductive Rch (hp:List Ob) (roots:Nat→Prop):Nat→Prop where
 |root (k:Nat) (h:roots k):Rch hp roots k
 |field (j k:Nat) (ob:Ob) (h:Rch hp roots j) (hj:hp[j]?=some ob) (hk:V.o k∈ob.fs):Rch hp roots k
noncomputable def Ae (hp:List Ob) (roots:Nat→Prop):Nat:=
 (((List.range hp.length).filter (fun k=> @decide (Rch hp roots k) (Classical.propDecidable _))).map (fun k=>1+((hp[k]?.map (·.fs)).getD []).length)).sum
def t8 (vs:List V) (ts:List UInt8):List V:=((vs.zip ts).filter (fun p=>decide (p.2.toNat≠45))).map (·.1)
abbrev eJ:=List (List St)
def yQ (T:eJ) (q pc:Nat):St:=((T[q]?.getD [])[pc]?).getD none
def Af (T:eJ) (f:Fm):List V:=match yQ T f.q f.pc with
 |some (s,l)=>t8 f.stk s++t8 f.loc l
 |none=> []
def Ag (T:eJ) (fr:List Fm) (k:Nat):Prop:= ∃f∈fr,V.o k∈Af T f
section
variable (im:Img) (inp:ByteArray) (T:eJ) (cells:Nat)
def AU (q pc:Nat):Option Ins:=(im.bodies[q]?).bind fun b=>b.code[pc]?
def Fm.on (f:Fm) (stk:List V):Fm:={f with pc:=f.pc+1,stk:=stk}
def er (s:List V):V:=s.getD (s.length-1) .z
def o9 (s:List V):V:=s.getD (s.length-2) .z
def cO (s:List V):List V:=s.take (s.length-1)
def jD (s:List V):List V:=s.take (s.length-2)
noncomputable def iD (x:Ins) (f:Fm) (rest:List Fm) (s:Ev):SR:=
 if x.op.toNat=107 then .go ⟨f.on (f.stk++ [.i x.b])::rest,s⟩
 else if x.op.toNat=114 then .go ⟨f.on (f.stk++ [.i (qA inp s.read)])::rest,{s with read:=s.read+1}⟩
 else if x.op.toNat=119 then .go ⟨f.on (cO f.stk)::rest,s.say (er f.stk).N⟩
 else if x.op.toNat=122 then .go ⟨f.on (f.stk++ [.z])::rest,s⟩
 else if x.op.toNat=100 then .go ⟨f.on (cO f.stk)::rest,s⟩
 else if x.op.toNat=108 then .go ⟨f.on (f.stk++ [f.loc.getD x.b .z])::rest,s⟩
 else if x.op.toNat=115 then .go ⟨{f.on (cO f.stk)with loc:=f.loc.set x.b (er f.stk)}::rest,s⟩
 else if x.op.toNat=106 then .go ⟨{f with pc:=x.b}::rest,s⟩
 else if x.op.toNat=102 then .go ⟨{f with stk:=cO f.stk,pc:=if(er f.stk).N=0 then x.b else f.pc+1}::rest,s⟩
 else if x.op.toNat=101 then .go ⟨f.on (jD f.stk++ [if o9 f.stk=er f.stk then .i 1 else .i 0])::rest,s⟩
 else if x.op.toNat=110 then
  if Ae s.heap (Ag T (f::rest))+1+(ij im.classes x.a).length>cells then .bad 9 s.out
  else .go ⟨f.on (f.stk++ [.o s.heap.length])::rest,{s with heap:=s.heap++ [⟨x.a,ij im.classes x.a⟩]}⟩
 else if x.op.toNat=120 then
  match er f.stk with
  | .o k=>if bq im.classes 5 (s.cls k) x.a=true then .go ⟨f.on f.stk::rest,s⟩else .bad 8 s.out
  |_=> .go ⟨f.on f.stk::rest,s⟩
 else if x.op.toNat=103 then
  match er f.stk with
  | .o k=> .go ⟨f.on (cO f.stk++ [(s.fs k).getD x.b .z])::rest,s⟩
  |_=> .bad 6 s.out
 else if x.op.toNat=112 then
  match o9 f.stk with
  | .o k=> .go ⟨f.on (jD f.stk)::rest,s.put k x.b (er f.stk)⟩
  |_=> .bad 6 s.out
 else if x.op.toNat=99 then
  match o9 f.stk with
  | .o k=>if 12≤rest.length+1 then .bad 10 s.out
   else .go ⟨⟨(cq im.classes im.bodies x.b 5 (s.cls k)).toNat,0,[],bP (cW im x k s) [.o k,er f.stk]⟩::{f with stk:=jD f.stk}::rest,s⟩
  |_=> .bad 6 s.out
 else if x.op.toNat=116 then
  match rest with
  | []=> .fin (er f.stk) s.out
  |g::r=> .go ⟨g.on (g.stk++ [er f.stk])::r,s⟩
 else match fe x.op.toNat (o9 f.stk).N (er f.stk).N [] s with
  | .bad e o=> .bad e o
  | .ok v _ s=> .go ⟨f.on (jD f.stk++ [v])::rest,s⟩
noncomputable def jE (m:Mv):SR:=match m.fr with
 | []=> .bad 0 m.ev.out
 |f::rest=>match AU im f.q f.pc with
  |none=> .bad 0 m.ev.out
  |some x=>iD im inp T cells x f rest m.ev
noncomputable def qD:Nat→Mv→List UInt8×Int×Nat
 |0,m=>(m.ev.out,0,5)
 |n+1,m=>match jE im inp T cells m with
  | .go m=>qD n m
  | .bad e o=>(o,0,e)
  | .fin v o=>(o,v.N,0)
noncomputable def sH (fuel:Nat):List UInt8×Int×Nat:=
 qD im inp T cells fuel ⟨[⟨im.bodies.length-1,0,[],bP (im.bodies.getD (im.bodies.length-1) ⟨-1,-1,[],[]⟩) []⟩],⟨[],0,0,[]⟩⟩
end
structure WfN (cs:List Cls) (ns nl:Nat) (x:Ins):Prop where
 op:cV.contains x.op.toNat=true
 pos:x.pos≤2000
 cls:x.op.toNat=110∨x.op.toNat=120∨x.op.toNat=103∨x.op.toNat=112∨x.op.toNat=99→x.a<cs.length
 fld:x.op.toNat=103∨x.op.toNat=112→x.b<bU cs x.a
 sig:x.op.toNat=99→x.b<ns
 loc:x.op.toNat=108∨x.op.toNat=115→x.b<nl
 num:x.b<100
structure jy (cs:List Cls) (gs:List Sig) (b:Bod):Prop where
 code: ∀x∈b.code,WfN cs gs.length b.locals.length x
 full:full 1 b.code
 len:b.code.length≤24
 loc:b.locals.length≤5∧ ∀t∈b.locals,ce cs.length t=true
 cls:(b.cls= -1∧b.meth= -1)∨(0≤b.cls∧b.cls<cs.length∧0≤b.meth∧b.meth<gs.length)
structure gR (im:Img):Prop where
 cls:WfC im.classes
 nc:im.classes.length≤4
 ns:im.sigs.length≤3
 sig: ∀g∈im.sigs,ce im.classes.length g.arg=true∧ce im.classes.length g.ret=true
 bod: ∀b∈im.bodies,jy im.classes im.sigs b
 nb:im.bodies.length≤7
theorem iR {c:UInt8} (h:bu c=true):48≤c.toNat∧c.toNat≤57:=by simpa[bu]using h
theorem yR {s:ByteArray} {cs:List Cls} {ns nl i:Nat} {x:Ins} {j:Nat} (hs:s.size≤2000) (h:kR s cs ns nl i= .ok (x,j)):WfN cs ns nl x:=by
 unfold kR at h
 split at h
 ·rename_i hl
  split at h
  ·rename_i a b l ho
   cases h
   have hp:i<s.size:=fg (by
    rcases Nat.eq_zero_or_pos (pk s i).toNat with h|h
    ·rw[h]at hl;exact absurd hl (by decide)
    ·exact h)
   by_cases hd:bu (pk s i)=true
   ·have hr:=iR hd;refine⟨hl,by simp;omega,?_,?_,?_,?_,?_⟩
    all_goals simp only[hd,if_true]
    all_goals (intros;omega)
   ·refine⟨hl,by simp;omega,?_,?_,?_,?_,?_⟩
    all_goals simp only[hd,if_false,Bool.false_eq_true]
    all_goals
     unfold aY at ho
     repeat' split at ho
    all_goals first
     | (cases ho;done)
     |skip
    all_goals (intros;first|omega|skip)
    all_goals (cases ho;first|omega| (have:=ed ‹_›;omega) | (have:=jl ‹_›;omega) | (have h1:=ed ‹de s 10 (i+1)=_›;have h2:=ed ‹de s 10 _=Except.ok (_,j)›;omega))
  ·cases h
 ·cases h
theorem uu {s:ByteArray} {cs:List Cls} {ns nl:Nat} (hs:s.size≤2000): ∀{k:Nat} {t:List Ins} {m i:Nat} {r:List Ins} {j:Nat},(∀x∈t,WfN cs ns nl x)→dB s cs ns nl k t m i= .ok (r,j)→ ∀x∈r,WfN cs ns nl x:=by
 intro k
 induction k with
 |zero=>
  intro t m i r j hw h
  cases m with
  |zero=>cases h;exact hw
  |succ m=>cases h
 |succ k ih=>
  intro t m i r j hw h
  cases m with
  |zero=>cases h;exact hw
  |succ m=>
   simp only[dB]at h
   cases hx:kR s cs ns nl i with
   |error l=>rw[hx]at h;cases h
   |ok y=>
    rw[hx]at h
    exact ih (fun z hz=>by
     rcases List.mem_append.1 hz with hz|hz
     ·exact hw z hz
     ·simp at hz;subst hz;exact yR hs hx) h
theorem qE {s:ByteArray} {cs:List Cls} {ns nl i:Nat} {r:List Ins} {j:Nat} (hs:s.size≤2000) (h:lp s cs ns nl i= .ok (r,j)):(∀x∈r,WfN cs ns nl x)∧full 1 r∧r.length≤24:=by
 unfold lp at h
 split at h
 ·cases h
 ·rename_i t l hn
  split at h
  ·cases h
   obtain⟨u,h1,h2,h3⟩:=qz hn;simp at h1;subst h1;exact⟨uu hs (by simp) hn,h2,h3⟩
  ·cases h
theorem yS {s:ByteArray} {cs:List Cls} {gs:List Sig} (hs:s.size≤2000) (hn:cs.length≤4) (hg: ∀g∈gs,ce cs.length g.arg=true∧ce cs.length g.ret=true): ∀{k:Nat} {bs:List Bod} {i:Nat} {r:List Bod} {j:Nat},(∀b∈bs,jy cs gs b)→jx s cs gs k bs i= .ok (r,j)→(∀b∈r,jy cs gs b)∧r.length≤k+bs.length:=by
 intro k
 induction k with
 |zero=>
  intro bs i r j hw h;unfold jx at h
  split at h
  ·cases h;exact⟨hw,by omega⟩
  ·cases h
 |succ k ih=>
  intro bs i r j hw h;unfold jx at h
  split at h
  ·cases h;exact⟨hw,by omega⟩
  ·split at h
   ·cases h
   ·rename_i x l1 h1
    split at h
    ·cases h
    ·rename_i m l2 h2
     split at h
     ·cases h
     ·split at h
      ·cases h
      ·rename_i t l3 h3
       split at h
       ·cases h
       ·rename_i is l4 h4
        have hx:=jl h1;have hm:=ed h2;have ht:=fZ h3;have ha:=j8 (by simp) h3;have hc:=qE hs h4
        have:=ih (fun b hb=>by
         rcases List.mem_append.1 hb with hb|hb
         ·exact hw b hb
         ·rw[List.mem_singleton]at hb;subst hb;refine⟨by simpa using hc.1,hc.2.1,hc.2.2,⟨by simp at ht⊢;omega,?_⟩,Or.inr ⟨by simp,by simp;omega,by simp,by simp;omega⟩⟩;intro c a0;rw[List.mem_cons,List.mem_cons]at a0;rcases a0 with rfl|rfl|a0
          ·exact mh hx hn
          ·unfold gM;rw[List.getElem?_eq_getElem (by omega)];exact(hg _ (List.getElem_mem _)).1
          ·exact ha c a0) h
        simp at this;exact⟨this.1,by omega⟩
theorem qF {s:ByteArray} {im:Img} (hs:s.size≤2000) (h:gh s= .ok im):gR im:=by
 unfold gh at h
 split at h
 ·cases h
 ·rename_i cs l1 h1
  split at h
  ·cases h
  ·rename_i gs l2 h2
   split at h
   ·cases h
   ·rename_i bs l3 h3
    split at h
    ·cases h
    ·rename_i t l4 h4
     split at h
     ·cases h
     ·rename_i is l5 h5
      split at h
      ·cases h
      ·cases h
       have hc:=oP h1;have a3:=mf h2;have a2:=qo (by simp) h2;have hb:=yS hs hc.2 a2 (by simp) h3;have ht:=fZ h4;have a4:=j8 (by simp) h4;have a1:=qE hs h5;refine⟨hc.1,hc.2,by simpa using a3,a2,?_,by simp at hb⊢;omega⟩;intro b a0;simp at a0;rcases a0 with a0|rfl
       ·exact hb.1 b a0
       ·exact⟨a1.1,a1.2.1,a1.2.2,⟨by simp at ht⊢;omega,a4⟩,Or.inl ⟨rfl,rfl⟩⟩
def WfF (cs:List Cls):Prop:= ∀(j:Nat) (c:Cls),cs[j]?=some c→0≤c.par→cj cs c.par.toNat<+:c.fields
theorem kj {cs ds:List Cls} {k:Nat} (h:k<cs.length):cj (cs++ds) k=cj cs k:=by
 simp[cj,List.getElem?_append_left h]
theorem wJ {s:ByteArray}: ∀{k:Nat} {cs:List Cls} {i:Nat} {r:List Cls} {j:Nat},WfC cs→WfF cs→di s k cs i= .ok (r,j)→WfF r:=by
 intro k
 induction k with
 |zero=>
  intro cs i r j hw hf h;unfold di at h
  split at h
  ·cases h;exact hf
  ·cases h
 |succ k ih=>
  intro cs i r j hw hf h;unfold di at h
  split at h
  ·cases h;exact hf
  ·split at h
   ·cases h
   ·rename_i p l hp
    split at h
    ·cases h
    ·rename_i own m ho
     refine ih (j9 hw hp ho) ?_ h;intro j c hj hc;rcases Nat.lt_or_ge j cs.length with hl|hl
     ·rw[List.getElem?_append_left hl]at hj;have h1:=hw j c hj;rw[kj (by omega)];exact hf j c hj hc
     ·rw[List.getElem?_append_right hl]at hj
      cases hk:j-cs.length with
      |succ q=>rw[hk]at hj;simp at hj
      |zero=>
       rw[hk]at hj;simp at hj;subst hj;simp only at hc⊢;have h1:=(oO hp).2
       have h2:p.toNat<cs.length:=by
        rcases h1 with h1| ⟨_,h1,h2⟩
        ·omega
        ·simp[aI]at h1;omega
       rw[kj h2,inh,if_neg (by omega)];exact List.prefix_append _ _
theorem pb {cs:List Cls} (hw:WfC cs) (hf:WfF cs): ∀(k:Nat) {x y:Int},x≤k→k≤4→x<cs.length→bq cs 5 x y=true→cj cs y.toNat<+:cj cs x.toNat:=by
 intro k
 induction k with
 |zero=>
  intro x y hx hk hl h;have:=sC hw 0 hx hk h;have:x=y:=by omega
  subst this;exact List.prefix_refl _
 |succ k ih=>
  intro x y hx hk hl h;have h0:=sC hw (k+1) hx hk h;rcases(d7 hw (by omega) (by omega)).1 h with h1|h1
  ·subst h1;exact List.prefix_refl _
  ·have hp:=cU hw (p:=x) (by omega)
   have a0:0≤bV cs x:=by
    rcases Int.lt_or_le (bV cs x) 0 with h'|h'
    ·rw[iP hw h']at h1;cases h1
    ·exact h'
   refine(ih (by omega) (by omega) (by omega) h1).trans ?_;obtain⟨c,hc⟩: ∃c,cs[x.toNat]?=some c:=⟨_,List.getElem?_eq_getElem (by omega)⟩;have e1:bV cs x=c.par:=by simp[bV,hc]
   have e2:cj cs x.toNat=c.fields:=by simp[cj,hc]
   rw[e1,e2];exact hf _ _ hc (by omega)
def WfL (gs:List Sig) (b:Bod):Prop:=0≤b.cls→ ∃t,b.locals=UInt8.ofNat (65+b.cls.toNat)::fW gs b.meth.toNat::t
theorem wK {s:ByteArray} {cs:List Cls} {gs:List Sig}: ∀{k:Nat} {bs:List Bod} {i:Nat} {r:List Bod} {j:Nat},(∀b∈bs,WfL gs b∧0≤b.cls)→jx s cs gs k bs i= .ok (r,j)→ ∀b∈r,WfL gs b∧0≤b.cls:=by
 intro k
 induction k with
 |zero=>
  intro bs i r j hw h;unfold jx at h
  split at h
  ·cases h;exact hw
  ·cases h
 |succ k ih=>
  intro bs i r j hw h;unfold jx at h
  split at h
  ·cases h;exact hw
  ·split at h
   ·cases h
   ·split at h
    ·cases h
    ·split at h
     ·cases h
     ·split at h
      ·cases h
      ·split at h
       ·cases h
       ·refine ih (fun b hb=> ?_) h;rcases List.mem_append.1 hb with hb|hb
        ·exact hw b hb
        ·rw[List.mem_singleton]at hb;subst hb;exact⟨fun _=>⟨_,rfl⟩,by simp⟩
structure WfE (im:Img):Prop where
 fld:WfF im.classes
 loc: ∀b∈im.bodies,WfL im.sigs b
 main: ∃bs m,im.bodies=bs++ [m]∧m.cls= -1∧ ∀b∈bs,0≤b.cls
theorem uw {s:ByteArray} {im:Img} (h:gh s= .ok im):WfE im:=by
 unfold gh at h
 split at h
 ·cases h
 ·rename_i cs l1 h1
  split at h
  ·cases h
  ·rename_i gs l2 h2
   split at h
   ·cases h
   ·rename_i bs l3 h3
    split at h
    ·cases h
    ·rename_i t l4 h4
     split at h
     ·cases h
     ·rename_i is l5 h5
      split at h
      ·cases h
      ·cases h
       have hb:=wK (fun b hb=>by simp at hb) h3;refine⟨wJ (fun j c h=>by simp at h) (fun j c h=>by simp at h) h1,fun b a0=> ?_,⟨bs,_,rfl,rfl,fun b hb'=>(hb b hb').2⟩⟩;simp at a0;rcases a0 with a0|rfl
       ·exact(hb b a0).1
       ·exact fun h=>absurd h (by simp)
theorem ux {s:ByteArray} {im:Img} (h:ep s= .ok im):WfE im∧(∀b∈im.bodies,∀x∈b.code,x.op.toNat=99→0≤cq im.classes im.bodies x.b 5 x.a):=by
 unfold ep at h
 split at h
 ·cases h
 ·split at h
  ·cases h
  ·rename_i im' hr
   split at h
   ·cases h
   ·rename_i hn
    cases h
    refine⟨uw hr,fun b hb x hx ho=> ?_⟩;rw[List.findSome?_eq_none_iff]at hn;have h1:=hn b hb;unfold unl at h1;rw[Option.map_eq_none_iff,List.find?_eq_none]at h1;have h2:=h1 x hx;simp[cw,ho]at h2;exact h2
end Sp
end Go.Proofs.YtpfkkmacakjmbaaGreatDoor
